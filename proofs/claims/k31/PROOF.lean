import PyProof.Rows.All
import Wide.All
import OpenK.AllK
import Wide.FinOn
import HandS.ForMost
import HandS.DictComp
import PyProof.Rows.TupDisplay
import HandS.Walk
import PyProof.EnumMake
import PyProof.Draws
import KE.GoesMore
import HandS.Iter
import HandS.ForExc
import HandS.Lambda
import HandS.EndTab
import HandS.TupSets
import HandS.SetFor
import HandS.Conv
import HandS.Sort
import KE.KDictCopyH
import KE.KDictWalk
import HandS.Wide
import PyProof.ListIndex
import HandS.Rev
import HandS.TryOnly
import HandS.ExcInit
import HandS.ExcField
import HandS.IsInst
import KE.KExcIs
import HandS.ReplaceLit
import PyProof.StrReplace2
import PyProof.StrOps2
import PyProof.ReprRoads
import HandS.SortKw
import KE.DataMinMax
import HandS.SortInts
import HandS.Deep
import PyProof.P3In
import PyProof.StrLawsIn
import PyProof.StrBlockL
import HandS.Dict
import PyProof.DictTruth
import HandS.Strs
import HandS.TupAny
import HandS.Zip
import KE.GoesZip
import PySem.Challenge.RW_slideyards_k31_whole_floors
import HandS.Codes
import HandS.Style
import HandS.Flow
import PyProof.EqAt
import HandS.Text
import HandS.StrMore
import PyProof.Rows.StrCut
import HandS.WordsExc
import HandS.Records
import PyProof.P3Eq
import HandS.Words
set_option Elab.async false
set_option linter.all false
set_option maxRecDepth 100000
set_option maxHeartbeats 2000000
/-! dict comprehensions whose keys are tuples -/
namespace L2
open PySem PySem.Spec PyProof.Rows
section
variable {X : Cx} {pins : List (Addr × Obj)} {σ : St} {s : Shared} {H : Hp}
/-- a pair is put into the new dict -/
theorem dT_put {D b : Addr} {kvs : List (List Key × V)} {k : List Key} {z : V} {r : Value} {Ex : Value → Shared → Prop} {Q : Unit → Shared → Prop} (hu : X.A.units + 1 < cLine) (I : Inv X pins σ H s) (at_ : H D = some (.dT kvs)) (room : kvs.length < sizeLine)
    (key : H b = some (.tup (k.map kV))) (rz : RelV z r) (fin : ∀ s1, Inv X pins σ (upd H D (.dT (putK kvs k z))) s1 → Q () s1) : wpAny (model X.prog X.w) X.A (dictSet D (.ref b) r) Q Ex s := by
  obtain ⟨l0, sys, xs, rel, dd⟩ := dt_of I.hok at_
  have l1 : xs.length ≤ sizeLine := Paired.length rel ▸ l0
  have l2 : (putK kvs k z).length ≤ sizeLine := Nat.le_trans (length_putK kvs k z) room
  refine wpAny_dictSet_heap (hsz := l1) (show X.A.units < cLine from Nat.lt_of_succ_lt hu) (key_of I.hok key) dd fun h1 dd1 sb => fin _ ?_
  obtain ⟨q, es, ep, hq, e2, e3, e4, _, e5⟩ := dd1
  exact d_write I (at_ ▸ True.intro) sb ⟨q, hq⟩ ⟨l2, sys, _, (rel.put k key rz).keeps fun c ys ec => (upd_ne (ne_of ec at_ fun z => nomatch z)).trans ec, q, es, ep, hq, e2, e3, e4, e5⟩
/-- {k: v for target in iter if ..}, the keys tuples: D is the new dict -/
def tDcT (wi : TI) (g : TG) (tt : TT) (tk tv : TE) (vs : List Nat) : TE := fun σ H Q => wi σ H fun J H1 => ∀ D, H1 D = none →
  ∃ W : Nat → Nat → Hp → Prop, (∃ m, W 0 m (upd H1 D (.dT []))) ∧ ∀ i m H, W i m H → (J.stop i H ∧ Q (.ref D) H) ∨
    (J.go i H ∧ ∃ Nx : Hp → Prop, (∀ H', Nx H' → ∃ m', m' < m ∧ W (i + 1) m' H') ∧ ∀ x H', J.yld i H x H' → g x (wipe σ vs) H' fun σ2 H2 => wipe σ2 vs = wipe σ vs ∧ tt σ2 H2 fun b H3 =>
      if b = true then tk σ2 H3 fun y H4 => tv σ2 H4 fun z H5 => ∃ (kvs : List (List Key × V)) (k : List Key) (kb : Addr), y = .ref kb ∧ H5 kb = some (.tup (k.map kV)) ∧ H5 D = some (.dT kvs) ∧ kvs.length < sizeLine ∧ Nx (upd H5 D (.dT (putK kvs k z))) else Nx H3)
theorem dcT_go {Q : VK} {kx vx tg iter : Expr} {ifs : List Expr} {scope : Scope} {own : List (Str × Nat)} {pos pos' : Pos} {wi : TI} {g : TG} {tt : TT} {tk tv : TE} {use : Option (Value → Sem Unit)} {Qf : Value → Shared → Prop} (hu : X.A.units + 1 < cLine)
    (calm : X.calm = true) (nd : X.N.Nodup) (I : Inv X pins σ H s) (walk : PI X tg iter wi) (blk : BlkOk X.N X.env.scope scope own)
    (target : ∀ (s : Shared) (H : Hp) (C : Addr) (cl : List (Str × Addr)) (fp : List Addr), PG (X.blk s H scope (compEnvC scope cl C X.env) fp) tg g)
    (tests : ∀ (s : Shared) (H : Hp) (C : Addr) (cl : List (Str × Addr)) (fp : List Addr), PTs (X.blk s H scope (compEnvC scope cl C X.env) fp) ifs tt)
    (keys : ∀ (s : Shared) (H : Hp) (C : Addr) (cl : List (Str × Addr)) (fp : List Addr), PE (X.blk s H scope (compEnvC scope cl C X.env) fp) kx tk)
    (vals : ∀ (s : Shared) (H : Hp) (C : Addr) (cl : List (Str × Addr)) (fp : List Addr), PE (X.blk s H scope (compEnvC scope cl C X.env) fp) vx tv) (same : ∀ x, foldedSetIterable iter X.env x = pure x)
    (h : tDcT wi g tt tk tv (own.map (·.2)) σ H Q)
    (post : ∀ D C s' m H', Inv X pins σ H' s' → Q (.ref D) H' → s'.heap.Ns C m → FpOk X pins H' C → compPost (model X.prog X.w) X.A X.xe use Qf (.ref D) C (.ok .next) s') :
    wpAny (model X.prog X.w) X.A (comprehension (.DictComp kx vx [⟨tg, iter, ifs, 0⟩] scope pos) scope X.env pos' newDict false (eval iter X.env) use) Qf X.xe s := by
  have cells : ∀ y ∈ scope.names, y.2 = .free → ∃ c, X.env.cells.lookup y.1 = some c := fun y hy e => (blk.free y hy e).elim (fun k => I.ok.has _ (.inl k)) fun k => I.ok.has _ (.inr k)
  refine wpAny_comprehension_free (use := use) rfl same (closure_ok cells) blk.kind (fun y hy e => by rw [blk.uniq y hy, e]) (thn (walk.run pins s σ H _ I h) fun xv s1 hx => thn hx fun itv s2 h2 => ?_)
  obtain ⟨it, fp, tn, J, H2, rfl, I2, T, st2, f2, q⟩ := h2
  refine wpAny_newObj_type (newEnv_comp (?_ : codeAny _ _ _ _ _))
  generalize eD : s2.heap.objs.size = D
  obtain ⟨W, ⟨m0, w0⟩, turn⟩ := q D (I2.hok.fresh (Nat.le_of_eq eD))
  generalize e3 : ({ s2 with heap := s2.heap.push { cls := .type "dict", data := .dict #[] } } : Shared) = s3
  have I3 : Inv X pins σ (upd H2 D (.dT [])) s3 := by
    subst e3 eD
    exact I2.laid (t' := s2.toks) (fun b o e => Heap.get?_push_of_some _ e) (Nat.le_refl _) (dt_empty s2.heap I2.big)
  have hp3 : s3.heap = s2.heap.push { cls := .type "dict", data := .dict #[] } := by rw [← e3]
  have f3 : ∀ b ∈ fp, FpOk X pins (upd H2 D (.dT [])) b ∧ b < s3.heap.objs.size := fun b hb => by
    obtain ⟨o, eo, _⟩ := T.obj _ _ st2 b hb
    have lt := Heap.lt_size eo
    exact ⟨⟨by rw [upd_ne (eD ▸ Nat.ne_of_lt lt)]; exact (f2 b hb).1, (f2 b hb).2⟩, by rw [hp3, Heap.size_push]; exact Nat.lt_succ_of_lt lt⟩
  have st3 : tn 0 s3.heap := T.keep _ _ _ st2 fun b _ o e => hp3 ▸ Heap.get?_push_of_some _ e
  have I4 := block_start I3 blk nd f3
  have pg := target s3 (upd H2 D (.dT [])) s3.heap.objs.size (cellsFrom (s3.heap.objs.size + 1) scope.names (cloFrom X.env.cells scope.names [])) fp
  have pt := tests s3 (upd H2 D (.dT [])) s3.heap.objs.size (cellsFrom (s3.heap.objs.size + 1) scope.names (cloFrom X.env.cells scope.names [])) fp
  have pk := keys s3 (upd H2 D (.dT [])) s3.heap.objs.size (cellsFrom (s3.heap.objs.size + 1) scope.names (cloFrom X.env.cells scope.names [])) fp
  have pz := vals s3 (upd H2 D (.dT [])) s3.heap.objs.size (cellsFrom (s3.heap.objs.size + 1) scope.names (cloFrom X.env.cells scope.names [])) fp
  show codeAny _ _ (.compStart (.DictComp kx vx [⟨tg, iter, ifs, 0⟩] scope pos) 0 (.ref it) (.ref D) (compEnvC scope (cellsFrom (s3.heap.objs.size + 1) scope.names (cloFrom X.env.cells scope.names [])) s3.heap.objs.size X.env))
    (compPost (model X.prog X.w) X.A X.xe use Qf (.ref D) s3.heap.objs.size) { s3 with heap := pushCells (s3.heap.push { cls := .type "dict", data := .dict #[] }) scope.names }
  have free3 : ∀ b ∈ fp, (upd H2 D (.dT [])) b = none := fun b hb => (f3 b hb).1.1
  generalize ec : compEnvC scope (cellsFrom (s3.heap.objs.size + 1) scope.names (cloFrom X.env.cells scope.names [])) s3.heap.objs.size X.env = ce at I4 pg pt pk pz ⊢
  have locs : ce.locals = s3.heap.objs.size := ec ▸ rfl
  generalize upd H2 D (.dT []) = H3 at I3 I4 pg pt pk pz w0 free3 f3
  generalize e4 : ({ s3 with heap := pushCells (s3.heap.push { cls := .type "dict", data := .dict #[] }) scope.names } : Shared) = s4 at I4 ⊢
  have st4 : tn 0 s4.heap := T.keep _ _ _ st3 fun b _ o e => e4 ▸ pushCells_keeps _ _ _ _ (Heap.get?_push_of_some _ e)
  have foot : ∀ {σ' : St} {H' : Hp} {s' : Shared}, Inv (X.blk s3 H3 scope ce fp) [] σ' H' s' → (∀ b ∈ fp, H' b = none) → ∀ b ∈ fp, FpOk (X.blk s3 H3 scope ce fp) [] H' b := fun {σ' H' s'} I' n b hb =>
    ⟨n b hb, (I'.ok.exf b hb).1, I'.ok.exfs b hb, .inl hb, fun x c e => (I'.ok.exf b hb).2 x c e, fun p hp => absurd (show p ∈ ([] : List (Addr × Obj)) ++ [] from hp) (by simp)⟩
  refine codeAny_compStart_dict ?_ (T.self X.A 0 _ _ _ st4 ?_)
  all_goals
    refine compLoop_anyD (fun n s' => ∃ i H', Inv (X.blk s3 H3 scope ce fp) [] (wipe σ (own.map (·.2))) H' s' ∧ tn i s'.heap ∧ (∀ b ∈ fp, H' b = none) ∧ W i n H') ?_ m0 ⟨0, H3, I4, st4, free3, w0⟩
    rintro n s5 ⟨i, H5, I5, st5, n5, w5⟩
    rcases turn i n H5 w5 with ⟨stop, qq⟩ | ⟨go, Nx, next, body⟩
    · refine thnF (T.done (X.blk s3 H3 scope ce fp) rfl rfl rfl calm i [] s5 _ H5 (fun _ _ => False) I5 (foot I5 n5) st5 stop) fun r s6 hr6 => ?_
      obtain ⟨rfl, I6⟩ := hr6
      have back : Inv X pins σ H5 s6 := I3.call' (ch := fp) I6.os I6.base I6.hok I6.bare fun b hb => ⟨(f3 b hb).1.2.2.2.1, (f3 b hb).1.2.1, (f3 b hb).1.2.2.2.2.1, (f3 b hb).1.2.2.2.2.2⟩
      obtain ⟨m, hm, _⟩ := I6.loc
      exact post D s3.heap.objs.size s6 m H5 back qq (locs ▸ (show s6.heap.Ns ce.locals m from hm)) (I3.fpOk (Nat.le_refl _) (locs ▸ (show H5 ce.locals = none from I6.free)))
    · refine thnF (T.item (X.blk s3 H3 scope ce fp) rfl rfl rfl calm i [] s5 _ H5 (fun _ _ => False) I5 (foot I5 n5) st5 go) fun r s6 hr6 => ?_
      obtain ⟨u, rfl, h6⟩ := hr6
      refine thnF h6 fun _ s7 ⟨x, H7, I7, r7, y7, st7, n7⟩ => ?_
      refine thnF (pg.run _ s7 _ H7 x u _ (I7.pinned (foot I7 n7) (T.obj _ _ st7)) r7 (body x H7 y7)) fun _ s8 ⟨σ8, H8, I8, hw8, q8⟩ => ?_
      refine thnF (pt.run _ s8 σ8 H8 _ I8 q8) fun b s9 ⟨H9, I9, q9⟩ => ?_
      have over : ∀ {s' : Shared} {H' : Hp}, Inv (X.blk s3 H3 scope ce fp) ([] ++ pinsAt fp s7.heap) σ8 H' s' → Nx H' →
          ∃ m, m < n ∧ ∃ i H', Inv (X.blk s3 H3 scope ce fp) [] (wipe σ (own.map (·.2))) H' s' ∧ tn i s'.heap ∧ (∀ b ∈ fp, H' b = none) ∧ W i m H' := fun {s' H'} I' nx => by
        obtain ⟨m', lt, w'⟩ := next H' nx
        have pin : ∀ b ∈ fp, ∀ o, s7.heap.get? b = some o → s'.heap.get? b = some o ∧ H' b = none := fun b hb o e => (I'.pin (b, o) (List.mem_append_right _ (List.mem_append_right _ (mem_pinsAt hb e)))).imp id And.left
        refine ⟨m', lt, i + 1, H', (I'.unpinned (pins := [])).weak (by rw [← hw8, wipe_length]) (fun j v e => (wipe_some (hw8 ▸ e)).1), T.keep _ _ _ st7 fun b hb o e => (pin b hb o e).1, fun b hb => ?_, w'⟩
        obtain ⟨o, e, _⟩ := T.obj _ _ st7 b hb
        exact (pin b hb o e).2
      cases b with
      | false => exact over I9 q9
      | true =>
        refine thnF (pk.run _ s9 σ8 H9 _ I9 q9) fun z s10 ⟨yk, H10, I10, r10, q10⟩ => ?_
        refine thnF (pz.run _ s10 σ8 H10 _ I10 q10) fun z2 s11 ⟨yv, H11, I11, r11, kvs, k, kb, ek, key, at_, room, nx⟩ => ?_
        subst ek
        cases (show z = Value.ref kb from r10)
        exact dT_put (X := X.blk s3 H3 scope ce fp) hu I11 at_ room key r11 fun s12 I12 => over I12 nx
/-- as a value -/
theorem pe_dcT {kx vx tg iter : Expr} {ifs : List Expr} {scope : Scope} {own : List (Str × Nat)} {pos : Pos} {wi : TI} {g : TG} {tt : TT} {tk tv : TE} (hu : X.A.units + 1 < cLine) (calm : X.calm = true) (nd : X.N.Nodup) (walk : PI X tg iter wi) (blk : BlkOk X.N X.env.scope scope own)
    (target : ∀ (s : Shared) (H : Hp) (C : Addr) (cl : List (Str × Addr)) (fp : List Addr), PG (X.blk s H scope (compEnvC scope cl C X.env) fp) tg g)
    (tests : ∀ (s : Shared) (H : Hp) (C : Addr) (cl : List (Str × Addr)) (fp : List Addr), PTs (X.blk s H scope (compEnvC scope cl C X.env) fp) ifs tt)
    (keys : ∀ (s : Shared) (H : Hp) (C : Addr) (cl : List (Str × Addr)) (fp : List Addr), PE (X.blk s H scope (compEnvC scope cl C X.env) fp) kx tk)
    (vals : ∀ (s : Shared) (H : Hp) (C : Addr) (cl : List (Str × Addr)) (fp : List Addr), PE (X.blk s H scope (compEnvC scope cl C X.env) fp) vx tv) (same : ∀ x, foldedSetIterable iter X.env x = pure x := by intro _; rfl) :
    PE X (.DictComp kx vx [⟨tg, iter, ifs, 0⟩] scope pos) (tDcT wi g tt tk tv (own.map (·.2))) :=
  ⟨fun pins s σ H Q I h => by
    rw [arm_eval_DictComp]
    exact dcT_go hu calm nd I walk blk target tests keys vals same h fun D C s' m H' I' q hn ⟨f0, f1, f2, f3, f4, f5⟩ => ⟨m, hn, fun h'' sb => ⟨.ref D, H', I'.turned (t' := s'.toks) (fun b o hb e => (sb.2 b hb).trans e) f0 f1 f3 f4 f5, rfl, q⟩⟩⟩
/-- x = {..}: the new dict is bound before the block's frame goes -/
theorem ps_setDcT {i : Nat} {y : Str} {py : Pos} {kx vx tg iter : Expr} {ifs : List Expr} {scope : Scope} {own : List (Str × Nat)} {pos spos : Pos} {wi : TI} {g : TG} {tt : TT} {tk tv : TE} (hu : X.A.units + 1 < cLine) (calm : X.calm = true) (nd : X.N.Nodup) (at_ : X.N[i]? = some y) (loc : X.env.scope.names.lookup y = some .local)
    (swap : swapsWith (.DictComp kx vx [⟨tg, iter, ifs, 0⟩] scope pos) (some (.Name y py)) spos.line X.env = pure true) (walk : PI X tg iter wi) (blk : BlkOk X.N X.env.scope scope own)
    (target : ∀ (s : Shared) (H : Hp) (C : Addr) (cl : List (Str × Addr)) (fp : List Addr), PG (X.blk s H scope (compEnvC scope cl C X.env) fp) tg g)
    (tests : ∀ (s : Shared) (H : Hp) (C : Addr) (cl : List (Str × Addr)) (fp : List Addr), PTs (X.blk s H scope (compEnvC scope cl C X.env) fp) ifs tt)
    (keys : ∀ (s : Shared) (H : Hp) (C : Addr) (cl : List (Str × Addr)) (fp : List Addr), PE (X.blk s H scope (compEnvC scope cl C X.env) fp) kx tk)
    (vals : ∀ (s : Shared) (H : Hp) (C : Addr) (cl : List (Str × Addr)) (fp : List Addr), PE (X.blk s H scope (compEnvC scope cl C X.env) fp) vx tv) (same : ∀ x, foldedSetIterable iter X.env x = pure x := by intro _; rfl) :
    PS X (.Assign [.Name y py] (.DictComp kx vx [⟨tg, iter, ifs, 0⟩] scope pos) spos) (tAsg (tDcT wi g tt tk tv (own.map (·.2))) (gName i)) := by
  refine ⟨fun pins s σ H D I h => ?_⟩
  rw [exec_Assign_Name_used _ _ _ _ swap]
  have h : tDcT wi g tt tk tv (own.map (·.2)) σ H (fun x H1 => gName i x σ H1 D.nx) := h
  have go := dcT_go (pos := pos) (pos' := firstIterPos [⟨tg, iter, ifs, 0⟩] pos) (use := some (assign (.Name y py) X.env)) (Qf := fun _ s' => SP X pins D .next s') hu calm nd I walk blk target tests keys vals same h fun L C s' m H' I' q hn ⟨f0, f1, f2, f3, f4, f5⟩ =>
    show wpAny _ _ (assign (.Name y py) X.env (.ref L)) _ _ _ from wpAny_assign_Name (store_ok2 (v := V.ref L) I' nd at_ (.inl loc) rfl (fun s2 I2 ⟨a, sb, ha⟩ => ⟨m, hn.sameBut sb (ha.elim (fun z => z ▸ f1) fun z e => f4 y a z e.symm), fun h3 sb3 =>
      ⟨_, H', I2.turned (t' := s2.toks) (fun b o hb e => (sb3.2 b hb).trans e) f0 f1 f3 f4 f5, q⟩⟩) (.inr loc))
  exact wpAny_bind (wpAny_standAt (wpAny_bind (wpAny_bind (thn go fun _ s' hq => wpAny_pure (wpAny_pure hq)))))
theorem sw_dict {kx vx : Expr} {gs : List Comprehension} {scope : Scope} {pos py : Pos} {y : Str} {l : Nat} {env : Env} (kind : env.scope.kind = .function) (loc : env.scope.names.lookup y = some .local) (line : (py.line == pos.line) = true)
    (off : (scope.names.any fun (n, k) => n == y && (k == .local || k == .cell)) = false) : swapsWith (.DictComp kx vx gs scope pos) (some (.Name y py)) l env = pure true := by
  have e1 : env.kindOf y = some .local := loc
  have e2 : env.blockKind = .function := by rw [Env.blockKind, kind]; rfl
  simp only [swapsWith, e2, e1, off, Expr.pos, line]
  rfl
/-- {k: v}, the key a tuple -/
def tDisp1T (tk tv : TE) : TE := fun σ H Q => ∀ p, H p = none → tk σ (upd H p (.dT [])) fun y H1 => tv σ H1 fun z H2 => ∃ (kb : Addr) (ks : List Key), y = .ref kb ∧ H2 kb = some (.tup (ks.map kV)) ∧ H2 p = some (.dT []) ∧ Q (.ref p) (upd H2 p (.dT [(ks, z)]))
theorem pe_disp1T {k v : Expr} {pos : Pos} {tk tv : TE} (hu : X.A.units + 1 < cLine) (hk : PE X k tk) (hv : PE X v tv) : PE X (.Dict [some k] [v] pos) (tDisp1T tk tv) := by
  refine ⟨fun pins s σ H Q I h => wpAny_Dict_any rfl rfl (by simp) (by show 1 ≤ 15; decide) ?_⟩
  have new := I.hok.fresh (Nat.le_refl s.heap.objs.size)
  have I1 := I.laid (a := s.heap.objs.size) (o := .dT []) (h' := s.heap.push { cls := .type "dict", data := .dict #[] }) (t' := s.toks) (fun _ _ q => Heap.get?_push_of_some _ q) (Nat.le_refl _) (dt_empty s.heap I.big)
  refine pairTrees_cons_walk (thn (hk.run pins _ σ _ _ I1 (h _ new)) fun u s1 ⟨y, H1, I2, ry, q1⟩ => thn (hv.run pins s1 σ H1 _ I2 q1) fun w2 s2 ⟨z, H2, I3, rz, kb, ks, ey, key, at_, q2⟩ => pairTrees_nil_walk ?_)
  subst ey
  cases (show u = Value.ref kb from ry)
  unfold storeAll
  rw [List.forIn_cons]
  exact wpAny_bind (wpAny_bind (dT_put hu I3 at_ (by decide) key rz fun s3 I4 => wpAny_pure (wpAny_pure ⟨.ref _, _, I4, rfl, q2⟩)))
/-- over any walk -/
theorem dcT_it {J : It} {n : Nat} {G : Hp → Prop} {Y : Nat → Hp → V → Hp → Prop} (w : Walk J n G Y) {g : TG} {tt : TT} {tk tv : TE} {vs : List Nat} {σ : St} {H1 : Hp} {D : Addr} {Qd : Hp → Prop} (Pv : Nat → Hp → Prop) (h0 : Pv 0 (upd H1 D (.dT []))) (hG : ∀ i H, i ≤ n → Pv i H → G H)
    (hs : ∀ i x H H', i < n → Pv i H → Y i H x H' → g x (wipe σ vs) H' fun σ2 H2 => wipe σ2 vs = wipe σ vs ∧ tt σ2 H2 fun b H3 =>
      if b = true then tk σ2 H3 fun y H4 => tv σ2 H4 fun z H5 => ∃ (kvs : List (List Key × V)) (k : List Key) (kb : Addr), y = .ref kb ∧ H5 kb = some (.tup (k.map kV)) ∧ H5 D = some (.dT kvs) ∧ kvs.length < sizeLine ∧ Pv (i + 1) (upd H5 D (.dT (putK kvs k z))) else Pv (i + 1) H3)
    (hd : ∀ H, Pv n H → Qd H) : ∃ W : Nat → Nat → Hp → Prop, (∃ m, W 0 m (upd H1 D (.dT []))) ∧ ∀ i m H, W i m H → (J.stop i H ∧ Qd H) ∨
      (J.go i H ∧ ∃ Nx : Hp → Prop, (∀ H', Nx H' → ∃ m', m' < m ∧ W (i + 1) m' H') ∧ ∀ x H', J.yld i H x H' → g x (wipe σ vs) H' fun σ2 H2 => wipe σ2 vs = wipe σ vs ∧ tt σ2 H2 fun b H3 =>
        if b = true then tk σ2 H3 fun y H4 => tv σ2 H4 fun z H5 => ∃ (kvs : List (List Key × V)) (k : List Key) (kb : Addr), y = .ref kb ∧ H5 kb = some (.tup (k.map kV)) ∧ H5 D = some (.dT kvs) ∧ kvs.length < sizeLine ∧ Nx (upd H5 D (.dT (putK kvs k z))) else Nx H3) := by
  refine ⟨fun i m H => m + i = n ∧ Pv i H, ⟨n, rfl, h0⟩, fun i m H ⟨e, p⟩ => ?_⟩
  cases m with
  | zero =>
    obtain rfl : i = n := by omega
    exact .inl ⟨w.stops H (hG i H (Nat.le_refl i) p), hd H p⟩
  | succ m =>
    have lt : i < n := by omega
    have g1 := hG i H (Nat.le_of_lt lt) p
    exact .inr ⟨w.goes i H lt g1, Pv (i + 1), fun H' p' => ⟨m, Nat.lt_succ_self m, by omega, p'⟩, fun x H' y => hs i x H H' lt p (w.yields i H x H' lt g1 y)⟩
end
end L2
set_option Elab.async false
set_option linter.all false
set_option maxRecDepth 100000
set_option maxHeartbeats 2000000
namespace PySem
open Sem (wp)
open AutoSeq1 (wpAny_loadPart')
theorem meets_enumerate_newA (x : Str) (u : Tok) (hx : x.cps.all (· < 128) = true) :
    Meets (Builtin.«enumerate.__new__» ⟨[.type "enumerate", .str x u], []⟩) (fun _ R s =>
      R (.ok (.ret (.ref (s.heap.push { cls := .type "str_ascii_iterator", data := .fields #[.str x u, .int 0 0] }).objs.size)))
        { s with heap := (s.heap.push { cls := .type "str_ascii_iterator", data := .fields #[.str x u, .int 0 0] }).push { cls := .type "enumerate", data := .fields #[.none, .bool false, .ref s.heap.objs.size, rawInt 0, .none, .none] } }) :=
  .of_wp fun prog w A R s h => by
    obtain ⟨hp, g, d, tk, os⟩ := s
    have hsub := sub_enumerate
    wp_walk
    refine wpAny_stack_any fun st => wpAny_pure ?_
    split
    · rename_i c _ _ _ _ _
      cases (c == Value.type "enumerate")
      · wp_walk using wpAny_pyIter_ascii hx
        exact ⟨_, rfl, h⟩
      · wp_walk using wpAny_pyIter_ascii hx
        exact ⟨_, rfl, h⟩
    · wp_walk using wpAny_pyIter_ascii hx
      exact ⟨_, rfl, h⟩
section
variable {prog : Program} {w : World} {A : Around} {E : Value → Shared → Prop} {s : Shared}
theorem call_enumerate_ascii {x : Str} {u : Tok} {Q : Value → Shared → Prop} (hx : x.cps.all (· < 128) = true)
    (h : ∀ h', IsEnum h' (s.heap.objs.size + 1) s.heap.objs.size 0 .none → h'.IsStrIter s.heap.objs.size "str_ascii_iterator" x u 0 → h'.objs.size = s.heap.objs.size + 2 →
      (∀ b o, s.heap.get? b = some o → h'.get? b = some o) → Q (.ref (s.heap.objs.size + 1)) { s with heap := h' }) :
    wpAny (model prog w) A (call (.type "enumerate") [.str x u]) Q E s := by
  refine callType_new F.called_enumerate (by decide) (F.typeCall_enumerate_1 _) (F.newCall_enumerate_1 _) (fun obj => F.args_object_init_2 obj _) F.entry_enumerate_new
    (meets_enumerate_newA x u hx) ?_
  have hz : (s.heap.push { cls := .type "str_ascii_iterator", data := .fields #[.str x u, .int 0 0] }).objs.size = s.heap.objs.size + 1 := Heap.size_push ..
  show _ ∧ _
  rw [hz]
  have he : IsEnum ((s.heap.push { cls := .type "str_ascii_iterator", data := .fields #[.str x u, .int 0 0] }).push
      { cls := .type "enumerate", data := .fields #[.none, .bool false, .ref s.heap.objs.size, rawInt 0, .none, .none] }) (s.heap.objs.size + 1) s.heap.objs.size 0 .none := by
    have := Heap.get?_push_size (s.heap.push { cls := .type "str_ascii_iterator", data := .fields #[.str x u, .int 0 0] })
      (o := { cls := .type "enumerate", data := .fields #[.none, .bool false, .ref s.heap.objs.size, rawInt 0, .none, .none] }) rfl
    rw [hz] at this; exact this
  refine ⟨⟨_, he, rfl⟩, h _ he ⟨_, Heap.get?_push_of_some _ (Heap.get?_push_size _ rfl), rfl, rfl⟩ (by rw [Heap.size_push, hz]) fun b o x => Heap.get?_push_of_some _ (Heap.get?_push_of_some _ x)⟩
end
end PySem
namespace L2
open PySem PySem.Spec PyProof.Rows
/-- an ascii text, each sign in a new pair -/
def IteA (z : Str) : It :=
  ⟨fun i H => i < z.cps.size, fun i H v H' => ∃ T c, v = .ref T ∧ H T = none ∧ z.cps[i]? = some c ∧ H' = upd H T (.tup [.int (i : Nat), .str ⟨#[c]⟩]), fun i H => z.cps.size ≤ i⟩
theorem turn_enumA {P : Program} {w : World} {K : PySem.W.Frag} {elts : List Expr} {kk : Nat} {tpos : Pos} (z : Str) (u : Tok) (e it : Addr) :
    Turn P w K (.Tuple elts kk tpos) (IteA z) [e, it] e (fun i h => (∃ old, IsEnum h e it ((i : Nat) : Int) old) ∧ h.IsStrIter it "str_ascii_iterator" z u i ∧ e ≠ it ∧ i ≤ z.cps.size) where
  mem := by simp
  obj := fun i h st b hb => by
    obtain ⟨⟨old, he⟩, ⟨o, ho, hc, hd⟩, _⟩ := st
    rcases (show b = e ∨ b = it by simpa using hb) with y | y
    · rw [y]; exact ⟨_, he, fun v q => nomatch q⟩
    · rw [y]; exact ⟨o, ho, fun v q => by rw [hd] at q; cases q⟩
  keep := fun i h h' st k => let ⟨⟨old, he⟩, ⟨o, ho, hr⟩, hne⟩ := st; ⟨⟨old, k e (by simp) _ he⟩, ⟨o, k it (by simp) _ ho, hr⟩, hne⟩
  item := by
    intro X hP hw hK hc i pins s σ H E I hf st hg
    subst hP hw hK
    obtain ⟨⟨old, he⟩, hit, hne, hle⟩ := st
    have hel : e < s.heap.objs.size := Heap.lt_size he
    have hil : it < s.heap.objs.size := by obtain ⟨_, q, _⟩ := hit; exact Heap.lt_size q
    refine wpAny_pyNext_enum_itemD (Draws.strAscii (A := X.A.in1) (I.ok.hd hc) it z u) he hit hg hne (by simp [hne]) fun v h' tk hv ho hst hT hsz hk => ?_
    obtain ⟨c, w', hcx, rfl⟩ := hv
    refine ⟨_, rfl, wpAny_letOwnedTupleGo_enum (s := { s with heap := h', toks := tk + 1 }) ho fun h'' he' sb => ?_⟩
    have hT2 : h''.get? s.heap.objs.size = some { cls := .type "tuple", data := .seq #[.int i tk, .str ⟨#[c]⟩ w'] } := (sb.2 _ (Nat.ne_of_gt hel)).trans hT
    have new : ObjOk X.prog X.w (upd H s.heap.objs.size (.tup [.int (i : Nat), .str ⟨#[c]⟩])) h'' s.heap.objs.size (.tup [.int (i : Nat), .str ⟨#[c]⟩]) :=
      ⟨by show 2 ≤ sizeLine; decide, [.int i tk, .str ⟨#[c]⟩ w'], .cons ⟨_, rfl⟩ (.cons ⟨_, rfl⟩ .nil), ⟨_, hT2, rfl, _, rfl⟩⟩
    have I1 : Inv X pins σ (upd H s.heap.objs.size (.tup [.int (i : Nat), .str ⟨#[c]⟩])) { s with heap := h'', toks := tk + 1 } :=
      I.turnedNew (ch := [e, it]) (fun b ob hb q => (sb.2 b (fun y => hb (by simp [y]))).trans (hk b ob (fun y => hb (by simp [y])) (fun y => hb (by simp [y])) q)) hf (Nat.le_refl _) new
    refine ⟨.ref s.heap.objs.size, _, I1, rfl, ⟨_, c, rfl, I.hok.fresh (Nat.le_refl _), hcx, rfl⟩, ⟨⟨.str ⟨#[c]⟩ w', ?_⟩, ?_, hne, hg⟩, fun b hb => ?_⟩
    · rw [show ((i + 1 : Nat) : Int) = (i : Int) + 1 by omega]
      exact he'
    · obtain ⟨o, ho2, hr⟩ := hst
      exact ⟨o, (sb.2 it (Ne.symm hne)).trans ho2, hr⟩
    · have hb' : b < s.heap.objs.size := by
        rcases (show b = e ∨ b = it by simpa using hb) with y | y
        · rw [y]; exact hel
        · rw [y]; exact hil
      rw [upd_ne (Nat.ne_of_lt hb')]
      exact (hf b hb).1
  done := by
    intro X hP hw hK hc i pins s σ H E I hf st hg
    subst hP hw hK
    obtain ⟨⟨old, he⟩, hit, hne, hle⟩ := st
    obtain ⟨f0, f1, f2, f3, f4, f5⟩ := hf it (by simp)
    obtain rfl : i = z.cps.size := Nat.le_antisymm hle hg
    exact wpAny_pyNext_enum_endD (Draws.strAscii (A := X.A.in1) (I.ok.hd hc) it z u) he hit fun h' eb => ⟨rfl, I.turned (t' := s.toks) (fun b o hb q => eb b o hb q) f0 f1 f3 f4 f5⟩
  self := fun A i s Q E st h => let ⟨⟨_, he⟩, _⟩ := st; wpAny_pyIter_enum he h
def iEnumA (te : TE) : TI := fun σ H R => te σ H fun v H1 => ∃ z : Str, v = .str z ∧ z.cps.all (· < 128) = true ∧ R (IteA z) H1
theorem pi_enumA {X : Cx} {e : Expr} {te : TE} {p pos tpos : Pos} {elts : List Expr} {kk : Nat} (hg : Gl X "enumerate") (hm : X.mg "enumerate" = none) (he : PE X e te) (hs : starEach [e] X.env = (false, eval e X.env) :: starEach [] X.env := by rfl) :
    PI X (.Tuple elts kk tpos) (.Call (.Name "enumerate" p) [e] [] pos) (iEnumA te) := by
  refine ⟨fun pins s σ H R I h => ?_⟩
  refine Call_ (ld_blt I hg hm boot_enumerate (PyProof.Rows.callWith_type1 (args_cons (thn (he.run pins s σ H _ I h) fun v s1 ⟨x, H1, I1, r1, q1⟩ => args_nil ?_) hs) hs rfl))
  obtain ⟨z, ex, ha, q⟩ := q1
  subst ex
  obtain ⟨u, rfl⟩ := r1
  refine call_enumerate_ascii ha fun h' he hit hsz hk => wpAny_pyIter_enum he ?_
  have I2 : Inv X pins σ H1 { s1 with heap := h' } := I1.kept (t' := s1.toks) hk
  refine ⟨s1.heap.objs.size + 1, [s1.heap.objs.size + 1, s1.heap.objs.size], _, _, H1, rfl, I2, turn_enumA z u (s1.heap.objs.size + 1) s1.heap.objs.size, ⟨⟨.none, he⟩, hit, Nat.succ_ne_self _, Nat.zero_le _⟩, fun b hb => ?_, q⟩
  have hle : s1.heap.objs.size ≤ b := by
    rcases (show b = s1.heap.objs.size + 1 ∨ b = s1.heap.objs.size by simpa using hb) with y | y
    · rw [y]; exact Nat.le_add_right _ _
    · rw [y]; exact Nat.le_refl _
  exact I1.fpOk hle (I1.hok.fresh hle)
theorem walk_enumA {z : Str} : Walk (IteA z) z.cps.size (fun _ => True) (fun i H v H' => ∃ T c, v = .ref T ∧ H T = none ∧ z.cps[i]? = some c ∧ H' = upd H T (.tup [.int (i : Nat), .str ⟨#[c]⟩])) :=
  ⟨fun _ _ hi _ => hi, fun _ _ => Nat.le_refl _, fun _ _ _ _ _ _ y => y⟩
end L2
set_option Elab.async false
set_option linter.all false
set_option maxRecDepth 100000
set_option maxHeartbeats 2000000
namespace PySem
open Sem (wp)
open AutoSeq1 (wpAny_loadPart')
theorem meets_enumerate_newT (l : Addr) (items : Array Value) (n : Nat) (dct : Option Addr) (sl : Array (Option Value)) :
    Meets (Builtin.«enumerate.__new__» ⟨[.type "enumerate", .ref l], []⟩) (fun _ R s => s.heap.get? l = some { cls := .type "tuple", dict := dct, data := .seq items n, slots := sl } ∧
      R (.ok (.ret (.ref (s.heap.push { cls := .type "tuple_iterator", data := .fields #[.ref l, .int 0 0] }).objs.size)))
        { s with heap := (s.heap.push { cls := .type "tuple_iterator", data := .fields #[.ref l, .int 0 0] }).push { cls := .type "enumerate", data := .fields #[.none, .bool false, .ref s.heap.objs.size, rawInt 0, .none, .none] } }) :=
  .of_wp fun prog w A R s h => by
    obtain ⟨hp, g, d, tk, os⟩ := s; obtain ⟨hl, h⟩ := h
    have hsub := sub_enumerate
    have hL : Heap.IsTuple (Shared.heap ⟨hp, g, d, tk, os⟩) l items := ⟨_, hl, rfl, n, rfl⟩
    wp_walk using wpAny_loadPart' hl
    refine wpAny_stack_any fun st => wpAny_pure ?_
    split
    · rename_i c _ _ _ _ _
      cases (c == Value.type "enumerate")
      · wp_walk using wpAny_loadPart' hl, wpAny_pyIter_tuple hL
        exact ⟨_, rfl, h⟩
      · wp_walk using wpAny_loadPart' hl, wpAny_pyIter_tuple hL
        exact ⟨_, rfl, h⟩
    · wp_walk using wpAny_loadPart' hl, wpAny_pyIter_tuple hL
      exact ⟨_, rfl, h⟩
section
variable {prog : Program} {w : World} {A : Around} {E : Value → Shared → Prop} {s : Shared}
theorem call_enumerate_tuple {l : Addr} {items : Array Value} {Q : Value → Shared → Prop} (hL : s.heap.IsTuple l items)
    (h : ∀ h', IsEnum h' (s.heap.objs.size + 1) s.heap.objs.size 0 .none → h'.IsTupleIter s.heap.objs.size l 0 → h'.objs.size = s.heap.objs.size + 2 →
      (∀ b o, s.heap.get? b = some o → h'.get? b = some o) → Q (.ref (s.heap.objs.size + 1)) { s with heap := h' }) :
    wpAny (model prog w) A (call (.type "enumerate") [.ref l]) Q E s := by
  obtain ⟨⟨c, dct, dt, sl⟩, hl, hc, n, hd⟩ := hL
  replace hc : c = .type "tuple" := hc
  replace hd : dt = .seq items n := hd
  subst hc hd
  refine callType_new F.called_enumerate (by decide) (F.typeCall_enumerate_1 _) (F.newCall_enumerate_1 _) (fun obj => F.args_object_init_2 obj _) F.entry_enumerate_new
    (meets_enumerate_newT l items n dct sl) ⟨hl, ?_⟩
  have hz : (s.heap.push { cls := .type "tuple_iterator", data := .fields #[.ref l, .int 0 0] }).objs.size = s.heap.objs.size + 1 := Heap.size_push ..
  show _ ∧ _
  rw [hz]
  have he : IsEnum ((s.heap.push { cls := .type "tuple_iterator", data := .fields #[.ref l, .int 0 0] }).push
      { cls := .type "enumerate", data := .fields #[.none, .bool false, .ref s.heap.objs.size, rawInt 0, .none, .none] }) (s.heap.objs.size + 1) s.heap.objs.size 0 .none := by
    have := Heap.get?_push_size (s.heap.push { cls := .type "tuple_iterator", data := .fields #[.ref l, .int 0 0] })
      (o := { cls := .type "enumerate", data := .fields #[.none, .bool false, .ref s.heap.objs.size, rawInt 0, .none, .none] }) rfl
    rw [hz] at this; exact this
  refine ⟨⟨_, he, rfl⟩, h _ he ⟨_, Heap.get?_push_of_some _ (Heap.get?_push_size _ rfl), rfl, rfl⟩ (by rw [Heap.size_push, hz]) fun b o x => Heap.get?_push_of_some _ (Heap.get?_push_of_some _ x)⟩
end
end PySem
namespace L2
open PySem PySem.Spec PyProof.Rows
/-- the tuple at a, each item in a new pair -/
def IteT (K : PySem.W.Frag) (a : Addr) : It :=
  ⟨fun i H => ∃ (xs : List V) (x : V), SqT K H a xs ∧ xs[i]? = some x, fun i H v H' => ∃ T x, v = .ref T ∧ H T = none ∧ H' = upd H T (.tup [.int (i : Nat), x]) ∧ ∀ xs, SqT K H a xs → xs[i]? = some x, fun i H => ∃ xs : List V, SqT K H a xs ∧ xs.length = i⟩
theorem turn_enumT {P : Program} {w : World} {K : PySem.W.Frag} {elts : List Expr} {kk : Nat} {tpos : Pos} (a e it : Addr) :
    Turn P w K (.Tuple elts kk tpos) (IteT K a) [e, it] e (fun i h => (∃ old, IsEnum h e it ((i : Nat) : Int) old) ∧ h.IsTupleIter it a i ∧ e ≠ it ∧ a ≠ it ∧ a ≠ e) where
  mem := by simp
  obj := fun i h st b hb => by
    obtain ⟨⟨old, he⟩, ⟨o, ho, hc, hd⟩, _⟩ := st
    have e' : b = e ∨ b = it := by simpa using hb
    rcases e' with z | z
    · rw [z]; exact ⟨_, he, fun v q => nomatch q⟩
    · rw [z]; exact ⟨o, ho, fun v q => by rw [hd] at q; cases q⟩
  keep := fun i h h' st k => let ⟨⟨old, he⟩, ⟨o, ho, hr⟩, hne⟩ := st; ⟨⟨old, k e (by simp) _ he⟩, ⟨o, k it (by simp) _ ho, hr⟩, hne⟩
  item := by
    intro X hP hw hK hc i pins s σ H E I hf st hg
    subst hP hw hK
    obtain ⟨⟨old, he⟩, hit, hne, hai, hae⟩ := st
    obtain ⟨xs, x, hq, hx⟩ := hg
    obtain ⟨its, rv, p, hz⟩ := I.tuple hq
    obtain ⟨u, hu, ru⟩ := rv.get hx
    have hel : e < s.heap.objs.size := Heap.lt_size he
    have hil : it < s.heap.objs.size := by obtain ⟨_, q, _⟩ := hit; exact Heap.lt_size q
    have hu' : its.toArray[i]? = some u := by simpa using hu
    have hlt : i < its.toArray.size := by
      rcases Nat.lt_or_ge i its.toArray.size with h | h
      · exact h
      · rw [Array.getElem?_eq_none h] at hu'; cases hu'
    refine wpAny_pyNext_enum_itemD (Draws.tuple (A := X.A.in1) (I.ok.hd hc) it a hai its.toArray) he ⟨hit, p⟩ hlt hne (by simp [hne, Ne.symm hae]) fun v h' tk hv ho hst hT hsz hk => ?_
    obtain rfl : v = u := by
      rw [hu'] at hv
      exact (Option.some.inj hv).symm
    refine ⟨_, rfl, wpAny_letOwnedTupleGo_enum (s := { s with heap := h', toks := tk + 1 }) ho fun h'' he' sb => ?_⟩
    have hT2 : h''.get? s.heap.objs.size = some { cls := .type "tuple", data := .seq #[.int i tk, v] } := (sb.2 _ (Nat.ne_of_gt hel)).trans hT
    have new : ObjOk X.prog X.w (upd H s.heap.objs.size (.tup [.int (i : Nat), x])) h'' s.heap.objs.size (.tup [.int (i : Nat), x]) :=
      ⟨by show 2 ≤ sizeLine; decide, [.int i tk, v], .cons ⟨_, rfl⟩ (.cons ru .nil), ⟨_, hT2, rfl, _, rfl⟩⟩
    have I1 : Inv X pins σ (upd H s.heap.objs.size (.tup [.int (i : Nat), x])) { s with heap := h'', toks := tk + 1 } :=
      I.turnedNew (ch := [e, it]) (fun b ob hb q => (sb.2 b (fun z => hb (by simp [z]))).trans (hk b ob (fun z => hb (by simp [z])) (fun z => hb (by simp [z])) q)) hf (Nat.le_refl _) new
    refine ⟨.ref s.heap.objs.size, _, I1, rfl, ⟨_, x, rfl, I.hok.fresh (Nat.le_refl _), rfl, fun ys hy => by rw [I.tuple_inj hy hq]; exact hx⟩, ⟨⟨v, ?_⟩, ?_, hne, hai, hae⟩, fun b hb => ?_⟩
    · have e1 : ((i + 1 : Nat) : Int) = (i : Int) + 1 := by omega
      rw [e1]; exact he'
    · obtain ⟨o, ho2, hr⟩ := hst.1
      exact ⟨o, (sb.2 it (Ne.symm hne)).trans ho2, hr⟩
    · have hb' : b < s.heap.objs.size := by
        have e' : b = e ∨ b = it := by simpa using hb
        rcases e' with z | z
        · rw [z]; exact hel
        · rw [z]; exact hil
      rw [upd_ne (Nat.ne_of_lt hb')]
      exact (hf b hb).1
  done := by
    intro X hP hw hK hc i pins s σ H E I hf st hg
    subst hP hw hK
    obtain ⟨⟨old, he⟩, hit, hne, hai, hae⟩ := st
    obtain ⟨xs, hq, hx⟩ := hg
    obtain ⟨its, rv, p, hz⟩ := I.tuple hq
    obtain ⟨f0, f1, f2, f3, f4, f5⟩ := hf it (by simp)
    have hl := rv.length
    have hi : i = its.toArray.size := by rw [List.size_toArray]; omega
    subst hi
    exact wpAny_pyNext_enum_endD (Draws.tuple (A := X.A.in1) (I.ok.hd hc) it a hai its.toArray) he ⟨hit, p⟩ fun h' eb => ⟨rfl, I.turned (t' := s.toks) (fun b o hb q => eb b o hb q) f0 f1 f3 f4 f5⟩
  self := fun A i s Q E st h => let ⟨⟨_, he⟩, _⟩ := st; wpAny_pyIter_enum he h
def iEnumT (K : PySem.W.Frag) (ta : TA) : TI := fun σ H R => ta σ H fun vs H1 => ∃ a xs, vs = [.ref a] ∧ SqT K H1 a xs ∧ R (IteT K a) H1
theorem pi_enumT {X : Cx} {e : Expr} {ta : TA} {p pos tpos : Pos} {elts : List Expr} {kk : Nat} (hg : Gl X "enumerate") (hm : X.mg "enumerate" = none) (ha : PA X [e] ta) (hs : starEach [e] X.env = [(false, eval e X.env)] := by rfl) :
    PI X (.Tuple elts kk tpos) (.Call (.Name "enumerate" p) [e] [] pos) (iEnumT X.K ta) := by
  refine ⟨fun pins s σ H R I h => ?_⟩
  refine Call_ (ld_blt I hg hm boot_enumerate (PyProof.Rows.callWith_type1 (thn (ha.run pos pins s σ H _ I h) fun us s1 ⟨vs, H1, I1, r1, q1⟩ => ?_) hs rfl))
  obtain ⟨a, xs, ex, hq, q⟩ := q1
  subst ex
  cases r1 with
  | cons r rr =>
    cases rr
    cases r
    obtain ⟨its, rv, p', hz⟩ := I1.tuple hq
    have hal : a < s1.heap.objs.size := by obtain ⟨_, q, _⟩ := p'; exact Heap.lt_size q
    refine call_enumerate_tuple p' fun h' he hit hsz hk => wpAny_pyIter_enum he ?_
    have I2 : Inv X pins σ H1 { s1 with heap := h' } := I1.kept (t' := s1.toks) hk
    refine ⟨s1.heap.objs.size + 1, [s1.heap.objs.size + 1, s1.heap.objs.size], _, _, H1, rfl, I2, turn_enumT a (s1.heap.objs.size + 1) s1.heap.objs.size, ⟨⟨.none, he⟩, hit, Nat.succ_ne_self _, Nat.ne_of_lt hal, Nat.ne_of_lt (Nat.lt_succ_of_lt hal)⟩, fun b hb => ?_, q⟩
    have e' : b = s1.heap.objs.size + 1 ∨ b = s1.heap.objs.size := by simpa using hb
    have hle : s1.heap.objs.size ≤ b := by
      rcases e' with z | z
      · rw [z]; exact Nat.le_add_right _ _
      · rw [z]; exact Nat.le_refl _
    exact I1.fpOk hle (I1.hok.fresh hle)
/-- over a list or a tuple, whichever it is -/
theorem pi_or {X : Cx} {tg e : Expr} {i1 i2 : TI} (h1 : PI X tg e i1) (h2 : PI X tg e i2) : PI X tg e (fun σ H R => i1 σ H R ∨ i2 σ H R) := by
  refine ⟨fun pins s σ H R I h => ?_⟩
  rcases h with h | h
  · exact h1.run pins s σ H R I h
  · exact h2.run pins s σ H R I h
end L2
set_option Elab.async false
set_option linter.all false
set_option maxRecDepth 100000
set_option maxHeartbeats 2000000
namespace L2
open PySem PySem.Spec PyProof.Rows
section
variable {prog : Program} {w : World} {A : Around} {E : Value → Shared → Prop} {s : Shared}
/-- what is drawn from a dict's keys by another iterator: up to its own code -/
theorem draw_key0 {it : Addr} {Q : Value → Shared → Prop} (ty : s.TypeIs (.ref it) "dict_keyiterator")
    (body : wpAny (model prog w) A.in1 (Builtin.«dict_keyiterator.__next__» ⟨[.ref it], []⟩) (fun fin s' => ∃ v, fin = Fin.done (Flow.ret v) ∧ Q v s') E s) : wpAny (model prog w) A (Builtin.SmallTypes.nextOf (.ref it)) Q E s := by
  unfold Builtin.SmallTypes.nextOf
  refine wpAny_bind (wpAny_callSpecial?_slot (name := Str.ofString "__next__") ty
    F.slot_dict_keyiterator_next (wpAny_call_entry F.slot_dict_keyiterator_next ty
      F.entry_dict_keyiterator_next ?_ (F.args_dict_keyiterator_next_1 _)))
  refine thn body fun fin s' h => ?_
  obtain ⟨v, rfl, q⟩ := h
  exact ⟨v, rfl, wpAny_pure q⟩
/-- the type's name is asked, whichever way it is written -/
theorem key_name {it : Addr} {Q : String → Shared → Prop} (ty : s.TypeIs (.ref it) "dict_keyiterator") (h : Q "dict_keyiterator" s) : wpAny (model prog w) A (typeNameOfWhole (.ref it)) Q E s :=
  wpAny_typeNameOfWhole_keyiter ty h
theorem draw_key {it d : Addr} {i n ep : Nat} {od : Obj} {es : Array DictEntry} {en : DictEntry} {Q : Value → Shared → Prop} (hit : s.heap.IsKeyIter it d i n ep) (hod : s.heap.get? d = some od) (hdd : od.data = .dict es ep) (size : es.size = n) (hx : es[i]? = some en)
    (next : ∀ h', h'.IsKeyIter it d (i + 1) n ep → Heap.SameBut it s.heap h' → Q en.key { s with heap := h' }) : wpAny (model prog w) A (Builtin.SmallTypes.nextOf (.ref it)) Q E s := by
  have ty := hit.typeIs
  obtain ⟨o, ho, cls, data⟩ := id hit
  obtain ⟨lt, entry⟩ := Array.getElem?_eq_some_iff.mp hx
  have alone : Builtin.Dict_items.ownsTuple "dict_keyiterator" = false := by decide
  have there : ¬ ((Value.ref d == Value.none) = true) := Bool.false_ne_true
  have from0 : ¬ ((i : Int) < 0) := by omega
  refine draw_key0 ty (wpAny_bind (wpAny_pure (wpAny_bind (wpAny_bind (wpAny_bind (key_name ty (wpAny_pure ?_)))))))
  refine wpAny_bind (wpAny_fieldsOf ho data (show _ from ?_))
  simp only [alone, Bool.false_eq_true, if_false]
  refine (show wpAny _ _ (if (Value.ref d == Value.none) = true then _ else _) _ _ s from ?_)
  rw [if_neg there]
  refine wpAny_bind (wpAny_pure (wpAny_bind (wpAny_dictEntries hod hdd (show _ from ?_))))
  rw [if_neg (show ¬ (((es.size : Int) != (n : Int)) = true) by rw [size]; simp)]
  refine wpAny_bind (wpAny_pure (wpAny_bind (wpAny_dictEpoch hod hdd (show _ from ?_))))
  rw [if_neg (show ¬ (((ep : Nat) : Int) != ((ep : Nat) : Int)) = true by simp)]
  refine wpAny_pure ?_
  simp only [from0, if_false, Int.toNat_natCast, Array.getElem?_eq_getElem lt]
  have step : (rawInt ((i : Int) + 1) : Value) = .int ((i + 1 : Nat) : Int) 0 := by
    unfold rawInt
    rw [show ((i + 1 : Nat) : Int) = (i : Int) + 1 by omega]
  refine wpAny_bind (wpAny_bind (key_name ty (wpAny_pure (wpAny_bind (wpAny_isOneOf_keyiter ty (show _ from ?_))))))
  refine (show wpAny _ _ (setField (.ref it) 1 (rawInt ((i : Int) + 1)) >>= _) _ _ s from ?_)
  refine wpAny_bind (wpAny_setField ho data (by simp) (show _ from ?_))
  have now : (s.heap.update it (Obj.mapFields (·.setIfInBounds 1 (rawInt ((i : Int) + 1))))).IsKeyIter it d (i + 1) n ep := by
    have free := Obj.isFreed_of_fields (Obj.data_mapFields data (·.setIfInBounds 1 (rawInt ((i : Int) + 1))))
    refine ⟨_, Heap.get?_update_self _ ho free, (Obj.cls_mapFields ..).trans cls, ?_⟩
    rw [Obj.data_mapFields data, step]
    simp
  refine wpAny_bind (wpAny_holding (wpAny_bind (wpAny_isOneOf_keyiter (s := { s with heap := _ }) now.typeIs (show _ from ?_))))
  refine (show wpAny _ _ (pure es[i].key) _ _ _ from ?_)
  rw [entry]
  exact wpAny_pure (wpAny_pure ⟨_, rfl, next _ now (Heap.SameBut.update ..)⟩)
/-- the keys have come to an end -/
theorem draw_end {it d : Addr} {i n ep : Nat} {od : Obj} {es : Array DictEntry} {Q : Value → Shared → Prop} (calm : A.handled = none) (hit : s.heap.IsKeyIter it d i n ep) (hod : s.heap.get? d = some od) (hdd : od.data = .dict es ep) (size : es.size = n) (past : n ≤ i)
    (stop : ∀ h' e, Heap.ExtBut it s.heap h' → (∃ o, h'.get? e = some o ∧ o.cls = .type "StopIteration") → E (.ref e) { s with heap := h' }) : wpAny (model prog w) A (Builtin.SmallTypes.nextOf (.ref it)) Q E s := by
  have ty := hit.typeIs
  obtain ⟨o, ho, cls, data⟩ := id hit
  have alone : Builtin.Dict_items.ownsTuple "dict_keyiterator" = false := by decide
  have there : ¬ ((Value.ref d == Value.none) = true) := Bool.false_ne_true
  have from0 : ¬ ((i : Int) < 0) := by omega
  refine draw_key0 ty (wpAny_bind (wpAny_pure (wpAny_bind (wpAny_bind (wpAny_bind (key_name ty (wpAny_pure ?_)))))))
  refine wpAny_bind (wpAny_fieldsOf ho data (show _ from ?_))
  simp only [alone, Bool.false_eq_true, if_false]
  refine (show wpAny _ _ (if (Value.ref d == Value.none) = true then _ else _) _ _ s from ?_)
  rw [if_neg there]
  refine wpAny_bind (wpAny_pure (wpAny_bind (wpAny_dictEntries hod hdd (show _ from ?_))))
  rw [if_neg (show ¬ (((es.size : Int) != (n : Int)) = true) by rw [size]; simp)]
  refine wpAny_bind (wpAny_pure (wpAny_bind (wpAny_dictEpoch hod hdd (show _ from ?_))))
  rw [if_neg (show ¬ (((ep : Nat) : Int) != ((ep : Nat) : Int)) = true by simp)]
  refine wpAny_pure ?_
  simp only [from0, if_false, Int.toNat_natCast, Array.getElem?_eq_none (show es.size ≤ i by rw [size]; exact past)]
  refine wpAny_bind (wpAny_bind (key_name ty (wpAny_pure (show _ from ?_))))
  refine (show wpAny _ _ (setField (.ref it) 0 .none >>= _) _ _ s from ?_)
  refine wpAny_bind (wpAny_setField ho data (by simp) (show _ from ?_))
  refine (show wpAny _ _ (newExc (.type "StopIteration") [] >>= _) _ _ _ from ?_)
  simp only [newExc, newTuple, raiseNew]
  refine wpAny_bind (wpAny_bind (wpAny_newObj_type (show _ from ?_) (by size_fits)))
  refine wpAny_bind (m := firstArgMember _ _) (wpAny_of_eq (a := Value.none)
    (by first | rfl | (simp only [firstArgMember]; rfl)) (wpAny_newObj_type (show _ from ?_) (by size_fits)))
  refine wpAny_bind (wpAny_handled (show _ from ?_))
  first | rw [show A.in1.handled = none from calm] | rw [calm]
  refine wpAny_bind (wpAny_pure (wpAny_throw (stop _ _ ?_ ⟨_, Heap.get?_push_size _ rfl, rfl⟩)))
  exact ((Heap.SameBut.update ..).extBut.push _).push _
end
end L2
set_option Elab.async false
set_option linter.all false
set_option maxRecDepth 100000
set_option maxHeartbeats 2000000
namespace PySem
open Sem (wp)
open AutoSeq1 (wpAny_loadPart')
theorem meets_enumerate_newK (l : Addr) (od : Obj) (es : Array DictEntry) (ep : Nat) (hsys : (l == sysModules) = false) (hxd : od.ExactDict) (hdat : od.data = .dict es ep) :
    Meets (Builtin.«enumerate.__new__» ⟨[.type "enumerate", .ref l], []⟩) (fun _ R s => s.heap.get? l = some od ∧
      R (.ok (.ret (.ref (s.heap.push { cls := .type "dict_keyiterator", data := .fields #[.ref l, .int 0 0, .int es.size 0, .int ep 0] }).objs.size)))
        { s with heap := (s.heap.push { cls := .type "dict_keyiterator", data := .fields #[.ref l, .int 0 0, .int es.size 0, .int ep 0] }).push { cls := .type "enumerate", data := .fields #[.none, .bool false, .ref s.heap.objs.size, rawInt 0, .none, .none] } }) :=
  .of_wp fun prog w A R s h => by
    obtain ⟨hp, g, d, tk, os⟩ := s; obtain ⟨hl, h⟩ := h
    have hsub := sub_enumerate
    wp_walk using wpAny_loadPart' hl
    refine wpAny_stack_any fun st => wpAny_pure ?_
    split
    · rename_i c _ _ _ _ _
      cases (c == Value.type "enumerate")
      · wp_walk using wpAny_loadPart' hl, L2.iter_keys hsys hl hxd hdat
        exact ⟨_, rfl, h⟩
      · wp_walk using wpAny_loadPart' hl, L2.iter_keys hsys hl hxd hdat
        exact ⟨_, rfl, h⟩
    · wp_walk using wpAny_loadPart' hl, L2.iter_keys hsys hl hxd hdat
      exact ⟨_, rfl, h⟩
section
variable {prog : Program} {w : World} {A : Around} {E : Value → Shared → Prop} {s : Shared}
theorem call_enumerate_keys {l : Addr} {od : Obj} {es : Array DictEntry} {ep : Nat} {Q : Value → Shared → Prop} (hsys : (l == sysModules) = false) (hl : s.heap.get? l = some od) (hxd : od.ExactDict) (hdat : od.data = .dict es ep)
    (h : ∀ h', IsEnum h' (s.heap.objs.size + 1) s.heap.objs.size 0 .none → h'.IsKeyIter s.heap.objs.size l 0 es.size ep → h'.objs.size = s.heap.objs.size + 2 →
      (∀ b o, s.heap.get? b = some o → h'.get? b = some o) → Q (.ref (s.heap.objs.size + 1)) { s with heap := h' }) :
    wpAny (model prog w) A (call (.type "enumerate") [.ref l]) Q E s := by
  refine callType_new F.called_enumerate (by decide) (F.typeCall_enumerate_1 _) (F.newCall_enumerate_1 _) (fun obj => F.args_object_init_2 obj _) F.entry_enumerate_new
    (meets_enumerate_newK l od es ep hsys hxd hdat) ⟨hl, ?_⟩
  have hz : (s.heap.push { cls := .type "dict_keyiterator", data := .fields #[.ref l, .int 0 0, .int es.size 0, .int ep 0] }).objs.size = s.heap.objs.size + 1 := Heap.size_push ..
  show _ ∧ _
  rw [hz]
  have he : IsEnum ((s.heap.push { cls := .type "dict_keyiterator", data := .fields #[.ref l, .int 0 0, .int es.size 0, .int ep 0] }).push
      { cls := .type "enumerate", data := .fields #[.none, .bool false, .ref s.heap.objs.size, rawInt 0, .none, .none] }) (s.heap.objs.size + 1) s.heap.objs.size 0 .none := by
    have := Heap.get?_push_size (s.heap.push { cls := .type "dict_keyiterator", data := .fields #[.ref l, .int 0 0, .int es.size 0, .int ep 0] })
      (o := { cls := .type "enumerate", data := .fields #[.none, .bool false, .ref s.heap.objs.size, rawInt 0, .none, .none] }) rfl
    rw [hz] at this; exact this
  refine ⟨⟨_, he, rfl⟩, h _ he ⟨_, Heap.get?_push_of_some _ (Heap.get?_push_size _ rfl), rfl, rfl⟩ (by rw [Heap.size_push, hz]) fun b o x => Heap.get?_push_of_some _ (Heap.get?_push_of_some _ x)⟩
end
end PySem
namespace L2
open PySem PySem.Spec PyProof.Rows
theorem draws_keys {prog : Program} {w : World} {A : Around} (calm : A.handled = none) (it d : Addr) (ne : d ≠ it) (od : Obj) (es : Array DictEntry) (ep : Nat) (hdat : od.data = .dict es ep) :
    Draws prog w A it [it, d] es.size (fun i v => ∃ en, es[i]? = some en ∧ v = en.key) (fun i h => h.IsKeyIter it d i es.size ep ∧ h.get? d = some od) where
  live := fun _ _ st => let ⟨o, ho, _⟩ := st.1; ⟨o, ho⟩
  frame := fun _ _ _ st hk => ⟨st.1.at fun o e => hk it (by simp) o e, hk d (by simp) _ st.2⟩
  item := fun i s Q E hi st hQ => draw_key st.1 st.2 hdat rfl (en := es[i]) (by simp [hi]) fun h' hit sb => hQ _ h' s.toks ⟨es[i], by simp [hi], rfl⟩ ⟨hit, (sb.2 d ne).trans st.2⟩ sb
  done := fun s Q E st hE => draw_end calm st.1 st.2 hdat rfl (Nat.le_refl _) hE
/-- the keys of the locked dict at d, rows, each in a new pair with its number -/
def IteK (d : Addr) (o : Obj) (kvs : List (List Key × V)) : It :=
  ⟨fun i H => H d = some (.frz o (.dT kvs)) ∧ i < kvs.length, fun i H x H' => ∃ (T q : Addr) (k : List Key) (v : V), x = .ref T ∧ H T = none ∧ kvs[i]? = some (k, v) ∧ H q = some (.tup (k.map kV)) ∧ H' = upd H T (.tup [.int (i : Nat), .ref q]),
    fun i H => H d = some (.frz o (.dT kvs)) ∧ kvs.length ≤ i⟩
theorem turn_enumK {P : Program} {w : World} {K : PySem.W.Frag} {elts : List Expr} {kk : Nat} {tpos : Pos} {d : Addr} {o : Obj} {es : Array DictEntry} {ep : Nat} {kvs : List (List Key × V)} (e it : Addr) (hod : o.data = .dict es ep) :
    Turn P w K (.Tuple elts kk tpos) (IteK d o kvs) [e, it] e (fun i h => (∃ old, IsEnum h e it ((i : Nat) : Int) old) ∧ h.IsKeyIter it d i es.size ep ∧ e ≠ it ∧ d ≠ it ∧ d ≠ e ∧ i ≤ es.size) where
  mem := by simp
  obj := fun i h st b hb => by
    obtain ⟨⟨old, he⟩, ⟨oi, ho, hc, hd⟩, _⟩ := st
    rcases (show b = e ∨ b = it by simpa using hb) with y | y
    · rw [y]; exact ⟨_, he, fun v q => nomatch q⟩
    · rw [y]; exact ⟨oi, ho, fun v q => by rw [hd] at q; cases q⟩
  keep := fun i h h' st k => let ⟨⟨old, he⟩, hit, hne⟩ := st; ⟨⟨old, k e (by simp) _ he⟩, hit.at fun oi x => k it (by simp) oi x, hne⟩
  item := by
    intro X hP hw hK hc i pins s σ H E I hf st hg
    subst hP hw hK
    obtain ⟨⟨old, he⟩, hit, hne, hdi, hde, hle⟩ := st
    obtain ⟨hd, hi⟩ := hg
    obtain ⟨hs, hgd, hx, es', ep', hdt, hsz, ent⟩ := I.frzT hd
    obtain ⟨rfl, rfl⟩ := dict_ep hod hdt
    obtain ⟨⟨k, v⟩, hkv⟩ : ∃ p, kvs[i]? = some p := ⟨kvs[i], List.getElem?_eq_getElem hi⟩
    obtain ⟨en, q, hen, hkey, hq⟩ := ent i k v hkv
    have hel : e < s.heap.objs.size := Heap.lt_size he
    have hil : it < s.heap.objs.size := by obtain ⟨_, y, _⟩ := hit; exact Heap.lt_size y
    refine wpAny_pyNext_enum_itemD (draws_keys (A := X.A.in1) (I.ok.hd hc) it d hdi o es' ep' hdt) he ⟨hit, hgd⟩ (by omega) hne (by simp [hne, Ne.symm hde]) fun v' h' tk hv ho hst hT hsz2 hk => ?_
    obtain ⟨en', hen', rfl⟩ := hv
    obtain rfl : en' = en := by
      rw [hen] at hen'
      exact (Option.some.inj hen').symm
    refine ⟨_, rfl, wpAny_letOwnedTupleGo_enum (s := { s with heap := h', toks := tk + 1 }) ho fun h'' he' sb => ?_⟩
    rw [hkey] at hT ho
    have hT2 : h''.get? s.heap.objs.size = some { cls := .type "tuple", data := .seq #[.int i tk, .ref q] } := (sb.2 _ (Nat.ne_of_gt hel)).trans hT
    have new : ObjOk X.prog X.w (upd H s.heap.objs.size (.tup [.int (i : Nat), .ref q])) h'' s.heap.objs.size (.tup [.int (i : Nat), .ref q]) :=
      ⟨by show 2 ≤ sizeLine; decide, [.int i tk, .ref q], .cons ⟨_, rfl⟩ (.cons rfl .nil), ⟨_, hT2, rfl, _, rfl⟩⟩
    have I1 : Inv X pins σ (upd H s.heap.objs.size (.tup [.int (i : Nat), .ref q])) { s with heap := h'', toks := tk + 1 } :=
      I.turnedNew (ch := [e, it]) (fun b ob hb y => (sb.2 b (fun z => hb (by simp [z]))).trans (hk b ob (fun z => hb (by simp [z])) (fun z => hb (by simp [z])) y)) hf (Nat.le_refl _) new
    refine ⟨.ref s.heap.objs.size, _, I1, rfl, ⟨_, q, k, v, rfl, I.hok.fresh (Nat.le_refl _), hkv, hq, rfl⟩, ⟨⟨.ref q, ?_⟩, ?_, hne, hdi, hde, by omega⟩, fun b hb => ?_⟩
    · rw [show ((i + 1 : Nat) : Int) = (i : Int) + 1 by omega, ← hkey]
      exact he'
    · exact hst.1.at fun oi y => (sb.2 it (Ne.symm hne)).trans y
    · have hb' : b < s.heap.objs.size := by
        rcases (show b = e ∨ b = it by simpa using hb) with y | y
        · rw [y]; exact hel
        · rw [y]; exact hil
      rw [upd_ne (Nat.ne_of_lt hb')]
      exact (hf b hb).1
  done := by
    intro X hP hw hK hc i pins s σ H E I hf st hg
    subst hP hw hK
    obtain ⟨⟨old, he⟩, hit, hne, hdi, hde, hle⟩ := st
    obtain ⟨hd, hi⟩ := hg
    obtain ⟨hs, hgd, hx, es', ep', hdt, hsz, ent⟩ := I.frzT hd
    obtain ⟨rfl, rfl⟩ := dict_ep hod hdt
    obtain ⟨f0, f1, f2, f3, f4, f5⟩ := hf it (by simp)
    obtain rfl : i = es'.size := by omega
    exact wpAny_pyNext_enum_endD (draws_keys (A := X.A.in1) (I.ok.hd hc) it d hdi o es' ep' hdt) he ⟨hit, hgd⟩ fun h' eb => ⟨rfl, I.turned (t' := s.toks) (fun b ob hb y => eb b ob hb y) f0 f1 f3 f4 f5⟩
  self := fun A i s Q E st h => let ⟨⟨_, he⟩, _⟩ := st; wpAny_pyIter_enum he h
def iEnumK (te : TE) : TI := fun σ H R => te σ H fun v H1 => ∃ (d : Addr) (o : Obj) (kvs : List (List Key × V)), v = .ref d ∧ H1 d = some (.frz o (.dT kvs)) ∧ R (IteK d o kvs) H1
theorem pi_enumK {X : Cx} {e : Expr} {te : TE} {p pos tpos : Pos} {elts : List Expr} {kk : Nat} (hg : Gl X "enumerate") (hm : X.mg "enumerate" = none) (he : PE X e te) (hs : starEach [e] X.env = (false, eval e X.env) :: starEach [] X.env := by rfl) :
    PI X (.Tuple elts kk tpos) (.Call (.Name "enumerate" p) [e] [] pos) (iEnumK te) := by
  refine ⟨fun pins s σ H R I h => ?_⟩
  refine Call_ (ld_blt I hg hm boot_enumerate (PyProof.Rows.callWith_type1 (args_cons (thn (he.run pins s σ H _ I h) fun v s1 ⟨x, H1, I1, r1, q1⟩ => args_nil ?_) hs) hs rfl))
  obtain ⟨d, o, kvs, ex, hd, q⟩ := q1
  subst ex
  cases r1
  obtain ⟨hsys, hgd, hx, es, ep, hdt, hsz, ent⟩ := I1.frzT hd
  have hdl : d < s1.heap.objs.size := Heap.lt_size hgd
  refine call_enumerate_keys hsys hgd hx hdt fun h' he hit hsz2 hk => wpAny_pyIter_enum he ?_
  have I2 : Inv X pins σ H1 { s1 with heap := h' } := I1.kept (t' := s1.toks) hk
  refine ⟨s1.heap.objs.size + 1, [s1.heap.objs.size + 1, s1.heap.objs.size], _, _, H1, rfl, I2, turn_enumK (kvs := kvs) (s1.heap.objs.size + 1) s1.heap.objs.size hdt, ⟨⟨.none, he⟩, hit, Nat.succ_ne_self _, Nat.ne_of_lt hdl, Nat.ne_of_lt (Nat.lt_succ_of_lt hdl), Nat.zero_le _⟩, fun b hb => ?_, q⟩
  have hle : s1.heap.objs.size ≤ b := by
    rcases (show b = s1.heap.objs.size + 1 ∨ b = s1.heap.objs.size by simpa using hb) with y | y
    · rw [y]; exact Nat.le_add_right _ _
    · rw [y]; exact Nat.le_refl _
  exact I1.fpOk hle (I1.hok.fresh hle)
theorem walk_enumK {d : Addr} {o : Obj} {kvs : List (List Key × V)} : Walk (IteK d o kvs) kvs.length (fun H => H d = some (.frz o (.dT kvs)))
    (fun i H x H' => ∃ (T q : Addr) (k : List Key) (v : V), x = .ref T ∧ H T = none ∧ kvs[i]? = some (k, v) ∧ H q = some (.tup (k.map kV)) ∧ H' = upd H T (.tup [.int (i : Nat), .ref q])) :=
  ⟨fun _ _ hi q => ⟨q, hi⟩, fun _ q => ⟨q, Nat.le_refl _⟩, fun _ _ _ _ _ _ y => y⟩
end L2
set_option Elab.async false
set_option linter.all false
set_option maxRecDepth 100000
set_option maxHeartbeats 2000000
/-! promises of defs that are called where no repr is under way; the end of a law with tables of code objects -/
namespace Y
open PySem PySem.Spec PyProof.Rows L2 LamX
/-- FnOk where no repr is under way -/
structure FnG (P : Program) (w : World) (K : PySem.W.Frag) (mg : Str → Option Value) (base : Heap) (CX : CXT) (k : Nat) (f : Addr) (fd : FuncData) (ps : List Str) (sp : Sp) : Prop where
  len : ∀ vs H Q E, sp vs H Q E → vs.length = ps.length
  go : ∀ (A : Around) (outer : List Env) (s : Shared) (H : Hp) (args : Args) (us : List Value) (vs : List V) (Q : VK) (E : XK), A.guards = some [] → Room k A → Env0 P w K mg base A outer s H → BindsTo s fd args (ps.zip us) →
    Vals vs us → sp vs H Q E → codeAny (model P w) A (.call (.ref f) args) (CR CX outer P w H s Q E) s
section
variable {P : Program} {w : World} {K : PySem.W.Frag} {mg : Str → Option Value} {base : Heap} {CX : CXT}
theorem FnG.of {k : Nat} {f : Addr} {fd : FuncData} {ps : List Str} {sp : Sp} (F : FnOk P w K mg base CX k f fd ps sp) : FnG P w K mg base CX k f fd ps sp := ⟨F.len, fun A outer s H args us vs Q E _ => F.run A outer s H args us vs Q E⟩
/-- a def by its body -/
theorem okG {x qual : Str} {st : Stmt} {f : Addr} {fd : FuncData} {N ps : List Str} {k : Nat} {sp : Sp} (F : Fun K x qual st f fd) (S : FnScope N ps (defScope st)) (len : ∀ vs H Q E, sp vs H Q E → vs.length = ps.length)
    (body : ∀ (cdv : Value) (A : Around) (outer : List Env) (s : Shared) (H : Hp) (vs : List V) (Q : VK) (E : XK), A.guards = some [] → Room k (A.deeper (envOfC qual (defScope st) s.heap.objs.size f cdv)) → sp vs H Q E →
      ∃ t, PSs (cxOf CX0 P w K mg base N qual (defScope st) f cdv A outer s H E).nox (defBody st) t ∧ t { nx := fun _ H' => Q .non H', rt := Q } (L2.start N vs) H) : FnG P w K mg base CX0 (k + 1) f fd ps sp := by
  obtain ⟨oc, od, kV, doc, pm, an, cdv, ct, osl, rfl, lk, hcd⟩ := F.ex
  refine ⟨len, fun A outer s H args us vs Q E hg hr e0 hb r q => run_ofS lk hcd S hr e0 hb r (len _ _ _ _ q) fun hr' => ?_⟩
  obtain ⟨t, h1, h2⟩ := body cdv A outer s H vs Q E hg hr' q
  exact ⟨t, h1.nox, h2⟩
end
section
variable {X : Cx} {CX : CXT} {k : Nat} {f : Addr} {fd : FuncData} {ps : List Str} {sp : Sp} {E : XK} {x : Str} {p pos : Pos} {e : Expr} {es : List Expr} {t : TA}
theorem pe_callG (hG : X.A.guards = some []) (F : FnG X.prog X.w X.K X.mg X.base CX k f fd ps sp) (hr : Room k X.A) (gl : Gl X x) (at_ : X.mg x = some (.ref f)) (kp : PySem.W.keepIn X.K (.ref f) = true) (bd : Binds X.K fd ps []) (hx : Passes CX X E) (ha : PA X (e :: es) t)
    (db : (x == ("__debug__" : Str)) = false := by decide) (st : starEach (e :: es) X.env = (false, eval e X.env) :: starEach es X.env := by rfl) (pl : (backTo pos (starEach (e :: es) X.env)).tail.any (·.1) = false := by rfl) :
    PE X (.Call (.Name x p) (e :: es) [] pos) (tCall sp [] E t) := by
  refine ⟨fun pins s σ H Q I h => wpAny_Call_Name_kw (ld_glob I gl at_ (PySem.W.callWith_K (h₀ := X.base) I.ok.mod.kin kp (thn (ha.run pos pins s σ H _ I h) fun us s1 ⟨vs, H1, I1, r, q⟩ => ⟨I1.kIn, ?_⟩) st ?_) db)⟩
  · have q' : sp vs H1 Q E := (List.append_nil vs) ▸ (show sp (vs ++ []) H1 Q E from q)
    have hl : (us ++ ([] : List Value)).length = ps.length := by rw [List.append_nil, ← r.length]; exact F.len _ _ _ _ q'
    have bt := bd s1 us I1.kIn hl
    rw [List.append_nil] at bt
    refine wpAny_call (codeAny_mono (F.go X.A X.stack s1 H1 ⟨us, []⟩ us vs Q E hG hr I1.env0 bt r q') fun res s' hq => ?_)
    match res, hq with
    | .error e, hq => exact hx pins σ H1 s1 e s' I1 hq
    | .ok (.ret u), hq => exact I1.after hq
    | .ok .next, hq => exact hq.elim
    | .ok .brk, hq => exact hq.elim
    | .ok .cont, hq => exact hq.elim
  · rw [st] at pl
    exact pl
end
end Y
set_option Elab.async false
set_option linter.all false
set_option maxRecDepth 100000
set_option maxHeartbeats 4000000
namespace Y
open PySem PySem.Spec PyProof.Rows L2 LamX
/-- a def by its body, its code object known -/
theorem okGc {P : Program} {w : World} {K : PySem.W.Frag} {mg : Str → Option Value} {base : Heap} {x qual : Str} {st : Stmt} {f c : Addr} {fd : FuncData} {N ps : List Str} {k : Nat} {sp : Sp} (F : Fun K x qual st f fd) (hc : fd.code = .ref c) (S : FnScope N ps (defScope st)) (len : ∀ vs H Q E, sp vs H Q E → vs.length = ps.length)
    (body : ∀ (A : Around) (outer : List Env) (s : Shared) (H : Hp) (vs : List V) (Q : VK) (E : XK), A.guards = some [] → Room k (A.deeper (envOfC qual (defScope st) s.heap.objs.size f (.ref c))) → sp vs H Q E →
      ∃ t, PSs (cxOf CX0 P w K mg base N qual (defScope st) f (.ref c) A outer s H E).nox (defBody st) t ∧ t { nx := fun _ H' => Q .non H', rt := Q } (L2.start N vs) H) : FnG P w K mg base CX0 (k + 1) f fd ps sp := by
  obtain ⟨oc, od, kV, doc, pm, an, cdv, ct, osl, rfl, lk, hcd⟩ := F.ex
  have hc : cdv = .ref c := hc
  subst hc
  refine ⟨len, fun A outer s H args us vs Q E hg hr e0 hb r q => run_ofS lk hcd S hr e0 hb r (len _ _ _ _ q) fun hr' => ?_⟩
  obtain ⟨t, h1, h2⟩ := body A outer s H vs Q E hg hr' q
  exact ⟨t, h1.nox, h2⟩
end Y
set_option Elab.async false
set_option linter.all false
set_option maxRecDepth 100000
set_option maxHeartbeats 2000000
/-! the end of a law whose promise is an FnG: tables of code objects, the script -/
namespace Y
open PySem PySem.Spec PyProof.Rows L2 LamX
/-- what is tracked when the law begins: the tables, empty; the script, if it is no object of the written part -/
def hp0 (ts : List Addr) (sc : Addr → Option HO) : Hp := fun b => if b ∈ ts then some (.tbl #[]) else sc b
theorem hp0_tab {ts : List Addr} {sc : Addr → Option HO} {b : Addr} (h : b ∈ ts) : hp0 ts sc b = some (.tbl #[]) := if_pos h
theorem hp0_off {ts : List Addr} {sc : Addr → Option HO} {b : Addr} (h : b ∉ ts) : hp0 ts sc b = sc b := if_neg h
section
variable {P : Program} {w : World} {K : PySem.W.Frag} {mg mb : Str → Option Value} {k : Nat} {fa a : Addr} {cs : List (Addr × Addr)} {fd : FuncData} {x : Str} {sp : Sp} {s₁ : Shared} {vs : List Value} {ns : List Int}
/-- the tables' addresses -/
abbrev tabs (cs : List (Addr × Addr)) : List Addr := cs.map Prod.snd
theorem mem_tabs {p : Addr × Addr} (h : p ∈ cs) : p.2 ∈ tabs cs := List.mem_map.mpr ⟨p, h, rfl⟩
/-- what the heap tells that H does not track stands in the base -/
theorem base_ns {H : Hp} {b : Addr} {m : Str → Option Value} (nod : ∀ b o es ep, s₁.heap.get? b = some o → o.data = .dict es ep → H b = none) (h : s₁.heap.Ns b m) : (hidT s₁.heap H).Ns b m := by
  obtain ⟨o, es, ep, e, d, r⟩ := h
  exact ⟨o, es, ep, hidT_get e (nod b o es ep e d), d, r⟩
theorem law_runG (sc : Addr → Option HO)
    (hsc : ∀ b, sc b = none ∨ (b = a ∧ K.lookup a = none ∧ sc b = some (.frz { cls := .type "list", data := .seq vs.toArray } (.lst (ns.map V.int))))) (hS : SqL K (hp0 (tabs cs) sc) a (ns.map V.int))
    (KX : K.In s₁.heap) (hns : s₁.heap.Ns mainGlobals mg) (hb : s₁.heap.Ns builtinsNs mb) (hbb : ∀ x : Str, x ≠ "__name__" → mb x = bootBuiltins x) (hlim : s₁.heap.NoLimit) (hg : s₁.gens = #[])
    (hT : ∀ p ∈ cs, s₁.heap.get? p.2 = some { cls := .none, data := .fields #[] }) (nT : ∀ p ∈ cs, K.lookup p.2 = none) (C : ∀ p ∈ cs, PySem.W.CodeHd s₁.heap p.1 p.2)
    (hbm : ∃ (bm : Addr) (ob : Obj), mg "__builtins__" = some (.ref bm) ∧ bm ≠ builtinsNs ∧ s₁.heap.get? bm = some ob ∧ ob.cls = .type "module" ∧ ob.dict = some builtinsNs ∧ ob.data = .plain)
    (ha : s₁.heap.get? a = some { cls := .type "list", data := .seq vs.toArray }) (hv : Vals (ns.map V.int) vs) (hl : ns.length ≤ sizeLine) (hr : Room k callerA)
    (F : ∀ base : Heap, K.In base → base.Ns mainGlobals mg → (∀ p ∈ cs, TabB base mg p.1 p.2) → FnG P w K mg base CX0 k fa fd [x] sp) (hbind : ∀ (s : Shared) (u : Value), BindsTo s fd ⟨[u], []⟩ [(x, u)])
    (hsp : ∀ H : Hp, (∀ p ∈ cs, H p.2 = some (.tbl #[])) → SqL K H a (ns.map V.int) → sp [.ref a] H (fun v _ => v = .bl true) fun _ _ _ => False) :
    codeAny (model P w) callerA (.call (.ref fa) ⟨[.ref a], []⟩) (fun r s' => r = .ok (.ret (.bool true)) ∧ OldK s₁.heap s'.heap ∧ s'.os = s₁.os ∧ AllBare s'.gens) s₁ := by
  have tabAt : ∀ b ∈ tabs cs, s₁.heap.get? b = some { cls := .none, data := .fields #[] } := fun b hb => by
    obtain ⟨p, hp, e⟩ := List.mem_map.mp hb
    rw [← e]; exact hT p hp
  -- where something is tracked, it is a table or the script
  have two : ∀ b u, hp0 (tabs cs) sc b = some u → (b ∈ tabs cs ∧ u = .tbl #[]) ∨ (b ∉ tabs cs ∧ b = a ∧ K.lookup a = none ∧ u = .frz { cls := .type "list", data := .seq vs.toArray } (.lst (ns.map V.int))) := fun b u e => by
    by_cases h : b ∈ tabs cs
    · rw [hp0_tab h] at e
      exact .inl ⟨h, (Option.some.inj e).symm⟩
    · rw [hp0_off h] at e
      rcases hsc b with z | ⟨z1, z2, z3⟩
      · rw [z] at e; cases e
      · rw [z3] at e
        exact .inr ⟨h, z1, z2, (Option.some.inj e).symm⟩
  have free : ∀ b o, s₁.heap.get? b = some o → (∀ us n, o.data ≠ .seq us n) → o.data ≠ .fields #[] → hp0 (tabs cs) sc b = none := fun b o e h1 h2 => by
    cases q : hp0 (tabs cs) sc b with
    | none => rfl
    | some u =>
      rcases two b u q with ⟨z, _⟩ | ⟨_, z, _⟩
      · rw [tabAt b z] at e; cases e; exact (h2 rfl).elim
      · rw [z, ha] at e; cases e; exact (h1 _ _ rfl).elim
  have nod : ∀ b o es ep, s₁.heap.get? b = some o → o.data = .dict es ep → hp0 (tabs cs) sc b = none := fun b o es ep e d => free b o e (fun us n z => by rw [d] at z; cases z) fun z => by rw [d] at z; cases z
  have okH : HOk P w (hp0 (tabs cs) sc) s₁.heap := fun b u e => by
    rcases two b u e with ⟨z, rfl⟩ | ⟨_, rfl, _, rfl⟩
    · exact tabAt b z
    · exact ⟨ha, by rw [List.length_map]; exact hl, vs, _, hv, ha⟩
  have inB : K.In (hidT s₁.heap (hp0 (tabs cs) sc)) := fun b o e => hidT_get (KX b o e) (by
    cases q : hp0 (tabs cs) sc b with
    | none => rfl
    | some u =>
      rcases two b u q with ⟨z, _⟩ | ⟨_, z1, z2, _⟩
      · obtain ⟨p, hp, ep⟩ := List.mem_map.mp z
        have n0 := nT p hp
        rw [show p.2 = b from ep, e] at n0; cases n0
      · rw [z1, z2] at e; cases e)
  have md : L2.Mod K mg (hidT s₁.heap (hp0 (tabs cs) sc)) := ⟨inB, base_ns nod hns, ⟨mb, base_ns nod hb, hbb⟩, hlim.elim fun mc z => ⟨mc, base_ns nod z.1, z.2⟩⟩
  have tb : ∀ p ∈ cs, TabB (hidT s₁.heap (hp0 (tabs cs) sc)) mg p.1 p.2 := fun p hp => by
    have tp := hT p hp
    constructor
    · obtain ⟨o, us, file, tf, flags, tg, inF, text, tt, e1, r1, r2, r3, rr⟩ := C p hp
      refine ⟨o, us, file, tf, flags, tg, inF, text, tt, hidT_get e1 (free _ _ e1 (fun us n z => by rw [r2] at z; cases z) fun z => ?_), r1, r2, r3, rr⟩
      rw [r2] at z; cases z; simp at r3
    · obtain ⟨bm, ob, b1, b2, b3, b4, b5, b6⟩ := hbm
      refine ⟨bm, ob, b1, b2, fun q => ?_, fun q => ?_, hidT_get b3 (free _ _ b3 (fun us n z => by rw [b6] at z; cases z) fun z => by rw [b6] at z; cases z), b4, b5, b6⟩
      · obtain ⟨o, es, ep, e, hd, _⟩ := hns
        rw [q, e] at b3; cases b3; rw [hd] at b6; cases b6
      · rw [q, tp] at b3; cases b3; cases b6
    · intro z
      obtain ⟨o, es, ep, e, hd, _⟩ := hns
      rw [z, tp] at e; cases e; cases hd
  have e0 : Env0 P w K mg (hidT s₁.heap (hp0 (tabs cs) sc)) callerA [] s₁ (hp0 (tabs cs) sc) :=
    { frames := rfl, mod := md, bs := fun b o e => of_hidT e, bsz := Nat.le_of_eq (hidT_size _ _), funs := True.intro, frf := (fun b z => by cases z), hok := okH, bare := AllBare.of_eq hg }
  refine codeAny_mono ((F _ inB (base_ns nod hns) tb).go callerA [] s₁ _ ⟨[.ref a], []⟩ [.ref a] [.ref a] _ _ rfl hr e0 (hbind s₁ (.ref a)) (.cons rfl .nil) (hsp _ (fun p hp => hp0_tab (mem_tabs hp)) hS)) fun r s' h => ?_
  match r, h with
  | .error e, h => exact (show False from h).elim
  | .ok .next, h => exact (show False from h).elim
  | .ok .brk, h => exact (show False from h).elim
  | .ok .cont, h => exact (show False from h).elim
  | .ok (.ret u), h =>
    obtain ⟨v, H', os, bare, un, ok', rv, q⟩ := h
    obtain rfl : v = .bl true := q
    obtain rfl : u = Value.bool true := rv
    have kept : ∀ b o, b ∉ tabs cs → s₁.heap.get? b = some o → s'.heap.get? b = some o := fun b o nb e => by
      cases q : hp0 (tabs cs) sc b with
      | none => exact un.keep b o e q (fun z => by cases z) (fun z => by cases z)
      | some u =>
        rcases two b u q with ⟨z, _⟩ | ⟨_, _, _, rfl⟩
        · exact absurd z nb
        · obtain ⟨e1, _⟩ := okH b _ q
          obtain ⟨e2, _⟩ := ok' b _ (un.frzs b _ _ q)
          rw [e] at e1; cases e1; exact e2
    have more : ∀ b ∈ tabs cs, ∃ ps : Array Value, s'.heap.get? b = some { cls := .none, data := .fields ps } := fun b hb => by
      obtain ⟨m, z⟩ := un.tbls b #[] (hp0_tab hb)
      exact ⟨_, ok' b _ z⟩
    refine ⟨rfl, ⟨fun b o e => ?_, fun b o e => ?_⟩, os, bare⟩
    · by_cases h : b ∈ tabs cs
      · obtain ⟨ps, hm⟩ := more b h
        obtain ⟨p, hp, rfl⟩ := List.mem_map.mp h
        obtain rfl := Option.some.inj ((hT p hp).symm.trans e)
        exact .inr (.inl ⟨((C p hp).tab (hT p hp)).isCodeTable, rfl, #[], ps, rfl, by rw [Array.empty_append]; exact hm⟩)
      · exact .inl (kept b o h e)
    · by_cases h : b ∈ tabs cs
      · obtain ⟨ps, hm⟩ := more b h
        exact ⟨_, hm⟩
      · exact ⟨o, kept b o h e⟩
end
/-- what is known of the law's promise at the head's heap h -/
def LawG (l : PySem.W.OpenLaw) (w : World) (K : PySem.W.Frag) (k n : Nat) (x : Str) (mg : Str → Option Value) (fa : Addr) (h : Heap) : Prop :=
  ∃ (fd : FuncData) (cs : List (Addr × Addr)) (sp : Sp), ((∀ p ∈ cs, h.get? p.2 = some { cls := .none, data := .fields #[] }) ∧ (∀ p ∈ cs, K.lookup p.2 = none) ∧ ∀ p ∈ cs, PySem.W.CodeHd h p.1 p.2) ∧ (∀ (s : Shared) (u : Value), BindsTo s fd ⟨[u], []⟩ [(x, u)]) ∧
    (∀ (H : Hp) (a : Addr) (ns : List Int), ns.length ≤ n → (∀ p ∈ cs, H p.2 = some (.tbl #[])) → SqL K H a (ns.map V.int) → sp [.ref a] H (fun v _ => v = .bl true) fun _ _ _ => False) ∧
    ∀ base : Heap, K.In base → base.Ns mainGlobals mg → (∀ p ∈ cs, TabB base mg p.1 p.2) → FnG l.prog w K mg base CX0 k fa fd [x] sp
theorem walk_G {l : PySem.W.OpenLaw} {n k : Nat} {q : Program} {loose : List Str} {XP : (Str → Option Value) → Heap → Prop} {YP : World → Heap → Prop} {d : DefRec} {K : Params → PySem.W.Frag} {x : Str}
    (hn : l.most = some n) (hn2 : n ≤ sizeLine) (hdf : d.params.defaults = []) (hr : Room k callerA) (hY : ∀ (w : World) (h : Heap), YP w h → (K w.params).In h)
    (F : ∀ (w : World) (mg : Str → Option Value) (fa : Addr) (h : Heap), YP w h → (K w.params).In h → h.Ns mainGlobals mg → mg d.name = some (.ref fa) → LawG l w (K w.params) k n x mg fa h) :
    PySem.W.WalkO q loose XP YP l.row.toRowW d [] (fun f vs => PySem.call f vs) := by
  refine Att.attach_callB hn hdf fun w s₀ s₁ mg mb fa o pm cd doc a vs ns G Y ho hd hcd hmg hobj hints hlen hbits hg => ?_
  have KX := hY w _ Y
  obtain ⟨fd, cs, sp, ⟨t1, t2, t3⟩, hb, hsp, hF⟩ := F w mg fa _ Y KX G.T.g hmg
  have hv := vals_ints hints
  have l1 : ns.length ≤ sizeLine := Nat.le_trans hlen hn2
  have off : a ∉ tabs cs := fun z => by
    obtain ⟨p, hp, e⟩ := List.mem_map.mp z
    have e2 := t1 p hp
    rw [show p.2 = a from e, hobj] at e2
    cases e2
  cases hk : (K w.params).lookup a with
  | some ob =>
    have e := KX a ob hk
    rw [hobj] at e
    cases e
    exact law_runG (fun _ => none) (fun _ => .inl rfl) (.inr ⟨_, vs.toArray, _, hk, rfl, rfl, rfl, by rw [List.size_toArray, hints.length]; exact l1, by simpa using hv⟩) KX G.T.g G.T.b G.T.builtins G.T.nolimit hg t1 t2 t3 G.T.bmain hobj hv l1 hr hF hb fun H hH hS => hsp H a ns hlen hH hS
  | none =>
    refine law_runG (fun b => if b = a then some (.frz { cls := .type "list", data := .seq vs.toArray } (.lst (ns.map V.int))) else none) (fun b => ?_) (.inl (.inr ⟨_, by rw [hp0_off off]; exact if_pos rfl⟩)) KX G.T.g G.T.b G.T.builtins G.T.nolimit hg t1 t2 t3 G.T.bmain hobj hv l1 hr hF hb fun H hH hS => hsp H a ns hlen hH hS
    by_cases h : b = a
    · exact .inr ⟨h, hk, if_pos h⟩
    · exact .inl (if_neg h)
end Y
set_option Elab.async false
set_option linter.all false
set_option maxRecDepth 100000
set_option maxHeartbeats 2000000
namespace L2
open PySem PySem.Spec PyProof.Rows
/-! ### is the tuple in the set? -/
abbrev prb (m : Nat) (h : Int) (c : Nat) : SetTable.Probe := nth m (runAt m (SetTable.bits h % (m + 1)) (SetTable.bits h)) c
theorem prb_add (m : Nat) (h : Int) (c q : Nat) : nth m (prb m h c) q = prb m h (c + q) := (nth_add m c _ q).symm
theorem prb_j (m : Nat) (h : Int) (c q : Nat) : (nth m (prb m h c) q).j = way m h (c + q) := congrArg SetTable.Probe.j (prb_add m h c q)
theorem nth_dummy (m : Nat) : ∀ (n : Nat) (p : SetTable.Probe), p.dummy = none → (nth m p n).dummy = none
  | 0, _, h => h
  | n + 1, p, h => nth_dummy m n (adv m p) (by unfold adv; split <;> exact h)
section
variable {P : Program} {w : World} {A : Around} {E : Value → Shared → Prop} {s : Shared}
variable {a : Addr} {L : List (Addr × List Int)} {es : Array (Int × Value)} {ep : Nat} {t : SetTable}
theorem find_from (R : SetTR P w s.heap a L es ep t) {x : Addr} {k : List Int} (hx : IsT P w s.heap k x) (hu : A.units < cLine) {N : Nat} (hN : N < 10 * SetTable.turns t.mask)
    (free : way t.mask (thash P w k) N ∉ t.place.toList) (used : ∀ c, c < N → way t.mask (thash P w k) c ∈ t.place.toList) {Q : SetFound → Shared → Prop}
    (yes : k ∈ L.map (·.2) → ∀ i, Q (.there (some i)) s) (no : k ∉ L.map (·.2) → ∀ j d, Q (.free j d) s) :
    ∀ (f c : Nat) (st : Option SetTable.Probe), st.getD (t.probeStart (thash P w k)) = prb t.mask (thash P w k) c → c ≤ N → N - c < f →
      (∀ (i : Nat) p, L[i]? = some p → p.2 = k → ∃ c', c ≤ c' ∧ c' < N ∧ t.place.toList[i]? = some (way t.mask (thash P w k) c')) →
      wpAny (model P w) A (setSearchFrom a (.ref x) (thash P w k) false f st) Q E s
  | 0, _, _, _, _, hf, _ => absurd hf (Nat.not_lt_zero _)
  | f + 1, c, st, hst, hc, hf, hre => by
    obtain ⟨ob, hob, hexact, hdata⟩ := R.ob
    rw [setSearchFrom_succ]
    refine wpAny_bind (wpAny_setState_of hob hdata R.fits ?_)
    dsimp only
    refine wp_if_neg R.gw ?_
    try refine wpAny_bind (wpAny_pure ?_)
    have at_c : c + (N - c) = N := by omega
    have hashOf : ∀ (i : Nat) p, L[i]? = some p → (fun i => (es[i]?.map (·.1)).getD 0) i = thash P w p.2 := fun i p hp => by
      show (es[i]?.map (·.1)).getD 0 = _
      rw [R.entry hp] <;> rfl
    have spec := go_spec t R.tab.ris R.tab.dm (fun i => (es[i]?.map (·.1)).getD 0) (thash P w k) (10 * SetTable.turns t.mask) (N - c) (prb t.mask (thash P w k) c) (nth_dummy _ _ _ rfl) (by omega)
      (fun q hq => by rw [prb_j]; exact used (c + q) (by omega)) (by rw [prb_j, at_c]; exact free)
    rcases spec with ⟨q, i, hq, hi, hh, hno, hpr⟩ | ⟨hno, hpr⟩
    · have hpr' : t.probe (fun i => (es[i]?.map (·.1)).getD 0) (thash P w k) (st.getD (t.probeStart (thash P w k))) = some (.candidate (way t.mask (thash P w k) (c + q)) i (prb t.mask (thash P w k) (c + (q + 1)))) := by
        rw [hst, ← prb_j, ← prb_add]
        exact hpr
      rw [hpr']
      dsimp only
      rw [prb_j] at hi
      have hil : i < L.length := by
        have h1 : i < t.place.toList.length := (List.getElem?_eq_some_iff.mp hi).1
        have h2 : t.place.size = _ := R.tab.sz
        rw [List.length_map] at h2
        rw [Array.length_toList] at h1
        omega
      obtain ⟨p, hp⟩ : ∃ p, L[i]? = some p := ⟨L[i], List.getElem?_eq_getElem hil⟩
      have hmem : p ∈ L := List.mem_of_getElem? hp
      have isp := R.tup p hmem
      have rest : wpAny (model P w) A (searchRest a (.ref x) (thash P w k) false f es t (way t.mask (thash P w k) (c + q)) i (prb t.mask (thash P w k) (c + (q + 1)))) Q E s := by
        unfold searchRest
        rw [R.entry hp]
        dsimp only
        refine wpAny_bind (wpAny_holding (wpAny_eqBool_tuple hu isp hx ?_))
        refine wpAny_bind (wpAny_setState_of hob hdata R.fits ?_)
        dsimp only
        refine wp_if_neg (by simp) ?_
        try refine wpAny_bind (wpAny_pure ?_)
        rw [sameMem]
        dsimp only
        have live : t.slot (way t.mask (thash P w k) (c + q)) = .live i := slot_live R.tab.ris hi
        simp only [if_true, live, R.entry hp]
        refine wpAny_bind (wpAny_isSame_ref_self (wpAny_bind (wpAny_pure ?_)))
        simp only [if_true]
        by_cases same : p.2 = k
        · refine wp_if_pos (by simp [same]) ?_
          exact wpAny_pure (yes (List.mem_map.mpr ⟨p, hmem, same⟩) i)
        · refine wp_if_neg (by simp [same]) ?_
          refine find_from R hx hu hN free used yes no f (c + (q + 1)) _ rfl (by omega) (by omega) fun i0 p0 h0 hk0 => ?_
          obtain ⟨c', a1, a2, a3⟩ := hre i0 p0 h0 hk0
          refine ⟨c', ?_, a2, a3⟩
          rcases Nat.lt_trichotomy c' (c + q) with z | z | z
          · exact absurd ((hashOf i0 p0 h0).trans (congrArg (thash P w) hk0)) (hno (c' - c) i0 (by omega) (by rw [prb_j, show c + (c' - c) = c' by omega]; exact a3))
          · rw [z] at a3
            have s0 : t.slot (way t.mask (thash P w k) (c + q)) = .live i0 := slot_live R.tab.ris a3
            rw [live] at s0
            injection s0 with s0
            rw [← s0, hp] at h0
            exact absurd ((congrArg Prod.snd (Option.some.inj h0)).trans hk0) same
          · omega
      by_cases hl : t.led = true
      · refine wp_if_neg (by simp [hl]) ?_
        try refine wpAny_bind (wpAny_pure ?_)
        exact rest
      · refine wp_if_pos (by simp [hl]) ?_
        refine wpAny_bind (seen_tup hx (fun y hy => ?_) ?_)
        · obtain ⟨e, he, ee⟩ := List.mem_map.mp hy
          have both : e ∈ es ∧ e.1 = thash P w k := by simpa using he
          have he2 : e ∈ es.toList := Array.mem_toList_iff.mpr both.1
          rw [R.rows] at he2
          obtain ⟨p2, hp2, e2⟩ := List.mem_map.mp he2
          exact ⟨p2.2, p2.1, by rw [← ee, ← e2], R.tup p2 hp2⟩
        · refine wp_if_neg (by decide) ?_
          try refine wpAny_bind (wpAny_pure ?_)
          exact rest
    · have hpr' : t.probe (fun i => (es[i]?.map (·.1)).getD 0) (thash P w k) (st.getD (t.probeStart (thash P w k))) = some (.empty (way t.mask (thash P w k) N) none) := by
        have e2 : way t.mask (thash P w k) N = (nth t.mask (prb t.mask (thash P w k) c) (N - c)).j := by rw [prb_j, at_c]
        rw [hst, e2]
        exact hpr
      rw [hpr']
      dsimp only
      refine wpAny_pure (no (fun hm => ?_) _ _)
      obtain ⟨p0, h0, hk0⟩ := List.mem_map.mp hm
      obtain ⟨i0, hi0, e0⟩ := List.getElem_of_mem h0
      have at0 : L[i0]? = some p0 := by rw [List.getElem?_eq_getElem hi0, e0]
      obtain ⟨c', a1, a2, a3⟩ := hre i0 p0 at0 hk0
      exact absurd ((hashOf i0 p0 at0).trans (congrArg (thash P w) hk0)) (hno (c' - c) i0 (by omega) (by rw [prb_j, show c + (c' - c) = c' by omega]; exact a3))
theorem find_at (R : SetTR P w s.heap a L es ep t) {x : Addr} {k : List Int} (hx : IsT P w s.heap k x) (hu : A.units < cLine) {Q : Option Nat → Shared → Prop}
    (h : ∀ r : Option Nat, r.isSome = decide (k ∈ L.map (·.2)) → Q r s) : wpAny (model P w) A (setFind a (.ref x) (thash P w k)) Q E s := by
  obtain ⟨ob, hob, hexact, hdata⟩ := R.ob
  unfold setFind
  rw [show (100000 : Nat) = 99999 + 1 from rfl]
  unfold setFindIn
  refine wpAny_bind (wpAny_setState_of hob hdata R.fits ?_)
  dsimp only
  refine wp_if_neg (by simp [byScan, Value.scannable]) ?_
  try refine wpAny_bind (wpAny_pure ?_)
  have room := R.room
  obtain ⟨N, hN, free, used⟩ := R.tab.first (by rw [List.length_map]; omega) (thash P w k)
  have big : N < 100000 := by
    have : 10 * SetTable.turns t.mask ≤ 1420 := by
      unfold SetTable.turns
      rcases R.tab.mok with e | e | e <;> omega
    omega
  unfold setSearch
  refine wpAny_bind (find_from R hx hu hN free used (fun hm i => ?_) (fun hm j d => ?_) 100000 0 none rfl (Nat.zero_le _) (by omega) fun i p hp hk => ?_)
  · exact wpAny_pure (h _ (by rw [decide_eq_true hm]; rfl))
  · exact wpAny_pure (h _ (by rw [decide_eq_false hm]; rfl))
  · have hi : (L.map fun p => thash P w p.2)[i]? = some (thash P w k) := by rw [List.getElem?_map, hp, ← hk] <;> rfl
    have hil : i < t.place.toList.length := by
      have h1 : i < L.length := (List.getElem?_eq_some_iff.mp hp).1
      have h2 : t.place.size = _ := R.tab.sz
      rw [List.length_map] at h2
      rw [Array.length_toList]
      omega
    have hj := List.getElem?_eq_getElem hil
    obtain ⟨c, hc, e⟩ := R.tab.before free hi hj
    exact ⟨c, Nat.zero_le _, hc, by rw [hj, e]⟩
theorem in_setT (R : SetTR P w s.heap a L es ep t) {x : Addr} {k : List Int} (hx : IsT P w s.heap k x) (hu : A.units + 64 < cLine) {Q : Value → Shared → Prop}
    (h : Q (.bool (decide (k ∈ L.map (·.2)))) { s with toks := s.toks + (k.length + 1) }) : wpAny (model P w) A (compareOp .In (.ref x) (.ref a)) Q E s := by
  obtain ⟨ob, hob, hexact, hdata⟩ := R.ob
  have hT : s.TypeIs (.ref a) "set" := ⟨ob, hob, hexact.1⟩
  show wpAny _ _ (do return .bool (← contains (.ref a) (.ref x))) Q E s
  refine wpAny_bind ?_
  unfold contains
  try with_reducible refine wpAny_holding ?_
  refine wpAny_bind (wpAny_specialOf hT F.slot_set_contains.lookup ?_)
  show wpAny _ _ (if (some (Value.builtin "set.__contains__") == some Value.none) = true then _ else _) _ E s
  rw [if_neg (by rw [beq_builtin_none]; exact Bool.false_ne_true)]
  refine wpAny_bind (wpAny_callSpecialUnlessNone?_slot (name := Str.ofString "__contains__") hT F.slot_set_contains (wpAny_call_entry F.slot_set_contains hT entry_set_contains ?_ (F.args_set_contains_2 _ _)))
  unfold Builtin.«frozenset.__contains__» Builtin.Frozenset.oneOther
  simp only [List.isEmpty_nil, bind_assoc]
  unfold Builtin.Frozenset.addrOf Builtin.Frozenset.withSetAsKey setContains
  refine wpAny_bind (wpAny_pure ?_)
  try dsimp only
  refine wpAny_bind (wpAny_pure ?_)
  try dsimp only
  refine wpAny_bind (wpAny_tryCatch ?_)
  refine wpAny_holding ?_
  have hu1 : A.in1.units < cLine := Nat.lt_of_le_of_lt (show A.in1.units ≤ A.units + 64 from by show A.units + 1 ≤ A.units + 64; omega) hu
  refine wpAny_bind (wpAny_pyHash_tuple (A := A.in1) hu1 hx ?_)
  refine wpAny_bind (find_at (s := { s with toks := s.toks + (k.length + 1) }) R hx hu1 fun r hr => ?_)
  refine wpAny_pure ?_
  show wpAny _ _ (ret (Value.bool r.isSome)) _ _ _
  rw [hr]
  exact wpAny_pure ⟨_, rfl, wpAny_truthy_bool (wpAny_pure h)⟩
end
def rInSetT (K : PySem.W.Frag) (P : Program) (w : World) : R2 := fun x y H Q => ∃ (a b : Addr) (L : List (Addr × List Int)) (k : List Int), x = .ref b ∧ y = .ref a ∧ H a = some (SetTO P w a L) ∧ (∀ p ∈ L, SqT K H p.1 (p.2.map V.int)) ∧ SqT K H b (k.map V.int) ∧ Q (.bl (decide (k ∈ L.map (·.2)))) H
theorem op_inSetT {X : Cx} (hu : X.A.units + 64 < cLine) : OpR X (compareOp .In) (rInSetT X.K X.prog X.w) := by
  intro pins s σ H x y v u Q I rx ry h
  obtain ⟨a, b, L, k, rfl, rfl, ha, hL, hb, q⟩ := h
  cases rx
  cases ry
  obtain ⟨es, ep, t, R⟩ := SetT0.full (I.hok a _ ha).1 fun p hp => I.isT (hL p hp)
  exact in_setT R (I.isT hb) hu ⟨.bl _, H, I.tok _, rfl, q⟩
end L2
set_option Elab.async false
set_option linter.all false
set_option maxRecDepth 100000
set_option maxHeartbeats 2000000
namespace L2
open PySem PySem.Spec PyProof.Rows
/-! ### len(set(xs)), a list or a tuple of unlike ints -/
def tLenSet2 (K : PySem.W.Frag) (ta : TE) : TE := fun σ H Q => ta σ H fun x H1 => ∃ (l : Addr) (ns : List Int), x = V.ref l ∧ (SqL K H1 l (ns.map V.int) ∨ SqT K H1 l (ns.map V.int)) ∧ ns.length < 64 ∧ ns.Nodup ∧ Q (.int ns.length) H1
theorem pe_lenSet2 {X : Cx} {a : Expr} {ta : TE} {p p2 q pos : Pos} (hc : X.calm = true) (hg : Gl X "len") (hm : X.mg "len" = none) (hg2 : Gl X "set") (hm2 : X.mg "set" = none) (ha : PE X a ta)
    (na : starEach [a] X.env = (false, eval a X.env) :: starEach [] X.env := by rfl) : PE X (.Call (.Name "len" p) [.Call (.Name "set" p2) [a] [] q] [] pos) (tLenSet2 X.K ta) := by
  refine ⟨fun pins s σ H Q I h => ?_⟩
  refine Call_ (ld_blt I hg hm PySem.boot_len (PyProof.Rows.callWith_builtin1 (PyProof.Rows.args_cons ?_ rfl) rfl rfl))
  refine Call_ (ld_blt I hg2 hm2 PyProof.Rows.boot_set (PyProof.Rows.callWith_type1 (PyProof.Rows.args_cons (thn (ha.run pins s σ H _ I h) fun v s1 ⟨x, H1, I1, r1, q1⟩ => PyProof.Rows.args_nil ?_) na) na rfl))
  obtain ⟨l, ns, rfl, hq, few, nd, q1⟩ := q1
  cases r1
  have hd := I1.ok.hd hc
  rcases hq with hq | hq
  · obtain ⟨its, r, pl, hz⟩ := I1.list hq
    have hl : its.toArray.size = ns.length := by rw [List.size_toArray, ← r.length, List.length_map]
    refine call_set_list hd pl.isList (ns := ns) (by simpa using r.ints) (by unfold scanBound; omega) fun h' tk S k => ?_
    rw [hl, firstMet_nodup ns nd ns.length (Nat.le_refl _), List.take_length] at S
    obtain ⟨o, es, ep, t, ho, hex, hdt, _, _, _, hf, hn⟩ := S
    have I2 : Inv X pins σ H1 { s1 with heap := h', toks := tk } := I1.kept fun b o e => k b o (Heap.lt_size e) e
    exact PyProof.Rows.args_nil (call_len_set ho hex hdt hf (by rw [hn] <;> omega) ⟨.int ns.length, H1, I2.tok _, ⟨_, by rw [hn]⟩, q1⟩)
  · obtain ⟨its, rv, pt, hz⟩ := I1.tuple hq
    refine call_set_tupI ns hd (show s1.heap.IsTuple l its.toArray from pt) (ints_of_vals rv) (by unfold scanBound; omega) fun h' tk c R1 hcn k => ?_
    obtain ⟨o, es, ep, t, ho, hex, hdt, g, ndk, hm2, hb, hf, hn, hr, hl2⟩ := R1
    have pm : (es.toList.map keyOf).Perm ns := by
      refine (List.perm_ext_iff_of_nodup ndk nd).mpr fun j => ?_
      rw [← hm2 j, decide_eq_true_eq]
    have hsz : es.size = ns.length := by
      have := pm.length_eq
      rw [List.length_map, Array.length_toList] at this
      exact this
    have I2 : Inv X pins σ H1 { s1 with heap := h', toks := tk } := I1.kept k
    exact PyProof.Rows.args_nil (call_len_set ho hex hdt hf (by rw [hsz] <;> omega) ⟨.int ns.length, H1, I2.tok _, ⟨_, by rw [hsz]⟩, q1⟩)
end L2
set_option Elab.async false
set_option linter.all false
set_option maxRecDepth 100000
set_option maxHeartbeats 2000000
namespace L2
open PySem PySem.Spec PyProof.Rows
/-! ### len(set(xs)), a list or a tuple of any ints: as many as xs exactly if they are unlike -/
theorem perm_of_len : ∀ {L ns : List Int}, L.Nodup → (∀ j ∈ L, j ∈ ns) → L.length = ns.length → L.Perm ns
  | [], ns, _, _, h => by rw [List.eq_nil_of_length_eq_zero h.symm]
  | a :: L, ns, nd, hm, h => by
    obtain ⟨n1, n2⟩ := List.nodup_cons.mp nd
    have ha := hm a List.mem_cons_self
    have p := List.perm_cons_erase ha
    refine List.Perm.trans (List.Perm.cons a (perm_of_len n2 (fun j hj => ?_) ?_)) p.symm
    · exact (List.mem_erase_of_ne (fun z : j = a => n1 (by rw [← z]; exact hj))).mpr (hm j (List.mem_cons_of_mem _ hj))
    · have := p.length_eq
      rw [List.length_cons] at this h
      omega
theorem met_iff {L ns : List Int} (nd : L.Nodup) (hm : ∀ j, j ∈ L ↔ j ∈ ns) : L.length = ns.length ↔ ns.Nodup :=
  ⟨fun h => (perm_of_len nd (fun j => (hm j).mp) h).nodup_iff.mp nd, fun h => ((List.perm_ext_iff_of_nodup nd h).mpr hm).length_eq⟩
theorem met_nodup (val : Nat → Int) : ∀ i, (firstMet val i).Nodup
  | 0 => List.nodup_nil
  | i + 1 => by
    have ih := met_nodup val i
    rw [firstMet_succ]
    unfold step_dedup
    split
    · exact ih
    · rename_i h
      refine List.nodup_append.mpr ⟨ih, List.nodup_cons.mpr ⟨(fun h => by cases h), List.nodup_nil⟩, fun a ha b hb z => h ?_⟩
      rw [List.mem_singleton.mp hb] at z
      exact List.any_eq_true.mpr ⟨a, ha, by rw [z]; exact beq_self_eq_true _⟩
theorem met_mem (ns : List Int) (j : Int) : j ∈ firstMet (fun i => ns.getD i 0) ns.length ↔ j ∈ ns := by
  have h := firstMet_any (fun i => ns.getD i 0) ns.length j
  have e : (List.range ns.length).map (fun i => ns.getD i 0) = ns := by
    refine List.ext_getElem? fun i => ?_
    rw [List.getElem?_map]
    by_cases h : i < ns.length
    · rw [List.getElem?_range h, List.getElem?_eq_getElem h]
      show some (ns.getD i 0) = _
      rw [List.getD_eq_getElem?_getD, List.getElem?_eq_getElem h]
      rfl
    · rw [List.getElem?_eq_none (by rw [List.length_range]; omega), List.getElem?_eq_none (by omega)]
      rfl
  rw [e] at h
  have key : ∀ l : List Int, l.any (· == j) = true ↔ j ∈ l := fun l => by
    rw [List.any_eq_true]
    exact ⟨fun ⟨x, hx, z⟩ => (eq_of_beq z) ▸ hx, fun hx => ⟨j, hx, beq_self_eq_true j⟩⟩
  rw [← key, ← key ns, h]
def tLenSet3 (K : PySem.W.Frag) (ta : TE) : TE := fun σ H Q => ta σ H fun x H1 => ∃ (l : Addr) (ns : List Int), x = V.ref l ∧ (SqL K H1 l (ns.map V.int) ∨ SqT K H1 l (ns.map V.int)) ∧ ns.length < 64 ∧ ∀ c : Nat, c ≤ ns.length → (c = ns.length ↔ ns.Nodup) → Q (.int (c : Int)) H1
theorem pe_lenSet3 {X : Cx} {a : Expr} {ta : TE} {p p2 q pos : Pos} (hc : X.calm = true) (hg : Gl X "len") (hm : X.mg "len" = none) (hg2 : Gl X "set") (hm2 : X.mg "set" = none) (ha : PE X a ta)
    (na : starEach [a] X.env = (false, eval a X.env) :: starEach [] X.env := by rfl) : PE X (.Call (.Name "len" p) [.Call (.Name "set" p2) [a] [] q] [] pos) (tLenSet3 X.K ta) := by
  refine ⟨fun pins s σ H Q I h => ?_⟩
  refine Call_ (ld_blt I hg hm PySem.boot_len (PyProof.Rows.callWith_builtin1 (PyProof.Rows.args_cons ?_ rfl) rfl rfl))
  refine Call_ (ld_blt I hg2 hm2 PyProof.Rows.boot_set (PyProof.Rows.callWith_type1 (PyProof.Rows.args_cons (thn (ha.run pins s σ H _ I h) fun v s1 ⟨x, H1, I1, r1, q1⟩ => PyProof.Rows.args_nil ?_) na) na rfl))
  obtain ⟨l, ns, rfl, hq, few, q1⟩ := q1
  cases r1
  have hd := I1.ok.hd hc
  rcases hq with hq | hq
  · obtain ⟨its, r, pl, hz⟩ := I1.list hq
    have hl : its.toArray.size = ns.length := by rw [List.size_toArray, ← r.length, List.length_map]
    refine call_set_list hd pl.isList (ns := ns) (by simpa using r.ints) (by unfold scanBound; omega) fun h' tk S k => ?_
    rw [hl] at S
    have le := firstMet_length_le (fun i => ns.getD i 0) ns.length
    have iff := met_iff (met_nodup (fun i => ns.getD i 0) ns.length) (met_mem ns)
    generalize firstMet (fun i => ns.getD i 0) ns.length = L at S le iff
    obtain ⟨o, es, ep, t, ho, hex, hdt, _, _, _, hf, hn⟩ := S
    have I2 : Inv X pins σ H1 { s1 with heap := h', toks := tk } := I1.kept fun b o e => k b o (Heap.lt_size e) e
    exact PyProof.Rows.args_nil (call_len_set ho hex hdt hf (by rw [hn] <;> omega) ⟨.int L.length, H1, I2.tok _, ⟨_, by rw [hn]⟩, q1 _ le iff⟩)
  · obtain ⟨its, rv, pt, hz⟩ := I1.tuple hq
    refine call_set_tupI ns hd (show s1.heap.IsTuple l its.toArray from pt) (ints_of_vals rv) (by unfold scanBound; omega) fun h' tk c R1 hcn k => ?_
    obtain ⟨o, es, ep, t, ho, hex, hdt, g, ndk, hm2, hb, hf, hn, hr, hl2⟩ := R1
    have mem : ∀ j, j ∈ es.toList.map keyOf ↔ j ∈ ns := fun j => by rw [← hm2 j, decide_eq_true_eq]
    have iff := met_iff ndk mem
    rw [List.length_map, Array.length_toList] at iff
    have le : es.size ≤ ns.length := by
      have L1 : ∀ {L ms : List Int}, L.Nodup → (∀ j ∈ L, j ∈ ms) → L.length ≤ ms.length := fun {L} => by
        induction L with
        | nil => exact fun _ _ => Nat.zero_le _
        | cons a L ih =>
          intro ms nd hm
          obtain ⟨n1, n2⟩ := List.nodup_cons.mp nd
          have p := List.perm_cons_erase (hm a List.mem_cons_self)
          have := ih (ms := ms.erase a) n2 fun j hj => (List.mem_erase_of_ne (fun z : j = a => n1 (by rw [← z]; exact hj))).mpr (hm j (List.mem_cons_of_mem _ hj))
          have e := p.length_eq
          rw [List.length_cons] at e ⊢
          omega
      have := L1 ndk fun j hj => (mem j).mp hj
      rwa [List.length_map, Array.length_toList] at this
    have I2 : Inv X pins σ H1 { s1 with heap := h', toks := tk } := I1.kept k
    exact PyProof.Rows.args_nil (call_len_set ho hex hdt hf (by omega) ⟨.int es.size, H1, I2.tok _, ⟨_, rfl⟩, q1 _ le iff⟩)
end L2
set_option Elab.async false
set_option linter.all false
set_option maxRecDepth 100000
set_option maxHeartbeats 2000000
/-! list(d.values()) of a dict by rows -/
namespace L2
open PySem PySem.Spec PyProof.Rows
def tListV (td : TE) : TE := fun σ H Q => td σ H fun x H1 => ∃ (d : Addr) (kvs : List (List Key × V)), x = .ref d ∧ Rd H1 d (.dT kvs) ∧ ∀ p, H1 p = none → Q (.ref p) (upd H1 p (.lst (kvs.map (·.2))))
section
variable {X : Cx} {o : Expr} {p pos apos mpos : Pos} {td : TE}
theorem pe_listV (hc : X.calm = true) (hg : Gl X "list") (hm : X.mg "list" = none) (hd : PE X o td) (hbase : attributeBase o "values" X.env (eval o X.env) = eval o X.env := by rfl) (hline : (apos.endLine == mpos.line) = true := by rfl)
    (hse : starEach [Expr.Call (.Attribute o "values" apos) [] [] mpos] X.env = (false, eval (Expr.Call (.Attribute o "values" apos) [] [] mpos) X.env) :: starEach [] X.env := by rfl) :
    PE X (.Call (.Name "list" p) [.Call (.Attribute o "values" apos) [] [] mpos] [] pos) (tListV td) := by
  refine ⟨fun pins s σ H Q I h => ?_⟩
  refine Call_ (ld_blt I hg hm boot_list (PyProof.Rows.callWith_type1 (args_cons (wpAny_Call_method0_late hbase hline (thn (hd.run pins s σ H _ I h) fun v s1 ⟨x, H1, I1, r1, d, kvs, ex, ha, q⟩ => ?_)) hse) hse rfl))
  subst ex
  obtain rfl : v = Value.ref d := r1
  obtain ⟨z, hsys, ks, pr, ob, es, ep, ho, hx, hdt, he, hn⟩ := (show ObjOk X.prog X.w H1 s1.heap d (.dT kvs) from ha.ok I1.hok)
  refine ⟨"dict", "dict.values", F.plainAttrs_dict, F.slot_dict_values, F.type_dict_values, ⟨ob, ho, hx.1⟩, fun b e => ?_, Calls.callWith_builtin rfl (PySem.evalArgs_none ?_)⟩
  · cases e
    exact ⟨ob, ho, hx.2.1⟩
  refine call_meetsIn F.slot_dict_values ⟨ob, ho, hx.1⟩ F.entry_dict_values (F.args_dict_values_1 _) (PySem.meets_dict_values_raw d hsys) ⟨⟨es, ep, ob, ho, hx, hdt⟩, args_nil ?_⟩
  have l1 : es.size = ks.length := by
    have := congrArg List.length he
    rwa [Array.length_toList, List.length_map] at this
  have l2 : kvs.length = ks.length := Paired.length pr
  have keeps : ∀ b u, s1.heap.get? b = some u → (s1.heap.push { cls := .type "dict_values", data := .fields #[.ref d] }).get? b = some u := fun b u e => Heap.get?_push_of_some _ e
  refine PySem.W.kdl_call (KdlSrc.rawValues (es := es) (ep := ep)) (I1.ok.hd hc) ⟨⟨_, Heap.get?_push_size _ rfl, rfl, rfl⟩, ob, keeps _ _ ho, hx, hdt⟩ (by omega) fun h' tk acc' c' kp e it => ?_
  have same : acc'.toList = ks.map fun x => x.2.2 := by
    have hl : acc'.toList.length = ks.length := by rw [Array.length_toList, it.1]; exact l1
    refine List.ext_getElem? fun j => ?_
    rw [List.getElem?_map]
    cases hj : acc'.toList[j]? with
    | none =>
      have := List.getElem?_eq_none_iff.mp hj
      rw [List.getElem?_eq_none (show ks.length ≤ j by omega)]
      rfl
    | some v =>
      obtain ⟨hi, hv⟩ := it.2 j v (by rw [← Array.getElem?_toList]; exact hj)
      have hk : j < ks.length := by omega
      have q1 : es.toList[j]? = some es[j] := by rw [Array.getElem?_toList, Array.getElem?_eq_getElem hi]
      rw [he, List.getElem?_map, List.getElem?_eq_getElem hk] at q1
      rw [List.getElem?_eq_getElem hk, hv, ← Option.some.inj q1]
      rfl
  have vals : ∀ {a : List (List Key × V)} {b : List (List Key × Addr × Value)}, Paired (fun p q => p.fst = q.fst ∧ H1 q.snd.fst = some (.tup (p.fst.map kV)) ∧ RelV p.snd q.snd.snd) a b → Vals (a.map (·.2)) (b.map fun x => x.2.2) := by
    intro a b r
    induction r with
    | nil => exact .nil
    | cons h _ ih => exact .cons h.2.2 ih
  have up : s1.heap.objs.size ≤ (s1.heap.push { cls := .type "dict_values", data := .fields #[.ref d] }).objs.size := by
    rw [Heap.size_push]
    exact Nat.le_succ _
  refine ⟨.ref _, _, I1.laid (t' := tk) (o := .lst (kvs.map (·.2))) (fun b u e' => kp b u (keeps b u e')) up ?_, rfl, q _ (I1.hok.fresh up)⟩
  refine ⟨by rw [List.length_map]; exact z, acc'.toList, c', by rw [same]; exact vals pr, by rw [Array.toArray_toList]; exact e⟩
end
end L2
set_option Elab.async false
set_option linter.all false
set_option maxRecDepth 100000
set_option maxHeartbeats 2000000
namespace Y
open PySem L2
/-! ### all but one object stands -/
def But (p : Addr) (H H' : Hp) : Prop := ∀ b o, b ≠ p → H b = some o → H' b = some o
theorem But.refl (p : Addr) (H : Hp) : But p H H := fun _ _ _ h => h
theorem But.trans {p : Addr} {H H1 H2 : Hp} (a : But p H H1) (b : But p H1 H2) : But p H H2 := fun c o n h => b c o n (a c o n h)
theorem But.upd {p : Addr} {H : Hp} {o : HO} : But p H (upd H p o) := fun b u n h => by rw [upd_ne n]; exact h
theorem But.of_same {p : Addr} {H H' : Hp} (s : Same H H') : But p H H' := fun b o _ h => s b o h
theorem Same.new {H : Hp} {a : Addr} {o : HO} (h : H a = none) : Same H (upd H a o) := fun b u e => by
  rw [upd_ne (ne_of_none e h)]
  exact e
/-! ### the pen's dict -/
def penD (l : Addr) (a g c f : Int) : List (Key × V) :=
  [(Sum.inr "cells", .ref l), (Sum.inr "at", .int a), (Sum.inr "digits", .int g), (Sum.inr "count", .int c), (Sum.inr "fold", .int f)]
theorem k12 : ¬ ((Sum.inr ("cells" : Str) : Key) = Sum.inr ("at" : Str)) := by decide +kernel
theorem k13 : ¬ ((Sum.inr ("cells" : Str) : Key) = Sum.inr ("digits" : Str)) := by decide +kernel
theorem k14 : ¬ ((Sum.inr ("cells" : Str) : Key) = Sum.inr ("count" : Str)) := by decide +kernel
theorem k15 : ¬ ((Sum.inr ("cells" : Str) : Key) = Sum.inr ("fold" : Str)) := by decide +kernel
theorem k21 : ¬ ((Sum.inr ("at" : Str) : Key) = Sum.inr ("cells" : Str)) := by decide +kernel
theorem k23 : ¬ ((Sum.inr ("at" : Str) : Key) = Sum.inr ("digits" : Str)) := by decide +kernel
theorem k24 : ¬ ((Sum.inr ("at" : Str) : Key) = Sum.inr ("count" : Str)) := by decide +kernel
theorem k25 : ¬ ((Sum.inr ("at" : Str) : Key) = Sum.inr ("fold" : Str)) := by decide +kernel
theorem k31 : ¬ ((Sum.inr ("digits" : Str) : Key) = Sum.inr ("cells" : Str)) := by decide +kernel
theorem k32 : ¬ ((Sum.inr ("digits" : Str) : Key) = Sum.inr ("at" : Str)) := by decide +kernel
theorem k34 : ¬ ((Sum.inr ("digits" : Str) : Key) = Sum.inr ("count" : Str)) := by decide +kernel
theorem k35 : ¬ ((Sum.inr ("digits" : Str) : Key) = Sum.inr ("fold" : Str)) := by decide +kernel
theorem k41 : ¬ ((Sum.inr ("count" : Str) : Key) = Sum.inr ("cells" : Str)) := by decide +kernel
theorem k42 : ¬ ((Sum.inr ("count" : Str) : Key) = Sum.inr ("at" : Str)) := by decide +kernel
theorem k43 : ¬ ((Sum.inr ("count" : Str) : Key) = Sum.inr ("digits" : Str)) := by decide +kernel
theorem k45 : ¬ ((Sum.inr ("count" : Str) : Key) = Sum.inr ("fold" : Str)) := by decide +kernel
theorem k51 : ¬ ((Sum.inr ("fold" : Str) : Key) = Sum.inr ("cells" : Str)) := by decide +kernel
theorem k52 : ¬ ((Sum.inr ("fold" : Str) : Key) = Sum.inr ("at" : Str)) := by decide +kernel
theorem k53 : ¬ ((Sum.inr ("fold" : Str) : Key) = Sum.inr ("digits" : Str)) := by decide +kernel
theorem k54 : ¬ ((Sum.inr ("fold" : Str) : Key) = Sum.inr ("count" : Str)) := by decide +kernel
section
variable {l : Addr} {a g c f z : Int}
theorem pen_cells : valV (penD l a g c f) (Sum.inr "cells") = some (.ref l) := valV_pos rfl
theorem pen_at : valV (penD l a g c f) (Sum.inr "at") = some (.int a) := by
  rw [penD, valV_neg k12, valV_pos rfl]
theorem pen_digits : valV (penD l a g c f) (Sum.inr "digits") = some (.int g) := by
  rw [penD, valV_neg k13, valV_neg k23, valV_pos rfl]
theorem pen_count : valV (penD l a g c f) (Sum.inr "count") = some (.int c) := by
  rw [penD, valV_neg k14, valV_neg k24, valV_neg k34, valV_pos rfl]
theorem pen_fold : valV (penD l a g c f) (Sum.inr "fold") = some (.int f) := by
  rw [penD, valV_neg k15, valV_neg k25, valV_neg k35, valV_neg k45, valV_pos rfl]
theorem put_at : putK (penD l a g c f) (Sum.inr "at") (.int z) = penD l z g c f := by
  unfold putK
  rw [if_pos (by rw [valV_any, pen_at]; rfl)]
  simp only [penD, List.map_cons, List.map_nil, if_neg k12, if_neg k32, if_neg k42, if_neg k52, if_pos]
theorem put_digits : putK (penD l a g c f) (Sum.inr "digits") (.int z) = penD l a z c f := by
  unfold putK
  rw [if_pos (by rw [valV_any, pen_digits]; rfl)]
  simp only [penD, List.map_cons, List.map_nil, if_neg k13, if_neg k23, if_neg k43, if_neg k53, if_pos]
theorem put_count : putK (penD l a g c f) (Sum.inr "count") (.int z) = penD l a g z f := by
  unfold putK
  rw [if_pos (by rw [valV_any, pen_count]; rfl)]
  simp only [penD, List.map_cons, List.map_nil, if_neg k14, if_neg k24, if_neg k34, if_neg k54, if_pos]
theorem put_fold : putK (penD l a g c f) (Sum.inr "fold") (.int z) = penD l a g c z := by
  unfold putK
  rw [if_pos (by rw [valV_any, pen_fold]; rfl)]
  simp only [penD, List.map_cons, List.map_nil, if_neg k15, if_neg k25, if_neg k35, if_neg k45, if_pos]
end
/-- the pen at p, b more draws being allowed -/
structure Pen (H : Hp) (p l : Addr) (b : Nat) : Prop where
  ex : ∃ (ns : List Int) (a g c f : Int), H p = some (.dK (penD l a g c f)) ∧ H l = some (.lst (ns.map V.int)) ∧ ns.length ≤ 63 ∧
    0 ≤ a ∧ 0 ≤ g ∧ 0 ≤ c ∧ c + (b : Int) ≤ 2 ^ 40 ∧ 0 ≤ f ∧ f < 2147483587
theorem Pen.less {H : Hp} {p l : Addr} {b b' : Nat} (h : Pen H p l b) (hb : b' ≤ b) : Pen H p l b' := by
  obtain ⟨ns, a, g, c, f, h1, h2, h3, h4, h5, h6, h7, h8, h9⟩ := h.ex
  exact ⟨ns, a, g, c, f, h1, h2, h3, h4, h5, h6, by omega, h8, h9⟩
theorem Pen.there {H : Hp} {p l : Addr} {b : Nat} (h : Pen H p l b) : ∃ kvs, H p = some (.dK kvs) := by
  obtain ⟨ns, a, g, c, f, h1, _⟩ := h.ex
  exact ⟨_, h1⟩
theorem Pen.cells {H : Hp} {p l : Addr} {b : Nat} (h : Pen H p l b) : ∃ vs, H l = some (.lst vs) := by
  obtain ⟨ns, a, g, c, f, _, h2, _⟩ := h.ex
  exact ⟨_, h2⟩
theorem Pen.same {H H' : Hp} {p l : Addr} {b : Nat} (h : Pen H p l b) (s : Same H H') : Pen H' p l b := by
  obtain ⟨ns, a, g, c, f, h1, h2, h3⟩ := h.ex
  exact ⟨ns, a, g, c, f, s _ _ h1, s _ _ h2, h3⟩
theorem Pen.upd {H : Hp} {p l x : Addr} {o : HO} {b : Nat} (h : Pen H p l b) (n1 : p ≠ x) (n2 : l ≠ x) : Pen (upd H x o) p l b := by
  obtain ⟨ns, a, g, c, f, h1, h2, h3⟩ := h.ex
  exact ⟨ns, a, g, c, f, by rw [upd_ne n1]; exact h1, by rw [upd_ne n2]; exact h2, h3⟩
/-- what is new is neither the pen nor its cells -/
theorem Pen.off {H : Hp} {p l x : Addr} {b : Nat} (h : Pen H p l b) (n : H x = none) : p ≠ x ∧ l ≠ x := by
  obtain ⟨kvs, h1⟩ := h.there
  obtain ⟨vs, h2⟩ := h.cells
  exact ⟨ne_of_none h1 n, ne_of_none h2 n⟩
/-! ### the promises -/
def spPen (K : PySem.W.Frag) : Sp := fun vs H Q _ => ∃ (a : Addr) (ns : List Int), vs = [.ref a] ∧ SqL K H a (ns.map V.int) ∧ ns.length ≤ 63 ∧
  ∀ (p l : Addr) (H' : Hp), Pen H' p l (2 ^ 40) → Same H H' → H p = none → Q (.ref p) H'
def spDraw : Sp := fun vs H Q _ => ∃ (p l : Addr) (m : Int) (b : Nat), vs = [.ref p, .int m] ∧ Pen H p l (b + 1) ∧ 0 < m ∧ m ≤ 2 ^ 40 ∧
  ∀ (n : Int) (H' : Hp), 0 ≤ n → n < m → Pen H' p l b → But p H H' → Q (.int n) H'
def spPick (K : PySem.W.Frag) : Sp := fun vs H Q _ => ∃ (p l s : Addr) (xs : List V) (b : Nat), vs = [.ref p, .ref s] ∧ Pen H p l (b + 1) ∧ (SqL K H s xs ∨ SqT K H s xs) ∧ xs ≠ [] ∧ xs.length ≤ 1000000 ∧
  ∀ (x : V) (i : Nat) (H' : Hp), xs[i]? = some x → Pen H' p l b → But p H H' → Q x H'
theorem pen_merge {l : Addr} {a g c f : Int} : mergeK [] (penD l a g c f) = penD l a g c f := by
  show putK (putK (putK (putK (putK ([]) (Sum.inr "cells" : Key) (V.ref l)) (Sum.inr "at" : Key) (V.int a)) (Sum.inr "digits" : Key) (V.int g)) (Sum.inr "count" : Key) (V.int c)) (Sum.inr "fold" : Key) (V.int f) = penD l a g c f
  have e1 : putK ([] : List (Key × V)) (Sum.inr "cells" : Key) (V.ref l) = [((Sum.inr "cells" : Key), V.ref l)] := putK_new _ rfl
  have e2 : putK [((Sum.inr "cells" : Key), V.ref l)] (Sum.inr "at" : Key) (V.int a) = [((Sum.inr "cells" : Key), V.ref l), ((Sum.inr "at" : Key), V.int a)] := putK_new _ (by rw [valV_neg k12]; rfl)
  have e3 : putK [((Sum.inr "cells" : Key), V.ref l), ((Sum.inr "at" : Key), V.int a)] (Sum.inr "digits" : Key) (V.int g) = [((Sum.inr "cells" : Key), V.ref l), ((Sum.inr "at" : Key), V.int a), ((Sum.inr "digits" : Key), V.int g)] := putK_new _ (by rw [valV_neg k13, valV_neg k23]; rfl)
  have e4 : putK [((Sum.inr "cells" : Key), V.ref l), ((Sum.inr "at" : Key), V.int a), ((Sum.inr "digits" : Key), V.int g)] (Sum.inr "count" : Key) (V.int c) = [((Sum.inr "cells" : Key), V.ref l), ((Sum.inr "at" : Key), V.int a), ((Sum.inr "digits" : Key), V.int g), ((Sum.inr "count" : Key), V.int c)] := putK_new _ (by rw [valV_neg k14, valV_neg k24, valV_neg k34]; rfl)
  have e5 : putK [((Sum.inr "cells" : Key), V.ref l), ((Sum.inr "at" : Key), V.int a), ((Sum.inr "digits" : Key), V.int g), ((Sum.inr "count" : Key), V.int c)] (Sum.inr "fold" : Key) (V.int f) = [((Sum.inr "cells" : Key), V.ref l), ((Sum.inr "at" : Key), V.int a), ((Sum.inr "digits" : Key), V.int g), ((Sum.inr "count" : Key), V.int c), ((Sum.inr "fold" : Key), V.int f)] := putK_new _ (by rw [valV_neg k15, valV_neg k25, valV_neg k35, valV_neg k45]; rfl)
  rw [e1, e2, e3, e4, e5]
  rfl
theorem pen_small {l : Addr} {a g c f : Int} : (penD l a g c f).length < sizeLine := by show 5 < sizeLine; decide
section
variable {H : Hp} {p l : Addr} {a g c f z : Int}
theorem get_cells (e : H p = some (.dK (penD l a g c f))) : DGet H p (.str "cells") (some (.ref l)) := .inl ⟨_, Sum.inr "cells", .inl e, rfl, pen_cells.symm⟩
theorem get_at (e : H p = some (.dK (penD l a g c f))) : DGet H p (.str "at") (some (.int a)) := .inl ⟨_, Sum.inr "at", .inl e, rfl, pen_at.symm⟩
theorem get_digits (e : H p = some (.dK (penD l a g c f))) : DGet H p (.str "digits") (some (.int g)) := .inl ⟨_, Sum.inr "digits", .inl e, rfl, pen_digits.symm⟩
theorem get_count (e : H p = some (.dK (penD l a g c f))) : DGet H p (.str "count") (some (.int c)) := .inl ⟨_, Sum.inr "count", .inl e, rfl, pen_count.symm⟩
theorem get_fold (e : H p = some (.dK (penD l a g c f))) : DGet H p (.str "fold") (some (.int f)) := .inl ⟨_, Sum.inr "fold", .inl e, rfl, pen_fold.symm⟩
theorem dput_count (e : H p = some (.dK (penD l a g c f))) : DPut H p (.str "count") (.int z) (upd H p (.dK (penD l a g z f))) := .inl ⟨_, Sum.inr "count", e, rfl, pen_small, by rw [put_count]⟩
theorem dput_at : DPut (upd H p (.dK (penD l a g c f))) p (.str "at") (.int z) (upd H p (.dK (penD l z g c f))) := .inl ⟨_, Sum.inr "at", upd_same, rfl, pen_small, by rw [put_at, upd_upd]⟩
theorem dput_digits : DPut (upd H p (.dK (penD l a g c f))) p (.str "digits") (.int z) (upd H p (.dK (penD l a z c f))) := .inl ⟨_, Sum.inr "digits", upd_same, rfl, pen_small, by rw [put_digits, upd_upd]⟩
theorem dput_fold : DPut (upd H p (.dK (penD l a g c f))) p (.str "fold") (.int z) (upd H p (.dK (penD l a g c z))) := .inl ⟨_, Sum.inr "fold", upd_same, rfl, pen_small, by rw [put_fold, upd_upd]⟩
end
theorem But.keep {p : Addr} {H H' : Hp} {a : Addr} {o u : HO} (s : But p H H') (hp : H p = some u) (h : H a = some o) (d : o ≠ u) : H' a = some o := s a o (fun e => d (by rw [e, hp] at h; exact (Option.some.inj h).symm)) h
theorem ints_at {ns : List Int} {i : Nat} {y : V} (h : (ns.map V.int)[i]? = some y) : ∃ z, ns[i]? = some z ∧ y = V.int z := by
  rw [List.getElem?_map] at h
  cases e : ns[i]? with
  | none => rw [e] at h; cases h
  | some z => rw [e] at h; exact ⟨z, rfl, (Option.some.inj h).symm⟩
end Y
namespace Y
open PySem L2
theorem atI_int {α : Type} {xs : List α} {i : Int} {v : α} (h0 : 0 ≤ i) (h : xs[i.toNat]? = some v) : atI xs i = some v := by
  have := atI_nat h
  rwa [show ((i.toNat : Nat) : Int) = i by omega] at this
/-- an item that is there -/
theorem there_int {α : Type} {xs : List α} {i : Int} (h0 : 0 ≤ i) (h1 : i < (xs.length : Int)) : ∃ v, xs[i.toNat]? = some v ∧ atI xs i = some v := by
  have h : i.toNat < xs.length := by omega
  exact ⟨xs[i.toNat], List.getElem?_eq_getElem h, atI_int h0 (List.getElem?_eq_getElem h)⟩
theorem But.seq {K : PySem.W.Frag} {p : Addr} {H H' : Hp} {a : Addr} {xs : List V} {kvs : List (Key × V)} (e : But p H H') (hp : H p = some (.dK kvs)) (h : SqL K H a xs) : SqL K H' a xs := by
  rcases h with (h | ⟨o, h⟩) | h
  · exact .inl (.inl (e.keep hp h (by intro z; cases z)))
  · exact .inl (.inr ⟨o, e.keep hp h (by intro z; cases z)⟩)
  · exact .inr h
theorem But.seqT {K : PySem.W.Frag} {p : Addr} {H H' : Hp} {a : Addr} {xs : List V} {kvs : List (Key × V)} (e : But p H H') (hp : H p = some (.dK kvs)) (h : SqT K H a xs) : SqT K H' a xs := by
  rcases h with (h | ⟨o, h⟩) | h
  · exact .inl (.inl (e.keep hp h (by intro z; cases z)))
  · exact .inl (.inr ⟨o, e.keep hp h (by intro z; cases z)⟩)
  · exact .inr h
end Y
set_option Elab.async false
set_option linter.all false
set_option maxRecDepth 100000
set_option maxHeartbeats 2000000
namespace Y
open PySem PySem.Spec PyProof.Rows L2
/-! ### all but dicts stands -/
def Kp (H H' : Hp) : Prop := ∀ b o, H b = some o → (∀ kvs, o ≠ .dK kvs) → H' b = some o
theorem Kp.refl (H : Hp) : Kp H H := fun _ _ h _ => h
theorem Kp.trans {H H1 H2 : Hp} (a : Kp H H1) (b : Kp H1 H2) : Kp H H2 := fun c o h n => b c o (a c o h n) n
theorem Kp.of_same {H H' : Hp} (s : Same H H') : Kp H H' := fun b o h _ => s b o h
theorem Kp.of_but {p : Addr} {H H' : Hp} {kvs : List (Key × V)} (s : But p H H') (h : H p = some (.dK kvs)) : Kp H H' := fun b o e n => s b o (fun z => n kvs (by rw [z, h] at e; exact (Option.some.inj e).symm)) e
theorem Kp.new {H : Hp} {a : Addr} {o : HO} (h : H a = none) : Kp H (upd H a o) := .of_same (Same.new h)
/-- a store at an object that is new -/
theorem Kp.upd {H H' : Hp} {a : Addr} {o : HO} (s : Kp H H') (h : H a = none) : Kp H (upd H' a o) := fun b u e n => by rw [upd_ne (ne_of_none e h)]; exact s b u e n
section
variable {K : PySem.W.Frag} {H H' : Hp}
theorem Kp.lst {a : Addr} {xs : List V} (s : Kp H H') (h : H a = some (.lst xs)) : H' a = some (.lst xs) := s _ _ h fun _ z => by cases z
theorem Kp.tup {a : Addr} {xs : List V} (s : Kp H H') (h : H a = some (.tup xs)) : H' a = some (.tup xs) := s _ _ h fun _ z => by cases z
theorem Kp.seqT {a : Addr} {xs : List V} (s : Kp H H') (h : SqT K H a xs) : SqT K H' a xs := by
  rcases h with (h | ⟨o, h⟩) | h
  · exact .inl (.inl (s _ _ h fun _ z => by cases z))
  · exact .inl (.inr ⟨o, s _ _ h fun _ z => by cases z⟩)
  · exact .inr h
theorem Kp.seqL {a : Addr} {xs : List V} (s : Kp H H') (h : SqL K H a xs) : SqL K H' a xs := by
  rcases h with (h | ⟨o, h⟩) | h
  · exact .inl (.inl (s _ _ h fun _ z => by cases z))
  · exact .inl (.inr ⟨o, s _ _ h fun _ z => by cases z⟩)
  · exact .inr h
theorem Kp.seq {a : Addr} {xs : List V} (s : Kp H H') (h : SqL K H a xs ∨ SqT K H a xs) : SqL K H' a xs ∨ SqT K H' a xs := h.imp s.seqL s.seqT
mutual
theorem Kp.dp (s : Kp H H') : ∀ {v : V} {d : PyData}, Dp K H v d → Dp K H' v d
  | _, _, .non => .non
  | _, _, .bl b => .bl b
  | _, _, .int i => .int i
  | _, _, .str x => .str x
  | _, _, .lst h t => .lst (s.seqL h) (Kp.dpAll s t)
  | _, _, .tup h t => .tup (s.seqT h) (Kp.dpAll s t)
theorem Kp.dpAll (s : Kp H H') : ∀ {vs : List V} {ds : List PyData}, DpAll K H vs ds → DpAll K H' vs ds
  | _, _, .nil => .nil
  | _, _, .cons h t => .cons (Kp.dp s h) (Kp.dpAll s t)
end
end
theorem erase_perm {α : Type} : ∀ {l : List α} {k : Nat} {y : α}, l[k]? = some y → (y :: l.eraseIdx k).Perm l
  | [], k, y, h => by simp at h
  | a :: l, 0, y, h => by cases Option.some.inj h; exact .refl _
  | a :: l, k + 1, y, h => (List.Perm.swap a y _).trans ((erase_perm (l := l) (k := k) (y := y) h).cons a)
theorem pop_perm {α : Type} {f l xs : List α} {k : Nat} {y : α} (h : l[k]? = some y) (p : (f ++ l).Perm xs) : ((f ++ [y]) ++ l.eraseIdx k).Perm xs := by
  rw [List.append_assoc]
  exact ((erase_perm h).append_left f).trans p
theorem get_of_lt {α : Type} {l : List α} {n : Int} (h0 : 0 ≤ n) (h1 : n < l.length) : ∃ y, l[n.toNat]? = some y := ⟨l[n.toNat]'(by omega), List.getElem?_eq_getElem (by omega)⟩
end Y
set_option Elab.async false
set_option linter.all false
set_option maxRecDepth 100000
set_option maxHeartbeats 2000000
/-! comprehensions whose items are reckoned without a trace: the new list holds the values in order -/
namespace Y
open PySem PySem.Spec PyProof.Rows L2
theorem take_next {α : Type} : ∀ {l : List α} {i : Nat} {x : α}, l[i]? = some x → l.take (i + 1) = l.take i ++ [x]
  | [], i, x, h => by simp at h
  | a :: l, 0, x, h => by
    cases Option.some.inj h
    rfl
  | a :: l, i + 1, x, h => by
    have ih := take_next (l := l) (i := i) (x := x) h
    show a :: l.take (i + 1) = a :: l.take i ++ [x]
    rw [ih]
    rfl
section
variable {K : PySem.W.Frag} {a D : Addr} {xs : List V} {g : TG} {te : TE} {vs : List Nat} {σ : L2.St} {H1 : Hp} {Qd : Hp → Prop} {f : V → V}
/-- over a list -/
theorem lcp_list (hn : H1 D = none) (hz : xs.length ≤ 1000000) (ha : SqL K H1 a xs)
    (he : ∀ (i : Nat) (x : V) (H : Hp) (R : VK), xs[i]? = some x → Same H1 H → R (f x) H → g x (wipe σ vs) H fun σ2 H2 => wipe σ2 vs = wipe σ vs ∧ te σ2 H2 R) (hd : Qd (upd H1 D (.lst (xs.map f)))) :
    ∃ W : Nat → Nat → Hp → Prop, (∃ m, W 0 m (upd H1 D (.lst []))) ∧ ∀ i m H, W i m H →
      ((Itl K a).stop i H ∧ Qd H) ∨ ((Itl K a).go i H ∧ ∃ Nx : Hp → Prop, (∀ H', Nx H' → ∃ m', m' < m ∧ W (i + 1) m' H') ∧ ∀ x H', (Itl K a).yld i H x H' → g x (wipe σ vs) H' fun σ2 H2 => wipe σ2 vs = wipe σ vs ∧ tYes σ2 H2 fun b H3 =>
        if b = true then te σ2 H3 fun y H4 => ∃ acc, H4 D = some (.lst acc) ∧ acc.length < sizeLine ∧ Nx (upd H4 D (.lst (acc ++ [y]))) else Nx H3) := by
  refine lc_list (K := K) (a := a) (xs := xs) (fun i H => H = upd H1 D (.lst ((xs.take i).map f))) rfl (fun i H _ e => ?_) (fun i x H hi e => ?_) (fun H e => ?_)
  · rw [e]
    exact (Y.Same.new hn).seq ha
  · subst e
    refine he i x _ _ hi (Y.Same.new hn) ⟨(xs.take i).map f, upd_same, ?_, ?_⟩
    · rw [List.length_map, List.length_take]
      have : sizeLine = 16777216 := sizeLine_eq
      omega
    · rw [upd_upd, take_next hi, List.map_append]
      rfl
  · rw [e, List.take_length]
    exact hd
/-- over a tuple -/
theorem lcp_tup (hn : H1 D = none) (hz : xs.length ≤ 1000000) (ha : SqT K H1 a xs) (hS : ∀ H', Same H1 H' → SqT K H' a xs)
    (he : ∀ (i : Nat) (x : V) (H : Hp) (R : VK), xs[i]? = some x → Same H1 H → R (f x) H → g x (wipe σ vs) H fun σ2 H2 => wipe σ2 vs = wipe σ vs ∧ te σ2 H2 R) (hd : Qd (upd H1 D (.lst (xs.map f)))) :
    ∃ W : Nat → Nat → Hp → Prop, (∃ m, W 0 m (upd H1 D (.lst []))) ∧ ∀ i m H, W i m H →
      ((Itt K a).stop i H ∧ Qd H) ∨ ((Itt K a).go i H ∧ ∃ Nx : Hp → Prop, (∀ H', Nx H' → ∃ m', m' < m ∧ W (i + 1) m' H') ∧ ∀ x H', (Itt K a).yld i H x H' → g x (wipe σ vs) H' fun σ2 H2 => wipe σ2 vs = wipe σ vs ∧ tYes σ2 H2 fun b H3 =>
        if b = true then te σ2 H3 fun y H4 => ∃ acc, H4 D = some (.lst acc) ∧ acc.length < sizeLine ∧ Nx (upd H4 D (.lst (acc ++ [y]))) else Nx H3) := by
  refine lc_tup (K := K) (a := a) (xs := xs) (fun i H => H = upd H1 D (.lst ((xs.take i).map f))) rfl (fun i H _ e => ?_) (fun i x H hi e => ?_) (fun H e => ?_)
  · rw [e]
    exact hS _ (Y.Same.new hn)
  · subst e
    refine he i x _ _ hi (Y.Same.new hn) ⟨(xs.take i).map f, upd_same, ?_, ?_⟩
    · rw [List.length_map, List.length_take]
      have : sizeLine = 16777216 := sizeLine_eq
      omega
    · rw [upd_upd, take_next hi, List.map_append]
      rfl
  · rw [e, List.take_length]
    exact hd
/-- over a text, sign by sign -/
theorem lcp_str {t : Str} {f : Nat → V} (hn : H1 D = none) (hz : t.cps.size ≤ 1000000)
    (he : ∀ (i c : Nat) (H : Hp) (R : VK), t.cps[i]? = some c → Same H1 H → R (f c) H → g (.str ⟨#[c]⟩) (wipe σ vs) H fun σ2 H2 => wipe σ2 vs = wipe σ vs ∧ te σ2 H2 R) (hd : Qd (upd H1 D (.lst (t.cps.toList.map f)))) :
    ∃ W : Nat → Nat → Hp → Prop, (∃ m, W 0 m (upd H1 D (.lst []))) ∧ ∀ i m H, W i m H →
      ((Its t).stop i H ∧ Qd H) ∨ ((Its t).go i H ∧ ∃ Nx : Hp → Prop, (∀ H', Nx H' → ∃ m', m' < m ∧ W (i + 1) m' H') ∧ ∀ x H', (Its t).yld i H x H' → g x (wipe σ vs) H' fun σ2 H2 => wipe σ2 vs = wipe σ vs ∧ tYes σ2 H2 fun b H3 =>
        if b = true then te σ2 H3 fun y H4 => ∃ acc, H4 D = some (.lst acc) ∧ acc.length < sizeLine ∧ Nx (upd H4 D (.lst (acc ++ [y]))) else Nx H3) := by
  refine ⟨fun i m H => m = t.cps.size - i ∧ i ≤ t.cps.size ∧ H = upd H1 D (.lst ((t.cps.toList.take i).map f)), ⟨t.cps.size, by simp, Nat.zero_le _, rfl⟩, ?_⟩
  rintro i m H ⟨rfl, hi, rfl⟩
  by_cases c : i < t.cps.size
  · refine .inr ⟨c, fun H => H = upd H1 D (.lst ((t.cps.toList.take (i + 1)).map f)), fun H' e => ⟨t.cps.size - (i + 1), by omega, rfl, c, e⟩, ?_⟩
    rintro x H' ⟨rfl, d, hd', rfl⟩
    refine he i d _ _ hd' (Y.Same.new hn) ⟨_, upd_same, ?_, ?_⟩
    · rw [List.length_map]
      have : sizeLine = 16777216 := sizeLine_eq
      have := List.length_take_le i t.cps.toList
      omega
    · have e : t.cps.toList[i]? = some d := by rw [Array.getElem?_toList]; exact hd'
      rw [upd_upd, take_next e, List.map_append]
      rfl
  · refine .inl ⟨by show t.cps.size ≤ i; omega, ?_⟩
    rw [List.take_of_length_le (by rw [Array.length_toList]; omega)]
    exact hd
end
theorem Same.seqT {K : PySem.W.Frag} {H H' : Hp} {a : Addr} {xs : List V} (e : Same H H') (h : SqT K H a xs) : SqT K H' a xs := by
  rcases h with (h | ⟨o, h⟩) | h
  · exact .inl (.inl (e _ _ h))
  · exact .inl (.inr ⟨o, e _ _ h⟩)
  · exact .inr h
end Y
namespace Y
open PySem PySem.Spec PyProof.Rows L2
section
variable {X : Cx} {x : Str} {pos : Pos}
/-- a name of the module: an int, a text, an object -/
theorem pgI {i : Int} {t : Tok} (hm : X.mg x = some (.int i t)) (hg : Gl X x := by rfl) (hd : (x == ("__debug__" : Str)) = false := by decide) : PE X (.Name x pos) (tC (.int i)) := pe_glob (v := .int i) hg hm ⟨_, rfl⟩ hd
theorem pgS {z : Str} {t : Tok} (hm : X.mg x = some (.str z t)) (hg : Gl X x := by rfl) (hd : (x == ("__debug__" : Str)) = false := by decide) : PE X (.Name x pos) (tC (.str z)) := pe_glob (v := .str z) hg hm ⟨_, rfl⟩ hd
theorem pgR {a : Addr} (hm : X.mg x = some (.ref a)) (hg : Gl X x := by rfl) (hd : (x == ("__debug__" : Str)) = false := by decide) : PE X (.Name x pos) (tC (.ref a)) := pe_glob (v := .ref a) hg hm rfl hd
/-- a built-in class as a value -/
theorem pbT {n : String} (hm : X.mg x = none) (hv : bootBuiltins x = some (.type n)) (hg : Gl X x := by rfl) (hn : x ≠ "__name__" := by decide) (hd : (x == ("__debug__" : Str)) = false := by decide) : PE X (.Name x pos) (tC (.ty n)) := pe_bltn (v := .ty n) hg hm hv rfl hn hd
end
theorem ifT {c : Bool} {A B : Prop} (h : c = true → A) (h2 : c = false → B) : if c = true then A else B := by
  cases c with
  | true => rw [if_pos rfl]; exact h rfl
  | false => rw [if_neg Bool.false_ne_true]; exact h2 rfl
theorem len_cps (t : Str) : t.cps.toList.length = t.length := by simp [Str.length]
theorem small_line {n : Nat} (h : n ≤ 1000) : n ≤ sizeLine := Nat.le_trans h (by decide)
end Y
set_option Elab.async false
set_option linter.all false
set_option maxRecDepth 100000
set_option maxHeartbeats 2000000
namespace Y
open PySem PySem.Spec PyProof.Rows L2
/-! ### walks over a variable that holds a list or a tuple, whichever it is -/
abbrev SqA (K : PySem.W.Frag) (H : Hp) (a : Addr) (xs : List V) : Prop := SqL K H a xs ∨ SqT K H a xs
theorem Same.refl' (H : Hp) : Same H H := fun _ _ h => h
theorem Same.seqA {K : PySem.W.Frag} {H H' : Hp} {a : Addr} {xs : List V} (e : Same H H') (h : SqA K H a xs) : SqA K H' a xs := h.imp e.seq (Same.seqT e)
theorem walk_enumT {K : PySem.W.Frag} {a : Addr} {xs : List V} : Walk (IteT K a) xs.length (fun H => SqT K H a xs) (YPair (fun i => some (.int (i : Nat))) (fun i => xs[i]?)) := by
  refine ⟨fun i _ hi q => ⟨xs, xs[i], q, by simp [hi]⟩, fun _ q => ⟨xs, q, rfl⟩, fun i H v H' _ q y => ?_⟩
  obtain ⟨T, x, e1, e2, e3, h⟩ := y
  exact ⟨T, _, x, e1, e2, e3, rfl, h xs q⟩
theorem walk_revT {K : PySem.W.Frag} {a : Addr} {xs : List V} : Walk (RT.ItvT K a xs.length) xs.length (fun H => SqT K H a xs) (fun i H x H' => H' = H ∧ xs[xs.length - 1 - i]? = some x) :=
  ⟨fun i _ hi q => ⟨hi, xs, xs[xs.length - 1 - i]'(by omega), q, by simp [show xs.length - 1 - i < xs.length by omega]⟩, fun _ _ => Nat.le_refl _, fun _ _ _ _ _ q y => ⟨y.1, y.2 xs q⟩⟩
def YRev (xs : List V) : Nat → Hp → V → Hp → Prop := fun i H x H' => H' = H ∧ xs[xs.length - 1 - i]? = some x
def YEnum (xs : List V) : Nat → Hp → V → Hp → Prop := YPair (fun i => some (.int (i : Nat))) (fun i => xs[i]?)
def iAnyV (K : PySem.W.Frag) (i : Nat) (Y : List V → Nat → Hp → V → Hp → Prop) : TI := fun σ H R => ∃ (a : Addr) (xs : List V) (H0 : Hp), σ[i]? = some (some (.ref a)) ∧ SqA K H0 a xs ∧ Kp H0 H ∧ ∀ (J : It) (G : Hp → Prop), Walk J xs.length G (Y xs) → (∀ H', Kp H0 H' → G H') → R J H
section
variable {X : Cx} {e : Expr} {i : Nat} {p pos tpos : Pos}
theorem pi_enumV {elts : List Expr} {kk : Nat} (hg : Gl X "enumerate") (hm : X.mg "enumerate" = none) (he : PE X e (tVar i)) (hs : starEach [e] X.env = (false, eval e X.env) :: starEach [] X.env := by rfl) : PI X (.Tuple elts kk tpos) (.Call (.Name "enumerate" p) [e] [] pos) (iAnyV X.K i YEnum) := by
  refine ⟨fun pins s σ H R I h => ?_⟩
  obtain ⟨a, xs, H0, hv, c, kp, k⟩ := h
  rcases c with c | c
  · exact (pi_enum (elts := elts) (kk := kk) (tpos := tpos) (p := p) (pos := pos) hg hm (pa_cons he pa_nil hs) (hs.trans rfl)).run pins s σ H R I ⟨_, hv, a, xs, rfl, kp.seqL c, k _ _ walk_enum fun H' s => s.seqL c⟩
  · exact (pi_enumT (elts := elts) (kk := kk) (tpos := tpos) (p := p) (pos := pos) hg hm (pa_cons he pa_nil hs) (hs.trans rfl)).run pins s σ H R I ⟨_, hv, a, xs, rfl, kp.seqT c, k _ _ walk_enumT fun H' s => s.seqT c⟩
theorem pi_revV {tg : Expr} (hg : Gl X "reversed") (hm : X.mg "reversed" = none) (he : PE X e (tVar i)) (hs : starEach [e] X.env = (false, eval e X.env) :: starEach [] X.env := by rfl) : PI X tg (.Call (.Name "reversed" p) [e] [] pos) (iAnyV X.K i YRev) := by
  refine ⟨fun pins s σ H R I h => ?_⟩
  obtain ⟨a, xs, H0, hv, c, kp, k⟩ := h
  refine (RT.pi_revA (p := p) (pos := pos) hg hm he hs).run pins s σ H R I ⟨_, hv, a, xs, rfl, ?_⟩
  exact c.imp (fun c => ⟨kp.seqL c, k _ _ walk_rev fun H' s => s.seqL c⟩) fun c => ⟨kp.seqT c, k _ _ walk_revT fun H' s => s.seqT c⟩
theorem pi_seqV {tg : Expr} (he : PE X e (tVar i)) : PI X tg e (iAnyV X.K i YAt) := by
  refine ⟨fun pins s σ H R I h => ?_⟩
  obtain ⟨a, xs, H0, hv, c, kp, k⟩ := h
  rcases c with c | c
  · exact (pi_list (tg := tg) he).run pins s σ H R I ⟨_, hv, a, rfl, ⟨_, kp.seqL c⟩, k _ _ walk_list fun H' s => s.seqL c⟩
  · exact (pi_tup (tg := tg) he).run pins s σ H R I ⟨_, hv, a, rfl, ⟨_, kp.seqT c⟩, k _ _ walk_tup fun H' s => s.seqT c⟩
end
/-- tuple(xs), a list or a tuple: some tuple of the same -/
def rTupAny (K : PySem.W.Frag) : List V → Hp → VK → Prop := fun xs H Q => ∃ (p : Addr) (ys : List V), xs = [.ref p] ∧ SqA K H p ys ∧ ∀ l H', SqT K H' l ys → Same H H' → Q (.ref l) H'
theorem call_tuple_any {X : Cx} : CallR X (.type "tuple") (rTupAny X.K) := by
  intro pins s σ H xs us Q I r h
  obtain ⟨p, ys, e, h, k⟩ := h
  exact call_tuple_of pins s σ H xs us Q I r ⟨p, ys, e, h.imp (fun h => ⟨h, fun l nl => k l _ (SqT.of upd_same) (Same.new nl)⟩) fun h => ⟨h, k p H h (Same.refl' H)⟩⟩
/-- the same, where the written part is told -/
theorem call_tuple_anyK {X : Cx} {K : PySem.W.Frag} (e : X.K = K) : CallR X (.type "tuple") (rTupAny K) := by
  subst e
  exact call_tuple_any
/-- a comprehension without a trace over any walk -/
theorem lcp_it {J : It} {G : Hp → Prop} {D : Addr} {xs : List V} {g : L2.TG} {te : L2.TE} {vs : List Nat} {σ : L2.St} {H1 : Hp} {Qd : Hp → Prop} {f : V → V} (w : Walk J xs.length G (YAt xs)) (hn : H1 D = none) (hz : xs.length ≤ 1000000) (hG : ∀ H', Kp H1 H' → G H')
    (he : ∀ (i : Nat) (x : V) (H : Hp) (R : VK), xs[i]? = some x → Same H1 H → R (f x) H → g x (wipe σ vs) H fun σ2 H2 => wipe σ2 vs = wipe σ vs ∧ te σ2 H2 R) (hd : Qd (upd H1 D (.lst (xs.map f)))) :
    ∃ W : Nat → Nat → Hp → Prop, (∃ m, W 0 m (upd H1 D (.lst []))) ∧ ∀ i m H, W i m H →
      (J.stop i H ∧ Qd H) ∨ (J.go i H ∧ ∃ Nx : Hp → Prop, (∀ H', Nx H' → ∃ m', m' < m ∧ W (i + 1) m' H') ∧ ∀ x H', J.yld i H x H' → g x (wipe σ vs) H' fun σ2 H2 => wipe σ2 vs = wipe σ vs ∧ tYes σ2 H2 fun b H3 =>
        if b = true then te σ2 H3 fun y H4 => ∃ acc, H4 D = some (.lst acc) ∧ acc.length < sizeLine ∧ Nx (upd H4 D (.lst (acc ++ [y]))) else Nx H3) := by
  refine lc_it w (fun i H => H = upd H1 D (.lst ((xs.take i).map f))) rfl (fun i H _ e => by rw [e]; exact hG _ (Kp.new hn)) (fun i x H H' hi e y => ?_) (fun H e => ?_)
  · subst e
    obtain ⟨rfl, hx⟩ := y
    refine he i x _ _ hx (Y.Same.new hn) ⟨(xs.take i).map f, upd_same, ?_, ?_⟩
    · rw [List.length_map, List.length_take]
      have : sizeLine = 16777216 := sizeLine_eq
      omega
    · rw [upd_upd, take_next hx, List.map_append]
      rfl
  · rw [e, List.take_length]
    exact hd
end Y
set_option Elab.async false
set_option linter.all false
set_option maxRecDepth 100000
set_option maxHeartbeats 2000000
namespace Y
open PySem PySem.Spec PyProof.Rows L2
/-! ### a, b, .. = x, x a list or a tuple -/
def gAny (K : PySem.W.Frag) (n : Nat) (t : TGs) : L2.TG := fun v σ H Q => ∃ a xs, v = .ref a ∧ SqA K H a xs ∧ xs.length = n ∧ t xs σ H Q
theorem pg_any {X : Cx} {K : PySem.W.Frag} {es : List Expr} {k : Nat} {t : TGs} {n : Nat} {pos : Pos} (eK : X.K = K) (hc : X.calm = true) (h : PGs X es t) (hn : (assignEach es X.env).length = n) (hst : (assignEach es X.env).findIdx? (·.1) = none) : PG X (.Tuple es k pos) (gAny K n t) := by
  subst eK
  refine ⟨fun pins s σ H v u Q I r hw => ?_⟩
  obtain ⟨a, xs, e1, hq, hl, hw⟩ := hw
  rcases hq with hq | hq
  · exact (pg_lst (k := k) (pos := pos) hc h hn hst).run pins s σ H v u Q I r ⟨a, xs, e1, hq, hl, hw⟩
  · exact (pg_tup (k := k) (pos := pos) hc h hn hst).run pins s σ H v u Q I r ⟨a, xs, e1, hq, hl, hw⟩
theorem pi_tupK {X : Cx} {K : PySem.W.Frag} {tg l : Expr} {tl : TE} (eK : X.K = K) (hl : PE X l tl) : PI X tg l (iTup K tl) := by
  subst eK
  exact pi_tup hl
/-- a walk's turns, whatever is done in each -/
theorem walk_w {J : It} {n : Nat} {G : Hp → Prop} {Y : Nat → Hp → V → Hp → Prop} (w : Walk J n G Y) (Pv : Nat → Hp → Prop) {H0 : Hp} (h0 : Pv 0 H0) (hG : ∀ i H, i ≤ n → Pv i H → G H) {Body : V → Hp → (Hp → Prop) → Prop} {Done : Hp → Prop}
    (hs : ∀ i x H H', i < n → Pv i H → Y i H x H' → Body x H' (Pv (i + 1))) (hd : ∀ H, Pv n H → Done H) :
    ∃ W : Nat → Nat → Hp → Prop, (∃ m, W 0 m H0) ∧ ∀ i m H, W i m H → (J.stop i H ∧ Done H) ∨ (J.go i H ∧ ∃ Nx : Hp → Prop, (∀ H', Nx H' → ∃ m', m' < m ∧ W (i + 1) m' H') ∧ ∀ x H', J.yld i H x H' → Body x H' Nx) := by
  refine ⟨fun i m H => m = n - i ∧ i ≤ n ∧ Pv i H, ⟨n, by simp, Nat.zero_le _, h0⟩, ?_⟩
  rintro i m H ⟨rfl, hi, p⟩
  have q := hG i H hi p
  by_cases hlt : i < n
  · exact .inr ⟨w.goes i H hlt q, Pv (i + 1), fun H' p' => ⟨n - (i + 1), by omega, rfl, hlt, p'⟩, fun x H' y => hs i x H H' hlt p (w.yields i H x H' hlt q y)⟩
  · have e : i = n := by omega
    subst e
    exact .inl ⟨w.stops H q, hd H p⟩
end Y
set_option Elab.async false
set_option linter.all false
set_option maxRecDepth 100000
set_option maxHeartbeats 4000000
namespace PySem
open Sem (wp)
open AutoSeq1 (wpAny_loadPart')
abbrev kwS (k : Int) (t : Tok) : List (Str × Value) := [(Str.ofString "start", .int k t)]
abbrev itOb (T : String) (l : Addr) : Obj := { cls := .type T, data := .fields #[.ref l, .int 0 0] }
abbrev enOb (a : Addr) (k : Int) : Obj := { cls := .type "enumerate", data := .fields #[.none, .bool false, .ref a, rawInt k, .none, .none] }
theorem meets_enumST (l : Addr) (items : Array Value) (n : Nat) (dct : Option Addr) (sl : Array (Option Value)) (t : Tok) :
    Meets (Builtin.«enumerate.__new__» ⟨[.type "enumerate", .ref l], kwS 1 t⟩) (fun _ R s => s.heap.get? l = some { cls := .type "tuple", dict := dct, data := .seq items n, slots := sl } ∧
      R (.ok (.ret (.ref (s.heap.push (itOb "tuple_iterator" l)).objs.size))) { s with heap := (s.heap.push (itOb "tuple_iterator" l)).push (enOb s.heap.objs.size 1) }) :=
  .of_wp fun prog w A R s h => by
    obtain ⟨hp, g, d, tk, os⟩ := s; obtain ⟨hl, h⟩ := h
    have hsub := sub_enumerate
    have hL : Heap.IsTuple (Shared.heap ⟨hp, g, d, tk, os⟩) l items := ⟨_, hl, rfl, n, rfl⟩
    wp_walk using wpAny_loadPart' hl
    refine wpAny_stack_any fun st => wpAny_pure ?_
    split
    · rename_i c _ _ _ _ _
      cases (c == Value.type "enumerate")
      · wp_walk using wpAny_loadPart' hl, wpAny_pyIter_tuple hL
        exact ⟨_, rfl, h⟩
      · wp_walk using wpAny_loadPart' hl, wpAny_pyIter_tuple hL
        exact ⟨_, rfl, h⟩
    · wp_walk using wpAny_loadPart' hl, wpAny_pyIter_tuple hL
      exact ⟨_, rfl, h⟩
theorem meets_enumSL (l : Addr) (items : Array Value) (n : Nat) (dct : Option Addr) (sl : Array (Option Value)) (t : Tok) :
    Meets (Builtin.«enumerate.__new__» ⟨[.type "enumerate", .ref l], kwS 1 t⟩) (fun _ R s => s.heap.get? l = some { cls := .type "list", dict := dct, data := .seq items n, slots := sl } ∧
      R (.ok (.ret (.ref (s.heap.push (itOb "list_iterator" l)).objs.size))) { s with heap := (s.heap.push (itOb "list_iterator" l)).push (enOb s.heap.objs.size 1) }) :=
  .of_wp fun prog w A R s h => by
    obtain ⟨hp, g, d, tk, os⟩ := s; obtain ⟨hl, h⟩ := h
    have hsub := sub_enumerate
    have hL : Heap.IsList (Shared.heap ⟨hp, g, d, tk, os⟩) l items := ⟨_, hl, rfl, n, rfl⟩
    wp_walk using wpAny_loadPart' hl
    refine wpAny_stack_any fun st => wpAny_pure ?_
    split
    · rename_i c _ _ _ _ _
      cases (c == Value.type "enumerate")
      · wp_walk using wpAny_loadPart' hl, wpAny_pyIter_list hL
        exact ⟨_, rfl, h⟩
      · wp_walk using wpAny_loadPart' hl, wpAny_pyIter_list hL
        exact ⟨_, rfl, h⟩
    · wp_walk using wpAny_loadPart' hl, wpAny_pyIter_list hL
      exact ⟨_, rfl, h⟩
theorem tyCall_kw (l : Addr) (t : Tok) : checkTypeCall "enumerate" ⟨[.ref l], kwS 1 t⟩ = pure () := by kernel_rfl
theorem newCall_kw (l : Addr) (t : Tok) : checkBuiltinCall "enumerate.__new__" ⟨[.type "enumerate", .ref l], kwS 1 t⟩ = pure () := by kernel_rfl
theorem init_kw (o : Value) (l : Addr) (t : Tok) : argsOk "object.__init__" ⟨[o, .ref l], kwS 1 t⟩ := by
  unfold argsOk
  rw [signature?_of (id := "object.__init__") (n := ['_', '_', 't', 'i', 'n', 'i', '_', '_']) (o := ['t', 'c', 'e', 'j', 'b', 'o']) (by kernel_rfl) F.owner_object]
  kernel_rfl
section
variable {prog : Program} {w : World} {A : Around} {E : Value → Shared → Prop} {s : Shared}
theorem init_meets_kw (l : Addr) (t : Tok) (o : Value) : Meets (Builtin.«object.__init__» ⟨[o, .ref l], kwS 1 t⟩) (fun _ R s => s.TypeIs o "enumerate" ∧ R (.ok (.ret .none)) s) := by
  refine Meets.of_wp fun prog w A R s hs => ?_
  obtain ⟨hT, hq⟩ := hs
  have hl := F.called_enumerate.init.lookup
  have hm := F.called_enumerate.made
  have hne : (some "enumerate.__new__" != some "object.__new__") = true := by decide
  repeat (any_goals (first | assumption | wp_step))
  exact ⟨_, rfl, hq⟩
theorem call_enum_kw {l : Addr} {t : Tok} {S : Spec} {Q : Value → Shared → Prop} (g : Meets (Builtin.«enumerate.__new__» ⟨[.type "enumerate", .ref l], kwS 1 t⟩) S) (h : S A.in1 (wants (fun o s₁ => s₁.TypeIs o "enumerate" ∧ Q o s₁) E) s) :
    wpAny (model prog w) A (call (.type "enumerate") [.ref l] (kwS 1 t)) Q E s := by
  obtain ⟨c, tl, hmro⟩ := F.called_enumerate.mro
  have hmade := F.called_enumerate.made
  have hsub := F.called_enumerate.sub
  refine wpAny_call (codeAny_of_tree ?_)
  show wpAny _ _ (callAny (.type "enumerate") _) _ _ _
  refine wpAny_pure ⟨Code.quiet_builtin _ (by decide +kernel), codeAny_builtin F.entry_type_call ?_⟩
  rw [Around.under_plain (weight_type_call_type "enumerate" [.ref l] (kwS 1 t)) (units_type_call_type "enumerate" [.ref l] (kwS 1 t))]
  have h1 := F.called_enumerate.notType
  have h2 := F.called_enumerate.canCreate
  have hct := tyCall_kw l t
  have hcn := newCall_kw l t
  repeat (any_goals (first | assumption | wp_step))
  refine codeAny_mono (codeAny_call_builtin F.called_enumerate.plain F.entry_enumerate_new (wpAny_of_eq hcn (g prog w A.in1 _ s h))) fun r s₁ hr => ?_
  cases r with
  | error e => exact hr
  | ok fl =>
    cases fl with
    | ret obj =>
      obtain ⟨hT, hq⟩ := hr
      have hli := F.called_enumerate.init.lookup
      have hbi := F.called_enumerate.init.bind obj
      repeat (any_goals (first | assumption | wp_step))
      have step : codeAny (model prog w) A.in1 (.call (.builtin "object.__init__") ⟨[obj, .ref l], kwS 1 t⟩) (fun r s' => match r with | .ok (.ret v) => v = .none ∧ Q obj s' | .ok _ => False | .error e => E e s') s₁ :=
        codeAny_call_builtin F.called_enumerate.init.plain F.entry_object_init (F.called_enumerate.init.check _ _ _ _ _ _ _ _ hT (init_kw obj l t) (init_meets_kw l t obj prog w A.in1 (fun r s' => match r with | .ok (.ret v) => v = .none ∧ Q obj s' | .ok _ => False | .error e => E e s') s₁ ⟨hT, rfl, hq⟩))
      refine codeAny_mono step fun r₂ s₂ hr₂ => ?_
      cases r₂ with
      | error e => exact hr₂
      | ok fl₂ =>
        cases fl₂ with
        | ret r =>
          obtain ⟨rfl, hq⟩ := hr₂
          repeat (any_goals (first | assumption | wp_step))
        | _ => exact hr₂.elim
    | _ => exact hr.elim
end
end PySem
set_option Elab.async false
set_option linter.all false
set_option maxRecDepth 100000
set_option maxHeartbeats 4000000
namespace PySem
theorem Draws.later {prog : Program} {w : World} {A : Around} {it : Addr} {fp : List Addr} {n : Nat} {P : Nat → Value → Prop} {St : Nat → Heap → Prop} (D : Draws prog w A it fp n P St) : Draws prog w A it fp (n + 1) (fun i v => P (i - 1) v) (fun i h => 1 ≤ i ∧ St (i - 1) h) where
  live := fun _ _ st => D.live _ _ st.2
  frame := fun _ _ _ st k => ⟨st.1, D.frame _ _ _ st.2 k⟩
  item := fun i s Q E hi st hQ => D.item (i - 1) s Q E (by have := st.1; omega) st.2 fun x h' tk p st' sb => hQ x h' tk p ⟨by omega, by have := st.1; rw [show i + 1 - 1 = i - 1 + 1 by omega]; exact st'⟩ sb
  done := fun s Q E st hE => D.done s Q E (by simpa using st.2) hE
section
variable {M : Model} {A : Around} {E : Value → Shared → Prop} {s : Shared} {env : Env}
/-- a call of a built-in class with keywords -/
theorem callWith_tyKw {pos : Pos} {T : String} {e : Expr} {rest : List Expr} {kws : List Keyword} {Q : Value → Shared → Prop}
    (h : wpAny M A (spliced (backTo pos (starEach (e :: rest) env))) (fun vs s₁ => wpAny M A (evalAll ((backToKw pos (keywordEach kws env)).map (·.2)))
      (fun ks s₂ => wpAny M A (call (.type T) vs (((backToKw pos (keywordEach kws env)).filterMap (·.1)).zip ks)) Q E s₂) E s₁) E s)
    (he : backTo pos (starEach (e :: rest) env) = (false, eval e env) :: backTo pos (starEach rest env) := by rfl)
    (plain : (backTo pos (starEach (e :: rest) env)).any (·.1) = false := by rfl) (named : (backToKw pos (keywordEach kws env)).all (·.1.isSome) = true := by rfl) (none' : (backToKw pos (keywordEach kws env)).any (·.1.isNone) = false := by rfl) :
    wpAny M A (callWith pos (.type T) [] (backTo pos (starEach (e :: rest) env)) (backToKw pos (keywordEach kws env))) Q E s := by
  have args : wpAny M A (evalArgs (.type T) true (backTo pos (starEach (e :: rest) env)) (backToKw pos (keywordEach kws env))) (fun a s₁ => wpAny M A (call (.type T) ([] ++ a.pos) a.kw) Q E s₁) E s := by
    rw [he] at h ⊢
    exact PyProof.Rows.evalArgs_kwB named h
  unfold callWith
  refine wpAny_bind (wpAny_holding (wpAny_mono args (fun a s₁ h₁ => wpAny_bind (wpAny_standAt ?_)) fun _ _ z => z))
  simp only [plain, none', Bool.or_self]
  refine wpAny_bind (wpAny_pure (wpAny_bind (wpAny_mono h₁ (fun r s₂ hr => wpAny_bind (wpAny_holding (wpAny_point (wpAny_pure hr)))) fun _ _ z => z)))
end
end PySem
namespace L2
open PySem PySem.Spec PyProof.Rows
/-- the tuple at a, each item in a new pair, numbered from 1 on -/
def IteST (K : PySem.W.Frag) (a : Addr) : It :=
  ⟨fun i H => ∃ (xs : List V) (x : V), SqT K H a xs ∧ xs[i]? = some x, fun i H v H' => ∃ T x, v = .ref T ∧ H T = none ∧ H' = upd H T (.tup [.int ((i + 1 : Nat) : Int), x]) ∧ ∀ xs, SqT K H a xs → xs[i]? = some x, fun i H => ∃ xs : List V, SqT K H a xs ∧ xs.length = i⟩
theorem turn_enumST {P : Program} {w : World} {K : PySem.W.Frag} {elts : List Expr} {kk : Nat} {tpos : Pos} (a e it : Addr) :
    Turn P w K (.Tuple elts kk tpos) (IteST K a) [e, it] e (fun i h => (∃ old, IsEnum h e it ((i + 1 : Nat) : Int) old) ∧ h.IsTupleIter it a i ∧ e ≠ it ∧ a ≠ it ∧ a ≠ e) where
  mem := by simp
  obj := fun i h st b hb => by
    obtain ⟨⟨old, he⟩, ⟨o, ho, hc, hd⟩, _⟩ := st
    rcases (show b = e ∨ b = it by simpa using hb) with z | z
    · rw [z]; exact ⟨_, he, fun v q => nomatch q⟩
    · rw [z]; exact ⟨o, ho, fun v q => by rw [hd] at q; cases q⟩
  keep := fun i h h' st k => let ⟨⟨old, he⟩, ⟨o, ho, hr⟩, hne⟩ := st; ⟨⟨old, k e (by simp) _ he⟩, ⟨o, k it (by simp) _ ho, hr⟩, hne⟩
  item := by
    intro X hP hw hK hc i pins s σ H E I hf st hg
    subst hP hw hK
    obtain ⟨⟨old, he⟩, hit, hne, hai, hae⟩ := st
    obtain ⟨xs, x, hq, hx⟩ := hg
    obtain ⟨its, rv, p, hz⟩ := I.tuple hq
    obtain ⟨u, hu, ru⟩ := rv.get hx
    have hel : e < s.heap.objs.size := Heap.lt_size he
    have hil : it < s.heap.objs.size := by obtain ⟨_, q, _⟩ := hit; exact Heap.lt_size q
    have hu' : its.toArray[i]? = some u := by simpa using hu
    have hlt : i < its.toArray.size := by
      rcases Nat.lt_or_ge i its.toArray.size with h | h
      · exact h
      · rw [Array.getElem?_eq_none h] at hu'; cases hu'
    refine wpAny_pyNext_enum_itemD (i := i + 1) (Draws.tuple (A := X.A.in1) (I.ok.hd hc) it a hai its.toArray).later he ⟨by omega, hit, p⟩ (by omega) hne (by simp [hne, Ne.symm hae]) fun v h' tk hv ho hst hT hsz hk => ?_
    obtain rfl : v = u := by
      rw [show i + 1 - 1 = i by omega, hu'] at hv
      exact (Option.some.inj hv).symm
    refine ⟨_, rfl, wpAny_letOwnedTupleGo_enum (s := { s with heap := h', toks := tk + 1 }) ho fun h'' he' sb => ?_⟩
    have hT2 : h''.get? s.heap.objs.size = some { cls := .type "tuple", data := .seq #[.int ((i + 1 : Nat) : Int) tk, v] } := (sb.2 _ (Nat.ne_of_gt hel)).trans hT
    have new : ObjOk X.prog X.w (upd H s.heap.objs.size (.tup [.int ((i + 1 : Nat) : Int), x])) h'' s.heap.objs.size (.tup [.int ((i + 1 : Nat) : Int), x]) :=
      ⟨by show 2 ≤ sizeLine; decide, [.int ((i + 1 : Nat) : Int) tk, v], .cons ⟨_, rfl⟩ (.cons ru .nil), ⟨_, hT2, rfl, _, rfl⟩⟩
    have I1 : Inv X pins σ (upd H s.heap.objs.size (.tup [.int ((i + 1 : Nat) : Int), x])) { s with heap := h'', toks := tk + 1 } :=
      I.turnedNew (ch := [e, it]) (fun b ob hb q => (sb.2 b (fun z => hb (by simp [z]))).trans (hk b ob (fun z => hb (by simp [z])) (fun z => hb (by simp [z])) q)) hf (Nat.le_refl _) new
    refine ⟨.ref s.heap.objs.size, _, I1, rfl, ⟨_, x, rfl, I.hok.fresh (Nat.le_refl _), rfl, fun ys hy => by rw [I.tuple_inj hy hq]; exact hx⟩, ⟨⟨v, ?_⟩, ?_, hne, hai, hae⟩, fun b hb => ?_⟩
    · have e1 : ((i + 1 + 1 : Nat) : Int) = ((i + 1 : Nat) : Int) + 1 := by omega
      rw [e1]; exact he'
    · obtain ⟨o, ho2, hr⟩ := hst.2.1
      exact ⟨o, (sb.2 it (Ne.symm hne)).trans ho2, by rw [show i + 1 + 1 - 1 = i + 1 by omega] at hr; exact hr⟩
    · have hb' : b < s.heap.objs.size := by
        rcases (show b = e ∨ b = it by simpa using hb) with z | z
        · rw [z]; exact hel
        · rw [z]; exact hil
      rw [upd_ne (Nat.ne_of_lt hb')]
      exact (hf b hb).1
  done := by
    intro X hP hw hK hc i pins s σ H E I hf st hg
    subst hP hw hK
    obtain ⟨⟨old, he⟩, hit, hne, hai, hae⟩ := st
    obtain ⟨xs, hq, hx⟩ := hg
    obtain ⟨its, rv, p, hz⟩ := I.tuple hq
    obtain ⟨f0, f1, f2, f3, f4, f5⟩ := hf it (by simp)
    have hl := rv.length
    have hi : i = its.toArray.size := by rw [List.size_toArray]; omega
    subst hi
    exact wpAny_pyNext_enum_endD (Draws.tuple (A := X.A.in1) (I.ok.hd hc) it a hai its.toArray) he ⟨hit, p⟩ fun h' eb => ⟨rfl, I.turned (t' := s.toks) (fun b o hb q => eb b o hb q) f0 f1 f3 f4 f5⟩
  self := fun A i s Q E st h => let ⟨⟨_, he⟩, _⟩ := st; wpAny_pyIter_enum he h
/-- the list at a, each item in a new pair, numbered from 1 on -/
def IteSL (K : PySem.W.Frag) (a : Addr) : It :=
  ⟨fun i H => ∃ (xs : List V) (x : V), SqL K H a xs ∧ xs[i]? = some x, fun i H v H' => ∃ T x, v = .ref T ∧ H T = none ∧ H' = upd H T (.tup [.int ((i + 1 : Nat) : Int), x]) ∧ ∀ xs, SqL K H a xs → xs[i]? = some x, fun i H => ∃ xs : List V, SqL K H a xs ∧ xs.length = i⟩
theorem turn_enumSL {P : Program} {w : World} {K : PySem.W.Frag} {elts : List Expr} {kk : Nat} {tpos : Pos} (a e it : Addr) :
    Turn P w K (.Tuple elts kk tpos) (IteSL K a) [e, it] e (fun i h => (∃ old, IsEnum h e it ((i + 1 : Nat) : Int) old) ∧ h.IsListIter it a i ∧ e ≠ it ∧ a ≠ it ∧ a ≠ e) where
  mem := by simp
  obj := fun i h st b hb => by
    obtain ⟨⟨old, he⟩, ⟨o, ho, hc, hd⟩, _⟩ := st
    rcases (show b = e ∨ b = it by simpa using hb) with z | z
    · rw [z]; exact ⟨_, he, fun v q => nomatch q⟩
    · rw [z]; exact ⟨o, ho, fun v q => by rw [hd] at q; cases q⟩
  keep := fun i h h' st k => let ⟨⟨old, he⟩, ⟨o, ho, hr⟩, hne⟩ := st; ⟨⟨old, k e (by simp) _ he⟩, ⟨o, k it (by simp) _ ho, hr⟩, hne⟩
  item := by
    intro X hP hw hK hc i pins s σ H E I hf st hg
    subst hP hw hK
    obtain ⟨⟨old, he⟩, hit, hne, hai, hae⟩ := st
    obtain ⟨xs, x, hq, hx⟩ := hg
    obtain ⟨its, rv, p, hz⟩ := I.list hq
    obtain ⟨u, hu, ru⟩ := rv.get hx
    have hel : e < s.heap.objs.size := Heap.lt_size he
    have hil : it < s.heap.objs.size := by obtain ⟨_, q, _⟩ := hit; exact Heap.lt_size q
    have hu' : its.toArray[i]? = some u := by simpa using hu
    have hlt : i < its.toArray.size := by
      rcases Nat.lt_or_ge i its.toArray.size with h | h
      · exact h
      · rw [Array.getElem?_eq_none h] at hu'; cases hu'
    refine wpAny_pyNext_enum_itemD (i := i + 1) (Draws.list (A := X.A.in1) (I.ok.hd hc) it a hai its.toArray).later he ⟨by omega, hit, p.isList⟩ (by omega) hne (by simp [hne, Ne.symm hae]) fun v h' tk hv ho hst hT hsz hk => ?_
    obtain rfl : v = u := by
      rw [show i + 1 - 1 = i by omega, hu'] at hv
      exact (Option.some.inj hv).symm
    refine ⟨_, rfl, wpAny_letOwnedTupleGo_enum (s := { s with heap := h', toks := tk + 1 }) ho fun h'' he' sb => ?_⟩
    have hT2 : h''.get? s.heap.objs.size = some { cls := .type "tuple", data := .seq #[.int ((i + 1 : Nat) : Int) tk, v] } := (sb.2 _ (Nat.ne_of_gt hel)).trans hT
    have new : ObjOk X.prog X.w (upd H s.heap.objs.size (.tup [.int ((i + 1 : Nat) : Int), x])) h'' s.heap.objs.size (.tup [.int ((i + 1 : Nat) : Int), x]) :=
      ⟨by show 2 ≤ sizeLine; decide, [.int ((i + 1 : Nat) : Int) tk, v], .cons ⟨_, rfl⟩ (.cons ru .nil), ⟨_, hT2, rfl, _, rfl⟩⟩
    have I1 : Inv X pins σ (upd H s.heap.objs.size (.tup [.int ((i + 1 : Nat) : Int), x])) { s with heap := h'', toks := tk + 1 } :=
      I.turnedNew (ch := [e, it]) (fun b ob hb q => (sb.2 b (fun z => hb (by simp [z]))).trans (hk b ob (fun z => hb (by simp [z])) (fun z => hb (by simp [z])) q)) hf (Nat.le_refl _) new
    refine ⟨.ref s.heap.objs.size, _, I1, rfl, ⟨_, x, rfl, I.hok.fresh (Nat.le_refl _), rfl, fun ys hy => by rw [I.list_inj hy hq]; exact hx⟩, ⟨⟨v, ?_⟩, ?_, hne, hai, hae⟩, fun b hb => ?_⟩
    · have e1 : ((i + 1 + 1 : Nat) : Int) = ((i + 1 : Nat) : Int) + 1 := by omega
      rw [e1]; exact he'
    · obtain ⟨o, ho2, hr⟩ := hst.2.1
      exact ⟨o, (sb.2 it (Ne.symm hne)).trans ho2, by rw [show i + 1 + 1 - 1 = i + 1 by omega] at hr; exact hr⟩
    · have hb' : b < s.heap.objs.size := by
        rcases (show b = e ∨ b = it by simpa using hb) with z | z
        · rw [z]; exact hel
        · rw [z]; exact hil
      rw [upd_ne (Nat.ne_of_lt hb')]
      exact (hf b hb).1
  done := by
    intro X hP hw hK hc i pins s σ H E I hf st hg
    subst hP hw hK
    obtain ⟨⟨old, he⟩, hit, hne, hai, hae⟩ := st
    obtain ⟨xs, hq, hx⟩ := hg
    obtain ⟨its, rv, p, hz⟩ := I.list hq
    obtain ⟨f0, f1, f2, f3, f4, f5⟩ := hf it (by simp)
    have hl := rv.length
    have hi : i = its.toArray.size := by rw [List.size_toArray]; omega
    subst hi
    exact wpAny_pyNext_enum_endD (Draws.list (A := X.A.in1) (I.ok.hd hc) it a hai its.toArray) he ⟨hit, p.isList⟩ fun h' eb => ⟨rfl, I.turned (t' := s.toks) (fun b o hb q => eb b o hb q) f0 f1 f3 f4 f5⟩
  self := fun A i s Q E st h => let ⟨⟨_, he⟩, _⟩ := st; wpAny_pyIter_enum he h
theorem walk_enumST {K : PySem.W.Frag} {a : Addr} {xs : List V} : Walk (IteST K a) xs.length (fun H => SqT K H a xs) (YPair (fun i => some (.int ((i + 1 : Nat) : Int))) (fun i => xs[i]?)) := by
  refine ⟨fun i _ hi q => ⟨xs, xs[i], q, by simp [hi]⟩, fun _ q => ⟨xs, q, rfl⟩, fun i H v H' _ q y => ?_⟩
  obtain ⟨T, x, e1, e2, e3, h⟩ := y
  exact ⟨T, _, x, e1, e2, e3, rfl, h xs q⟩
theorem walk_enumSL {K : PySem.W.Frag} {a : Addr} {xs : List V} : Walk (IteSL K a) xs.length (fun H => SqL K H a xs) (YPair (fun i => some (.int ((i + 1 : Nat) : Int))) (fun i => xs[i]?)) := by
  refine ⟨fun i _ hi q => ⟨xs, xs[i], q, by simp [hi]⟩, fun _ q => ⟨xs, q, rfl⟩, fun i H v H' _ q y => ?_⟩
  obtain ⟨T, x, e1, e2, e3, h⟩ := y
  exact ⟨T, _, x, e1, e2, e3, rfl, h xs q⟩
end L2
namespace Y
open PySem PySem.Spec PyProof.Rows L2
def YEnumS (xs : List V) : Nat → Hp → V → Hp → Prop := YPair (fun i => some (.int ((i + 1 : Nat) : Int))) (fun i => xs[i]?)
/-- enumerate(x, start=1), x a variable that holds a list or a tuple -/
theorem pi_enumS {X : Cx} {e : Expr} {i : Nat} {p pos tpos kp cp : Pos} {j : Nat} {elts : List Expr} {kk : Nat} (hg : Gl X "enumerate") (hm : X.mg "enumerate" = none) (he : PE X e (tVar i)) (hs : starEach [e] X.env = (false, eval e X.env) :: starEach [] X.env := by rfl) :
    PI X (.Tuple elts kk tpos) (.Call (.Name "enumerate" p) [e] [⟨some "start", .Constant (.int 1) j cp, kp⟩] pos) (iAnyV X.K i YEnumS) := by
  refine ⟨fun pins s σ H R I h => ?_⟩
  obtain ⟨a, xs, H0, hv, c, kpp, k⟩ := h
  have ha : PA X [e] (tCons (tVar i) tNil) := pa_cons he pa_nil hs
  have hk : PK X [⟨some "start", .Constant (.int 1) j cp, kp⟩] (tCons (tC (.int 1)) tNil) := pk_cons pe_int pk_nil
  refine wpAny_Call_Name_kw (ld_blt I hg hm boot_enumerate (callWith_tyKw (thn (ha.run pos pins s σ H (fun vs H1 => vs = [.ref a] ∧ H1 = H) I ⟨_, hv, rfl, rfl⟩) fun us s1 ⟨vs, H1, I1, r1, e1, e2⟩ => ?_) (by rw [hs]; rfl) (by rw [hs]; rfl)))
  subst e1; subst e2
  refine thn (hk.run pos pins s1 σ H1 (fun ws H2 => ws = [.int 1] ∧ H2 = H1) I1 ⟨rfl, rfl⟩) fun ws s2 ⟨ks, H2, I2, r2, e3, e4⟩ => ?_
  subst e3; subst e4
  obtain ⟨u, rfl, ru⟩ := vals1 r1
  obtain ⟨u2, rfl, t, rfl⟩ := vals1 r2
  cases ru
  show wpAny _ _ (call (.type "enumerate") [.ref a] (kwS 1 t)) _ _ _
  have lower : ∀ {T : String} (hT : T = "list_iterator" ∨ T = "tuple_iterator"), a < s2.heap.objs.size → (s2.heap.push (itOb T a)).objs.size = s2.heap.objs.size + 1 := fun _ _ => Heap.size_push ..
  rcases c with c | c
  · obtain ⟨its, rv, pl, hz⟩ := I2.list (kpp.seqL c)
    obtain ⟨⟨cl, dct, dt, sl⟩, hl, hc, n, hd⟩ := pl.isList
    replace hc : cl = .type "list" := hc
    replace hd : dt = .seq its.toArray n := hd
    subst hc hd
    have hal : a < s2.heap.objs.size := Heap.lt_size hl
    have z1 := lower (.inl rfl) hal
    refine call_enum_kw (meets_enumSL a its.toArray n dct sl t) ⟨hl, ?_⟩
    show _ ∧ _
    have en : ((s2.heap.push (itOb "list_iterator" a)).push (enOb s2.heap.objs.size 1)).get? (s2.heap.objs.size + 1) = some (enOb s2.heap.objs.size 1) := by
      have q := Heap.get?_push_size (s2.heap.push (itOb "list_iterator" a)) (o := enOb s2.heap.objs.size 1) rfl
      rw [z1] at q; exact q
    have hk2 : ∀ b o, s2.heap.get? b = some o → ((s2.heap.push (itOb "list_iterator" a)).push (enOb s2.heap.objs.size 1)).get? b = some o := fun b o z => Heap.get?_push_of_some _ (Heap.get?_push_of_some _ z)
    have itr : ((s2.heap.push (itOb "list_iterator" a)).push (enOb s2.heap.objs.size 1)).get? s2.heap.objs.size = some (itOb "list_iterator" a) := Heap.get?_push_of_some _ (Heap.get?_push_size _ rfl)
    rw [z1]
    refine ⟨⟨_, en, rfl⟩, wpAny_pyIter_enum en ?_⟩
    have I3 : Inv X pins σ H2 { s2 with heap := (s2.heap.push (itOb "list_iterator" a)).push (enOb s2.heap.objs.size 1) } := I2.kept (t' := s2.toks) hk2
    refine ⟨s2.heap.objs.size + 1, [s2.heap.objs.size + 1, s2.heap.objs.size], _, _, H2, rfl, I3, turn_enumSL a (s2.heap.objs.size + 1) s2.heap.objs.size, ⟨⟨.none, en⟩, ⟨_, itr, rfl, rfl⟩, Nat.succ_ne_self _, Nat.ne_of_lt hal, Nat.ne_of_lt (Nat.lt_succ_of_lt hal)⟩, fun b hb => ?_, k _ _ walk_enumSL fun H' s => s.seqL c⟩
    have hle : s2.heap.objs.size ≤ b := by
      rcases (show b = s2.heap.objs.size + 1 ∨ b = s2.heap.objs.size by simpa using hb) with z | z
      · rw [z]; exact Nat.le_add_right _ _
      · rw [z]; exact Nat.le_refl _
    exact I2.fpOk hle (I2.hok.fresh hle)
  · obtain ⟨its, rv, pl, hz⟩ := I2.tuple (kpp.seqT c)
    obtain ⟨⟨cl, dct, dt, sl⟩, hl, hc, n, hd⟩ := pl
    replace hc : cl = .type "tuple" := hc
    replace hd : dt = .seq its.toArray n := hd
    subst hc hd
    have hal : a < s2.heap.objs.size := Heap.lt_size hl
    have z1 := lower (.inr rfl) hal
    refine call_enum_kw (meets_enumST a its.toArray n dct sl t) ⟨hl, ?_⟩
    show _ ∧ _
    have en : ((s2.heap.push (itOb "tuple_iterator" a)).push (enOb s2.heap.objs.size 1)).get? (s2.heap.objs.size + 1) = some (enOb s2.heap.objs.size 1) := by
      have q := Heap.get?_push_size (s2.heap.push (itOb "tuple_iterator" a)) (o := enOb s2.heap.objs.size 1) rfl
      rw [z1] at q; exact q
    have hk2 : ∀ b o, s2.heap.get? b = some o → ((s2.heap.push (itOb "tuple_iterator" a)).push (enOb s2.heap.objs.size 1)).get? b = some o := fun b o z => Heap.get?_push_of_some _ (Heap.get?_push_of_some _ z)
    have itr : ((s2.heap.push (itOb "tuple_iterator" a)).push (enOb s2.heap.objs.size 1)).get? s2.heap.objs.size = some (itOb "tuple_iterator" a) := Heap.get?_push_of_some _ (Heap.get?_push_size _ rfl)
    rw [z1]
    refine ⟨⟨_, en, rfl⟩, wpAny_pyIter_enum en ?_⟩
    have I3 : Inv X pins σ H2 { s2 with heap := (s2.heap.push (itOb "tuple_iterator" a)).push (enOb s2.heap.objs.size 1) } := I2.kept (t' := s2.toks) hk2
    refine ⟨s2.heap.objs.size + 1, [s2.heap.objs.size + 1, s2.heap.objs.size], _, _, H2, rfl, I3, turn_enumST a (s2.heap.objs.size + 1) s2.heap.objs.size, ⟨⟨.none, en⟩, ⟨_, itr, rfl, rfl⟩, Nat.succ_ne_self _, Nat.ne_of_lt hal, Nat.ne_of_lt (Nat.lt_succ_of_lt hal)⟩, fun b hb => ?_, k _ _ walk_enumST fun H' s => s.seqT c⟩
    have hle : s2.heap.objs.size ≤ b := by
      rcases (show b = s2.heap.objs.size + 1 ∨ b = s2.heap.objs.size by simpa using hb) with z | z
      · rw [z]; exact Nat.le_add_right _ _
      · rw [z]; exact Nat.le_refl _
    exact I2.fpOk hle (I2.hok.fresh hle)
end Y
set_option Elab.async false
set_option linter.all false
set_option maxRecDepth 100000
set_option maxHeartbeats 2000000
namespace Y
open PySem PySem.Spec PyProof.Rows L2
/-! ### own errors: made with one, two or three fields by their own first method -/
structure XcC (K : PySem.W.Frag) (C : Addr) : Prop where
  o : OexC K C
  x : XfC K C
  sf : PySem.W.subIn K (.ref C) (.ref C) = some true
  isC : PySem.W.isClsIn K C = true
/-- the promise of such a method: each field is kept under its name -/
def spX1 (C : Addr) (f : Str) : Sp := fun vs H Q _ => ∃ (a : Addr) (v : V), vs = [.ref a, v] ∧ H a = some (exo a C none) ∧
  ∀ dx, H dx = none → dx ≠ a → Q .non (upd (upd H dx (exd dx [(f, v)])) a (exo a C (some dx)))
/-- what C(v) asks, when C's first method keeps spX1 -/
theorem mk1 {C : Addr} {f : Str} {v : V} {H1 : Hp} {Q : XK} (h : ∀ (d : Addr) (H' : Hp), Same H1 H' → H1 d = none → H' d = some (.xd [(f, v)]) → Q (.ref C) (some d) H') :
    ([v] : List V).length ≤ 1000 ∧ ∀ a, H1 a = none → spX1 C f (.ref a :: ([v] ++ [])) (upd H1 a (exo a C none))
      (fun u H2 => u = .non ∧ ∃ (d : Addr) (fs : List (Str × V)), H2 a = some (exo a C (some d)) ∧ H2 d = some (exd d fs) ∧ H1 d = none ∧ Q (.ref C) (some d) (upd (del H2 a) d (.xd fs))) (fun _ _ _ => False) := by
  refine ⟨by show 1 ≤ 1000; decide, fun a ha => ⟨a, v, rfl, upd_same, fun dx hd hne => ⟨rfl, dx, [(f, v)], upd_same, by rw [upd_ne hne]; exact upd_same, by rw [upd_ne hne] at hd; exact hd, ?_⟩⟩⟩
  have hd1 : H1 dx = none := by rw [upd_ne hne] at hd; exact hd
  refine h dx _ (fun b o e => ?_) hd1 upd_same
  have n1 : b ≠ dx := ne_of_none e hd1
  have n2 : b ≠ a := ne_of_none e ha
  rw [upd_ne n1, del_ne n2, upd_ne n2, upd_ne n1, upd_ne n2]
  exact e
/-! ### isinstance of the caught error, which has fields -/
structure XiC (K : PySem.W.Frag) (C : Addr) : Prop where
  k0 : (PySem.W.clsIn K C).isSome = true
  k4 : PySem.W.findIn K (.ref C) "__getattribute__" = some (some (.builtin "BaseException.__getattribute__"))
  k5 : PySem.W.findIn K (.ref C) "__getattr__" = some none
  k6 : PySem.W.subIn K (.ref C) (.type "BaseException") = some true
  k7 : PySem.W.findIn K (.ref C) "__class__" = some (some (.builtin "object.__class__"))
  k8 : PySem.W.specialIn K (.builtin "object.__class__") "__get__" = some (some (.builtin "getset_descriptor.__get__"))
  k9 : PySem.W.takesIn K (.builtin "object.__class__") = some true
  k10 : PySem.W.mroIn K C (.type "object") = some true
def rIsX (K : PySem.W.Frag) (C a : Addr) (cls : Value) (d : Option Addr) : List V → Hp → VK → Prop := fun xs H Q => ∃ (c : V) (u : Value) (b : Bool) (dd : Addr) (fs : List (Str × V)), xs = [.ref a, c] ∧ ClsV c u ∧ cls = .ref C ∧ d = some dd ∧ H dd = some (.xd fs) ∧
  PySem.W.kitOne K (.ref C) u = some b ∧ Q (.bl b) H
theorem call_isX {X : Cx} {a C : Addr} {cls : Value} {d : Option Addr} {oe : Obj} {pn : List (Addr × Obj)} (T : XiC X.K C) (hz : Zc cls d oe) (hf : ∃ vs, oe.data = .fields vs) :
    CallR (X.suite a ((a, oe) :: pn)) (.builtin "isinstance") (rIsX X.K C a cls d) := by
  intro pins s σ H xs us Q I r h
  obtain ⟨c, u, b, dd, fs, rfl, k, rfl, rfl, ea, e, q⟩ := h
  cases r with
  | cons rx rr =>
    cases rr with
    | cons rt rr =>
      cases rr
      cases rx
      cases k.eq rt
      have hpin := (I.pin (a, oe) (List.mem_append.mpr (Or.inl List.mem_cons_self))).1
      obtain ⟨mA, hns, _⟩ := (show ObjOk X.prog X.w H s.heap dd (.xd fs) from I.hok dd _ ea)
      obtain ⟨od, ho, _⟩ := lookIn_ns hns
      obtain ⟨vs, hv⟩ := hf
      have J : PySem.W.InstAt s.heap a oe C (some od) := ⟨hpin, hz.1, by unfold PySem.W.notCls; rw [hv] <;> rfl, by rw [hz.2]; exact ho⟩
      exact PySem.W.kia_one (PySem.W.kitx_exc T.k0 T.k4 T.k5 T.k6 T.k7 T.k8 T.k9 T.k10) I.kIn J e (fun w => nomatch w) fun tk => ⟨.bl b, H, I.kept (t' := tk) fun _ _ w => w, rfl, q⟩
end Y
set_option Elab.async false
set_option linter.all false
set_option maxRecDepth 100000
set_option maxHeartbeats 2000000
namespace Y
open PySem PySem.Spec PyProof.Rows L2 CwR TL Builtin
/-! ### text * number -/
def repS (z : Str) (n : Nat) : Str := ⟨(List.replicate n z.cps).foldl (· ++ ·) #[]⟩
theorem fold_rep (c : Array Nat) : ∀ (n : Nat) (a : Array Nat), ((List.replicate n c).foldl (· ++ ·) a).toList = a.toList ++ (List.replicate n c.toList).flatten
  | 0, a => by simp
  | n + 1, a => by
    rw [List.replicate_succ, List.foldl_cons, fold_rep c n]
    simp [List.replicate_succ, List.append_assoc]
theorem tl_rep (z : Str) (n : Nat) : tl (repS z n) = (List.replicate n (tl z)).flatten := by
  show ((List.replicate n z.cps).foldl (· ++ ·) #[]).toList = _
  rw [fold_rep]
  simp [tl]
theorem rep_one (z : Str) : repS z 1 = z := ext_tl (by rw [tl_rep]; simp)
theorem len_rep (z : Str) (n : Nat) : (repS z n).length = n * z.length := by
  rw [len_tl, tl_rep, len_tl z]
  induction n with
  | zero => simp
  | succ n ih => simp only [List.replicate_succ, List.flatten_cons, List.length_append, ih, Nat.succ_mul]; omega
/-- what text * n gives, token by token -/
theorem mul_run {X : Cx} {z : Str} {n : Int} {t u : Tok} {s : Shared} {Q E : Value → Shared → Prop} (h0 : 0 ≤ n) (h1 : n ≤ 1000) (hz : z.length ≤ 1000) (h : ∀ t' k, (n = 1 → t' = t) → (t' = t ∨ t' = s.toks) → Q (.str (repS z n.toNat) t') { s with toks := k }) :
    wpAny (model X.prog X.w) X.A (binaryOp .Mult (.str z t) (.int n u)) Q E s := by
  refine PySem.P.mul_str (by rw [decide_eq_false (show ¬ n < -(2 ^ 63 : Int) by omega), decide_eq_false (show ¬ n ≥ 2 ^ 63 by omega)]; rfl) (fun a b => ?_) (fun a b => ?_) ?_
  · have hn : (2 ^ 63 - 1 : Int) / n ≥ 1000 := by
      have := Int.le_ediv_of_mul_le (a := 1000) (b := (2 ^ 63 - 1 : Int)) (c := n) (by omega) (by omega)
      exact this
    omega
  · have hm : z.length * n.toNat ≤ 1000 * 1000 := Nat.mul_le_mul hz (by omega)
    unfold Builtin.Str.tooLong
    refine decide_eq_false ?_
    have : sizeLine = 16777216 := sizeLine_eq
    omega
  · by_cases c1 : n < 1
    · rw [if_pos c1]
      have e : n = 0 := by omega
      subst e
      exact ⟨by decide, h _ _ (by omega) (.inr rfl)⟩
    · rw [if_neg c1]
      by_cases c2 : (n == 1 || z.length == 0) = true
      · rw [if_pos c2]
        have e : repS z n.toNat = z := by
          rcases Bool.or_eq_true_iff.mp c2 with c | c
          · have : n = 1 := eq_of_beq c
            subst this
            exact rep_one z
          · have c' : z.length = 0 := eq_of_beq c
            refine ext_tl ?_
            have hz0 : tl z = [] := (len0_tl z).mp c'
            rw [tl_rep, hz0]
            simp
        have := h t s.toks (fun _ => rfl) (.inl rfl)
        rw [e] at this
        exact this
      · rw [if_neg c2]
        have hl : (repS z n.toNat).length ≤ sizeLine := by
          have hm : n.toNat * z.length ≤ 1000 * 1000 := Nat.mul_le_mul (by omega) hz
          rw [len_rep]
          have : sizeLine = 16777216 := sizeLine_eq
          omega
        have hn1 : n ≠ 1 := fun e => by subst e; exact c2 rfl
        exact ⟨hl, h _ _ (fun e => absurd e hn1) (.inr rfl)⟩
section
variable {X : Cx} {o e f a b : Expr} {te tf ta tb to : TE} {y z : Str} {j k : Nat} {c0 c1 p2 apos pos : Pos}
def rMulS : R2 := fun x y H Q => ∃ z n, x = .str z ∧ y = .int n ∧ 0 ≤ n ∧ n ≤ 1000 ∧ z.length ≤ 1000 ∧ Q (.str (repS z n.toNat)) H
theorem op_mul_str : OpR X (binaryOp .Mult) rMulS := by
  intro pins s σ H x y v u Q I rx ry h
  obtain ⟨z, n, rfl, rfl, h0, h1, hz, q⟩ := h
  obtain ⟨t, rfl⟩ := rx
  obtain ⟨t', rfl⟩ := ry
  exact mul_run h0 h1 hz fun t' k _ _ => ⟨.str (repS z n.toNat), H, I.tok _, ⟨_, rfl⟩, q⟩
/-! ### an expression that gives out a token -/
def PEg (X : Cx) (e : Expr) (t : TE) : Prop := ∀ (pins : List (Addr × Obj)) (s : Shared) (σ : L2.St) (H : Hp) (Q : VK), Inv X pins σ H s → t σ H Q →
    wpAny (model X.prog X.w) X.A (eval e X.env) (fun v s' => 1 ≤ s'.toks ∧ EP X pins σ Q v s') X.xe s
theorem peg_str : PEg X (.Constant (.str y) j c0) (tC (.str y)) := fun pins s σ H Q I h =>
  Calls.Constant_str ⟨by show 1 ≤ s.toks + 1; omega, .str y, H, I.tok _, ⟨_, rfl⟩, h⟩
theorem peg_op {op : Operator} {r : R2} (ho : OpR X (binaryOp op) r) (ha : PEg X a ta) (hb : PE X b tb) : PEg X (.BinOp a op b pos) (tOp r ta tb) := fun pins s σ H Q I h => by
  refine wpAny_BinOp (thn (ha pins s σ H _ I h) fun v s1 ⟨t1, x, H1, I1, r1, q1⟩ => ?_)
  refine wpAny_mono (PySem.wpAny_toks (hb.run pins s1 σ H1 _ I1 q1)) (fun u s2 ⟨t2, y, H2, I2, r2, q2⟩ => ?_) fun _ _ z => z.2
  exact wpAny_mono (PySem.wpAny_toks (ho pins s2 σ H2 x y v u Q I2 r1 r2 q2)) (fun w s3 ⟨t3, q3⟩ => ⟨Nat.le_trans t1 (Nat.le_trans t2 t3), q3⟩) fun _ _ z => z.2
theorem pe_opG {op : Operator} {r : R2} (ho : OpR X (binaryOp op) r) (ha : PEg X a ta) (hb : PET X b tb) : PE X (.BinOp a op b pos) (tOp r ta tb) := ⟨fun pins s σ H Q I h => by
  refine wpAny_BinOp (thn (ha pins s σ H _ I h) fun v s1 ⟨t1, x, H1, I1, r1, q1⟩ => ?_)
  exact thn (hb pins s1 σ H1 _ (by omega) I1 q1) fun u s2 ⟨y, H2, I2, r2, q2⟩ => ho pins s2 σ H2 x y v u Q I2 r1 r2 q2⟩
theorem peg_opG {op : Operator} {r : R2} (ho : OpR X (binaryOp op) r) (ha : PEg X a ta) (hb : PET X b tb) : PEg X (.BinOp a op b pos) (tOp r ta tb) := fun pins s σ H Q I h => by
  refine wpAny_BinOp (thn (ha pins s σ H _ I h) fun v s1 ⟨t1, x, H1, I1, r1, q1⟩ => ?_)
  refine wpAny_mono (PySem.wpAny_toks (hb pins s1 σ H1 _ (by omega) I1 q1)) (fun u s2 ⟨t2, y, H2, I2, r2, q2⟩ => ?_) fun _ _ z => z.2
  exact wpAny_mono (PySem.wpAny_toks (ho pins s2 σ H2 x y v u Q I2 r1 r2 q2)) (fun w s3 ⟨t3, q3⟩ => ⟨Nat.le_trans t1 (Nat.le_trans t2 t3), q3⟩) fun _ _ z => z.2
/-! ### o.replace(y, z * e): y and z may be one text -/
theorem booked {K : PySem.W.Frag} {h : Heap} (X : K.In h) (lim : h.NoLimit) (hk : PySem.W.nsIn K cStatics sharingNotToldKey = some none) : NoneBooked h := by
  obtain ⟨mc, h1, _⟩ := lim
  exact ⟨mc, h1, PySem.W.ns_none_of X h1 hk⟩
def tReplM (to : TE) (y z : Str) (te : TE) : TE := fun σ H Q => to σ H fun v H1 => ∃ x : Str, v = .str x ∧ te σ H1 fun w H2 => ∃ n : Int, w = .int n ∧ 0 ≤ n ∧ n ≤ 1000 ∧ z.length ≤ 1000 ∧ x.length + (x.length + 1) * (repS z n.toNat).length ≤ 16777216 ∧
  Q (.str (Txt.replace x y (repS z n.toNat))) H2
theorem pet_replM (hk : PySem.W.nsIn X.K cStatics sharingNotToldKey = some none) (ho : PE X o to) (he : PE X e te)
    (hst : starEach [.Constant (.str y) j c0, .BinOp (.Constant (.str z) k c1) .Mult e p2] X.env = [(false, eval (.Constant (.str y) j c0) X.env), (false, eval (.BinOp (.Constant (.str z) k c1) .Mult e p2) X.env)] := by rfl)
    (hbase : attributeBase o "replace" X.env (eval o X.env) = eval o X.env := by rfl) (hline : (apos.endLine == pos.line) = true := by rfl) :
    PET X (.Call (.Attribute o "replace" apos) [.Constant (.str y) j c0, .BinOp (.Constant (.str z) k c1) .Mult e p2] [] pos) (tReplM to y z te) := by
  intro pins s σ H Q h0 I h
  refine PySem.Call_method2 hbase hst hline (wpAny_mono (PySem.wpAny_toks (ho.run pins s σ H _ I h)) (fun v s1 q => ?_) fun _ _ z => z.2)
  obtain ⟨hk1, v', H1, I1, r1, x, e1, q⟩ := q
  subst e1
  obtain ⟨tx, e2⟩ := r1
  subst e2
  refine ⟨"str", _, PySem.F.plainAttrs_str, PySem.F.slot_str_replace, PySem.F.type_str_replace, typeIs_str _ _ _, (fun _ w => nomatch w), Calls.callWith_builtin rfl (Calls.evalArgs_plain (Calls.spliced_cons ?_))⟩
  refine Calls.Constant_str (Calls.spliced_cons ?_)
  refine wpAny_BinOp (Calls.Constant_str ?_)
  refine wpAny_mono (PySem.wpAny_toks (he.run pins { s1 with toks := s1.toks + 1 + 1 } σ H1 _ (I1.tok _) q)) (fun w s2 q => ?_) fun _ _ z => z.2
  obtain ⟨hk2, w', H2, I2, r2, n, e3, n0, n1, hz, hb, q⟩ := q
  subst e3
  obtain ⟨tn, e4⟩ := r2
  subst e4
  have hk3 : s1.toks + 1 + 1 ≤ s2.toks := hk2
  have u0 : s1.toks ≠ 0 := by omega
  refine mul_run n0 n1 hz fun t' kk _ ht => ?_
  have ht' : t' = s1.toks + 1 ∨ t' = s2.toks := ht
  have v0 : t' ≠ 0 := by
    rcases ht' with e | e <;> (rw [e])
    · exact Nat.succ_ne_zero _
    · exact Nat.ne_of_gt (Nat.lt_of_lt_of_le (Nat.succ_pos _) hk3)
  have uv : s1.toks ≠ t' := by
    rcases ht' with e | e <;> (rw [e])
    · exact Nat.ne_of_lt (Nat.lt_succ_self _)
    · exact Nat.ne_of_lt (Nat.lt_of_succ_lt hk3)
  refine Calls.spliced_nil ?_
  exact PySem.SC.replaceA u0 v0 uv hb (fun t3 k3 => ⟨.str (Txt.replace x y (repS z n.toNat)), H2, I2.tok k3, ⟨t3, rfl⟩, q⟩) (booked I2.kIn I2.nolimit hk)
end
end Y
set_option Elab.async false
set_option linter.all false
set_option maxRecDepth 100000
set_option maxHeartbeats 2000000
/-! repr() of any data of None, bools, ints, texts, lists, tuples, empty dicts, where no repr is under way -/
namespace Y
open PySem PySem.Spec PyProof.Rows L2
mutual
/-- x is the data d: an empty dict may stand in it, too -/
inductive Dq (K : PySem.W.Frag) (H : Hp) : PyData → V → Prop
  | non : Dq K H .none .non
  | bl (b : Bool) : Dq K H (.bool b) (.bl b)
  | int (i : Int) : Dq K H (.int i) (.int i)
  | str (x : Str) : Dq K H (.str x) (.str x)
  | lst {ds : List PyData} {a : Addr} {xs : List V} : SqL K H a xs → Dqs K H ds xs → Dq K H (.list ds) (.ref a)
  | tup {ds : List PyData} {a : Addr} {xs : List V} : SqT K H a xs → Dqs K H ds xs → Dq K H (.tuple ds) (.ref a)
  | dct {a : Addr} : H a = some (.dK []) → Dq K H (.dict []) (.ref a)
inductive Dqs (K : PySem.W.Frag) (H : Hp) : List PyData → List V → Prop
  | nil : Dqs K H [] []
  | cons {d : PyData} {ds : List PyData} {v : V} {vs : List V} : Dq K H d v → Dqs K H ds vs → Dqs K H (d :: ds) (v :: vs)
end
mutual
/-- no list stands in it -/
def unlisted : PyData → Bool
  | .list _ => false
  | .tuple xs => unlisteds xs
  | _ => true
def unlisteds : List PyData → Bool
  | [] => true
  | x :: xs => unlisted x && unlisteds xs
end
section
variable {X : Cx} {pins : List (Addr × Obj)} {σ : L2.St} {H : Hp} {s : Shared}
mutual
theorem Dq.look (I : Inv X pins σ H s) : ∀ (d : PyData) (v : V) (u : Value), Dq X.K H d v → RelV v u → ∃ as, Reads s.heap u d as ∧ (unlisted d = true → sysModules ∉ as)
  | .none, _, _, h, r => by cases h; cases r; exact ⟨_, .none, fun _ z => by cases z⟩
  | .bool b, _, _, h, r => by cases h; cases r; exact ⟨_, .bool b, fun _ z => by cases z⟩
  | .int i, _, _, h, r => by cases h; obtain ⟨t, rfl⟩ := r; exact ⟨_, .int i t, fun _ z => by cases z⟩
  | .str x, _, _, h, r => by cases h; obtain ⟨t, rfl⟩ := r; exact ⟨_, .str x t, fun _ z => by cases z⟩
  | .list ds, _, _, h, r => by
    cases h with
    | lst hs ha =>
      cases r
      obtain ⟨its, rv, ⟨o, n, ho, hc, _, hd⟩, _⟩ := I.list hs
      obtain ⟨as, hr, _⟩ := Dqs.look I ds _ its ha rv
      exact ⟨_, .list ho hc hd hr, fun z => by simp [unlisted] at z⟩
  | .tuple ds, _, _, h, r => by
    cases h with
    | tup hs ha =>
      cases r
      obtain ⟨its, rv, ⟨o, ho, hc, n, hd⟩, _⟩ := I.tuple hs
      obtain ⟨as, hr, hn⟩ := Dqs.look I ds _ its ha rv
      exact ⟨_, .tuple ho hc hd hr, fun z => hn (by simpa [unlisted] using z)⟩
  | .dict kvs, _, _, h, r => by
    cases h with
    | @dct a ea =>
      cases r
      obtain ⟨_, na, vs, kv, o, es, ep, ho, ex, hd, _, he, _⟩ := (show ObjOk X.prog X.w H s.heap a (.dK []) from I.hok a _ ea)
      cases kv
      have e0 : es.toList = [] := by
        generalize es.toList = l at he
        cases he
        rfl
      exact ⟨_, .dict ho ex.1 hd (by rw [e0]; exact .nil) (by rw [e0]; exact .nil), fun _ z => by simp at z; rw [z] at na; simp at na⟩
theorem Dqs.look (I : Inv X pins σ H s) : ∀ (ds : List PyData) (vs : List V) (us : List Value), Dqs X.K H ds vs → Vals vs us → ∃ as, ReadsAll s.heap us ds as ∧ (unlisteds ds = true → sysModules ∉ as)
  | [], _, _, h, r => by cases h; cases r; exact ⟨_, .nil, fun _ z => by cases z⟩
  | d :: ds, _, _, h, r => by
    cases h with
    | cons h1 h2 =>
      cases r with
      | cons r1 r2 =>
        obtain ⟨as, q1, n1⟩ := Dq.look I d _ _ h1 r1
        obtain ⟨bs, q2, n2⟩ := Dqs.look I ds _ _ h2 r2
        refine ⟨_, .cons q1 q2, fun z => ?_⟩
        simp only [unlisteds, Bool.and_eq_true] at z
        intro m
        rcases List.mem_append.mp m with m | m
        · exact n1 z.1 m
        · exact n2 z.2 m
end
end
/-- what repr(x) asks -/
def rShow (K : PySem.W.Frag) : List V → Hp → VK → Prop := fun xs H Q => ∃ (x : V) (d : PyData), xs = [x] ∧ Dq K H d x ∧ d.showable = true ∧ (d.hasDict = true → unlisted d = true) ∧ d.depth ≤ 40 ∧ d.shown.length ≤ sizeLine ∧ Q (.str d.shown) H
theorem call_show {X : Cx} (hg : X.A.guards = some []) (hu : X.A.units + 64 < cLine) : CallR X (.builtin "repr") (rShow X.K) := by
  intro pins s σ H xs us Q I r h
  obtain ⟨x, d, rfl, dq, sh, nl, dp, sz, q⟩ := h
  obtain ⟨u, rfl, ru⟩ := vals1 r
  obtain ⟨as, rd, na⟩ := Dq.look I d x u dq ru
  have ref : ∀ a, u = .ref a → wpAny (model X.prog X.w) X.A (call (.builtin "repr") [.ref a]) (EP X pins σ Q) X.xe s := fun a e => by
    subst e
    exact repr_of_reads' rd sh (fun z => na (nl z)) hg (by omega) (fun b o z => z) (fun h' u tk hk => ⟨.str d.shown, H, I.kept (t' := tk) hk, ⟨u, rfl⟩, q⟩) sz
  cases dq with
  | non => cases ru; rw [PyData.shown_none] at q; exact PySem.P.repr_of_none ⟨.str _, H, I.tok _, ⟨_, rfl⟩, q⟩
  | bl b => cases ru; rw [PyData.shown_bool] at q; exact PySem.P.repr_of_bool ⟨.str _, H, I.tok _, ⟨_, rfl⟩, q⟩
  | int i =>
    obtain ⟨t, rfl⟩ := ru
    rw [PyData.shown_int] at q
    exact PySem.P.repr_of_int (of_decide_eq_true (by simpa [PyData.showable] using sh)) ⟨.str _, H, I.tok _, ⟨_, rfl⟩, q⟩
  | str y =>
    obtain ⟨t, rfl⟩ := ru
    rw [PyData.shown_str] at q sz
    exact PySem.P.repr_of_str ⟨.str _, H, I.tok _, ⟨_, rfl⟩, q⟩ sz
  | lst _ _ => cases ru; exact ref _ rfl
  | tup _ _ => cases ru; exact ref _ rfl
  | dct _ => cases ru; exact ref _ rfl
end Y
set_option Elab.async false
set_option linter.all false
set_option maxRecDepth 100000
set_option maxHeartbeats 2000000
/-! ranges that are kept in a variable and walked over; max(ints, default=d) -/
namespace L2
open PySem PySem.Spec PyProof.Rows
section
variable {X : Cx}
theorem cr_range1 : CallR X (.type "range") (fun vs H Q => ∃ j, vs = [V.int j] ∧ ∀ p, H p = none → Q (.ref p) (upd H p (.rng 0 j))) := by
  intro pins s σ H vs us Q I r h
  obtain ⟨j, rfl, q⟩ := h
  cases r with
  | cons rj rr =>
    cases rr
    obtain ⟨u, rfl⟩ := rj
    refine call_range_1 ⟨.ref s.heap.objs.size, upd H s.heap.objs.size (.rng 0 j), I.laid (t' := s.toks + 1 + 1) (fun b o e => Heap.get?_push_of_some _ e) (Nat.le_refl _) ?_, rfl, q _ (I.hok.fresh (Nat.le_refl _))⟩
    exact ⟨s.toks, u, s.toks + 1, Heap.get?_push_size _ rfl⟩
def iRngV (te : TE) : TI := fun σ H R => te σ H fun x H1 => ∃ (a : Addr) (lo hi : Int), x = .ref a ∧ H1 a = some (.rng lo hi) ∧ (-(2 ^ 62) ≤ lo ∧ lo < 2 ^ 62 ∧ -(2 ^ 62) ≤ hi ∧ hi < 2 ^ 62) ∧ R (Itr lo (hi - lo).toNat) H1
theorem pi_rngV {tg e : Expr} {te : TE} (he : PE X e te) : PI X tg e (iRngV te) := by
  refine ⟨fun pins s σ H R I h => ?_⟩
  refine thn (he.run pins s σ H _ I h) fun v s1 ⟨x, H1, I1, r1, q1⟩ => ?_
  obtain ⟨a, lo, hi, ex, ha, ⟨h1, h2, h3, h4⟩, q⟩ := q1
  subst ex
  cases r1
  obtain ⟨t, u, w, eo⟩ := (show ∃ t u v, s1.heap.get? a = some { cls := .type "range", data := .fields #[.int lo t, .int hi u, .int 1 v] } from I1.hok a _ ha)
  refine wpAny_pyIter_range (show IsRange s1.heap a lo hi 1 t u w from eo) (small_one h1 h2 h3 h4) ?_
  have size1 : Builtin.Range.rangeSize lo hi 1 = (((hi - lo).toNat : Nat) : Int) - ((0 : Nat) : Int) := by
    rw [rangeSize_one]
    split <;> omega
  have start1 : lo = lo + ((0 : Nat) : Int) * 1 := by omega
  have keeps : ∀ (b : Addr) (o n : Obj), s1.heap.get? b = some o → (s1.heap.push n).get? b = some o := fun b o n e => Heap.get?_push_of_some _ e
  refine ⟨s1.heap.objs.size, [s1.heap.objs.size], _, _, H1, rfl, I1.kept (t' := s1.toks) fun b o e => keeps b o _ e, turn_range _ lo (hi - lo).toNat, ?at_, fun b hb => ?_, q⟩
  case at_ =>
    refine (show IsRangeIter _ _ _ _ 1 from ?_)
    rw [← start1, ← size1]
    exact Heap.get?_push_size _ rfl
  rw [List.mem_singleton.mp hb]
  exact I1.fpOk (Nat.le_refl _) (I1.hok.fresh (Nat.le_refl _))
/-- max(a list of ints, default=d) -/
def rMaxI (K : PySem.W.Frag) : List V → List V → Hp → VK → Prop := fun vs ws H Q => ∃ (a : Addr) (ns : List Int) (d0 : V), vs = [.ref a] ∧ ws = [d0] ∧ SqL K H a (ns.map V.int) ∧ (ns = [] → Q d0 H) ∧ ∀ m, m ∈ ns → (∀ y ∈ ns, y ≤ m) → Q (.int m) H
theorem fold_max : ∀ (ns : List Int) (n : Int), (ns.foldl max n = n ∨ ns.foldl max n ∈ ns) ∧ n ≤ ns.foldl max n ∧ ∀ y ∈ ns, y ≤ ns.foldl max n
  | [], n => ⟨.inl rfl, Int.le_refl _, fun y hy => by cases hy⟩
  | a :: ns, n => by
    obtain ⟨h1, h2, h3⟩ := fold_max ns (max n a)
    rw [List.foldl_cons]
    refine ⟨?_, by omega, fun y hy => ?_⟩
    · rcases h1 with h1 | h1
      · rw [h1]
        rcases Int.le_total n a with h | h
        · exact .inr (by rw [Int.max_eq_right h]; exact List.mem_cons_self)
        · exact .inl (Int.max_eq_left h)
      · exact .inr (List.mem_cons_of_mem _ h1)
    · rcases List.mem_cons.mp hy with rfl | hy
      · omega
      · exact h3 y hy
theorem dpAll_int {K : PySem.W.Frag} {H : Hp} : ∀ r : List Int, DpAll K H (r.map V.int) (r.map PyData.int)
  | [] => .nil
  | a :: r => .cons (.int a) (dpAll_int r)
theorem depth_int : ∀ r : List Int, PyData.depthAll (r.map PyData.int) ≤ 1
  | [] => Nat.zero_le _
  | a :: r => by
    show max (PyData.int a).depth (PyData.depthAll (r.map PyData.int)) ≤ 1
    have := depth_int r
    have e : (PyData.int a).depth ≤ 1 := by simp [PyData.depth]
    omega
theorem call_maxI (hc : X.calm = true) (hu : X.A.units + 64 < cLine) : CallRK X (.builtin "max") [Str.ofString "default"] (rMaxI X.K) := by
  intro pins s σ H vs zs us ws Q I r1 r2 h
  obtain ⟨a, ns, d0, rfl, rfl, hs, k0, k1⟩ := h
  obtain ⟨its, rv, hl, _⟩ := I.list hs
  cases r2 with
  | cons rd rn =>
    rename_i w ws'
    cases rn
    rw [Vals.ref1 r1]
    obtain ⟨as, hr⟩ := Dp.readsAll I _ _ its (dpAll_int (K := X.K) ns) rv
    have al : PySem.W.AlikeAll (ns.map PyData.int) := ⟨fun x hx y hy => by
      obtain ⟨i, _, rfl⟩ := List.mem_map.mp hx
      obtain ⟨j, _, rfl⟩ := List.mem_map.mp hy
      rfl, fun x hx z => by
      obtain ⟨i, _, rfl⟩ := List.mem_map.mp hx
      cases z⟩
    have dn := depth_int ns
    show wpAny _ _ (call (.builtin "max") [.ref a] [(Str.ofString "default", w)]) _ _ s
    refine PySem.W.max_list_default (I.ok.hd hc) hl.isList hr al (by omega) (fun e h' tk hk => ?_) fun y ys i v h' tk bs e hv rd' hk => ?_
    · exact ⟨d0, H, I.kept hk, rd, k0 (List.map_eq_nil_iff.mp e)⟩
    · cases ns with
      | nil => cases e
      | cons n ns =>
        injection e with e1 e2
        subst e1 e2
        rw [PySem.W.maxD_ints] at rd'
        obtain ⟨f1, f2, f3⟩ := fold_max ns n
        have hm : ns.foldl max n ∈ n :: ns := f1.elim (fun z => by rw [z]; exact List.mem_cons_self) fun z => List.mem_cons_of_mem _ z
        have hle : ∀ y ∈ n :: ns, y ≤ ns.foldl max n := fun y hy => by
          rcases List.mem_cons.mp hy with rfl | hy
          · exact f2
          · exact f3 y hy
        refine ⟨.int (ns.foldl max n), H, I.kept hk, ?_, k1 _ hm hle⟩
        cases rd' with
        | int _ t => exact ⟨t, rfl⟩
end
end L2
set_option Elab.async false
set_option linter.all false
set_option maxRecDepth 100000
set_option maxHeartbeats 2000000
namespace L2
open PySem PySem.Spec PyProof.Rows
section
variable {X : Cx}
/-- set(), for tuples of ints -/
def rSet0T (P : Program) (w : World) : List V → Hp → VK → Prop := fun xs H Q => xs = [] ∧ ∀ p, H p = none → Q (.ref p) (upd H p (SetTO P w p []))
theorem cr_set0T : CallR X (.type "set") (rSet0T X.prog X.w) := by
  intro pins s σ H xs us Q I r h
  obtain ⟨rfl, q⟩ := h
  cases r
  refine setR_new fun _ => ?_
  have new := (setTR_fresh (P := X.prog) (w := X.w) (Heap.get?_push_size s.heap (o := { cls := .type "set", dict := none, data := .set #[] 0 (.fresh 0 0 (!X.w.params.followText "set-order")) }) rfl)).t0
  exact ⟨.ref _, upd H s.heap.objs.size (SetTO X.prog X.w s.heap.objs.size []), I.laid (t' := s.toks) (fun b u e => Heap.get?_push_of_some _ e) (Nat.le_refl _) (setTO_new new), rfl, q _ (I.hok.fresh (Nat.le_refl _))⟩
/-- seen.add(t) -/
def rSAddT (K : PySem.W.Frag) (P : Program) (w : World) : V → List V → Hp → VK → Prop := fun x xs H Q => ∃ (a b : Addr) (L : List (Addr × List Int)) (k : List Int), x = V.ref a ∧ xs = [.ref b] ∧ H a = some (SetTO P w a L) ∧ (∀ p ∈ L, SqT K H p.1 (p.2.map V.int)) ∧ SqT K H b (k.map V.int) ∧ L.length + 1 < 64 ∧
  ∀ L', (k ∈ L.map (·.2) → L' = L) → (k ∉ L.map (·.2) → L'.Perm ((b, k) :: L)) → Q .non (upd H a (SetTO P w a L'))
theorem call_saddT {pins : List (Addr × Obj)} {σ : St} {H : Hp} {s : Shared} {a b : Addr} {L : List (Addr × List Int)} {k : List Int} {Q : Value → Shared → Prop} (hu : X.A.units + 64 < cLine) (I : Inv X pins σ H s) (ha : H a = some (SetTO X.prog X.w a L)) (hL : ∀ p ∈ L, SqT X.K H p.1 (p.2.map V.int)) (hb : SqT X.K H b (k.map V.int)) (hf : L.length + 1 < 64)
    (q : ∀ L' s', (k ∈ L.map (·.2) → L' = L) → (k ∉ L.map (·.2) → L'.Perm ((b, k) :: L)) → Inv X pins σ (upd H a (SetTO X.prog X.w a L')) s' → Q .none s') :
    wpAny (model X.prog X.w) X.A (call (.builtin "set.add") [.ref a, .ref b]) Q X.xe s := by
  have R0 : SetT0 X.prog X.w s.heap a L := (I.hok a _ ha).1
  obtain ⟨es, ep, t, R⟩ := R0.full fun p hp => I.isT (hL p hp)
  have hx := I.isT hb
  obtain ⟨o, ho, hex, hd⟩ := R.ob
  have hT : s.TypeIs (.ref a) "set" := ⟨o, ho, hex.1⟩
  refine wpAny_call_entry F.slot_set_add hT F.entry_set_add ?_ (F.args_set_add_2 _ _)
  unfold Builtin.«set.add» Builtin.Frozenset.oneOther
  simp only [List.isEmpty_nil, bind_assoc]
  unfold Builtin.Frozenset.addrOf setAdd
  refine wpAny_bind (wpAny_pure ?_)
  try dsimp only
  refine wpAny_bind (wpAny_pure ?_)
  try dsimp only
  refine wpAny_bind ?_
  refine wpAny_holding ?_
  have hu1 : X.A.in1.units < cLine := Nat.lt_of_le_of_lt (show X.A.in1.units ≤ X.A.units + 64 from Nat.le_trans (Nat.le_refl _) (by show X.A.units + 1 ≤ X.A.units + 64; omega)) hu
  refine wpAny_bind (wpAny_pyHash_tuple hu1 hx ?_)
  refine add_at (s := { s with toks := s.toks + (k.length + 1) }) R hx hu1 hf fun b' h' L' es' ep' t' sb R2 c1 c2 => ?_
  show wpAny _ _ (ret Value.none) _ _ _
  refine wpAny_pure ⟨_, rfl, q L' _ c1 c2 (I.write (e := a) (t' := s.toks + (k.length + 1)) (by rw [ha]; trivial) (.inl rfl) (fun c u hc hu => (sb.2 c hc).trans hu) ?_ (setTO_new R2.t0))⟩
  obtain ⟨o', ho', _⟩ := R2.ob
  exact ⟨o', ho'⟩
end
end L2
set_option Elab.async false
set_option linter.all false
set_option maxRecDepth 100000
set_option maxHeartbeats 2000000
namespace L2
open PySem PySem.Spec PyProof.Rows
/-! ### seen.add(t) as an expression -/
def tSAddT (K : PySem.W.Frag) (P : Program) (w : World) (to : TE) (t : TA) : TE := fun σ H Q => to σ H fun x H1 => (∃ a L, x = V.ref a ∧ H1 a = some (SetTO P w a L)) ∧ t σ H1 fun xs H2 => rSAddT K P w x xs H2 Q
theorem pe_saddT {X : Cx} {o e : Expr} {es : List Expr} {to : TE} {t : TA} {apos cpos : Pos} (hu : X.A.units + 64 < cLine) (ho : PE X o to) (ha : PA X (e :: es) t)
    (hbase : attributeBase o "add" X.env (eval o X.env) = eval o X.env := by rfl) (hfew : ((backTo cpos (starEach (e :: es) X.env)).all (fun x => !x.1) && (backToKw cpos (keywordEach [] X.env)).all (fun x => x.1.isSome) && decide ((e :: es).length + ([] : List Keyword).length + (if ([] : List Keyword).isEmpty then 0 else 1) < 30)) = true := by rfl)
    (hline : (apos.endLine == cpos.line) = true := by rfl) (hs : starEach (e :: es) X.env = (false, eval e X.env) :: starEach es X.env := by rfl) (hplain : (backTo cpos (starEach es X.env)).any (·.1) = false := by rfl) :
    PE X (.Call (.Attribute o "add" apos) (e :: es) [] cpos) (tSAddT X.K X.prog X.w to t) := by
  refine ⟨fun pins s σ H Q I h => ?_⟩
  refine wpAny_Call_method_late hbase hfew hline rfl (thn (ho.run pins s σ H _ I h) fun v s1 ⟨x, H1, I1, r1, ty, q1⟩ => ?_)
  obtain ⟨a, L, rfl, hka⟩ := ty
  have R0 : SetT0 X.prog X.w s1.heap a L := (I1.hok a _ hka).1
  obtain ⟨es', ep, t', ⟨ob, hob, hex, hdt⟩, _⟩ := R0.ex
  cases r1
  refine ⟨"set", "set.add", F.plainAttrs_set, F.slot_set_add, F.type_set_add, ⟨ob, hob, hex.1⟩, (fun b e => by cases e; exact ⟨ob, hob, hex.2.1⟩), ?_⟩
  have hA := ha.run cpos pins s1 σ H1 _ I1 q1
  rw [hs] at hA ⊢
  refine Calls.callWith_builtin (by show (false || (backTo cpos (starEach es X.env)).any (·.1)) = false; rw [hplain] <;> rfl) (Calls.evalArgs_plain (thn hA fun us s2 ⟨vs, H2, I2, r2, q2⟩ => ?_))
  obtain ⟨a', b, L2, k, e1, rfl, h2, hL, hb, few, q⟩ := q2
  cases e1
  cases r2 with
  | cons ry rt =>
    cases rt
    cases ry
    refine call_saddT hu I2 h2 hL hb few fun L' s' c1 c2 I3 => ?_
    exact ⟨.non, _, I3, rfl, q L' c1 c2⟩
end L2
set_option Elab.async false
set_option linter.all false
set_option maxRecDepth 100000
set_option maxHeartbeats 2000000
namespace Y
open PySem PySem.Spec PyProof.Rows L2
/-- sorted(xs) of a list or a tuple of ints -/
def rSortA (K : PySem.W.Frag) : List V → Hp → VK → Prop := fun vs H Q => ∃ (a : Addr) (ns : List Int), vs = [V.ref a] ∧ SqA K H a (ns.map V.int) ∧ ns.length ≤ 100000 ∧
  ∀ (ms : List Int) (p : Addr), ms.Perm ns → ms.Pairwise (· ≤ ·) → H p = none → Q (.ref p) (upd H p (.lst (ms.map V.int)))
section
variable {X : Cx}
theorem seq_raw {pins : List (Addr × Obj)} {σ : L2.St} {H : Hp} {s : Shared} {a : Addr} {xs : List V} (I : Inv X pins σ H s) (h : SqA X.K H a xs) : ∃ (T : String) (o : Obj) (its : List Value) (n : Nat), (T = "list" ∨ T = "tuple") ∧ s.heap.get? a = some o ∧ o.cls = .type T ∧ o.data = .seq its.toArray n ∧ Vals xs its := by
  rcases h with h | h
  · obtain ⟨its, rv, ⟨o, n, ho, hc, _, hd⟩, _⟩ := I.list h
    exact ⟨"list", o, its, n, .inl rfl, ho, hc, by rw [hd], rv⟩
  · obtain ⟨its, rv, ⟨o, ho, hc, n, hd⟩, _⟩ := I.tuple h
    exact ⟨"tuple", o, its, n, .inr rfl, ho, hc, by rw [hd], rv⟩
theorem cr_sortedA : CallR X (.builtin "sorted") (rSortA X.K) := by
  intro pins s σ H xs us Q I r h
  obtain ⟨a, ns, rfl, hs, hz, q⟩ := h
  obtain ⟨u, rfl, rx⟩ := r.one
  cases rx
  obtain ⟨T, o, its, n, hT, ho, hc, hd, rv⟩ := seq_raw I hs
  have sz : sizeLine = 16777216 := sizeLine_eq
  have hl : its.length = ns.length := by rw [← rv.length, List.length_map]
  have hi := rv.ints
  refine Calls.call_function_entry kind_sorted plain_sorted entry_sorted (args_sorted1 _) ?_
  unfold Builtin.«sorted»
  refine wpAny_bind (m := checkCount "sorted" 1 1 _) (wpAny_pure (wpAny_bind (wpAny_collect_seq a hT ho hc hd (fun h' hk => ?_) (by rw [List.size_toArray]; omega))))
  rw [List.toList_toArray]
  have I1 : Inv X pins σ H { s with heap := h', toks := s.toks } := I.kept hk
  refine wpAny_bind (wpAny_newList ?_ (by omega))
  have at0 : (h'.push (seqObj "list" its.toArray 0)).get? h'.objs.size = some (seqObj "list" its.toArray 0) := Heap.get?_push_size _ rfl
  show wpAny _ _ _ _ _ { s with heap := h'.push (seqObj "list" its.toArray 0) }
  refine wpAny_bind (wpAny_holding (wpAny_call_entry slot_list_sort ⟨_, at0, rfl⟩ entry_list_sort
    (SrtO.list_sort_ord (s := { s with heap := h'.push (seqObj "list" its.toArray 0) }) SrtO.swo_int at0 (by omega) (fun h2 => SrtO.ints_sortable hi h2) fun out h1 h2 => ⟨_, rfl, ?_⟩) (args_list_sort _)))
  obtain ⟨k1, k2, k3⟩ := SrtO.ints_out hi h1 h2
  obtain ⟨ep, he⟩ := sortedHeap_at (vs := its) (out := out.toArray) at0
  have fits : ((out.map SrtO.iv).map V.int).length ≤ sizeLine := by rw [List.length_map, k2.length_eq]; omega
  refine wpAny_pure ⟨_, rfl, .ref h'.objs.size, upd H h'.objs.size (.lst ((out.map SrtO.iv).map V.int)), I1.laid (t' := s.toks) (fun b u e => ?_) (Nat.le_refl _) ⟨fits, out, ep, vals_of_ints k1, he⟩, rfl, q _ _ k2 k3 (I1.hok.fresh (Nat.le_refl _))⟩
  have hb : b < h'.objs.size := Heap.lt_size e
  rw [sortedHeap_old (Nat.ne_of_lt hb) (by rw [size_push']; exact Nat.lt_succ_of_lt hb)]
  exact Heap.get?_push_of_some _ e
end
end Y
set_option Elab.async false
set_option linter.all false
set_option maxRecDepth 100000
set_option maxHeartbeats 2000000
namespace L2
open PySem PySem.Spec PyProof.Rows
/-- sorted(d) of a dict with fewer than 64 keys, all tuples of as many ints in [0, B): a new list of the key tuples, ascending by code B -/
def rSortDT (K : PySem.W.Frag) : List V → Hp → VK → Prop := fun vs H Q => ∃ (a : Addr) (kvs : List (List Key × V)) (d : Nat) (B : Int), vs = [V.ref a] ∧ Rd H a (.dT kvs) ∧ kvs.length < 64 ∧ 1 ≤ d ∧
  (∀ kv ∈ kvs, ∃ ns : List Int, kv.1 = ns.map Sum.inl ∧ ns.length = d ∧ TS.Bd B ns) ∧
  ∀ (bs : List Addr) (ys : List V) (p : Addr), IsKeys H kvs bs → ys.Perm (bs.map V.ref) → ys.Pairwise (fun x y => ∀ n m, TupI K H x n → TupI K H y m → TS.code B n ≤ TS.code B m) → H p = none → Q (.ref p) (upd H p (.lst ys))
theorem isKeys_mem {H : Hp} {kvs : List (List Key × V)} {bs : List Addr} (r : IsKeys H kvs bs) : ∀ b ∈ bs, ∃ kv ∈ kvs, H b = some (.tup (kv.1.map kV)) := by
  unfold IsKeys at r
  induction r with
  | nil => intro b hb; cases hb
  | cons h t ih =>
    intro b hb
    rcases List.mem_cons.mp hb with rfl | hb
    · exact ⟨_, List.mem_cons_self, h⟩
    · obtain ⟨kv, m, e⟩ := ih b hb
      exact ⟨kv, List.mem_cons_of_mem _ m, e⟩
section
variable {X : Cx}
theorem cr_sortedDT (hc : X.calm = true) : CallR X (.builtin "sorted") (rSortDT X.K) := by
  intro pins s σ H xs us Q I r h
  obtain ⟨a, kvs, d, B, rfl, hd, h64, hd1, hB, q⟩ := h
  obtain ⟨u, rfl, rx⟩ := r.one
  cases rx
  obtain ⟨z, hs, ks, pr, o, es, ep, ho, hx, hdt, he, hn⟩ := (show ObjOk X.prog X.w H s.heap a (.dT kvs) from hd.ok I.hok)
  have l1 : es.size = ks.length := size_of_entries he
  have l2 : kvs.length = ks.length := Paired.length pr
  refine Calls.call_function_entry PyProof.Rows.kind_sorted PyProof.Rows.plain_sorted PyProof.Rows.entry_sorted (PyProof.Rows.args_sorted1 _) ?_
  unfold Builtin.«sorted»
  refine wpAny_bind (m := checkCount "sorted" 1 1 _) (wpAny_pure ?_)
  have szl : sizeLine = 16777216 := sizeLine_eq
  refine wpAny_bind (PySem.W.kdu_collect (A := X.A.in1) (kdl_raw hs hx hdt) (I.ok.hd hc) ho (by omega) fun h' tk acc' hk it => ?_)
  have ea : acc'.toList = ks.map fun x => Value.ref x.2.1 := by
    have hl : acc'.toList.length = ks.length := by rw [Array.length_toList, it.1]; exact l1
    apply List.ext_getElem?
    intro j
    rw [List.getElem?_map]
    cases hj : acc'.toList[j]? with
    | none =>
      have h1 := List.getElem?_eq_none_iff.mp hj
      rw [List.getElem?_eq_none (by omega)]
      all_goals rfl
    | some v =>
      obtain ⟨en, hen, hv⟩ := it.2 j v (by rw [← Array.getElem?_toList]; exact hj)
      have qe := entry_at he j
      rw [hen] at qe
      cases hb : ks[j]? with
      | none =>
        rw [hb] at qe
        exact nomatch (show some en = none from qe)
      | some b =>
        rw [hb] at qe
        have e2 : en = entryOfKey (tupleKind (mixKind X.prog X.w)) b := Option.some.inj qe
        rw [hv, e2]
        all_goals rfl
  have I1 : Inv X pins σ H { s with heap := h', toks := tk } := I.kept hk
  have kz := isKeys_of pr
  have eb : acc'.toList = (ks.map fun x => x.2.1).map Value.ref := by rw [ea, List.map_map]; all_goals rfl
  have al : acc'.toList.length = kvs.length := by rw [ea, List.length_map]; omega
  have tups : ∀ v ∈ acc'.toList, ∃ (t : Addr) (ns : List Int), v = .ref t ∧ H t = some (.tup (ns.map V.int)) ∧ ns.length = d ∧ TS.Bd B ns := fun v hv => by
    rw [eb] at hv
    obtain ⟨b, hb, rfl⟩ := List.mem_map.mp hv
    obtain ⟨kv, m, e⟩ := isKeys_mem kz b hb
    obtain ⟨ns, ek, n1, n2⟩ := hB kv m
    refine ⟨b, ns, rfl, ?_, n1, n2⟩
    rw [e, ek, List.map_map]
    rfl
  refine wpAny_bind (wpAny_newList ?_ (by rw [al]; omega))
  have hoL : (h'.push (seqObj "list" acc'.toList.toArray 0)).get? h'.objs.size = some (seqObj "list" acc'.toList.toArray 0) := Heap.get?_push_size _ rfl
  have okT : TS.TupsOk (h'.push (seqObj "list" acc'.toList.toArray 0)) d B acc'.toList := fun v hv => by
    obtain ⟨t, ns, rfl, e, n1, n2⟩ := tups v hv
    have raw := tupI_raw I1 (SqT.of e)
    exact ⟨ns, raw.keeps fun b ob q _ => Heap.get?_push_of_some _ q, n1, n2⟩
  show wpAny _ _ _ _ _ { s with heap := h'.push (seqObj "list" acc'.toList.toArray 0), toks := tk }
  refine wpAny_bind (wpAny_holding (wpAny_call_entry PyProof.Rows.slot_list_sort ⟨_, hoL, rfl⟩ PyProof.Rows.entry_list_sort
    (TS.sort_tups (s := { s with heap := h'.push (seqObj "list" acc'.toList.toArray 0), toks := tk }) hoL (by rw [al]; exact h64) hd1 okT (fun v => TS.code B (TS.intsOf (h'.push (seqObj "list" acc'.toList.toArray 0)) v)) (fun v hv ns t => by
      show TS.code B (TS.intsOf _ v) = TS.code B ns
      rw [t.ints]) fun out a1 a2 => ⟨_, rfl, ?_⟩) (PyProof.Rows.args_list_sort _)))
  obtain ⟨e', he'⟩ := PyProof.Rows.sortedHeap_at (vs := acc'.toList) (out := out) hoL
  have refs : ∀ u ∈ out.toList, ∃ a, u = Value.ref a := fun u hu => by
    obtain ⟨t, _, e, _⟩ := tups u (a1.mem_iff.mp hu)
    exact ⟨t, e⟩
  have hp : (out.toList.map bkV).Perm ((ks.map fun x => x.2.1).map V.ref) := by
    have e1 : acc'.toList.map bkV = (ks.map fun x => x.2.1).map V.ref := by rw [eb, List.map_map]; rfl
    rw [← e1]
    exact a1.map bkV
  have hlen : (out.toList.map bkV).length ≤ sizeLine := by
    rw [hp.length_eq, List.length_map, List.length_map]
    omega
  refine wpAny_pure ⟨_, rfl, .ref h'.objs.size, upd H h'.objs.size (.lst (out.toList.map bkV)), I1.laid (t' := tk) (fun b u e => ?_) (Nat.le_refl _)
    (show ObjOk X.prog X.w _ _ _ (.lst (out.toList.map bkV)) from ⟨hlen, out.toList, e', bkV_vals refs, by rw [Array.toArray_toList]; exact he'⟩), rfl, q _ _ _ kz hp ?_ (I1.hok.fresh (Nat.le_refl _))⟩
  · have hb : b < h'.objs.size := Heap.lt_size e
    rw [PyProof.Rows.sortedHeap_old (Nat.ne_of_lt hb) (by rw [size_push']; exact Nat.lt_succ_of_lt hb)]
    exact Heap.get?_push_of_some _ e
  · rw [List.pairwise_map]
    refine List.Pairwise.imp (fun {u v} huv n m hn hm => ?_) a2
    obtain ⟨t, et, ht⟩ := hn
    obtain ⟨t', et', ht'⟩ := hm
    have eu := bkV_ref et
    have ev := bkV_ref et'
    have i1 : TS.intsOf (h'.push (seqObj "list" acc'.toList.toArray 0)) u = n := by
      rw [eu]
      exact ((tupI_raw I1 ht).keeps fun b ob q _ => Heap.get?_push_of_some _ q).ints
    have i2 : TS.intsOf (h'.push (seqObj "list" acc'.toList.toArray 0)) v = m := by
      rw [ev]
      exact ((tupI_raw I1 ht').keeps fun b ob q _ => Heap.get?_push_of_some _ q).ints
    rw [← i1, ← i2]
    exact huv
end
end L2
set_option Elab.async false
set_option linter.all false
set_option maxRecDepth 100000
set_option maxHeartbeats 2000000
namespace Y
open PySem PySem.Spec PyProof.Rows L2
abbrev PK := List (List Key × V)
def pk (t : Int × Int) : List Key := [Sum.inl t.1, Sum.inl t.2]
theorem pk_inj {t u : Int × Int} (h : pk t = pk u) : t = u := by
  unfold pk at h
  injection h with h1 h2
  injection h2 with h2 _
  injection h1 with h1
  injection h2 with h2
  exact Prod.ext h1 h2
/-- a tie between two of n places -/
def TieOk (n : Nat) (t : Int × Int) : Prop := 0 ≤ t.1 ∧ t.1 < n ∧ 0 ≤ t.2 ∧ t.2 < n ∧ t.1 ≠ t.2
/-- the pairs kept in a dict: ks, in the order they came -/
def PairsOk (n : Nat) (kvs : PK) (ks : List (Int × Int)) : Prop := kvs.map (·.1) = ks.map pk ∧ ks.Nodup ∧ ∀ t ∈ ks, TieOk n t
theorem PairsOk.nil (n : Nat) : PairsOk n [] [] := ⟨rfl, List.nodup_nil, fun t h => by cases h⟩
theorem PairsOk.len {n : Nat} {kvs : PK} {ks : List (Int × Int)} (h : PairsOk n kvs ks) : kvs.length = ks.length := by
  have := congrArg List.length h.1
  rwa [List.length_map, List.length_map] at this
theorem PairsOk.put {n : Nat} {kvs : PK} {ks : List (Int × Int)} (h : PairsOk n kvs ks) {t : Int × Int} (ht : TieOk n t) (v : V) : ∃ ks', PairsOk n (putK kvs (pk t) v) ks' ∧ ks'.length ≤ ks.length + 1 ∧ (∀ u ∈ ks, u ∈ ks') ∧ t ∈ ks' := by
  by_cases c : (kvs.any fun kv => decide (kv.1 = pk t)) = true
  · refine ⟨ks, ⟨?_, h.2.1, h.2.2⟩, Nat.le_succ _, fun u hu => hu, ?_⟩
    rotate_left
    · obtain ⟨kv, m, e⟩ := List.any_eq_true.mp c
      have m2 : pk t ∈ ks.map pk := by rw [← h.1]; exact List.mem_map.mpr ⟨kv, m, of_decide_eq_true e⟩
      obtain ⟨u, hu, e2⟩ := List.mem_map.mp m2
      rw [← pk_inj e2]; exact hu
    unfold putK
    rw [if_pos c, List.map_map, ← h.1]
    refine List.map_congr_left fun kv _ => ?_
    show (if kv.1 = pk t then (kv.1, v) else kv).1 = kv.1
    split <;> rfl
  · refine ⟨ks ++ [t], ⟨?_, ?_, fun u hu => ?_⟩, by rw [List.length_append]; exact Nat.le_refl _, fun u hu => List.mem_append.mpr (.inl hu), List.mem_append.mpr (.inr (List.mem_singleton.mpr rfl))⟩
    · unfold putK
      rw [if_neg c, List.map_append, List.map_append, h.1]
      rfl
    · rw [List.nodup_append]
      refine ⟨h.2.1, by simp, fun a ha b hb e => c ?_⟩
      rw [List.mem_singleton] at hb
      subst hb
      subst e
      have : pk a ∈ kvs.map (·.1) := by rw [h.1]; exact List.mem_map.mpr ⟨a, ha, rfl⟩
      obtain ⟨kv, m, e⟩ := List.mem_map.mp this
      exact List.any_eq_true.mpr ⟨kv, m, decide_eq_true e⟩
    · rcases List.mem_append.mp hu with hu | hu
      · exact h.2.2 u hu
      · rw [List.mem_singleton.mp hu]; exact ht
/-! ### ties as data -/
def tieD (t : Int × Int) : PyData := .tuple [.int t.1, .int t.2]
theorem dp_tie {K : PySem.W.Frag} {H : Hp} {b : Addr} {t : Int × Int} (h : SqT K H b [.int t.1, .int t.2]) : Dp K H (.ref b) (tieD t) := .tup h (.cons (.int _) (.cons (.int _) .nil))
/-- at y: the tie t -/
def TieAt (K : PySem.W.Frag) (H : Hp) (y : V) (t : Int × Int) : Prop := TupI K H y [t.1, t.2]
theorem TieAt.dp {K : PySem.W.Frag} {H : Hp} {y : V} {t : Int × Int} (h : TieAt K H y t) : Dp K H y (tieD t) := by
  obtain ⟨b, rfl, h⟩ := h
  exact dp_tie h
/-- a row of ties -/
def TiesOk (n : Nat) (ts : List (Int × Int)) : Prop := ts.Nodup ∧ (∀ t ∈ ts, TieOk n t) ∧ ts.Pairwise fun a b => TS.code 64 [a.1, a.2] ≤ TS.code 64 [b.1, b.2]
theorem keysP {H : Hp} {kvs : PK} {bs : List Addr} {n : Nat} {ks : List (Int × Int)} (r : IsKeys H kvs bs) (h : kvs.map (·.1) = ks.map pk) : Paired (fun (t : Int × Int) (b : Addr) => H b = some (.tup [.int t.1, .int t.2])) ks bs := by
  unfold IsKeys at r
  induction r generalizing ks with
  | nil =>
    cases ks with
    | nil => exact .nil
    | cons t ks => cases h
  | @cons kv b _ _ e t ih =>
    cases ks with
    | nil => cases h
    | cons u ks =>
      injection h with h1 h2
      refine .cons ?_ (ih h2)
      rw [e]
      have h1' : kv.1 = pk u := h1
      rw [h1']
      rfl
/-- sorted, the ties stand in order -/
theorem sorted_ties {K : PySem.W.Frag} {H : Hp} {bs : List Addr} {n : Nat} {ks : List (Int × Int)} (r : Paired (fun (t : Int × Int) (b : Addr) => H b = some (.tup [.int t.1, .int t.2])) ks bs) (nd : ks.Nodup) (ok : ∀ t ∈ ks, TieOk n t)
    {ys : List V} (pm : ys.Perm (bs.map V.ref)) (pw : ys.Pairwise (fun x y => ∀ n m, TupI K H x n → TupI K H y m → TS.code 64 n ≤ TS.code 64 m)) :
    ∃ ts : List (Int × Int), ts.Perm ks ∧ TiesOk n ts ∧ Paired (TieAt K H) ys ts := by
  let f : V → Int × Int := fun y => match y with
    | .ref b => (match H b with | some (.tup [.int i, .int j]) => (i, j) | _ => (0, 0))
    | _ => (0, 0)
  have fb : (bs.map V.ref).map f = ks := by
    clear nd ok pm pw
    induction r with
    | nil => rfl
    | @cons t b _ _ e _ ih =>
      rw [List.map_cons, List.map_cons, ih]
      show (match H b with | some (.tup [.int i, .int j]) => (i, j) | _ => (0, 0)) :: _ = _
      rw [e]
  have fa : ∀ y ∈ bs.map V.ref, TieAt K H y (f y) := by
    clear nd ok pm pw fb
    induction r with
    | nil => intro y hy; cases hy
    | @cons t b _ _ e _ ih =>
      intro y hy
      rcases List.mem_cons.mp hy with rfl | hy
      · refine ⟨b, rfl, ?_⟩
        show SqT K H b [.int (match H b with | some (.tup [.int i, .int j]) => (i, j) | _ => (0, 0)).1, .int (match H b with | some (.tup [.int i, .int j]) => (i, j) | _ => (0, 0)).2]
        rw [e]
        exact SqT.of e
      · exact ih y hy
  have p1 : (ys.map f).Perm ks := by rw [← fb]; exact pm.map f
  have at' : ∀ y ∈ ys, TieAt K H y (f y) := fun y hy => fa y (pm.mem_iff.mp hy)
  refine ⟨ys.map f, p1, ⟨(p1.nodup_iff).mpr nd, fun t ht => ok t (p1.mem_iff.mp ht), ?_⟩, ?_⟩
  · rw [List.pairwise_map]
    refine List.Pairwise.imp_of_mem (fun {a b} ha hb h => h _ _ (at' a ha) (at' b hb)) pw
  · clear p1 pm pw
    induction ys with
    | nil => exact .nil
    | cons y ys ih => exact .cons (at' y List.mem_cons_self) (ih fun z hz => at' z (List.mem_cons_of_mem _ hz))
theorem TieAt.kp {K : PySem.W.Frag} {H H' : Hp} {y : V} {t : Int × Int} (h : TieAt K H y t) (s : Kp H H') : TieAt K H' y t := by
  obtain ⟨b, e, h⟩ := h
  exact ⟨b, e, s.seqT h⟩
theorem ties_kp {K : PySem.W.Frag} {H H' : Hp} {ys : List V} {ts : List (Int × Int)} (h : Paired (TieAt K H) ys ts) (s : Kp H H') : Paired (TieAt K H') ys ts := by
  induction h with
  | nil => exact .nil
  | cons a _ ih => exact .cons (a.kp s) ih
theorem ties_dp {K : PySem.W.Frag} {H : Hp} {ys : List V} {ts : List (Int × Int)} (h : Paired (TieAt K H) ys ts) : DpAll K H ys (ts.map tieD) := by
  induction h with
  | nil => exact .nil
  | cons a _ ih => exact .cons a.dp ih
theorem ties_len {K : PySem.W.Frag} {H : Hp} {ys : List V} {ts : List (Int × Int)} (h : Paired (TieAt K H) ys ts) : ys.length = ts.length := Paired.length h
theorem ties_get {K : PySem.W.Frag} {H : Hp} {ys : List V} {ts : List (Int × Int)} (h : Paired (TieAt K H) ys ts) : ∀ {i : Nat} {y : V}, ys[i]? = some y → ∃ t, ts[i]? = some t ∧ TieAt K H y t := by
  induction h with
  | nil => intro i y e; simp at e
  | cons a _ ih =>
    intro i y e
    cases i with
    | zero => cases Option.some.inj e; exact ⟨_, rfl, a⟩
    | succ i => exact ih e
theorem bd_tie {n : Nat} {t : Int × Int} (h : TieOk n t) (hn : n ≤ 64) : TS.Bd 64 [t.1, t.2] := by
  obtain ⟨a, b, c, d, _⟩ := h
  intro x hx
  rcases List.mem_cons.mp hx with rfl | hx
  · exact ⟨a, by omega⟩
  · rw [List.mem_singleton.mp hx]; exact ⟨c, by omega⟩
end Y
set_option Elab.async false
set_option linter.all false
set_option maxRecDepth 100000
set_option maxHeartbeats 2000000
namespace Y
open PySem PySem.Spec PyProof.Rows L2
/-! ### is the tie in the row of ties? -/
theorem eqv_tie (t u : Int × Int) : PyData.eqv (tieD t) (tieD u) = decide (t = u) := by
  have e : PyData.eqv (tieD t) (tieD u) = (t.1 == u.1 && t.2 == u.2) := by simp [tieD, PyData.eqv, PyData.eqvAll]
  rw [e, Bool.eq_iff_iff]
  simp only [Bool.and_eq_true, beq_iff_eq, decide_eq_true_eq, Prod.ext_iff]
theorem any_tie (ts : List (Int × Int)) (u : Int × Int) : (ts.map tieD).any (fun y => PyData.eqv y (tieD u)) = decide (u ∈ ts) := by
  induction ts with
  | nil => rfl
  | cons t ts ih =>
    rw [List.map_cons, List.any_cons, ih, eqv_tie, Bool.eq_iff_iff]
    simp only [Bool.or_eq_true, decide_eq_true_eq, List.mem_cons]
    exact ⟨fun h => h.imp Eq.symm _root_.id, fun h => h.imp Eq.symm _root_.id⟩
theorem lay_ties : ∀ ts : List (Int × Int), PyData.canLayAll0 (ts.map tieD) = true
  | [] => rfl
  | t :: ts => by
    rw [List.map_cons]
    simp only [PyData.canLayAll0, lay_ties ts, tieD, PyData.canLay0, Bool.and_self]
theorem lay_tie (t : Int × Int) : (tieD t).canLay0 = true := by simp only [tieD, PyData.canLay0, PyData.canLayAll0, Bool.and_self]
theorem depth_tie (t : Int × Int) : (tieD t).depth ≤ 10 := by simp [tieD, PyData.depth, PyData.depthAll]
def rTieIn (K : PySem.W.Frag) (neg : Bool) : R2 := fun x y H Q => ∃ (a : Addr) (ys : List V) (ts : List (Int × Int)) (u : Int × Int), y = .ref a ∧ SqT K H a ys ∧ Paired (TieAt K H) ys ts ∧ TieAt K H x u ∧ Q (.bl (if neg then !decide (u ∈ ts) else decide (u ∈ ts))) H
section
variable {X : Cx}
theorem op_tieIn (hu : X.A.units + 64 < cLine) : OpR X (compareOp .In) (rTieIn X.K false) := by
  intro pins s σ H x y v u Q I rx ry h
  obtain ⟨a, ys, ts, t, rfl, ha, hp, ht, q⟩ := h
  obtain ⟨as, r1⟩ := Dp.reads I (tieD t) x v ht.dp rx
  obtain ⟨bs, r2⟩ := Dp.reads I (.tuple (ts.map tieD)) (.ref a) u (.tup ha (ties_dp hp)) ry
  have := depth_tie t
  exact SeqAt.in_tuple_reads r2 r1 (lay_ties ts) (lay_tie t) (by have := Nat.min_le_right (PyData.depthAll (ts.map tieD)) (tieD t).depth; omega) ⟨.bl _, H, I, rfl, by rw [any_tie]; exact q⟩
theorem op_tieNotIn (hu : X.A.units + 64 < cLine) : OpR X (compareOp .NotIn) (rTieIn X.K true) := by
  intro pins s σ H x y v u Q I rx ry h
  obtain ⟨a, ys, ts, t, rfl, ha, hp, ht, q⟩ := h
  obtain ⟨as, r1⟩ := Dp.reads I (tieD t) x v ht.dp rx
  obtain ⟨bs, r2⟩ := Dp.reads I (.tuple (ts.map tieD)) (.ref a) u (.tup ha (ties_dp hp)) ry
  have := depth_tie t
  exact SeqAt.notIn_tuple_reads r2 r1 (lay_ties ts) (lay_tie t) (by have := Nat.min_le_right (PyData.depthAll (ts.map tieD)) (tieD t).depth; omega) ⟨.bl _, H, I, rfl, by rw [any_tie]; exact q⟩
/-- what is not come to -/
theorem ps_never {st : Stmt} : PS X st (fun _ _ _ => False) := ⟨fun pins s σ H D I h => h.elim⟩
theorem pe_never {e : Expr} : PE X e (fun _ _ _ => False) := ⟨fun pins s σ H Q I h => h.elim⟩
end
end Y
set_option Elab.async false
set_option linter.all false
set_option maxRecDepth 100000
set_option maxHeartbeats 1000000
/-! texts as lists of signs: cut at one sign, put together again -/
namespace Y
open PySem PySem.StrLaws PySem.Builtin PySem.Builtin.Str
def strL (l : List Nat) : Str := ⟨l.toArray⟩
theorem strL_len (l : List Nat) : (strL l).length = l.length := by simp [strL, Str.length]
/-- the pieces of a list between the signs c -/
def splitL (c : Nat) : List Nat → List (List Nat)
  | [] => [[]]
  | a :: r => if a = c then [] :: splitL c r else match splitL c r with
    | [] => [[a]]
    | h :: t => (a :: h) :: t
theorem splitL_ne (c : Nat) : ∀ l, splitL c l ≠ []
  | [] => by simp [splitL]
  | a :: r => by
    unfold splitL
    split
    · simp
    · split <;> simp
theorem splitL_cons {c a : Nat} {r h : List Nat} {t : List (List Nat)} (n : ¬ a = c) (e : splitL c r = h :: t) : splitL c (a :: r) = (a :: h) :: t := by
  show (if a = c then [] :: splitL c r else match splitL c r with | [] => [[a]] | h :: t => (a :: h) :: t) = _
  rw [if_neg n, e]
/-- where c stands in l, l beginning at k -/
def cutsL (c k : Nat) : List Nat → List Nat
  | [] => []
  | a :: r => if a = c then k :: cutsL c (k + 1) r else cutsL c (k + 1) r
theorem at_one (l : List Nat) (c i : Nat) : subAt (strL l) ⟨#[c]⟩ i = decide (l[i]? = some c) := by
  unfold subAt
  rw [Bool.eq_iff_iff, beq_iff_eq, decide_eq_true_iff]
  have e : (strL l).cps.extract i (i + Str.length ⟨#[c]⟩) = ((l.drop i).take 1).toArray := by
    show l.toArray.extract i (i + 1) = _
    simp [List.extract_toArray, List.extract_eq_take_drop]
  rw [e]
  constructor
  · intro h
    have h' : (l.drop i).take 1 = [c] := by simpa using congrArg Array.toList h
    have : ((l.drop i).take 1)[0]? = some c := by rw [h']; rfl
    rw [List.getElem?_take_of_lt (by decide), List.getElem?_drop] at this
    simpa using this
  · intro h
    obtain ⟨hi, hv⟩ := List.getElem?_eq_some_iff.mp h
    rw [List.drop_eq_getElem_cons hi, hv]
    rfl
theorem occ_run (x : List Nat) (c n : Nat) : ∀ (l : List Nat) (k : Nat) (found : Array Nat) (free : Nat), x.drop k = l → free ≤ k → found.size + l.length + 1 ≤ n →
    (forIn (List.range' k (l.length + 1)) (found, free) (occBody (strL x) ⟨#[c]⟩ x.length n)).run.fst.toList = found.toList ++ cutsL c k l
  | [], k, found, free, hd, hf, hn => by
    have hk : x.length ≤ k := by
      have := congrArg List.length hd
      rw [List.length_drop] at this
      simp at this
      omega
    rw [show List.range' k (([] : List Nat).length + 1) = [k] from rfl, List.forIn_cons]
    have no : ¬ (((found.size < n ∧ free ≤ k) ∧ k + Str.length ⟨#[c]⟩ ≤ x.length) ∧ subAt (strL x) ⟨#[c]⟩ k = true) := fun h => by
      have h2 := h.1.2
      have e : Str.length ⟨#[c]⟩ = 1 := rfl
      rw [e] at h2
      omega
    unfold occBody
    simp only [no, if_false]
    simp [cutsL]
  | a :: l, k, found, free, hd, hf, hn => by
    have hk : k < x.length := by
      have := congrArg List.length hd
      rw [List.length_drop] at this
      simp at this
      omega
    have ha : x[k]? = some a := by
      have := congrArg (·[0]?) hd
      rw [List.getElem?_drop] at this
      simpa using this
    have hd' : x.drop (k + 1) = l := by
      have := congrArg List.tail hd
      rw [List.tail_drop] at this
      exact this
    rw [show List.range' k ((a :: l).length + 1) = k :: List.range' (k + 1) (l.length + 1) from rfl, List.forIn_cons]
    rw [List.length_cons] at hn
    by_cases hc : a = c
    · have yes : (((found.size < n ∧ free ≤ k) ∧ k + Str.length ⟨#[c]⟩ ≤ x.length) ∧ subAt (strL x) ⟨#[c]⟩ k = true) := ⟨⟨⟨by omega, hf⟩, hk⟩, by rw [at_one, ha, hc]; simp⟩
      have ih := occ_run x c n l (k + 1) (found.push k) (k + 1) hd' (Nat.le_refl _) (by rw [Array.size_push]; omega)
      have e1 : occBody (strL x) ⟨#[c]⟩ x.length n k (found, free) = pure (ForInStep.yield (found.push k, k + 1)) := by
        unfold occBody
        rw [if_pos yes]
        rfl
      rw [e1]
      show (forIn (List.range' (k + 1) (l.length + 1)) (found.push k, k + 1) (occBody (strL x) ⟨#[c]⟩ x.length n)).run.fst.toList = _
      rw [ih]
      simp [cutsL, hc]
    · have no : ¬ (((found.size < n ∧ free ≤ k) ∧ k + Str.length ⟨#[c]⟩ ≤ x.length) ∧ subAt (strL x) ⟨#[c]⟩ k = true) := fun h => by
        have h2 := h.2
        rw [at_one, ha] at h2
        exact hc (by simpa using h2)
      have ih := occ_run x c n l (k + 1) found free hd' (by omega) (by omega)
      have e1 : occBody (strL x) ⟨#[c]⟩ x.length n k (found, free) = pure (ForInStep.yield (found, free)) := by
        unfold occBody
        rw [if_neg no]
      rw [e1]
      show (forIn (List.range' (k + 1) (l.length + 1)) (found, free) (occBody (strL x) ⟨#[c]⟩ x.length n)).run.fst.toList = _
      rw [ih]
      simp [cutsL, hc]
theorem occ_all (x : List Nat) (c : Nat) : occurrences (strL x) ⟨#[c]⟩ 0 (strL x).length ((strL x).length + 1) = cutsL c 0 x := by
  rw [occ_eq, strL_len]
  have := occ_run x c (x.length + 1) x 0 #[] 0 rfl (Nat.le_refl 0) (by simp)
  rw [Nat.sub_zero]
  simpa using this
/-- the parts from a start on -/
def partsL (x : List Nat) (start : Nat) : List Nat → List (List Nat)
  | [] => [(x.drop start).take (x.length - start)]
  | k :: cs => (x.drop start).take (k - start) :: partsL x (k + 1) cs
theorem parts_eq (x : List Nat) : ∀ (cuts : List Nat) (start : Nat), ((start :: cuts.map (· + 1)).zip (cuts ++ [x.length])).map (fun p : Nat × Nat => strSub (strL x) p.1 p.2) = (partsL x start cuts).map strL
  | [], start => by
    show [strSub (strL x) start x.length] = [strL _]
    unfold strSub strL
    simp [List.extract_toArray, List.extract_eq_take_drop]
  | k :: cs, start => by
    have ih := parts_eq x cs (k + 1)
    show strSub (strL x) start k :: _ = strL _ :: (partsL x (k + 1) cs).map strL
    rw [← ih]
    have e : strSub (strL x) start k = strL ((x.drop start).take (k - start)) := by
      unfold strSub strL
      simp [List.extract_toArray, List.extract_eq_take_drop]
    rw [e]
    rfl
theorem parts_split (x : List Nat) (c : Nat) : ∀ (l : List Nat) (k start : Nat), x.drop k = l → start ≤ k → k ≤ x.length →
    partsL x start (cutsL c k l) = match splitL c l with | [] => [] | h :: t => ((x.drop start).take (k - start) ++ h) :: t
  | [], k, start, hd, hs, hk => by
    have hk : k = x.length := by
      have := congrArg List.length hd
      rw [List.length_drop] at this
      simp at this
      omega
    subst hk
    show [(x.drop start).take (x.length - start)] = [_ ++ []]
    rw [List.append_nil]
  | a :: l, k, start, hd, hs, hk => by
    have hk : k < x.length := by
      have := congrArg List.length hd
      rw [List.length_drop] at this
      simp at this
      omega
    have ha : x[k]? = some a := by
      have := congrArg (·[0]?) hd
      rw [List.getElem?_drop] at this
      simpa using this
    have hd' : x.drop (k + 1) = l := by
      have := congrArg List.tail hd
      rw [List.tail_drop] at this
      exact this
    by_cases hc : a = c
    · have ih := parts_split x c l (k + 1) (k + 1) hd' (Nat.le_refl _) hk
      rw [show cutsL c k (a :: l) = k :: cutsL c (k + 1) l by simp [cutsL, hc], show splitL c (a :: l) = [] :: splitL c l by simp [splitL, hc]]
      show (x.drop start).take (k - start) :: partsL x (k + 1) (cutsL c (k + 1) l) = ((x.drop start).take (k - start) ++ []) :: splitL c l
      rw [ih, List.append_nil]
      cases e : splitL c l with
      | nil => exact absurd e (splitL_ne c l)
      | cons h t => simp
    · have ih := parts_split x c l (k + 1) start hd' (by omega) hk
      rw [show cutsL c k (a :: l) = cutsL c (k + 1) l by simp [cutsL, hc], ih]
      have e2 : (x.drop start).take (k + 1 - start) = (x.drop start).take (k - start) ++ [a] := by
        rw [show k + 1 - start = (k - start) + 1 by omega, List.take_add_one, List.getElem?_drop, show start + (k - start) = k by omega, ha]
        rfl
      cases e : splitL c l with
      | nil => exact absurd e (splitL_ne c l)
      | cons h t =>
        rw [splitL_cons hc e]
        simp only
        rw [e2, List.append_assoc]
        rfl
theorem kind_le (x y : Str) (h : ∀ c ∈ y.cps.toList, c < 256) : (decide (PySem.Builtin.Str.strKind x < PySem.Builtin.Str.strKind y)) = false := by
  refine decide_eq_false ?_
  have e : PySem.Builtin.Str.strKind y = 1 := by
    unfold PySem.Builtin.Str.strKind
    rw [if_pos]
    rw [Array.all_eq_true_iff_forall_mem]
    intro c hc
    exact decide_eq_true (h c (by simpa using hc))
  rw [e]
  unfold PySem.Builtin.Str.strKind
  split
  · omega
  · split <;> omega
/-- text.split of one sign -/
theorem split_one (x : List Nat) (c : Nat) (hc : c < 256) : Txt.split (strL x) ⟨#[c]⟩ = (splitL c x).map strL := by
  have hp : Builtin.Str.partsBetween (strL x) (cutsL c 0 x) (Str.length ⟨#[c]⟩) = (splitL c x).map strL := by
    show ((0 :: (cutsL c 0 x).map (· + 1)).zip (cutsL c 0 x ++ [(strL x).length])).map (fun p : Nat × Nat => strSub (strL x) p.1 p.2) = _
    rw [strL_len, parts_eq, parts_split x c x 0 0 rfl (Nat.le_refl 0) (Nat.zero_le _)]
    cases e : splitL c x with
    | nil => exact absurd e (splitL_ne c x)
    | cons h t => simp
  unfold Txt.split
  rw [occ_all, kind_le (strL x) ⟨#[c]⟩ (fun d hd => by simp at hd; omega), Bool.or_false]
  split
  · rename_i h
    have h := of_decide_eq_true h
    rw [strL_len] at h
    have : x = [] := List.length_eq_zero_iff.mp (Nat.lt_one_iff.mp h)
    subst this
    rfl
  · split
    · rename_i h
      have : cutsL c 0 x = [] := List.isEmpty_iff.mp h
      rw [this] at hp
      rw [← hp]
      show [strL x] = [strSub (strL x) 0 (strL x).length]
      unfold strSub strL
      simp [Str.length]
    · exact hp
/-- lines put together -/
def joinL (c : Nat) : List (List Nat) → List Nat
  | [] => []
  | [l] => l
  | l :: m :: r => l ++ c :: joinL c (m :: r)
theorem splitL_app (c : Nat) : ∀ (l r : List Nat), c ∉ l → splitL c (l ++ c :: r) = l :: splitL c r
  | [], r, _ => by simp [splitL]
  | a :: l, r, h => by
    rw [List.mem_cons, not_or] at h
    exact splitL_cons (Ne.symm h.1) (splitL_app c l r h.2)
theorem splitL_one (c : Nat) : ∀ (l : List Nat), c ∉ l → splitL c l = [l]
  | [], _ => rfl
  | a :: l, h => by
    rw [List.mem_cons, not_or] at h
    exact splitL_cons (Ne.symm h.1) (splitL_one c l h.2)
theorem split_join (c : Nat) : ∀ (ls : List (List Nat)), ls ≠ [] → (∀ l ∈ ls, c ∉ l) → splitL c (joinL c ls) = ls
  | [], h, _ => absurd rfl h
  | [l], _, h => splitL_one c l (h l List.mem_cons_self)
  | l :: m :: r, _, h => by
    show splitL c (l ++ c :: joinL c (m :: r)) = _
    rw [splitL_app c l _ (h l List.mem_cons_self), split_join c (m :: r) (by simp) fun x hx => h x (List.mem_cons_of_mem _ hx)]
end Y
set_option Elab.async false
set_option linter.all false
set_option maxRecDepth 100000
set_option maxHeartbeats 2000000
/-! the truth and the length of a dict by rows -/
namespace PySem
open Sem (wp)
section
variable {prog : Program} {w : World} {A : Around} {E : Value → Shared → Prop} {s : Shared} {d : Addr} {es : Array DictEntry} {ep : Nat}
theorem len_body_raw {Q : Value → Shared → Prop} (hd : (d == sysModules) = false) (hm : s.heap.DictRaw d es ep) (hfit : (es.size : Int) < 2 ^ 63)
    (h : Q (.int es.size (s.toks + 1)) { s with toks := s.toks + 1 + 1 }) : wpAny (model prog w) A (Builtin.«len» ⟨[.ref d], []⟩) (fun fin s' => ∃ r, fin = .done (.ret r) ∧ Q r s') E s := by
  unfold Builtin.«len»
  refine wpAny_bind (m := oneArg "len" _) (wpAny_pure ?_)
  refine wpAny_bind (m := callSpecial? (.ref d) (Str.ofString "__len__")) (wpAny_callSpecial?_slot (name := Str.ofString "__len__") hm.typeIs F.slot_dict_len (call_len_raw hd hm ?_))
  show wpAny _ _ _ _ _ { s with toks := s.toks + 1 }
  refine wpAny_bind (wpAny_holding (wpAny_pure ?_))
  refine wpAny_bind (wpAny_letGo ?_)
  show wpAny _ _ (if ((es.size : Nat) : Int) < 0 then _ else _) _ _ _
  rw [if_neg (by omega)]
  show wpAny _ _ (if ((es.size : Nat) : Int) ≥ 2 ^ 63 then _ else _) _ _ _
  rw [if_neg (by omega)]
  exact wpAny_bind (wpAny_mkInt (wpAny_pure ⟨_, rfl, h⟩))
theorem truthy_raw {Q : Bool → Shared → Prop} (hd : (d == sysModules) = false) (hm : s.heap.DictRaw d es ep) (hfit : (es.size : Int) < 2 ^ 63)
    (h : Q (decide (es.size ≠ 0)) { s with toks := s.toks + 1 + 1 }) : wpAny (model prog w) A (truthy (.ref d)) Q E s := by
  have hne : ((es.size : Int) != 0) = decide (es.size ≠ 0) := by
    by_cases c : es.size = 0
    · rw [c]; rfl
    · rw [decide_eq_true c]
      simp only [bne_iff_ne, ne_eq]
      omega
  have key : wpAny (model prog w) A (runValue (.builtin "len" ⟨[.ref d], []⟩)) (fun r s' => r = .int es.size (s.toks + 1) ∧ Q (decide (es.size ≠ 0)) s') E s := by
    refine wpAny_runValue (codeAny_builtin entry_len ?_)
    rw [Around.under_plainId plain_len _]
    exact wpAny_mono (len_body_raw (Q := fun r s' => r = .int es.size (s.toks + 1) ∧ Q (decide (es.size ≠ 0)) s') hd hm hfit ⟨rfl, h⟩)
      (fun fin s' h' => by obtain ⟨r, rfl, hq⟩ := h'; exact hq) fun _ _ e => e
  unfold truthy
  first
    | refine wpAny_bind (wpAny_callSpecial?_none (name := Str.ofString "__bool__") hm.typeIs noBool_dict ?_)
    | refine wpAny_bind (wpAny_pure (wpAny_bind (wpAny_callSpecial?_none (name := Str.ofString "__bool__") hm.typeIs noBool_dict ?_)))
  first
    | refine wpAny_bind (wpAny_specialOf (name := Str.ofString "__len__") hm.typeIs F.slot_dict_len.lookup ?_)
    | refine wpAny_bind (wpAny_pure (wpAny_bind (wpAny_specialOf (name := Str.ofString "__len__") hm.typeIs F.slot_dict_len.lookup ?_)))
  first
    | exact wpAny_bind (wpAny_mono key (fun r s' h' => by obtain ⟨rfl, hq⟩ := h'; exact wpAny_pure (hne ▸ hq)) fun _ _ e => e)
    | exact wpAny_bind (wpAny_pure (wpAny_bind (wpAny_mono key (fun r s' h' => by obtain ⟨rfl, hq⟩ := h'; exact wpAny_pure (hne ▸ hq)) fun _ _ e => e)))
end
end PySem
namespace L2
open PySem PySem.Spec PyProof.Rows
theorem tru_dT {X : Cx} : TruR X (fun x H Q => ∃ a kvs, x = .ref a ∧ H a = some (.dT kvs) ∧ Q (decide (kvs.length ≠ 0)) H) := by
  intro pins s σ H x v Q I rx h
  obtain ⟨a, kvs, rfl, e, q⟩ := h
  cases rx
  obtain ⟨z, hsys, ks, pr, o, es, ep, ho, hx, hdt, he, hn⟩ := (show ObjOk X.prog X.w H s.heap a (.dT kvs) from I.hok _ _ e)
  have hl := line63
  have l1 : es.size = ks.length := by
    have := congrArg List.length he
    rwa [Array.length_toList, List.length_map] at this
  have l2 : kvs.length = ks.length := Paired.length pr
  exact truthy_raw hsys ⟨o, ho, hx, hdt⟩ (by omega) ⟨H, I.tok _, by rw [l1, ← l2]; exact q⟩
theorem call_lenT {X : Cx} : CallR X (.builtin "len") (fun xs H Q => ∃ a kvs, xs = [V.ref a] ∧ H a = some (.dT kvs) ∧ Q (.int (kvs.length : Nat)) H) := by
  intro pins s σ H xs us Q I r h
  obtain ⟨a, kvs, rfl, e, q⟩ := h
  obtain ⟨u, rfl, rx⟩ := r.one
  cases rx
  obtain ⟨z, hsys, ks, pr, o, es, ep, ho, hx, hdt, he, hn⟩ := (show ObjOk X.prog X.w H s.heap a (.dT kvs) from I.hok _ _ e)
  have hl := line63
  have l1 : es.size = ks.length := by
    have := congrArg List.length he
    rwa [Array.length_toList, List.length_map] at this
  have l2 : kvs.length = ks.length := Paired.length pr
  exact Calls.call_function_entry kind_len plain_len entry_len (args_len1 _) (len_body_raw hsys ⟨o, ho, hx, hdt⟩ (by omega) ⟨.int (kvs.length : Nat), H, I.tok _, ⟨_, by rw [l1, ← l2]⟩, q⟩)
end L2
set_option Elab.async false
set_option linter.all false
set_option maxRecDepth 100000
set_option maxHeartbeats 2000000
/-! several clauses «except C as n», all with one name -/
namespace Y
open PySem PySem.Spec PyProof.Rows L2
abbrev Cl := Value × (Addr → Value → Option Addr → TS)
/-- what the clauses wish, one behind the other -/
def wEach (K : PySem.W.Frag) (i : Nat) (Wout : WX) (D : Ends) : List Cl → WX
  | [] => Wout
  | p :: r => wAs K p.1 i p.2 (wEach K i Wout D r) D
inductive Clauses (X : Cx) (n : Str) : List ExceptHandler → List Cl → Prop
  | nil : Clauses X n [] []
  | cons {x : Str} {c : Value} {ts : Addr → Value → Option Addr → TS} {s₁ : Stmt} {ss : List Stmt} {p1 p2 : Pos} {hs : List ExceptHandler} {l : List Cl} (nm : Names X x c)
      (su : ∀ (a : Addr) (oe : Obj) (cls : Value) (d : Option Addr) (pn : List (Addr × Obj)), Zc cls d oe → (∃ vs, oe.data = .fields vs) → PSs (X.suite a ((a, oe) :: pn)) (s₁ :: ss) (ts a cls d)) (r : Clauses X n hs l) :
      Clauses X n (.ExceptHandler (some (.Name x p1)) (some n) (s₁ :: ss) p2 :: hs) ((c, ts) :: l)
section
variable {X : Cx} {n : Str} {i : Nat} {body : List Stmt} {hs : List ExceptHandler} {h₁ : ExceptHandler} {l : List Cl} {pos : Pos} {tb : WX → TS} {Wout : WX}
theorem ps_try_each (stk : X.stack = X.env :: X.outer) (frm : X.env.frame = some X.env.locals) (nd : X.N.Nodup) (hi : X.N[i]? = some n) (loc : X.env.kindOf n = some .local) (tk : Takes X Wout)
    (hb : ∀ (W : WX) (pn : List (Addr × Obj)) (xe : Value → Shared → Prop), Takes (X.tr pn xe) W → PassesOwn (model X.prog X.w) X.A X.env xe → PSs (X.tr pn xe) body (tb W)) (hh : Clauses X n (h₁ :: hs) l) :
    PS X (.Try body (h₁ :: hs) [] [] pos) (fun D σ H => tb (wEach X.K i Wout D l) D σ H) := by
  refine ⟨fun pins s σ H D I h => ?_⟩
  have okX := I.ok
  have frs' : X.A.frames = some (X.env :: X.outer) := by rw [okX.frames, stk]
  refine wpAny_Try_except (wpAny_mono ((hb (wEach X.K i Wout D l) (X.pn ++ pins) (fun e s₁ => wpAny (model X.prog X.w) X.A (noteFrame e X.env) (fun _ s₂ => wpAny (model X.prog X.w) X.A (setFlight e none)
    (fun _ s₃ => wpAny (model X.prog X.w) X.A (handleBy e X.env (h₁ :: hs)) (SP X pins D) X.xe s₃) X.xe s₂) X.xe s₁) (fun u s' caught => ?_) PassesOwn.looking).run [] s σ H D (I.toTry _) h) (fun f s1 fine => ?_) (fun e s1 z => z))
  · obtain ⟨a, B, sI, pins', σ', H', cls, d, rfl, J', nb, up, sky, na, os, ag, wish⟩ := caught
    have J : Inv X pins σ' H' sI := J'.ofTry okX
    show wpAny (model X.prog X.w) X.A (noteFrame (.ref a) X.env) _ _ _
    refine Sky.land Zc.steady frs' frm (by rw [← stk]; exact sky) fun h3 fl3 up3 => ?_
    have J3 : Inv X pins σ' H' { s' with heap := h3 } := J.landed nb fl3.1 (up.trans up3) os ag
    obtain ⟨o3, v3, at3, zc3, fd3⟩ := fl3.there
    have far : a ∉ frs (X.env :: X.outer) := fun hm => by
      obtain ⟨_, o', e', other⟩ := fl3.2.2.1.mem hm
      rw [at3] at e'; cases e'
      exact other _ fd3
    have nL : a ≠ X.env.locals := fun z => far (List.mem_filterMap.mpr ⟨X.env, List.mem_cons_self, by rw [frm, z]⟩)
    have nF : a ∉ X.fs := fun hm => by
      obtain ⟨e, he, q⟩ := List.mem_filterMap.mp hm
      exact far (List.mem_filterMap.mpr ⟨e, .tail _ he, q⟩)
    have S3 := J3.suite at3 fd3 na nL nF
    have go : ∀ {ks : List ExceptHandler} {m : List Cl}, Clauses X n ks m → wEach X.K i Wout D m cls d σ' H' → wpAny (model X.prog X.w) X.A (handleBy (.ref a) X.env ks) (SP X pins D) X.xe { s' with heap := h3 } := by
      intro ks m hk
      induction hk with
      | nil =>
        intro w
        refine wpAny_handleBy_nil ?_
        obtain ⟨_, _, _, oe, vs, T, oT, ts', he, _, hd, h1, _⟩ := id fl3
        unfold PySem.passOn
        refine wpAny_bind (wpAny_field he hd h1 ?_)
        rw [if_neg (show ¬ ((Value.ref T == Value.none) = true) by simp)]
        have last : wpAny (model X.prog X.w) X.A (setFlight (.ref a) X.env.frame) (fun _ s4 => wpAny (model X.prog X.w) X.A (throw (.ref a) : Sem Flow) (SP X pins D) X.xe s4) X.xe { s' with heap := h3 } := by
          rw [frm]
          exact HandSPX.setFlight_upZ fl3 fun h4 hh4 up4 => wpAny_throw (tk _ _ ⟨a, B, sI, pins, σ', H', cls, d, rfl, J, nb, (up.trans up3).trans up4, .inr (.inr (by rw [stk]; exact hh4)), na, os, ag, w⟩)
        first
          | exact wpAny_bind (wpAny_pure (wpAny_bind last))
          | exact wpAny_bind last
      | @cons x c ts s₁ ss p1 p2 hs2 l2 nm su r ih =>
        intro w
        obtain ⟨b, hit, yes, no⟩ := w
        have looks : PySem.W.Looks (model X.prog X.w) h3 (typeOf (.ref a)) cls := fun A Q E s k q => wpAny_typeOf_ref (k _ _ at3) (by rw [zc3.1]; exact q)
        have tells := PySem.W.exm_one (M := model X.prog X.w) (J3.kIn) looks hit
        have name : ∀ {Q : Value → Shared → Prop} {E : Value → Shared → Prop}, Q c { s' with heap := h3 } → wpAny (model X.prog X.w) (X.A.mark (some (.ref a))) (eval (.Name x p1) X.env) Q E { s' with heap := h3 } := fun {Q E} q => by
          obtain ⟨hg, hdbg, hm | ⟨hm, hv, hnn⟩⟩ := nm
          · exact ld_glob (X := X.suite a ((a, o3) :: (X.pn ++ pins))) S3 hg hm q hdbg
          · exact ld_blt (X := X.suite a ((a, o3) :: (X.pn ++ pins))) S3 hg hm hv q hnn hdbg
        refine wpAny_handleBy_cons (codeAny_handlers_test (name (tells.here ?_))) (fun q => nomatch q)
        cases b with
        | true =>
          refine codeAny_handlers_suite_as (HandSPX.lands_againZ fl3 fun h4 fl4 up4 => ?_)
          have J4 : Inv X pins σ' H' { s' with heap := h4 } := J.landed nb fl4.1 ((up.trans up3).trans up4) os ag
          obtain ⟨o4, v4, at4, zc4, fd4⟩ := fl4.there
          have S4 := J4.suite at4 fd4 na nL nF
          refine store_ok (X := X.suite a ((a, o4) :: (X.pn ++ pins))) (v := .ref a) S4 nd hi (.inl loc) rfl (fun s5 S5 => ?_) (.inr loc)
          refine wpAny_mono ((su a o4 cls d (X.pn ++ pins) zc4 ⟨_, fd4⟩).run [] s5 _ H' _ S5 (yes rfl a na)) (fun f s6 out => ?_) (fun _ _ z => z.elim)
          have off : ∀ {σ6 : L2.St} {H6 : Hp} {Q : Shared → Prop}, Inv (X.suite a ((a, o4) :: (X.pn ++ pins))) [] σ6 H6 s6 → (∀ s7, Inv X pins (σ6.set i none) H6 s7 → Q s7) →
              wpAny (model X.prog X.w) X.A (do bindName X.env n .none; unbindBehindTheSuite X.env n p2) (fun _ s7 => Q s7) X.xe s6 := fun {σ6 H6 Q} S6 hq => gone_ok (S6.unsuite okX) nd hi loc hq
          cases f with
          | next => obtain ⟨σ6, H6, S6, q6⟩ := out; exact off S6 fun s7 J7 => ⟨_, _, J7, q6⟩
          | brk => obtain ⟨σ6, H6, S6, q6⟩ := out; exact off S6 fun s7 J7 => ⟨_, _, J7, q6⟩
          | cont => obtain ⟨σ6, H6, S6, q6⟩ := out; exact off S6 fun s7 J7 => ⟨_, _, J7, q6⟩
          | ret u => obtain ⟨v6, σ6, H6, S6, r6, q6⟩ := out; exact off S6 fun s7 J7 => ⟨_, _, _, J7, r6, q6⟩
        | false => exact ih (no rfl)
    exact go hh wish
  · cases f with
    | next => obtain ⟨σ2, H2, J2, q⟩ := fine; exact wpAny_execs_nil ⟨σ2, H2, J2.ofTry okX, q⟩
    | brk => obtain ⟨σ2, H2, J2, q⟩ := fine; exact ⟨σ2, H2, J2.ofTry okX, q⟩
    | cont => obtain ⟨σ2, H2, J2, q⟩ := fine; exact ⟨σ2, H2, J2.ofTry okX, q⟩
    | ret u => obtain ⟨v, σ2, H2, J2, r, q⟩ := fine; exact ⟨v, σ2, H2, J2.ofTry okX, r, q⟩
end
end Y
set_option Elab.async false
set_option linter.all false
set_option maxRecDepth 100000
set_option maxHeartbeats 2000000
namespace Y
open PySem PySem.Spec PyProof.Rows L2
theorem flat_intsV (ys : List Int) : (ys.map V.int).all flatV = true := by
  rw [List.all_map, List.all_eq_true]
  intro y _
  rfl
/-- t.index(z) in a tuple of ints: its first place -/
def rTupIx (K : PySem.W.Frag) : V → List V → Hp → VK → Prop := fun x xs H Q => ∃ (p : Addr) (ys : List Int) (z : Int) (j : Nat), x = .ref p ∧ xs = [.int z] ∧ SqT K H p (ys.map V.int) ∧ ys[j]? = some z ∧ (∀ m, m < j → ys[m]? ≠ some z) ∧ Q (.int (j : Nat)) H
theorem mt_tupIx {X : Cx} : MtR X "tuple.index" (rTupIx X.K) := by
  intro pins s σ H x xs v us Q I rx rs h
  obtain ⟨p, ys, z, j, rfl, rfl, hq, hy, hno, q⟩ := h
  cases rx
  obtain ⟨u, rfl, t, rfl⟩ := vals1 rs
  obtain ⟨its, r, ⟨⟨cls, dd, dt, sl⟩, ho, hc, n, hd⟩, hz⟩ := I.tuple hq
  simp only at hc hd
  subst hc hd
  have len : its.toArray.size = ys.length := by rw [List.size_toArray, ← r.length, List.length_map]
  have itm : ∀ (m : Nat) (hm : m < its.toArray.size), ∃ y t', ys[m]? = some y ∧ its.toArray[m] = Value.int y t' := fun m hm => by
    have hm' : m < ys.length := by rw [← len]; exact hm
    obtain ⟨w, hw, t', hw'⟩ := r.get (i := m) (x := .int ys[m]) (by simp [hm'])
    exact ⟨ys[m], t', List.getElem?_eq_getElem hm', by have e := (List.getElem?_eq_some_iff.mp hw).2; rw [← hw', ← e]; simp⟩
  have hj : j < its.toArray.size := by rw [len]; exact (List.getElem?_eq_some_iff.mp hy).1
  refine call_meets PySem.F.slot_tuple_index ⟨_, ho, rfl⟩ PySem.F.entry_tuple_index (PySem.F.args_tuple_index_2 _ _) (TI.tuple_indexAt p its.toArray n dd sl (.int z t) (eqU (.int z)) j hj ?_ ?_)
    ⟨ho, fun w hw => mem_eqAt (x := .int z) ⟨t, rfl⟩ rfl r (flat_intsV ys) w (by simpa using hw), ⟨.int (j : Nat), H, I.tok _, ⟨_, rfl⟩, q⟩⟩
  · obtain ⟨y, t', h1, h2⟩ := itm j hj
    rw [hy] at h1
    cases h1
    rw [h2]
    show (z == z) = true
    exact beq_self_eq_true z
  · intro m hm hmj
    obtain ⟨y, t', h1, h2⟩ := itm m hm
    rw [h2]
    show (y == z) = false
    exact beq_eq_false_iff_ne.mpr fun e => hno m hmj (by rw [h1, e])
end Y
set_option Elab.async false
set_option linter.all false
set_option maxRecDepth 100000
set_option maxHeartbeats 2000000
/-! tuples that are known to have no dict of their own: their methods can be called -/
namespace Y
open PySem PySem.Spec PyProof.Rows L2
def PlT (H : Hp) (a : Addr) : Prop := ∃ (o : Obj) (u : HO), H a = some (.frz o u) ∧ o.dict = none ∧ o.cls = .type "tuple"
/-- a tuple just made -/
def NewT (H : Hp) (a : Addr) (ys : List V) (H' : Hp) : Prop := ∃ o : Obj, H a = none ∧ H' = upd H a (.frz o (.tup ys)) ∧ o.dict = none ∧ o.cls = .type "tuple"
section
variable {K : PySem.W.Frag} {H H' : Hp} {a : Addr} {ys : List V}
theorem NewT.sq (h : NewT H a ys H') : SqT K H' a ys := by
  obtain ⟨o, _, rfl, _⟩ := h
  exact .inl (.inr ⟨o, upd_same⟩)
theorem NewT.pl (h : NewT H a ys H') : PlT H' a := by
  obtain ⟨o, _, rfl, h1, h2⟩ := h
  exact ⟨o, _, upd_same, h1, h2⟩
theorem NewT.same (h : NewT H a ys H') : Same H H' := by
  obtain ⟨o, n, rfl, _⟩ := h
  exact Same.new n
theorem PlT.kp (h : PlT H a) (s : Kp H H') : PlT H' a := by
  obtain ⟨o, u, e, r⟩ := h
  exact ⟨o, u, s _ _ e (fun _ z => by cases z), r⟩
end
def rTupF (K : PySem.W.Frag) : List V → Hp → VK → Prop := fun xs H Q => ∃ (p : Addr) (ys : List V), xs = [.ref p] ∧ ((SqL K H p ys ∧ ∀ l H', NewT H l ys H' → Q (.ref l) H') ∨ (SqT K H p ys ∧ Q (.ref p) H))
theorem call_tupF {X : Cx} : CallR X (.type "tuple") (rTupF X.K) := by
  intro pins s σ H xs us Q I r h
  obtain ⟨p, ys, rfl, h⟩ := h
  obtain ⟨u, rfl, rx⟩ := vals1 r
  cases rx
  rcases h with ⟨hq, q⟩ | ⟨hq, q⟩
  · obtain ⟨its, rv, pl, hz⟩ := I.list hq
    have hlen := rv.length
    refine call_tuple_list pl.isList (fun h' kp => ?_) (by rw [List.size_toArray]; omega)
    have J : Inv X pins σ H { s with heap := h' } := I.kept (t' := s.toks) kp
    have fr := J.hok.fresh (Nat.le_refl _)
    have at0 : (h'.push { cls := .type "tuple", data := .seq its.toArray }).get? h'.objs.size = some { cls := .type "tuple", data := .seq its.toArray } := Heap.get?_push_size _ rfl
    refine ⟨.ref h'.objs.size, upd H h'.objs.size (.frz { cls := .type "tuple", data := .seq its.toArray } (.tup ys)), J.laid (t' := s.toks) (fun b o e => Heap.get?_push_of_some _ e) (Nat.le_refl _) ⟨at0, hz, its, rv, IsTup.new _ _⟩, rfl, q _ _ ⟨_, fr, rfl, rfl, rfl⟩⟩
  · obtain ⟨its, rv, pl, hz⟩ := I.tuple hq
    exact call_tuple_same pl ⟨.ref p, H, I, rfl, q⟩
def tTM (to : TE) (t : TA) (r : V → List V → Hp → VK → Prop) : TE := fun σ H Q => to σ H fun x H1 => (∃ p, x = .ref p ∧ PlT H1 p) ∧ t σ H1 fun xs H2 => r x xs H2 Q
/-- t.m(e), t a tuple without a dict -/
theorem pe_tm {X : Cx} {o e : Expr} {es : List Expr} {to : TE} {t : TA} {name : Str} {apos cpos : Pos} {id : String} {r : V → List V → Hp → VK → Prop} (slot : Slot "tuple" name id) (ty : typeOf (.builtin id) = pure (.type "method_descriptor")) (rule : MtR X id r) (ho : PE X o to) (ha : PA X (e :: es) t)
    (base : attributeBase o name X.env (eval o X.env) = eval o X.env := by rfl)
    (few : ((backTo cpos (starEach (e :: es) X.env)).all (fun x => !x.1) && (backToKw cpos (keywordEach [] X.env)).all (fun x => x.1.isSome) && decide ((e :: es).length + ([] : List Keyword).length + (if ([] : List Keyword).isEmpty then 0 else 1) < 30)) = true := by rfl)
    (line : (apos.endLine == cpos.line) = true := by rfl) (hs : starEach (e :: es) X.env = (false, eval e X.env) :: starEach es X.env := by rfl) (plain : (backTo cpos (starEach es X.env)).any (·.1) = false := by rfl) :
    PE X (.Call (.Attribute o name apos) (e :: es) [] cpos) (tTM to t r) := by
  refine ⟨fun pins s σ H Q I h => wpAny_Call_method_late base few line rfl (thn (ho.run pins s σ H _ I h) fun v s1 hv => ?_)⟩
  obtain ⟨x, H1, I1, r1, ⟨p, rfl, o', u, eo, d0, c0⟩, q1⟩ := hv
  obtain rfl : v = Value.ref p := r1
  obtain ⟨e1, _⟩ := (show ObjOk X.prog X.w H1 s1.heap p (.frz o' u) from I1.hok p _ eo)
  refine ⟨"tuple", id, PySem.F.plainAttrs_tuple, slot, ty, ⟨o', e1, c0⟩, fun a z => by cases z; exact ⟨o', e1, d0⟩, ?_⟩
  have hA := ha.run cpos pins s1 σ H1 _ I1 q1
  rw [hs] at hA ⊢
  exact Calls.callWith_builtin (by show (false || (backTo cpos (starEach es X.env)).any (·.1)) = false; rw [plain]; rfl) (Calls.evalArgs_plain (thn hA fun us s2 ⟨vs, H2, I2, r2, q2⟩ => rule pins s2 σ H2 (.ref p) vs (.ref p) us Q I2 rfl r2 q2))
end Y
set_option Elab.async false
set_option linter.all false
set_option maxRecDepth 100000
set_option maxHeartbeats 2000000
namespace L2
open PySem PySem.Spec PyProof.Rows
/-! ### t[lo:hi] and t + u of tuples, whatever comes out new -/
def rSlU (K : PySem.W.Frag) : V → Option Int → Option Int → Hp → VK → Prop := fun x lo hi H Q => ∃ a xs, x = .ref a ∧ SqT K H a xs ∧ ∀ u H', SqT K H' u (cutV xs lo hi) → Same H H' → Q (.ref u) H'
theorem cut_whole {xs : List V} {lo hi : Option Int} (h : HT.sIx xs.length 0 lo = 0 ∧ HT.sIx xs.length xs.length hi = xs.length) : cutV xs lo hi = xs := by
  unfold cutV
  rw [h.1, h.2, List.drop_zero, Nat.sub_zero, List.take_length]
theorem sl_tupU {X : Cx} : SlR X (rSlU X.K) := by
  intro pins s σ H x v vl vu lo hi sl Q I rx hs pl pu h
  obtain ⟨a, xs, rfl, hx, k⟩ := h
  refine sl_tupA pins s σ H _ v vl vu lo hi sl Q I rx hs pl pu ⟨a, xs, rfl, hx, fun hw => ?_, fun _ p hp => k p _ (SqT.of upd_same) (Y.Same.new hp)⟩
  have := k a H (by rw [cut_whole hw]; exact hx) (fun _ _ e => e)
  exact this
def rCatU (K : PySem.W.Frag) : R2 := fun x y H Q => ∃ a b xs ys, x = .ref a ∧ y = .ref b ∧ SqT K H a xs ∧ SqT K H b ys ∧ xs.length + ys.length ≤ sizeLine ∧ ∀ u H', SqT K H' u (xs ++ ys) → Same H H' → Q (.ref u) H'
theorem op_catU {X : Cx} : OpR X (binaryOp .Add) (rCatU X.K) := by
  intro pins s σ H x y v u Q I rx ry h
  obtain ⟨a, b, xs, ys, rfl, rfl, ha, hb, hz, k⟩ := h
  refine op_catA pins s σ H _ _ v u Q I rx ry ⟨a, b, xs, ys, rfl, rfl, ha, hb, hz, fun e => ?_, fun _ e => ?_, fun _ _ p hp => k p _ (SqT.of upd_same) (Y.Same.new hp)⟩
  · subst e
    exact k b H hb (fun _ _ e => e)
  · subst e
    exact k a H (by rw [List.append_nil]; exact ha) (fun _ _ e => e)
theorem cut_d1 (xs : List V) : cutV xs (some 1) none = xs.drop 1 := by
  unfold cutV
  have e := HT.sIx_nat xs.length 0 1
  rw [HT.sIx_none, show (some (1 : Int)) = some ((1 : Nat) : Int) from rfl, e, List.take_of_length_le (by rw [List.length_drop]; exact Nat.le_refl _)]
  cases xs with
  | nil => rfl
  | cons a xs => rw [List.length_cons, Nat.min_eq_left (by omega)]
theorem cut_t1 (xs : List V) : cutV xs none (some 1) = xs.take 1 := by
  unfold cutV
  have e := HT.sIx_nat xs.length xs.length 1
  rw [HT.sIx_none, show (some (1 : Int)) = some ((1 : Nat) : Int) from rfl, e, List.drop_zero, Nat.sub_zero]
  cases xs with
  | nil => rfl
  | cons a xs => rw [List.length_cons, Nat.min_eq_left (by omega)]
end L2
namespace Y
open PySem L2
theorem cut_to {xs : List V} {d : Int} (h0 : 0 ≤ d) (h1 : d ≤ xs.length) : cutV xs none (some d) = xs.take d.toNat := by
  obtain ⟨k, rfl⟩ : ∃ k : Nat, d = (k : Int) := ⟨d.toNat, by omega⟩
  unfold cutV
  rw [HT.sIx_none, List.drop_zero, HT.sIx_nat, Nat.sub_zero, Nat.min_eq_left (by omega)]
  rfl
theorem cut_from {xs : List V} {d : Int} (h0 : 0 ≤ d) (h1 : d ≤ xs.length) : cutV xs (some d) none = xs.drop d.toNat := by
  obtain ⟨k, rfl⟩ : ∃ k : Nat, d = (k : Int) := ⟨d.toNat, by omega⟩
  unfold cutV
  rw [HT.sIx_none, HT.sIx_nat, Nat.min_eq_left (by omega)]
  exact List.take_of_length_le (by rw [List.length_drop]; exact Nat.le_refl _)
end Y
set_option Elab.async false
set_option linter.all false
set_option maxRecDepth 100000
set_option maxHeartbeats 2000000
/-! own errors with one field or two, raised -/
namespace Y
open PySem PySem.Spec PyProof.Rows L2
/-- what is raised: an error of the class at C with the fields fs -/
def RaisedF (C : Addr) (fs : List (Str × V)) (H : Hp) (E : XK) : Prop := ∀ (d : Addr) (H' : Hp), Same H H' → H' d = some (.xd fs) → E (.ref C) (some d) H'
theorem RaisedF.same {C : Addr} {fs : List (Str × V)} {H H' : Hp} {E : XK} (r : RaisedF C fs H E) (s : Same H H') : RaisedF C fs H' E := fun d H2 s2 e => r d H2 (s.trans s2) e
/-- an own error of one field: its name nm, its class at C, its first method at fI -/
structure XE1 (K : PySem.W.Frag) (mg : Str → Option Value) (nm fld : Str) (C fI : Addr) : Prop where
  g : mg nm = some (.ref C)
  xc : XcC K C
  i : PySem.W.findIn K (.ref C) "__init__" = some (some (.ref fI))
  t : PySem.W.typeIn K (.ref fI) = some (.type "function")
  n : PySem.W.findIn K (.ref C) fld = some none
structure XE2 (K : PySem.W.Frag) (mg : Str → Option Value) (nm fld fld2 : Str) (C fI : Addr) : Prop where
  g : mg nm = some (.ref C)
  xc : XcC K C
  i : PySem.W.findIn K (.ref C) "__init__" = some (some (.ref fI))
  t : PySem.W.typeIn K (.ref fI) = some (.type "function")
  n : PySem.W.findIn K (.ref C) fld = some none
  n2 : PySem.W.findIn K (.ref C) fld2 = some none
def spX2 (C : Addr) (f g : Str) : Sp := fun vs H Q _ => ∃ (a : Addr) (v w : V), vs = [.ref a, v, w] ∧ H a = some (exo a C none) ∧
  ∀ dx H', H dx = none → dx ≠ a → (∀ b o, b ≠ a → H b = some o → H' b = some o) → H' a = some (exo a C (some dx)) → H' dx = some (exd dx [(g, w), (f, v)]) → Q .non H'
theorem mk2 {C : Addr} {f g : Str} {v w : V} {H1 : Hp} {Q : XK} (h : ∀ (d : Addr) (H' : Hp), Same H1 H' → H1 d = none → H' d = some (.xd [(g, w), (f, v)]) → Q (.ref C) (some d) H') :
    ([v, w] : List V).length ≤ 1000 ∧ ∀ a, H1 a = none → spX2 C f g (.ref a :: ([v, w] ++ [])) (upd H1 a (exo a C none))
      (fun u H2 => u = .non ∧ ∃ (d : Addr) (fs : List (Str × V)), H2 a = some (exo a C (some d)) ∧ H2 d = some (exd d fs) ∧ H1 d = none ∧ Q (.ref C) (some d) (upd (del H2 a) d (.xd fs))) (fun _ _ _ => False) := by
  refine ⟨by show 2 ≤ 1000; decide, fun a ha => ⟨a, v, w, rfl, upd_same, fun dx H2 hd hne st e1 e2 => ⟨rfl, dx, [(g, w), (f, v)], e1, e2, by rw [upd_ne hne] at hd; exact hd, ?_⟩⟩⟩
  have hd1 : H1 dx = none := by rw [upd_ne hne] at hd; exact hd
  refine h dx _ (fun b o e => ?_) hd1 upd_same
  have n1 : b ≠ dx := ne_of_none e hd1
  have n2 : b ≠ a := ne_of_none e ha
  rw [upd_ne n1, del_ne n2]
  exact st b o n2 (by rw [upd_ne n2]; exact e)
/-- raised: the reading of `raise C(v)` -/
theorem mkF1 {C : Addr} {f : Str} {v : V} {H1 : Hp} {Q : XK} (h : RaisedF C [(f, v)] H1 Q) :
    ([v] : List V).length ≤ 1000 ∧ ∀ a, H1 a = none → spX1 C f (.ref a :: ([v] ++ [])) (upd H1 a (exo a C none))
      (fun u H2 => u = .non ∧ ∃ (d : Addr) (fs : List (Str × V)), H2 a = some (exo a C (some d)) ∧ H2 d = some (exd d fs) ∧ H1 d = none ∧ Q (.ref C) (some d) (upd (del H2 a) d (.xd fs))) (fun _ _ _ => False) :=
  mk1 fun d H' s _ e => h d H' s e
end Y
set_option Elab.async false
set_option linter.all false
set_option maxRecDepth 100000
set_option maxHeartbeats 2000000
namespace Y
open PySem L2
/-! ### yards as data: ties, rings, all of it; == of two such -/
def ringD (r : List Int) : PyData := .tuple (r.map .int)
def tsD (ts : List (Int × Int)) : PyData := .tuple (ts.map tieD)
def rsD (rs : List (List Int)) : PyData := .tuple (rs.map ringD)
def ydD (n : Nat) (ts : List (Int × Int)) (rs : List (List Int)) : PyData := .tuple [.int (n : Int), tsD ts, rsD rs]
theorem cons_dec {α : Type} [DecidableEq α] (x y : α) (l m : List α) : decide (x :: l = y :: m) = (decide (x = y) && decide (l = m)) := by
  rw [Bool.eq_iff_iff, Bool.and_eq_true, decide_eq_true_iff, decide_eq_true_iff, decide_eq_true_iff]
  exact ⟨fun h => by injection h with h1 h2; exact ⟨h1, h2⟩, fun ⟨h1, h2⟩ => by rw [h1, h2]⟩
theorem int_dec (i j : Int) : (i == j) = decide (i = j) := rfl
theorem eqv_all {α : Type} [DecidableEq α] {f : α → PyData} (h : ∀ a b, PyData.eqv (f a) (f b) = decide (a = b)) : ∀ l m : List α, PyData.eqvAll (l.map f) (m.map f) = decide (l = m)
  | [], [] => by
    show true = _
    exact (decide_eq_true rfl).symm
  | [], _ :: _ => by
    show false = _
    exact (decide_eq_false (fun z => by cases z)).symm
  | _ :: _, [] => by
    show false = _
    exact (decide_eq_false (fun z => by cases z)).symm
  | a :: l, b :: m => by
    rw [List.map_cons, List.map_cons, cons_dec]
    show (PyData.eqv (f a) (f b) && PyData.eqvAll (l.map f) (m.map f)) = _
    rw [h, eqv_all h l m]
theorem ring_eqv (r s : List Int) : PyData.eqv (ringD r) (ringD s) = decide (r = s) := eqv_all (f := PyData.int) (fun a b => int_dec a b) r s
theorem tie_eqv (t u : Int × Int) : PyData.eqv (tieD t) (tieD u) = decide (t = u) := by
  show (decide (t.1 = u.1) && (decide (t.2 = u.2) && true)) = _
  rw [Bool.and_true, Bool.eq_iff_iff, Bool.and_eq_true, decide_eq_true_iff, decide_eq_true_iff, decide_eq_true_iff]
  exact ⟨fun ⟨h1, h2⟩ => Prod.ext h1 h2, fun h => by rw [h]; exact ⟨rfl, rfl⟩⟩
theorem ts_eqv (ts us : List (Int × Int)) : PyData.eqv (tsD ts) (tsD us) = decide (ts = us) := eqv_all tie_eqv ts us
theorem rs_eqv (rs ss : List (List Int)) : PyData.eqv (rsD rs) (rsD ss) = decide (rs = ss) := eqv_all ring_eqv rs ss
/-- whether two yards are alike -/
def ydB (n m : Nat) (ts us : List (Int × Int)) (rs ss : List (List Int)) : Bool := decide ((n : Int) = (m : Int)) && (decide (ts = us) && decide (rs = ss))
theorem yd_eqv (n m : Nat) (ts us : List (Int × Int)) (rs ss : List (List Int)) : PyData.eqv (ydD n ts rs) (ydD m us ss) = ydB n m ts us rs ss := by
  show (decide ((n : Int) = (m : Int)) && (PyData.eqv (tsD ts) (tsD us) && (PyData.eqv (rsD rs) (rsD ss) && true))) = _
  rw [ts_eqv, rs_eqv, Bool.and_true]
  rfl
theorem ydB_self (n : Nat) (ts : List (Int × Int)) (rs : List (List Int)) : ydB n n ts ts rs rs = true := by
  unfold ydB
  rw [decide_eq_true rfl, decide_eq_true rfl, decide_eq_true rfl]
  rfl
theorem ydB_comm (n m : Nat) (ts us : List (Int × Int)) (rs ss : List (List Int)) : ydB n m ts us rs ss = ydB m n us ts ss rs := by
  unfold ydB
  rw [show decide ((n : Int) = (m : Int)) = decide ((m : Int) = (n : Int)) from decide_eq_decide.mpr ⟨Eq.symm, Eq.symm⟩, show decide (ts = us) = decide (us = ts) from decide_eq_decide.mpr ⟨Eq.symm, Eq.symm⟩, show decide (rs = ss) = decide (ss = rs) from decide_eq_decide.mpr ⟨Eq.symm, Eq.symm⟩]
theorem lay_all {α : Type} {f : α → PyData} (h : ∀ a, (f a).canLay0 = true) : ∀ l : List α, PyData.canLayAll0 (l.map f) = true
  | [] => rfl
  | a :: l => by
    rw [List.map_cons]
    show ((f a).canLay0 && PyData.canLayAll0 (l.map f)) = true
    rw [h, lay_all h l]
    rfl
theorem deep_all {α : Type} {f : α → PyData} {k : Nat} (h : ∀ a, (f a).depth ≤ k) : ∀ l : List α, PyData.depthAll (l.map f) ≤ k
  | [] => Nat.zero_le _
  | a :: l => by
    rw [List.map_cons]
    exact Nat.max_le.mpr ⟨h a, deep_all h l⟩
theorem ring_lay (r : List Int) : (ringD r).canLay0 = true := lay_all (f := PyData.int) (fun _ => rfl) r
theorem tie_lay (t : Int × Int) : (tieD t).canLay0 = true := rfl
theorem ts_lay (ts : List (Int × Int)) : (tsD ts).canLay0 = true := lay_all tie_lay ts
theorem rs_lay (rs : List (List Int)) : (rsD rs).canLay0 = true := lay_all ring_lay rs
theorem int_deep (z : Int) : (PyData.int z).depth ≤ 2 := by simp [PyData.depth]
theorem ring_deep (r : List Int) : (ringD r).depth ≤ 3 := Nat.succ_le_succ (deep_all (f := PyData.int) int_deep r)
theorem tie_deep (t : Int × Int) : (tieD t).depth ≤ 3 := by simp [tieD, PyData.depth, PyData.depthAll]
theorem ts_deep (ts : List (Int × Int)) : (tsD ts).depth ≤ 4 := Nat.succ_le_succ (deep_all tie_deep ts)
theorem rs_deep (rs : List (List Int)) : (rsD rs).depth ≤ 4 := Nat.succ_le_succ (deep_all ring_deep rs)
theorem shaped_of {d : PyData} (h1 : d.canLay0 = true) (h2 : d.depth ≤ 64) : SeqAt.shaped d = true := by
  unfold SeqAt.shaped
  rw [h1, decide_eq_true h2]
  rfl
theorem ts_shaped (ts : List (Int × Int)) : SeqAt.shaped (tsD ts) = true := shaped_of (ts_lay ts) (Nat.le_trans (ts_deep ts) (by decide))
theorem rs_shaped (rs : List (List Int)) : SeqAt.shaped (rsD rs) = true := shaped_of (rs_lay rs) (Nat.le_trans (rs_deep rs) (by decide))
theorem yd_shaped (n : Nat) (ts : List (Int × Int)) (rs : List (List Int)) : SeqAt.shaped (ydD n ts rs) = true := by
  refine shaped_of ?_ ?_
  · show (true && ((tsD ts).canLay0 && ((rsD rs).canLay0 && true))) = true
    rw [ts_lay, rs_lay]
    rfl
  · have h1 := ts_deep ts
    have h2 := rs_deep rs
    have h0 := int_deep (n : Int)
    show max (PyData.int (n : Int)).depth (max (tsD ts).depth (max (rsD rs).depth 0)) + 1 ≤ 64
    omega
end Y
set_option Elab.async false
set_option linter.all false
set_option maxRecDepth 100000
set_option maxHeartbeats 2000000
/-! zip(a tuple, a list) -/
namespace L2
open PySem PySem.Spec PyProof.Rows
/-- the tuple at a and the list at b -/
def ItzM (K : PySem.W.Frag) (a b : Addr) (m : Nat) : It :=
  ⟨fun i H => i < m ∧ ∃ (xs ys : List V) (x y : V), SqT K H a xs ∧ SqL K H b ys ∧ xs.length = m ∧ ys.length = m ∧ xs[i]? = some x ∧ ys[i]? = some y,
    fun i H v H' => ∃ T x y, v = .ref T ∧ H T = none ∧ H' = upd H T (.tup [x, y]) ∧ (∀ xs, SqT K H a xs → xs[i]? = some x) ∧ ∀ ys, SqL K H b ys → ys[i]? = some y,
    fun i H => i = m ∧ ∃ (xs ys : List V), SqT K H a xs ∧ SqL K H b ys ∧ xs.length = m ∧ ys.length = m⟩
theorem turn_zipM {P : Program} {w : World} {K : PySem.W.Frag} {elts : List Expr} {kk : Nat} {tpos : Pos} {a b z TI TO i1 i2 : Addr} {m : Nat} (S : ZipSep2 z TI TO i1 i2 [i1, a] [i2, b]) (na : a ≠ i1) (nb : b ≠ i2) :
    Turn P w K (.Tuple elts kk tpos) (ItzM K a b m) [z, TI, TO, i1, i2] z (fun i h => IsZip h z TI TO .none ∧ IsTupOf2 h TI (.ref i1) (.ref i2) ∧ (∃ x y, IsTupOf2 h TO x y) ∧ h.IsTupleIter i1 a i ∧ h.IsListIter i2 b i) where
  mem := by simp
  obj := fun i h st c hc => by
    obtain ⟨hz, hTI, ⟨x, y, hTO⟩, ⟨o1, e1, _, d1⟩, ⟨o2, e2, _, d2⟩⟩ := st
    rcases (show c = z ∨ c = TI ∨ c = TO ∨ c = i1 ∨ c = i2 by simpa using hc) with rfl | rfl | rfl | rfl | rfl
    · exact ⟨_, hz, fun v q => nomatch q⟩
    · exact ⟨_, hTI, fun v q => nomatch q⟩
    · exact ⟨_, hTO, fun v q => nomatch q⟩
    · exact ⟨o1, e1, fun v q => by rw [d1] at q; cases q⟩
    · exact ⟨o2, e2, fun v q => by rw [d2] at q; cases q⟩
  keep := fun i h h' st k => by
    obtain ⟨hz, hTI, ⟨x, y, hTO⟩, h1, h2⟩ := st
    refine ⟨k z (by simp) _ hz, k TI (by simp) _ hTI, ⟨x, y, k TO (by simp) _ hTO⟩, ?_, ?_⟩
    · exact h1.at fun o q => k i1 (by simp) o q
    · exact h2.at fun o q => k i2 (by simp) o q
  item := by
    intro X hP hw hK hc i pins s σ H E I hf st hg
    subst hP hw hK
    obtain ⟨hz, hTI, ⟨x0, y0, hTO⟩, h1, h2⟩ := st
    obtain ⟨hi, xs, ys, x, y, hqx, hqy, lx, ly, hx, hy⟩ := hg
    obtain ⟨its, rv, p1, _⟩ := I.tuple hqx
    obtain ⟨its2, rv2, p2, _⟩ := I.list hqy
    have l1 := rv.length
    have l2 := rv2.length
    have hzl : z < s.heap.objs.size := Heap.lt_size hz
    have D1 := Draws.tuple (prog := X.prog) (w := X.w) (A := X.A.in1) (I.ok.hd hc) i1 a na its.toArray
    have D2 := Draws.list (prog := X.prog) (w := X.w) (A := X.A.in1) (I.ok.hd hc) i2 b nb its2.toArray
    refine wpAny_pyNext_zipD2_item S D1 D2 hz hTI hTO ⟨h1, p1⟩ ⟨h2, p2.isList⟩ (by rw [List.size_toArray]; omega) (by rw [List.size_toArray]; omega) fun u u2 h' tk hu hu2 z' TO' st1 st2 hT hsz hk => ?_
    obtain ⟨v1, hv1, r1⟩ := rv.get hx
    obtain ⟨v2, hv2, r2⟩ := rv2.get hy
    obtain rfl : u = v1 := by
      have : its[i]? = some u := by simpa using hu
      rw [hv1] at this
      exact (Option.some.inj this).symm
    obtain rfl : u2 = v2 := by
      have : its2[i]? = some u2 := by simpa using hu2
      rw [hv2] at this
      exact (Option.some.inj this).symm
    refine ⟨_, rfl, wpAny_letOwnedTupleGo_zip (s := { s with heap := h', toks := tk }) z' fun h'' z'' sb => ?_⟩
    have hT2 : h''.get? s.heap.objs.size = some { cls := .type "tuple", data := .seq #[u, u2] } := (sb.2 _ (Nat.ne_of_gt hzl)).trans hT
    have new : ObjOk X.prog X.w (upd H s.heap.objs.size (.tup [x, y])) h'' s.heap.objs.size (.tup [x, y]) :=
      ⟨by show 2 ≤ sizeLine; decide, [u, u2], .cons r1 (.cons r2 .nil), ⟨_, hT2, rfl, _, rfl⟩⟩
    have I1 : Inv X pins σ (upd H s.heap.objs.size (.tup [x, y])) { s with heap := h'', toks := tk } :=
      I.turnedNew (t' := tk) (ch := [z, TI, TO, i1, i2]) (fun c o hb q => (sb.2 c (fun e => hb (by simp [e]))).trans
        (hk c o (fun e => hb (by simp [e])) (fun e => hb (by simp [e])) (fun e => hb (by simp [e])) (fun e => hb (by simp [e])) q)) hf (Nat.le_refl _) new
    have stay : ∀ c o, c ≠ z → h'.get? c = some o → h''.get? c = some o := fun c o n q => (sb.2 c n).trans q
    refine ⟨.ref s.heap.objs.size, _, I1, rfl, ⟨_, x, y, rfl, I.hok.fresh (Nat.le_refl _), rfl, fun l hl => by rw [I.tuple_inj hl hqx]; exact hx, fun l hl => by rw [I.list_inj hl hqy]; exact hy⟩, ⟨z'', ?_, ⟨u, u2, ?_⟩, ?_, ?_⟩, fun c hcm => ?_⟩
    · exact stay _ _ S.TIz (hk _ _ S.TIz S.TITO S.TIi1 S.TIi2 hTI)
    · exact stay _ _ S.TOz TO'
    · exact st1.1.at fun o q => stay _ _ (fun e => S.zi1 e.symm) q
    · exact st2.1.at fun o q => stay _ _ (fun e => S.zi2 e.symm) q
    · have lt : c < s.heap.objs.size := by
        obtain ⟨_, e1, _⟩ := h1
        obtain ⟨_, e2, _⟩ := h2
        rcases (show c = z ∨ c = TI ∨ c = TO ∨ c = i1 ∨ c = i2 by simpa using hcm) with rfl | rfl | rfl | rfl | rfl
        · exact hzl
        · exact Heap.lt_size hTI
        · exact Heap.lt_size hTO
        · exact Heap.lt_size e1
        · exact Heap.lt_size e2
      rw [upd_ne (Nat.ne_of_lt lt)]
      exact (hf c hcm).1
  done := by
    intro X hP hw hK hc i pins s σ H E I hf st hg
    subst hP hw hK
    obtain ⟨hz, hTI, ⟨x0, y0, hTO⟩, h1, h2⟩ := st
    obtain ⟨rfl, xs, ys, hqx, hqy, lx, ly⟩ := hg
    obtain ⟨its, rv, p1, _⟩ := I.tuple hqx
    obtain ⟨its2, rv2, p2, _⟩ := I.list hqy
    have l1 := rv.length
    have l2 := rv2.length
    have D1 := Draws.tuple (prog := X.prog) (w := X.w) (A := X.A.in1) (I.ok.hd hc) i1 a na its.toArray
    have D2 := Draws.list (prog := X.prog) (w := X.w) (A := X.A.in1) (I.ok.hd hc) i2 b nb its2.toArray
    refine wpAny_pyNext_zipD2_end S D1 D2 hz hTI hTO ⟨h1, p1⟩ ⟨h2, p2.isList⟩ (by rw [List.size_toArray]; omega) (by rw [List.size_toArray]; omega) (.inl (by rw [List.size_toArray]; omega)) fun h' tk hk => ⟨rfl, ?_⟩
    exact I.turnedL (t' := tk) (ch := [z, TI, TO, i1, i2]) (fun c o hb q => hk c o (fun e => hb (by simp [e])) (fun e => hb (by simp [e])) (fun e => hb (by simp [e])) (fun e => hb (by simp [e])) q) hf
  self := fun A i s Q E st h => wpAny_pyIter_zip st.1 h
theorem two_ne {x y z : Nat} (h1 : x ≠ y) (h2 : x ≠ z) : x ∉ [y, z] := fun h => by
  rcases List.mem_cons.mp h with h | h
  · exact h1 h
  · exact h2 (List.mem_singleton.mp h)
theorem zip_sep (n a b : Nat) (la : a < n) (lb : b < n) : ZipSep2 (n + 4) (n + 2) (n + 3) n (n + 1) [n, a] [n + 1, b] :=
  ⟨show n + 2 ≠ n + 4 by omega, show n + 3 ≠ n + 4 by omega, show n + 2 ≠ n + 3 by omega, show n + 2 ≠ n by omega, List.mem_cons_self, two_ne (by omega) (by omega), two_ne (by omega) (by omega), show n + 2 ≠ n + 1 by omega, List.mem_cons_self, two_ne (by omega) (by omega), two_ne (by omega) (by omega), two_ne (by omega) (by omega), two_ne (by omega) (by omega)⟩
def iZipM (K : PySem.W.Frag) (ta : TA) : TI := fun σ H R => ta σ H fun vs H1 => ∃ (a b : Addr) (xs ys : List V), vs = [.ref a, .ref b] ∧ SqT K H1 a xs ∧ SqL K H1 b ys ∧ R (ItzM K a b xs.length) H1
theorem pi_zipM {X : Cx} {e e2 : Expr} {ta : TA} {p pos tpos : Pos} {elts : List Expr} {kk : Nat} (hg : Gl X "zip") (hm : X.mg "zip" = none) (ha : PA X [e, e2] ta)
    (hs : starEach [e, e2] X.env = (false, eval e X.env) :: starEach [e2] X.env := by rfl) (hpl : (backTo pos (starEach [e2] X.env)).any (·.1) = false := by rfl) : PI X (.Tuple elts kk tpos) (.Call (.Name "zip" p) [e, e2] [] pos) (iZipM X.K ta) := by
  refine ⟨fun pins s σ H R I h => ?_⟩
  refine Call_ (ld_blt I hg hm PyProof.Rows.boot_zip (PyProof.Rows.callWith_type1 (thn (ha.run pos pins s σ H _ I h) fun us s1 ⟨vs, H1, I1, r1, a, b, xs, ys, ex, hqx, hqy, q⟩ => ?_) hs hpl))
  subst ex
  obtain ⟨u1, u2, rfl, ra, rb⟩ := vals2 r1
  cases ra
  cases rb
  obtain ⟨its, rv, p1, _⟩ := I1.tuple hqx
  obtain ⟨its2, rv2, p2, _⟩ := I1.list hqy
  have p1 : s1.heap.IsTuple a its.toArray := p1
  have la : a < s1.heap.objs.size := by
    obtain ⟨o, ho, _⟩ := p1
    exact Heap.lt_size ho
  have lb : b < s1.heap.objs.size := p2.lt
  refine zip_begins2 (begins_tuple a its.toArray) (begins_list b its2.toArray) p1 p2.isList fun h' hz hTI hTO h1 h2 hsz hk => wpAny_pyIter_zip hz ?_
  have I2 : Inv X pins σ H1 { s1 with heap := h' } := I1.kept (t' := s1.toks) hk
  have S := zip_sep s1.heap.objs.size a b la lb
  refine ⟨s1.heap.objs.size + 4, [s1.heap.objs.size + 4, s1.heap.objs.size + 2, s1.heap.objs.size + 3, s1.heap.objs.size, s1.heap.objs.size + 1], _, _, H1, rfl, I2, turn_zipM S (Nat.ne_of_lt la) (Nat.ne_of_lt (Nat.lt_succ_of_lt lb)), ⟨hz, hTI, ⟨_, _, hTO⟩, ⟨_, h1, rfl, rfl⟩, ⟨_, h2, rfl, rfl⟩⟩, fun c hcm => ?_, q⟩
  have le : s1.heap.objs.size ≤ c := by
    rcases (show c = s1.heap.objs.size + 4 ∨ c = s1.heap.objs.size + 2 ∨ c = s1.heap.objs.size + 3 ∨ c = s1.heap.objs.size ∨ c = s1.heap.objs.size + 1 by simpa using hcm) with h | h | h | h | h <;> (rw [h]; first | exact Nat.le_add_right _ _ | exact Nat.le_refl _)
  exact I1.fpOk le (I1.hok.fresh le)
theorem walk_zipM {K : PySem.W.Frag} {a b : Addr} {xs ys : List V} (hl : xs.length = ys.length) : Walk (ItzM K a b xs.length) xs.length (fun H => SqT K H a xs ∧ SqL K H b ys) (YPair (fun i => xs[i]?) (fun i => ys[i]?)) := by
  refine ⟨fun i H hi q => ⟨hi, xs, ys, xs[i], ys[i]'(by omega), q.1, q.2, rfl, hl.symm, by simp [hi], by simp [show i < ys.length by omega]⟩, fun H q => ⟨rfl, xs, ys, q.1, q.2, rfl, hl.symm⟩, fun i H v H' hi q y => ?_⟩
  obtain ⟨T, x, y, h1, h2, h3, h4, h5⟩ := y
  exact ⟨T, x, y, h1, h2, h3, h4 xs q.1, h5 ys q.2⟩
end L2
namespace Y
open PySem
def top (i : Nat) : Stmt := PySem.Challenge.pw_slideyards_k31_whole_floors.main.body.getD i (.Pass ⟨0, 0, 0, 0⟩)
end Y
set_option Elab.async false
set_option linter.all false
set_option maxRecDepth 100000
set_option maxHeartbeats 4000000
namespace Y
open PySem L2
abbrev sPen : Stmt := top 37
abbrev sDraw : Stmt := top 38
abbrev sPick : Stmt := top 39
structure TxP (K : PySem.W.Frag) (mg : Str → Option Value) (fDraw : Addr) : Prop where
  int : mg "int" = none
  list : mg "list" = none
  len : mg "len" = none
  gDraw : mg "_law_draw" = some (.ref fDraw)
section
variable {P : Program} {w : World} {K : PySem.W.Frag} {mg : Str → Option Value} {base : Heap}
theorem scPen : FnScope ["_law_script", "_law_fold", "_law_cell"] ["_law_script"] (defScope sPen) := ⟨rfl, rfl, rfl, by decide +kernel, rfl, by decide +kernel, by decide +kernel⟩
theorem ok_pen {f fDraw : Addr} {fd : FuncData} (F : Fun K "_law_pen" "_law_pen" sPen f fd) (T : TxP K mg fDraw) : FnOk P w K mg base CX0 1 f fd ["_law_script"] (spPen K) := by
  refine F.ok scPen (fun vs H Q E h => ?_) (fun cdv A outer s H vs Q E hr h => ?_)
  · obtain ⟨a, ns, rfl, _⟩ := h
    rfl
  · obtain ⟨a, ns, rfl, hS, hlen, k⟩ := h
    refine ⟨_, pss_cons (ps_set (i := 1) scPen.nd rfl (Or.inl rfl) pe_int)
      (pss_cons (ps_for PassesOwn.never rfl (pi_list (pv 0)) (pg_name (i := 2) scPen.nd rfl (Or.inl rfl))
        (pss_one (ps_set (i := 1) scPen.nd rfl (Or.inl rfl) (pe_op op_mod (pe_callTy call_int1 (by rfl) T.int (by decide +kernel) (pa_cons (pe_op op_add (pe_op op_mul (pv 1) pe_int) (pv 2)) pa_nil)) pe_int))))
      (pss_one (ps_ret (pe_disp (pps_cons pe_str (pe_callTy call_list_of (by rfl) T.list (by decide +kernel) (pa_cons (pv 0) pa_nil)) (pps_cons pe_str pe_int (pps_cons pe_str pe_int (pps_cons pe_str pe_int (pps_cons pe_str (pv 1) pps_nil))))) (by rfl) (by rfl) (fun z => by cases z) (by decide))))), ?_⟩
    refine ⟨_, rfl, a, rfl, ⟨_, hS⟩, for_list (K := K) (a := a) (xs := ns.map V.int) (fun i σ H2 => ∃ (f : Int) (v : Option V), σ = [some (.ref a), some (.int f), v] ∧ H2 = H ∧ 0 ≤ f ∧ f < 1000000007)
      ⟨0, none, rfl, rfl, by decide, by decide⟩ (fun i σ H2 _ ⟨_, _, _, e, _⟩ => by rw [e]; exact hS) ?_ ?_⟩
    · rintro i y σ H2 hi ⟨f, v, rfl, rfl, h0, h1⟩
      obtain ⟨z, rfl⟩ : ∃ z, y = V.int z := by
        rw [List.getElem?_map] at hi
        cases e : ns[i]? with
        | none =>
          rw [e] at hi
          cases hi
        | some z =>
          rw [e] at hi
          exact ⟨z, (Option.some.inj hi).symm⟩
      refine ⟨_, rfl, _, _, rfl, rfl, .inl ⟨by omega, by omega⟩, _, rfl, _, _, rfl, rfl, .inl ⟨_, rfl, _, _, rfl, rfl, (by show (0 : Int) < 1000000007; decide), ?_⟩⟩
      exact ⟨_, _, rfl, rfl, Int.emod_nonneg _ (by decide), Int.emod_lt_of_pos _ (by decide)⟩
    · rintro σ H2 ⟨f, v, rfl, rfl, h0, h1⟩
      intro p hp
      refine ⟨_, rfl, a, _, rfl, .inl ((Same.new hp).seq hS), fun l hl => ?_⟩
      have hpl : p ≠ l := fun e => by rw [← e, upd_same] at hl; cases hl
      have hl0 : H2 l = none := by rw [upd_ne (Ne.symm hpl)] at hl; exact hl
      refine ⟨_, rfl, (by rw [upd_ne hpl]; exact upd_same), [(Sum.inr "cells", .ref l), (Sum.inr "at", .int 0), (Sum.inr "digits", .int 0), (Sum.inr "count", .int 0), (Sum.inr "fold", .int f)], rfl, (by show 5 ≤ 15; decide), ?_⟩
      refine k p l _ ⟨⟨ns, 0, 0, 0, f, ?_, ?_, hlen, by decide, by decide, by decide, by decide, h0, by omega⟩⟩ ?_ hp
      · rw [upd_same]
        exact congrArg (fun z => some (HO.dK z)) pen_merge
      · rw [upd_ne (Ne.symm hpl)]; exact upd_same
      · intro b o e
        rw [upd_ne (ne_of_none e hp), upd_ne (ne_of_none e hl0), upd_ne (ne_of_none e hp)]
        exact e
theorem scDraw : FnScope ["_law_pen_here", "_law_many", "_law_cell", "_law_digit", "_law_blend"] ["_law_pen_here", "_law_many"] (defScope sDraw) := ⟨rfl, rfl, rfl, by decide +kernel, rfl, by decide +kernel, by decide +kernel⟩
theorem ok_draw {f fDraw : Addr} {fd : FuncData} (F : Fun K "_law_draw" "_law_draw" sDraw f fd) (T : TxP K mg fDraw) : FnOk P w K mg base CX0 1 f fd ["_law_pen_here", "_law_many"] spDraw := by
  refine F.ok scDraw (fun vs H Q E h => ?_) (fun cdv A outer s H vs Q E hr h => ?_)
  · obtain ⟨p, l, m, b, rfl, _⟩ := h
    rfl
  · obtain ⟨p, l, m, b, rfl, hP, hm0, hm1, k⟩ := h
    have hu := hu_of hr
    obtain ⟨ns, a, g, c, f, hp, hl, hlen, ha, hg, hc, hcb, hf0, hf1⟩ := hP.ex
    refine ⟨_, pss_cons (ps_dput hu (pv 0) pe_str (pe_op op_add (pe_dget hu (pv 0) pe_str (fun _ _ => rfl)) pe_int) rfl)
      (C8.pss_cut (ps_if (PW.pt (pw_and (pt_cmpR op_eq (pe_dget hu (pv 0) pe_str (fun _ _ => rfl)) pe_int (nomark _)) (pw_and1 (pt_cmpR op_lt (pe_dget hu (pv 0) pe_str (fun _ _ => rfl)) (pe_callB call_len_seq (by rfl) T.len PySem.boot_len (pa_cons (pe_dget hu (pv 0) pe_str (fun _ _ => rfl)) pa_nil)) (nomark _)))))
        (pss_cons (ps_set (i := 2) scDraw.nd rfl (Or.inl rfl) (pe_ix ix_list (pe_dget hu (pv 0) pe_str (fun _ _ => rfl)) (pe_dget hu (pv 0) pe_str (fun _ _ => rfl)) (fun _ _ => rfl)))
        (pss_cons (ps_dput hu (pv 0) pe_str (pe_op op_add (pe_dget hu (pv 0) pe_str (fun _ _ => rfl)) pe_int) rfl)
        (pss_one (ps_if (pt_cmpR op_ge (pv 2) (pe_op op_pow pe_int pe_int) (nomark _))
          (pss_one (ps_dput hu (pv 0) pe_str (pe_op op_sub (pv 2) (pe_op op_pow pe_int pe_int)) rfl))
          (pss_one (ps_dput hu (pv 0) pe_str (pe_op op_mod (pe_callTy call_int1 (by rfl) T.int (by decide +kernel) (pa_cons (pe_op op_add (pe_op op_mul (pe_dget hu (pv 0) pe_str (fun _ _ => rfl)) pe_int) (pv 2)) pa_nil)) pe_int) rfl))))))
        pss_nil)
      (pss_cons (ps_if (pt_cmpR op_gt (pe_dget hu (pv 0) pe_str (fun _ _ => rfl)) pe_int (nomark _))
        (pss_cons (ps_set (i := 3) scDraw.nd rfl (Or.inl rfl) (pe_op op_mod (pe_callTy call_int1 (by rfl) T.int (by decide +kernel) (pa_cons (pe_dget hu (pv 0) pe_str (fun _ _ => rfl)) pa_nil)) (pv 1)))
        (pss_cons (ps_dput hu (pv 0) pe_str (pe_op op_fdivW (pe_dget hu (pv 0) pe_str (fun _ _ => rfl)) (pv 1)) rfl)
        (pss_one (ps_ret (pv 3)))))
        pss_nil)
      (pss_cons (ps_set (i := 4) scDraw.nd rfl (Or.inl rfl) (pe_op op_add (pe_op op_add (pe_dget hu (pv 0) pe_str (fun _ _ => rfl)) (pe_op op_mul (pe_dget hu (pv 0) pe_str (fun _ _ => rfl)) pe_int)) pe_int))
      (pss_one (ps_ret (pe_op op_mod (pe_op op_fdiv (pe_callTy call_int1 (by rfl) T.int (by decide +kernel) (pa_cons (pe_op op_mod (pe_op op_pow (pv 4) pe_int) pe_int) pa_nil)) pe_int) (pv 1))))))), ?_⟩
    have hlp : l ≠ p := ne_of hl hp (by intro z; cases z)
    have e1 : ∀ {a' g' c' f' : Int}, (upd H p (.dK (penD l a' g' c' f'))) p = some (.dK (penD l a' g' c' f')) := upd_same
    have mk : ∀ {a' g' c' f' : Int}, 0 ≤ a' → 0 ≤ g' → 0 ≤ c' → c' + (b : Int) ≤ 2 ^ 40 → 0 ≤ f' → f' < 2147483587 → Pen (upd H p (.dK (penD l a' g' c' f'))) p l b := fun h2 h3 h4 h5 h6 h7 =>
      ⟨ns, _, _, _, _, upd_same, by rw [upd_ne hlp]; exact hl, hlen, h2, h3, h4, h5, h6, h7⟩
    refine ⟨_, rfl, _, _, rfl, get_count hp, _, _, rfl, rfl, _, rfl, _, _, rfl, dput_count hp, ?_⟩
    refine ⟨fun σ' H' => ∃ (a' g' f' : Int) (v : Option V), σ' = [some (.ref p), some (.int m), v, none, none] ∧ H' = upd H p (.dK (penD l a' g' (c + 1) f')) ∧ 0 ≤ a' ∧ 0 ≤ g' ∧ 0 ≤ f' ∧ f' < 2147483587, ?_, ?_⟩
    · refine ⟨_, rfl, _, _, rfl, get_digits e1, rfl, _, rfl, ?_⟩
      refine ite2 (fun hd => ?_) (fun hd => ?_)
      · refine ⟨_, rfl, _, _, rfl, get_at e1, _, rfl, _, _, rfl, get_cells e1, l, _, rfl, .inl (.inl (.inl (by rw [upd_ne hlp]; exact hl))), _, _, rfl, rfl, _, rfl, ?_⟩
        refine ite2 (fun hd2 => ?_) (fun hd2 => ?_)
        · have hd3 : a < ((ns.map V.int).length : Int) := of_decide_eq_true hd2
          obtain ⟨y, hy, hy2⟩ := there_int ha hd3
          obtain ⟨z, hz, rfl⟩ := ints_at hy
          refine ⟨_, rfl, _, _, rfl, get_cells e1, _, rfl, _, _, rfl, get_at e1, l, _, a, _, rfl, rfl, .inl (.inl (by rw [upd_ne hlp]; exact hl)), hy2, ?_⟩
          refine ⟨_, rfl, _, _, rfl, get_at e1, _, _, rfl, rfl, _, rfl, _, _, rfl, dput_at, ?_⟩
          refine ⟨_, rfl, _, _, rfl, rfl, ⟨by decide, by decide, by decide⟩, _, _, rfl, rfl, _, rfl, ?_⟩
          refine ite2 (fun hd4 => ?_) (fun hd4 => ?_)
          · have hd5 : (10 : Int) ^ (18 : Int).toNat ≤ z := of_decide_eq_true hd4
            refine ⟨_, rfl, _, _, rfl, rfl, ⟨by decide, by decide, by decide⟩, _, _, rfl, rfl, _, rfl, _, _, rfl, dput_digits, ?_⟩
            exact ⟨_, _, _, _, rfl, rfl, by omega, by omega, hf0, hf1⟩
          · refine ⟨_, rfl, _, _, rfl, get_fold e1, _, _, rfl, rfl, .inl ⟨by omega, by omega⟩, _, rfl, _, _, rfl, rfl, .inl ⟨_, rfl, _, _, rfl, rfl, (by show (0 : Int) < 2147483587; decide), _, rfl, _, _, rfl, dput_fold, ?_⟩⟩
            exact ⟨_, _, _, _, rfl, rfl, by omega, hg, Int.emod_nonneg _ (by decide), Int.emod_lt_of_pos _ (by decide)⟩
        · exact ⟨_, _, _, _, rfl, rfl, ha, hg, hf0, hf1⟩
      · exact ⟨_, _, _, _, rfl, rfl, ha, hg, hf0, hf1⟩
    · rintro σ' H' ⟨a', g', f', v, rfl, rfl, ha', hg', hf0', hf1'⟩
      refine ⟨_, rfl, _, _, rfl, get_digits e1, _, _, rfl, rfl, _, rfl, ?_⟩
      refine ite2 (fun hd => ?_) (fun hd => ?_)
      · refine ⟨_, rfl, _, _, rfl, get_digits e1, .inl ⟨_, rfl, _, rfl, _, _, rfl, rfl, hm0, ?_⟩⟩
        refine ⟨_, rfl, _, _, rfl, get_digits e1, _, rfl, _, _, rfl, rfl, wide_div hm0 (b := 41) (by omega) (by decide) (by decide), _, rfl, _, _, rfl, dput_digits, ?_⟩
        refine ⟨_, rfl, ?_⟩
        exact k _ _ (Int.emod_nonneg _ (by omega)) (Int.emod_lt_of_pos _ hm0) (mk ha' (Int.ediv_nonneg hg' (by omega)) (by omega) (by omega) hf0' hf1') But.upd
      · refine ⟨_, rfl, _, _, rfl, get_fold e1, _, rfl, _, _, rfl, get_count e1, _, _, rfl, rfl, .inl ⟨by omega, by omega⟩, _, _, rfl, rfl, _, _, rfl, rfl, ?_⟩
        refine ⟨_, rfl, _, _, rfl, rfl, ⟨by decide, by decide, by omega⟩, _, _, rfl, rfl, (by show (0 : Int) < 2305843009213693951; decide), .inl ⟨_, rfl, _, _, rfl, rfl, ⟨by decide, by decide⟩, _, rfl, _, _, rfl, rfl, hm0, ?_⟩⟩
        exact k _ _ (Int.emod_nonneg _ (by omega)) (Int.emod_lt_of_pos _ hm0) (mk ha' hg' (by omega) (by omega) hf0' hf1') But.upd
theorem scPick : FnScope ["_law_pen_here", "_law_some"] ["_law_pen_here", "_law_some"] (defScope sPick) := ⟨rfl, rfl, rfl, by decide +kernel, rfl, by decide +kernel, by decide +kernel⟩
theorem ok_pick {f fDraw : Addr} {fd fdDraw : FuncData} (F : Fun K "_law_pick" "_law_pick" sPick f fd) (T : TxP K mg fDraw) (FD : Fun K "_law_draw" "_law_draw" sDraw fDraw fdDraw) (bD : Binds K fdDraw ["_law_pen_here", "_law_many"] []) :
    FnOk P w K mg base CX0 2 f fd ["_law_pen_here", "_law_some"] (spPick K) := by
  have GD : FnOk P w K mg base CX0 1 fDraw fdDraw ["_law_pen_here", "_law_many"] spDraw := ok_draw FD T
  refine F.ok scPick (fun vs H Q E h => ?_) (fun cdv A outer s H vs Q E hr h => ?_)
  · obtain ⟨p, q, l, xs, b, rfl, _⟩ := h
    rfl
  · obtain ⟨p, q, l, xs, b, rfl, hP, hl, hne, hz, k⟩ := h
    refine ⟨_, pss_one (ps_ret (pe_ix (IxR.or ix_list ix_tup) (pv 1) (pe_call GD hr (by rfl) T.gDraw FD.kp bD .nil pass0 (pa_cons (pv 0) (pa_cons (pe_callB call_len_seq (by rfl) T.len PySem.boot_len (pa_cons (pv 1) pa_nil)) pa_nil))) (fun _ _ => rfl))), ?_⟩
    have hpos := List.length_pos_iff.mpr hne
    obtain ⟨kvs, hpd⟩ := hP.there
    refine ⟨_, rfl, _, rfl, _, rfl, l, xs, rfl, hl, p, q, _, b, rfl, hP, by omega, by omega, fun n H' h0 h1 hP' hB => ?_⟩
    obtain ⟨y, hy, hy2⟩ := there_int h0 h1
    rcases hl with hl | hl
    · exact .inl ⟨l, xs, n, y, rfl, rfl, hB.seq hpd hl, hy2, k y _ _ hy hP' hB⟩
    · exact .inr ⟨l, xs, n, y, rfl, rfl, hB.seqT hpd hl, hy2, k y _ _ hy hP' hB⟩
end
end Y
set_option Elab.async false
set_option linter.all false
set_option maxRecDepth 100000
set_option maxHeartbeats 4000000
namespace Y
open PySem L2
abbrev sRing : Stmt := top 999
abbrev sStand : Stmt := top 999
abbrev sShuf : Stmt := top 999
structure TG (K : PySem.W.Frag) (mg : Str → Option Value) (fDraw : Addr) : Prop where
  p : TxP K mg fDraw
  range : mg "range" = none
  tuple : mg "tuple" = none
/-! ### promises -/
def spShuf (K : PySem.W.Frag) : Sp := fun vs H Q _ => ∃ (p c s : Addr) (xs : List V) (b : Nat), vs = [.ref p, .ref s] ∧ Pen H p c (b + xs.length) ∧ (SqL K H s xs ∨ SqT K H s xs) ∧ xs.length ≤ 1000 ∧
  ∀ q ys H', ys.Perm xs → H' q = some (.lst ys) → Kp H H' → Pen H' p c b → Q (.ref q) H'
/-- distinct places, three or more -/
def RingOk (n : Nat) (r : List Int) : Prop := r.Nodup ∧ (∀ x ∈ r, 0 ≤ x ∧ x < n) ∧ 3 ≤ r.length ∧ r.length ≤ n
def spRing (K : PySem.W.Frag) : Sp := fun vs H Q _ => ∃ (p c : Addr) (n b : Nat), vs = [.ref p, .int (n : Int)] ∧ Pen H p c (b + (n + 1)) ∧ 3 ≤ n ∧ n ≤ 100 ∧
  ∀ q r H', RingOk n r → H' q = some (.tup (r.map V.int)) → Kp H H' → Pen H' p c b → Q (.ref q) H'
section
variable {P : Program} {w : World} {K : PySem.W.Frag} {mg : Str → Option Value} {base : Heap} {fDraw : Addr}
/-! ### rows of ints -/
theorem map_nodup {r : List Int} : (r.map V.int).Nodup ↔ r.Nodup := by
  induction r with
  | nil => simp
  | cons a r ih =>
    rw [List.map_cons, List.nodup_cons, List.nodup_cons, ih]
    refine and_congr (not_congr ⟨fun h => ?_, fun h => List.mem_map.mpr ⟨a, h, rfl⟩⟩) Iff.rfl
    obtain ⟨b, hb, e⟩ := List.mem_map.mp h
    cases e
    exact hb
theorem rgV_mem {n : Nat} {v : V} (h : v ∈ rgV 0 (n : Int)) : ∃ z : Int, v = .int z ∧ 0 ≤ z ∧ z < n := by
  obtain ⟨i, hi, rfl⟩ := List.mem_map.mp h
  rw [List.mem_range] at hi
  exact ⟨_, rfl, by omega, by omega⟩
theorem rgV_nodup (n : Nat) : (rgV 0 (n : Int)).Nodup := by
  have e : rgV 0 (n : Int) = ((List.range n).map fun i : Nat => (0 : Int) + (i : Nat)).map V.int := by
    unfold rgV
    rw [List.map_map, show ((n : Int) - 0).toNat = n by omega]
    rfl
  rw [e, map_nodup]
  refine List.Pairwise.map _ (fun a b (h : a ≠ b) => ?_) List.nodup_range
  intro z
  exact h (by omega)
theorem ints_of {l : List V} (h : ∀ v ∈ l, ∃ z : Int, v = .int z) : ∃ r : List Int, l = r.map V.int := by
  induction l with
  | nil => exact ⟨[], rfl⟩
  | cons a l ih =>
    obtain ⟨z, rfl⟩ := h a List.mem_cons_self
    obtain ⟨r, rfl⟩ := ih fun v hv => h v (List.mem_cons_of_mem _ hv)
    exact ⟨z :: r, rfl⟩
theorem ring_of {n : Nat} {G L : List V} (p : (G ++ L).Perm (rgV 0 (n : Int))) : ∃ r : List Int, G = r.map V.int ∧ r.Nodup ∧ ∀ x ∈ r, 0 ≤ x ∧ x < n := by
  have m : ∀ v ∈ G, ∃ z : Int, v = .int z ∧ 0 ≤ z ∧ z < n := fun v hv => rgV_mem (p.mem_iff.mp (List.mem_append.mpr (.inl hv)))
  obtain ⟨r, rfl⟩ := ints_of fun v hv => (m v hv).imp fun z h => h.1
  refine ⟨r, rfl, map_nodup.mp (List.nodup_append.mp ((p.nodup_iff).mpr (rgV_nodup n))).1, fun x hx => ?_⟩
  obtain ⟨z, e, h⟩ := m _ (List.mem_map.mpr ⟨x, hx, rfl⟩)
  cases e
  exact h
end
end Y
set_option Elab.async false
set_option linter.all false
set_option maxRecDepth 100000
set_option maxHeartbeats 4000000
namespace Y
open PySem L2
/-- a row of n things -/
def StandOk (n : Nat) (st : List Int) : Prop := st.length = n ∧ ∀ x ∈ st, 0 ≤ x ∧ x ≤ (n : Int) + 2
def spStand (K : PySem.W.Frag) : Sp := fun vs H Q _ => ∃ (p c : Addr) (n h b : Nat) (kd : Bool), vs = [.ref p, .int (n : Int), .int (h : Int), .bl kd] ∧ Pen H p c (b + 2 * n) ∧ h ≤ n ∧ n ≤ 100 ∧
  ∀ q st H', StandOk n st → H' q = some (.tup (st.map V.int)) → Kp H H' → Pen H' p c b → Q (.ref q) H'
theorem map_set {l : List Int} {j : Nat} {z : Int} : (l.map V.int).set j (.int z) = (l.set j z).map V.int := (List.map_set).symm
section
variable {P : Program} {w : World} {K : PySem.W.Frag} {mg : Str → Option Value} {base : Heap} {fDraw : Addr}
end
end Y
set_option Elab.async false
set_option linter.all false
set_option maxRecDepth 100000
set_option maxHeartbeats 4000000
namespace Y
open PySem L2
abbrev sWithout : Stmt := top 999
def spWithout (K : PySem.W.Frag) (hu : Prop) : Sp := fun vs H Q _ => ∃ (d g : Addr) (n : Nat) (kvs : PK) (ks : List (Int × Int)) (t : Int × Int), vs = [.ref d, .ref g] ∧ H d = some (.dT kvs) ∧ SqT K H g [.int t.1, .int t.2] ∧ PairsOk n kvs ks ∧ ks.length ≤ 60 ∧
  ∀ (d' : Addr) (kvs' : PK) (ks' : List (Int × Int)) (H' : Hp), PairsOk n kvs' ks' → ks'.length ≤ ks.length → H' d' = some (.dT kvs') → H d' = none → Same H H' → Q (.ref d') H'
theorem shaped_tie (t : Int × Int) : SeqAt.shaped (tieD t) = true := by
  have e1 : PyData.canLay0 (tieD t) = true := by simp only [tieD, PyData.canLay0, PyData.canLayAll0, Bool.and_self]
  have e2 : decide (PyData.depth (tieD t) ≤ 64) = true := by simp [tieD, PyData.depth, PyData.depthAll]
  unfold SeqAt.shaped
  rw [e1, e2]
  rfl
section
variable {P : Program} {w : World} {K : PySem.W.Frag} {mg : Str → Option Value} {base : Heap} {fDraw : Addr}
end
end Y
set_option Elab.async false
set_option linter.all false
set_option maxRecDepth 100000
set_option maxHeartbeats 4000000
namespace Y
open PySem L2
abbrev sDYard : Stmt := top 999
abbrev RingAt (K : PySem.W.Frag) (H : Hp) (y : V) (r : List Int) : Prop := TupI K H y r
theorem ring_kp {K : PySem.W.Frag} {H H' : Hp} {y : V} {r : List Int} (h : RingAt K H y r) (s : Kp H H') : RingAt K H' y r := by
  obtain ⟨b, e, h⟩ := h
  exact ⟨b, e, s.seqT h⟩
theorem rings_kp {K : PySem.W.Frag} {H H' : Hp} {ys : List V} {rs : List (List Int)} (h : Paired (RingAt K H) ys rs) (s : Kp H H') : Paired (RingAt K H') ys rs := by
  induction h with
  | nil => exact .nil
  | cons a _ ih => exact .cons (ring_kp a s) ih
theorem rings_snoc {K : PySem.W.Frag} {H : Hp} {ys : List V} {rs : List (List Int)} {y : V} {r : List Int} (h : Paired (RingAt K H) ys rs) (a : RingAt K H y r) : Paired (RingAt K H) (ys ++ [y]) (rs ++ [r]) := by
  induction h with
  | nil => exact .cons a .nil
  | cons b _ ih => exact .cons b ih
theorem rings_map {R R' : V → List Int → Prop} {ys : List V} {rs : List (List Int)} (f : ∀ y r, R y r → R' y r) (h : Paired R ys rs) : Paired R' ys rs := by
  induction h with
  | nil => exact .nil
  | cons a _ ih => exact .cons (f _ _ a) ih
/-- at q: a yard's three parts -/
def YdAt (K : PySem.W.Frag) (H : Hp) (q : Addr) (n : Nat) (ts : List (Int × Int)) (rs : List (List Int)) : Prop := ∃ (a e : Addr) (ys zs : List V), SqT K H q [.int (n : Int), .ref a, .ref e] ∧ SqT K H a ys ∧ Paired (TieAt K H) ys ts ∧ SqT K H e zs ∧ Paired (RingAt K H) zs rs
theorem YdAt.kp {K : PySem.W.Frag} {H H' : Hp} {q : Addr} {n : Nat} {ts : List (Int × Int)} {rs : List (List Int)} (h : YdAt K H q n ts rs) (s : Kp H H') : YdAt K H' q n ts rs := by
  obtain ⟨a, e, ys, zs, h1, h2, h3, h4, h5⟩ := h
  exact ⟨a, e, ys, zs, s.seqT h1, s.seqT h2, ties_kp h3 s, s.seqT h4, rings_kp h5 s⟩
def YdOk (n : Nat) (ts : List (Int × Int)) (rs : List (List Int)) : Prop := 1 ≤ n ∧ n ≤ 12 ∧ TiesOk n ts ∧ ts.length ≤ 60 ∧ (∀ r ∈ rs, RingOk n r) ∧ rs.length ≤ 2
def spDYard (K : PySem.W.Frag) : Sp := fun vs H Q _ => ∃ (p c : Addr) (m b : Nat) (ways rings : Bool), vs = [.ref p, .int (m : Int), .bl ways, .bl rings] ∧ Pen H p c (b + 100) ∧ 2 ≤ m ∧ m ≤ 12 ∧
  ∀ q n ts rs H', YdAt K H' q n ts rs → YdOk n ts rs → n ≤ m → Kp H H' → Pen H' p c b → Q (.ref q) H'
structure TY (K : PySem.W.Frag) (mg : Str → Option Value) (fDraw fPick fWithout fRing : Addr) : Prop where
  g : TG K mg fDraw
  sorted : mg "sorted" = none
  gPick : mg "_law_pick" = some (.ref fPick)
  gWithout : mg "_law_without" = some (.ref fWithout)
  gRing : mg "_law_drawn_ring" = some (.ref fRing)
section
variable {P : Program} {w : World} {K : PySem.W.Frag} {mg : Str → Option Value} {base : Heap} {fDraw fPick fWithout fRing : Addr}
/-- the pairs at d, after what was at H0 -/
structure PSt (H0 H : Hp) (p c d : Addr) (n b m : Nat) : Prop where
  ex : ∃ (kvs : PK) (ks : List (Int × Int)), PairsOk n kvs ks ∧ ks.length ≤ m ∧ ks ≠ [] ∧ H d = some (.dT kvs)
  kp : Kp H0 H
  pen : Pen H p c b
end
end Y
set_option Elab.async false
set_option linter.all false
set_option maxRecDepth 100000
set_option maxHeartbeats 4000000
namespace Y
open PySem L2
abbrev sSYard : Stmt := top 999
def spSYard (K : PySem.W.Frag) : Sp := fun vs H Q _ => ∃ (p c : Addr) (m b : Nat), vs = [.ref p, .int (m : Int)] ∧ Pen H p c (b + 103) ∧ 2 ≤ m ∧ m ≤ 12 ∧
  ∀ q n ts rs H', YdAt K H' q n ts rs → YdOk n ts rs → n ≤ m → Kp H H' → Pen H' p c b → Q (.ref q) H'
section
variable {P : Program} {w : World} {K : PySem.W.Frag} {mg : Str → Option Value} {base : Heap} {fDraw fDYard : Addr}
end
end Y
set_option Elab.async false
set_option linter.all false
set_option maxRecDepth 100000
set_option maxHeartbeats 4000000
namespace Y
open PySem L2
abbrev sListed : Stmt := top 999
/-- at y: a row, as a list or a tuple -/
def RowAt (K : PySem.W.Frag) (H : Hp) (y : V) (ns : List Int) : Prop := ∃ b, y = .ref b ∧ (SqL K H b (ns.map V.int) ∨ SqT K H b (ns.map V.int))
theorem RowAt.kp {K : PySem.W.Frag} {H H' : Hp} {y : V} {r : List Int} (h : RowAt K H y r) (s : Kp H H') : RowAt K H' y r := by
  obtain ⟨b, e, h⟩ := h
  exact ⟨b, e, s.seq h⟩
theorem rows_kp {K : PySem.W.Frag} {H H' : Hp} {ys : List V} {rs : List (List Int)} (h : Paired (RowAt K H) ys rs) (s : Kp H H') : Paired (RowAt K H') ys rs := rings_map (fun _ _ h => h.kp s) h
theorem rows_snoc {R : V → List Int → Prop} {ys : List V} {rs : List (List Int)} {y : V} {r : List Int} (h : Paired R ys rs) (a : R y r) : Paired R (ys ++ [y]) (rs ++ [r]) := by
  induction h with
  | nil => exact .cons a .nil
  | cons b _ ih => exact .cons b ih
theorem paired_get {R : V → List Int → Prop} {ys : List V} {rs : List (List Int)} (h : Paired R ys rs) : ∀ {i : Nat} {y : V}, ys[i]? = some y → ∃ r, rs[i]? = some r ∧ R y r := by
  induction h with
  | nil => intro i y e; simp at e
  | cons a _ ih =>
    intro i y e
    cases i with
    | zero => cases Option.some.inj e; exact ⟨_, rfl, a⟩
    | succ i => exact ih e
theorem ty_tup {K : PySem.W.Frag} {H : Hp} {a : Addr} {xs : List V} (h : SqT K H a xs) : TyX K H (.ref a) (.type "tuple") := by
  rcases h with (h | ⟨o, h⟩) | ⟨o, its, n, l, c, _⟩
  · exact .base (.tup h)
  · exact .fTuple h
  · exact .kTuple l c
/-- a row that is not empty stands when the list of rows grows -/
theorem RowAt.grow {K : PySem.W.Frag} {H : Hp} {D : Addr} {zs : List V} {o : HO} {v : V} {r : List Int} (h : RowAt K H v r) (hr : r ≠ []) (e : H D = some (.lst zs)) (hz : ∀ x ∈ zs, ∃ b, x = V.ref b) : RowAt K (upd H D o) v r := by
  obtain ⟨b, e', h⟩ := h
  have nl : ∀ {u : HO}, H b = some u → u ≠ .lst zs → b ≠ D := fun h1 h2 z => h2 (by rw [z, e] at h1; exact (Option.some.inj h1).symm)
  refine ⟨b, e', ?_⟩
  rcases h with ((h | ⟨o, h⟩) | h) | ((h | ⟨o, h⟩) | h)
  · refine .inl (.inl (.inl ?_))
    rw [upd_ne (nl h fun z => ?_)]
    · exact h
    · obtain ⟨a, l, rfl⟩ := List.exists_cons_of_ne_nil hr
      injection z with z
      obtain ⟨b', e2⟩ := hz (.int a) (by rw [← z]; exact List.mem_cons_self)
      cases e2
  · exact .inl (.inl (.inr ⟨o, by rw [upd_ne (nl h (by intro z; cases z))]; exact h⟩))
  · exact .inl (.inr h)
  · exact .inr (.inl (.inl (by rw [upd_ne (nl h (by intro z; cases z))]; exact h)))
  · exact .inr (.inl (.inr ⟨o, by rw [upd_ne (nl h (by intro z; cases z))]; exact h⟩))
  · exact .inr (.inr h)
theorem rows_refs {K : PySem.W.Frag} {H : Hp} {zs : List V} {rs : List (List Int)} (h : Paired (RowAt K H) zs rs) : ∀ x ∈ zs, ∃ b, x = V.ref b := by
  induction h with
  | nil => intro x hx; cases hx
  | cons a _ ih =>
    intro x hx
    rcases List.mem_cons.mp hx with rfl | hx
    · obtain ⟨b, e, _⟩ := a; exact ⟨b, e⟩
    · exact ih x hx
theorem rows_grow {K : PySem.W.Frag} {H : Hp} {D : Addr} {zs xs : List V} {o : HO} {rs : List (List Int)} (h : Paired (RowAt K H) xs rs) (hr : ∀ r ∈ rs, r ≠ []) (e : H D = some (.lst zs)) (hz : ∀ x ∈ zs, ∃ b, x = V.ref b) : Paired (RowAt K (upd H D o)) xs rs := by
  induction h with
  | nil => exact .nil
  | cons a _ ih => exact .cons (a.grow (hr _ List.mem_cons_self) e hz) (ih fun r h => hr r (List.mem_cons_of_mem _ h))
def spL1 (K : PySem.W.Frag) : Sp := fun vs H Q _ => ∃ (p c s : Addr) (ns : List Int) (b : Nat), vs = [.ref p, .ref s] ∧ Pen H p c (b + 1) ∧ SqT K H s (ns.map V.int) ∧ ns.length ≤ 100 ∧
  ∀ q H', RowAt K H' (.ref q) ns → Kp H H' → Pen H' p c b → Q (.ref q) H'
def spL2 (K : PySem.W.Frag) : Sp := fun vs H Q _ => ∃ (p c s : Addr) (ys : List V) (rows : List (List Int)) (b : Nat), vs = [.ref p, .ref s] ∧ Pen H p c (b + (rows.length + 1)) ∧ SqT K H s ys ∧ Paired (TupI K H) ys rows ∧ rows.length ≤ 100 ∧ (∀ r ∈ rows, r.length ≤ 100 ∧ r ≠ []) ∧
  ∀ q zs H', (SqL K H' q zs ∨ SqT K H' q zs) → Paired (RowAt K H') zs rows → Kp H H' → Pen H' p c b → Q (.ref q) H'
structure TLs (K : PySem.W.Frag) (mg : Str → Option Value) (fDraw fL : Addr) : Prop where
  g : TG K mg fDraw
  isi : mg "isinstance" = none
  gL : mg "_law_listed" = some (.ref fL)
section
variable {P : Program} {w : World} {K : PySem.W.Frag} {mg : Str → Option Value} {base : Heap} {fDraw : Addr}
theorem isi_at {X : Cx} {K : PySem.W.Frag} (e : X.K = K) : CallR X (.builtin "isinstance") (rIsi K) := by
  subst e
  exact call_isi
end
end Y
set_option Elab.async false
set_option linter.all false
set_option maxRecDepth 100000
set_option maxHeartbeats 4000000
namespace Y
open PySem L2
abbrev sMoves : Stmt := top 41
abbrev sAll : Stmt := top 999
inductive Mv where
  | slide (a b : Int)
  | turn (k : Int)
deriving DecidableEq
def Mv.vs : Mv → List V
  | .slide a b => [.str "slide", .int a, .int b]
  | .turn k => [.str "turn", .int k]
def MvAt (K : PySem.W.Frag) (H : Hp) (y : V) (m : Mv) : Prop := ∃ b, y = .ref b ∧ SqT K H b m.vs
theorem MvAt.kp {K : PySem.W.Frag} {H H' : Hp} {y : V} {m : Mv} (h : MvAt K H y m) (s : Kp H H') : MvAt K H' y m := by
  obtain ⟨b, e, h⟩ := h
  exact ⟨b, e, s.seqT h⟩
theorem par_map {α β : Type} {R R' : α → β → Prop} {ys : List α} {rs : List β} (f : ∀ y r, R y r → R' y r) (h : Paired R ys rs) : Paired R' ys rs := by
  induction h with
  | nil => exact .nil
  | cons a _ ih => exact .cons (f _ _ a) ih
theorem par_snoc {α β : Type} {R : α → β → Prop} {ys : List α} {rs : List β} {y : α} {r : β} (h : Paired R ys rs) (a : R y r) : Paired R (ys ++ [y]) (rs ++ [r]) := by
  induction h with
  | nil => exact .cons a .nil
  | cons b _ ih => exact .cons b ih
theorem par_app {α β : Type} {R : α → β → Prop} {ys zs : List α} {rs ss : List β} (h : Paired R ys rs) (g : Paired R zs ss) : Paired R (ys ++ zs) (rs ++ ss) := by
  induction h with
  | nil => exact g
  | cons b _ ih => exact .cons b ih
theorem par_get {α β : Type} {R : α → β → Prop} {ys : List α} {rs : List β} (h : Paired R ys rs) : ∀ {i : Nat} {y : α}, ys[i]? = some y → ∃ r, rs[i]? = some r ∧ R y r := by
  induction h with
  | nil => intro i y e; simp at e
  | cons a _ ih =>
    intro i y e
    cases i with
    | zero => cases Option.some.inj e; exact ⟨_, rfl, a⟩
    | succ i => exact ih e
theorem seqT_off {K : PySem.W.Frag} {H : Hp} {D b : Addr} {zs xs : List V} {o : HO} (h : SqT K H b xs) (e : H D = some (.lst zs)) : SqT K (upd H D o) b xs := by
  rcases h with (h | ⟨u, h⟩) | h
  · exact .inl (.inl (by rw [upd_ne (ne_of h e (by intro z; cases z))]; exact h))
  · exact .inl (.inr ⟨u, by rw [upd_ne (ne_of h e (by intro z; cases z))]; exact h⟩)
  · exact .inr h
theorem MvAt.off {K : PySem.W.Frag} {H : Hp} {D : Addr} {zs : List V} {y : V} {m : Mv} {o : HO} (h : MvAt K H y m) (e : H D = some (.lst zs)) : MvAt K (upd H D o) y m := by
  obtain ⟨b, e', h⟩ := h
  exact ⟨b, e', seqT_off h e⟩
abbrev MvsAt (K : PySem.W.Frag) (H : Hp) (ys : List V) (ms : List Mv) : Prop := Paired (MvAt K H) ys ms
/-! ### which moves there are -/
def slideOf (t : Int × Int) : Mv := .slide t.1 t.2
def turns (n : Nat) : List Mv := (List.range n).map fun k => .turn (k : Nat)
def allMoves (ts : List (Int × Int)) (rs : List (List Int)) : List Mv := ts.map slideOf ++ turns rs.length
def gAt (st : List Int) (i : Int) : Int := st.getD i.toNat 0
def canSlide (st : List Int) (t : Int × Int) : Bool := decide (0 < gAt st t.1) && decide (gAt st t.2 = 0)
def movesOf (ts : List (Int × Int)) (rs : List (List Int)) (st : List Int) : List Mv := (ts.filter (canSlide st)).map slideOf ++ turns rs.length
def spAll (K : PySem.W.Frag) : Sp := fun vs H Q _ => ∃ (q : Addr) (n : Nat) (ts : List (Int × Int)) (rs : List (List Int)), vs = [.ref q] ∧ YdAt K H q n ts rs ∧ ts.length ≤ 1000 ∧ rs.length ≤ 1000 ∧
  ∀ l ys H', H' l = some (.lst ys) → MvsAt K H' ys (allMoves ts rs) → Same H H' → Q (.ref l) H'
def spMoves (K : PySem.W.Frag) : Sp := fun vs H Q _ => ∃ (q s : Addr) (n : Nat) (ts : List (Int × Int)) (rs : List (List Int)) (st : List Int), vs = [.ref q, .ref s] ∧ YdAt K H q n ts rs ∧ ts.length ≤ 1000 ∧ rs.length ≤ 1000 ∧ (∀ t ∈ ts, TieOk n t) ∧ SqT K H s (st.map V.int) ∧ st.length = n ∧
  ∀ l ys H', H' l = some (.lst ys) → MvsAt K H' ys (movesOf ts rs st) → Same H H' → Q (.ref l) H'
theorem turns_succ (n : Nat) : turns (n + 1) = turns n ++ [.turn (n : Nat)] := by
  unfold turns
  rw [List.range_succ, List.map_append]
  rfl
section
variable {P : Program} {w : World} {K : PySem.W.Frag} {mg : Str → Option Value} {base : Heap} {fDraw : Addr}
theorem Same.upd_new {H H' : Hp} {a : Addr} {o : HO} (s : Same H H') (h : H a = none) : Same H (upd H' a o) := fun b u e => by rw [upd_ne (ne_of_none e h)]; exact s b u e
theorem pgT {X : Cx} {K : PySem.W.Frag} {es : List Expr} {k : Nat} {t : TGs} {n : Nat} {pos : Pos} (eK : X.K = K) (hc : X.calm = true) (h : PGs X es t) (hn : (assignEach es X.env).length = n) (hst : (assignEach es X.env).findIdx? (·.1) = none) : PG X (.Tuple es k pos) (gTup K n t) := by
  subst eK
  exact pg_tup hc h hn hst
/-- the second half: the turns -/
theorem lc_turns {K : PySem.W.Frag} {n : Nat} {vs : List Nat} {σ : L2.St} {H0 H1 : Hp} {D : Addr} {i : Nat} {Qd : Hp → Prop} (s0 : Same H0 H1) (hn : H1 D = none) (hz : n ≤ 1000) (hk : ∀ (v : V), (wipe σ vs).set i (some v) = (wipe σ vs).set i (some v) → wipe ((wipe σ vs).set i (some v)) vs = wipe σ vs) (hi : ∀ v : V, ((wipe σ vs).set i (some v))[i]? = some (some v))
    (hd : ∀ zs H', H' D = some (.lst zs) → MvsAt K H' zs (turns n) → Same H1 H' → Qd H') :
    ∃ W : Nat → Nat → Hp → Prop, (∃ m, W 0 m (upd H1 D (.lst []))) ∧ ∀ j m H, W j m H →
      ((Itr 0 n).stop j H ∧ Qd H) ∨ ((Itr 0 n).go j H ∧ ∃ Nx : Hp → Prop, (∀ H', Nx H' → ∃ m', m' < m ∧ W (j + 1) m' H') ∧ ∀ x H', (Itr 0 n).yld j H x H' → gName i x (wipe σ vs) H' fun σ2 H2 => wipe σ2 vs = wipe σ vs ∧ tYes σ2 H2 fun b H3 =>
        if b = true then tTup (tCons (tC (.str "turn")) (tCons (tVar i) tNil)) σ2 H3 fun y H4 => ∃ acc, H4 D = some (.lst acc) ∧ acc.length < sizeLine ∧ Nx (upd H4 D (.lst (acc ++ [y]))) else Nx H3) := by
  refine lc_range (lo := 0) (n := n) (fun j H => ∃ zs, H D = some (.lst zs) ∧ MvsAt K H zs (turns j) ∧ zs.length = j ∧ Same H1 H) ⟨[], upd_same, .nil, rfl, Same.new hn⟩ (fun j H hj h => ?_) (fun H h => ?_)
  · obtain ⟨zs, e, p, l, s⟩ := h
    refine ⟨hk _ rfl, ?_⟩
    refine ⟨_, hi _, (by show 2 ≤ sizeLine; decide), fun t nt => ?_⟩
    have e1 : (upd H t (.tup [.str "turn", .int (0 + (j : Int))])) D = some (.lst zs) := Same.new nt _ _ e
    refine ⟨zs, e1, by rw [l]; exact Nat.lt_of_lt_of_le (by omega : j < 1001) (by decide), zs ++ [V.ref t], upd_same, ?_, by rw [List.length_append, l]; rfl, Same.upd_new (s.trans (Same.new nt)) hn⟩
    rw [turns_succ]
    refine par_snoc (par_map (fun y m h => (h.kp (.new nt)).off e1) p) ⟨t, rfl, ?_⟩
    refine seqT_off (SqT.of ?_) e1
    rw [upd_same]
    show some (HO.tup [.str "turn", .int (0 + (j : Int))]) = some (.tup [.str "turn", .int (j : Nat)])
    rw [Int.zero_add]
  · obtain ⟨zs, e, p, _, s⟩ := h
    exact hd zs H e p s
end
end Y
set_option Elab.async false
set_option linter.all false
set_option maxRecDepth 100000
set_option maxHeartbeats 2000000
namespace Y
open PySem L2
/-! ### dicts whose keys are rows -/
def keyR (r : List Int) : List Key := r.map Sum.inl
theorem keyR_inj : ∀ {r s : List Int}, keyR r = keyR s → r = s
  | [], [], _ => rfl
  | [], _ :: _, h => by cases h
  | _ :: _, [], h => by cases h
  | a :: r, b :: s, h => by
    injection h with h1 h2
    injection h1 with h1
    rw [h1, keyR_inj h2]
theorem keyR_kV (r : List Int) : (keyR r).map kV = r.map V.int := by
  unfold keyR
  rw [List.map_map]
  rfl
section
variable {α : Type} {F : V → α → Prop}
/-- kvs holds at the key r of each (r, z) of ps what F tells of z -/
abbrev KVs (F : V → α → Prop) (kvs : List (List Key × V)) (ps : List (List Int × α)) : Prop := Paired (fun kv p => kv.1 = keyR p.1 ∧ F kv.2 p.2) kvs ps
theorem KVs.none {kvs : List (List Key × V)} {ps : List (List Int × α)} (h : KVs F kvs ps) {r : List Int} (hr : r ∉ ps.map (·.1)) : valV kvs (keyR r) = none := by
  induction h with
  | nil => rfl
  | cons a _ ih =>
    rw [List.map_cons, List.mem_cons, not_or] at hr
    rw [valV_neg fun e => hr.1 (keyR_inj (e.symm.trans a.1))]
    exact ih hr.2
theorem KVs.at {kvs : List (List Key × V)} {ps : List (List Int × α)} (h : KVs F kvs ps) (nd : (ps.map (·.1)).Nodup) {p : List Int × α} (hp : p ∈ ps) : ∃ v, valV kvs (keyR p.1) = some v ∧ F v p.2 := by
  induction h with
  | nil => cases hp
  | cons a _ ih =>
    rw [List.map_cons] at nd
    have n1 := List.nodup_cons.mp nd
    rcases List.mem_cons.mp hp with rfl | hp
    · exact ⟨_, valV_pos a.1, a.2⟩
    · rw [valV_neg fun e => n1.1 (by rw [show _ = p.1 from keyR_inj (a.1.symm.trans e)]; exact List.mem_map.mpr ⟨p, hp, rfl⟩)]
      exact ih n1.2 hp
theorem KVs.snoc {kvs : List (List Key × V)} {ps : List (List Int × α)} (h : KVs F kvs ps) {r : List Int} {v : V} {z : α} (hr : r ∉ ps.map (·.1)) (hv : F v z) : KVs F (putK kvs (keyR r) v) (ps ++ [(r, z)]) := by
  rw [putK_new v (h.none hr)]
  exact par_snoc h ⟨rfl, hv⟩
theorem KVs.some_iff {kvs : List (List Key × V)} {ps : List (List Int × α)} (h : KVs F kvs ps) (nd : (ps.map (·.1)).Nodup) {r : List Int} : (valV kvs (keyR r)).isSome = decide (r ∈ ps.map (·.1)) := by
  by_cases c : r ∈ ps.map (·.1)
  · obtain ⟨p, hp, rfl⟩ := List.mem_map.mp c
    obtain ⟨v, e, _⟩ := h.at nd hp
    rw [e, decide_eq_true c]
    rfl
  · rw [h.none c, decide_eq_false c]
    rfl
theorem KVs.mono {F' : V → α → Prop} {kvs : List (List Key × V)} {ps : List (List Int × α)} (h : KVs F kvs ps) (f : ∀ v z, F v z → F' v z) : KVs F' kvs ps := par_map (fun kv p hk => ⟨hk.1, f _ _ hk.2⟩) h
theorem KVs.len {kvs : List (List Key × V)} {ps : List (List Int × α)} (h : KVs F kvs ps) : kvs.length = ps.length := Paired.length h
end
end Y
set_option Elab.async false
set_option linter.all false
set_option maxRecDepth 100000
set_option maxHeartbeats 4000000
namespace Y
open PySem L2
theorem ixT_at {X : Cx} {K : PySem.W.Frag} (e : X.K = K) : IxR X (rIxT K) := by
  subst e
  exact ix_tup
theorem atI_st {st : List Int} {i : Int} (h0 : 0 ≤ i) (h1 : i < st.length) : atI (st.map V.int) i = some (.int (gAt st i)) := by
  refine atI_int h0 ?_
  have h : i.toNat < st.length := by omega
  rw [List.getElem?_map, List.getElem?_eq_getElem h]
  unfold gAt
  rw [List.getD_eq_getElem?_getD, List.getElem?_eq_getElem h]
  rfl
theorem filter_snoc {α : Type} (p : α → Bool) (l : List α) (t : α) : (l ++ [t]).filter p = if p t = true then l.filter p ++ [t] else l.filter p := by
  rw [List.filter_append]
  by_cases h : p t = true
  · rw [if_pos h]; simp [h]
  · rw [if_neg h]; simp [h]
section
variable {P : Program} {w : World} {K : PySem.W.Frag} {mg : Str → Option Value} {base : Heap} {fDraw : Addr}
theorem scMoves : FnScope ["_law_yard", "_law_stand", "_law_found", "_law_a", "_law_b", "_law_k"] ["_law_yard", "_law_stand"] (defScope sMoves) := ⟨rfl, rfl, rfl, by decide +kernel, rfl, by decide +kernel, by decide +kernel⟩
theorem ok_moves {f : Addr} {fd : FuncData} (F : Fun K "_law_moves" "_law_moves" sMoves f fd) (T : TG K mg fDraw) : FnOk P w K mg base CX0 1 f fd ["_law_yard", "_law_stand"] (spMoves K) := by
  refine F.ok scMoves (fun vs H Q E h => ?_) (fun cdv A outer s H vs Q E hr h => ?_)
  · obtain ⟨q, s, n, ts, rs, st, rfl, _⟩ := h
    rfl
  · obtain ⟨q, s, n, ts, rs, st, rfl, ⟨a, e, ys, zs, hq, ha, pa, he, pe⟩, hts, hrs, tok, hs, hst, k⟩ := h
    refine ⟨_, pss_cons (ps_setLc (own := [("_law_a", 3), ("_law_b", 4)]) (i := 2) (g := gTup K 2 (gCons (gName 3) (gCons (gName 4) gNil))) rfl scMoves.nd rfl rfl (sw_true rfl rfl rfl (by decide +kernel)) (pi_tup (pe_ix ix_tup (pv 0) pe_int (fun _ _ => rfl))) (blkOk_by (N := ["_law_yard", "_law_stand", "_law_found", "_law_a", "_law_b", "_law_k"]) (sc := defScope sMoves) (by decide +kernel))
        (fun _ _ _ _ _ => pgT (K := K) (n := 2) rfl rfl (pgs_cons (pg_name (i := 3) scMoves.nd rfl (Or.inl rfl)) (pgs_cons (pg_name (i := 4) scMoves.nd rfl (Or.inl rfl)) pgs_nil)) rfl rfl)
        (fun _ _ _ _ _ => pts_one (PW.pt (pw_and (pt_cmpR op_gt (pe_ix (ixT_at (K := K) rfl) (pv 1) (pv 3) (fun _ _ => rfl)) pe_int (nomark _)) (pw_and1 (pt_cmpR op_eq (pe_ix (ixT_at (K := K) rfl) (pv 1) (pv 4) (fun _ _ => rfl)) pe_int (nomark _))))))
        (fun _ _ _ _ _ => pe_tup (pa_cons pe_str (pa_cons (pv 3) (pa_cons (pv 4) pa_nil)))))
      (pss_one (ps_ret (pe_op op_cat (pv 2)
      (pe_lc (own := [("_law_k", 5)]) (g := gName 5) (tt := tYes) rfl scMoves.nd (pi_range1 (by rfl) T.range (pa_cons (pe_callB call_len_seq (by rfl) T.p.len PySem.boot_len (pa_cons (pe_ix ix_tup (pv 0) pe_int (fun _ _ => rfl)) pa_nil)) pa_nil)) (blkOk_by (N := ["_law_yard", "_law_stand", "_law_found", "_law_a", "_law_b", "_law_k"]) (sc := defScope sMoves) (by decide +kernel))
        (fun _ _ _ _ _ => pg_name (i := 5) scMoves.nd rfl (Or.inl rfl)) (fun _ _ _ _ _ => pts_nil) (fun _ _ _ _ _ => pe_tup (pa_cons pe_str (pa_cons (pv 5) pa_nil))))))), ?_⟩
    have hyl : ys.length = ts.length := ties_len pa
    have hzl : zs.length = rs.length := Paired.length pe
    refine ⟨_, rfl, q, _, 1, _, rfl, rfl, hq, atI_nat (j := 1) rfl, a, rfl, ⟨_, ha⟩, fun D hD => ?_⟩
    refine lc_tup (K := K) (a := a) (xs := ys) (fun i H' => ∃ ws, H' D = some (.lst ws) ∧ MvsAt K H' ws (((ts.take i).filter (canSlide st)).map slideOf) ∧ ws.length ≤ i ∧ Same H H') ⟨[], upd_same, .nil, Nat.le_refl 0, Same.new hD⟩ (fun i H' _ ⟨_, _, _, _, s⟩ => Same.seqT s ha) (fun i x H1 hx h => ?_) (fun H1 h => ?_)
    · obtain ⟨ws, eD, pw, lw, s1⟩ := h
      obtain ⟨t, et, b, rfl, hb⟩ := ties_get pa hx
      have hi : i < ts.length := by
        rcases Nat.lt_or_ge i ts.length with h | h
        · exact h
        · rw [List.getElem?_eq_none h] at et; cases et
      obtain ⟨a0, a1, b0, b1, _⟩ := tok t (List.mem_of_getElem? et)
      rw [← hst] at a1 b1
      refine ⟨b, _, rfl, Same.seqT s1 hb, rfl, _, _, rfl, _, _, rfl, rfl, rfl, ?_⟩
      have no : canSlide st t = false → ∃ ws, H1 D = some (.lst ws) ∧ MvsAt K H1 ws (((ts.take (i + 1)).filter (canSlide st)).map slideOf) ∧ ws.length ≤ i + 1 ∧ Same H H1 := fun c => ⟨ws, eD, by rw [take_next et, filter_snoc, c]; exact pw, by omega, s1⟩
      refine ⟨_, rfl, _, rfl, s, _, t.1, _, rfl, rfl, Same.seqT s1 hs, atI_st a0 a1, _, _, rfl, rfl, _, rfl, ?_⟩
      refine ifT (fun c1 => ?_) (fun c1 => ?_)
      · refine ⟨_, rfl, _, rfl, s, _, t.2, _, rfl, rfl, Same.seqT s1 hs, atI_st b0 b1, rfl, _, rfl, ?_⟩
        refine ifT (fun c2 => ?_) (fun c2 => ?_)
        · have c : canSlide st t = true := by
            unfold canSlide
            rw [dec_int] at c2
            rw [c1, decide_eq_true (eq_of_beq c2)]
            rfl
          refine ⟨_, rfl, _, rfl, (by show 3 ≤ sizeLine; decide), fun m nm => ?_⟩
          have e1 := Same.new nm (o := .tup [.str "slide", .int t.1, .int t.2]) _ _ eD
          refine ⟨ws, e1, Nat.lt_of_le_of_lt (by omega : ws.length ≤ 1001) (by decide), ws ++ [V.ref m], upd_same, ?_, by rw [List.length_append]; exact Nat.succ_le_succ lw, Same.upd_new (s1.trans (Same.new nm)) hD⟩
          rw [take_next et, filter_snoc, if_pos c, List.map_append]
          exact par_snoc (par_map (fun y m' h => (h.kp (.new nm)).off e1) pw) ⟨m, rfl, seqT_off (SqT.of upd_same) e1⟩
        · refine no ?_
          rw [dec_int] at c2
          have ne : ¬ gAt st t.2 = 0 := fun z => by rw [z] at c2; exact absurd c2 (by decide)
          show (decide (0 < gAt st t.1) && decide (gAt st t.2 = 0)) = false
          rw [decide_eq_false ne, Bool.and_false]
      · refine no ?_
        unfold canSlide
        rw [c1, Bool.false_and]
    · obtain ⟨ws, eD, pw, lw, s1⟩ := h
      rw [hyl, List.take_length] at pw
      refine ⟨_, rfl, _, rfl, q, _, 2, _, rfl, rfl, Same.seqT s1 hq, atI_nat (j := 2) rfl, e, zs, rfl, .inr (Same.seqT s1 he), (zs.length : Int), rfl, by omega, by omega, fun D2 hD2 => ?_⟩
      refine lc_turns (K := K) s1 hD2 (by omega) (fun v _ => rfl) (fun v => rfl) fun us H2 e2 p2 s2 => ?_
      have eD2 := s2 _ _ eD
      refine ⟨D, D2, ws, us, rfl, rfl, eD2, e2, Nat.le_trans (by rw [Paired.length p2, turns, List.length_map, List.length_range]; omega : ws.length + us.length ≤ 2000) (by decide), fun l nl => ?_⟩
      have hz : ((zs.length : Int)).toNat = rs.length := by omega
      rw [hz] at p2
      exact k l (ws ++ us) _ upd_same (par_app (par_map (fun y m h => h.kp ((Kp.of_same s2).trans (.new nl))) pw) (par_map (fun y m h => h.kp (.new nl)) p2)) ((s1.trans s2).trans (Same.new nl))
end
end Y
set_option Elab.async false
set_option linter.all false
set_option maxRecDepth 100000
set_option maxHeartbeats 4000000
namespace Y
open PySem L2
/-! ### a row of moves taken back -/
def ringLen (rs : List (List Int)) (k : Int) : Nat := (rs.getD k.toNat []).length
def backOne (ts : List (Int × Int)) (rs : List (List Int)) : Mv → Option (List Mv)
  | .turn k => some (List.replicate (ringLen rs k - 1) (.turn k))
  | .slide a b => if (b, a) ∈ ts then some [.slide b a] else none
def backs (ts : List (Int × Int)) (rs : List (List Int)) : List Mv → Option (List Mv)
  | [] => some []
  | m :: l => (backOne ts rs m).bind fun x => (backs ts rs l).map (x ++ ·)
theorem backs_app {ts : List (Int × Int)} {rs : List (List Int)} : ∀ (l l2 : List Mv), backs ts rs (l ++ l2) = (backs ts rs l).bind fun x => (backs ts rs l2).map (x ++ ·)
  | [], l2 => by
    show backs ts rs l2 = (some []).bind fun x => (backs ts rs l2).map (x ++ ·)
    cases backs ts rs l2 <;> rfl
  | m :: l, l2 => by
    show (backOne ts rs m).bind (fun x => (backs ts rs (l ++ l2)).map (x ++ ·)) = ((backOne ts rs m).bind fun x => (backs ts rs l).map (x ++ ·)).bind fun x => (backs ts rs l2).map (x ++ ·)
    rw [backs_app l l2]
    cases backOne ts rs m with
    | none => rfl
    | some x =>
      cases backs ts rs l with
      | none => rfl
      | some y =>
        cases backs ts rs l2 with
        | none => rfl
        | some z => show some (x ++ (y ++ z)) = some (x ++ y ++ z); rw [List.append_assoc]
theorem backs_snoc {ts : List (Int × Int)} {rs : List (List Int)} {l : List Mv} {m : Mv} {x : List Mv} (h : backs ts rs l = some x) : backs ts rs (l ++ [m]) = (backOne ts rs m).map (x ++ ·) := by
  rw [backs_app, h]
  show ((backOne ts rs m).bind fun y => (some []).map (y ++ ·)).map (x ++ ·) = _
  cases backOne ts rs m with
  | none => rfl
  | some y => show some (x ++ (y ++ [])) = some (x ++ y); rw [List.append_nil]
theorem backs_fail {ts : List (Int × Int)} {rs : List (List Int)} {l l2 : List Mv} {m : Mv} (h : backOne ts rs m = none) : backs ts rs (l ++ m :: l2) = none := by
  rw [backs_app]
  show (backs ts rs l).bind (fun x => ((backOne ts rs m).bind fun y => (backs ts rs l2).map (y ++ ·)).map (x ++ ·)) = none
  rw [h]
  cases backs ts rs l <;> rfl
/-- a move of this yard's kind: a turn names one of its rings -/
def MvOk (rs : List (List Int)) : Mv → Prop
  | .turn k => 0 ≤ k ∧ k < rs.length
  | .slide _ _ => True
/-- what taking back tells: None, or a tuple of moves -/
def TkAt (K : PySem.W.Frag) (H : Hp) (v : V) : Option (List Mv) → Prop
  | none => v = .non
  | some bs => ∃ t ws, v = .ref t ∧ SqT K H t ws ∧ MvsAt K H ws bs
theorem TkAt.kp {K : PySem.W.Frag} {H H' : Hp} {v : V} {o : Option (List Mv)} (h : TkAt K H v o) (s : Kp H H') : TkAt K H' v o := by
  cases o with
  | none => exact h
  | some bs => obtain ⟨t, ws, e, h1, h2⟩ := h; exact ⟨t, ws, e, s.seqT h1, par_map (fun y m h => h.kp s) h2⟩
def spBack (K : PySem.W.Frag) : Sp := fun vs H Q _ => ∃ (q l : Addr) (n : Nat) (ts : List (Int × Int)) (rs : List (List Int)) (ys : List V) (ms : List Mv), vs = [.ref q, .ref l] ∧ YdAt K H q n ts rs ∧ (∀ r ∈ rs, r.length ≤ 100 ∧ 1 ≤ r.length) ∧ SqL K H l ys ∧ MvsAt K H ys ms ∧ ms.length ≤ 100 ∧ (∀ m ∈ ms, MvOk rs m) ∧
  ∀ v H', TkAt K H' v (backs ts rs ms.reverse) → Same H H' → Q v H'
theorem par_rev {α β : Type} {R : α → β → Prop} {ys : List α} {rs : List β} (h : Paired R ys rs) : Paired R ys.reverse rs.reverse := by
  induction h with
  | nil => exact .nil
  | cons a _ ih => rw [List.reverse_cons, List.reverse_cons]; exact par_snoc ih a
theorem par_rep {α β : Type} {R : α → β → Prop} {y : α} {r : β} (h : R y r) : ∀ n, Paired R (List.replicate n y) (List.replicate n r)
  | 0 => .nil
  | n + 1 => .cons h (par_rep h n)
theorem rep_flat {α : Type} (x : α) : ∀ n, (List.replicate n [x]).flatten = List.replicate n x
  | 0 => rfl
  | n + 1 => by rw [List.replicate_succ, List.flatten_cons, rep_flat x n]; rfl
theorem ring_at {rs : List (List Int)} {zs : List V} {K : PySem.W.Frag} {H : Hp} {k : Int} (h : Paired (RingAt K H) zs rs) (h0 : 0 ≤ k) (h1 : k < rs.length) : ∃ b r, zs[k.toNat]? = some (.ref b) ∧ rs[k.toNat]? = some r ∧ SqT K H b (r.map V.int) ∧ ringLen rs k = r.length := by
  have hl := Paired.length h
  have hk : k.toNat < zs.length := by omega
  obtain ⟨r, er, b, e, hb⟩ := par_get h (List.getElem?_eq_getElem hk)
  refine ⟨b, r, by rw [List.getElem?_eq_getElem hk, e], er, hb, ?_⟩
  unfold ringLen
  rw [List.getD_eq_getElem?_getD, er]
  rfl
end Y
set_option Elab.async false
set_option linter.all false
set_option maxRecDepth 100000
set_option maxHeartbeats 4000000
namespace Y
open PySem L2
abbrev sMoved : Stmt := top 42
/-! ### what a move does to a stand -/
def turnTo (r st : List Int) (n : Nat) : List Int := (List.range n).foldl (fun acc j => acc.set (r.getD ((j + 1) % r.length) 0).toNat (gAt st (r.getD j 0))) st
def stepMv (rs : List (List Int)) (st : List Int) : Mv → List Int
  | .slide a b => (st.set a.toNat 0).set b.toNat (gAt st a)
  | .turn k => turnTo (rs.getD k.toNat []) st (rs.getD k.toNat []).length
theorem turnTo_succ (r st : List Int) (n : Nat) : turnTo r st (n + 1) = (turnTo r st n).set (r.getD ((n + 1) % r.length) 0).toNat (gAt st (r.getD n 0)) := by
  unfold turnTo
  rw [List.range_succ, List.foldl_append]
  rfl
theorem turnTo_len (r st : List Int) : ∀ n, (turnTo r st n).length = st.length
  | 0 => rfl
  | n + 1 => by rw [turnTo_succ, List.length_set, turnTo_len r st n]
theorem stepMv_len (rs : List (List Int)) (st : List Int) (m : Mv) : (stepMv rs st m).length = st.length := by
  cases m with
  | slide a b => show ((st.set a.toNat 0).set b.toNat (gAt st a)).length = _; rw [List.length_set, List.length_set]
  | turn k => exact turnTo_len _ _ _
/-- the move can be made -/
def CanMv (n : Nat) (ts : List (Int × Int)) (rs : List (List Int)) (st : List Int) : Mv → Prop
  | .slide a b => (a, b) ∈ ts ∧ TieOk n (a, b) ∧ 0 < gAt st a ∧ gAt st b = 0
  | .turn k => 0 ≤ k ∧ k < rs.length
def spMoved (K : PySem.W.Frag) : Sp := fun vs H Q _ => ∃ (q s : Addr) (y : V) (n : Nat) (ts : List (Int × Int)) (rs : List (List Int)) (st : List Int) (m : Mv), vs = [.ref q, .ref s, y] ∧ YdAt K H q n ts rs ∧ n ≤ 100 ∧ (∀ r ∈ rs, RingOk n r) ∧ SqT K H s (st.map V.int) ∧ st.length = n ∧ MvAt K H y m ∧ CanMv n ts rs st m ∧
  ∀ t H', H' t = some (.tup ((stepMv rs st m).map V.int)) → Same H H' → Q (.ref t) H'
theorem ixN_ok {n : Nat} {i : Int} (h0 : 0 ≤ i) (h1 : i < n) : ixN n i = some i.toNat := by
  unfold ixN
  rw [if_pos h0, if_pos h1]
theorem getD_at {r : List Int} {i : Nat} (h : i < r.length) : (r.map V.int)[i]? = some (.int (r.getD i 0)) := by
  rw [List.getElem?_map, List.getElem?_eq_getElem h, List.getD_eq_getElem?_getD, List.getElem?_eq_getElem h]
  rfl
theorem getD_mem {r : List Int} {i : Nat} (h : i < r.length) : r.getD i 0 ∈ r := by
  rw [List.getD_eq_getElem?_getD, List.getElem?_eq_getElem h]
  exact List.getElem_mem h
section
variable {P : Program} {w : World} {K : PySem.W.Frag} {mg : Str → Option Value} {base : Heap} {fDraw : Addr}
theorem scMoved : FnScope ["_law_yard", "_law_stand", "_law_move", "_law_found", "_law_ring", "_law_k"] ["_law_yard", "_law_stand", "_law_move"] (defScope sMoved) := ⟨rfl, rfl, rfl, by decide +kernel, rfl, by decide +kernel, by decide +kernel⟩
theorem ok_moved {f : Addr} {fd : FuncData} (F : Fun K "_law_moved" "_law_moved" sMoved f fd) (T : TG K mg fDraw) : FnOk P w K mg base CX0 1 f fd ["_law_yard", "_law_stand", "_law_move"] (spMoved K) := by
  refine F.ok scMoved (fun vs H Q E h => ?_) (fun cdv A outer s H vs Q E hr h => ?_)
  · obtain ⟨q, s, y, n, ts, rs, st, m, rfl, _⟩ := h
    rfl
  · obtain ⟨q, s, y, n, ts, rs, st, m, rfl, ⟨a, e, tys, zs, hq, ha, pa, he, pe⟩, n100, rok, hs, hst, ⟨b, rfl, hm⟩, can, k⟩ := h
    have hu := hr.units
    have ix : ∀ i : Nat, True := fun _ => trivial
    refine ⟨_, pss_cons (ps_set (i := 3) scMoved.nd rfl (Or.inl rfl) (pe_callTy call_list_of (by rfl) T.p.list (by decide +kernel) (pa_cons (pv 1) pa_nil)))
      (pss_cons (ps_if (pt_cmpR op_eq (pe_ix ix_tup (pv 2) pe_int (fun _ _ => rfl)) pe_str (nomark _))
        (pss_cons (ps_if (PW.pt (pw_or (pt_cmpR (op_tieNotIn hu) (pe_tup (pa_cons (pe_ix ix_tup (pv 2) pe_int (fun _ _ => rfl)) (pa_cons (pe_ix ix_tup (pv 2) pe_int (fun _ _ => rfl)) pa_nil))) (pe_ix ix_tup (pv 0) pe_int (fun _ _ => rfl)) (by rfl))
            (pw_or (pt_cmpR op_eq (pe_ix ix_tup (pv 1) (pe_ix ix_tup (pv 2) pe_int (fun _ _ => rfl)) (fun _ _ => rfl)) pe_int (nomark _)) (pw_or1 (pt_cmpR op_ne (pe_ix ix_tup (pv 1) (pe_ix ix_tup (pv 2) pe_int (fun _ _ => rfl)) (fun _ _ => rfl)) pe_int (nomark _))))))
            (pss_one (ps_ret pe_non)) pss_nil)
        (pss_cons (ps_asg (pe_tup (pa_cons pe_int (pa_cons (pe_ix ix_tup (pv 1) (pe_ix ix_tup (pv 2) pe_int (fun _ _ => rfl)) (fun _ _ => rfl)) pa_nil))) (pg_tup rfl (pgs_cons (pg_sub (pv 3) (pe_ix ix_tup (pv 2) pe_int (fun _ _ => rfl)) set_list) (pgs_cons (pg_sub (pv 3) (pe_ix ix_tup (pv 2) pe_int (fun _ _ => rfl)) set_list) pgs_nil))))
        (pss_one (ps_ret (pe_callTy call_tuple_of (by rfl) T.tuple (by decide +kernel) (pa_cons (pv 3) pa_nil))))))
        pss_nil)
      (pss_cons (ps_set (i := 4) scMoved.nd rfl (Or.inl rfl) (pe_ix ix_tup (pe_ix ix_tup (pv 0) pe_int (fun _ _ => rfl)) (pe_ix ix_tup (pv 2) pe_int (fun _ _ => rfl)) (fun _ _ => rfl)))
      (pss_cons (ps_for PassesOwn.never rfl (pi_range1 (by rfl) T.range (pa_cons (pe_callB call_len_seq (by rfl) T.p.len PySem.boot_len (pa_cons (pv 4) pa_nil)) pa_nil)) (pg_name (i := 5) scMoved.nd rfl (Or.inl rfl))
        (pss_one (ps_asg (pe_ix ix_tup (pv 1) (pe_ix ix_tup (pv 4) (pv 5) (fun _ _ => rfl)) (fun _ _ => rfl))
          (pg_sub (pv 3) (pe_ix ix_tup (pv 4) (pe_op op_mod (pe_callTy call_int1 (by rfl) T.p.int (by decide +kernel) (pa_cons (pe_op op_add (pv 5) pe_int) pa_nil)) (pe_callB call_len_seq (by rfl) T.p.len PySem.boot_len (pa_cons (pv 4) pa_nil))) (fun _ _ => rfl)) set_list))))
      (pss_one (ps_ret (pe_callTy call_tuple_of (by rfl) T.tuple (by decide +kernel) (pa_cons (pv 3) pa_nil))))))), ?_⟩
    refine ⟨_, rfl, s, _, rfl, .inr hs, fun l nl => ?_⟩
    have s1 := Same.new (o := .lst (st.map V.int)) nl
    have hm1 := Same.seqT s1 hm
    have hs1 := Same.seqT s1 hs
    cases m with
    | slide x z =>
      obtain ⟨hin, ⟨x0, x1, z0, z1, _⟩, gx, gz⟩ := can
      have x1' : x < st.length := by rw [hst]; exact x1
      have z1' : z < st.length := by rw [hst]; exact z1
      refine ⟨_, rfl, b, _, 0, _, rfl, rfl, hm1, atI_nat (j := 0) rfl, rfl, _, rfl, ?_⟩
      refine iteT ?_
      refine ⟨_, rfl, b, _, 1, _, rfl, rfl, hm1, atI_nat (j := 1) rfl, _, rfl, b, _, 2, _, rfl, rfl, hm1, atI_nat (j := 2) rfl, (by show 2 ≤ sizeLine; decide), fun t nt => ?_⟩
      have s2 := s1.trans (Same.new (o := .tup [.int x, .int z]) nt)
      have hm2 := Same.seqT s2 hm
      have hs2 := Same.seqT s2 hs
      refine ⟨_, rfl, q, _, 1, _, rfl, rfl, Same.seqT s2 hq, atI_nat (j := 1) rfl, ?_⟩
      refine ⟨a, tys, ts, (x, z), rfl, Same.seqT s2 ha, ties_kp pa (.of_same s2), ⟨t, rfl, SqT.of upd_same⟩, _, rfl, ?_⟩
      refine ifT (fun h => by simp [hin] at h) (fun _ => ?_)
      refine ⟨_, rfl, _, rfl, b, _, 1, _, rfl, rfl, hm2, atI_nat (j := 1) rfl, s, _, x, _, rfl, rfl, hs2, atI_st x0 x1', rfl, _, rfl, ?_⟩
      refine ifT (fun h => by rw [dec_int] at h; have := eq_of_beq h; omega) (fun _ => ?_)
      refine ⟨_, rfl, _, rfl, b, _, 2, _, rfl, rfl, hm2, atI_nat (j := 2) rfl, s, _, z, _, rfl, rfl, hs2, atI_st z0 z1', rfl, _, rfl, ?_⟩
      refine ifT (fun h => by rw [gz] at h; simp at h) (fun _ => ?_)
      refine ⟨_, rfl, _, rfl, b, _, 1, _, rfl, rfl, hm2, atI_nat (j := 1) rfl, s, _, x, _, rfl, rfl, hs2, atI_st x0 x1', (by show 2 ≤ sizeLine; decide), fun t2 nt2 => ?_⟩
      have s3 := s2.trans (Same.new (o := .tup [.int 0, .int (gAt st x)]) nt2)
      have hm3 := Same.seqT s3 hm
      have el : (upd (upd (upd H l (.lst (st.map V.int))) t (.tup [.int x, .int z])) t2 (.tup [.int 0, .int (gAt st x)])) l = some (.lst (st.map V.int)) := Same.new nt2 _ _ (Same.new nt _ _ upd_same)
      refine ⟨t2, _, rfl, SqT.of upd_same, rfl, _, _, rfl, ?_⟩
      refine ⟨_, rfl, _, rfl, b, _, 1, _, rfl, rfl, hm3, atI_nat (j := 1) rfl, l, _, x, x.toNat, rfl, rfl, el, by rw [List.length_map]; exact ixN_ok x0 x1', ?_⟩
      rw [map_set]
      have s4 := Same.upd_new (o := .lst ((st.set x.toNat 0).map V.int)) s3 nl
      refine ⟨_, _, rfl, _, rfl, _, rfl, b, _, 2, _, rfl, rfl, Same.seqT s4 hm, atI_nat (j := 2) rfl, l, _, z, z.toNat, rfl, rfl, upd_same, by rw [List.length_map, List.length_set]; exact ixN_ok z0 z1', ?_⟩
      rw [map_set]
      have s5 := Same.upd_new (o := .lst (((st.set x.toNat 0).set z.toNat (gAt st x)).map V.int)) s4 nl
      refine ⟨rfl, ?_⟩
      exact ⟨_, rfl, l, _, rfl, .inl ⟨SqL.of upd_same, fun u nu => k u _ upd_same (s5.trans (Same.new nu))⟩⟩
    | turn kk =>
      obtain ⟨k0, k1⟩ := can
      obtain ⟨g, rr, eg, erg, hg, hlg⟩ := ring_at pe k0 k1
      obtain ⟨_, rb, r3, rn⟩ := rok rr (List.mem_of_getElem? erg)
      have hrd : rs.getD kk.toNat [] = rr := by rw [List.getD_eq_getElem?_getD, erg]; rfl
      refine ⟨_, rfl, b, _, 0, _, rfl, rfl, hm1, atI_nat (j := 0) rfl, rfl, _, rfl, ?_⟩
      refine iteF ?_
      refine ⟨_, rfl, q, _, 2, _, rfl, rfl, Same.seqT s1 hq, atI_nat (j := 2) rfl, _, rfl, b, _, 1, _, rfl, rfl, hm1, atI_nat (j := 1) rfl, e, zs, kk, _, rfl, rfl, Same.seqT s1 he, atI_int k0 eg, ?_⟩
      refine ⟨_, rfl, g, _, rfl, .inr (Same.seqT s1 hg), _, rfl, by omega, by rw [List.length_map]; omega, ?_⟩
      rw [List.length_map]
      refine for_range (lo := 0) (n := ((rr.length : Int)).toNat) (fun i σ H' => ∃ v, σ = [some (.ref q), some (.ref s), some (.ref b), some (.ref l), some (.ref g), v] ∧ H' l = some (.lst ((turnTo rr st i).map V.int)) ∧ Same H H') ⟨none, rfl, upd_same, s1⟩ ?_ ?_
      · rintro i σ H1 hi ⟨v, rfl, el, sH⟩
        have hi' : i < rr.length := by omega
        have hg1 := Same.seqT sH hg
        obtain ⟨p0, p1⟩ := rb _ (getD_mem hi')
        have hmod : (i + 1) % rr.length < rr.length := Nat.mod_lt _ (by omega)
        obtain ⟨m0, m1⟩ := rb _ (getD_mem hmod)
        refine ⟨_, rfl, _, rfl, _, rfl, g, _, 0 + (i : Int), _, rfl, rfl, hg1, (by rw [Int.zero_add]; exact atI_nat (getD_at hi')), s, _, _, _, rfl, rfl, Same.seqT sH hs, atI_st p0 (by rw [hst]; exact p1), ?_⟩
        refine ⟨_, rfl, _, rfl, _, rfl, _, _, rfl, rfl, .inl ⟨_, rfl, _, rfl, g, _, rfl, .inr hg1, _, _, rfl, rfl, by rw [List.length_map]; omega, ?_⟩⟩
        rw [List.length_map]
        have em : ((0 + (i : Int) + 1) % (rr.length : Int)) = (((i + 1) % rr.length : Nat) : Int) := by
          rw [Int.natCast_emod]
          congr 1
          omega
        refine ⟨g, _, _, _, rfl, rfl, hg1, (by rw [em]; exact atI_nat (getD_at hmod)), ?_⟩
        refine ⟨l, _, _, _, rfl, rfl, el, by rw [List.length_map, turnTo_len]; exact ixN_ok m0 (by rw [hst]; exact m1), ?_⟩
        rw [map_set]
        exact ⟨_, rfl, by rw [turnTo_succ]; exact upd_same, Same.upd_new sH nl⟩
      · rintro σ H1 ⟨v, rfl, el, sH⟩
        refine ⟨_, rfl, l, _, rfl, .inl ⟨SqL.of el, fun u nu => k u _ ?_ (sH.trans (Same.new nu))⟩⟩
        rw [upd_same]
        show some (HO.tup ((turnTo rr st ((rr.length : Int)).toNat).map V.int)) = some (.tup ((turnTo (rs.getD kk.toNat []) st (rs.getD kk.toNat []).length).map V.int))
        rw [hrd, show ((rr.length : Int)).toNat = rr.length by omega]
end
end Y
set_option Elab.async false
set_option linter.all false
set_option maxRecDepth 100000
set_option maxHeartbeats 4000000
namespace Y
open PySem L2
abbrev sSMoves : Stmt := top 999
/-! ### xs == [] -/
def rEqNil (K : PySem.W.Frag) : R2 := fun x y H Q => ∃ p q xs, x = .ref p ∧ y = .ref q ∧ SqL K H p xs ∧ SqL K H q [] ∧ Q (.bl xs.isEmpty) H
theorem op_eq_nil {X : Cx} (hu : X.A.units < cLine) : OpR X (compareOp .Eq) (rEqNil X.K) := by
  intro pins s σ H x y v u Q I rx ry h
  obtain ⟨p, q, xs, rfl, rfl, hp, hq, k⟩ := h
  cases rx
  cases ry
  obtain ⟨its, r1, l1, _⟩ := I.list hp
  obtain ⟨jts, r2, l2, _⟩ := I.list hq
  cases r2
  cases r1 with
  | nil =>
    refine SeqAt.eq_listAt (e := fun _ => true) l1.isList l2.isList rfl hu (fun j h1 _ => absurd h1 (by simp)) ?_
    exact ⟨.bl true, H, I, rfl, k⟩
  | cons a t =>
    refine SeqAt.eq_list_lengthsAt l1.isList l2.isList (by simp) hu ?_
    exact ⟨.bl false, H, I, rfl, k⟩
/-! ### a row of moves that can be made -/
def playMvs (rs : List (List Int)) : List Int → List Mv → List Int
  | st, [] => st
  | st, m :: l => playMvs rs (stepMv rs st m) l
def CanAll (n : Nat) (ts : List (Int × Int)) (rs : List (List Int)) : List Int → List Mv → Prop
  | _, [] => True
  | st, m :: l => CanMv n ts rs st m ∧ CanAll n ts rs (stepMv rs st m) l
theorem play_snoc {rs : List (List Int)} {m : Mv} : ∀ {l : List Mv} {st : List Int}, playMvs rs st (l ++ [m]) = stepMv rs (playMvs rs st l) m
  | [], _ => rfl
  | a :: l, st => play_snoc (l := l) (st := stepMv rs st a)
theorem can_snoc {n : Nat} {ts : List (Int × Int)} {rs : List (List Int)} {m : Mv} : ∀ {l : List Mv} {st : List Int}, CanAll n ts rs st l → CanMv n ts rs (playMvs rs st l) m → CanAll n ts rs st (l ++ [m])
  | [], _, _, h => ⟨h, trivial⟩
  | _ :: _, _, h, g => ⟨h.1, can_snoc h.2 g⟩
theorem play_len {rs : List (List Int)} : ∀ {l : List Mv} {st : List Int}, (playMvs rs st l).length = st.length
  | [], _ => rfl
  | m :: l, st => by show (playMvs rs (stepMv rs st m) l).length = _; rw [play_len, stepMv_len]
theorem can_of_mem {n : Nat} {ts : List (Int × Int)} {rs : List (List Int)} {st : List Int} {m : Mv} (tok : ∀ t ∈ ts, TieOk n t) (h : m ∈ movesOf ts rs st) : CanMv n ts rs st m := by
  unfold movesOf at h
  rcases List.mem_append.mp h with h | h
  · obtain ⟨t, ht, rfl⟩ := List.mem_map.mp h
    obtain ⟨h1, h2⟩ := List.mem_filter.mp ht
    unfold canSlide at h2
    rw [Bool.and_eq_true, decide_eq_true_iff, decide_eq_true_iff] at h2
    exact ⟨h1, tok t h1, h2.1, h2.2⟩
  · unfold turns at h
    obtain ⟨k, hk, rfl⟩ := List.mem_map.mp h
    rw [List.mem_range] at hk
    exact ⟨by omega, by omega⟩
def spSMoves (K : PySem.W.Frag) : Sp := fun vs H Q _ => ∃ (p c q s : Addr) (n b mo : Nat) (ts : List (Int × Int)) (rs : List (List Int)) (st : List Int), vs = [.ref p, .ref q, .ref s, .int (mo : Int)] ∧ Pen H p c (b + mo + 1) ∧ mo ≤ 100 ∧ YdAt K H q n ts rs ∧ YdOk n ts rs ∧ SqT K H s (st.map V.int) ∧ st.length = n ∧
  ∀ l ys ms H', H' l = some (.lst ys) → MvsAt K H' ys ms → ms.length ≤ mo → CanAll n ts rs st ms → Kp H H' → Pen H' p c b → Q (.ref l) H'
structure TM (K : PySem.W.Frag) (mg : Str → Option Value) (fDraw fPick fMoves fMoved : Addr) : Prop where
  g : TG K mg fDraw
  gPick : mg "_law_pick" = some (.ref fPick)
  gMoves : mg "_law_moves" = some (.ref fMoves)
  gMoved : mg "_law_moved" = some (.ref fMoved)
section
variable {P : Program} {w : World} {K : PySem.W.Frag} {mg : Str → Option Value} {base : Heap} {fDraw fPick fMoves fMoved : Addr}
end
end Y
set_option Elab.async false
set_option linter.all false
set_option maxRecDepth 100000
set_option maxHeartbeats 4000000
namespace Y
open PySem L2
abbrev sIsInt : Stmt := top 1
abbrev sIsRow : Stmt := top 3
abbrev sCan : Stmt := top 21
structure TI0 (mg : Str → Option Value) : Prop where
  isi : mg "isinstance" = none
  int : mg "int" = none
  bool : mg "bool" = none
  tuple : mg "tuple" = none
  list : mg "list" = none
def spIsInt : Sp := fun vs H Q _ => ∃ z : Int, vs = [.int z] ∧ Q (.bl true) H
def spIsRow (K : PySem.W.Frag) : Sp := fun vs H Q _ => ∃ x : V, vs = [x] ∧ (TyX K H x (.type "list") ∨ TyX K H x (.type "tuple")) ∧ ∀ H', Same H H' → Q (.bl true) H'
theorem TyX.same {K : PySem.W.Frag} {H H' : Hp} {a : Addr} {xs : List V} (h : SqL K H a xs) : TyX K H (.ref a) (.type "list") := by
  rcases h with (h | ⟨o, h⟩) | ⟨o, its, n, l, c, _⟩
  · exact .base (.lst h)
  · exact .base (.frz h)
  · exact .kList l c
section
variable {P : Program} {w : World} {K : PySem.W.Frag} {mg : Str → Option Value} {base : Heap}
theorem scIsInt : FnScope ["value"] ["value"] (defScope sIsInt) := ⟨rfl, rfl, rfl, by decide +kernel, rfl, by decide +kernel, by decide +kernel⟩
theorem ok_isInt {f : Addr} {fd : FuncData} (F : Fun K "is_integer" "is_integer" sIsInt f fd) (T : TI0 mg) : FnOk P w K mg base CX0 1 f fd ["value"] spIsInt := by
  refine F.ok scIsInt (fun vs H Q E h => ?_) (fun cdv A outer s H vs Q E hr h => ?_)
  · obtain ⟨z, rfl, _⟩ := h
    rfl
  · obtain ⟨z, rfl, k⟩ := h
    refine ⟨_, pss_one (ps_ret (pe_and (pe_callB call_isi (by rfl) T.isi (by decide +kernel) (pa_cons (pv 0) (pa_cons (pbT (n := "int") T.int (by decide +kernel)) pa_nil))) (pe_one (pe_not (pe_callB call_isi (by rfl) T.isi (by decide +kernel) (pa_cons (pv 0) (pa_cons (pbT (n := "bool") T.bool (by decide +kernel)) pa_nil))))))), ?_⟩
    refine ⟨_, rfl, _, _, _, _, true, rfl, ClsV.ty _, .base (TyOf.int z), kit_ty (by decide +kernel), true, rfl, iteT ?_⟩
    exact ⟨_, rfl, _, _, _, _, false, rfl, ClsV.ty _, .base (TyOf.int z), kit_ty (by decide +kernel), false, rfl, k⟩
theorem scIsRow : FnScope ["value"] ["value"] (defScope sIsRow) := ⟨rfl, rfl, rfl, by decide +kernel, rfl, by decide +kernel, by decide +kernel⟩
theorem kit_row {K : PySem.W.Frag} {t : String} (h : t = "list" ∨ t = "tuple") : PySem.W.kitAny K (.type t) [.type "tuple", .type "list"] = some true := by
  rcases h with rfl | rfl
  · have e1 : PySem.W.kitOne K (.type "list") (.type "tuple") = some false := kit_ty (by decide +kernel)
    have e2 : PySem.W.kitOne K (.type "list") (.type "list") = some true := kit_ty (by decide +kernel)
    simp only [PySem.W.kitAny, e1, e2]
  · have e1 : PySem.W.kitOne K (.type "tuple") (.type "tuple") = some true := kit_ty (by decide +kernel)
    simp only [PySem.W.kitAny, e1]
theorem ok_isRow {f : Addr} {fd : FuncData} (F : Fun K "is_row" "is_row" sIsRow f fd) (T : TI0 mg) : FnOk P w K mg base CX0 1 f fd ["value"] (spIsRow K) := by
  refine F.ok scIsRow (fun vs H Q E h => ?_) (fun cdv A outer s H vs Q E hr h => ?_)
  · obtain ⟨x, rfl, _⟩ := h
    rfl
  · obtain ⟨x, rfl, hx, k⟩ := h
    refine ⟨_, pss_one (ps_ret (pe_callB call_isiT (by rfl) T.isi (by decide +kernel) (pa_cons (pv 0) (pa_cons (pe_tup (pa_cons (pbT (n := "tuple") T.tuple (by decide +kernel)) (pa_cons (pbT (n := "list") T.list (by decide +kernel)) pa_nil))) pa_nil)))), ?_⟩
    refine ⟨_, rfl, (by show 2 ≤ sizeLine; decide), fun t nt => ?_⟩
    have mono : ∀ {ty : Value}, TyX K H x ty → (ty = .type "list" ∨ ty = .type "tuple") → TyX K (upd H t (.tup [.ty "tuple", .ty "list"])) x ty := fun {ty} h _ => by
      cases h with
      | base b =>
        cases b with
        | non => exact .base .non
        | bl b => exact .base (.bl b)
        | int i => exact .base (.int i)
        | str z => exact .base (.str z)
        | flt z => exact .base (.flt z)
        | lst e => exact .base (.lst (Same.new nt _ _ e))
        | frz e => exact .base (.frz (Same.new nt _ _ e))
        | tup e => exact .base (.tup (Same.new nt _ _ e))
        | dK e => exact .base (.dK (Same.new nt _ _ e))
        | dT e => exact .base (.dT (Same.new nt _ _ e))
        | ins e c1 c2 c3 c4 c5 => exact .base (.ins (Same.new nt _ _ e) c1 c2 c3 c4 c5)
      | byt b => exact .byt b
      | set e => exact .set (Same.new nt _ _ e)
      | kList e c => exact .kList e c
      | kTuple e c => exact .kTuple e c
      | kDict e c => exact .kDict e c
      | fTuple e => exact .fTuple (Same.new nt _ _ e)
      | fDict e => exact .fDict (Same.new nt _ _ e)
    rcases hx with hx | hx
    · exact ⟨x, t, _, _, _, true, rfl, upd_same, .cons (ClsV.ty _) (.cons (ClsV.ty _) .nil), mono hx (.inl rfl), kit_row (.inl rfl), k _ (Same.new nt)⟩
    · exact ⟨x, t, _, _, _, true, rfl, upd_same, .cons (ClsV.ty _) (.cons (ClsV.ty _) .nil), mono hx (.inr rfl), kit_row (.inr rfl), k _ (Same.new nt)⟩
end
end Y
set_option Elab.async false
set_option linter.all false
set_option maxRecDepth 100000
set_option maxHeartbeats 4000000
namespace Y
open PySem L2
abbrev sIsCount : Stmt := top 2
/-- the type's name of a data -/
def tyNm : PyData → String
  | .none => "NoneType"
  | .bool _ => "bool"
  | .int _ => "int"
  | .str _ => "str"
  | .list _ => "list"
  | .tuple _ => "tuple"
  | .dict _ => "dict"
theorem dq_ty {K : PySem.W.Frag} {H : Hp} {d : PyData} {x : V} (h : Dq K H d x) : TyX K H x (.type (tyNm d)) := by
  cases h with
  | non => exact .base .non
  | bl b => exact .base (.bl b)
  | int i => exact .base (.int i)
  | str x => exact .base (.str x)
  | lst h _ => exact TyX.same (H' := H) h
  | tup h _ => exact ty_tup h
  | dct e => exact .base (.dK e)
def isI : PyData → Bool
  | .int _ => true
  | _ => false
def isCnt : PyData → Bool
  | .int z => decide (0 ≤ z)
  | _ => false
def spIsIntD (K : PySem.W.Frag) : Sp := fun vs H Q _ => ∃ (x : V) (d : PyData), vs = [x] ∧ Dq K H d x ∧ Q (.bl (isI d)) H
def spIsCountD (K : PySem.W.Frag) : Sp := fun vs H Q _ => ∃ (x : V) (d : PyData), vs = [x] ∧ Dq K H d x ∧ Q (.bl (isCnt d)) H
section
variable {P : Program} {w : World} {K : PySem.W.Frag} {mg : Str → Option Value} {base : Heap} {fInt : Addr}
theorem ok_isIntD {f : Addr} {fd : FuncData} (F : Fun K "is_integer" "is_integer" sIsInt f fd) (T : TI0 mg) : FnOk P w K mg base CX0 1 f fd ["value"] (spIsIntD K) := by
  refine F.ok scIsInt (fun vs H Q E h => ?_) (fun cdv A outer s H vs Q E hr h => ?_)
  · obtain ⟨z, d, rfl, _⟩ := h
    rfl
  · obtain ⟨x, d, rfl, hd, k⟩ := h
    refine ⟨_, pss_one (ps_ret (pe_and (pe_callB call_isi (by rfl) T.isi (by decide +kernel) (pa_cons (pv 0) (pa_cons (pbT (n := "int") T.int (by decide +kernel)) pa_nil))) (pe_one (pe_not (pe_callB call_isi (by rfl) T.isi (by decide +kernel) (pa_cons (pv 0) (pa_cons (pbT (n := "bool") T.bool (by decide +kernel)) pa_nil))))))), ?_⟩
    have ty := dq_ty hd
    cases d with
    | int z =>
      refine ⟨_, rfl, _, _, _, _, true, rfl, ClsV.ty _, ty, kit_ty (by show kitB _ _ = _; dsimp only [tyNm]; decide +kernel), true, rfl, iteT ?_⟩
      exact ⟨_, rfl, _, _, _, _, false, rfl, ClsV.ty _, ty, kit_ty (by show kitB _ _ = _; dsimp only [tyNm]; decide +kernel), false, rfl, k⟩
    | bool b =>
      refine ⟨_, rfl, _, _, _, _, true, rfl, ClsV.ty _, ty, kit_ty (by show kitB _ _ = _; dsimp only [tyNm]; decide +kernel), true, rfl, iteT ?_⟩
      exact ⟨_, rfl, _, _, _, _, true, rfl, ClsV.ty _, ty, kit_ty (by show kitB _ _ = _; dsimp only [tyNm]; decide +kernel), true, rfl, k⟩
    | none => exact ⟨_, rfl, _, _, _, _, false, rfl, ClsV.ty _, ty, kit_ty (by show kitB _ _ = _; dsimp only [tyNm]; decide +kernel), false, rfl, iteF k⟩
    | str _ => exact ⟨_, rfl, _, _, _, _, false, rfl, ClsV.ty _, ty, kit_ty (by show kitB _ _ = _; dsimp only [tyNm]; decide +kernel), false, rfl, iteF k⟩
    | list _ => exact ⟨_, rfl, _, _, _, _, false, rfl, ClsV.ty _, ty, kit_ty (by show kitB _ _ = _; dsimp only [tyNm]; decide +kernel), false, rfl, iteF k⟩
    | tuple _ => exact ⟨_, rfl, _, _, _, _, false, rfl, ClsV.ty _, ty, kit_ty (by show kitB _ _ = _; dsimp only [tyNm]; decide +kernel), false, rfl, iteF k⟩
    | dict _ => exact ⟨_, rfl, _, _, _, _, false, rfl, ClsV.ty _, ty, kit_ty (by show kitB _ _ = _; dsimp only [tyNm]; decide +kernel), false, rfl, iteF k⟩
theorem scIsCount : FnScope ["value"] ["value"] (defScope sIsCount) := ⟨rfl, rfl, rfl, by decide +kernel, rfl, by decide +kernel, by decide +kernel⟩
theorem ok_isCountD {f : Addr} {fd fdI : FuncData} (F : Fun K "is_count" "is_count" sIsCount f fd) (T : TI0 mg) (gI : mg "is_integer" = some (.ref fInt)) (FI : Fun K "is_integer" "is_integer" sIsInt fInt fdI) (bI : Binds K fdI ["value"] []) :
    FnOk P w K mg base CX0 2 f fd ["value"] (spIsCountD K) := by
  have GI : FnOk P w K mg base CX0 1 fInt fdI ["value"] (spIsIntD K) := ok_isIntD FI T
  refine F.ok scIsCount (fun vs H Q E h => ?_) (fun cdv A outer s H vs Q E hr h => ?_)
  · obtain ⟨z, d, rfl, _⟩ := h
    rfl
  · obtain ⟨x, d, rfl, hd, k⟩ := h
    refine ⟨_, pss_one (ps_ret (pe_and (pe_call GI hr (by rfl) gI FI.kp bI .nil pass0 (pa_cons (pv 0) pa_nil)) (pe_one (pe_cmpR op_ge (pv 0) pe_int (nomark _))))), ?_⟩
    refine ⟨_, rfl, x, d, rfl, hd, isI d, rfl, ?_⟩
    cases hd with
    | int z => exact iteT ⟨_, rfl, _, _, rfl, rfl, k⟩
    | _ => exact iteF k
end
end Y
set_option Elab.async false
set_option linter.all false
set_option maxRecDepth 100000
set_option maxHeartbeats 4000000
namespace Y
open PySem L2
abbrev sUnlike : Stmt := top 5
abbrev sCTies : Stmt := top 16
abbrev sCRings : Stmt := top 17
abbrev sYInit : Stmt := inClass (top 15) 0
/-! ### unlike places -/
def spUnlike (K : PySem.W.Frag) : Sp := fun vs H Q _ => ∃ (n : Nat) (y : V) (r : List Int), vs = [.int (n : Int), y] ∧ RowAt K H y r ∧ (∀ z ∈ r, 0 ≤ z ∧ z < n) ∧ r.Nodup ∧ r.length < 64 ∧ ∀ H', Same H H' → Q (.bl true) H'
structure TUn (K : PySem.W.Frag) (mg : Str → Option Value) (fInt fRow fUn fCnt : Addr) : Prop where
  i : TI0 mg
  len : mg "len" = none
  all : mg "all" = none
  set : mg "set" = none
  sorted : mg "sorted" = none
  enum : mg "enumerate" = none
  gInt : mg "is_integer" = some (.ref fInt)
  gRow : mg "is_row" = some (.ref fRow)
  gUn : mg "are_unlike_numbers" = some (.ref fUn)
  gCnt : mg "is_count" = some (.ref fCnt)
section
variable {P : Program} {w : World} {K : PySem.W.Frag} {mg : Str → Option Value} {base : Heap} {fInt fRow fUn fCnt : Addr}
theorem scUnlike : FnScope ["many", "value", "number"] ["many", "value"] (defScope sUnlike) := ⟨rfl, rfl, rfl, by decide +kernel, rfl, by decide +kernel, by decide +kernel⟩
theorem ok_unlike {f : Addr} {fd fdI fdR fdC : FuncData} (F : Fun K "are_unlike_numbers" "are_unlike_numbers" sUnlike f fd) (T : TUn K mg fInt fRow fUn fCnt) (FI : Fun K "is_integer" "is_integer" sIsInt fInt fdI) (bI : Binds K fdI ["value"] []) (FR : Fun K "is_row" "is_row" sIsRow fRow fdR) (bR : Binds K fdR ["value"] [])
    (FC : Fun K "is_count" "is_count" sIsCount fCnt fdC) (bC : Binds K fdC ["value"] []) : FnOk P w K mg base CX0 3 f fd ["many", "value"] (spUnlike K) := by
  have GC : FnOk P w K mg base CX0 2 fCnt fdC ["value"] (spIsCountD K) := ok_isCountD FC T.i T.gInt FI bI
  have GR : FnOk P w K mg base CX0 2 fRow fdR ["value"] (spIsRow K) := (ok_isRow FR T.i).mono (by decide)
  refine F.ok scUnlike (fun vs H Q E h => ?_) (fun cdv A outer s H vs Q E hr h => ?_)
  · obtain ⟨n, y, r, rfl, _⟩ := h
    rfl
  · obtain ⟨n, y, r, rfl, ⟨b, rfl, hb⟩, rb, rn, r64, k⟩ := h
    refine ⟨_, pss_cons (ps_if (PW.pt (pw_or (pt_not (pt_val (pe_call GR hr (by rfl) T.gRow FR.kp bR .nil pass0 (pa_cons (pv 1) pa_nil)))) (pw_or1 (pt_not (pt_val (pe_callB (cr_all rfl) (by rfl) T.all (by decide +kernel) (pa_cons (pe_lc (own := [("number", 2)]) (g := gName 2) (tt := tYes) rfl scUnlike.nd (pi_seqV (pv 1)) (blkOk_by (N := ["many", "value", "number"]) (sc := defScope sUnlike) (by decide +kernel))
          (fun _ _ _ _ _ => pg_name (i := 2) scUnlike.nd rfl (Or.inl rfl)) (fun _ _ _ _ _ => pts_nil) (fun _ _ _ _ _ => pe_and (pe_call GC hr (by rfl) T.gCnt FC.kp bC .nil pass0 (pa_cons (pv 2) pa_nil)) (pe_one (pe_cmpR op_lt (pv 2) (pv 0) (nomark _))))) pa_nil)))))) ) (pss_one (ps_ret pe_bl)) pss_nil)
      (pss_one (ps_ret (pe_cmpR op_eq (pe_lenSet2 rfl (by rfl) T.len (by rfl) T.set (pv 1)) (pe_callB call_len_seq (by rfl) T.len PySem.boot_len (pa_cons (pv 1) pa_nil)) (nomark _)))), ?_⟩
    refine ⟨_, rfl, _, rfl, hb.imp (TyX.same (H' := H)) ty_tup, fun H1 s1 => ⟨_, rfl, iteF ?_⟩⟩
    refine ⟨b, r.map V.int, H, rfl, hb, .of_same s1, fun J G w1 hG D hD => ?_⟩
    refine lcp_it (f := fun _ => V.bl true) (H1 := H1) w1 hD (by rw [List.length_map]; omega) (fun H' s' => hG H' ((Kp.of_same s1).trans s')) (fun i x0 H2 R hx s2 hR => ?_) ?_
    · obtain ⟨z, ez, rfl⟩ := ints_at hx
      obtain ⟨z0, z1⟩ := rb z (List.mem_of_getElem? ez)
      refine ⟨rfl, _, rfl, _, _, rfl, Dq.int z, true, by show V.bl (decide (0 ≤ z)) = _; rw [decide_eq_true z0], iteT ?_⟩
      refine ⟨_, rfl, _, rfl, _, _, rfl, rfl, ?_⟩
      show R (V.bl (decide (z < (n : Int)))) H2
      rw [decide_eq_true z1]
      exact hR
    · have s2 := s1.trans (Same.new (o := .lst ((r.map V.int).map fun _ => V.bl true)) hD)
      refine ⟨D, r.map fun _ => true, rfl, ?_, ?_⟩
      · rw [List.map_map, List.map_map] at *
        exact SqL.of upd_same
      have allT : (r.map fun _ => true).all id = true := by
        rw [List.all_map, List.all_eq_true]
        intro x _
        rfl
      rw [allT]
      refine ⟨_, rfl, iteF ?_⟩
      refine ⟨_, rfl, b, r, rfl, Same.seqA s2 hb, r64, rn, _, rfl, b, _, rfl, Same.seqA s2 hb, rfl, ?_⟩
      rw [List.length_map, decide_eq_true rfl]
      exact k _ s2
end
end Y
set_option linter.all false
set_option maxRecDepth 100000
set_option maxHeartbeats 1000000
namespace Y
open PySem L2
/-! ### the mathematics of turns -/
/-- the place of the ring's i-th, as an index -/
def pl (r : List Int) (i : Nat) : Nat := (r.getD i 0).toNat
theorem pl_inj {n : Nat} {r : List Int} (ok : RingOk n r) {i j : Nat} (hi : i < r.length) (hj : j < r.length) (h : pl r i = pl r j) : i = j := by
  obtain ⟨nd, rb, _, _⟩ := ok
  have h1 := rb _ (getD_mem hi)
  have h2 := rb _ (getD_mem hj)
  have e : r.getD i 0 = r.getD j 0 := by unfold pl at h; omega
  rw [List.getD_eq_getElem?_getD, List.getD_eq_getElem?_getD, List.getElem?_eq_getElem hi, List.getElem?_eq_getElem hj] at e
  have e' : r[i] = r[j] := e
  exact (List.getElem_inj nd).mp e'
theorem pl_lt {n : Nat} {r : List Int} (ok : RingOk n r) {i : Nat} (hi : i < r.length) : pl r i < n := by
  have h1 := ok.2.1 _ (getD_mem hi)
  unfold pl
  omega
theorem getD_set_eq {l : List Int} {i : Nat} {v : Int} (h : i < l.length) : (l.set i v).getD i 0 = v := by
  rw [List.getD_eq_getElem?_getD, List.getElem?_set_self h]
  rfl
theorem getD_set_ne {l : List Int} {i j : Nat} {v : Int} (h : i ≠ j) : (l.set i v).getD j 0 = l.getD j 0 := by
  rw [List.getD_eq_getElem?_getD, List.getD_eq_getElem?_getD, List.getElem?_set_ne h]
theorem mod_ne {n i j : Nat} (hi : i < n) (hj : j < n) (h : i ≠ j) : (i + 1) % n ≠ (j + 1) % n := by
  have e : ∀ k, k < n → (k + 1) % n = if k + 1 = n then 0 else k + 1 := fun k hk => by
    by_cases c : k + 1 = n
    · rw [if_pos c, c, Nat.mod_self]
    · rw [if_neg c, Nat.mod_eq_of_lt (by omega)]
  rw [e i hi, e j hj]
  split <;> split <;> omega
theorem turnTo_at {n : Nat} {r st : List Int} (ok : RingOk n r) (hs : st.length = n) : ∀ m, m ≤ r.length → (∀ j, j < m → (turnTo r st m).getD (pl r ((j + 1) % r.length)) 0 = st.getD (pl r j) 0) ∧
    (∀ p, (∀ j, j < m → pl r ((j + 1) % r.length) ≠ p) → (turnTo r st m).getD p 0 = st.getD p 0)
  | 0, _ => ⟨fun j h => absurd h (Nat.not_lt_zero _), fun p _ => rfl⟩
  | m + 1, hm => by
    obtain ⟨h1, h2⟩ := turnTo_at ok hs m (by omega)
    have hpos : 0 < r.length := by omega
    have hmod : ∀ j, (j + 1) % r.length < r.length := fun j => Nat.mod_lt _ hpos
    have e : turnTo r st (m + 1) = (turnTo r st m).set (pl r ((m + 1) % r.length)) (st.getD (pl r m) 0) := turnTo_succ r st m
    rw [e]
    refine ⟨fun j hj => ?_, fun p hp => ?_⟩
    · by_cases c : j = m
      · subst c
        exact getD_set_eq (by rw [turnTo_len, hs]; exact pl_lt ok (hmod j))
      · rw [getD_set_ne (fun z => mod_ne (by omega) (by omega) (Ne.symm c) (pl_inj ok (hmod m) (hmod j) z))]
        exact h1 j (by omega)
    · rw [getD_set_ne (hp m (by omega))]
      exact h2 p fun j hj => hp j (by omega)
/-- one turn: at the ring's i-th stands what stood at the one ahead of it -/
def turn1 (r st : List Int) : List Int := turnTo r st r.length
theorem turn1_len {r st : List Int} : (turn1 r st).length = st.length := turnTo_len _ _ _
theorem turn1_ring {n : Nat} {r st : List Int} (ok : RingOk n r) (hs : st.length = n) {i : Nat} (hi : i < r.length) : (turn1 r st).getD (pl r i) 0 = st.getD (pl r ((i + (r.length - 1)) % r.length)) 0 := by
  have h3 := ok.2.2.1
  by_cases c : i = 0
  · subst c
    have := (turnTo_at ok hs r.length (Nat.le_refl _)).1 (r.length - 1) (by omega)
    rw [show r.length - 1 + 1 = r.length by omega, Nat.mod_self] at this
    rw [Nat.zero_add, Nat.mod_eq_of_lt (by omega)]
    exact this
  · have := (turnTo_at ok hs r.length (Nat.le_refl _)).1 (i - 1) (by omega)
    rw [show i - 1 + 1 = i by omega, Nat.mod_eq_of_lt hi] at this
    have e : (i + (r.length - 1)) % r.length = i - 1 := by
      rw [show i + (r.length - 1) = (i - 1) + r.length by omega, Nat.add_mod_right, Nat.mod_eq_of_lt (by omega)]
    rw [e]
    exact this
theorem turn1_off {n : Nat} {r st : List Int} (ok : RingOk n r) (hs : st.length = n) {p : Nat} (hp : ∀ i, i < r.length → pl r i ≠ p) : (turn1 r st).getD p 0 = st.getD p 0 :=
  (turnTo_at ok hs r.length (Nat.le_refl _)).2 p fun j hj => hp _ (Nat.mod_lt _ (by have := ok.2.2.1; omega))
def turnN (r : List Int) : Nat → List Int → List Int
  | 0, st => st
  | m + 1, st => turnN r m (turn1 r st)
theorem turnN_len {r : List Int} : ∀ {m : Nat} {st : List Int}, (turnN r m st).length = st.length
  | 0, _ => rfl
  | m + 1, st => by show (turnN r m (turn1 r st)).length = _; rw [turnN_len, turn1_len]
theorem turnN_ring {n : Nat} {r : List Int} (ok : RingOk n r) : ∀ {m : Nat} {st : List Int}, st.length = n → ∀ {i : Nat}, i < r.length → (turnN r m st).getD (pl r i) 0 = st.getD (pl r ((i + m * (r.length - 1)) % r.length)) 0
  | 0, st, _, i, hi => by rw [Nat.zero_mul, Nat.add_zero, Nat.mod_eq_of_lt hi]; rfl
  | m + 1, st, hs, i, hi => by
    have hpos : 0 < r.length := by omega
    show (turnN r m (turn1 r st)).getD (pl r i) 0 = _
    rw [turnN_ring ok (by rw [turn1_len, hs]) hi, turn1_ring ok hs (Nat.mod_lt _ hpos), Nat.mod_add_mod]
    congr 3
    rw [Nat.succ_mul]
    omega
theorem turnN_off {n : Nat} {r : List Int} (ok : RingOk n r) : ∀ {m : Nat} {st : List Int}, st.length = n → ∀ {p : Nat}, (∀ i, i < r.length → pl r i ≠ p) → (turnN r m st).getD p 0 = st.getD p 0
  | 0, _, _, _, _ => rfl
  | m + 1, st, hs, p, hp => by
    show (turnN r m (turn1 r st)).getD p 0 = _
    rw [turnN_off ok (by rw [turn1_len, hs]) hp, turn1_off ok hs hp]
/-- turned as often as the ring is long, all stands as it stood -/
theorem turnN_all {n : Nat} {r st : List Int} (ok : RingOk n r) (hs : st.length = n) : turnN r r.length st = st := by
  refine List.ext_getElem? fun p => ?_
  by_cases hp : p < st.length
  · have hp' : p < (turnN r r.length st).length := by rw [turnN_len]; exact hp
    have g : (turnN r r.length st).getD p 0 = st.getD p 0 := by
      by_cases c : ∃ i, i < r.length ∧ pl r i = p
      · obtain ⟨i, hi, rfl⟩ := c
        rw [turnN_ring ok hs hi, Nat.add_mul_mod_self_left, Nat.mod_eq_of_lt hi]
      · exact turnN_off ok hs fun i hi z => c ⟨i, hi, z⟩
    rw [List.getD_eq_getElem?_getD, List.getD_eq_getElem?_getD, List.getElem?_eq_getElem hp', List.getElem?_eq_getElem hp] at g
    rw [List.getElem?_eq_getElem hp', List.getElem?_eq_getElem hp]
    exact congrArg some g
  · rw [List.getElem?_eq_none (by rw [turnN_len]; omega), List.getElem?_eq_none (by omega)]
end Y
set_option linter.all false
set_option maxRecDepth 100000
set_option maxHeartbeats 1000000
namespace Y
open PySem L2
/-! ### what is taken back stands as it stood -/
theorem play_app {rs : List (List Int)} : ∀ {l l2 : List Mv} {st : List Int}, playMvs rs st (l ++ l2) = playMvs rs (playMvs rs st l) l2
  | [], _, _ => rfl
  | a :: l, l2, st => play_app (l := l) (l2 := l2) (st := stepMv rs st a)
theorem can_app {n : Nat} {ts : List (Int × Int)} {rs : List (List Int)} : ∀ {l l2 : List Mv} {st : List Int}, CanAll n ts rs st l → CanAll n ts rs (playMvs rs st l) l2 → CanAll n ts rs st (l ++ l2)
  | [], _, _, _, h => h
  | a :: l, l2, st, h, g => ⟨h.1, can_app (l := l) h.2 g⟩
theorem can_split {n : Nat} {ts : List (Int × Int)} {rs : List (List Int)} {m : Mv} : ∀ {l : List Mv} {st : List Int}, CanAll n ts rs st (l ++ [m]) → CanAll n ts rs st l ∧ CanMv n ts rs (playMvs rs st l) m
  | [], st, h => ⟨trivial, h.1⟩
  | a :: l, st, h => ⟨⟨h.1, (can_split (l := l) h.2).1⟩, (can_split (l := l) h.2).2⟩
theorem play_turns {rs : List (List Int)} {k : Int} : ∀ {m : Nat} {st : List Int}, playMvs rs st (List.replicate m (.turn k)) = turnN (rs.getD k.toNat []) m st
  | 0, _ => rfl
  | m + 1, st => play_turns (m := m) (st := stepMv rs st (.turn k))
theorem can_turns {n : Nat} {ts : List (Int × Int)} {rs : List (List Int)} {k : Int} (h : 0 ≤ k ∧ k < rs.length) : ∀ {m : Nat} {st : List Int}, CanAll n ts rs st (List.replicate m (.turn k))
  | 0, _ => trivial
  | m + 1, _ => ⟨h, can_turns h⟩
theorem back_one {n : Nat} {ts : List (Int × Int)} {rs : List (List Int)} {st : List Int} {m : Mv} {x : List Mv} (tok : ∀ t ∈ ts, TieOk n t) (rok : ∀ r ∈ rs, RingOk n r) (hs : st.length = n) (c : CanMv n ts rs st m) (h : backOne ts rs m = some x) :
    CanAll n ts rs (stepMv rs st m) x ∧ playMvs rs (stepMv rs st m) x = st := by
  cases m with
  | turn k =>
    obtain ⟨k0, k1⟩ := c
    have hk : k.toNat < rs.length := by omega
    have e : rs.getD k.toNat [] = rs[k.toNat] := by rw [List.getD_eq_getElem?_getD, List.getElem?_eq_getElem hk]; rfl
    have ok : RingOk n (rs.getD k.toNat []) := by rw [e]; exact rok _ (List.getElem_mem hk)
    cases Option.some.inj h
    refine ⟨can_turns ⟨k0, k1⟩, ?_⟩
    rw [play_turns]
    have h3 := ok.2.2.1
    have all := turnN_all ok hs
    unfold ringLen
    generalize hr : rs.getD k.toNat [] = r at *
    have : r.length = (r.length - 1) + 1 := by omega
    rw [this] at all
    show turnN r (r.length - 1) (turnTo (rs.getD k.toNat []) st (rs.getD k.toNat []).length) = st
    rw [hr]
    exact all
  | slide a b =>
    obtain ⟨hin, ⟨a0, a1, b0, b1, ab⟩, ga, gb⟩ := c
    have h' : (if (b, a) ∈ ts then some [Mv.slide b a] else none) = some x := h
    by_cases hba : (b, a) ∈ ts
    · rw [if_pos hba] at h'
      cases Option.some.inj h'
      have na : a.toNat ≠ b.toNat := by
        intro z
        exact ab (by show a = b; have : (0 : Int) ≤ a := a0; have : (0 : Int) ≤ b := b0; omega)
      have la : a.toNat < st.length := by have : a < n := a1; have : (0 : Int) ≤ a := a0; omega
      have lb : b.toNat < st.length := by have : b < n := b1; have : (0 : Int) ≤ b := b0; omega
      have e1 : gAt (stepMv rs st (.slide a b)) b = gAt st a := getD_set_eq (by rw [List.length_set]; exact lb)
      have e2 : gAt (stepMv rs st (.slide a b)) a = 0 := by
        show ((st.set a.toNat 0).set b.toNat (gAt st a)).getD a.toNat 0 = 0
        rw [getD_set_ne (Ne.symm na), getD_set_eq la]
      refine ⟨⟨⟨hba, tok _ hba, by rw [e1]; exact ga, e2⟩, trivial⟩, ?_⟩
      show ((stepMv rs st (.slide a b)).set b.toNat 0).set a.toNat (gAt (stepMv rs st (.slide a b)) b) = st
      rw [e1]
      show ((((st.set a.toNat 0).set b.toNat (gAt st a)).set b.toNat 0).set a.toNat (gAt st a)) = st
      refine List.ext_getElem? fun p => ?_
      by_cases pa : a.toNat = p
      · subst pa
        rw [List.getElem?_set_self (by simp only [List.length_set]; exact la), List.getElem?_eq_getElem la]
        unfold gAt
        rw [List.getD_eq_getElem?_getD, List.getElem?_eq_getElem la]
        rfl
      · rw [List.getElem?_set_ne pa]
        by_cases pb : b.toNat = p
        · subst pb
          rw [List.getElem?_set_self (by simp only [List.length_set]; exact lb), List.getElem?_eq_getElem lb]
          unfold gAt at gb
          rw [List.getD_eq_getElem?_getD, List.getElem?_eq_getElem lb] at gb
          exact congrArg some gb.symm
        · rw [List.getElem?_set_ne pb, List.getElem?_set_ne pb, List.getElem?_set_ne pa]
    · rw [if_neg hba] at h'
      cases h'
theorem back_all {n : Nat} {ts : List (Int × Int)} {rs : List (List Int)} {st : List Int} (tok : ∀ t ∈ ts, TieOk n t) (rok : ∀ r ∈ rs, RingOk n r) (hs : st.length = n) : ∀ (l : List Mv) (bs : List Mv), CanAll n ts rs st l.reverse → backs ts rs l = some bs →
    CanAll n ts rs (playMvs rs st l.reverse) bs ∧ playMvs rs (playMvs rs st l.reverse) bs = st
  | [], bs, _, h => by
    cases Option.some.inj h
    exact ⟨trivial, rfl⟩
  | m :: l, bs, c, h => by
    rw [List.reverse_cons] at c ⊢
    obtain ⟨c1, c2⟩ := can_split c
    have h' : ((backOne ts rs m).bind fun x => (backs ts rs l).map (x ++ ·)) = some bs := h
    cases h1 : backOne ts rs m with
    | none => rw [h1] at h'; cases h'
    | some x =>
      rw [h1] at h'
      cases h2 : backs ts rs l with
      | none => rw [h2] at h'; cases h'
      | some y =>
        rw [h2] at h'
        cases Option.some.inj h'
        obtain ⟨i1, i2⟩ := back_all tok rok hs l y c1 h2
        obtain ⟨b1, b2⟩ := back_one tok rok (by rw [play_len, hs]) c2 h1
        rw [play_snoc]
        refine ⟨can_app b1 (by rw [b2]; exact i1), ?_⟩
        rw [play_app, b2]
        exact i2
end Y
set_option Elab.async false
set_option linter.all false
set_option maxRecDepth 100000
set_option maxHeartbeats 4000000
namespace Y
open PySem L2
abbrev sIsMove : Stmt := top 20
/-- what the yard's class must keep -/
structure YCls (K : PySem.W.Frag) (C : Addr) : Prop where
  c : Cls K C
  p : NoAttr K C "places"
  t : NoAttr K C "ties"
  r : NoAttr K C "rings"
/-- at x: a yard made of n places, ties ts, rings rs -/
def YObj (K : PySem.W.Frag) (H : Hp) (x : Addr) (n : Nat) (ts : List (Int × Int)) (rs : List (List Int)) : Prop := ∃ (C dx a e : Addr) (fs : List (Str × V)) (ys zs : List V), H x = some (.ins C dx fs) ∧ YCls K C ∧ fs.lookup ("places" : Str) = some (.int (n : Int)) ∧ fs.lookup ("ties" : Str) = some (.ref a) ∧ fs.lookup ("rings" : Str) = some (.ref e) ∧
  SqT K H a ys ∧ Paired (TieAt K H) ys ts ∧ SqT K H e zs ∧ Paired (RingAt K H) zs rs
theorem YObj.kp {K : PySem.W.Frag} {H H' : Hp} {x : Addr} {n : Nat} {ts : List (Int × Int)} {rs : List (List Int)} (h : YObj K H x n ts rs) (s : Kp H H') : YObj K H' x n ts rs := by
  obtain ⟨C, dx, a, e, fs, ys, zs, h1, h2, h3, h4, h5, h6, h7, h8, h9⟩ := h
  exact ⟨C, dx, a, e, fs, ys, zs, s _ _ h1 (by intro _ z; cases z), h2, h3, h4, h5, s.seqT h6, ties_kp h7 s, s.seqT h8, rings_kp h9 s⟩
/-- the same, the class told -/
def YObjC (K : PySem.W.Frag) (H : Hp) (C x : Addr) (n : Nat) (ts : List (Int × Int)) (rs : List (List Int)) : Prop := ∃ (dx a e : Addr) (fs : List (Str × V)) (ys zs : List V), H x = some (.ins C dx fs) ∧ YCls K C ∧ fs.lookup ("places" : Str) = some (.int (n : Int)) ∧ fs.lookup ("ties" : Str) = some (.ref a) ∧ fs.lookup ("rings" : Str) = some (.ref e) ∧
  SqT K H a ys ∧ Paired (TieAt K H) ys ts ∧ SqT K H e zs ∧ Paired (RingAt K H) zs rs
theorem YObjC.y {K : PySem.W.Frag} {H : Hp} {C x : Addr} {n : Nat} {ts : List (Int × Int)} {rs : List (List Int)} (h : YObjC K H C x n ts rs) : YObj K H x n ts rs := by
  obtain ⟨dx, a, e, fs, ys, zs, h⟩ := h
  exact ⟨C, dx, a, e, fs, ys, zs, h⟩
theorem YObjC.kp {K : PySem.W.Frag} {H H' : Hp} {C x : Addr} {n : Nat} {ts : List (Int × Int)} {rs : List (List Int)} (h : YObjC K H C x n ts rs) (s : Kp H H') : YObjC K H' C x n ts rs := by
  obtain ⟨dx, a, e, fs, ys, zs, h1, h2, h3, h4, h5, h6, h7, h8, h9⟩ := h
  exact ⟨dx, a, e, fs, ys, zs, s _ _ h1 (by intro _ z; cases z), h2, h3, h4, h5, s.seqT h6, ties_kp h7 s, s.seqT h8, rings_kp h9 s⟩
/-- a move of this yard -/
def MvIn (ts : List (Int × Int)) (rs : List (List Int)) : Mv → Prop
  | .slide a b => (a, b) ∈ ts
  | .turn k => 0 ≤ k ∧ k < rs.length
def spIsMove (K : PySem.W.Frag) : Sp := fun vs H Q _ => ∃ (x : Addr) (y : V) (n : Nat) (ts : List (Int × Int)) (rs : List (List Int)) (m : Mv), vs = [.ref x, y] ∧ YObj K H x n ts rs ∧ MvAt K H y m ∧ MvIn ts rs m ∧ ∀ H', Same H H' → Q (.bl true) H'
structure TN (K : PySem.W.Frag) (mg : Str → Option Value) (fInt : Addr) : Prop where
  i : TI0 mg
  str : mg "str" = none
  len : mg "len" = none
  all : mg "all" = none
  gInt : mg "is_integer" = some (.ref fInt)
section
variable {P : Program} {w : World} {K : PySem.W.Frag} {mg : Str → Option Value} {base : Heap} {fInt : Addr}
theorem scIsMove : FnScope ["yard", "value", "number"] ["yard", "value"] (defScope sIsMove) := ⟨rfl, rfl, rfl, by decide +kernel, rfl, by decide +kernel, by decide +kernel⟩
theorem ok_isMove {f : Addr} {fd fdI : FuncData} (F : Fun K "is_move" "is_move" sIsMove f fd) (T : TN K mg fInt) (FI : Fun K "is_integer" "is_integer" sIsInt fInt fdI) (bI : Binds K fdI ["value"] []) : FnOk P w K mg base CX0 2 f fd ["yard", "value"] (spIsMove K) := by
  have GI : FnOk P w K mg base CX0 1 fInt fdI ["value"] spIsInt := ok_isInt FI T.i
  refine F.ok scIsMove (fun vs H Q E h => ?_) (fun cdv A outer s H vs Q E hr h => ?_)
  · obtain ⟨x, y, n, ts, rs, m, rfl, _⟩ := h
    rfl
  · obtain ⟨x, y, n, ts, rs, m, rfl, hy, ⟨b, rfl, hm⟩, hin, k⟩ := h
    have hu := hr.units
    refine ⟨_, pss_cons (ps_if (PW.pt (pw_or (pt_not (pt_val (pe_callB call_isi (by rfl) T.i.isi (by decide +kernel) (pa_cons (pv 1) (pa_cons (pbT (n := "tuple") T.i.tuple (by decide +kernel)) pa_nil)))))
        (pw_or (pt_cmpR op_lt (pe_callB call_len_seq (by rfl) T.len PySem.boot_len (pa_cons (pv 1) pa_nil)) pe_int (nomark _)) (pw_or1 (pt_not (pt_val (pe_callB call_isi (by rfl) T.i.isi (by decide +kernel) (pa_cons (pe_ix ix_tup (pv 1) pe_int (fun _ _ => rfl)) (pa_cons (pbT (n := "str") T.str (by decide +kernel)) pa_nil))))))))) (pss_one (ps_ret pe_bl)) pss_nil)
      (pss_cons (ps_if (pt_not (pt_val (pe_callB (cr_all rfl) (by rfl) T.all (by decide +kernel) (pa_cons (pe_lc (own := [("number", 2)]) (g := gName 2) (tt := tYes) rfl scIsMove.nd (pi_tup (pe_slice sl_tup (pv 1) (po_some pe_int) po_none)) (blkOk_by (N := ["yard", "value", "number"]) (sc := defScope sIsMove) (by decide +kernel))
          (fun _ _ _ _ _ => pg_name (i := 2) scIsMove.nd rfl (Or.inl rfl)) (fun _ _ _ _ _ => pts_nil) (fun _ _ _ _ _ => pe_call GI hr (by rfl) T.gInt FI.kp bI .nil pass0 (pa_cons (pv 2) pa_nil))) pa_nil)))) (pss_one (ps_ret pe_bl)) pss_nil)
      (pss_cons (ps_if (pt_cmpR op_eq (pe_ix ix_tup (pv 1) pe_int (fun _ _ => rfl)) pe_str (nomark _)) (pss_one (ps_ret (pe_cmpR (op_tieIn hu) (pe_slice sl_tup (pv 1) (po_some pe_int) po_none) (pe_fld (pv 0) rfl) (by rfl)))) pss_nil)
      (pss_one (ps_ret (pe_and (pe_cmpR op_eq (pe_ix ix_tup (pv 1) pe_int (fun _ _ => rfl)) pe_str (nomark _)) (pe_and (pe_cmpR op_eq (pe_callB call_len_seq (by rfl) T.len PySem.boot_len (pa_cons (pv 1) pa_nil)) pe_int (nomark _))
        (pe_one (pe_chain op_le op_lt pe_int (pe_ix ix_tup (pv 1) pe_int (fun _ _ => rfl)) (pe_callB call_len_seq (by rfl) T.len PySem.boot_len (pa_cons (pe_fld (pv 0) rfl) pa_nil)))))))))), ?_⟩
    obtain ⟨C, dx, a, e, fs, ys, zs, hx, yc, lp, lt, lr, ha, pa, he, pe⟩ := hy
    -- the numbers behind the word
    have nums : ∃ (wd : Str) (ns : List Int), m.vs = .str wd :: ns.map V.int ∧ 1 ≤ ns.length ∧ ns.length ≤ 2 := by
      cases m with
      | slide u v => exact ⟨_, [u, v], rfl, by simp, by simp⟩
      | turn u => exact ⟨_, [u], rfl, by simp, by simp⟩
    obtain ⟨wd, ns, em, l1, l2⟩ := nums
    have hm' := hm
    rw [em] at hm'
    refine ⟨_, rfl, _, _, _, _, true, rfl, ClsV.ty _, ty_tup hm', kit_ty (by decide +kernel), _, rfl, ?_⟩
    refine iteF ?_
    refine ⟨_, rfl, b, _, rfl, .inr hm', _, _, rfl, rfl, _, rfl, ?_⟩
    refine ifT (fun h => by
      have h' : (((V.str wd :: ns.map V.int).length : Nat) : Int) < 2 := of_decide_eq_true h
      rw [List.length_cons, List.length_map] at h'
      omega) (fun _ => ?_)
    refine ⟨_, rfl, b, _, 0, _, rfl, rfl, hm', atI_nat (j := 0) rfl, _, _, _, _, true, rfl, ClsV.ty _, .base (TyOf.str _), kit_ty (by decide +kernel), _, rfl, ?_⟩
    refine iteF ?_
    have cut1 : cutV (V.str wd :: ns.map V.int) (some 1) none = ns.map V.int := by
      unfold cutV
      have e1 : HT.sIx (V.str wd :: ns.map V.int).length 0 (some 1) = 1 := by
        rw [show (some (1 : Int)) = some ((1 : Nat) : Int) from rfl, HT.sIx_nat, List.length_cons]
        omega
      rw [e1, HT.sIx_none, List.drop_one, List.tail_cons]
      exact List.take_of_length_le (by rw [List.length_map, List.length_cons, List.length_map]; omega)
    have ncut : ¬ (HT.sIx (V.str wd :: ns.map V.int).length 0 (some 1) = 0 ∧ HT.sIx (V.str wd :: ns.map V.int).length (V.str wd :: ns.map V.int).length none = (V.str wd :: ns.map V.int).length) := by
      rintro ⟨h, _⟩
      rw [show (some (1 : Int)) = some ((1 : Nat) : Int) from rfl, HT.sIx_nat, List.length_cons] at h
      omega
    refine ⟨_, rfl, _, rfl, b, _, rfl, hm', ncut, fun p np => ?_⟩
    rw [cut1]
    have s1 := Same.new (o := .tup (ns.map V.int)) np
    refine ⟨p, rfl, ⟨_, SqT.of upd_same⟩, fun D hD => ?_⟩
    refine lcp_tup (f := fun _ => V.bl true) (xs := ns.map V.int) hD (by rw [List.length_map]; omega) (SqT.of upd_same) (fun H' s' => SqT.of (s' _ _ upd_same)) (fun i x0 H2 R hx2 s2 hR => ?_) ?_
    · obtain ⟨z, _, rfl⟩ := ints_at hx2
      exact ⟨rfl, _, rfl, z, rfl, hR⟩
    · have s2 := s1.trans (Same.new (o := .lst ((ns.map V.int).map fun _ => V.bl true)) hD)
      refine ⟨D, ns.map fun _ => true, rfl, ?_, ?_⟩
      · rw [List.map_map, List.map_map] at *
        exact SqL.of upd_same
      have allT : (ns.map fun _ => true).all id = true := by
        rw [List.all_map, List.all_eq_true]
        intro x _
        rfl
      rw [allT]
      refine ⟨_, rfl, ?_⟩
      refine iteF ?_
      have hm2 := Same.seqT s2 hm
      have hx2 := s2 _ _ hx
      cases m with
      | slide u v =>
        have hin' : (u, v) ∈ ts := hin
        refine ⟨_, rfl, b, _, 0, _, rfl, rfl, hm2, atI_nat (j := 0) rfl, rfl, _, rfl, ?_⟩
        refine iteT ?_
        refine ⟨_, rfl, _, rfl, b, _, rfl, hm2, (by
          rintro ⟨h, _⟩
          have h' : HT.sIx 3 0 (some ((1 : Nat) : Int)) = 0 := h
          rw [HT.sIx_nat] at h'
          omega), fun p2 np2 => ?_⟩
        have s3 := s2.trans (Same.new (o := .tup [.int u, .int v]) np2)
        refine ⟨_, rfl, x, C, dx, fs, _, rfl, s3 _ _ hx, yc.c, yc.t, lt, a, ys, ts, (u, v), rfl, Same.seqT s3 ha, ties_kp pa (.of_same s3), ⟨p2, rfl, SqT.of upd_same⟩, ?_⟩
        rw [if_neg (by decide), decide_eq_true hin']
        exact k _ s3
      | turn kk =>
        obtain ⟨k0, k1⟩ := hin
        have hz := Paired.length pe
        refine ⟨_, rfl, b, _, 0, _, rfl, rfl, hm2, atI_nat (j := 0) rfl, rfl, _, rfl, ?_⟩
        refine iteF ?_
        refine ⟨_, rfl, b, _, 0, _, rfl, rfl, hm2, atI_nat (j := 0) rfl, rfl, true, rfl, iteT ?_⟩
        refine ⟨_, rfl, b, _, rfl, .inr hm2, rfl, true, rfl, iteT ?_⟩
        refine ⟨_, rfl, b, _, 1, _, rfl, rfl, hm2, atI_nat (j := 1) rfl, ?_⟩
        refine ⟨_, _, rfl, rfl, _, rfl, ?_⟩
        rw [decide_eq_true k0]
        refine iteT ?_
        refine ⟨_, rfl, x, C, dx, fs, _, rfl, hx2, yc.c, yc.r, lr, e, zs, rfl, .inr (Same.seqT s2 he), _, _, rfl, rfl, ?_⟩
        show Q (V.bl (decide (kk < ((zs.length : Nat) : Int)))) _
        rw [decide_eq_true (show kk < ((zs.length : Nat) : Int) by rw [hz]; exact k1)]
        exact k _ s2
end
end Y
set_option Elab.async false
set_option linter.all false
set_option maxRecDepth 100000
set_option maxHeartbeats 4000000
namespace Y
open PySem L2
/-! ### the ties, checked -/
def row2 (t : Int × Int) : List Int := [t.1, t.2]
theorem row2_inj {t u : Int × Int} (h : row2 t = row2 u) : t = u := by
  injection h with h1 h2
  injection h2 with h2 _
  exact Prod.ext h1 h2
theorem seqT_offE {K : PySem.W.Frag} {H : Hp} {D b : Addr} {xs : List V} {o u : HO} (h : SqT K H b xs) (e : H D = some u) (n1 : ∀ ys, u ≠ .tup ys) (n2 : ∀ o ys, u ≠ .frz o (.tup ys)) : SqT K (upd H D o) b xs := by
  rcases h with (h | ⟨o', h⟩) | h
  · exact .inl (.inl (by rw [upd_ne (fun z => n1 xs (by rw [z, e] at h; exact Option.some.inj h))]; exact h))
  · exact .inl (.inr ⟨o', by rw [upd_ne (fun z => n2 o' xs (by rw [z, e] at h; exact Option.some.inj h))]; exact h⟩)
  · exact .inr h
theorem seqT_offS {K : PySem.W.Frag} {P : Program} {w : World} {H : Hp} {D b a : Addr} {xs : List V} {o : HO} {L : List (Addr × List Int)} (h : SqT K H b xs) (e : H D = some (SetTO P w a L)) : SqT K (upd H D o) b xs :=
  seqT_offE h e (fun ys z => by unfold SetTO at z; cases z) (fun o ys z => by unfold SetTO at z; cases z)
theorem ties_uniq {n : Nat} {A : List (List Int)} {ts : List (Int × Int)} (h64 : n ≤ 60) (p : A.Perm (ts.map row2)) (ok : TiesOk n ts) (pw : A.Pairwise fun a b => TS.code 64 a ≤ TS.code 64 b) : A = ts.map row2 := by
  refine List.Perm.eq_of_pairwise (le := fun a b => TS.code 64 a ≤ TS.code 64 b) (fun a b ha hb h1 h2 => ?_) pw ?_ p
  · obtain ⟨t, ht, rfl⟩ := List.mem_map.mp (p.mem_iff.mp ha)
    obtain ⟨u, hu, rfl⟩ := List.mem_map.mp hb
    obtain ⟨a0, a1, b0, b1, _⟩ := ok.2.1 t ht
    obtain ⟨c0, c1, d0, d1, _⟩ := ok.2.1 u hu
    have e1 : TS.code 64 (row2 t) = t.1 * 64 + t.2 := code_pair _ _
    have e2 : TS.code 64 (row2 u) = u.1 * 64 + u.2 := code_pair _ _
    rw [e1, e2] at h1 h2
    have f1 : t.1 = u.1 := by omega
    have f2 : t.2 = u.2 := by omega
    rw [Prod.ext f1 f2]
  · rw [List.pairwise_map]
    exact ok.2.2
theorem ties_of {K : PySem.W.Frag} {H : Hp} : ∀ {L : List (Addr × List Int)} {ts : List (Int × Int)}, L.map (·.2) = ts.map row2 → (∀ p ∈ L, SqT K H p.1 (p.2.map V.int)) → Paired (TieAt K H) (L.map fun q => V.ref q.1) ts
  | [], [], _, _ => .nil
  | [], _ :: _, e, _ => by cases e
  | _ :: _, [], e, _ => by cases e
  | p :: L, t :: ts, e, h => by
    injection e with e1 e2
    refine .cons ⟨p.1, rfl, ?_⟩ (ties_of e2 fun q hq => h q (List.mem_cons_of_mem _ hq))
    have := h p List.mem_cons_self
    rw [show p.2 = row2 t from e1] at this
    exact this
theorem row2_ok {n : Nat} {t : Int × Int} (h : TieOk n t) : (∀ z ∈ row2 t, 0 ≤ z ∧ z < n) ∧ (row2 t).Nodup := by
  obtain ⟨a0, a1, b0, b1, ne⟩ := h
  refine ⟨fun z hz => ?_, ?_⟩
  · rcases List.mem_cons.mp hz with rfl | hz
    · exact ⟨a0, a1⟩
    · rw [List.mem_singleton.mp hz]; exact ⟨b0, b1⟩
  · show [t.1, t.2].Nodup
    simp [ne]
def spCTies (K : PySem.W.Frag) : Sp := fun vs H Q _ => ∃ (n : Nat) (z : Addr) (zs : List V) (ps ts : List (Int × Int)), vs = [.int (n : Int), .ref z] ∧ SqA K H z zs ∧ Paired (RowAt K H) zs (ps.map row2) ∧ ps.Perm ts ∧ TiesOk n ts ∧ n ≤ 60 ∧ ts.length ≤ 60 ∧
  ∀ t ys H', H' t = some (.tup ys) → Paired (TieAt K H') ys ts → Same H H' → Q (.ref t) H'
section
variable {P : Program} {w : World} {K : PySem.W.Frag} {mg : Str → Option Value} {base : Heap} {fInt fRow fUn fCnt : Addr}
theorem scCTies : FnScope ["places", "ties", "seen", "tie"] ["places", "ties"] (defScope sCTies) := ⟨rfl, rfl, rfl, by decide +kernel, rfl, by decide +kernel, by decide +kernel⟩
theorem ok_cties {f : Addr} {fd fdR fdU : FuncData} (F : Fun K "checked_ties" "checked_ties" sCTies f fd) (T : TUn K mg fInt fRow fUn fCnt) (FR : Fun K "is_row" "is_row" sIsRow fRow fdR) (bR : Binds K fdR ["value"] [])
    (GU : FnOk P w K mg base CX0 3 fUn fdU ["many", "value"] (spUnlike K)) (FU : Fun K "are_unlike_numbers" "are_unlike_numbers" sUnlike fUn fdU) (bU : Binds K fdU ["many", "value"] []) :
    FnOk P w K mg base CX0 4 f fd ["places", "ties"] (spCTies K) := by
  have GR : FnOk P w K mg base CX0 1 fRow fdR ["value"] (spIsRow K) := ok_isRow FR T.i
  refine F.ok scCTies (fun vs H Q E h => ?_) (fun cdv A outer s H vs Q E hr h => ?_)
  · obtain ⟨n, z, zs, ps, ts, rfl, _⟩ := h
    rfl
  · obtain ⟨n, z, zs, ps, ts, rfl, hz, pz, pm, ok, n60, t60, k⟩ := h
    have hu := hr.units
    have hr1 : Room 1 _ := hr.mono (by decide)
    refine ⟨_, pss_cons (ps_if (pt_not (pt_val (pe_call GR hr1 (by rfl) T.gRow FR.kp bR .nil pass0 (pa_cons (pv 1) pa_nil)))) (pss_one ps_never) pss_nil)
      (pss_cons (ps_set (i := 2) scCTies.nd rfl (Or.inl rfl) (pe_callTy0 cr_set0T (by rfl) T.set (by decide +kernel)))
      (pss_cons (ps_for PassesOwn.never rfl (pi_seqV (pv 1)) (pg_name (i := 3) scCTies.nd rfl (Or.inl rfl))
        (pss_cons (ps_if (PW.pt (pw_or (pt_not (pt_val (pe_call GU hr (by rfl) T.gUn FU.kp bU .nil pass0 (pa_cons (pv 0) (pa_cons (pv 3) pa_nil))))) (pw_or (pt_cmpR op_ne (pe_callB call_len_seq (by rfl) T.len PySem.boot_len (pa_cons (pv 3) pa_nil)) pe_int (nomark _))
            (pw_or1 (pt_cmpR (op_inSetT hu) (pe_callTy call_tuple_any (by rfl) T.i.tuple (by decide +kernel) (pa_cons (pv 3) pa_nil)) (pv 2) (by rfl)))))) (pss_one ps_never) pss_nil)
        (pss_one (ps_expr (pe_saddT hu (pv 2) (pa_cons (pe_callTy call_tuple_any (by rfl) T.i.tuple (by decide +kernel) (pa_cons (pv 3) pa_nil)) pa_nil))))))
      (pss_one (ps_ret (pe_callTy call_tuple_of (by rfl) T.i.tuple (by decide +kernel) (pa_cons (pe_callB (cr_sortedT rfl) (by rfl) T.sorted (by decide +kernel) (pa_cons (pv 2) pa_nil)) pa_nil)))))), ?_⟩
    refine ⟨_, rfl, _, rfl, hz.imp (TyX.same (H' := H)) ty_tup, fun H1 s1 => ⟨_, rfl, iteF ?_⟩⟩
    refine ⟨rfl, fun sn nsn => ?_⟩
    have nsH : H sn = none := s1.free nsn
    have S0 : Same H (upd H1 sn (SetTO P w sn [])) := s1.trans (Same.new nsn)
    have hlen : zs.length = ps.length := by rw [Paired.length pz, List.length_map]
    have pl := pm.length_eq
    have nd : (ps.map row2).Nodup := by
      refine List.Pairwise.map _ (fun a b (h : a ≠ b) e => h (row2_inj e)) ?_
      exact (pm.nodup_iff).mpr ok.1
    refine ⟨z, zs, H, rfl, hz, .of_same S0, fun J G w1 hG => ?_⟩
    refine for_it w1 (fun i σ H' => ∃ (v : Option V) (L : List (Addr × List Int)), σ = [some (.int (n : Int)), some (.ref z), some (.ref sn), v] ∧ H' sn = some (SetTO P w sn L) ∧ (L.map (·.2)).Perm ((ps.map row2).take i) ∧ (∀ p ∈ L, SqT K H' p.1 (p.2.map V.int)) ∧ Same H H')
      ⟨none, [], rfl, upd_same, .refl _, (fun p hp => by cases hp), S0⟩ (fun i σ H' _ ⟨_, _, _, _, _, _, s⟩ => hG H' (.of_same s)) ?_ ?_
    · rintro i x σ H2 H2' hi ⟨v, L, rfl, eS, pL, hL, s2⟩ ⟨rfl, hx⟩
      obtain ⟨r, er, hrow⟩ := par_get pz hx
      obtain ⟨t, et, rfl⟩ : ∃ t, ps[i]? = some t ∧ row2 t = r := by
        rw [List.getElem?_map] at er
        cases e : ps[i]? with
        | none => rw [e] at er; cases er
        | some t => rw [e] at er; exact ⟨t, rfl, Option.some.inj er⟩
      have tok := ok.2.1 t (pm.mem_iff.mp (List.mem_of_getElem? et))
      obtain ⟨b, rfl, hb⟩ := id hrow
      have hb2 := Same.seqA s2 hb
      have lenL : L.length = i := by
        have := pL.length_eq
        rw [List.length_map, List.length_take, List.length_map] at this
        omega
      refine ⟨_, rfl, _, rfl, n, _, row2 t, rfl, ⟨b, rfl, hb2⟩, (row2_ok tok).1, (row2_ok tok).2, (by decide : 2 < 64), fun H3 s3 => ⟨_, rfl, iteF ?_⟩⟩
      have hb3 := Same.seqA s3 hb2
      refine ⟨_, rfl, b, _, rfl, hb3, rfl, _, rfl, iteF ?_⟩
      refine ⟨_, rfl, b, _, rfl, hb3, fun t4 H4 h4 s4 => ?_⟩
      have s34 := s3.trans s4
      have fresh : row2 t ∉ L.map (·.2) := fun z => by
        have z2 := pL.mem_iff.mp z
        obtain ⟨j, hj, ej⟩ := List.getElem_of_mem z2
        rw [List.length_take] at hj
        rw [List.getElem_take] at ej
        have hi2 : (ps.map row2)[i]? = some (row2 t) := er
        obtain ⟨hi3, e3⟩ := List.getElem?_eq_some_iff.mp hi2
        have := (List.getElem_inj nd).mp (ej.trans e3.symm)
        omega
      refine ⟨_, rfl, sn, t4, L, row2 t, rfl, rfl, s34 _ _ eS, (fun p hp => Same.seqT s34 (hL p hp)), h4, _, rfl, ?_⟩
      rw [decide_eq_false fresh]
      refine iteF ?_
      refine ⟨_, rfl, ⟨sn, L, rfl, s34 _ _ eS⟩, _, rfl, b, _, rfl, Same.seqA s4 hb3, fun t5 H5 h5 s5 => ?_⟩
      have s35 := s34.trans s5
      refine ⟨sn, t5, L, row2 t, rfl, rfl, s35 _ _ eS, (fun p hp => Same.seqT s35 (hL p hp)), h5, by omega, fun L' _ c2 => ?_⟩
      have p2 := c2 fresh
      refine ⟨_, L', rfl, upd_same, ?_, fun p hp => ?_, Same.upd_new (s2.trans s35) nsH⟩
      · rw [take_next er]
        have q1 : (L'.map (·.2)).Perm (row2 t :: L.map (·.2)) := p2.map (·.2)
        exact q1.trans ((pL.cons _).trans (List.perm_append_singleton _ _).symm)
      · rcases List.mem_cons.mp (p2.mem_iff.mp hp) with rfl | hp
        · exact seqT_offS h5 (s35 _ _ eS)
        · exact seqT_offS (Same.seqT s35 (hL p hp)) (s35 _ _ eS)
    · rintro σ H2 ⟨v, L, rfl, eS, pL, hL, s2⟩
      rw [hlen, ← List.length_map (f := row2), List.take_length] at pL
      have pLt : (L.map (·.2)).Perm (ts.map row2) := pL.trans (pm.map row2)
      refine ⟨_, rfl, sn, L, 2, 64, rfl, eS, hL, by decide, fun p hp => ?_, fun L' q pm' nd' l64 pw nq => ?_⟩
      · obtain ⟨t, ht, e⟩ := List.mem_map.mp (pLt.mem_iff.mp (List.mem_map.mpr ⟨p, hp, rfl⟩))
        have e' : row2 t = p.2 := e
        obtain ⟨a0, a1, b0, b1, _⟩ := ok.2.1 t ht
        rw [← e']
        refine ⟨rfl, fun z hz => ?_⟩
        rcases List.mem_cons.mp hz with rfl | hz
        · omega
        · rw [List.mem_singleton.mp hz]; omega
      · have eL : L'.map (·.2) = ts.map row2 := ties_uniq n60 ((pm'.map (·.2)).trans pLt) ok (by rw [List.pairwise_map]; exact pw)
        refine ⟨q, _, rfl, .inl ⟨SqL.of upd_same, fun t nt => ?_⟩⟩
        have s3 := (Same.new (o := .lst (L'.map fun q => V.ref q.1)) nq).trans (Same.new (o := .tup (L'.map fun q => V.ref q.1)) nt)
        exact k t _ _ upd_same (ties_of eL fun p hp => Same.seqT s3 (hL p (pm'.mem_iff.mp hp))) (s2.trans s3)
end
end Y
set_option Elab.async false
set_option linter.all false
set_option maxRecDepth 100000
set_option maxHeartbeats 4000000
namespace Y
open PySem L2
/-! ### the rings, checked; a yard made -/
abbrev sMade : Stmt := top 999
def spCRings (K : PySem.W.Frag) : Sp := fun vs H Q _ => ∃ (n : Nat) (z : Addr) (zs : List V) (rs : List (List Int)), vs = [.int (n : Int), .ref z] ∧ SqA K H z zs ∧ Paired (RowAt K H) zs rs ∧ (∀ r ∈ rs, RingOk n r) ∧ n ≤ 60 ∧ rs.length ≤ 100 ∧
  ∀ t ys H', H' t = some (.tup ys) → Paired (RingAt K H') ys rs → Same H H' → Q (.ref t) H'
def spYInit (K : PySem.W.Frag) : Sp := fun vs H Q _ => ∃ (x C dx a e : Addr) (n : Nat) (zs ws : List V) (ps ts : List (Int × Int)) (rs : List (List Int)), vs = [.ref x, .int (n : Int), .ref a, .ref e] ∧ YCls K C ∧ H x = some (.ins C dx []) ∧ 1 ≤ n ∧ n ≤ 60 ∧
  SqA K H a zs ∧ Paired (RowAt K H) zs (ps.map row2) ∧ ps.Perm ts ∧ TiesOk n ts ∧ ts.length ≤ 60 ∧ SqA K H e ws ∧ Paired (RowAt K H) ws rs ∧ (∀ r ∈ rs, RingOk n r) ∧ rs.length ≤ 100 ∧
  ∀ H', YObjC K H' C x n ts rs → (∀ b o, b ≠ x → H b = some o → H' b = some o) → Q .non H'
def spMade (K : PySem.W.Frag) (C : Addr) : Sp := fun vs H Q _ => ∃ (p c q : Addr) (n b : Nat) (ts : List (Int × Int)) (rs : List (List Int)), vs = [.ref p, .ref q] ∧ Pen H p c (b + 130) ∧ YdAt K H q n ts rs ∧ YdOk n ts rs ∧
  ∀ x H', YObjC K H' C x n ts rs → Kp H H' → Pen H' p c b → Q (.ref x) H'
/-- what is no instance stands when an instance changes -/
theorem seqT_offI {K : PySem.W.Frag} {H : Hp} {x a C dx : Addr} {fs : List (Str × V)} {xs : List V} {o : HO} (h : SqT K H a xs) (e : H x = some (.ins C dx fs)) : SqT K (upd H x o) a xs :=
  seqT_offE h e (fun _ z => by cases z) (fun _ _ z => by cases z)
theorem seqL_offI {K : PySem.W.Frag} {H : Hp} {x a C dx : Addr} {fs : List (Str × V)} {xs : List V} {o : HO} (h : SqL K H a xs) (e : H x = some (.ins C dx fs)) : SqL K (upd H x o) a xs := by
  rcases h with (h | ⟨o', h⟩) | h
  · exact .inl (.inl (by rw [upd_ne (ne_of h e (by intro z; cases z))]; exact h))
  · exact .inl (.inr ⟨o', by rw [upd_ne (ne_of h e (by intro z; cases z))]; exact h⟩)
  · exact .inr h
theorem seqA_offI {K : PySem.W.Frag} {H : Hp} {x a C dx : Addr} {fs : List (Str × V)} {xs : List V} {o : HO} (h : SqA K H a xs) (e : H x = some (.ins C dx fs)) : SqA K (upd H x o) a xs :=
  h.imp (fun h => seqL_offI h e) fun h => seqT_offI h e
theorem rows_offI {K : PySem.W.Frag} {H : Hp} {x C dx : Addr} {fs : List (Str × V)} {ys : List V} {rs : List (List Int)} {o : HO} (h : Paired (RowAt K H) ys rs) (e : H x = some (.ins C dx fs)) : Paired (RowAt K (upd H x o)) ys rs :=
  par_map (fun y r ⟨b, e1, hb⟩ => ⟨b, e1, seqA_offI hb e⟩) h
theorem ties_offI {K : PySem.W.Frag} {H : Hp} {x C dx : Addr} {fs : List (Str × V)} {ys : List V} {ts : List (Int × Int)} {o : HO} (h : Paired (TieAt K H) ys ts) (e : H x = some (.ins C dx fs)) : Paired (TieAt K (upd H x o)) ys ts :=
  par_map (fun y r ⟨b, e1, hb⟩ => ⟨b, e1, seqT_offI hb e⟩) h
theorem rings_offI {K : PySem.W.Frag} {H : Hp} {x C dx : Addr} {fs : List (Str × V)} {ys : List V} {rs : List (List Int)} {o : HO} (h : Paired (RingAt K H) ys rs) (e : H x = some (.ins C dx fs)) : Paired (RingAt K (upd H x o)) ys rs :=
  par_map (fun y r ⟨b, e1, hb⟩ => ⟨b, e1, seqT_offI hb e⟩) h
theorem par_perm {R : V → Int × Int → Prop} {ys ys' : List V} (p : ys'.Perm ys) : ∀ {ts : List (Int × Int)}, Paired R ys ts → ∃ ps, ps.Perm ts ∧ Paired R ys' ps := by
  induction p with
  | nil => intro ts h; exact ⟨ts, .refl _, h⟩
  | cons x _ ih =>
    intro ts h
    cases h with
    | cons a t =>
      obtain ⟨ps, p1, h1⟩ := ih t
      exact ⟨_ :: ps, p1.cons _, .cons a h1⟩
  | swap x y l =>
    intro ts h
    cases h with
    | cons a t =>
      cases t with
      | cons b t => exact ⟨_, List.Perm.swap _ _ _, .cons b (.cons a t)⟩
  | trans _ _ ih1 ih2 =>
    intro ts h
    obtain ⟨ps, p1, h1⟩ := ih2 h
    obtain ⟨qs, p2, h2⟩ := ih1 h1
    exact ⟨qs, p2.trans p1, h2⟩
theorem par_rows {K : PySem.W.Frag} {H : Hp} {ys : List V} {ps : List (Int × Int)} (h : Paired (TieAt K H) ys ps) : Paired (TupI K H) ys (ps.map row2) := by
  induction h with
  | nil => exact .nil
  | cons a _ ih => exact .cons a ih
structure TYd (K : PySem.W.Frag) (mg : Str → Option Value) (C fInt fRow fUn fCnt fCT fCR : Addr) : Prop where
  u : TUn K mg fInt fRow fUn fCnt
  gCT : mg "checked_ties" = some (.ref fCT)
  gCR : mg "checked_rings" = some (.ref fCR)
  cls : YCls K C
  gYard : mg "Yard" = some (.ref C)
section
variable {P : Program} {w : World} {K : PySem.W.Frag} {mg : Str → Option Value} {base : Heap} {fInt fRow fUn fCnt fCT fCR fDraw fL : Addr}
theorem scCRings : FnScope ["places", "rings", "index", "ring"] ["places", "rings"] (defScope sCRings) := ⟨rfl, rfl, rfl, by decide +kernel, rfl, by decide +kernel, by decide +kernel⟩
theorem ok_crings {f : Addr} {fd fdR fdU : FuncData} (F : Fun K "checked_rings" "checked_rings" sCRings f fd) (T : TUn K mg fInt fRow fUn fCnt) (FR : Fun K "is_row" "is_row" sIsRow fRow fdR) (bR : Binds K fdR ["value"] [])
    (GU : FnOk P w K mg base CX0 3 fUn fdU ["many", "value"] (spUnlike K)) (FU : Fun K "are_unlike_numbers" "are_unlike_numbers" sUnlike fUn fdU) (bU : Binds K fdU ["many", "value"] []) :
    FnOk P w K mg base CX0 4 f fd ["places", "rings"] (spCRings K) := by
  have GR : FnOk P w K mg base CX0 1 fRow fdR ["value"] (spIsRow K) := ok_isRow FR T.i
  refine F.ok scCRings (fun vs H Q E h => ?_) (fun cdv A outer s H vs Q E hr h => ?_)
  · obtain ⟨n, z, zs, rs, rfl, _⟩ := h
    rfl
  · obtain ⟨n, z, zs, rs, rfl, hz, pz, rok, n60, r100, k⟩ := h
    have hr1 : Room 1 _ := hr.mono (by decide)
    refine ⟨_, pss_cons (ps_if (pt_not (pt_val (pe_call GR hr1 (by rfl) T.gRow FR.kp bR .nil pass0 (pa_cons (pv 1) pa_nil)))) (pss_one ps_never) pss_nil)
      (pss_cons (ps_for PassesOwn.never rfl (pi_enumV (by rfl) T.enum (pv 1)) (pg_tup rfl (pgs_cons (pg_name (i := 2) scCRings.nd rfl (Or.inl rfl)) (pgs_cons (pg_name (i := 3) scCRings.nd rfl (Or.inl rfl)) pgs_nil)))
        (pss_one (ps_if (PW.pt (pw_or (pt_not (pt_val (pe_call GU hr (by rfl) T.gUn FU.kp bU .nil pass0 (pa_cons (pv 0) (pa_cons (pv 3) pa_nil))))) (pw_or1 (pt_cmpR op_lt (pe_callB call_len_seq (by rfl) T.len PySem.boot_len (pa_cons (pv 3) pa_nil)) pe_int (nomark _))))) (pss_one ps_never) pss_nil)))
      (pss_one (ps_ret (pe_callTy call_tuple_of (by rfl) T.i.tuple (by decide +kernel) (pa_cons (pe_lc (own := [("ring", 3)]) (g := gName 3) (tt := tYes) rfl scCRings.nd (pi_seqV (pv 1)) (blkOk_by (N := ["places", "rings", "index", "ring"]) (sc := defScope sCRings) (by decide +kernel))
        (fun _ _ _ _ _ => pg_name (i := 3) scCRings.nd rfl (Or.inl rfl)) (fun _ _ _ _ _ => pts_nil) (fun _ _ _ _ _ => pe_callTy (call_tuple_anyK (K := K) rfl) (by rfl) T.i.tuple (by decide +kernel) (pa_cons (pv 3) pa_nil))) pa_nil))))), ?_⟩
    refine ⟨_, rfl, _, rfl, hz.imp (TyX.same (H' := H)) ty_tup, fun H1 s1 => ⟨_, rfl, iteF ?_⟩⟩
    have hlen : zs.length = rs.length := Paired.length pz
    refine ⟨z, zs, H, rfl, hz, .of_same s1, fun J G w1 hG => ?_⟩
    refine for_it w1 (fun i σ H' => ∃ (v2 v3 : Option V), σ = [some (.int (n : Int)), some (.ref z), v2, v3] ∧ Same H H') ⟨none, none, rfl, s1⟩ (fun i σ H' _ ⟨_, _, _, s⟩ => hG H' (.of_same s)) ?_ ?_
    · rintro i v σ H2 H3 hi ⟨v2, v3, rfl, s2⟩ ⟨T1, u, y, rfl, nT, rfl, e1, e2⟩
      cases Option.some.inj e1
      have s3 := s2.trans (Same.new (o := .tup [.int (i : Nat), y]) nT)
      obtain ⟨r, er, hrow⟩ := par_get pz e2
      obtain ⟨rn, rb, r3, rl⟩ := rok r (List.mem_of_getElem? er)
      obtain ⟨b, rfl, hb⟩ := id hrow
      refine ⟨T1, _, rfl, SqT.of upd_same, rfl, _, _, rfl, _, _, rfl, rfl, ?_⟩
      refine ⟨_, rfl, _, rfl, n, _, r, rfl, ⟨b, rfl, Same.seqA s3 hb⟩, rb, rn, by omega, fun H4 s4 => ⟨_, rfl, iteF ?_⟩⟩
      refine ⟨_, rfl, b, _, rfl, Same.seqA (s3.trans s4) hb, _, _, rfl, rfl, _, rfl, ?_⟩
      refine ifT (fun h => ?_) (fun _ => ⟨_, _, rfl, s3.trans s4⟩)
      have h' : (((r.map V.int).length : Nat) : Int) < 3 := of_decide_eq_true h
      rw [List.length_map] at h'
      omega
    · rintro σ H2 ⟨v2, v3, rfl, s2⟩
      refine ⟨z, zs, H, rfl, hz, .of_same s2, fun J2 G2 w2 hG2 D hD => ?_⟩
      have nDH : H D = none := s2.free hD
      refine lc_it w2 (fun i H' => ∃ ws, H' D = some (.lst ws) ∧ Paired (RingAt K H') ws (rs.take i) ∧ ws.length = i ∧ Same H H') ⟨[], upd_same, .nil, rfl, s2.trans (Same.new hD)⟩ (fun i H' _ ⟨_, _, _, _, s⟩ => hG2 H' (.of_same s)) (fun i x H3 H3' hi h y => ?_) (fun H3 h => ?_)
      · obtain ⟨ws, eD, pw, lw, s3⟩ := h
        obtain ⟨rfl, hx⟩ := y
        obtain ⟨r, er, b, rfl, hb⟩ := par_get pz hx
        refine ⟨rfl, _, rfl, b, _, rfl, Same.seqA s3 hb, fun t H4 ht s4 => ?_⟩
        have eD4 := s4 _ _ eD
        refine ⟨ws, eD4, Nat.lt_of_le_of_lt (by omega : ws.length ≤ 100) (by decide), ws ++ [V.ref t], upd_same, ?_, by rw [List.length_append, lw]; rfl, Same.upd_new (s3.trans s4) nDH⟩
        rw [take_next er]
        exact par_snoc (par_map (fun y r ⟨b, e1, hb⟩ => ⟨b, e1, seqT_off (Same.seqT s4 hb) eD4⟩) pw) ⟨t, rfl, seqT_off ht eD4⟩
      · obtain ⟨ws, eD, pw, lw, s3⟩ := h
        rw [hlen, List.take_length] at pw
        exact ⟨D, _, rfl, .inl ⟨SqL.of eD, fun t nt => k t ws _ upd_same (rings_kp pw (.new nt)) (s3.trans (Same.new nt))⟩⟩
theorem scYInit : FnScope ["self", "places", "ties", "rings"] ["self", "places", "ties", "rings"] (defScope sYInit) := ⟨rfl, rfl, rfl, by decide +kernel, rfl, by decide +kernel, by decide +kernel⟩
theorem ok_yinit {f C : Addr} {fd fdI fdT fdR : FuncData} (F : Fun K "__init__" "Yard.__init__" sYInit f fd) (T : TYd K mg C fInt fRow fUn fCnt fCT fCR) (FI : Fun K "is_integer" "is_integer" sIsInt fInt fdI) (bI : Binds K fdI ["value"] [])
    (GT : FnOk P w K mg base CX0 4 fCT fdT ["places", "ties"] (spCTies K)) (FT : Fun K "checked_ties" "checked_ties" sCTies fCT fdT) (bT : Binds K fdT ["places", "ties"] [])
    (GR : FnOk P w K mg base CX0 4 fCR fdR ["places", "rings"] (spCRings K)) (FR : Fun K "checked_rings" "checked_rings" sCRings fCR fdR) (bR : Binds K fdR ["places", "rings"] []) :
    FnOk P w K mg base CX0 5 f fd ["self", "places", "ties", "rings"] (spYInit K) := by
  have GI : FnOk P w K mg base CX0 1 fInt fdI ["value"] spIsInt := ok_isInt FI T.u.i
  refine F.ok scYInit (fun vs H Q E h => ?_) (fun cdv A outer s H vs Q E hr h => ?_)
  · obtain ⟨x, C, dx, a, e, n, zs, ws, ps, ts, rs, rfl, _⟩ := h
    rfl
  · obtain ⟨x, C, dx, a, e, n, zs, ws, ps, ts, rs, rfl, yc, hx, n1, n60, ha, pa, pm, tok, t60, he, pe, rok, r100, k⟩ := h
    have hr1 : Room 1 _ := hr.mono (by decide)
    refine ⟨_, pss_cons (ps_if (PW.pt (pw_or (pt_not (pt_val (pe_call GI hr1 (by rfl) T.u.gInt FI.kp bI .nil pass0 (pa_cons (pv 1) pa_nil)))) (pw_or1 (pt_cmpR op_lt (pv 1) pe_int (nomark _))))) (pss_one ps_never) pss_nil)
      (pss_cons (ps_fld (pv 0) (pv 1) rfl)
      (pss_cons (ps_fld (pv 0) (pe_call GT hr (by rfl) T.gCT FT.kp bT .nil pass0 (pa_cons (pv 1) (pa_cons (pv 2) pa_nil))) rfl)
      (pss_one (ps_fld (pv 0) (pe_call GR hr (by rfl) T.gCR FR.kp bR .nil pass0 (pa_cons (pv 1) (pa_cons (pv 3) pa_nil))) rfl)))), ?_⟩
    refine ⟨_, rfl, (n : Int), rfl, _, rfl, iteF ?_⟩
    refine ⟨_, rfl, _, _, rfl, rfl, _, rfl, ?_⟩
    refine ifT (fun h => ?_) (fun _ => ?_)
    · have h' : (n : Int) < 1 := of_decide_eq_true h
      omega
    refine ⟨_, rfl, _, rfl, x, C, dx, [], rfl, hx, yc.c, yc.p, (by show 0 < 1000; decide), ?_⟩
    have hx1 : (upd H x (.ins C dx (putF "places" (.int (n : Int)) []))) x = some (.ins C dx (putF "places" (.int (n : Int)) [])) := upd_same
    refine ⟨_, rfl, _, rfl, n, a, zs, ps, ts, rfl, seqA_offI ha hx, rows_offI pa hx, pm, tok, n60, t60, fun t ys H2 et pt s2 => ?_⟩
    have hx2 := s2 _ _ hx1
    refine ⟨_, rfl, x, C, dx, _, rfl, hx2, yc.c, yc.t, (by show 1 < 1000; decide), ?_⟩
    have hx3 : (upd H2 x (.ins C dx (putF "ties" (.ref t) (putF "places" (.int (n : Int)) [])))) x = some (.ins C dx (putF "ties" (.ref t) (putF "places" (.int (n : Int)) []))) := upd_same
    refine ⟨_, rfl, _, rfl, n, e, ws, rs, rfl, seqA_offI (Same.seqA s2 (seqA_offI he hx)) hx2, rows_offI (rows_kp (rows_offI pe hx) (.of_same s2)) hx2, rok, n60, r100, fun u vs' H4 eu pu s4 => ?_⟩
    have hx4 := s4 _ _ hx3
    refine ⟨_, rfl, x, C, dx, _, rfl, hx4, yc.c, yc.r, (by show 2 < 1000; decide), ?_⟩
    refine k _ ⟨dx, t, u, _, ys, vs', upd_same, yc, ?_, ?_, ?_, seqT_offI (Same.seqT s4 (seqT_offI (SqT.of et) hx2)) hx4, ties_offI (ties_kp (ties_offI pt hx2) (.of_same s4)) hx4, seqT_offI (SqT.of eu) hx4, rings_offI pu hx4⟩ fun b o nb e0 => ?_
    · rw [lookup_putF, if_neg (by decide +kernel), lookup_putF, if_neg (by decide +kernel), lookup_putF, if_pos rfl]
    · rw [lookup_putF, if_neg (by decide +kernel), lookup_putF, if_pos rfl]
    · rw [lookup_putF, if_pos rfl]
    · rw [upd_ne nb]
      refine s4 _ _ ?_
      rw [upd_ne nb]
      refine s2 _ _ ?_
      rw [upd_ne nb]
      exact e0
end
end Y
set_option Elab.async false
set_option linter.all false
set_option maxRecDepth 100000
set_option maxHeartbeats 4000000
namespace Y
open PySem L2
abbrev sBoth : Stmt := top 18
/-! ### pairs both ways -/
def dbl (ps : List (Int × Int)) : List (Int × Int) := ps.flatMap fun t => [t, (t.2, t.1)]
theorem dbl_len : ∀ ps, (dbl ps).length = 2 * ps.length
  | [] => rfl
  | t :: ps => by
    show ([t, (t.2, t.1)] ++ dbl ps).length = _
    rw [List.length_append, dbl_len ps]
    show 2 + 2 * ps.length = 2 * (ps.length + 1)
    omega
theorem dbl_app (ps qs : List (Int × Int)) : dbl (ps ++ qs) = dbl ps ++ dbl qs := List.flatMap_append
theorem mem_dbl {ps : List (Int × Int)} {u : Int × Int} : u ∈ dbl ps ↔ u ∈ ps ∨ (u.2, u.1) ∈ ps := by
  unfold dbl
  rw [List.mem_flatMap]
  constructor
  · rintro ⟨t, ht, hu⟩
    rcases List.mem_cons.mp hu with rfl | hu
    · exact .inl ht
    · rw [List.mem_singleton.mp hu]
      exact .inr ht
  · rintro (h | h)
    · exact ⟨u, h, List.mem_cons_self⟩
    · exact ⟨_, h, List.mem_cons_of_mem _ List.mem_cons_self⟩
def In64 (t : Int × Int) : Prop := 0 ≤ t.1 ∧ t.1 < 64 ∧ 0 ≤ t.2 ∧ t.2 < 64
/-- an ascending row of unlike pairs, of just these -/
structure AscOf (us xs : List (Int × Int)) : Prop where
  nd : us.Nodup
  asc : us.Pairwise fun a b => TS.code 64 [a.1, a.2] ≤ TS.code 64 [b.1, b.2]
  mem : ∀ u, u ∈ us ↔ u ∈ xs
theorem AscOf.one {us vs xs ys : List (Int × Int)} (h : AscOf us xs) (g : AscOf vs ys) (e : ∀ u, u ∈ xs ↔ u ∈ ys) (b : ∀ u ∈ xs, In64 u) : us = vs := by
  have p : us.Perm vs := (List.perm_ext_iff_of_nodup h.nd g.nd).mpr fun u => (h.mem u).trans ((e u).trans (g.mem u).symm)
  refine List.Perm.eq_of_pairwise (le := fun a b : Int × Int => TS.code 64 [a.1, a.2] ≤ TS.code 64 [b.1, b.2]) (fun t u ht hu h1 h2 => ?_) h.asc g.asc p
  obtain ⟨a0, a1, b0, b1⟩ := b t ((h.mem t).mp ht)
  obtain ⟨c0, c1, d0, d1⟩ := b u ((e u).mpr ((g.mem u).mp hu))
  have e1 : TS.code 64 [t.1, t.2] = t.1 * 64 + t.2 := code_pair _ _
  have e2 : TS.code 64 [u.1, u.2] = u.1 * 64 + u.2 := code_pair _ _
  rw [e1, e2] at h1 h2
  exact Prod.ext (by omega) (by omega)
theorem row2_map {L : List (List Int)} {xs : List (Int × Int)} (h : ∀ k ∈ L, k ∈ xs.map row2) : ∃ us : List (Int × Int), L = us.map row2 := by
  induction L with
  | nil => exact ⟨[], rfl⟩
  | cons k L ih =>
    obtain ⟨us, e⟩ := ih fun k hk => h k (List.mem_cons_of_mem _ hk)
    obtain ⟨t, _, et⟩ := List.mem_map.mp (h k List.mem_cons_self)
    exact ⟨t :: us, by rw [e, List.map_cons, et]⟩
/-- what sorted(set(..)) tells of a row of pairs -/
theorem set_asc {ks L L' : List (Addr × List Int)} {xs : List (Int × Int)} (hk : ks.map (·.2) = xs.map row2) (h1 : ∀ p ∈ L, p ∈ ks) (h2 : ∀ p ∈ ks, p.2 ∈ L.map (·.2)) (pm : L'.Perm L) (nd : (L'.map (·.2)).Nodup) (pw : L'.Pairwise fun q r => TS.code 64 q.2 ≤ TS.code 64 r.2) :
    ∃ us, L'.map (·.2) = us.map row2 ∧ AscOf us xs := by
  obtain ⟨us, e⟩ := row2_map (L := L'.map (·.2)) (xs := xs) fun k hk2 => by
    obtain ⟨p, hp, rfl⟩ := List.mem_map.mp hk2
    rw [← hk]
    exact List.mem_map.mpr ⟨p, h1 p (pm.mem_iff.mp hp), rfl⟩
  have inj : ∀ t u : Int × Int, row2 t = row2 u → t = u := fun t u => row2_inj
  have memi : ∀ (u : Int × Int) (l : List (Int × Int)), row2 u ∈ l.map row2 ↔ u ∈ l := fun u l => ⟨fun h => by
    obtain ⟨t, ht, e⟩ := List.mem_map.mp h
    rw [← inj _ _ e]; exact ht, fun h => List.mem_map.mpr ⟨u, h, rfl⟩⟩
  refine ⟨us, e, ⟨?_, ?_, fun u => ?_⟩⟩
  · rw [e] at nd
    exact nodup_of_map nd
  · have pw2 : (L'.map (·.2)).Pairwise fun a b => TS.code 64 a ≤ TS.code 64 b := by
      rw [List.pairwise_map]; exact pw
    rw [e, List.pairwise_map] at pw2
    exact pw2
  · rw [← memi u us, ← e, ← memi u xs, ← hk]
    constructor
    · intro h
      obtain ⟨p, hp, ep⟩ := List.mem_map.mp h
      exact List.mem_map.mpr ⟨p, h1 p (pm.mem_iff.mp hp), ep⟩
    · intro h
      obtain ⟨p, hp, ep⟩ := List.mem_map.mp h
      have := h2 p hp
      rw [show p.2 = row2 u from ep] at this
      obtain ⟨q, hq, eq⟩ := List.mem_map.mp this
      exact List.mem_map.mpr ⟨q, pm.mem_iff.mpr hq, eq⟩
theorem bd64 {t : Int × Int} (h : In64 t) : TS.Bd 64 (row2 t) := by
  obtain ⟨a, b, c, d⟩ := h
  intro x hx
  rcases List.mem_cons.mp hx with rfl | hx
  · exact ⟨a, b⟩
  · rw [List.mem_singleton.mp hx]; exact ⟨c, d⟩
def spBoth (K : PySem.W.Frag) : Sp := fun vs H Q _ => ∃ (z : Addr) (zs : List V) (ps : List (Int × Int)), vs = [.ref z] ∧ SqA K H z zs ∧ Paired (RowAt K H) zs (ps.map row2) ∧ (∀ t ∈ ps, In64 t) ∧ ps.length ≤ 31 ∧
  ∀ t ys us H', SqT K H' t ys → Paired (TieAt K H') ys us → AscOf us (dbl ps) → Same H H' → Q (.ref t) H'
section
variable {P : Program} {w : World} {K : PySem.W.Frag} {mg : Str → Option Value} {base : Heap}
theorem scBoth : FnScope ["pairs", "a", "b", "way"] ["pairs"] (defScope sBoth) := ⟨rfl, rfl, rfl, by decide +kernel, rfl, by decide +kernel, by decide +kernel⟩
theorem ok_both {f : Addr} {fd : FuncData} (F : Fun K "both_ways" "both_ways" sBoth f fd) (htup : mg "tuple" = none) (hset : mg "set" = none) (hsor : mg "sorted" = none) : FnOk P w K mg base CX0 1 f fd ["pairs"] (spBoth K) := by
  refine F.ok scBoth (fun vs H Q E h => ?_) (fun cdv A outer s H vs Q E hr h => ?_)
  · obtain ⟨z, zs, ps, rfl, _⟩ := h
    rfl
  · obtain ⟨z, zs, ps, rfl, hz, pz, ok, few, k⟩ := h
    have hu := hr.units
    refine ⟨_, pss_one (ps_ret (pe_callTy call_tupF (by rfl) htup (by decide +kernel) (pa_cons (pe_callB (cr_sortedT rfl) (by rfl) hsor (by decide +kernel) (pa_cons (pe_callTy (cr_setOfT rfl hu) (by rfl) hset (by decide +kernel) (pa_cons
      (pe_lc2 (own := [("a", 1), ("b", 2), ("way", 3)]) (vs1 := [3]) (g := gAny K 2 (gCons (gName 1) (gCons (gName 2) gNil))) (tt := tYes) (tt1 := tYes) (g1 := gName 3) rfl scBoth.nd (pi_seqV (pv 0)) (blkOk_by (N := ["pairs", "a", "b", "way"]) (sc := defScope sBoth) (by decide +kernel)) (by decide)
        (fun _ _ _ _ _ => pg_any (K := K) (n := 2) rfl rfl (pgs_cons (pg_name (i := 1) scBoth.nd rfl (Or.inl rfl)) (pgs_cons (pg_name (i := 2) scBoth.nd rfl (Or.inl rfl)) pgs_nil)) rfl rfl)
        (fun _ _ _ _ _ => pts_nil)
        (fun _ _ _ _ _ => pi_tupK (K := K) rfl (pe_tup (pa_cons (pe_tup (pa_cons (pv 1) (pa_cons (pv 2) pa_nil))) (pa_cons (pe_tup (pa_cons (pv 2) (pa_cons (pv 1) pa_nil))) pa_nil))))
        (fun _ _ _ _ _ => pg_name (i := 3) scBoth.nd rfl (Or.inl rfl)) (fun _ _ _ _ _ => pts_nil) (fun _ _ _ _ _ => pv 3)) pa_nil)) pa_nil)) pa_nil))), ?_⟩
    have lz : zs.length = ps.length := by rw [Paired.length pz, List.length_map]
    refine ⟨z, zs, H, rfl, hz, .refl H, fun J G w1 hG D hD => ?_⟩
    refine walk_w w1 (fun i H' => ∃ ks : List (Addr × List Int), H' D = some (.lst (ks.map fun p => V.ref p.1)) ∧ ks.map (·.2) = (dbl (ps.take i)).map row2 ∧ (∀ p ∈ ks, SqT K H' p.1 (p.2.map V.int)) ∧ Same H H') ⟨[], upd_same, rfl, (fun p hp => by cases hp), Same.new hD⟩
      (fun i H' _ ⟨_, _, _, _, s⟩ => hG H' (.of_same s)) ?_ ?_
    · rintro i x H1 H1' hi ⟨ks, eD, ek, hk, s1⟩ ⟨rfl, hx⟩
      obtain ⟨r, er, b, rfl, hb⟩ := par_get pz hx
      obtain ⟨t, et, rfl⟩ : ∃ t, ps[i]? = some t ∧ row2 t = r := by
        rw [List.getElem?_map] at er
        cases e : ps[i]? with
        | none => rw [e] at er; cases er
        | some t => rw [e] at er; exact ⟨t, rfl, Option.some.inj er⟩
      refine ⟨b, _, rfl, Same.seqA s1 hb, rfl, _, _, rfl, _, _, rfl, rfl, rfl, ?_⟩
      refine ⟨_, rfl, _, rfl, (by show 2 ≤ sizeLine; decide), fun t1 n1 => ?_⟩
      refine ⟨_, rfl, _, rfl, (by show 2 ≤ sizeLine; decide), fun t2 n2 => ⟨(by show 2 ≤ sizeLine; decide), fun t3 n3 => ?_⟩⟩
      have sN := ((Same.new (o := .tup [.int t.1, .int t.2]) n1).trans (Same.new (o := .tup [.int t.2, .int t.1]) n2)).trans (Same.new (o := .tup [.ref t1, .ref t2]) n3)
      have e1 : (upd (upd (upd H1' t1 (.tup [.int t.1, .int t.2])) t2 (.tup [.int t.2, .int t.1])) t3 (.tup [.ref t1, .ref t2])) t1 = some (.tup [.int t.1, .int t.2]) := Same.new n3 _ _ (Same.new n2 _ _ upd_same)
      have e2 : (upd (upd (upd H1' t1 (.tup [.int t.1, .int t.2])) t2 (.tup [.int t.2, .int t.1])) t3 (.tup [.ref t1, .ref t2])) t2 = some (.tup [.int t.2, .int t.1]) := Same.new n3 _ _ upd_same
      have e3 : (upd (upd (upd H1' t1 (.tup [.int t.1, .int t.2])) t2 (.tup [.int t.2, .int t.1])) t3 (.tup [.ref t1, .ref t2])) t3 = some (.tup [.ref t1, .ref t2]) := upd_same
      generalize upd (upd (upd H1' t1 (.tup [.int t.1, .int t.2])) t2 (.tup [.int t.2, .int t.1])) t3 (.tup [.ref t1, .ref t2]) = H2 at sN e1 e2 e3 ⊢
      refine ⟨t3, rfl, ⟨_, SqT.of e3⟩, ?_⟩
      have lk : ks.length ≤ 62 := by
        have := congrArg List.length ek
        rw [List.length_map, List.length_map, dbl_len, List.length_take] at this
        omega
      refine walk_w (walk_tup (K := K) (a := t3) (xs := [.ref t1, .ref t2])) (fun j H' => ∃ ks' : List (Addr × List Int), H' D = some (.lst (ks'.map fun p => V.ref p.1)) ∧ ks' = ks ++ ([(t1, row2 t), (t2, row2 (t.2, t.1))].take j) ∧ (∀ p ∈ ks', SqT K H' p.1 (p.2.map V.int)) ∧ Same H H' ∧ H' t3 = some (.tup [.ref t1, .ref t2]) ∧ H' t1 = some (.tup [.int t.1, .int t.2]) ∧ H' t2 = some (.tup [.int t.2, .int t.1]))
        ⟨ks, sN _ _ eD, by simp, (fun p hp => Same.seqT sN (hk p hp)), s1.trans sN, e3, e1, e2⟩ (fun j H' _ ⟨_, _, _, _, _, e, _⟩ => SqT.of e) ?_ ?_
      · rintro j y H3 H3' hj ⟨ks', eD', ek', hk', s3, f3, f1, f2⟩ ⟨eH, hy⟩
        subst eH
        have hj : j < 2 := hj
        have go : ∀ (a : Addr) (u : Int × Int), y = .ref a → H3' a = some (.tup [.int u.1, .int u.2]) → [(t1, row2 t), (t2, row2 (t.2, t.1))].take (j + 1) = [(t1, row2 t), (t2, row2 (t.2, t.1))].take j ++ [(a, row2 u)] →
            H3' D = some (.lst (ks'.map fun p => V.ref p.1)) ∧ (ks'.map fun p => V.ref p.1).length < sizeLine ∧ ∃ ks2 : List (Addr × List Int), (upd H3' D (.lst ((ks'.map fun p => V.ref p.1) ++ [y]))) D = some (.lst (ks2.map fun p => V.ref p.1)) ∧ ks2 = ks ++ ([(t1, row2 t), (t2, row2 (t.2, t.1))].take (j + 1)) ∧ (∀ p ∈ ks2, SqT K (upd H3' D (.lst ((ks'.map fun p => V.ref p.1) ++ [y]))) p.1 (p.2.map V.int)) ∧ Same H (upd H3' D (.lst ((ks'.map fun p => V.ref p.1) ++ [y]))) ∧
              (upd H3' D (.lst ((ks'.map fun p => V.ref p.1) ++ [y]))) t3 = some (.tup [.ref t1, .ref t2]) ∧ (upd H3' D (.lst ((ks'.map fun p => V.ref p.1) ++ [y]))) t1 = some (.tup [.int t.1, .int t.2]) ∧ (upd H3' D (.lst ((ks'.map fun p => V.ref p.1) ++ [y]))) t2 = some (.tup [.int t.2, .int t.1]) := fun a u ey ea et => by
          have nD : ∀ {c : Addr} {xs : List V} {o : HO}, H3' c = some (.tup xs) → upd H3' D o c = some (.tup xs) := fun {c xs o} e => by rw [upd_ne (ne_of e eD' (by intro z; cases z))]; exact e
          refine ⟨eD', ?_, ks' ++ [(a, row2 u)], ?_, ?_, ?_, Same.upd_new s3 hD, nD f3, nD f1, nD f2⟩
          · have l2 : ([(t1, row2 t), (t2, row2 (t.2, t.1))].take j).length ≤ 2 := List.length_take_le' _ _
            rw [List.length_map, ek', List.length_append]
            exact Nat.lt_of_le_of_lt (by omega : _ ≤ 64) (by decide)
          · rw [upd_same, ey, List.map_append]
            rfl
          · rw [ek', et, List.append_assoc]
          · intro p hp
            rcases List.mem_append.mp hp with hp | hp
            · exact seqT_offE (hk' p hp) eD' (fun _ z => by cases z) (fun _ _ z => by cases z)
            · rw [List.mem_singleton.mp hp]
              exact SqT.of (nD ea)
        obtain rfl | rfl : j = 0 ∨ j = 1 := by omega
        · cases Option.some.inj hy
          exact ⟨rfl, _, rfl, _, go t1 t rfl f1 rfl⟩
        · cases Option.some.inj hy
          exact ⟨rfl, _, rfl, _, go t2 (t.2, t.1) rfl f2 rfl⟩
      · rintro H3 ⟨ks', eD', ek', hk', s3, _⟩
        refine ⟨ks', eD', ?_, hk', s3⟩
        rw [ek', take_next et, dbl_app, List.map_append, List.map_append, ek]
        rfl
    · rintro H1 ⟨ks, eD, ek, hk, s1⟩
      rw [lz, List.take_length] at ek
      have lk : ks.length = 2 * ps.length := by
        have := congrArg List.length ek
        rwa [List.length_map, List.length_map, dbl_len] at this
      refine ⟨D, ks, rfl, SqL.of eD, hk, by omega, fun sa L nsa h1 h2 => ?_⟩
      have sS := Same.new (o := SetTO P w sa L) nsa
      refine ⟨sa, L, 2, 64, rfl, upd_same, (fun p hp => Same.seqT sS (hk p (h1 p hp))), by decide, fun p hp => ?_, fun L' q pm nd l64 pw nq => ?_⟩
      · have : p.2 ∈ (dbl ps).map row2 := by rw [← ek]; exact List.mem_map.mpr ⟨p, h1 p hp, rfl⟩
        obtain ⟨u, hu, e⟩ := List.mem_map.mp this
        rw [← e]
        refine ⟨rfl, bd64 ?_⟩
        rcases mem_dbl.mp hu with hu | hu
        · exact ok u hu
        · obtain ⟨a, b, c, d⟩ := ok _ hu
          exact ⟨c, d, a, b⟩
      · obtain ⟨us, eu, asc⟩ := set_asc ek h1 h2 pm nd pw
        have sQ := Same.new (o := .lst (L'.map fun q => V.ref q.1)) nq
        refine ⟨q, _, rfl, .inl ⟨SqL.of upd_same, fun t H' nt => ?_⟩⟩
        have sA := (sS.trans sQ).trans nt.same
        exact k t _ us H' nt.sq (ties_of eu fun p hp => Same.seqT sA (hk p (h1 p (pm.mem_iff.mp hp)))) asc (s1.trans sA)
end
end Y
set_option Elab.async false
set_option linter.all false
set_option maxRecDepth 100000
set_option maxHeartbeats 4000000
namespace L2
open PySem PySem.Spec PyProof.Rows
/-- an item of a list or a tuple, whichever it is -/
def rIxA (K : PySem.W.Frag) : R2 := fun x y H Q => ∃ (p : Addr) (xs : List V) (i : Int) (z : V), x = .ref p ∧ y = .int i ∧ (SqL K H p xs ∨ SqT K H p xs) ∧ atI xs i = some z ∧ Q z H
theorem ix_any {X : Cx} : IxR X (rIxA X.K) := by
  intro value slice pins s σ H x y v u Q I rx ry h hs
  obtain ⟨p, xs, i, z, e1, e2, hq, he, q⟩ := h
  rcases hq with hq | hq
  · exact ix_list value slice pins s σ H x y v u Q I rx ry ⟨p, xs, i, z, e1, e2, hq, he, q⟩ hs
  · exact ix_tup value slice pins s σ H x y v u Q I rx ry ⟨p, xs, i, z, e1, e2, hq, he, q⟩ hs
end L2
namespace Y
open PySem L2
abbrev sIsStand : Stmt := top 19
abbrev sCanBe : Stmt := top 21
abbrev sBehind : Stmt := top 22
abbrev sBehindAll : Stmt := top 23
abbrev sPlayed : Stmt := top 24
/-! ### a turn, as the program makes it -/
def prevI (r : List Int) (j : Nat) : Nat := (j + (r.length - 1)) % r.length
def turnP (r st : List Int) (m : Nat) : List Int := (List.range m).foldl (fun acc j => acc.set (pl r j) (st.getD (pl r (prevI r j)) 0)) st
theorem turnP_succ (r st : List Int) (m : Nat) : turnP r st (m + 1) = (turnP r st m).set (pl r m) (st.getD (pl r (prevI r m)) 0) := by
  unfold turnP
  rw [List.range_succ, List.foldl_append]
  rfl
theorem turnP_len (r st : List Int) : ∀ m, (turnP r st m).length = st.length
  | 0 => rfl
  | m + 1 => by rw [turnP_succ, List.length_set, turnP_len r st m]
theorem turnP_at {n : Nat} {r st : List Int} (ok : RingOk n r) (hs : st.length = n) : ∀ m, m ≤ r.length → (∀ j, j < m → (turnP r st m).getD (pl r j) 0 = st.getD (pl r (prevI r j)) 0) ∧ (∀ p, (∀ j, j < m → pl r j ≠ p) → (turnP r st m).getD p 0 = st.getD p 0)
  | 0, _ => ⟨fun j h => absurd h (Nat.not_lt_zero _), fun p _ => rfl⟩
  | m + 1, hm => by
    obtain ⟨h1, h2⟩ := turnP_at ok hs m (by omega)
    rw [turnP_succ]
    refine ⟨fun j hj => ?_, fun p hp => ?_⟩
    · by_cases c : j = m
      · subst c
        exact getD_set_eq (by rw [turnP_len, hs]; exact pl_lt ok (by omega))
      · rw [getD_set_ne (fun z => c (pl_inj ok (by omega) (by omega) z).symm)]
        exact h1 j (by omega)
    · rw [getD_set_ne (hp m (by omega))]
      exact h2 p fun j hj => hp j (by omega)
theorem turnP_eq {n : Nat} {r st : List Int} (ok : RingOk n r) (hs : st.length = n) : turnP r st r.length = turnTo r st r.length := by
  refine List.ext_getElem? fun p => ?_
  by_cases hp : p < st.length
  · have hp1 : p < (turnP r st r.length).length := by rw [turnP_len]; exact hp
    have hp2 : p < (turnTo r st r.length).length := by rw [turnTo_len]; exact hp
    have g : (turnP r st r.length).getD p 0 = (turnTo r st r.length).getD p 0 := by
      by_cases c : ∃ i, i < r.length ∧ pl r i = p
      · obtain ⟨i, hi, rfl⟩ := c
        rw [(turnP_at ok hs r.length (Nat.le_refl _)).1 i hi]
        exact (turn1_ring ok hs hi).symm
      · rw [(turnP_at ok hs r.length (Nat.le_refl _)).2 p fun j hj z => c ⟨j, hj, z⟩]
        exact (turn1_off ok hs fun i hi z => c ⟨i, hi, z⟩).symm
    rw [List.getD_eq_getElem?_getD, List.getD_eq_getElem?_getD, List.getElem?_eq_getElem hp1, List.getElem?_eq_getElem hp2] at g
    rw [List.getElem?_eq_getElem hp1, List.getElem?_eq_getElem hp2]
    exact congrArg some g
  · rw [List.getElem?_eq_none (by rw [turnP_len]; omega), List.getElem?_eq_none (by rw [turnTo_len]; omega)]
theorem prevI_lt {r : List Int} {j : Nat} (h : j < r.length) : prevI r j < r.length := Nat.mod_lt _ (by omega)
theorem atI_prev {r : List Int} {j : Nat} (h : j < r.length) : atI (r.map V.int) ((j : Int) - 1) = some (.int (r.getD (prevI r j) 0)) := by
  have hl : (r.map V.int).length = r.length := List.length_map _
  by_cases c : j = 0
  · subst c
    have e : prevI r 0 = r.length - 1 := by unfold prevI; rw [Nat.zero_add, Nat.mod_eq_of_lt (by omega)]
    unfold atI ixN
    rw [hl, if_neg (by omega), if_pos (by omega), e]
    show (r.map V.int)[((((0 : Nat) : Int) - 1) + (r.length : Int)).toNat]? = _
    rw [show ((((0 : Nat) : Int) - 1) + (r.length : Int)).toNat = r.length - 1 by omega]
    exact getD_at (by omega)
  · have e : prevI r j = j - 1 := by
      unfold prevI
      rw [show j + (r.length - 1) = (j - 1) + r.length by omega, Nat.add_mod_right, Nat.mod_eq_of_lt (by omega)]
    rw [e, show ((j : Int) - 1) = ((j - 1 : Nat) : Int) by omega]
    exact atI_nat (getD_at (by omega))
/-! ### promises -/
def spIsStand (K : PySem.W.Frag) : Sp := fun vs H Q _ => ∃ (x : Addr) (y : V) (n : Nat) (ts : List (Int × Int)) (rs : List (List Int)) (st : List Int), vs = [.ref x, y] ∧ YObj K H x n ts rs ∧ RowAt K H y st ∧ st.length = n ∧ n ≤ 1000 ∧ (∀ z ∈ st, 0 ≤ z) ∧ ∀ H', Same H H' → Q (.bl true) H'
def spCanBe (K : PySem.W.Frag) : Sp := fun vs H Q _ => ∃ (s : Addr) (y : V) (n : Nat) (ts : List (Int × Int)) (rs : List (List Int)) (st : List Int) (m : Mv), vs = [.ref s, y] ∧ SqA K H s (st.map V.int) ∧ st.length = n ∧ MvAt K H y m ∧ CanMv n ts rs st m ∧ Q (.bl true) H
def spBehind (K : PySem.W.Frag) : Sp := fun vs H Q _ => ∃ (x s : Addr) (y : V) (n : Nat) (ts : List (Int × Int)) (rs : List (List Int)) (st : List Int) (m : Mv), vs = [.ref x, .ref s, y] ∧ YObj K H x n ts rs ∧ n ≤ 1000 ∧ (∀ r ∈ rs, RingOk n r) ∧ SqA K H s (st.map V.int) ∧ st.length = n ∧ MvAt K H y m ∧ CanMv n ts rs st m ∧
  ∀ l H', H' l = some (.lst ((stepMv rs st m).map V.int)) → Same H H' → Q (.ref l) H'
theorem can_in {n : Nat} {ts : List (Int × Int)} {rs : List (List Int)} {st : List Int} {m : Mv} (h : CanMv n ts rs st m) : MvIn ts rs m := by
  cases m with
  | slide a b => exact h.1
  | turn k => exact h
theorem can_get {n : Nat} {ts : List (Int × Int)} {rs : List (List Int)} {m : Mv} : ∀ {ms : List Mv} {st : List Int} {i : Nat}, CanAll n ts rs st ms → ms[i]? = some m → CanMv n ts rs (playMvs rs st (ms.take i)) m
  | [], _, _, _, h => by simp at h
  | a :: l, st, 0, c, h => by cases Option.some.inj h; exact c.1
  | a :: l, st, i + 1, c, h => can_get (ms := l) (st := stepMv rs st a) (i := i) c.2 h
structure TPl (K : PySem.W.Frag) (mg : Str → Option Value) (fInt fRow fIsS fMove fCan fBeh fAll fCnt : Addr) : Prop where
  i : TI0 mg
  len : mg "len" = none
  all : mg "all" = none
  enum : mg "enumerate" = none
  gInt : mg "is_integer" = some (.ref fInt)
  gRow : mg "is_row" = some (.ref fRow)
  gIsS : mg "is_stand_row" = some (.ref fIsS)
  gMove : mg "is_move" = some (.ref fMove)
  gCan : mg "can_be_made" = some (.ref fCan)
  gBeh : mg "behind_move" = some (.ref fBeh)
  gAll : mg "behind_all" = some (.ref fAll)
  gCnt : mg "is_count" = some (.ref fCnt)
section
variable {P : Program} {w : World} {K : PySem.W.Frag} {mg : Str → Option Value} {base : Heap} {fInt fRow fIsS fMove fCan fBeh fAll fCnt : Addr}
theorem scIsStand : FnScope ["yard", "value", "thing"] ["yard", "value"] (defScope sIsStand) := ⟨rfl, rfl, rfl, by decide +kernel, rfl, by decide +kernel, by decide +kernel⟩
theorem ok_isStand {f : Addr} {fd fdI fdR fdC : FuncData} (F : Fun K "is_stand_row" "is_stand_row" sIsStand f fd) (T : TPl K mg fInt fRow fIsS fMove fCan fBeh fAll fCnt) (FI : Fun K "is_integer" "is_integer" sIsInt fInt fdI) (bI : Binds K fdI ["value"] []) (FR : Fun K "is_row" "is_row" sIsRow fRow fdR) (bR : Binds K fdR ["value"] []) (FC : Fun K "is_count" "is_count" sIsCount fCnt fdC) (bC : Binds K fdC ["value"] []) :
    FnOk P w K mg base CX0 3 f fd ["yard", "value"] (spIsStand K) := by
  have GC : FnOk P w K mg base CX0 2 fCnt fdC ["value"] (spIsCountD K) := ok_isCountD FC T.i T.gInt FI bI
  have GR : FnOk P w K mg base CX0 2 fRow fdR ["value"] (spIsRow K) := (ok_isRow FR T.i).mono (by decide)
  refine F.ok scIsStand (fun vs H Q E h => ?_) (fun cdv A outer s H vs Q E hr h => ?_)
  · obtain ⟨x, y, n, ts, rs, st, rfl, _⟩ := h
    rfl
  · obtain ⟨x, y, n, ts, rs, st, rfl, hy, ⟨b, rfl, hb⟩, hst, n1000, pos, k⟩ := h
    refine ⟨_, pss_cons (ps_if (PW.pt (pw_or (pt_not (pt_val (pe_call GR hr (by rfl) T.gRow FR.kp bR .nil pass0 (pa_cons (pv 1) pa_nil)))) (pw_or1 (pt_cmpR op_ne (pe_callB call_len_seq (by rfl) T.len PySem.boot_len (pa_cons (pv 1) pa_nil)) (pe_fld (pv 0) rfl) (nomark _))))) (pss_one (ps_ret pe_bl)) pss_nil)
      (pss_one (ps_ret (pe_callB (cr_all rfl) (by rfl) T.all (by decide +kernel) (pa_cons (pe_lc (own := [("thing", 2)]) (g := gName 2) (tt := tYes) rfl scIsStand.nd (pi_seqV (pv 1)) (blkOk_by (N := ["yard", "value", "thing"]) (sc := defScope sIsStand) (by decide +kernel))
          (fun _ _ _ _ _ => pg_name (i := 2) scIsStand.nd rfl (Or.inl rfl)) (fun _ _ _ _ _ => pts_nil) (fun _ _ _ _ _ => pe_call GC hr (by rfl) T.gCnt FC.kp bC .nil pass0 (pa_cons (pv 2) pa_nil))) pa_nil)))), ?_⟩
    obtain ⟨C, dx, a, e, fs, tys, zs, hx, yc, lp, lt, lr, ha, pa, he, pe⟩ := id hy
    refine ⟨_, rfl, _, rfl, hb.imp (TyX.same (H' := H)) ty_tup, fun H1 s1 => ⟨_, rfl, iteF ?_⟩⟩
    refine ⟨_, rfl, b, _, rfl, Same.seqA s1 hb, _, rfl, x, C, dx, fs, _, rfl, s1 _ _ hx, yc.c, yc.p, lp, rfl, _, rfl, ?_⟩
    rw [List.length_map, hst]
    refine ifT (fun h => ?_) (fun _ => ?_)
    · rw [decide_eq_true rfl] at h
      cases h
    refine ⟨b, st.map V.int, H, rfl, hb, .of_same s1, fun J G w1 hG D hD => ?_⟩
    refine lcp_it (f := fun _ => V.bl true) (H1 := H1) w1 hD (by rw [List.length_map]; omega) (fun H' s' => hG H' ((Kp.of_same s1).trans s')) (fun i x0 H2 R hx s2 hR => ?_) ?_
    · obtain ⟨z, ez, rfl⟩ := ints_at hx
      have z0 := pos z (List.mem_of_getElem? ez)
      refine ⟨rfl, _, rfl, _, _, rfl, Dq.int z, ?_⟩
      show R (V.bl (decide (0 ≤ z))) H2
      rw [decide_eq_true z0]
      exact hR
    · have s2 := s1.trans (Same.new (o := .lst ((st.map V.int).map fun _ => V.bl true)) hD)
      refine ⟨D, st.map fun _ => true, rfl, ?_, ?_⟩
      · rw [List.map_map, List.map_map] at *
        exact SqL.of upd_same
      have allT : (st.map fun _ => true).all id = true := by
        rw [List.all_map, List.all_eq_true]
        intro x _
        rfl
      rw [allT]
      exact k _ s2
theorem scCanBe : FnScope ["stand", "move"] ["stand", "move"] (defScope sCanBe) := ⟨rfl, rfl, rfl, by decide +kernel, rfl, by decide +kernel, by decide +kernel⟩
theorem ok_canBe {f : Addr} {fd : FuncData} (F : Fun K "can_be_made" "can_be_made" sCanBe f fd) : FnOk P w K mg base CX0 1 f fd ["stand", "move"] (spCanBe K) := by
  refine F.ok scCanBe (fun vs H Q E h => ?_) (fun cdv A outer s H vs Q E hr h => ?_)
  · obtain ⟨s, y, n, ts, rs, st, m, rfl, _⟩ := h
    rfl
  · obtain ⟨s, y, n, ts, rs, st, m, rfl, hs, hst, ⟨b, rfl, hm⟩, can, k⟩ := h
    refine ⟨_, pss_one (ps_ret (pe_or (pe_cmpR op_eq (pe_ix ix_tup (pv 1) pe_int (fun _ _ => rfl)) pe_str (nomark _)) (pe_one (pe_and (pe_cmpR op_ne (pe_ix ix_any (pv 0) (pe_ix ix_tup (pv 1) pe_int (fun _ _ => rfl)) (fun _ _ => rfl)) pe_int (nomark _)) (pe_one (pe_cmpR op_eq (pe_ix ix_any (pv 0) (pe_ix ix_tup (pv 1) pe_int (fun _ _ => rfl)) (fun _ _ => rfl)) pe_int (nomark _))))))), ?_⟩
    cases m with
    | turn kk =>
      refine ⟨_, rfl, b, _, 0, _, rfl, rfl, hm, atI_nat (j := 0) rfl, rfl, true, rfl, iteT ?_⟩
      exact k
    | slide u v =>
      obtain ⟨_, ⟨a0, a1, b0, b1, _⟩, gu, gv⟩ := can
      rw [← hst] at a1 b1
      refine ⟨_, rfl, b, _, 0, _, rfl, rfl, hm, atI_nat (j := 0) rfl, rfl, false, rfl, iteF ?_⟩
      refine ⟨_, rfl, _, rfl, b, _, 1, _, rfl, rfl, hm, atI_nat (j := 1) rfl, s, _, u, _, rfl, rfl, hs, atI_st a0 a1, rfl, _, rfl, ?_⟩
      refine ifT (fun _ => ?_) (fun h => ?_)
      · refine ⟨_, rfl, _, rfl, b, _, 2, _, rfl, rfl, hm, atI_nat (j := 2) rfl, s, _, v, _, rfl, rfl, hs, atI_st b0 b1, rfl, ?_⟩
        rw [gv, decide_eq_true rfl]
        exact k
      · have ne : ¬ V.int (gAt st u) = V.int 0 := fun z => by injection z with z; omega
        rw [decide_eq_false ne] at h
        cases h
theorem scBehind : FnScope ["yard", "stand", "move", "behind", "ring", "index", "place"] ["yard", "stand", "move"] (defScope sBehind) := ⟨rfl, rfl, rfl, by decide +kernel, rfl, by decide +kernel, by decide +kernel⟩
theorem ok_behind {f : Addr} {fd : FuncData} (F : Fun K "behind_move" "behind_move" sBehind f fd) (T : TPl K mg fInt fRow fIsS fMove fCan fBeh fAll fCnt) : FnOk P w K mg base CX0 1 f fd ["yard", "stand", "move"] (spBehind K) := by
  refine F.ok scBehind (fun vs H Q E h => ?_) (fun cdv A outer s H vs Q E hr h => ?_)
  · obtain ⟨x, s, y, n, ts, rs, st, m, rfl, _⟩ := h
    rfl
  · obtain ⟨x, s, y, n, ts, rs, st, m, rfl, hy, n1000, rok, hs, hst, ⟨b, rfl, hm⟩, can, k⟩ := h
    refine ⟨_, pss_cons (ps_set (i := 3) scBehind.nd rfl (Or.inl rfl) (pe_callTy call_list_of (by rfl) T.i.list (by decide +kernel) (pa_cons (pv 1) pa_nil)))
      (pss_cons (ps_if (pt_cmpR op_eq (pe_ix ix_tup (pv 2) pe_int (fun _ _ => rfl)) pe_str (nomark _))
        (pss_cons (ps_asg pe_int (pg_sub (pv 3) (pe_ix ix_tup (pv 2) pe_int (fun _ _ => rfl)) set_list))
        (pss_cons (ps_asg (pe_ix ix_any (pv 1) (pe_ix ix_tup (pv 2) pe_int (fun _ _ => rfl)) (fun _ _ => rfl)) (pg_sub (pv 3) (pe_ix ix_tup (pv 2) pe_int (fun _ _ => rfl)) set_list))
        (pss_one (ps_ret (pv 3))))) pss_nil)
      (pss_cons (ps_set (i := 4) scBehind.nd rfl (Or.inl rfl) (pe_ix ix_tup (pe_fld (pv 0) rfl) (pe_ix ix_tup (pv 2) pe_int (fun _ _ => rfl)) (fun _ _ => rfl)))
      (pss_cons (ps_for PassesOwn.never rfl (pi_enumV (by rfl) T.enum (pv 4)) (pg_tup rfl (pgs_cons (pg_name (i := 5) scBehind.nd rfl (Or.inl rfl)) (pgs_cons (pg_name (i := 6) scBehind.nd rfl (Or.inl rfl)) pgs_nil)))
        (pss_one (ps_asg (pe_ix ix_any (pv 1) (pe_ix ix_tup (pv 4) (pe_op op_sub (pv 5) pe_int) (fun _ _ => rfl)) (fun _ _ => rfl)) (pg_sub (pv 3) (pv 6) set_list))))
      (pss_one (ps_ret (pv 3)))))), ?_⟩
    obtain ⟨C, dx, a, e, fs, tys, zs, hx, yc, lp, lt, lr, ha, pa, he, pe⟩ := id hy
    refine ⟨_, rfl, s, _, rfl, hs, fun g ng => ?_⟩
    have s1 := Same.new (o := .lst (st.map V.int)) ng
    have hm1 := Same.seqT s1 hm
    have hs1 := Same.seqA s1 hs
    cases m with
    | slide u v =>
      obtain ⟨_, ⟨a0, a1, b0, b1, _⟩, gu, gv⟩ := can
      have la : u.toNat < st.length := by have : u < n := a1; have : (0 : Int) ≤ u := a0; omega
      have lb : v.toNat < st.length := by have : v < n := b1; have : (0 : Int) ≤ v := b0; omega
      refine ⟨_, rfl, b, _, 0, _, rfl, rfl, hm1, atI_nat (j := 0) rfl, rfl, _, rfl, iteT ?_⟩
      refine ⟨_, rfl, _, rfl, b, _, 1, _, rfl, rfl, hm1, atI_nat (j := 1) rfl, g, _, u, u.toNat, rfl, rfl, upd_same, by rw [List.length_map]; exact ixN_ok a0 (by rw [hst]; exact a1), ?_⟩
      rw [upd_upd]
      have s2 := Same.new (o := .lst ((st.map V.int).set u.toNat (.int 0))) ng
      have hm2 := Same.seqT s2 hm
      refine ⟨_, rfl, _, rfl, b, _, 1, _, rfl, rfl, hm2, atI_nat (j := 1) rfl, s, _, u, _, rfl, rfl, Same.seqA s2 hs, atI_st a0 (by rw [hst]; exact a1), ?_⟩
      refine ⟨_, rfl, _, rfl, b, _, 2, _, rfl, rfl, hm2, atI_nat (j := 2) rfl, g, _, v, v.toNat, rfl, rfl, upd_same, by rw [List.length_set, List.length_map]; exact ixN_ok b0 (by rw [hst]; exact b1), ?_⟩
      rw [upd_upd, map_set, map_set]
      exact ⟨_, rfl, k g _ upd_same (Same.new ng)⟩
    | turn kk =>
      obtain ⟨k0', k1'⟩ : 0 ≤ kk ∧ kk < rs.length := can
      obtain ⟨g2, rr, eg, erg, hg, hlg⟩ := ring_at pe k0' k1'
      have ok := rok rr (List.mem_of_getElem? erg)
      refine ⟨_, rfl, b, _, 0, _, rfl, rfl, hm1, atI_nat (j := 0) rfl, rfl, _, rfl, iteF ?_⟩
      refine ⟨_, rfl, x, C, dx, fs, _, rfl, s1 _ _ hx, yc.c, yc.r, lr, ?_⟩
      refine ⟨_, rfl, b, _, 1, _, rfl, rfl, hm1, atI_nat (j := 1) rfl, ?_⟩
      refine ⟨e, zs, kk, _, rfl, rfl, Same.seqT s1 he, atI_int k0' eg, ?_⟩
      refine ⟨g2, rr.map V.int, H, rfl, .inr hg, .of_same s1, fun J G w1 hG => ?_⟩
      refine for_it w1 (fun i σ H' => ∃ (v5 v6 : Option V), σ = [some (.ref x), some (.ref s), some (.ref b), some (.ref g), some (.ref g2), v5, v6] ∧ H' g = some (.lst ((turnP rr st i).map V.int)) ∧ Same H H')
        ⟨none, none, rfl, upd_same, s1⟩ (fun i σ H' _ ⟨_, _, _, _, s⟩ => hG H' (.of_same s)) ?_ ?_
      · rintro i v σ H2 H3 hi ⟨v5, v6, rfl, eg2, s2⟩ ⟨T1, u, y, rfl, nT, rfl, e1, e2⟩
        cases Option.some.inj e1
        rw [List.length_map] at hi
        have hy2 := e2.symm.trans (getD_at hi)
        cases Option.some.inj hy2
        have s3 := s2.trans (Same.new (o := .tup [.int (i : Nat), .int (rr.getD i 0)]) nT)
        have eg3 := Same.new nT (o := .tup [.int (i : Nat), .int (rr.getD i 0)]) _ _ eg2
        have b1 := ok.2.1 _ (getD_mem hi)
        have b2 := ok.2.1 _ (getD_mem (prevI_lt hi))
        refine ⟨T1, _, rfl, SqT.of upd_same, rfl, _, _, rfl, _, _, rfl, rfl, ?_⟩
        refine ⟨_, rfl, _, rfl, _, rfl, _, _, rfl, rfl, g2, _, _, _, rfl, rfl, Same.seqT s3 hg, atI_prev hi, ?_⟩
        refine ⟨s, _, _, _, rfl, rfl, Same.seqA s3 hs, atI_st b2.1 (by rw [hst]; exact b2.2), ?_⟩
        refine ⟨_, rfl, _, rfl, g, _, _, (rr.getD i 0).toNat, rfl, rfl, eg3, by rw [List.length_map, turnP_len, hst]; exact ixN_ok b1.1 b1.2, ?_⟩
        refine ⟨_, _, rfl, ?_, Same.upd_new s3 ng⟩
        rw [upd_same, map_set, turnP_succ]
        rfl
      · rintro σ H2 ⟨v5, v6, rfl, eg2, s2⟩
        rw [List.length_map, turnP_eq ok hst] at eg2
        refine ⟨_, rfl, k g H2 ?_ s2⟩
        rw [eg2]
        show some (HO.lst ((turnTo rr st rr.length).map V.int)) = some (HO.lst ((turnTo (rs.getD kk.toNat []) st (rs.getD kk.toNat []).length).map V.int))
        rw [List.getD_eq_getElem?_getD, erg]
        rfl
end
end Y
set_option Elab.async false
set_option linter.all false
set_option maxRecDepth 100000
set_option maxHeartbeats 2000000
namespace Y
open PySem L2
abbrev sPic : Stmt := top 32
abbrev NPic : List Str := ["spots", "stand", "signs", "lines", "columns", "rows", "line", "column", "thing", "_", "row"]
/-! ### pictures -/
def signsV : Str := ".123456789abcdefghijklmnopqrstuvwxyz"
def SG : List Nat := signsV.cps.toList
theorem SG_len : SG.length = 36 := by decide +kernel
def sgN (z : Int) : Nat := SG.getD z.toNat 0
theorem sg_at {z : Int} (h0 : 0 ≤ z) (h1 : z < 36) : atI signsV.cps.toList z = some (sgN z) := by
  obtain ⟨n, rfl⟩ : ∃ n : Nat, z = (n : Int) := ⟨z.toNat, by omega⟩
  refine atI_nat ?_
  show SG[n]? = some (SG.getD _ 0)
  rw [show ((n : Int)).toNat = n by omega, List.getD_eq_getElem?_getD, List.getElem?_eq_getElem (by rw [SG_len]; omega)]
  rfl
abbrev Placed := List ((Int × Int) × Int)
/-- the sign at a spot -/
def signAt (ps : Placed) (p : Int × Int) : Nat := match ps.lookup p with
  | some z => sgN z
  | none => 35
def rowL (ps : Placed) (i w : Nat) : List Nat := (List.range w).map fun (j : Nat) => signAt ps ((i : Int), (j : Int))
def linesL (ps : Placed) (h w : Nat) : List (List Nat) := (List.range h).map fun (i : Nat) => rowL ps i w
/-- all lines, each with its end -/
def textL (ls : List (List Nat)) : List Nat := ls.flatMap fun l => l ++ [10]
/-! ### a block within a block -/
theorem relabel_at {env : Env} : ∀ {names : List (Str × NameKind)} {x : Str} {k : NameKind}, names.lookup x = some k → (k = .cell ∨ k = .free) →
    (names.map fun (n, k) => if (k == NameKind.free && env.scope.kind == .function && env.kindOf n == some .cell) then (n, NameKind.cell) else (n, k)).lookup x = some .cell ∨
    (names.map fun (n, k) => if (k == NameKind.free && env.scope.kind == .function && env.kindOf n == some .cell) then (n, NameKind.cell) else (n, k)).lookup x = some .free
  | [], _, _, h, _ => by simp at h
  | (n, k0) :: r, x, k, h, hk => by
    have ih : List.lookup x r = some k → _ := fun e => relabel_at (env := env) (names := r) (x := x) (k := k) e hk
    have key : ∀ k1 : NameKind, (x = n → k1 = .cell ∨ k1 = .free) → ∀ m : List (Str × NameKind), (x ≠ n → m.lookup x = some .cell ∨ m.lookup x = some .free) → ((n, k1) :: m).lookup x = some .cell ∨ ((n, k1) :: m).lookup x = some .free := fun k1 h1 m h2 => by
      by_cases e : x = n
      · subst e
        rcases h1 rfl with rfl | rfl
        · exact .inl (by simp)
        · exact .inr (by simp)
      · have hx : (x == n) = false := by simpa using e
        simp only [List.lookup_cons, hx]
        exact h2 e
    have at0 : x = n → k0 = .cell ∨ k0 = .free := fun e => by
      subst e
      have h0 : k0 = k := by simpa using h
      rw [h0]
      exact hk
    have rest : x ≠ n → List.lookup x r = some k := fun e => by
      have hx : (x == n) = false := by simpa using e
      rw [List.lookup_cons, hx] at h
      exact h
    by_cases c : (k0 == NameKind.free && env.scope.kind == .function && env.kindOf n == some .cell) = true
    · rw [List.map_cons, show (match (n, k0) with | (n, k) => if (k == NameKind.free && env.scope.kind == .function && env.kindOf n == some .cell) then (n, NameKind.cell) else (n, k)) = (n, NameKind.cell) from if_pos c]
      exact key _ (fun _ => .inl rfl) _ fun e => ih (rest e)
    · rw [List.map_cons, show (match (n, k0) with | (n, k) => if (k == NameKind.free && env.scope.kind == .function && env.kindOf n == some .cell) then (n, NameKind.cell) else (n, k)) = (n, k0) from if_neg c]
      exact key _ at0 _ fun e => ih (rest e)
theorem blkOk_re {N : List Str} {sc0 scope : Scope} {own : List (Str × Nat)} {env : Env} (h : blkC N sc0 scope own = true) : BlkOk N (relabel sc0 env) scope own := by
  obtain ⟨h1, h2, h3, h4, h5⟩ := blkOk_by h
  refine ⟨h1, h2, h3, fun y hy e => ?_, h5⟩
  rcases h4 y hy e with c | c
  · exact relabel_at c (.inl rfl)
  · exact relabel_at c (.inr rfl)
theorem yes_if {σ : L2.St} {H : Hp} {A B : Hp → Prop} (h : A H) : tYes σ H (fun b H3 => if b = true then A H3 else B H3) := by
  unfold tYes
  exact iteT h
/-- text.join(list or tuple of texts), the written part named -/
def rJoinK (K : PySem.W.Frag) : V → List V → Hp → VK → Prop := fun x xs H Q => ∃ (a : Str) (p : Addr) (ys : List Str), x = .str a ∧ xs = [.ref p] ∧ (SqL K H p (ys.map V.str) ∨ SqT K H p (ys.map V.str)) ∧ (ys.map (·.length)).sum + ys.length * a.length ≤ 16777216 ∧ Q (.str (Txt.join a ys)) H
theorem pe_joinK {X : Cx} {K : PySem.W.Frag} {o e : Expr} {to te : TE} {apos pos : Pos} (eK : X.K = K) (ho : PE X o to) (he : PE X e te) (hs : starEach [e] X.env = [(false, eval e X.env)] := by rfl) (hbase : attributeBase o "join" X.env (eval o X.env) = eval o X.env := by rfl)
    (hline : (apos.endLine == pos.line) = true := by rfl) : PE X (.Call (.Attribute o "join" apos) [e] [] pos) (tM1 (rJoinK K) to te) := by
  subst eK
  exact pe_join ho he hs hbase hline
theorem walk_zipT {K : PySem.W.Frag} {a b : Addr} {xs ys : List V} (hl : xs.length = ys.length) : Walk (RZ.ItzT K a b) xs.length (fun H => SqT K H a xs ∧ SqT K H b ys) (YPair (fun i => xs[i]?) (fun i => ys[i]?)) := by
  refine ⟨fun i H hi q => ⟨xs, ys, xs[i], ys[i]'(by omega), q.1, q.2, by simp [hi], by simp [show i < ys.length by omega]⟩, fun H q => ⟨xs, ys, q.1, q.2, .inl (Nat.le_refl _)⟩, fun i H v H' hi q y => ?_⟩
  obtain ⟨T, x, y, h1, h2, h3, h4, h5⟩ := y
  exact ⟨T, x, y, h1, h2, h3, h4 xs q.1, h5 ys q.2⟩
theorem gset_go {i : Nat} {v : V} {σ σ' : L2.St} {H : Hp} {Q : L2.St → Hp → Prop} (h : σ.set i (some v) = σ') (k : Q σ' H) : gName i v σ H Q := by
  subst h
  exact k
/-- zip of what two variables hold: lists, tuples, a tuple and a list -/
theorem zip_ways {K : PySem.W.Frag} {a b : Addr} {xs ys : List V} {i j : Nat} {σ : L2.St} {H : Hp} {R : It → Hp → Prop} (hi : σ[i]? = some (some (.ref a))) (hj : σ[j]? = some (some (.ref b))) (hl : xs.length = ys.length)
    (hab : (SqL K H a xs ∧ SqL K H b ys) ∨ (SqT K H a xs ∧ SqT K H b ys) ∨ (SqT K H a xs ∧ SqL K H b ys))
    (k : ∀ (J : It) (G : Hp → Prop), Walk J xs.length G (YPair (fun i => xs[i]?) (fun i => ys[i]?)) → (∀ H', Same H H' → G H') → R J H) :
    RZ.iZipA K (tCons (tVar i) (tCons (tVar j) tNil)) σ H R ∨ iZipM K (tCons (tVar i) (tCons (tVar j) tNil)) σ H R := by
  rcases hab with ⟨h1, h2⟩ | ⟨h1, h2⟩ | ⟨h1, h2⟩
  · exact .inl ⟨_, hi, _, hj, a, b, xs, ys, rfl, .inl ⟨h1, h2, k _ _ (walk_zip (by omega)) fun H' s => ⟨(Kp.of_same s).seqL h1, (Kp.of_same s).seqL h2⟩⟩⟩
  · exact .inl ⟨_, hi, _, hj, a, b, xs, ys, rfl, .inr ⟨h1, h2, k _ _ (walk_zipT hl) fun H' s => ⟨Same.seqT s h1, Same.seqT s h2⟩⟩⟩
  · exact .inr ⟨_, hi, _, hj, a, b, xs, ys, rfl, h1, h2, k _ _ (walk_zipM hl) fun H' s => ⟨Same.seqT s h1, (Kp.of_same s).seqL h2⟩⟩
def row2p (p : Int × Int) : List Int := [p.1, p.2]
theorem row2p_inj {p q : Int × Int} (h : row2p p = row2p q) : p = q := by
  unfold row2p at h
  injection h with h1 h2
  injection h2 with h2 _
  exact Prod.ext h1 h2
/-- the signs at the spots, by rows -/
def SignKV (kvs : List (List Key × V)) (ps : Placed) : Prop := KVs (fun v z => v = V.str ⟨#[sgN z]⟩) kvs (ps.map fun q => (row2p q.1, q.2))
theorem SignKV.get {kvs : List (List Key × V)} {ps : Placed} (h : SignKV kvs ps) (p : Int × Int) : (valV kvs (keyR (row2p p))).getD (.str ⟨#[35]⟩) = .str ⟨#[signAt ps p]⟩ := by
  unfold SignKV at h
  induction ps generalizing kvs with
  | nil => cases h; rfl
  | cons q ps ih =>
    cases h with
    | cons a t =>
      by_cases e : p = q.1
      · rw [show valV (_ :: _) (keyR (row2p p)) = some _ from valV_pos (by rw [a.1, e]), a.2]
        show V.str ⟨#[sgN q.2]⟩ = _
        unfold signAt
        rw [List.lookup_cons, show (p == q.1) = true by rw [e]; exact beq_self_eq_true _]
      · rw [valV_neg (fun z => e (row2p_inj (keyR_inj (z.symm.trans a.1)).symm.symm))]
        rw [ih t]
        unfold signAt
        rw [List.lookup_cons, show (p == q.1) = false from beq_eq_false_iff_ne.mpr e]
/-- a list of the signs of a line -/
def LineV (H : Hp) (v : V) (l : List Nat) : Prop := ∃ a, v = .ref a ∧ H a = some (.lst (l.map fun c => V.str ⟨#[c]⟩))
theorem LineV.same {H H' : Hp} {v : V} {l : List Nat} (h : LineV H v l) (s : Same H H') : LineV H' v l := let ⟨a, e, h⟩ := h; ⟨a, e, s _ _ h⟩
theorem sum_le : ∀ {ls : List Nat} {m : Nat}, (∀ x ∈ ls, x ≤ m) → ls.sum ≤ ls.length * m
  | [], _, _ => Nat.zero_le _
  | a :: ls, m, h => by
    have h1 := h a List.mem_cons_self
    have h2 := sum_le (ls := ls) (m := m) fun x hx => h x (List.mem_cons_of_mem _ hx)
    rw [List.sum_cons, List.length_cons, Nat.succ_mul]
    omega
theorem singles (l : List Nat) : (l.map fun c => [c]).flatten = l := by
  induction l with
  | nil => rfl
  | cons a l ih => rw [List.map_cons, List.flatten_cons, ih]; rfl
theorem strL_app (l m : List Nat) : strL l ++ strL m = strL (l ++ m) := by
  show (⟨_⟩ : Str) = ⟨_⟩
  simp [strL]
theorem nl_eq : (Str.ofString "\n") = strL [10] := by decide +kernel
theorem no_eq : (Str.ofString "").cps = #[] := by decide +kernel
theorem glued_nil (z : Str) (hz : z.cps = #[]) : ∀ ls : List (List Nat), Txt.join z (ls.map strL) = strL ls.flatten := by
  have go : ∀ (ls : List (List Nat)) (acc : List Nat), (ls.map strL).foldl (fun acc p => acc ++ z.cps ++ p.cps) acc.toArray = (acc ++ ls.flatten).toArray := by
    intro ls
    induction ls with
    | nil => intro acc; simp
    | cons l ls ih =>
      intro acc
      rw [List.map_cons, List.foldl_cons, hz]
      have := ih (acc ++ l)
      rw [hz] at this
      simpa [strL, List.append_assoc] using this
  intro ls
  cases ls with
  | nil => rfl
  | cons l ls =>
    show (⟨((l :: ls).map strL |>.drop 1).foldl _ _⟩ : Str) = _
    have := go ls l
    rw [List.map_cons, List.drop_one, List.tail_cons, List.headD_cons]
    show (⟨_⟩ : Str) = ⟨_⟩
    rw [show (strL l).cps = l.toArray from rfl, this]
    rfl
def spPic (K : PySem.W.Frag) : Sp := fun vs H Q _ => ∃ (a b : Addr) (xs : List V) (sp : List (Int × Int)) (st : List Int) (h w : Nat), vs = [.ref a, .ref b] ∧ ((SqL K H a xs ∧ SqL K H b (st.map V.int)) ∨ (SqT K H a xs ∧ SqT K H b (st.map V.int)) ∨ (SqT K H a xs ∧ SqL K H b (st.map V.int))) ∧ Paired (TieAt K H) xs sp ∧
  sp.length = st.length ∧ sp ≠ [] ∧ sp.length ≤ 60 ∧ sp.Nodup ∧ (∀ z ∈ st, 0 ≤ z ∧ z < 36) ∧ (∀ p ∈ sp, 0 ≤ p.1 ∧ p.1 < h ∧ 0 ≤ p.2 ∧ p.2 < w) ∧ (∃ p ∈ sp, p.1 = (h : Int) - 1) ∧ (∃ p ∈ sp, p.2 = (w : Int) - 1) ∧ h ≤ 60 ∧ w ≤ 60 ∧
  ∀ H', Same H H' → Q (.str (strL (textL (linesL (sp.zip st) h w)))) H'
section
variable {P : Program} {w : World} {K : PySem.W.Frag} {mg : Str → Option Value} {base : Heap}
theorem scPic : FnScope NPic ["spots", "stand"] (defScope sPic) := ⟨rfl, rfl, rfl, by decide +kernel, rfl, by decide +kernel, by decide +kernel⟩
structure TPic (mg : Str → Option Value) (tw ts : Tok) : Prop where
  wall : mg "WALL" = some (.str ⟨#[35]⟩ tw)
  signs : mg "SIGNS" = some (.str signsV ts)
  zip : mg "zip" = none
  range : mg "range" = none
  max : mg "max" = none
theorem ok_pic {f : Addr} {fd : FuncData} {tw ts : Tok} (F : Fun K "picture" "picture" sPic f fd) (T : TPic mg tw ts) : FnOk P w K mg base CX0 1 f fd ["spots", "stand"] (spPic K) := by
  refine F.ok scPic (fun vs H Q E h => ?_) (fun cdv A outer s H vs Q E hr h => ?_)
  · obtain ⟨a, b, xs, sp, st, h, w, rfl, _⟩ := h
    rfl
  · obtain ⟨a, b, xs, sp, st, h, w', rfl, hab, px, l1, ne, l60, nd, hst, hsp, mh, mw, h60, w60, k⟩ := h
    have hu := hu_of hr
    have hu64 := hr.units
    refine ⟨_, pss_cons (ps_set (i := 2) scPic.nd rfl (Or.inr rfl) (pe_dcT (own := [("line", 6), ("column", 7), ("thing", 8)]) (g := gTup K 2 (gCons (gTup K 2 (gCons (gName 6) (gCons (gName 7) gNil))) (gCons (gName 8) gNil))) (tt := tYes) hu rfl scPic.nd
          (pi_or (RZ.pi_zipA (by rfl) T.zip (pa_cons (pv 0) (pa_cons (pv 1) pa_nil))) (pi_zipM (by rfl) T.zip (pa_cons (pv 0) (pa_cons (pv 1) pa_nil)))) (blkOk_by (N := NPic) (sc := defScope sPic) (by decide +kernel))
          (fun _ _ _ _ _ => pgT (K := K) (n := 2) rfl rfl (pgs_cons (pgT (K := K) (n := 2) rfl rfl (pgs_cons (pg_name (i := 6) scPic.nd rfl (Or.inl rfl)) (pgs_cons (pg_name (i := 7) scPic.nd rfl (Or.inl rfl)) pgs_nil)) rfl rfl) (pgs_cons (pg_name (i := 8) scPic.nd rfl (Or.inl rfl)) pgs_nil)) rfl rfl)
          (fun _ _ _ _ _ => pts_nil) (fun _ _ _ _ _ => pe_tup (pa_cons (pv 6) (pa_cons (pv 7) pa_nil))) (fun _ _ _ _ _ => pe_ix ix_str (pgS T.signs) (pv 8) (fun _ _ => rfl))))
      (pss_cons (ps_set (i := 3) scPic.nd rfl (Or.inl rfl) (pe_callTy cr_range1 (by rfl) T.range (by decide +kernel) (pa_cons (pe_op op_add (pe_callBK (call_maxI rfl hu64) (by rfl) T.max PyProof.Rows.boot_max (pa_cons
          (pe_lc (own := [("line", 6), ("_", 9)]) (g := gTup K 2 (gCons (gName 6) (gCons (gName 9) gNil))) (tt := tYes) rfl scPic.nd (pi_seqV (pv 0)) (blkOk_by (N := NPic) (sc := defScope sPic) (by decide +kernel))
            (fun _ _ _ _ _ => pgT (K := K) (n := 2) rfl rfl (pgs_cons (pg_name (i := 6) scPic.nd rfl (Or.inl rfl)) (pgs_cons (pg_name (i := 9) scPic.nd rfl (Or.inl rfl)) pgs_nil)) rfl rfl) (fun _ _ _ _ _ => pts_nil) (fun _ _ _ _ _ => pv 6)) pa_nil) (pk_cons (pe_un un_neg pe_int) pk_nil)) pe_int) pa_nil)))
      (pss_cons (ps_set (i := 4) scPic.nd rfl (Or.inr rfl) (pe_callTy cr_range1 (by rfl) T.range (by decide +kernel) (pa_cons (pe_op op_add (pe_callBK (call_maxI rfl hu64) (by rfl) T.max PyProof.Rows.boot_max (pa_cons
          (pe_lc (own := [("_", 9), ("column", 7)]) (g := gTup K 2 (gCons (gName 9) (gCons (gName 7) gNil))) (tt := tYes) rfl scPic.nd (pi_seqV (pv 0)) (blkOk_by (N := NPic) (sc := defScope sPic) (by decide +kernel))
            (fun _ _ _ _ _ => pgT (K := K) (n := 2) rfl rfl (pgs_cons (pg_name (i := 9) scPic.nd rfl (Or.inl rfl)) (pgs_cons (pg_name (i := 7) scPic.nd rfl (Or.inl rfl)) pgs_nil)) rfl rfl) (fun _ _ _ _ _ => pts_nil) (fun _ _ _ _ _ => pv 7)) pa_nil) (pk_cons (pe_un un_neg pe_int) pk_nil)) pe_int) pa_nil)))
      (pss_cons (ps_setLc (own := [("line", 6)]) (i := 5) (g := gName 6) (tt := tYes) rfl scPic.nd rfl rfl (sw_true rfl rfl rfl (by decide +kernel)) (pi_rngV (pv 3)) (blkOk_by (N := NPic) (sc := defScope sPic) (by decide +kernel))
          (fun _ _ _ _ _ => pg_name (i := 6) scPic.nd rfl (Or.inr rfl)) (fun _ _ _ _ _ => pts_nil)
          (fun _ _ _ _ _ => pe_lc (own := [("column", 7)]) (g := gName 7) (tt := tYes) rfl scPic.nd (pi_rngV (pv 4)) (blkOk_re (N := NPic) (by decide +kernel))
            (fun _ _ _ _ _ => pg_name (i := 7) scPic.nd rfl (Or.inl rfl)) (fun _ _ _ _ _ => pts_nil) (fun _ _ _ _ _ => pe_dget2 hu (pv 2) (pe_tup (pa_cons (pv 6) (pa_cons (pv 7) pa_nil))) (pgS T.wall) ⟨rfl, rfl, rfl, rfl⟩)))
      (pss_one (ps_ret (pe_joinK (K := K) rfl pe_str (pe_lc (own := [("row", 10)]) (g := gName 10) (tt := tYes) rfl scPic.nd (pi_list (pv 5)) (blkOk_by (N := NPic) (sc := defScope sPic) (by decide +kernel))
          (fun _ _ _ _ _ => pg_name (i := 10) scPic.nd rfl (Or.inl rfl)) (fun _ _ _ _ _ => pts_nil) (fun _ _ _ _ _ => pe_op op_add_str (pe_joinK (K := K) rfl pe_str (pv 10)) pe_str)))))))), ?_⟩
    have lx : xs.length = sp.length := Paired.length px
    refine zip_ways (K := K) (xs := xs) (ys := st.map V.int) rfl rfl (by rw [List.length_map]; omega) hab fun J G wk hG D nD => ?_
    refine dcT_it wk (fun i H' => ∃ kvs, H' D = some (.dT kvs) ∧ SignKV kvs ((sp.zip st).take i) ∧ Same H H') ⟨[], upd_same, .nil, Same.new nD⟩ (fun i H' _ ⟨_, _, _, s⟩ => hG H' s) ?_ ?_
    · rintro i v H1 H1' hi ⟨kvs, eD, hk, s1⟩ ⟨T1, x, y, rfl, nT, rfl, hx, hy⟩
      obtain ⟨q, eq, b', rfl, hb'⟩ := par_get px hx
      have hi' : i < st.length := by omega
      obtain ⟨z, ez⟩ : ∃ z, st[i]? = some z := ⟨_, List.getElem?_eq_getElem hi'⟩
      obtain rfl : y = V.int z := by
        have hy : (st.map V.int)[i]? = some y := hy
        rw [List.getElem?_map, ez] at hy
        exact (Option.some.inj hy).symm
      have mz := hst z (List.mem_of_getElem? ez)
      have sT := Same.new (o := .tup [V.ref b', .int z]) nT
      refine ⟨T1, _, rfl, SqT.of upd_same, rfl, _, _, rfl, b', _, rfl, Same.seqT (s1.trans sT) hb', rfl, _, _, rfl, _, _, rfl, rfl, _, _, rfl, rfl, rfl, yes_if ?_⟩
      refine ⟨_, rfl, _, rfl, (by show 2 ≤ sizeLine; decide), fun kb nkb => ?_⟩
      have sk := Same.new (o := .tup [V.int q.1, .int q.2]) nkb
      have sA := sT.trans sk
      have lk : kvs.length ≤ 60 := by
        have := Paired.length hk
        rw [List.length_map, List.length_take, List.length_zip] at this
        omega
      refine ⟨_, rfl, signsV, z, sgN z, rfl, rfl, Nat.le_trans (by decide +kernel : signsV.length ≤ 36) (by decide), sg_at mz.1 mz.2, kvs, keyR (row2p q), kb, rfl, by rw [keyR_kV]; exact upd_same, sA _ _ eD, Nat.lt_of_le_of_lt lk (by decide), _, upd_same, ?_, Same.upd_new (s1.trans sA) nD⟩
      have ezp : (sp.zip st)[i]? = some (q, z) := by
        rw [List.getElem?_zip_eq_some]
        exact ⟨eq, ez⟩
      unfold SignKV
      rw [take_next ezp, List.map_append]
      refine KVs.snoc (F := fun v z => v = V.str ⟨#[sgN z]⟩) (show KVs _ kvs _ from hk) ?_ rfl
      rw [List.map_map]
      intro hm
      obtain ⟨pz, hpz, e⟩ := List.mem_map.mp hm
      have e := row2p_inj e
      obtain ⟨j, hj⟩ := List.mem_iff_getElem?.mp hpz
      rw [List.getElem?_take] at hj
      split at hj
      · rename_i lt
        have h1 := (List.getElem?_zip_eq_some.mp hj).1
        obtain ⟨a1, g1⟩ := List.getElem?_eq_some_iff.mp h1
        obtain ⟨a2, g2⟩ := List.getElem?_eq_some_iff.mp eq
        exact List.pairwise_iff_getElem.mp nd j i a1 a2 lt (by rw [g1, g2]; exact e)
      · cases hj
    · rintro H1 ⟨kvs, eD, hk, s1⟩
      have lz : (sp.zip st).length = xs.length := by rw [List.length_zip]; omega
      rw [← lz, List.take_length] at hk
      refine gset_go (σ' := [some (.ref a), some (.ref b), some (.ref D), none, none, none, none, none, none, none, none]) rfl ?_
      dsimp only
      have hA : SqA K H a xs := by
        rcases hab with ⟨h1, _⟩ | ⟨h1, _⟩ | ⟨h1, _⟩
        · exact .inl h1
        · exact .inr h1
        · exact .inr h1
      have szl : (60 : Nat) < sizeLine := by decide
      -- how many lines
      refine ⟨a, xs, H1, rfl, Same.seqA s1 hA, .refl H1, fun J2 G2 w2 hG2 D2 nD2 => ?_⟩
      refine lc_it w2 (fun i H' => H' D2 = some (.lst (((sp.take i).map fun p => p.1).map V.int)) ∧ Same H1 H') ⟨upd_same, Same.new nD2⟩ (fun i H' _ h => hG2 H' (.of_same h.2)) ?_ ?_
      · rintro i v H2 H2' hi ⟨eD2, s2⟩ ⟨rfl, hx⟩
        obtain ⟨q, eq, b', rfl, hb'⟩ := par_get px hx
        refine ⟨b', _, rfl, Same.seqT (s1.trans s2) hb', rfl, _, _, rfl, _, _, rfl, rfl, rfl, yes_if ?_⟩
        refine ⟨_, rfl, _, eD2, ?_, ?_, Same.upd_new s2 nD2⟩
        · rw [List.length_map, List.length_map, List.length_take]
          omega
        · rw [upd_same, take_next eq, List.map_append, List.map_append]
          rfl
      · rintro H2 ⟨eD2, s2⟩
        rw [lx, List.take_length] at eD2
        refine ⟨1, rfl, D2, sp.map (fun p => p.1), _, rfl, rfl, SqL.of eD2, fun e => absurd (List.map_eq_nil_iff.mp e) ne, fun m hm hle => ?_⟩
        obtain rfl : m = (h : Int) - 1 := by
          obtain ⟨p, hp, rfl⟩ := List.mem_map.mp hm
          obtain ⟨p2, hp2, e2⟩ := mh
          have h1 := hle p2.1 (List.mem_map.mpr ⟨p2, hp2, rfl⟩)
          have h2 := (hsp p hp).2.1
          omega
        refine ⟨_, _, rfl, rfl, _, rfl, fun dl ndl => ?_⟩
        refine gset_go (σ' := [some (.ref a), some (.ref b), some (.ref D), some (.ref dl), none, none, none, none, none, none, none]) rfl ?_
        dsimp only
        have sl := Same.new (o := .rng 0 ((h : Int) - 1 + 1)) ndl
        have el : (upd H2 dl (.rng 0 ((h : Int) - 1 + 1))) dl = some (.rng 0 ((h : Int) - 1 + 1)) := upd_same
        have sA := (s1.trans s2).trans sl
        have eDA := sl _ _ (s2 _ _ eD)
        generalize upd H2 dl (.rng 0 ((h : Int) - 1 + 1)) = H3 at sl el sA eDA ⊢
        -- how many columns
        refine ⟨a, xs, H3, rfl, Same.seqA sA hA, .refl H3, fun J3 G3 w3 hG3 D3 nD3 => ?_⟩
        refine lc_it w3 (fun i H' => H' D3 = some (.lst (((sp.take i).map fun p => p.2).map V.int)) ∧ Same H3 H') ⟨upd_same, Same.new nD3⟩ (fun i H' _ h => hG3 H' (.of_same h.2)) ?_ ?_
        · rintro i v H4 H4' hi ⟨eD3, s3⟩ ⟨rfl, hx⟩
          obtain ⟨q, eq, b', rfl, hb'⟩ := par_get px hx
          refine ⟨b', _, rfl, Same.seqT (sA.trans s3) hb', rfl, _, _, rfl, _, _, rfl, rfl, rfl, yes_if ?_⟩
          refine ⟨_, rfl, _, eD3, ?_, ?_, Same.upd_new s3 nD3⟩
          · rw [List.length_map, List.length_map, List.length_take]
            omega
          · rw [upd_same, take_next eq, List.map_append, List.map_append]
            rfl
        · rintro H4 ⟨eD3, s3⟩
          rw [lx, List.take_length] at eD3
          refine ⟨1, rfl, D3, sp.map (fun p => p.2), _, rfl, rfl, SqL.of eD3, fun e => absurd (List.map_eq_nil_iff.mp e) ne, fun m hm hle => ?_⟩
          obtain rfl : m = (w' : Int) - 1 := by
            obtain ⟨p, hp, rfl⟩ := List.mem_map.mp hm
            obtain ⟨p2, hp2, e2⟩ := mw
            have h1 := hle p2.2 (List.mem_map.mpr ⟨p2, hp2, rfl⟩)
            have h2 := (hsp p hp).2.2.2
            omega
          refine ⟨_, _, rfl, rfl, _, rfl, fun dc ndc => ?_⟩
          refine gset_go (σ' := [some (.ref a), some (.ref b), some (.ref D), some (.ref dl), some (.ref dc), none, none, none, none, none, none]) rfl ?_
          dsimp only
          have sc := Same.new (o := .rng 0 ((w' : Int) - 1 + 1)) ndc
          have ec : (upd H4 dc (.rng 0 ((w' : Int) - 1 + 1))) dc = some (.rng 0 ((w' : Int) - 1 + 1)) := upd_same
          have sB := (sA.trans s3).trans sc
          have elB := sc _ _ (s3 _ _ el)
          have eDB := sc _ _ (s3 _ _ eDA)
          generalize upd H4 dc (.rng 0 ((w' : Int) - 1 + 1)) = H5 at sc ec sB elB eDB ⊢
          -- the lines
          refine ⟨_, rfl, dl, 0, _, rfl, elB, ⟨by omega, by omega, by omega, by omega⟩, fun Dr nDr => ?_⟩
          have nh : ((h : Int) - 1 + 1 - 0).toNat = h := by omega
          have nw : ((w' : Int) - 1 + 1 - 0).toNat = w' := by omega
          rw [nh]
          refine lc_range (lo := 0) (n := h) (fun i H' => ∃ rs, H' Dr = some (.lst rs) ∧ Paired (fun v l => LineV H' v l ∧ v ≠ V.ref Dr) rs ((List.range i).map fun (i : Nat) => rowL (sp.zip st) i w') ∧ Same H5 H') ⟨[], upd_same, .nil, Same.new nDr⟩ (fun i H6 hi hh => ?_) (fun H6 hh => ?_)
          · obtain ⟨rs, eDr, pr, s6⟩ := hh
            refine ⟨rfl, yes_if ?_⟩
            refine ⟨_, rfl, dc, 0, _, rfl, s6 _ _ ec, ⟨by omega, by omega, by omega, by omega⟩, fun Dk nDk => ?_⟩
            rw [nw]
            refine lc_range (lo := 0) (n := w') (fun j H' => H' Dk = some (.lst (((List.range j).map fun (j : Nat) => signAt (sp.zip st) ((i : Int), (j : Int))).map fun c => V.str ⟨#[c]⟩)) ∧ Same H6 H') ⟨upd_same, Same.new nDk⟩ (fun j H7 hj hh => ?_) (fun H7 hh => ?_)
            · obtain ⟨eDk, s7⟩ := hh
              refine ⟨rfl, yes_if ?_⟩
              have eD7 := s7 _ _ (s6 _ _ eDB)
              refine ⟨_, rfl, D, rfl, .inr ⟨kvs, .inl eD7⟩, _, rfl, _, rfl, (by show 2 ≤ sizeLine; decide), fun kb nkb => ?_⟩
              have sk := Same.new (o := .tup [V.int (0 + (i : Int)), .int (0 + (j : Int))]) nkb
              refine ⟨_, .inr ⟨kvs, keyR (row2p ((i : Int), (j : Int))), kb, .inl (sk _ _ eD7), rfl, ?_, rfl⟩, ?_⟩
              · rw [keyR_kV, Int.zero_add, Int.zero_add]
                exact upd_same
              · rw [SignKV.get hk]
                refine ⟨_, sk _ _ eDk, by rw [List.length_map, List.length_map, List.length_range]; exact Nat.lt_of_lt_of_le (by omega : j < 61) (by decide), ?_, Same.upd_new (s7.trans sk) nDk⟩
                rw [upd_same, List.range_succ, List.map_append, List.map_append]
                rfl
            · obtain ⟨eDk, s7⟩ := hh
              have lr := Paired.length pr
              rw [List.length_map, List.length_range] at lr
              refine ⟨rs, s7 _ _ eDr, by rw [lr]; exact Nat.lt_of_lt_of_le (by omega : i < 61) (by decide), _, upd_same, ?_, Same.upd_new (s6.trans s7) nDr⟩
              have nkr : Dk ≠ Dr := fun z => by rw [z, eDr] at nDk; cases nDk
              have keep : ∀ v l, LineV H6 v l ∧ v ≠ V.ref Dr → LineV (upd H7 Dr (.lst (rs ++ [V.ref Dk]))) v l ∧ v ≠ V.ref Dr := fun v l ⟨⟨a', e, hl⟩, n⟩ =>
                ⟨⟨a', e, by rw [upd_ne fun z => n (by rw [e, z])]; exact s7 _ _ hl⟩, n⟩
              rw [List.range_succ, List.map_append]
              refine par_snoc (par_map (fun v l hv => keep v l hv) pr) ⟨⟨Dk, rfl, ?_⟩, fun z => nkr (by injection z)⟩
              rw [upd_ne nkr]
              exact eDk
          · obtain ⟨rs, eDr, pr, s6⟩ := hh
            refine gset_go (σ' := [some (.ref a), some (.ref b), some (.ref D), some (.ref dl), some (.ref dc), some (.ref Dr), none, none, none, none, none]) rfl ?_
            dsimp only
            have lr := Paired.length pr
            rw [List.length_map, List.length_range] at lr
            have row_len : ∀ l ∈ linesL (sp.zip st) h w', l.length ≤ 60 := fun l hl => by
              obtain ⟨i, _, rfl⟩ := List.mem_map.mp hl
              unfold rowL
              rw [List.length_map, List.length_range]
              exact w60
            have ll : (linesL (sp.zip st) h w').length = h := by
              unfold linesL
              rw [List.length_map, List.length_range]
            refine ⟨⟨_, rfl⟩, _, rfl, Dr, rfl, ⟨rs, SqL.of eDr⟩, fun Dj nDj => ?_⟩
            refine lc_it (walk_list (xs := rs)) (fun i H' => H' Dj = some (.lst ((((linesL (sp.zip st) h w').take i).map fun l => strL (l ++ [10])).map V.str)) ∧ Same H6 H') ⟨upd_same, Same.new nDj⟩ (fun i H' _ hh => SqL.of (hh.2 _ _ eDr)) ?_ ?_
            · rintro i v H7 H7' hi ⟨eDj, s7⟩ ⟨rfl, hx⟩
              obtain ⟨l, el', ⟨a', rfl, hl⟩, _⟩ := par_get pr hx
              have el' : (linesL (sp.zip st) h w')[i]? = some l := el'
              have ml := row_len l (List.mem_of_getElem? el')
              refine ⟨rfl, yes_if ?_⟩
              refine ⟨⟨_, rfl⟩, _, rfl, _, a', (l.map fun c => [c]).map strL, rfl, rfl, .inl (SqL.of (by rw [s7 _ _ hl, List.map_map, List.map_map]; rfl)), ?_, ?_⟩
              · have := sum_le (ls := ((l.map fun c => [c]).map strL).map (·.length)) (m := 1) fun x hx => by
                  obtain ⟨y, hy, rfl⟩ := List.mem_map.mp hx
                  obtain ⟨z, hz, rfl⟩ := List.mem_map.mp hy
                  obtain ⟨c, _, rfl⟩ := List.mem_map.mp hz
                  exact Nat.le_refl 1
                rw [List.length_map, List.length_map, List.length_map] at this
                have e0 : Str.length (Str.ofString "") = 0 := by decide +kernel
                rw [e0, Nat.mul_zero]
                omega
              · rw [glued_nil _ no_eq, singles, nl_eq]
                refine ⟨strL l, strL [10], rfl, rfl, ?_, _, eDj, ?_, ?_, Same.upd_new s7 nDj⟩
                · rw [strL_len, strL_len]
                  exact Nat.le_trans (by show l.length + 1 ≤ 61; omega) (by decide)
                · rw [List.length_map, List.length_map, List.length_take]
                  omega
                · rw [upd_same, strL_app, take_next el', List.map_append, List.map_append]
                  rfl
            · rintro H7 ⟨eDj, s7⟩
              rw [show rs.length = (linesL (sp.zip st) h w').length by rw [ll]; exact lr, List.take_length] at eDj
              refine ⟨_, Dj, ((linesL (sp.zip st) h w').map fun l => l ++ [10]).map strL, rfl, rfl, .inl (SqL.of (by rw [eDj, List.map_map (l := linesL (sp.zip st) h w') (f := fun l => l ++ [10])]; rfl)), ?_, ?_⟩
              · have := sum_le (ls := (((linesL (sp.zip st) h w').map fun l => l ++ [10]).map strL).map (·.length)) (m := 61) fun x hx => by
                  obtain ⟨y, hy, rfl⟩ := List.mem_map.mp hx
                  obtain ⟨z, hz, rfl⟩ := List.mem_map.mp hy
                  obtain ⟨l, hl, rfl⟩ := List.mem_map.mp hz
                  rw [strL_len, List.length_append]
                  have := row_len l hl
                  show l.length + 1 ≤ 61
                  omega
                rw [List.length_map, List.length_map, List.length_map, ll] at this
                have e0 : Str.length (Str.ofString "") = 0 := by decide +kernel
                rw [e0, Nat.mul_zero]
                omega
              · rw [glued_nil _ no_eq]
                exact k H7 (sB.trans (s6.trans s7))
end
end Y
set_option Elab.async false
set_option linter.all false
set_option maxRecDepth 100000
set_option maxHeartbeats 2000000
namespace Y
open PySem L2
abbrev sDrawn : Stmt := top 29
abbrev NDrawn : List Str := ["text", "found", "line", "signs", "column", "sign"]
theorem sq_st {t : TS} {D : Ends} {σ σ' : L2.St} {H : Hp} (h : σ = σ') (k : t D σ' H) : t D σ H := by
  subst h
  exact k
theorem sg_small : ∀ c ∈ SG, c < 128 := by decide +kernel
theorem sg_index : ∀ c ∈ SG, Txt.index0 signsV ⟨#[c]⟩ = some (SG.idxOf c) := by decide +kernel
/-! ### what a text draws -/
def cellF (i : Nat) (l : List Nat) (j : Nat) : Placed := match l[j]? with
  | some c => if c ∈ SG then [(((i : Int), (j : Int)), ((SG.idxOf c : Nat) : Int))] else []
  | none => []
def rowF (i : Nat) (l : List Nat) (m : Nat) : Placed := (List.range m).flatMap (cellF i l)
def foundF (ls : List (List Nat)) (m : Nat) : Placed := (List.range m).flatMap fun i => rowF i (ls.getD i []) (ls.getD i []).length
theorem cellF_at {i j : Nat} {l : List Nat} : ∀ p ∈ cellF i l j, p.1 = ((i : Int), (j : Int)) := fun p hp => by
  unfold cellF at hp
  split at hp
  · split at hp
    · rw [List.mem_singleton.mp hp]
    · cases hp
  · cases hp
theorem rowF_at {i m : Nat} {l : List Nat} : ∀ p ∈ rowF i l m, p.1.1 = (i : Int) ∧ p.1.2 < (m : Int) := fun p hp => by
  obtain ⟨j, hj, hp⟩ := List.mem_flatMap.mp hp
  rw [cellF_at p hp]
  have := List.mem_range.mp hj
  exact ⟨rfl, by show (j : Int) < m; omega⟩
theorem foundF_at {ls : List (List Nat)} {m : Nat} : ∀ p ∈ foundF ls m, p.1.1 < (m : Int) := fun p hp => by
  obtain ⟨i, hi, hp⟩ := List.mem_flatMap.mp hp
  rw [(rowF_at p hp).1]
  have := List.mem_range.mp hi
  omega
theorem rowF_succ (i m : Nat) (l : List Nat) : rowF i l (m + 1) = rowF i l m ++ cellF i l m := by
  unfold rowF
  rw [List.range_succ, List.flatMap_append]
  simp
theorem foundF_succ (ls : List (List Nat)) (m : Nat) : foundF ls (m + 1) = foundF ls m ++ rowF m (ls.getD m []) (ls.getD m []).length := by
  unfold foundF
  rw [List.range_succ, List.flatMap_append]
  simp
theorem cellF_len (i j : Nat) (l : List Nat) : (cellF i l j).length ≤ 1 := by
  unfold cellF
  split
  · split <;> simp
  · simp
theorem rowF_len (i : Nat) (l : List Nat) : ∀ m, (rowF i l m).length ≤ m
  | 0 => Nat.le_refl 0
  | m + 1 => by
    rw [rowF_succ, List.length_append]
    have := rowF_len i l m
    have := cellF_len i m l
    omega
theorem foundF_len {ls : List (List Nat)} (h : ∀ l ∈ ls, l.length ≤ 60) : ∀ m, (foundF ls m).length ≤ 60 * m
  | 0 => Nat.zero_le _
  | m + 1 => by
    rw [foundF_succ, List.length_append]
    have h1 := foundF_len h m
    have h2 := rowF_len m (ls.getD m []) (ls.getD m []).length
    have h3 : (ls.getD m []).length ≤ 60 := by
      rw [List.getD_eq_getElem?_getD]
      cases e : ls[m]? with
      | none => exact Nat.zero_le _
      | some l => exact h l (List.mem_of_getElem? e)
    omega
theorem iteT' {c : Bool} {A B : Prop} (h : c = true) (a : A) : if c = true then A else B := by rw [if_pos h]; exact a
theorem iteF' {c : Bool} {A B : Prop} (h : c = false) (b : B) : if c = true then A else B := by rw [if_neg (by rw [h]; exact Bool.false_ne_true)]; exact b
def IntKV (kvs : List (List Key × V)) (ps : Placed) : Prop := KVs (fun v z => v = V.int z) kvs (ps.map fun q => (row2p q.1, q.2))
def spDrawn : Sp := fun vs H Q _ => ∃ (ls : List (List Nat)), vs = [.str (strL (joinL 10 ls))] ∧ ls ≠ [] ∧ ls.length ≤ 60 ∧ (∀ l ∈ ls, l.length ≤ 60 ∧ ∀ c ∈ l, c ∈ SG ∨ c = 35) ∧ (joinL 10 ls).length ≤ 10000 ∧
  ∀ d kvs H', H d = none → H' d = some (.dT kvs) → IntKV kvs (foundF ls ls.length) → Same H H' → Q (.ref d) H'
section
variable {P : Program} {w : World} {K : PySem.W.Frag} {mg : Str → Option Value} {base : Heap}
theorem scDrawn : FnScope NDrawn ["text"] (defScope sDrawn) := ⟨rfl, rfl, rfl, by decide +kernel, rfl, by decide +kernel, by decide +kernel⟩
theorem ok_drawn {f : Addr} {fd : FuncData} {tw ts : Tok} (F : Fun K "drawn" "drawn" sDrawn f fd) (T : TPic mg tw ts) (gE : mg "enumerate" = none) : FnOk P w K mg base CX0 3 f fd ["text"] spDrawn := by
  refine F.ok scDrawn (fun vs H Q E h => ?_) (fun cdv A outer s H vs Q E hr h => ?_)
  · obtain ⟨ls, rfl, _⟩ := h
    rfl
  · obtain ⟨ls, rfl, ne, l60, hls, lj, k⟩ := h
    have hu := hu_of hr
    refine ⟨_, pss_cons (ps_set (i := 1) scDrawn.nd rfl (Or.inl rfl) pe_dnewT)
      (pss_cons (ps_for PassesOwn.never rfl (pi_enum (by rfl) gE (pa_cons (pe_split (pv 0) pe_str) pa_nil)) (pg_tup rfl (pgs_cons (pg_name (i := 2) scDrawn.nd rfl (Or.inl rfl)) (pgs_cons (pg_name (i := 3) scDrawn.nd rfl (Or.inl rfl)) pgs_nil)))
        (pss_one (ps_for PassesOwn.never rfl (pi_enumA (by rfl) gE (pv 3)) (pg_tup rfl (pgs_cons (pg_name (i := 4) scDrawn.nd rfl (Or.inl rfl)) (pgs_cons (pg_name (i := 5) scDrawn.nd rfl (Or.inl rfl)) pgs_nil)))
          (pss_one (ps_if (pt_cmpR op_in_sign (pv 5) (pgS T.signs) (by rfl))
            (pss_one (ps_dput hu (pv 1) (pe_tup (pa_cons (pv 2) (pa_cons (pv 4) pa_nil))) (pe_bmS PySem.F.plainAttrs_str PySem.F.slot_str_index PySem.F.type_str_index (mt_indexX rfl LamX.takes0) (pgS T.signs) (pa_cons (pv 5) pa_nil)) rfl))
            (pss_one (ps_if (pt_cmpR op_ne (pv 5) (pgS T.wall) (nomark _)) (pss_one ps_never) pss_nil)))))))
      (pss_one (ps_ret (pv 1)))), ?_⟩
    have szl : sizeLine = 2 ^ 24 := rfl
    refine fun d nd => gset_go (σ' := [some (.str (strL (joinL 10 ls))), some (.ref d), none, none, none, none]) rfl ?_
    dsimp only
    have s1 := Same.new (o := .dT []) nd
    have ed : (upd H d (.dT [])) d = some (.dT []) := upd_same
    generalize upd H d (.dT []) = H1 at s1 ed ⊢
    refine ⟨_, rfl, ⟨_, rfl⟩, strL (joinL 10 ls), strL [10], rfl, by rw [nl_eq], by decide, by rw [strL_len]; omega, fun a na => ⟨a, _, rfl, SqL.of upd_same, ?_⟩⟩
    have no10 : ∀ l ∈ ls, 10 ∉ l := fun l hl h10 => by
      rcases (hls l hl).2 10 h10 with h | h
      · exact absurd h (by decide +kernel)
      · cases h
    have spl : Txt.split (strL (joinL 10 ls)) (strL [10]) = ls.map strL := by
      rw [show strL [10] = ⟨#[10]⟩ from rfl, split_one _ 10 (by decide), split_join 10 ls ne no10]
    rw [spl]
    have s2 := Same.new (o := .lst ((ls.map strL).map V.str)) na
    have ea : (upd H1 a (.lst ((ls.map strL).map V.str))) a = some (.lst ((ls.map strL).map V.str)) := upd_same
    have sA := s1.trans s2
    have edA := s2 _ _ ed
    have nda : a ≠ d := Ne.symm (ne_of_none ed na)
    generalize upd H1 a (.lst ((ls.map strL).map V.str)) = H2 at s2 ea sA edA ⊢
    refine for_it (walk_enum (xs := (ls.map strL).map V.str)) (fun i σ H' => ∃ (v2 v3 v4 v5 : Option V) (kvs : List (List Key × V)), σ = [some (.str (strL (joinL 10 ls))), some (.ref d), v2, v3, v4, v5] ∧ H' d = some (.dT kvs) ∧ IntKV kvs (foundF ls i) ∧ H' a = some (.lst ((ls.map strL).map V.str)) ∧ Same H H')
      ⟨none, none, none, none, [], rfl, edA, .nil, ea, sA⟩ (fun i σ H' _ ⟨_, _, _, _, _, _, _, _, e, _⟩ => SqL.of e) ?_ ?_
    · rintro i v σ H3 H3' hi ⟨v2, v3, v4, v5, kvs, rfl, ed3, hk, ea3, s3⟩ ⟨T1, x, y, rfl, nT, rfl, hx, hy⟩
      obtain rfl : V.int (i : Nat) = x := Option.some.inj hx
      have hil : i < ls.length := by rw [List.length_map, List.length_map] at hi; exact hi
      obtain ⟨l, el⟩ : ∃ l, ls[i]? = some l := ⟨_, List.getElem?_eq_getElem hil⟩
      obtain rfl : V.str (strL l) = y := by
        have hy : ((ls.map strL).map V.str)[i]? = some y := hy
        rw [List.getElem?_map, List.getElem?_map, el] at hy
        exact Option.some.inj hy
      have hl := hls l (List.mem_of_getElem? el)
      have gl : ls.getD i [] = l := by rw [List.getD_eq_getElem?_getD, el]; rfl
      have sT := Same.new (o := .tup [V.int (i : Nat), .str (strL l)]) nT
      refine ⟨T1, _, rfl, SqT.of upd_same, rfl, _, _, rfl, _, _, rfl, rfl, ?_⟩
      refine sq_st (σ' := [some (.str (strL (joinL 10 ls))), some (.ref d), some (.int (i : Nat)), some (.str (strL l)), v4, v5]) rfl ?_
      have sB := s3.trans sT
      have edB := sT _ _ ed3
      have eaB := sT _ _ ea3
      generalize upd H3 T1 (.tup [V.int (i : Nat), .str (strL l)]) = H4 at sT sB edB eaB ⊢
      have asc : (strL l).cps.all (· < 128) = true := by
        rw [Array.all_eq_true_iff_forall_mem]
        intro c hc
        have hc : c ∈ l := by simpa [strL] using hc
        refine decide_eq_true ?_
        rcases hl.2 c hc with h | h
        · exact sg_small c h
        · omega
      refine ⟨_, rfl, strL l, rfl, asc, for_it walk_enumA (fun j σ H' => ∃ (v4 v5 : Option V) (kvs : List (List Key × V)), σ = [some (.str (strL (joinL 10 ls))), some (.ref d), some (.int (i : Nat)), some (.str (strL l)), v4, v5] ∧ H' d = some (.dT kvs) ∧ IntKV kvs (foundF ls i ++ rowF i l j) ∧ H' a = some (.lst ((ls.map strL).map V.str)) ∧ Same H H')
        ⟨v4, v5, kvs, rfl, edB, by rw [show rowF i l 0 = [] from rfl, List.append_nil]; exact hk, eaB, sB⟩ (fun j σ H' _ _ => trivial) ?_ ?_⟩
      · rintro j v σ H5 H5' hj ⟨v4, v5, kvs, rfl, ed5, hk, ea5, s5⟩ ⟨T2, c, rfl, nT2, hc, rfl⟩
        have hc : l[j]? = some c := by simpa [strL] using hc
        have sT := Same.new (o := .tup [V.int (j : Nat), .str ⟨#[c]⟩]) nT2
        refine ⟨T2, _, rfl, SqT.of upd_same, rfl, _, _, rfl, _, _, rfl, rfl, ?_⟩
        refine sq_st (σ' := [some (.str (strL (joinL 10 ls))), some (.ref d), some (.int (i : Nat)), some (.str (strL l)), some (.int (j : Nat)), some (.str ⟨#[c]⟩)]) rfl ?_
        have sC := s5.trans sT
        have edC := sT _ _ ed5
        have eaC := sT _ _ ea5
        generalize upd H5 T2 (.tup [V.int (j : Nat), .str ⟨#[c]⟩]) = H6 at sT sC edC eaC ⊢
        refine ⟨_, rfl, c, signsV, rfl, rfl, _, rfl, ?_⟩
        by_cases hs : c ∈ SG
        · refine iteT' (decide_eq_true (show c ∈ signsV.cps.toList from hs)) ?_
          have lk : kvs.length ≤ 10000 := by
            have e0 := Paired.length hk
            rw [List.length_map, List.length_append] at e0
            have h1 := foundF_len (ls := ls) (fun l hl => (hls l hl).1) i
            have h2 := rowF_len i l j
            have h3 := (List.getElem?_eq_some_iff.mp hc).1
            have h4 := hl.1
            omega
          refine ⟨rfl, _, rfl, signsV, ⟨#[c]⟩, rfl, rfl, fun n hn => ?_, fun hn => ?_⟩
          · rw [sg_index c hs] at hn
            obtain rfl : SG.idxOf c = n := Option.some.inj hn
            refine ⟨_, rfl, _, rfl, _, rfl, (by show 2 ≤ sizeLine; decide), fun kb nkb => ?_⟩
            have sk := Same.new (o := .tup [V.int (i : Nat), .int (j : Nat)]) nkb
            refine ⟨d, _, rfl, DPut.t (sk _ _ edC) (k := keyR (row2p ((i : Int), (j : Int)))) (by rw [keyR_kV]; exact upd_same) (by omega), ?_⟩
            refine ⟨_, _, _, rfl, upd_same, ?_, ?_, Same.upd_new (sC.trans sk) nd⟩
            · have e1 : cellF i l j = [(((i : Int), (j : Int)), ((SG.idxOf c : Nat) : Int))] := by
                unfold cellF
                rw [hc]
                simp only [hs, if_true]
              unfold IntKV
              rw [rowF_succ, ← List.append_assoc, e1, List.map_append]
              refine KVs.snoc (F := fun v z => v = V.int z) (show KVs _ kvs _ from hk) ?_ rfl
              rw [List.map_map]
              intro hm
              obtain ⟨p, hp, e⟩ := List.mem_map.mp hm
              have e := row2p_inj e
              rcases List.mem_append.mp hp with hp | hp
              · have := foundF_at p hp
                rw [e] at this
                exact absurd this (Int.lt_irrefl _)
              · have := (rowF_at p hp).2
                rw [e] at this
                exact absurd this (Int.lt_irrefl _)
            · rw [upd_ne (Ne.symm (ne_of edC eaC fun z => by cases z))]
              exact sk _ _ eaC
          · rw [sg_index c hs] at hn
            cases hn
        · refine iteF' (decide_eq_false (show ¬ c ∈ signsV.cps.toList from hs)) ?_
          obtain rfl : c = 35 := (hl.2 c (List.mem_of_getElem? hc)).resolve_left hs
          have e1 : cellF i l j = [] := by
            unfold cellF
            rw [hc]
            simp only [hs, if_false]
          refine ⟨_, rfl, rfl, _, rfl, iteF' (by rw [decide_eq_true rfl]; rfl) ?_⟩
          exact ⟨_, _, kvs, rfl, edC, by rw [rowF_succ, e1, List.append_nil]; exact hk, eaC, sC⟩
      · rintro σ H5 ⟨v4, v5, kvs, rfl, ed5, hk, ea5, s5⟩
        refine ⟨_, _, _, _, kvs, rfl, ed5, ?_, ea5, s5⟩
        rw [foundF_succ, gl]
        rw [show (strL l).cps.size = l.length by simp [strL]] at hk
        exact hk
    · rintro σ H3 ⟨v2, v3, v4, v5, kvs, rfl, ed3, hk, ea3, s3⟩
      rw [List.length_map, List.length_map] at hk
      exact ⟨_, rfl, k d kvs _ nd ed3 hk s3⟩
end
end Y
set_option Elab.async false
set_option linter.all false
set_option maxRecDepth 100000
set_option maxHeartbeats 2000000
namespace Y
open PySem L2
abbrev sBeside : Stmt := top 30
abbrev NBeside : List Str := ["places", "pairs", "line", "column", "spot"]
/-! ### pairs of places beside one another -/
def nextTo (p : Int × Int) : List (Int × Int) := [(p.1, p.2 + 1), (p.1 + 1, p.2)]
def besideOne (ps : Placed) (n : Int) (q : Int × Int) : List (Int × Int) := match ps.lookup q with
  | some m => [(n, m)]
  | none => []
def besideF (ps : Placed) : List (Int × Int) := ps.flatMap fun p => (nextTo p.1).flatMap (besideOne ps p.2)
theorem IntKV.get {kvs : List (List Key × V)} {ps : Placed} (h : IntKV kvs ps) (p : Int × Int) : valV kvs (keyR (row2p p)) = (ps.lookup p).map V.int := by
  unfold IntKV at h
  induction ps generalizing kvs with
  | nil => cases h; rfl
  | cons q ps ih =>
    cases h with
    | cons a t =>
      by_cases e : p = q.1
      · rw [show valV (_ :: _) (keyR (row2p p)) = some _ from valV_pos (by rw [a.1, e]), a.2, List.lookup_cons, show (p == q.1) = true by rw [e]; exact beq_self_eq_true _]
        rfl
      · rw [valV_neg (fun z => e (row2p_inj (keyR_inj (z.symm.trans a.1)).symm.symm)), ih t, List.lookup_cons, show (p == q.1) = false from beq_eq_false_iff_ne.mpr e]
def besideOf (ps qs : Placed) : List (Int × Int) := qs.flatMap fun p => (nextTo p.1).flatMap (besideOne ps p.2)
def But1' (d : Addr) (H H' : Hp) : Prop := ∀ b o, b ≠ d → H b = some o → H' b = some o
def TieR (H : Hp) (y : V) (t : Int × Int) : Prop := ∃ b, y = .ref b ∧ H b = some (.tup [.int t.1, .int t.2])
theorem lookup_at {ps : Placed} (nd : (ps.map (·.1)).Nodup) {q : (Int × Int) × Int} (h : q ∈ ps) : ps.lookup q.1 = some q.2 := by
  induction ps with
  | nil => cases h
  | cons p ps ih =>
    rw [List.map_cons, List.nodup_cons] at nd
    rw [List.lookup_cons]
    rcases List.mem_cons.mp h with rfl | h
    · rw [beq_self_eq_true]
    · rw [show (q.1 == p.1) = false from beq_eq_false_iff_ne.mpr fun z => nd.1 (z ▸ List.mem_map.mpr ⟨q, h, rfl⟩)]
      exact ih nd.2 h
theorem TieR.mono {H H' : Hp} {ys : List V} {ts : List (Int × Int)} (h : Paired (TieR H) ys ts) (f : ∀ b xs, H b = some (.tup xs) → H' b = some (.tup xs)) : Paired (TieR H') ys ts := by
  induction h with
  | nil => exact .nil
  | cons a _ ih => exact .cons (by obtain ⟨b, e, hb⟩ := a; exact ⟨b, e, f _ _ hb⟩) ih
theorem pair_app {α β : Type} {F : α → β → Prop} {l1 : List α} {l2 : List β} {m1 : List α} {m2 : List β} (h : Paired F l1 l2) (g : Paired F m1 m2) : Paired F (l1 ++ m1) (l2 ++ m2) := by
  induction h with
  | nil => exact g
  | cons a _ ih => exact .cons a ih
def spBeside (K : PySem.W.Frag) : Sp := fun vs H Q _ => ∃ (d : Addr) (kvs : List (List Key × V)) (ps : Placed), vs = [.ref d] ∧ H d = some (.dT kvs) ∧ IntKV kvs ps ∧ (ps.map (·.1)).Nodup ∧ ps.length ≤ 60 ∧
  ∀ l ys H', H' l = some (.lst ys) → Paired (TieAt K H') ys (besideF ps) → Same H H' → Q (.ref l) H'
section
variable {P : Program} {w : World} {K : PySem.W.Frag} {mg : Str → Option Value} {base : Heap}
theorem scBeside : FnScope NBeside ["places"] (defScope sBeside) := ⟨rfl, rfl, rfl, by decide +kernel, rfl, by decide +kernel, by decide +kernel⟩
theorem ok_beside {f : Addr} {fd : FuncData} (F : Fun K "pairs_beside" "pairs_beside" sBeside f fd) : FnOk P w K mg base CX0 1 f fd ["places"] (spBeside K) := by
  refine F.ok scBeside (fun vs H Q E h => ?_) (fun cdv A outer s H vs Q E hr h => ?_)
  · obtain ⟨d, kvs, ps, rfl, _⟩ := h
    rfl
  · obtain ⟨d, kvs, ps, rfl, hd, hk, nd, l60, k⟩ := h
    have hu := hu_of hr
    refine ⟨_, pss_cons (ps_set (i := 1) scBeside.nd rfl (Or.inl rfl) (pe_lst pa_nil))
      (pss_cons (ps_lock (ps_for PassesOwn.never rfl (pi_keys (pv 0)) (pg_tup rfl (pgs_cons (pg_name (i := 2) scBeside.nd rfl (Or.inl rfl)) (pgs_cons (pg_name (i := 3) scBeside.nd rfl (Or.inl rfl)) pgs_nil)))
        (pss_one (ps_for PassesOwn.never rfl (pi_tup (pe_tup (pa_cons (pe_tup (pa_cons (pv 2) (pa_cons (pe_op op_add (pv 3) pe_int) pa_nil))) (pa_cons (pe_tup (pa_cons (pe_op op_add (pv 2) pe_int) (pa_cons (pv 3) pa_nil))) pa_nil)))) (pg_name (i := 4) scBeside.nd rfl (Or.inl rfl))
          (pss_one (ps_if (pt_cmp (pc_din hu (pv 4) (pv 0)))
            (pss_one (ps_expr (pe_bm PySem.F.plainAttrs_list PySem.F.slot_list_append PySem.F.type_list_append mt_append (pv 1) (pa_cons (pe_tup (pa_cons (pe_dget hu (pv 0) (pe_tup (pa_cons (pv 2) (pa_cons (pv 3) pa_nil))) (fun _ _ => rfl)) (pa_cons (pe_dget hu (pv 0) (pv 4) (fun _ _ => rfl)) pa_nil))) pa_nil))))
            pss_nil))))))
      (pss_one (ps_ret (pv 1)))), ?_⟩
    refine ⟨Nat.zero_le _, fun g ng => ?_⟩
    refine gset_go (σ' := [some (.ref d), some (.ref g), none, none, none]) rfl ?_
    dsimp only
    have s1 := Same.new (o := .lst []) ng
    have hd1 := s1 _ _ hd
    have eg1 : (upd H g (.lst [])) g = some (.lst []) := upd_same
    have ngd : g ≠ d := Ne.symm (ne_of_none hd ng)
    generalize upd H g (.lst []) = H1 at s1 hd1 eg1 ⊢
    refine ⟨d, .dT kvs, hd1, trivial, fun od => ?_⟩
    refine ⟨_, rfl, d, od, rfl, .inr ⟨kvs, upd_same, ?_⟩⟩
    have b1 : But1' d H (upd H1 d (.frz od (.dT kvs))) := fun b o n e => by rw [upd_ne n]; exact s1 _ _ e
    have ed1 : (upd H1 d (.frz od (.dT kvs))) d = some (.frz od (.dT kvs)) := upd_same
    have eg2 : (upd H1 d (.frz od (.dT kvs))) g = some (.lst []) := by rw [upd_ne ngd]; exact eg1
    generalize upd H1 d (.frz od (.dT kvs)) = H2 at b1 ed1 eg2 ⊢
    refine for_it walk_keysT (fun i σ H' => ∃ (v2 v3 v4 : Option V) (ys : List V), σ = [some (.ref d), some (.ref g), v2, v3, v4] ∧ H' d = some (.frz od (.dT kvs)) ∧ H' g = some (.lst ys) ∧ Paired (TieR H') ys (besideOf ps (ps.take i)) ∧ ys.length ≤ 2 * i ∧ But1' d H H')
      ⟨none, none, none, [], rfl, ed1, eg2, .nil, Nat.zero_le _, b1⟩ (fun i σ H' _ ⟨_, _, _, _, _, e, _⟩ => e) ?_ ?_
    · rintro i y σ H3 H3' hi ⟨v2, v3, v4, ys, rfl, ed, eg, py, ly, b1⟩ ⟨rfl, key, val, q, hkv, rfl, eq⟩
      obtain ⟨p2, ep2, hkey, hval⟩ := par_get hk hkv
      obtain ⟨pr, epr, rfl⟩ : ∃ t, ps[i]? = some t ∧ (row2p t.1, t.2) = p2 := by
        rw [List.getElem?_map] at ep2
        cases e : ps[i]? with
        | none => rw [e] at ep2; cases ep2
        | some t => rw [e] at ep2; exact ⟨t, rfl, Option.some.inj ep2⟩
      obtain rfl : key = keyR (row2p pr.1) := hkey
      obtain rfl : val = V.int pr.2 := hval
      rw [keyR_kV] at eq
      have eq : H3' q = some (.tup [.int pr.1.1, .int pr.1.2]) := eq
      refine ⟨q, _, rfl, SqT.of eq, rfl, _, _, rfl, _, _, rfl, rfl, ?_⟩
      refine sq_st (σ' := [some (.ref d), some (.ref g), some (.int pr.1.1), some (.int pr.1.2), v4]) rfl ?_
      refine ⟨_, rfl, _, rfl, _, _, rfl, rfl, (by show 2 ≤ sizeLine; decide), fun t1 n1 => ?_⟩
      refine ⟨_, rfl, _, _, rfl, rfl, _, rfl, (by show 2 ≤ sizeLine; decide), fun t2 n2 => ⟨(by show 2 ≤ sizeLine; decide), fun t3 n3 => ?_⟩⟩
      have sN := ((Same.new (o := .tup [.int pr.1.1, .int (pr.1.2 + 1)]) n1).trans (Same.new (o := .tup [.int (pr.1.1 + 1), .int pr.1.2]) n2)).trans (Same.new (o := .tup [.ref t1, .ref t2]) n3)
      have e1 := Same.new (o := .tup [.ref t1, .ref t2]) n3 _ _ (Same.new (o := .tup [.int (pr.1.1 + 1), .int pr.1.2]) n2 _ _ (upd_same (H := H3') (a := t1) (o := .tup [.int pr.1.1, .int (pr.1.2 + 1)])))
      have e2 := Same.new (o := .tup [.ref t1, .ref t2]) n3 _ _ (upd_same (H := upd H3' t1 (.tup [.int pr.1.1, .int (pr.1.2 + 1)])) (a := t2) (o := .tup [.int (pr.1.1 + 1), .int pr.1.2]))
      have e3 := upd_same (H := upd (upd H3' t1 (.tup [.int pr.1.1, .int (pr.1.2 + 1)])) t2 (.tup [.int (pr.1.1 + 1), .int pr.1.2])) (a := t3) (o := .tup [.ref t1, .ref t2])
      have ed4 := sN _ _ ed
      have eg4 := sN _ _ eg
      have py4 := TieR.mono py fun b xs e => sN _ _ e
      have b4 : But1' d H _ := fun b o n e => sN _ _ (b1 b o n e)
      generalize upd (upd (upd H3' t1 (.tup [.int pr.1.1, .int (pr.1.2 + 1)])) t2 (.tup [.int (pr.1.1 + 1), .int pr.1.2])) t3 (.tup [.ref t1, .ref t2]) = H4 at sN e1 e2 e3 ed4 eg4 py4 b4 ⊢
      refine ⟨t3, rfl, ⟨_, SqT.of e3⟩, ?_⟩
      refine for_it (walk_tup (K := K) (a := t3) (xs := [.ref t1, .ref t2])) (fun j σ H' => ∃ (v4 : Option V) (ys : List V), σ = [some (.ref d), some (.ref g), some (.int pr.1.1), some (.int pr.1.2), v4] ∧ H' d = some (.frz od (.dT kvs)) ∧ H' g = some (.lst ys) ∧ Paired (TieR H') ys (besideOf ps (ps.take i) ++ ((nextTo pr.1).take j).flatMap (besideOne ps pr.2)) ∧ ys.length ≤ 2 * i + j ∧ But1' d H H' ∧ H' t3 = some (.tup [.ref t1, .ref t2]) ∧ H' t1 = some (.tup [.int pr.1.1, .int (pr.1.2 + 1)]) ∧ H' t2 = some (.tup [.int (pr.1.1 + 1), .int pr.1.2]))
        ⟨v4, ys, rfl, ed4, eg4, by simpa using py4, ly, b4, e3, e1, e2⟩ (fun j σ H' _ ⟨_, _, _, _, _, _, _, _, e, _⟩ => SqT.of e) ?_ ?_
      · rintro j y σ H5 H5' hj ⟨v4, ys, rfl, ed, eg, py, ly, b1, e3, e1, e2⟩ ⟨eH, hy⟩
        subst eH
        obtain ⟨u, t, rfl, eu, et⟩ : ∃ (u : Int × Int) (t : Addr), y = .ref t ∧ (nextTo pr.1)[j]? = some u ∧ H5' t = some (.tup [.int u.1, .int u.2]) := by
          obtain rfl | rfl : j = 0 ∨ j = 1 := by have : j < 2 := hj; omega
          · exact ⟨(pr.1.1, pr.1.2 + 1), t1, (Option.some.inj hy).symm, rfl, e1⟩
          · exact ⟨(pr.1.1 + 1, pr.1.2), t2, (Option.some.inj hy).symm, rfl, e2⟩
        have tk : (nextTo pr.1).take (j + 1) = (nextTo pr.1).take j ++ [u] := take_next eu
        refine gset_go (σ' := [some (.ref d), some (.ref g), some (.int pr.1.1), some (.int pr.1.2), some (.ref t)]) rfl ?_
        refine ⟨_, rfl, _, rfl, d, _, rfl, .inr ⟨kvs, keyR (row2p u), t, .inr ⟨od, ed⟩, rfl, by rw [keyR_kV]; exact et, (hk.get u).symm⟩, ?_⟩
        cases em : ps.lookup u with
        | none =>
          refine ⟨_, rfl, iteF' rfl ?_⟩
          refine ⟨_, ys, rfl, ed, eg, ?_, by omega, b1, e3, e1, e2⟩
          rw [tk, List.flatMap_append]
          simpa [besideOne, em] using py
        | some m =>
          refine ⟨_, rfl, iteT' rfl ?_⟩
          refine ⟨_, rfl, .inl ⟨rfl, _, SqL.of eg⟩, _, rfl, _, rfl, _, rfl, (by show 2 ≤ sizeLine; decide), fun t4 n4 => ?_⟩
          have nb := lookup_at nd (List.mem_of_getElem? epr)
          have s4 := Same.new (o := .tup [.int pr.1.1, .int pr.1.2]) n4
          have e4 := upd_same (H := H5') (a := t4) (o := .tup [.int pr.1.1, .int pr.1.2])
          refine ⟨d, .int pr.2, rfl, .inr ⟨kvs, keyR (row2p pr.1), t4, .inr ⟨od, s4 _ _ ed⟩, rfl, by rw [keyR_kV]; exact e4, by rw [hk.get, nb]; rfl⟩, ?_⟩
          refine ⟨_, rfl, _, rfl, d, .int m, rfl, .inr ⟨kvs, keyR (row2p u), t, .inr ⟨od, s4 _ _ ed⟩, rfl, by rw [keyR_kV]; exact s4 _ _ et, by rw [hk.get, em]; rfl⟩, (by show 2 ≤ sizeLine; decide), fun t5 n5 => ?_⟩
          have s5 := s4.trans (Same.new (o := .tup [.int pr.2, .int m]) n5)
          have e5 := upd_same (H := upd H5' t4 (.tup [.int pr.1.1, .int pr.1.2])) (a := t5) (o := .tup [.int pr.2, .int m])
          have ed6 := s5 _ _ ed
          have eg6 := s5 _ _ eg
          have py6 := TieR.mono py fun b xs e => s5 _ _ e
          have e36 := s5 _ _ e3
          have e16 := s5 _ _ e1
          have e26 := s5 _ _ e2
          have b6 : But1' d H _ := fun b o n e => s5 _ _ (b1 b o n e)
          generalize upd (upd H5' t4 (.tup [.int pr.1.1, .int pr.1.2])) t5 (.tup [.int pr.2, .int m]) = H6 at s5 e5 ed6 eg6 py6 e36 e16 e26 b6 ⊢
          have up : ∀ b xs, H6 b = some (.tup xs) → upd H6 g (.lst (ys ++ [.ref t5])) b = some (.tup xs) := fun b xs e => by
            rw [upd_ne (ne_of e eg6 fun z => by cases z)]
            exact e
          refine ⟨g, ys, _, rfl, rfl, eg6, Nat.lt_of_le_of_lt (by have := List.length_take_le i ps; have := (List.getElem?_eq_some_iff.mp epr).1; have : j < 2 := hj; omega : ys.length ≤ 200) (by decide), ?_⟩
          refine ⟨_, _, rfl, by rw [upd_ne ngd.symm]; exact ed6, upd_same, ?_, by rw [List.length_append]; show ys.length + 1 ≤ _; omega, fun b o n e => ?_, up _ _ e36, up _ _ e16, up _ _ e26⟩
          · rw [tk, List.flatMap_append, ← List.append_assoc]
            refine pair_app (TieR.mono py6 up) ?_
            rw [show [u].flatMap (besideOne ps pr.2) = [(pr.2, m)] by simp [besideOne, em]]
            exact .cons ⟨t5, rfl, up _ _ e5⟩ .nil
          · rw [upd_ne (ne_of_none e ng)]
            exact b6 b o n e
      · rintro σ H5 ⟨v4, ys, rfl, ed, eg, py, ly, b1, _⟩
        exact ⟨_, _, _, ys, rfl, ed, eg, by
          rw [show [V.ref t1, V.ref t2].length = 2 from rfl, show (nextTo pr.1).take 2 = nextTo pr.1 from rfl] at py
          rw [take_next epr]
          simpa [besideOf] using py, ly, b1⟩
    · rintro σ H3 ⟨v2, v3, v4, ys, rfl, ed, eg, py, ly, b1⟩
      have lk : kvs.length = ps.length := by rw [Paired.length hk, List.length_map]
      rw [lk, List.take_length] at py
      refine ⟨ed, _, rfl, k g ys _ (by rw [upd_ne ngd]; exact eg) ?_ fun b o e => ?_⟩
      · refine Paired.mono (fun y t h => ?_) py
        obtain ⟨b, rfl, hb⟩ := h
        exact ⟨b, rfl, SqT.of (by rw [upd_ne (ne_of hb ed fun z => by cases z)]; exact hb)⟩
      · by_cases c : b = d
        · rw [c, hd] at e
          rw [c, upd_same]
          exact e
        · rw [upd_ne c]
          exact b1 b o c e
end
end Y
set_option Elab.async false
set_option linter.all false
set_option maxRecDepth 100000
set_option maxHeartbeats 2000000
namespace Y
open PySem L2
abbrev sAreD : Stmt := top 33
abbrev NAreD : List Str := ["things", "thing"]
def drw (z : Int) : Bool := decide (0 ≤ z) && decide (z < 36)
def drwV : V → V
  | .int z => .bl (drw z)
  | _ => .bl true
def spAreD (K : PySem.W.Frag) : Sp := fun vs H Q _ => ∃ (b : Addr) (st : List Int), vs = [.ref b] ∧ SqA K H b (st.map V.int) ∧ st.length ≤ 1000 ∧ ∀ H', Same H H' → Q (.bl (st.all drw)) H'
section
variable {P : Program} {w : World} {K : PySem.W.Frag} {mg : Str → Option Value} {base : Heap} {fInt fCnt : Addr}
theorem scAreD : FnScope NAreD ["things"] (defScope sAreD) := ⟨rfl, rfl, rfl, by decide +kernel, rfl, by decide +kernel, by decide +kernel⟩
theorem ok_areD {f : Addr} {fd fdI fdC : FuncData} {tw ts : Tok} (F : Fun K "are_drawable" "are_drawable" sAreD f fd) (T : TPic mg tw ts) (TI : TI0 mg) (gInt : mg "is_integer" = some (.ref fInt)) (gAll : mg "all" = none) (gLen : mg "len" = none) (gCnt : mg "is_count" = some (.ref fCnt))
    (FI : Fun K "is_integer" "is_integer" sIsInt fInt fdI) (bI : Binds K fdI ["value"] []) (FC : Fun K "is_count" "is_count" sIsCount fCnt fdC) (bC : Binds K fdC ["value"] []) : FnOk P w K mg base CX0 3 f fd ["things"] (spAreD K) := by
  have GC : FnOk P w K mg base CX0 2 fCnt fdC ["value"] (spIsCountD K) := ok_isCountD FC TI gInt FI bI
  refine F.ok scAreD (fun vs H Q E h => ?_) (fun cdv A outer s H vs Q E hr h => ?_)
  · obtain ⟨b, st, rfl, _⟩ := h
    rfl
  · obtain ⟨b, st, rfl, hb, l1000, k⟩ := h
    refine ⟨_, pss_one (ps_ret (pe_callB (cr_all rfl) (by rfl) gAll (by decide +kernel) (pa_cons (pe_lc (own := [("thing", 1)]) (g := gName 1) (tt := tYes) rfl scAreD.nd (pi_seqV (pv 0)) (blkOk_by (N := NAreD) (sc := defScope sAreD) (by decide +kernel))
          (fun _ _ _ _ _ => pg_name (i := 1) scAreD.nd rfl (Or.inl rfl)) (fun _ _ _ _ _ => pts_nil) (fun _ _ _ _ _ => pe_and (pe_call GC hr (by rfl) gCnt FC.kp bC .nil pass0 (pa_cons (pv 1) pa_nil)) (pe_one (pe_cmpR op_lt (pv 1) (pe_callB call_len_str (by rfl) gLen PySem.boot_len (pa_cons (pgS T.signs) pa_nil)) (nomark _))))) pa_nil))), ?_⟩
    refine ⟨b, st.map V.int, H, rfl, hb, .refl H, fun J G w1 hG D hD => ?_⟩
    refine lcp_it (f := drwV) (H1 := H) w1 hD (by rw [List.length_map]; omega) (fun H' s' => hG H' s') (fun i x0 H2 R hx s2 hR => ?_) ?_
    · obtain ⟨z, ez, rfl⟩ := ints_at hx
      have hR : R (.bl (drw z)) H2 := hR
      refine ⟨rfl, _, rfl, _, _, rfl, Dq.int z, ?_⟩
      by_cases z0 : 0 ≤ z
      · refine ⟨true, by show V.bl (decide (0 ≤ z)) = _; rw [decide_eq_true z0], iteT ?_⟩
        refine ⟨_, rfl, _, rfl, by decide, _, _, rfl, rfl, ?_⟩
        rw [drw, decide_eq_true z0, Bool.true_and] at hR
        exact hR
      · refine ⟨false, by show V.bl (decide (0 ≤ z)) = _; rw [decide_eq_false z0], iteF ?_⟩
        rw [drw, decide_eq_false z0, Bool.false_and] at hR
        exact hR
    · have s2 := Same.new (H := H) (o := .lst ((st.map V.int).map drwV)) hD
      refine ⟨D, st.map drw, rfl, ?_, ?_⟩
      · rw [List.map_map, List.map_map] at *
        exact SqL.of upd_same
      rw [List.all_map]
      exact k _ s2
end
end Y
set_option Elab.async false
set_option linter.all false
set_option maxRecDepth 100000
set_option maxHeartbeats 2000000
namespace Y
open PySem L2
/-! ### what is drawn, as mathematics -/
def lexlt (p q : Int × Int) : Prop := p.1 < q.1 ∨ (p.1 = q.1 ∧ p.2 < q.2)
def AscK (ps : Placed) : Prop := ps.Pairwise fun p q => lexlt p.1 q.1
theorem lex_asymm {p q : Int × Int} (h : lexlt p q) (g : lexlt q p) : False := by
  unfold lexlt at h g
  omega
theorem AscK.nd {ps : Placed} (h : AscK ps) : (ps.map (·.1)).Nodup := by
  unfold List.Nodup
  rw [List.pairwise_map]
  refine List.Pairwise.imp (fun {a b} hab e => ?_) h
  rw [e] at hab
  exact lex_asymm hab hab
theorem AscK.one {xs ys : Placed} (hx : AscK xs) (hy : AscK ys) (h : ∀ p, p ∈ xs ↔ p ∈ ys) : xs = ys := by
  have nx : xs.Nodup := List.Pairwise.of_map (·.1) (fun a b ne e => ne (by rw [e])) hx.nd
  have ny : ys.Nodup := List.Pairwise.of_map (·.1) (fun a b ne e => ne (by rw [e])) hy.nd
  have p : xs.Perm ys := (List.perm_ext_iff_of_nodup nx ny).mpr h
  exact List.Perm.eq_of_pairwise (le := fun a b : (Int × Int) × Int => lexlt a.1 b.1) (fun t u _ _ h1 h2 => (lex_asymm h1 h2).elim) hx hy p
theorem mem_rowF {i m : Nat} {l : List Nat} {p : (Int × Int) × Int} : p ∈ rowF i l m ↔ ∃ (j c : Nat), j < m ∧ l[j]? = some c ∧ c ∈ SG ∧ p = (((i : Int), (j : Int)), ((SG.idxOf c : Nat) : Int)) := by
  unfold rowF
  rw [List.mem_flatMap]
  constructor
  · rintro ⟨j, hj, hp⟩
    unfold cellF at hp
    split at hp
    · rename_i c hc
      split at hp
      · rename_i hs
        exact ⟨j, c, List.mem_range.mp hj, hc, hs, List.mem_singleton.mp hp⟩
      · cases hp
    · cases hp
  · rintro ⟨j, c, hj, hc, hs, rfl⟩
    refine ⟨j, List.mem_range.mpr hj, ?_⟩
    unfold cellF
    rw [hc]
    simp only [hs, if_true]
    exact List.mem_singleton.mpr rfl
theorem mem_found {ls : List (List Nat)} {p : (Int × Int) × Int} : p ∈ foundF ls ls.length ↔ ∃ (i j : Nat) (l : List Nat) (c : Nat), ls[i]? = some l ∧ l[j]? = some c ∧ c ∈ SG ∧ p = (((i : Int), (j : Int)), ((SG.idxOf c : Nat) : Int)) := by
  unfold foundF
  rw [List.mem_flatMap]
  constructor
  · rintro ⟨i, hi, hp⟩
    have hi := List.mem_range.mp hi
    obtain ⟨j, c, _, hc, hs, e⟩ := mem_rowF.mp hp
    rw [List.getD_eq_getElem?_getD, List.getElem?_eq_getElem hi] at hc
    exact ⟨i, j, ls[i], c, List.getElem?_eq_getElem hi, hc, hs, e⟩
  · rintro ⟨i, j, l, c, hl, hc, hs, e⟩
    have hi := (List.getElem?_eq_some_iff.mp hl).1
    have g : ls.getD i [] = l := by rw [List.getD_eq_getElem?_getD, hl]; rfl
    refine ⟨i, List.mem_range.mpr hi, ?_⟩
    rw [g]
    exact mem_rowF.mpr ⟨j, c, (List.getElem?_eq_some_iff.mp hc).1, hc, hs, e⟩
theorem rowF_asc (i : Nat) (l : List Nat) : ∀ m, AscK (rowF i l m)
  | 0 => List.Pairwise.nil
  | m + 1 => by
    unfold AscK
    rw [rowF_succ, List.pairwise_append]
    refine ⟨rowF_asc i l m, ?_, fun p hp q hq => ?_⟩
    · have := cellF_len i m l
      match cellF i l m, this with
      | [], _ => exact .nil
      | [a], _ => exact List.pairwise_singleton _ _
    · rw [cellF_at q hq]
      have := rowF_at p hp
      exact .inr ⟨this.1, this.2⟩
theorem foundF_asc (ls : List (List Nat)) : ∀ m, AscK (foundF ls m)
  | 0 => List.Pairwise.nil
  | m + 1 => by
    unfold AscK
    rw [foundF_succ, List.pairwise_append]
    refine ⟨foundF_asc ls m, rowF_asc _ _ _, fun p hp q hq => ?_⟩
    have h1 := foundF_at p hp
    have h2 := (rowF_at q hq).1
    exact .inl (by omega)
/-- two rows of lines with the same signs at the same places -/
def SameSg (ls ms : List (List Nat)) : Prop := ∀ (i j c : Nat), c ∈ SG → ((∃ l, ls[i]? = some l ∧ l[j]? = some c) ↔ ∃ l, ms[i]? = some l ∧ l[j]? = some c)
theorem SameSg.found {ls ms : List (List Nat)} (h : SameSg ls ms) : foundF ls ls.length = foundF ms ms.length := by
  refine (foundF_asc _ _).one (foundF_asc _ _) fun p => ?_
  rw [mem_found, mem_found]
  constructor
  · rintro ⟨i, j, l, c, hl, hc, hs, e⟩
    obtain ⟨l', h1, h2⟩ := (h i j c hs).mp ⟨l, hl, hc⟩
    exact ⟨i, j, l', c, h1, h2, hs, e⟩
  · rintro ⟨i, j, l, c, hl, hc, hs, e⟩
    obtain ⟨l', h1, h2⟩ := (h i j c hs).mpr ⟨l, hl, hc⟩
    exact ⟨i, j, l', c, h1, h2, hs, e⟩
theorem sg_idx : ∀ n, n < 36 → SG.idxOf (SG.getD n 0) = n := by decide +kernel
theorem sg_in : ∀ n, n < 36 → SG.getD n 0 ∈ SG := by decide +kernel
theorem sgN_idx {z : Int} (h0 : 0 ≤ z) (h1 : z < 36) : ((SG.idxOf (sgN z) : Nat) : Int) = z := by
  unfold sgN
  rw [sg_idx z.toNat (by omega)]
  omega
theorem sgN_in {z : Int} (h0 : 0 ≤ z) (h1 : z < 36) : sgN z ∈ SG := sg_in _ (by omega)
/-- what is drawn of a stand on spots -/
structure PicOk (ps : Placed) (h w : Nat) : Prop where
  asc : AscK ps
  rng : ∀ p ∈ ps, 0 ≤ p.2 ∧ p.2 < 36
  box : ∀ p ∈ ps, 0 ≤ p.1.1 ∧ p.1.1 < h ∧ 0 ≤ p.1.2 ∧ p.1.2 < w
theorem lookup_mem {p : Int × Int} {z : Int} : ∀ {ps : Placed}, ps.lookup p = some z → (p, z) ∈ ps
  | [], el => by cases el
  | q :: ps, el => by
    rw [List.lookup_cons] at el
    by_cases c : (p == q.1) = true
    · rw [c] at el
      have c := eq_of_beq c
      have el : q.2 = z := Option.some.inj el
      rw [← el, c]
      exact List.mem_cons_self
    · rw [Bool.not_eq_true] at c
      rw [c] at el
      exact List.mem_cons_of_mem _ (lookup_mem el)
theorem signAt_in {ps : Placed} {h w : Nat} (ok : PicOk ps h w) {p : Int × Int} {c : Nat} (hs : c ∈ SG) (e : signAt ps p = c) : ∃ z, (p, z) ∈ ps ∧ c = sgN z := by
  unfold signAt at e
  cases el : ps.lookup p with
  | none =>
    rw [el] at e
    rw [← e] at hs
    exact absurd hs (by decide +kernel)
  | some z =>
    rw [el] at e
    refine ⟨z, ?_, e.symm⟩
    clear ok e
    induction ps with
    | nil => cases el
    | cons q ps ih =>
      rw [List.lookup_cons] at el
      by_cases c : (p == q.1) = true
      · rw [c] at el
        have c := eq_of_beq c
        have el : q.2 = z := Option.some.inj el
        rw [← el, c]
        exact List.mem_cons_self
      · rw [Bool.not_eq_true] at c
        rw [c] at el
        exact List.mem_cons_of_mem _ (ih el)
theorem found_pic {ps : Placed} {h w : Nat} (ok : PicOk ps h w) : foundF (linesL ps h w) (linesL ps h w).length = ps := by
  refine (foundF_asc _ _).one ok.asc fun p => ?_
  rw [mem_found]
  constructor
  · rintro ⟨i, j, l, c, hl, hc, hs, e⟩
    unfold linesL at hl
    rw [List.getElem?_map] at hl
    cases er : (List.range h)[i]? with
    | none => rw [er] at hl; cases hl
    | some i' =>
      rw [er] at hl
      obtain rfl : rowL ps i' w = l := Option.some.inj hl
      obtain rfl : i = i' := by
        obtain ⟨_, g⟩ := List.getElem?_eq_some_iff.mp er
        rw [List.getElem_range] at g
        exact g
      unfold rowL at hc
      rw [List.getElem?_map] at hc
      cases er2 : (List.range w)[j]? with
      | none => rw [er2] at hc; cases hc
      | some j' =>
        rw [er2] at hc
        obtain rfl : j = j' := by
          obtain ⟨_, g⟩ := List.getElem?_eq_some_iff.mp er2
          rw [List.getElem_range] at g
          exact g
        obtain ⟨z, hz, rfl⟩ := signAt_in ok hs (Option.some.inj hc)
        have := ok.rng _ hz
        rw [e, sgN_idx this.1 this.2]
        exact hz
  · intro hp
    obtain ⟨⟨a, b⟩, z⟩ := p
    obtain ⟨a0, a1, b0, b1⟩ := ok.box _ hp
    obtain ⟨z0, z1⟩ := ok.rng _ hp
    obtain ⟨i, rfl⟩ : ∃ i : Nat, a = (i : Int) := ⟨a.toNat, by show a = _; have : 0 ≤ a := a0; omega⟩
    obtain ⟨j, rfl⟩ : ∃ j : Nat, b = (j : Int) := ⟨b.toNat, by show b = _; have : 0 ≤ b := b0; omega⟩
    have hi : i < h := by have : (i : Int) < h := a1; omega
    have hj : j < w := by have : (j : Int) < w := b1; omega
    have el : ps.lookup ((i : Int), (j : Int)) = some z := lookup_at ok.asc.nd hp
    refine ⟨i, j, rowL ps i w, sgN z, ?_, ?_, sgN_in z0 z1, ?_⟩
    · unfold linesL
      rw [List.getElem?_map, List.getElem?_range hi]
      rfl
    · unfold rowL
      rw [List.getElem?_map, List.getElem?_range hj]
      show some (signAt ps ((i : Int), (j : Int))) = _
      unfold signAt
      rw [el]
    · rw [sgN_idx z0 z1]
theorem line_ok {ps : Placed} {h w : Nat} (ok : PicOk ps h w) : ∀ l ∈ linesL ps h w, l.length = w ∧ ∀ c ∈ l, c ∈ SG ∨ c = 35 := fun l hl => by
  obtain ⟨i, _, rfl⟩ := List.mem_map.mp hl
  refine ⟨by unfold rowL; rw [List.length_map, List.length_range], fun c hc => ?_⟩
  obtain ⟨j, _, rfl⟩ := List.mem_map.mp hc
  unfold signAt
  cases el : ps.lookup ((i : Int), (j : Int)) with
  | none => exact .inr rfl
  | some z =>
    obtain ⟨z', hz, e⟩ := signAt_in (p := ((i : Int), (j : Int))) (c := signAt ps ((i : Int), (j : Int))) ok (by
      unfold signAt
      rw [el]
      have this := ok.rng
      have hm : (((i : Int), (j : Int)), z) ∈ ps := lookup_mem el
      have := this _ hm
      exact sgN_in this.1 this.2) rfl
    left
    have hz := ok.rng _ hz
    unfold signAt at e
    rw [el] at e
    show sgN z ∈ SG
    have e : sgN z = sgN z' := e
    rw [e]
    exact sgN_in hz.1 hz.2
/-! ### lines put together -/
theorem joinL_app (c : Nat) : ∀ (ls : List (List Nat)) (m : List Nat), ls ≠ [] → joinL c (ls ++ [m]) = joinL c ls ++ c :: m
  | [], _, h => absurd rfl h
  | [l], m, _ => rfl
  | l :: k :: r, m, _ => by
    show l ++ c :: joinL c ((k :: r) ++ [m]) = (l ++ c :: joinL c (k :: r)) ++ c :: m
    rw [joinL_app c (k :: r) m (by simp)]
    simp
theorem textL_join : ∀ ls : List (List Nat), ls ≠ [] → textL ls = joinL 10 (ls ++ [[]])
  | [], h => absurd rfl h
  | [l], _ => by show (l ++ [10]) ++ [] = l ++ 10 :: []; simp
  | l :: m :: r, _ => by
    show (l ++ [10]) ++ textL (m :: r) = l ++ 10 :: joinL 10 ((m :: r) ++ [[]])
    rw [textL_join (m :: r) (by simp)]
    simp
theorem joinL_len (c : Nat) : ∀ ls : List (List Nat), (joinL c ls).length ≤ (ls.map (fun l => l.length + 1)).sum
  | [] => Nat.zero_le _
  | [l] => by show l.length ≤ l.length + 1 + 0; omega
  | l :: m :: r => by
    show (l ++ c :: joinL c (m :: r)).length ≤ (l.length + 1) + ((m :: r).map (fun l => l.length + 1)).sum
    have := joinL_len c (m :: r)
    rw [List.length_append, List.length_cons]
    omega
theorem joinL_le {c k : Nat} {ls : List (List Nat)} (h : ∀ l ∈ ls, l.length ≤ k) : (joinL c ls).length ≤ ls.length * (k + 1) := by
  refine Nat.le_trans (joinL_len c ls) ?_
  have := sum_le (ls := ls.map (fun l => l.length + 1)) (m := k + 1) fun x hx => by
    obtain ⟨l, hl, rfl⟩ := List.mem_map.mp hx
    have := h l hl
    show l.length + 1 ≤ k + 1
    omega
  rwa [List.length_map] at this
theorem glued_nl (z : Str) (hz : z.cps = #[10]) : ∀ ls : List (List Nat), Txt.join z (ls.map strL) = strL (joinL 10 ls) := by
  have go : ∀ (ls : List (List Nat)) (acc : List Nat), (ls.map strL).foldl (fun acc p => acc ++ z.cps ++ p.cps) acc.toArray = (acc ++ ls.flatMap fun l => 10 :: l).toArray := by
    intro ls
    induction ls with
    | nil => intro acc; simp
    | cons l ls ih =>
      intro acc
      rw [List.map_cons, List.foldl_cons, hz]
      have := ih (acc ++ 10 :: l)
      rw [hz] at this
      simpa [strL, List.append_assoc] using this
  have jn : ∀ (l : List Nat) (ls : List (List Nat)), joinL 10 (l :: ls) = l ++ ls.flatMap fun l => 10 :: l := by
    intro l ls
    induction ls generalizing l with
    | nil => show l = l ++ []; rw [List.append_nil]
    | cons m ls ih =>
      show l ++ 10 :: joinL 10 (m :: ls) = _
      rw [ih m]
      simp
  intro ls
  cases ls with
  | nil => rfl
  | cons l ls =>
    show (⟨((l :: ls).map strL |>.drop 1).foldl _ _⟩ : Str) = _
    have := go ls l
    rw [List.map_cons, List.drop_one, List.tail_cons, List.headD_cons]
    show (⟨_⟩ : Str) = ⟨_⟩
    rw [show (strL l).cps = l.toArray from rfl, this, jn l ls]
/-! ### walls at the ends of lines, lines more -/
theorem rstrip_at (l : List Nat) : ∃ m, m ≤ l.length ∧ Txt.rstripChars (strL l) ⟨#[35]⟩ = strL (l.take m) ∧ ∀ k c, m ≤ k → l[k]? = some c → c = 35 := by
  unfold Txt.rstripChars
  rw [PyProof.Rows.stripBy_eq]
  have h := PyProof.Rows.hi_facts (fun c => (#[35] : Array Nat).contains c) (strL l) 0 (Nat.zero_le _)
  have e0 : PySem.stripLo (fun c => (#[35] : Array Nat).contains c) false (strL l) = 0 := rfl
  have eg : (Array.contains (⟨#[35]⟩ : Str).cps : Nat → Bool) = fun c => (#[35] : Array Nat).contains c := rfl
  rw [eg, e0]
  generalize PySem.stripHi (fun c => (#[35] : Array Nat).contains c) true (strL l) 0 = hi at h ⊢
  obtain ⟨_, h2, h3, _⟩ := h
  rw [strL_len] at h2 h3
  refine ⟨hi, h2, ?_, fun k c hk hc => ?_⟩
  · unfold PySem.Builtin.Str.strSub strL
    simp [List.extract_toArray, List.extract_eq_take_drop]
  · have hlt := (List.getElem?_eq_some_iff.mp hc).1
    have := h3 k hk hlt
    have e : (strL l).cps.getD k 0 = c := by
      show l.toArray.getD k 0 = c
      rw [Array.getD_eq_getD_getElem?]
      simp [hc]
    rw [e] at this
    simpa using this
theorem wall_sg : ¬ (35 : Nat) ∈ SG := by decide +kernel
/-- a line's end of walls may be left out or be more -/
theorem loose_line {l : List Nat} {m r c j : Nat} (hm : m ≤ l.length) (hw : ∀ k c, m ≤ k → l[k]? = some c → c = 35) (hs : c ∈ SG) : (l.take m ++ List.replicate r 35)[j]? = some c ↔ l[j]? = some c := by
  have lt : (l.take m).length = m := by rw [List.length_take]; omega
  rcases Nat.lt_or_ge j m with h | h
  · rw [List.getElem?_append_left (by omega), List.getElem?_take_of_lt h]
  · rw [List.getElem?_append_right (by omega), lt]
    constructor
    · intro e
      have := List.mem_of_getElem? e
      rw [List.eq_of_mem_replicate this] at hs
      exact absurd hs wall_sg
    · intro e
      rw [hw j c h e] at hs
      exact absurd hs wall_sg
theorem same_more {ls ms : List (List Nat)} (h : ∀ l ∈ ms, ∀ c ∈ l, c ∉ SG) : SameSg (ls ++ ms) ls := fun i j c hs => by
  constructor
  · rintro ⟨l, hl, hc⟩
    rcases Nat.lt_or_ge i ls.length with hi | hi
    · rw [List.getElem?_append_left hi] at hl
      exact ⟨l, hl, hc⟩
    · rw [List.getElem?_append_right hi] at hl
      exact absurd hs (h l (List.mem_of_getElem? hl) c (List.mem_of_getElem? hc))
  · rintro ⟨l, hl, hc⟩
    exact ⟨l, by rw [List.getElem?_append_left (List.getElem?_eq_some_iff.mp hl).1]; exact hl, hc⟩
/-! ### places numbered, ties -/
def numb (ks : List (Int × Int)) : Placed := ks.zipIdx.map fun p => (p.1, (p.2 : Int))
theorem numb_get {ks : List (Int × Int)} {i : Nat} {p : Int × Int} (h : ks[i]? = some p) : (numb ks)[i]? = some (p, (i : Int)) := by
  unfold numb
  rw [List.getElem?_map, List.getElem?_zipIdx, h]
  simp
theorem numb_len (ks : List (Int × Int)) : (numb ks).length = ks.length := by unfold numb; simp
theorem numb_keys (ks : List (Int × Int)) : (numb ks).map (·.1) = ks := by
  unfold numb
  rw [List.map_map]
  show ks.zipIdx.map (fun p => p.1) = ks
  simp
theorem mem_numb {ks : List (Int × Int)} {p : Int × Int} {m : Int} : (p, m) ∈ numb ks ↔ ∃ i : Nat, ks[i]? = some p ∧ m = (i : Int) := by
  constructor
  · intro h
    obtain ⟨i, hi⟩ := List.mem_iff_getElem?.mp h
    have lt : i < ks.length := by
      have := (List.getElem?_eq_some_iff.mp hi).1
      rwa [numb_len] at this
    have := numb_get (ks := ks) (i := i) (List.getElem?_eq_getElem lt)
    rw [this] at hi
    injection hi with hi
    injection hi with h1 h2
    exact ⟨i, by rw [List.getElem?_eq_getElem lt, h1], h2.symm⟩
  · rintro ⟨i, hi, rfl⟩
    exact List.mem_of_getElem? (numb_get hi)
theorem numb_lookup {ks : List (Int × Int)} (nd : ks.Nodup) {p : Int × Int} {m : Int} : (numb ks).lookup p = some m ↔ ∃ i : Nat, ks[i]? = some p ∧ m = (i : Int) := by
  constructor
  · intro h
    refine mem_numb.mp ?_
    revert h
    generalize numb ks = ps
    intro el
    induction ps with
    | nil => cases el
    | cons q ps ih =>
      rw [List.lookup_cons] at el
      by_cases c : (p == q.1) = true
      · rw [c] at el
        have c := eq_of_beq c
        have el : q.2 = m := Option.some.inj el
        rw [← el, c]
        exact List.mem_cons_self
      · rw [Bool.not_eq_true] at c
        rw [c] at el
        exact List.mem_cons_of_mem _ (ih el)
  · intro h
    exact lookup_at (q := (p, m)) (by rw [numb_keys]; exact nd) (mem_numb.mpr h)
theorem mem_beside {ks : List (Int × Int)} (nd : ks.Nodup) {t : Int × Int} : t ∈ besideF (numb ks) ↔ ∃ (i j : Nat) (p q : Int × Int), ks[i]? = some p ∧ ks[j]? = some q ∧ q ∈ nextTo p ∧ t = ((i : Int), (j : Int)) := by
  unfold besideF
  rw [List.mem_flatMap]
  constructor
  · rintro ⟨⟨p, m⟩, hp, ht⟩
    obtain ⟨i, hi, rfl⟩ := mem_numb.mp hp
    obtain ⟨q, hq, ht⟩ := List.mem_flatMap.mp ht
    unfold besideOne at ht
    split at ht
    · rename_i m' el
      obtain ⟨j, hj, rfl⟩ := (numb_lookup nd).mp el
      exact ⟨i, j, p, q, hi, hj, hq, List.mem_singleton.mp ht⟩
    · cases ht
  · rintro ⟨i, j, p, q, hi, hj, hq, rfl⟩
    refine ⟨(p, (i : Int)), mem_numb.mpr ⟨i, hi, rfl⟩, List.mem_flatMap.mpr ⟨q, hq, ?_⟩⟩
    unfold besideOne
    rw [(numb_lookup nd).mpr ⟨j, hj, rfl⟩]
    exact List.mem_singleton.mpr rfl
theorem beside_len (ps : Placed) : (besideF ps).length ≤ 2 * ps.length := by
  have one : ∀ (qs : Placed) (n : Int) (q : Int × Int), (besideOne qs n q).length ≤ 1 := fun qs n q => by
    unfold besideOne
    split <;> simp
  unfold besideF
  generalize hq : ps = qs
  have : ∀ rs : Placed, (rs.flatMap fun p => (nextTo p.1).flatMap (besideOne qs p.2)).length ≤ 2 * rs.length := by
    intro rs
    induction rs with
    | nil => exact Nat.zero_le _
    | cons r rs ih =>
      rw [List.flatMap_cons, List.length_append, List.length_cons]
      have h1 := one qs r.2 (r.1.1, r.1.2 + 1)
      have h2 := one qs r.2 (r.1.1 + 1, r.1.2)
      have : ((nextTo r.1).flatMap (besideOne qs r.2)).length ≤ 2 := by
        unfold nextTo
        rw [List.flatMap_cons, List.flatMap_cons, List.flatMap_nil, List.length_append, List.length_append]
        show _ + (_ + 0) ≤ 2
        omega
      omega
  exact this qs
/-- side by side, or one below the other -/
def adjP (p q : Int × Int) : Prop := q ∈ nextTo p ∨ p ∈ nextTo q
theorem next_ne {p q : Int × Int} (h : q ∈ nextTo p) : p ≠ q := fun e => by
  subst e
  unfold nextTo at h
  simp only [List.mem_cons, List.not_mem_nil, or_false] at h
  rcases h with h | h
  · have := congrArg Prod.snd h; simp at this; omega
  · have := congrArg Prod.fst h; simp at this; omega
theorem mem_both {ks : List (Int × Int)} (nd : ks.Nodup) {t : Int × Int} : t ∈ dbl (besideF (numb ks)) ↔ ∃ (i j : Nat) (p q : Int × Int), ks[i]? = some p ∧ ks[j]? = some q ∧ adjP p q ∧ t = ((i : Int), (j : Int)) := by
  rw [mem_dbl, mem_beside nd, mem_beside nd]
  constructor
  · rintro (⟨i, j, p, q, hi, hj, hq, rfl⟩ | ⟨i, j, p, q, hi, hj, hq, e⟩)
    · exact ⟨i, j, p, q, hi, hj, .inl hq, rfl⟩
    · injection e with e1 e2
      exact ⟨j, i, q, p, hj, hi, .inr hq, Prod.ext e2 e1⟩
  · rintro ⟨i, j, p, q, hi, hj, hq | hq, rfl⟩
    · exact .inl ⟨i, j, p, q, hi, hj, hq, rfl⟩
    · exact .inr ⟨j, i, q, p, hj, hi, hq, rfl⟩
theorem both_ok {ks : List (Int × Int)} (nd : ks.Nodup) {t : Int × Int} (h : t ∈ dbl (besideF (numb ks))) : TieOk ks.length t := by
  obtain ⟨i, j, p, q, hi, hj, ha, rfl⟩ := (mem_both nd).mp h
  have li := (List.getElem?_eq_some_iff.mp hi).1
  have lj := (List.getElem?_eq_some_iff.mp hj).1
  refine ⟨by show (0 : Int) ≤ i; omega, by show (i : Int) < _; omega, by show (0 : Int) ≤ j; omega, by show (j : Int) < _; omega, fun e => ?_⟩
  have e : (i : Int) = (j : Int) := e
  have e : i = j := by omega
  subst e
  rw [hi] at hj
  obtain rfl := Option.some.inj hj
  exact ha.elim (fun h => next_ne h rfl) (fun h => next_ne h rfl)
end Y
set_option Elab.async false
set_option linter.all false
set_option maxRecDepth 100000
set_option maxHeartbeats 4000000
namespace Y
open PySem L2
/-! ### moves and ints as data -/
def mvD : Mv → PyData
  | .slide a b => .tuple [.str "slide", .int a, .int b]
  | .turn k => .tuple [.str "turn", .int k]
theorem mv_dp {K : PySem.W.Frag} {H : Hp} {y : V} {m : Mv} (h : MvAt K H y m) : Dp K H y (mvD m) := by
  obtain ⟨b, rfl, h⟩ := h
  cases m with
  | slide u v => exact .tup h (.cons (.str _) (.cons (.int _) (.cons (.int _) .nil)))
  | turn k => exact .tup h (.cons (.str _) (.cons (.int _) .nil))
theorem mvs_dp {K : PySem.W.Frag} {H : Hp} {ys : List V} {ms : List Mv} (h : MvsAt K H ys ms) : DpAll K H ys (ms.map mvD) := by
  induction h with
  | nil => exact .nil
  | cons a _ ih => exact .cons (mv_dp a) ih
theorem mv_self (m : Mv) : PyData.eqv (mvD m) (mvD m) = true := by cases m <;> simp [mvD, PyData.eqv, PyData.eqvAll]
theorem mvs_self : ∀ ms : List Mv, PyData.eqvAll (ms.map mvD) (ms.map mvD) = true
  | [] => rfl
  | m :: ms => by
    rw [List.map_cons]
    show (PyData.eqv (mvD m) (mvD m) && PyData.eqvAll (ms.map mvD) (ms.map mvD)) = true
    rw [mv_self, mvs_self ms]
    rfl
theorem mv_lay (m : Mv) : (mvD m).canLay0 = true := by cases m <;> simp [mvD, PyData.canLay0, PyData.canLayAll0] <;> decide +kernel
theorem mvs_lay : ∀ ms : List Mv, PyData.canLayAll0 (ms.map mvD) = true
  | [] => rfl
  | m :: ms => by
    rw [List.map_cons]
    show ((mvD m).canLay0 && PyData.canLayAll0 (ms.map mvD)) = true
    rw [mv_lay, mvs_lay ms]
    rfl
theorem mv_depth (m : Mv) : (mvD m).depth ≤ 10 := by cases m <;> simp [mvD, PyData.depth, PyData.depthAll]
theorem mvs_depth : ∀ ms : List Mv, PyData.depthAll (ms.map mvD) ≤ 10
  | [] => Nat.zero_le _
  | m :: ms => by
    rw [List.map_cons]
    exact Nat.max_le.mpr ⟨mv_depth m, mvs_depth ms⟩
theorem mvs_shaped (ms : List Mv) : SeqAt.shaped (.tuple (ms.map mvD)) = true := by
  unfold SeqAt.shaped
  have h1 : (PyData.tuple (ms.map mvD)).canLay0 = true := mvs_lay ms
  have h2 : (PyData.tuple (ms.map mvD)).depth ≤ 64 := Nat.le_trans (Nat.succ_le_succ (mvs_depth ms)) (by decide)
  rw [h1, decide_eq_true h2]
  rfl
theorem mvs_shapedL (ms : List Mv) : SeqAt.shaped (.list (ms.map mvD)) = true := by
  unfold SeqAt.shaped
  have h1 : (PyData.list (ms.map mvD)).canLay0 = true := mvs_lay ms
  have h2 : (PyData.list (ms.map mvD)).depth ≤ 64 := Nat.le_trans (Nat.succ_le_succ (mvs_depth ms)) (by decide)
  rw [h1, decide_eq_true h2]
  rfl
/-- what taking back tells, as data -/
def tkD : Option (List Mv) → PyData
  | none => .none
  | some bs => .tuple (bs.map mvD)
theorem tk_dp {K : PySem.W.Frag} {H : Hp} {v : V} {o : Option (List Mv)} (h : TkAt K H v o) : Dp K H v (tkD o) := by
  cases o with
  | none => rw [show v = .non from h]; exact .non
  | some bs =>
    obtain ⟨t, ws, rfl, h1, h2⟩ := h
    exact .tup h1 (mvs_dp h2)
theorem tk_shaped (o : Option (List Mv)) : SeqAt.shaped (tkD o) = true := by
  cases o with
  | none => rfl
  | some bs => exact mvs_shaped bs
theorem tk_self (o : Option (List Mv)) : PyData.eqv (tkD o) (tkD o) = true := by
  cases o with
  | none => rfl
  | some bs => exact mvs_self bs
/-! ints -/
theorem ints_dp {K : PySem.W.Frag} {H : Hp} : ∀ ns : List Int, DpAll K H (ns.map V.int) (ns.map PyData.int)
  | [] => .nil
  | n :: ns => .cons (.int n) (ints_dp ns)
theorem ints_self : ∀ ns : List Int, PyData.eqvAll (ns.map PyData.int) (ns.map PyData.int) = true
  | [] => rfl
  | n :: ns => by
    show ((n == n) && PyData.eqvAll (ns.map PyData.int) (ns.map PyData.int)) = true
    rw [ints_self ns, beq_self_eq_true]
    rfl
theorem ints_shaped (ns : List Int) : SeqAt.shaped (.tuple (ns.map PyData.int)) = true := by
  have lay : ∀ ns : List Int, PyData.canLayAll0 (ns.map PyData.int) = true := fun ns => by
    induction ns with
    | nil => rfl
    | cons n ns ih => show (true && PyData.canLayAll0 (ns.map PyData.int)) = true; rw [ih]; rfl
  have dep : ∀ ns : List Int, PyData.depthAll (ns.map PyData.int) ≤ 0 := fun ns => by
    induction ns with
    | nil => exact Nat.le_refl _
    | cons n ns ih => exact Nat.max_le.mpr ⟨Nat.le_refl _, ih⟩
  unfold SeqAt.shaped
  have h1 : (PyData.tuple (ns.map PyData.int)).canLay0 = true := lay ns
  have h2 : (PyData.tuple (ns.map PyData.int)).depth ≤ 64 := Nat.le_trans (Nat.succ_le_succ (dep ns)) (by decide)
  rw [h1, decide_eq_true h2]
  rfl
/-! what is played stays from 0 on -/
theorem gAt_pos {st : List Int} (h : ∀ z ∈ st, 0 ≤ z) (i : Int) : 0 ≤ gAt st i := by
  unfold gAt
  rw [List.getD_eq_getElem?_getD]
  cases e : st[i.toNat]? with
  | none => exact Int.le_refl 0
  | some z => exact h z (List.mem_of_getElem? e)
theorem set_pos {st : List Int} {i : Nat} {v : Int} (h : ∀ z ∈ st, 0 ≤ z) (hv : 0 ≤ v) : ∀ z ∈ st.set i v, 0 ≤ z := fun z hz => by
  rcases List.mem_or_eq_of_mem_set hz with hz | rfl
  · exact h z hz
  · exact hv
theorem turnTo_pos {r st : List Int} (h : ∀ z ∈ st, 0 ≤ z) : ∀ m, ∀ z ∈ turnTo r st m, 0 ≤ z
  | 0 => h
  | m + 1 => by rw [turnTo_succ]; exact set_pos (turnTo_pos h m) (gAt_pos h _)
theorem step_pos {rs : List (List Int)} {st : List Int} {m : Mv} (h : ∀ z ∈ st, 0 ≤ z) : ∀ z ∈ stepMv rs st m, 0 ≤ z := by
  cases m with
  | slide a b => exact set_pos (set_pos h (Int.le_refl 0)) (gAt_pos h _)
  | turn k => exact turnTo_pos h _
theorem play_pos {rs : List (List Int)} : ∀ {ms : List Mv} {st : List Int}, (∀ z ∈ st, 0 ≤ z) → ∀ z ∈ playMvs rs st ms, 0 ≤ z
  | [], _, h => h
  | m :: ms, st, h => play_pos (ms := ms) (st := stepMv rs st m) (step_pos h)
theorem can_mvIn {n : Nat} {ts : List (Int × Int)} {rs : List (List Int)} : ∀ {ms : List Mv} {st : List Int}, CanAll n ts rs st ms → ∀ m ∈ ms, MvIn ts rs m
  | [], _, _, m, h => by cases h
  | a :: l, st, c, m, h => by
    rcases List.mem_cons.mp h with rfl | h
    · exact can_in c.1
    · exact can_mvIn (ms := l) (st := stepMv rs st a) c.2 m h
theorem mvIn_ok {ts : List (Int × Int)} {rs : List (List Int)} {m : Mv} (h : MvIn ts rs m) : MvOk rs m := by
  cases m with
  | slide a b => trivial
  | turn k => exact h
theorem all_mvIn {ts : List (Int × Int)} {rs : List (List Int)} {m : Mv} (h : m ∈ allMoves ts rs) : MvIn ts rs m := by
  unfold allMoves turns at h
  rcases List.mem_append.mp h with h | h
  · obtain ⟨t, ht, rfl⟩ := List.mem_map.mp h
    exact ht
  · obtain ⟨k, hk, rfl⟩ := List.mem_map.mp h
    rw [List.mem_range] at hk
    exact ⟨by omega, by omega⟩
end Y
set_option Elab.async false
set_option linter.all false
set_option maxRecDepth 100000
set_option maxHeartbeats 4000000
namespace Y
open PySem PySem.Spec PyProof.Rows L2
/-! ### is a row of numbers a tie? -/
def rowD (ns : List Int) : PyData := .tuple (ns.map PyData.int)
theorem eqv_ints : ∀ (ns ms : List Int), PyData.eqvAll (ns.map PyData.int) (ms.map PyData.int) = decide (ns = ms)
  | [], [] => by simp [PyData.eqvAll]
  | [], _ :: _ => by simp [PyData.eqvAll]
  | _ :: _, [] => by simp [PyData.eqvAll]
  | a :: ns, b :: ms => by
    rw [List.map_cons, List.map_cons, PyData.eqvAll, eqv_ints ns ms, Bool.eq_iff_iff]
    simp [PyData.eqv]
theorem any_row (ts : List (Int × Int)) (ns : List Int) : (ts.map tieD).any (fun y => PyData.eqv y (rowD ns)) = decide (∃ t ∈ ts, [t.1, t.2] = ns) := by
  rw [List.any_map, Bool.eq_iff_iff, List.any_eq_true, decide_eq_true_iff]
  have e : ∀ t : Int × Int, PyData.eqv (tieD t) (rowD ns) = decide ([t.1, t.2] = ns) := fun t => by
    have q := eqv_ints [t.1, t.2] ns
    simp only [tieD, rowD, PyData.eqv]
    exact q
  constructor
  · rintro ⟨t, h, q⟩
    exact ⟨t, h, of_decide_eq_true ((e t).symm.trans q)⟩
  · rintro ⟨t, h, q⟩
    exact ⟨t, h, (e t).trans (decide_eq_true q)⟩
theorem lay_ints : ∀ ns : List Int, PyData.canLayAll0 (ns.map PyData.int) = true
  | [] => rfl
  | n :: ns => by simp only [List.map_cons, PyData.canLayAll0, lay_ints ns, PyData.canLay0, Bool.and_self]
theorem depth_ints : ∀ ns : List Int, PyData.depthAll (ns.map PyData.int) ≤ 1
  | [] => by simp [PyData.depthAll]
  | n :: ns => by
    have := depth_ints ns
    simp only [List.map_cons, PyData.depthAll, PyData.depth]
    omega
def rRowIn (K : PySem.W.Frag) : R2 := fun x y H Q => ∃ (a p : Addr) (ys : List V) (ts : List (Int × Int)) (ns : List Int), y = .ref a ∧ SqT K H a ys ∧ Paired (TieAt K H) ys ts ∧ x = .ref p ∧ SqT K H p (ns.map V.int) ∧ Q (.bl (decide (∃ t ∈ ts, [t.1, t.2] = ns))) H
theorem op_rowIn {X : Cx} (hu : X.A.units + 64 < cLine) : OpR X (compareOp .In) (rRowIn X.K) := by
  intro pins s σ H x y v u Q I rx ry h
  obtain ⟨a, p, ys, ts, ns, rfl, ha, hp, rfl, hs, q⟩ := h
  obtain ⟨as, r1⟩ := Dp.reads I (rowD ns) _ v (.tup hs (ints_dp ns)) rx
  obtain ⟨bs, r2⟩ := Dp.reads I (.tuple (ts.map tieD)) (.ref a) u (.tup ha (ties_dp hp)) ry
  have d1 : (rowD ns).depth ≤ 10 := by
    have := depth_ints ns
    simp only [rowD, PyData.depth]
    omega
  exact SeqAt.in_tuple_reads r2 r1 (lay_ties ts) (by simp only [rowD, PyData.canLay0]; exact lay_ints ns) (by have := Nat.min_le_right (PyData.depthAll (ts.map tieD)) (rowD ns).depth; omega) ⟨.bl _, H, I, rfl, by rw [any_row]; exact q⟩
/-! ### any data: is it a move? -/
def IsMv (ts : List (Int × Int)) (rs : List (List Int)) (d : PyData) : Prop := ∃ m, d = mvD m ∧ MvIn ts rs m
def fI : V → V
  | .int _ => .bl true
  | _ => .bl false
theorem fI_dq {K : PySem.W.Frag} {H : Hp} {d : PyData} {v : V} (h : Dq K H d v) : fI v = .bl (isI d) := by cases h <;> rfl
theorem fI_dqs {K : PySem.W.Frag} {H : Hp} : ∀ {ds : List PyData} {xs : List V}, Dqs K H ds xs → xs.map fI = (ds.map isI).map V.bl
  | _, _, .nil => rfl
  | _, _, .cons h t => by rw [List.map_cons, fI_dq h, fI_dqs t]; rfl
theorem all_ints {K : PySem.W.Frag} {H : Hp} : ∀ {ds : List PyData} {xs : List V}, Dqs K H ds xs → (ds.map isI).all id = true → ∃ ns : List Int, ds = ns.map PyData.int ∧ xs = ns.map V.int
  | _, _, .nil, _ => ⟨[], rfl, rfl⟩
  | _, _, .cons h t, a => by
    rw [List.map_cons, List.all_cons, Bool.and_eq_true] at a
    obtain ⟨ns, e1, e2⟩ := all_ints t a.2
    cases h with
    | int i => exact ⟨i :: ns, by rw [e1]; rfl, by rw [e2]; rfl⟩
    | _ => exact absurd a.1 (by simp [isI])
theorem dqs_len {K : PySem.W.Frag} {H : Hp} : ∀ {ds : List PyData} {xs : List V}, Dqs K H ds xs → xs.length = ds.length
  | _, _, .nil => rfl
  | _, _, .cons _ t => by rw [List.length_cons, List.length_cons, dqs_len t]
theorem dqs_get {K : PySem.W.Frag} {H : Hp} : ∀ {ds : List PyData} {xs : List V}, Dqs K H ds xs → ∀ {i : Nat} {x : V}, xs[i]? = some x → ∃ d, ds[i]? = some d ∧ Dq K H d x
  | _, _, .nil, i, x, h => by simp at h
  | _, _, .cons h t, 0, x, e => by cases Option.some.inj e; exact ⟨_, rfl, h⟩
  | _, _, .cons h t, i + 1, x, e => dqs_get t (i := i) e
mutual
theorem Dq.kp {K : PySem.W.Frag} {H H' : Hp} (s : Same H H') : ∀ {d : PyData} {v : V}, Dq K H d v → Dq K H' d v
  | _, _, .non => .non
  | _, _, .bl b => .bl b
  | _, _, .int i => .int i
  | _, _, .str x => .str x
  | _, _, .lst h t => .lst (s.seq h) (Dqs.kp s t)
  | _, _, .tup h t => .tup (Same.seqT s h) (Dqs.kp s t)
  | _, _, .dct e => .dct (s _ _ e)
theorem Dqs.kp {K : PySem.W.Frag} {H H' : Hp} (s : Same H H') : ∀ {ds : List PyData} {vs : List V}, Dqs K H ds vs → Dqs K H' ds vs
  | _, _, .nil => .nil
  | _, _, .cons h t => .cons (Dq.kp s h) (Dqs.kp s t)
end
def spIsMoveD (K : PySem.W.Frag) : Sp := fun vs H Q _ => ∃ (x : Addr) (y : V) (n : Nat) (ts : List (Int × Int)) (rs : List (List Int)) (d : PyData), vs = [.ref x, y] ∧ YObj K H x n ts rs ∧ Dq K H d y ∧ (∀ ds, d = .tuple ds → ds.length ≤ 100) ∧ ∀ H' b, Same H H' → (b = true ↔ IsMv ts rs d) → Q (.bl b) H'
theorem not_mv {ts : List (Int × Int)} {rs : List (List Int)} {d : PyData} (h : ∀ m, d ≠ mvD m) : (false = true ↔ IsMv ts rs d) := ⟨fun z => (Bool.false_ne_true z).elim, fun ⟨m, e, _⟩ => (h m e).elim⟩
section
variable {P : Program} {w : World} {K : PySem.W.Frag} {mg : Str → Option Value} {base : Heap} {fInt : Addr}
theorem ok_isMoveD {f : Addr} {fd fdI : FuncData} (F : Fun K "is_move" "is_move" sIsMove f fd) (T : TN K mg fInt) (FI : Fun K "is_integer" "is_integer" sIsInt fInt fdI) (bI : Binds K fdI ["value"] []) : FnOk P w K mg base CX0 2 f fd ["yard", "value"] (spIsMoveD K) := by
  have GI : FnOk P w K mg base CX0 1 fInt fdI ["value"] (spIsIntD K) := ok_isIntD FI T.i
  refine F.ok scIsMove (fun vs H Q E h => ?_) (fun cdv A outer s H vs Q E hr h => ?_)
  · obtain ⟨x, y, n, ts, rs, d, rfl, _⟩ := h
    rfl
  · obtain ⟨x, y, n, ts, rs, d, rfl, hy, hd, d100, k⟩ := h
    have hu := hr.units
    refine ⟨_, pss_cons (ps_if (PW.pt (pw_or (pt_not (pt_val (pe_callB call_isi (by rfl) T.i.isi (by decide +kernel) (pa_cons (pv 1) (pa_cons (pbT (n := "tuple") T.i.tuple (by decide +kernel)) pa_nil)))))
        (pw_or (pt_cmpR op_lt (pe_callB call_len_seq (by rfl) T.len PySem.boot_len (pa_cons (pv 1) pa_nil)) pe_int (nomark _)) (pw_or1 (pt_not (pt_val (pe_callB call_isi (by rfl) T.i.isi (by decide +kernel) (pa_cons (pe_ix ix_tup (pv 1) pe_int (fun _ _ => rfl)) (pa_cons (pbT (n := "str") T.str (by decide +kernel)) pa_nil))))))))) (pss_one (ps_ret pe_bl)) pss_nil)
      (pss_cons (ps_if (pt_not (pt_val (pe_callB (cr_all rfl) (by rfl) T.all (by decide +kernel) (pa_cons (pe_lc (own := [("number", 2)]) (g := gName 2) (tt := tYes) rfl scIsMove.nd (pi_tup (pe_slice sl_tup (pv 1) (po_some pe_int) po_none)) (blkOk_by (N := ["yard", "value", "number"]) (sc := defScope sIsMove) (by decide +kernel))
          (fun _ _ _ _ _ => pg_name (i := 2) scIsMove.nd rfl (Or.inl rfl)) (fun _ _ _ _ _ => pts_nil) (fun _ _ _ _ _ => pe_call GI hr (by rfl) T.gInt FI.kp bI .nil pass0 (pa_cons (pv 2) pa_nil))) pa_nil)))) (pss_one (ps_ret pe_bl)) pss_nil)
      (pss_cons (ps_if (pt_cmpR op_eq (pe_ix ix_tup (pv 1) pe_int (fun _ _ => rfl)) pe_str (nomark _)) (pss_one (ps_ret (pe_cmpR (op_rowIn hu) (pe_slice sl_tup (pv 1) (po_some pe_int) po_none) (pe_fld (pv 0) rfl) (by rfl)))) pss_nil)
      (pss_one (ps_ret (pe_and (pe_cmpR op_eq (pe_ix ix_tup (pv 1) pe_int (fun _ _ => rfl)) pe_str (nomark _)) (pe_and (pe_cmpR op_eq (pe_callB call_len_seq (by rfl) T.len PySem.boot_len (pa_cons (pv 1) pa_nil)) pe_int (nomark _))
        (pe_one (pe_chain op_le op_lt pe_int (pe_ix ix_tup (pv 1) pe_int (fun _ _ => rfl)) (pe_callB call_len_seq (by rfl) T.len PySem.boot_len (pa_cons (pe_fld (pv 0) rfl) pa_nil)))))))))), ?_⟩
    obtain ⟨C, dx, a, e, fs, ys, zs, hx, yc, lp, lt, lr, ha, pa, he, pe⟩ := hy
    have ty := dq_ty hd
    have k0 : (∀ m, d ≠ mvD m) → Q (.bl false) H := fun h => k H false (Same.refl' H) (not_mv h)
    cases hd with
    | non => exact ⟨_, rfl, _, _, _, _, false, rfl, ClsV.ty _, ty, kit_ty (by dsimp only [tyNm]; decide +kernel), _, rfl, iteT (k0 fun m => by cases m <;> (intro z; cases z))⟩
    | bl b => exact ⟨_, rfl, _, _, _, _, false, rfl, ClsV.ty _, ty, kit_ty (by dsimp only [tyNm]; decide +kernel), _, rfl, iteT (k0 fun m => by cases m <;> (intro z; cases z))⟩
    | int i => exact ⟨_, rfl, _, _, _, _, false, rfl, ClsV.ty _, ty, kit_ty (by dsimp only [tyNm]; decide +kernel), _, rfl, iteT (k0 fun m => by cases m <;> (intro z; cases z))⟩
    | str i => exact ⟨_, rfl, _, _, _, _, false, rfl, ClsV.ty _, ty, kit_ty (by dsimp only [tyNm]; decide +kernel), _, rfl, iteT (k0 fun m => by cases m <;> (intro z; cases z))⟩
    | lst h1 h2 => exact ⟨_, rfl, _, _, _, _, false, rfl, ClsV.ty _, ty, kit_ty (by dsimp only [tyNm]; decide +kernel), _, rfl, iteT (k0 fun m => by cases m <;> (intro z; cases z))⟩
    | dct h1 => exact ⟨_, rfl, _, _, _, _, false, rfl, ClsV.ty _, ty, kit_ty (by dsimp only [tyNm]; decide +kernel), _, rfl, iteT (k0 fun m => by cases m <;> (intro z; cases z))⟩
    | @tup ds b xs hm hds =>
      have l100 := d100 ds rfl
      have lx := dqs_len hds
      refine ⟨_, rfl, _, _, _, _, true, rfl, ClsV.ty _, ty, kit_ty (by dsimp only [tyNm]; decide +kernel), _, rfl, iteF ?_⟩
      refine ⟨_, rfl, b, _, rfl, .inr hm, _, _, rfl, rfl, _, rfl, ?_⟩
      refine ifT (fun h => ?_) (fun hlen => ?_)
      · have h' : ((xs.length : Nat) : Int) < 2 := of_decide_eq_true h
        refine k0 fun m z => ?_
        have z2 : ds.length = m.vs.length := by cases m <;> (injection z with z; rw [z]; rfl)
        cases m with
        | slide u v => have : ds.length = 3 := z2; omega
        | turn u => have : ds.length = 2 := z2; omega
      have h2 : 2 ≤ xs.length := by
        have h' : ¬ ((xs.length : Nat) : Int) < 2 := of_decide_eq_false hlen
        omega
      cases hds with
      | nil => exact absurd h2 (by simp)
      | @cons d0 ds' x0 xs' hd0 hds' =>
        have ty0 := dq_ty hd0
        refine ⟨_, rfl, b, _, 0, _, rfl, rfl, hm, atI_nat (j := 0) rfl, ?_⟩
        have k1 : (∀ w, d0 ≠ .str w) → Q (.bl false) H := fun h => k0 fun m => by cases m <;> (intro z; injection z with z; injection z with z; exact h _ z)
        cases hd0 with
        | non => exact ⟨_, _, _, _, false, rfl, ClsV.ty _, ty0, kit_ty (by dsimp only [tyNm]; decide +kernel), _, rfl, iteT (k1 fun w z => by cases z)⟩
        | bl b => exact ⟨_, _, _, _, false, rfl, ClsV.ty _, ty0, kit_ty (by dsimp only [tyNm]; decide +kernel), _, rfl, iteT (k1 fun w z => by cases z)⟩
        | int i => exact ⟨_, _, _, _, false, rfl, ClsV.ty _, ty0, kit_ty (by dsimp only [tyNm]; decide +kernel), _, rfl, iteT (k1 fun w z => by cases z)⟩
        | lst h1 h2 => exact ⟨_, _, _, _, false, rfl, ClsV.ty _, ty0, kit_ty (by dsimp only [tyNm]; decide +kernel), _, rfl, iteT (k1 fun w z => by cases z)⟩
        | tup h1 h2 => exact ⟨_, _, _, _, false, rfl, ClsV.ty _, ty0, kit_ty (by dsimp only [tyNm]; decide +kernel), _, rfl, iteT (k1 fun w z => by cases z)⟩
        | dct h1 => exact ⟨_, _, _, _, false, rfl, ClsV.ty _, ty0, kit_ty (by dsimp only [tyNm]; decide +kernel), _, rfl, iteT (k1 fun w z => by cases z)⟩
        | str wd =>
          refine ⟨_, _, _, _, true, rfl, ClsV.ty _, ty0, kit_ty (by dsimp only [tyNm]; decide +kernel), _, rfl, iteF ?_⟩
          have l2 : 1 ≤ xs'.length := by rw [List.length_cons] at h2; omega
          have cut1 : cutV (V.str wd :: xs') (some 1) none = xs' := by
            unfold cutV
            have e1 : HT.sIx (V.str wd :: xs').length 0 (some 1) = 1 := by
              rw [show (some (1 : Int)) = some ((1 : Nat) : Int) from rfl, HT.sIx_nat, List.length_cons]
              omega
            rw [e1, HT.sIx_none, List.drop_one, List.tail_cons]
            exact List.take_of_length_le (by rw [List.length_cons]; omega)
          have ncut : ¬ (HT.sIx (V.str wd :: xs').length 0 (some 1) = 0 ∧ HT.sIx (V.str wd :: xs').length (V.str wd :: xs').length none = (V.str wd :: xs').length) := by
            rintro ⟨h, _⟩
            rw [show (some (1 : Int)) = some ((1 : Nat) : Int) from rfl, HT.sIx_nat, List.length_cons] at h
            omega
          refine ⟨_, rfl, _, rfl, b, _, rfl, hm, ncut, fun p np => ?_⟩
          rw [cut1]
          have s1 := Same.new (o := .tup xs') np
          have lx' := dqs_len hds'
          rw [List.length_cons] at l100
          refine ⟨p, rfl, ⟨_, SqT.of upd_same⟩, fun D hD => ?_⟩
          refine lcp_tup (f := fI) (xs := xs') hD (by omega) (SqT.of upd_same) (fun H' s' => SqT.of (s' _ _ upd_same)) (fun i v0 H2 R hx2 s2 hR => ?_) ?_
          · obtain ⟨di, _, hdi⟩ := dqs_get hds' hx2
            refine ⟨rfl, _, rfl, v0, di, rfl, Dq.kp (s1.trans s2) hdi, ?_⟩
            rw [← fI_dq hdi]
            exact hR
          · have s2 := s1.trans (Same.new (o := .lst (xs'.map fI)) hD)
            refine ⟨D, ds'.map isI, rfl, ?_, ?_⟩
            · rw [← fI_dqs hds']
              exact SqL.of upd_same
            refine ⟨_, rfl, ?_⟩
            cases hall : (ds'.map isI).all id with
            | false =>
              refine iteT (k _ false s2 (not_mv fun m z => ?_))
              have e2 : (ds'.map isI).all id = true := by cases m <;> (injection z with z; injection z with _ z; rw [z]; rfl)
              rw [hall] at e2
              cases e2
            | true =>
            refine iteF ?_
            obtain ⟨ns, rfl, rfl⟩ := all_ints hds' hall
            have hm2 := Same.seqT s2 hm
            have hx2 := s2 _ _ hx
            refine ⟨_, rfl, b, _, 0, _, rfl, rfl, hm2, atI_nat (j := 0) rfl, rfl, _, rfl, ?_⟩
            refine ifT (fun h => ?_) (fun hns => ?_)
            · have ew : wd = "slide" := by
                have := of_decide_eq_true h
                injection this
              subst ew
              refine ⟨_, rfl, _, rfl, b, _, rfl, hm2, ncut, fun p2 np2 => ?_⟩
              rw [cut1]
              have s3 := s2.trans (Same.new (o := .tup (ns.map V.int)) np2)
              refine ⟨_, rfl, x, C, dx, fs, _, rfl, s3 _ _ hx, yc.c, yc.t, lt, a, p2, ys, ts, ns, rfl, Same.seqT s3 ha, ties_kp pa (.of_same s3), rfl, SqT.of upd_same, ?_⟩
              refine k _ _ s3 ?_
              rw [decide_eq_true_iff]
              constructor
              · rintro ⟨t, ht, rfl⟩
                exact ⟨.slide t.1 t.2, rfl, ht⟩
              · rintro ⟨m, z, hin⟩
                cases m with
                | slide u v =>
                  injection z with z
                  injection z with _ z
                  refine ⟨(u, v), hin, ?_⟩
                  have e3 : (ns.map PyData.int) = [u, v].map PyData.int := z
                  have e4 := eqv_ints ns [u, v]
                  rw [e3, ints_self] at e4
                  exact (of_decide_eq_true e4.symm).symm
                | turn u =>
                  injection z with z
                  injection z with z _
                  injection z with z
                  exact absurd z (by decide +kernel)
            · have ew : ¬ wd = "slide" := fun z => by
                have := of_decide_eq_false hns
                exact this (by rw [z])
              refine ⟨_, rfl, b, _, 0, _, rfl, rfl, hm2, atI_nat (j := 0) rfl, rfl, _, rfl, ?_⟩
              refine ifT (fun h => ?_) (fun hnt => ?_)
              · have et : wd = "turn" := by
                  have := of_decide_eq_true h
                  injection this
                subst et
                refine ⟨_, rfl, b, _, rfl, .inr hm2, rfl, _, rfl, ?_⟩
                refine ifT (fun h => ?_) (fun hn2 => ?_)
                · have l1 : ns.length = 1 := by
                    have := of_decide_eq_true h
                    injection this with this
                    rw [List.length_cons, List.length_map] at this
                    omega
                  obtain ⟨kk, rfl⟩ : ∃ kk, ns = [kk] := by
                    match ns, l1 with
                    | [kk], _ => exact ⟨kk, rfl⟩
                  have hz := Paired.length pe
                  refine ⟨_, rfl, b, _, 1, _, rfl, rfl, hm2, atI_nat (j := 1) rfl, ?_⟩
                  refine ⟨_, _, rfl, rfl, _, rfl, ?_⟩
                  have fin : ∀ b, (b = true ↔ (0 ≤ kk ∧ kk < (rs.length : Int))) → (b = true ↔ IsMv ts rs (PyData.tuple (PyData.str "turn" :: List.map PyData.int [kk]))) := fun b hb => hb.trans ⟨fun h => ⟨.turn kk, rfl, h⟩, fun ⟨m, z, hin⟩ => by
                    cases m with
                    | slide u v =>
                      injection z with z
                      injection z with z _
                      injection z with z
                      exact absurd z (by decide +kernel)
                    | turn u =>
                      injection z with z
                      injection z with _ z
                      have e3 : ([kk].map PyData.int) = [u].map PyData.int := z
                      injection e3 with e3 _
                      injection e3 with e3
                      rw [e3]
                      exact hin⟩
                  refine ifT (fun h0 => ?_) (fun h0 => ?_)
                  · refine ⟨_, rfl, x, C, dx, fs, _, rfl, hx2, yc.c, yc.r, lr, e, zs, rfl, .inr (Same.seqT s2 he), _, _, rfl, rfl, ?_⟩
                    refine k _ _ s2 (fin _ ?_)
                    rw [decide_eq_true_iff]
                    have h0' : 0 ≤ kk := of_decide_eq_true h0
                    rw [hz]
                    exact ⟨fun h => ⟨h0', h⟩, fun h => h.2⟩
                  · refine k _ _ s2 (fin _ ⟨fun z => (Bool.false_ne_true z).elim, fun h => ?_⟩)
                    exact absurd h.1 (of_decide_eq_false h0)
                · refine k _ _ s2 (not_mv fun m z => ?_)
                  refine of_decide_eq_false hn2 ?_
                  cases m with
                  | slide u v =>
                    injection z with z
                    injection z with z _
                    injection z with z
                    exact absurd z (by decide +kernel)
                  | turn u =>
                    injection z with z
                    injection z with _ z
                    have := congrArg List.length z
                    rw [List.length_map] at this
                    rw [List.length_cons, List.length_map, this]
                    rfl
              · refine k _ _ s2 (not_mv fun m z => ?_)
                cases m with
                | slide u v =>
                  injection z with z
                  injection z with z _
                  injection z with z
                  exact ew z
                | turn u =>
                  injection z with z
                  injection z with z _
                  injection z with z
                  exact of_decide_eq_false hnt (by rw [z])
end
end Y
set_option Elab.async false
set_option linter.all false
set_option maxRecDepth 100000
set_option maxHeartbeats 4000000
namespace Y
open PySem L2
/-! ### rows and stands of any data -/
abbrev sIsStd : Stmt := top 999
def isRowB : PyData → Bool
  | .list _ => true
  | .tuple _ => true
  | _ => false
def isStB (n : Nat) : PyData → Bool
  | .list es => decide (es.length = n) && es.all isCnt
  | .tuple es => decide (es.length = n) && es.all isCnt
  | _ => false
def isTupB : PyData → Bool
  | .tuple _ => true
  | _ => false
def shortD (d : PyData) : Prop := ∀ es, d = .list es ∨ d = .tuple es → es.length ≤ 1000
def spIsRowD (K : PySem.W.Frag) : Sp := fun vs H Q _ => ∃ (x : V) (d : PyData), vs = [x] ∧ Dq K H d x ∧ ∀ H', Same H H' → Q (.bl (isRowB d)) H'
def spStRowD (K : PySem.W.Frag) : Sp := fun vs H Q _ => ∃ (x : Addr) (y : V) (n : Nat) (ts : List (Int × Int)) (rs : List (List Int)) (d : PyData), vs = [.ref x, y] ∧ YObj K H x n ts rs ∧ Dq K H d y ∧ shortD d ∧ ∀ H', Same H H' → Q (.bl (isStB n d)) H'
def spStdD (K : PySem.W.Frag) : Sp := fun vs H Q _ => ∃ (x : Addr) (y : V) (n : Nat) (ts : List (Int × Int)) (rs : List (List Int)) (d : PyData), vs = [.ref x, y] ∧ YObj K H x n ts rs ∧ Dq K H d y ∧ shortD d ∧ ∀ H', Same H H' → Q (.bl (isTupB d && isStB n d)) H'
theorem kit_rowD {K : PySem.W.Frag} (d : PyData) : PySem.W.kitAny K (.type (tyNm d)) [.type "tuple", .type "list"] = some (isRowB d) := by
  cases d with
  | list _ => exact kit_row (.inl rfl)
  | tuple _ => exact kit_row (.inr rfl)
  | none =>
    have e1 : PySem.W.kitOne K (.type "NoneType") (.type "tuple") = some false := kit_ty (by decide +kernel)
    have e2 : PySem.W.kitOne K (.type "NoneType") (.type "list") = some false := kit_ty (by decide +kernel)
    simp only [tyNm, PySem.W.kitAny, e1, e2, isRowB]
  | bool _ =>
    have e1 : PySem.W.kitOne K (.type "bool") (.type "tuple") = some false := kit_ty (by decide +kernel)
    have e2 : PySem.W.kitOne K (.type "bool") (.type "list") = some false := kit_ty (by decide +kernel)
    simp only [tyNm, PySem.W.kitAny, e1, e2, isRowB]
  | int _ =>
    have e1 : PySem.W.kitOne K (.type "int") (.type "tuple") = some false := kit_ty (by decide +kernel)
    have e2 : PySem.W.kitOne K (.type "int") (.type "list") = some false := kit_ty (by decide +kernel)
    simp only [tyNm, PySem.W.kitAny, e1, e2, isRowB]
  | str _ =>
    have e1 : PySem.W.kitOne K (.type "str") (.type "tuple") = some false := kit_ty (by decide +kernel)
    have e2 : PySem.W.kitOne K (.type "str") (.type "list") = some false := kit_ty (by decide +kernel)
    simp only [tyNm, PySem.W.kitAny, e1, e2, isRowB]
  | dict _ =>
    have e1 : PySem.W.kitOne K (.type "dict") (.type "tuple") = some false := kit_ty (by decide +kernel)
    have e2 : PySem.W.kitOne K (.type "dict") (.type "list") = some false := kit_ty (by decide +kernel)
    simp only [tyNm, PySem.W.kitAny, e1, e2, isRowB]
def fC : V → V
  | .int z => .bl (decide (0 ≤ z))
  | _ => .bl false
theorem fC_dq {K : PySem.W.Frag} {H : Hp} {d : PyData} {v : V} (h : Dq K H d v) : fC v = .bl (isCnt d) := by cases h <;> rfl
theorem fC_dqs {K : PySem.W.Frag} {H : Hp} : ∀ {ds : List PyData} {vs : List V}, Dqs K H ds vs → vs.map fC = (ds.map isCnt).map V.bl
  | _, _, .nil => rfl
  | _, _, .cons h t => by rw [List.map_cons, List.map_cons, List.map_cons, fC_dq h, fC_dqs t]
theorem all_id (ds : List PyData) : (ds.map isCnt).all id = ds.all isCnt := by
  rw [List.all_map]
  rfl
/-- a row among data -/
theorem row_of {K : PySem.W.Frag} {H : Hp} {d : PyData} {y : V} (h : Dq K H d y) (r : isRowB d = true) : ∃ (b : Addr) (xs : List V) (es : List PyData), y = .ref b ∧ SqA K H b xs ∧ Dqs K H es xs ∧ (d = .list es ∨ d = .tuple es) := by
  cases h with
  | lst h t => exact ⟨_, _, _, rfl, .inl h, t, .inl rfl⟩
  | tup h t => exact ⟨_, _, _, rfl, .inr h, t, .inr rfl⟩
  | _ => cases r
section
variable {P : Program} {w : World} {K : PySem.W.Frag} {mg : Str → Option Value} {base : Heap} {fInt fRow fIsS fMove fCan fBeh fAll fCnt : Addr}
theorem ok_isRowD {f : Addr} {fd : FuncData} (F : Fun K "is_row" "is_row" sIsRow f fd) (T : TI0 mg) : FnOk P w K mg base CX0 1 f fd ["value"] (spIsRowD K) := by
  refine F.ok scIsRow (fun vs H Q E h => ?_) (fun cdv A outer s H vs Q E hr h => ?_)
  · obtain ⟨x, d, rfl, _⟩ := h
    rfl
  · obtain ⟨x, d, rfl, hd, k⟩ := h
    refine ⟨_, pss_one (ps_ret (pe_callB call_isiT (by rfl) T.isi (by decide +kernel) (pa_cons (pv 0) (pa_cons (pe_tup (pa_cons (pbT (n := "tuple") T.tuple (by decide +kernel)) (pa_cons (pbT (n := "list") T.list (by decide +kernel)) pa_nil))) pa_nil)))), ?_⟩
    refine ⟨_, rfl, (by show 2 ≤ sizeLine; decide), fun t nt => ?_⟩
    exact ⟨x, t, _, _, _, isRowB d, rfl, upd_same, .cons (ClsV.ty _) (.cons (ClsV.ty _) .nil), dq_ty (Dq.kp (Same.new nt) hd), kit_rowD d, k _ (Same.new nt)⟩
theorem ok_stRowD {f : Addr} {fd fdI fdR fdC : FuncData} (F : Fun K "is_stand_row" "is_stand_row" sIsStand f fd) (T : TPl K mg fInt fRow fIsS fMove fCan fBeh fAll fCnt) (FI : Fun K "is_integer" "is_integer" sIsInt fInt fdI) (bI : Binds K fdI ["value"] []) (FR : Fun K "is_row" "is_row" sIsRow fRow fdR) (bR : Binds K fdR ["value"] []) (FC : Fun K "is_count" "is_count" sIsCount fCnt fdC) (bC : Binds K fdC ["value"] []) :
    FnOk P w K mg base CX0 3 f fd ["yard", "value"] (spStRowD K) := by
  have GC : FnOk P w K mg base CX0 2 fCnt fdC ["value"] (spIsCountD K) := ok_isCountD FC T.i T.gInt FI bI
  have GR : FnOk P w K mg base CX0 2 fRow fdR ["value"] (spIsRowD K) := (ok_isRowD FR T.i).mono (by decide)
  refine F.ok scIsStand (fun vs H Q E h => ?_) (fun cdv A outer s H vs Q E hr h => ?_)
  · obtain ⟨x, y, n, ts, rs, d, rfl, _⟩ := h
    rfl
  · obtain ⟨x, y, n, ts, rs, d, rfl, hy, hd, sh, k⟩ := h
    refine ⟨_, pss_cons (ps_if (PW.pt (pw_or (pt_not (pt_val (pe_call GR hr (by rfl) T.gRow FR.kp bR .nil pass0 (pa_cons (pv 1) pa_nil)))) (pw_or1 (pt_cmpR op_ne (pe_callB call_len_seq (by rfl) T.len PySem.boot_len (pa_cons (pv 1) pa_nil)) (pe_fld (pv 0) rfl) (nomark _))))) (pss_one (ps_ret pe_bl)) pss_nil)
      (pss_one (ps_ret (pe_callB (cr_all rfl) (by rfl) T.all (by decide +kernel) (pa_cons (pe_lc (own := [("thing", 2)]) (g := gName 2) (tt := tYes) rfl scIsStand.nd (pi_seqV (pv 1)) (blkOk_by (N := ["yard", "value", "thing"]) (sc := defScope sIsStand) (by decide +kernel))
          (fun _ _ _ _ _ => pg_name (i := 2) scIsStand.nd rfl (Or.inl rfl)) (fun _ _ _ _ _ => pts_nil) (fun _ _ _ _ _ => pe_call GC hr (by rfl) T.gCnt FC.kp bC .nil pass0 (pa_cons (pv 2) pa_nil))) pa_nil)))), ?_⟩
    obtain ⟨C, dx, a, e, fs, tys, zs, hx, yc, lp, lt, lr, ha, pa, he, pe⟩ := id hy
    refine ⟨_, rfl, _, _, rfl, hd, fun H1 s1 => ⟨_, rfl, ?_⟩⟩
    cases hrow : isRowB d with
    | false =>
      have : isStB n d = false := by cases d <;> first | rfl | cases hrow
      rw [this] at k
      exact iteT (k H1 s1)
    | true =>
      obtain ⟨b, xs, es, rfl, hb, hes, hde⟩ := row_of hd hrow
      have le := dqs_len hes
      have l1 := sh es hde
      have eSt : isStB n d = (decide (es.length = n) && es.all isCnt) := by rcases hde with rfl | rfl <;> rfl
      rw [eSt] at k
      refine iteF ?_
      refine ⟨_, rfl, b, _, rfl, Same.seqA s1 hb, _, rfl, x, C, dx, fs, _, rfl, s1 _ _ hx, yc.c, yc.p, lp, rfl, _, rfl, ?_⟩
      refine ifT (fun h => ?_) (fun h => ?_)
      · have ne : ¬ es.length = n := fun z => by
          rw [le, z] at h
          simp at h
        rw [decide_eq_false ne, Bool.false_and] at k
        exact k H1 s1
      · have eq : es.length = n := by
          rw [le] at h
          simp at h
          omega
        rw [decide_eq_true eq, Bool.true_and] at k
        refine ⟨b, xs, H, rfl, hb, .of_same s1, fun J G w1 hG D hD => ?_⟩
        refine lcp_it (f := fC) (H1 := H1) w1 hD (by omega) (fun H' s' => hG H' ((Kp.of_same s1).trans s')) (fun i x0 H2 R hx s2 hR => ?_) ?_
        · obtain ⟨d0, _, hd0⟩ := dqs_get hes hx
          refine ⟨rfl, _, rfl, _, _, rfl, Dq.kp (s1.trans s2) hd0, ?_⟩
          rw [← fC_dq hd0]
          exact hR
        · have s2 := s1.trans (Same.new (o := .lst (xs.map fC)) hD)
          refine ⟨D, es.map isCnt, rfl, ?_, ?_⟩
          · rw [← fC_dqs hes]
            exact SqL.of upd_same
          rw [all_id]
          exact k _ s2
end
end Y
set_option Elab.async false
set_option linter.all false
set_option maxRecDepth 100000
set_option maxHeartbeats 4000000
namespace Y
open PySem L2
/-! ### rows of data as moves -/
abbrev sMvInit : Stmt := inClass (top 13) 0
/-- whether a move of the yard can be made -/
def canB (st : List Int) : Mv → Bool
  | .slide a b => canSlide st (a, b)
  | .turn _ => true
theorem mvD_inj {m m' : Mv} (h : mvD m = mvD m') : m = m' := by
  cases m with
  | slide a b =>
    cases m' with
    | slide c d =>
      injection h with h
      injection h with _ h
      injection h with h1 h
      injection h with h2 _
      injection h1 with h1
      injection h2 with h2
      rw [h1, h2]
    | turn c =>
      injection h with h
      injection h with h _
      injection h with h
      exact absurd h (by decide +kernel)
  | turn a =>
    cases m' with
    | slide c d =>
      injection h with h
      injection h with h _
      injection h with h
      exact absurd h (by decide +kernel)
    | turn c =>
      injection h with h
      injection h with _ h
      injection h with h1 _
      injection h1 with h1
      rw [h1]
open Classical in
/-- the stand behind a data, if it is a move and can be made -/
noncomputable def stepD (ts : List (Int × Int)) (rs : List (List Int)) (st : List Int) (d : PyData) : Option (List Int) :=
  if h : ∃ m, d = mvD m ∧ MvIn ts rs m ∧ canB st m = true then some (stepMv rs st h.choose) else none
theorem stepD_some {ts : List (Int × Int)} {rs : List (List Int)} {st : List Int} {d : PyData} {m : Mv} (e : d = mvD m) (hin : MvIn ts rs m) (hc : canB st m = true) : stepD ts rs st d = some (stepMv rs st m) := by
  have h : ∃ m, d = mvD m ∧ MvIn ts rs m ∧ canB st m = true := ⟨m, e, hin, hc⟩
  unfold stepD
  rw [dif_pos h]
  have := mvD_inj (h.choose_spec.1.symm.trans e)
  rw [this]
theorem stepD_none {ts : List (Int × Int)} {rs : List (List Int)} {st : List Int} {d : PyData} (h : ∀ m, d = mvD m → MvIn ts rs m → canB st m = false) : stepD ts rs st d = none := by
  unfold stepD
  refine dif_neg fun ⟨m, e, hin, hc⟩ => ?_
  rw [h m e hin] at hc
  cases hc
/-- a row of data played: the first wrong one's number, or the stand behind all -/
noncomputable def runD (ts : List (Int × Int)) (rs : List (List Int)) : Nat → List Int → List PyData → Nat ⊕ List Int
  | _, st, [] => .inr st
  | i, st, d :: ds => match stepD ts rs st d with
    | some st' => runD ts rs (i + 1) st' ds
    | none => .inl i
theorem runD_cons_some {ts : List (Int × Int)} {rs : List (List Int)} {i : Nat} {st st' : List Int} {d : PyData} {ds : List PyData} (h : stepD ts rs st d = some st') : runD ts rs i st (d :: ds) = runD ts rs (i + 1) st' ds := by
  show (match stepD ts rs st d with | some st' => runD ts rs (i + 1) st' ds | none => .inl i) = _
  rw [h]
theorem runD_cons_none {ts : List (Int × Int)} {rs : List (List Int)} {i : Nat} {st : List Int} {d : PyData} {ds : List PyData} (h : stepD ts rs st d = none) : runD ts rs i st (d :: ds) = .inl i := by
  show (match stepD ts rs st d with | some st' => runD ts rs (i + 1) st' ds | none => .inl i) = _
  rw [h]
theorem canB_of {n : Nat} {ts : List (Int × Int)} {rs : List (List Int)} {st : List Int} {m : Mv} (h : CanMv n ts rs st m) : canB st m = true := by
  cases m with
  | slide a b =>
    show (decide (0 < gAt st a) && decide (gAt st b = 0)) = true
    rw [decide_eq_true h.2.2.1, decide_eq_true h.2.2.2]
    rfl
  | turn k => rfl
theorem can_of {n : Nat} {ts : List (Int × Int)} {rs : List (List Int)} {st : List Int} {m : Mv} (tok : ∀ t ∈ ts, TieOk n t) (hin : MvIn ts rs m) (h : canB st m = true) : CanMv n ts rs st m := by
  cases m with
  | slide a b =>
    have h' : (decide (0 < gAt st a) && decide (gAt st b = 0)) = true := h
    rw [Bool.and_eq_true, decide_eq_true_iff, decide_eq_true_iff] at h'
    exact ⟨hin, tok _ hin, h'.1, h'.2⟩
  | turn k => exact hin
/-- right moves that can all be made -/
theorem runD_mvs {n : Nat} {ts : List (Int × Int)} {rs : List (List Int)} : ∀ {ms : List Mv} {st : List Int} {i : Nat}, CanAll n ts rs st ms → runD ts rs i st (ms.map mvD) = .inr (playMvs rs st ms)
  | [], _, _, _ => rfl
  | m :: ms, st, i, h => (runD_cons_some (stepD_some rfl (can_in h.1) (canB_of h.1))).trans (runD_mvs h.2)
theorem runD_app {n : Nat} {ts : List (Int × Int)} {rs : List (List Int)} {ds : List PyData} : ∀ {ms : List Mv} {st : List Int} {i : Nat}, CanAll n ts rs st ms → runD ts rs i st (ms.map mvD ++ ds) = runD ts rs (i + ms.length) (playMvs rs st ms) ds
  | [], _, _, _ => rfl
  | m :: ms, st, i, h => (runD_cons_some (stepD_some rfl (can_in h.1) (canB_of h.1))).trans ((runD_app h.2).trans (by rw [List.length_cons, Nat.add_assoc, Nat.add_comm 1]; rfl))
theorem mv_dq {K : PySem.W.Frag} {H : Hp} {y : V} {m : Mv} (h : MvAt K H y m) : Dq K H (mvD m) y := by
  obtain ⟨b, rfl, h⟩ := h
  cases m with
  | slide u v => exact .tup h (.cons (.str _) (.cons (.int _) (.cons (.int _) .nil)))
  | turn k => exact .tup h (.cons (.str _) (.cons (.int _) .nil))
theorem mvs_dq {K : PySem.W.Frag} {H : Hp} {ys : List V} {ms : List Mv} (h : MvsAt K H ys ms) : Dqs K H (ms.map mvD) ys := by
  induction h with
  | nil => exact .nil
  | cons a _ ih => exact .cons (mv_dq a) ih
theorem dq_mv {K : PySem.W.Frag} {H : Hp} {y : V} {m : Mv} {d : PyData} (h : Dq K H d y) (e : d = mvD m) : MvAt K H y m := by
  subst e
  cases m with
  | slide u v =>
    cases h with
    | tup hs hd =>
      cases hd with
      | cons a hd => cases a; cases hd with
        | cons a hd => cases a; cases hd with
          | cons a hd => cases a; cases hd; exact ⟨_, rfl, hs⟩
  | turn u =>
    cases h with
    | tup hs hd =>
      cases hd with
      | cons a hd => cases a; cases hd with
        | cons a hd => cases a; cases hd; exact ⟨_, rfl, hs⟩
/-! ### can_be_made of any move of the yard -/
def spCanB (K : PySem.W.Frag) : Sp := fun vs H Q _ => ∃ (s : Addr) (y : V) (n : Nat) (ts : List (Int × Int)) (rs : List (List Int)) (st : List Int) (m : Mv), vs = [.ref s, y] ∧ SqA K H s (st.map V.int) ∧ st.length = n ∧ (∀ t ∈ ts, TieOk n t) ∧ (∀ z ∈ st, 0 ≤ z) ∧ MvAt K H y m ∧ MvIn ts rs m ∧ Q (.bl (canB st m)) H
section
variable {P : Program} {w : World} {K : PySem.W.Frag} {mg : Str → Option Value} {base : Heap} {fInt fRow fIsS fMove fCan fBeh fAll fCnt CM fI : Addr}
theorem ok_canB {f : Addr} {fd : FuncData} (F : Fun K "can_be_made" "can_be_made" sCanBe f fd) : FnOk P w K mg base CX0 1 f fd ["stand", "move"] (spCanB K) := by
  refine F.ok scCanBe (fun vs H Q E h => ?_) (fun cdv A outer s H vs Q E hr h => ?_)
  · obtain ⟨s, y, n, ts, rs, st, m, rfl, _⟩ := h
    rfl
  · obtain ⟨s, y, n, ts, rs, st, m, rfl, hs, hst, tok, pos, ⟨b, rfl, hm⟩, hin, k⟩ := h
    refine ⟨_, pss_one (ps_ret (pe_or (pe_cmpR op_eq (pe_ix ix_tup (pv 1) pe_int (fun _ _ => rfl)) pe_str (nomark _)) (pe_one (pe_and (pe_cmpR op_ne (pe_ix ix_any (pv 0) (pe_ix ix_tup (pv 1) pe_int (fun _ _ => rfl)) (fun _ _ => rfl)) pe_int (nomark _)) (pe_one (pe_cmpR op_eq (pe_ix ix_any (pv 0) (pe_ix ix_tup (pv 1) pe_int (fun _ _ => rfl)) (fun _ _ => rfl)) pe_int (nomark _))))))), ?_⟩
    cases m with
    | turn kk => exact ⟨_, rfl, b, _, 0, _, rfl, rfl, hm, atI_nat (j := 0) rfl, rfl, true, rfl, iteT k⟩
    | slide u v =>
      obtain ⟨a0, a1, b0, b1, _⟩ := tok _ hin
      rw [← hst] at a1 b1
      have p0 := gAt_pos pos u
      refine ⟨_, rfl, b, _, 0, _, rfl, rfl, hm, atI_nat (j := 0) rfl, rfl, false, rfl, iteF ?_⟩
      refine ⟨_, rfl, _, rfl, b, _, 1, _, rfl, rfl, hm, atI_nat (j := 1) rfl, s, _, u, _, rfl, rfl, hs, atI_st a0 a1, rfl, _, rfl, ?_⟩
      have k' : Q (.bl (decide (0 < gAt st u) && decide (gAt st v = 0))) H := k
      refine ifT (fun h => ?_) (fun h => ?_)
      · refine ⟨_, rfl, _, rfl, b, _, 2, _, rfl, rfl, hm, atI_nat (j := 2) rfl, s, _, v, _, rfl, rfl, hs, atI_st b0 b1, rfl, ?_⟩
        have g1 : 0 < gAt st u := by
          rcases Int.lt_or_eq_of_le p0 with z | z
          · exact z
          · rw [← z] at h
            simp at h
        rw [decide_eq_true g1, Bool.true_and] at k'
        have e : (decide (V.int (gAt st v) = V.int 0)) = decide (gAt st v = 0) := by
          rw [Bool.eq_iff_iff, decide_eq_true_iff, decide_eq_true_iff]
          exact ⟨fun z => by injection z, fun z => by rw [z]⟩
        rw [e]
        exact k'
      · have g1 : ¬ 0 < gAt st u := fun z => by
          have ne : ¬ V.int (gAt st u) = V.int 0 := fun z2 => by injection z2 with z2; omega
          rw [decide_eq_false ne] at h
          cases h
        rw [decide_eq_false g1, Bool.false_and] at k'
        exact k'
/-! ### the error of a move -/
structure XMv (K : PySem.W.Frag) (mg : Str → Option Value) (C fI : Addr) : Prop where
  g : mg "BadMove" = some (.ref C)
  xc : XcC K C
  i : PySem.W.findIn K (.ref C) "__init__" = some (some (.ref fI))
  t : PySem.W.typeIn K (.ref fI) = some (.type "function")
  n : PySem.W.findIn K (.ref C) "index" = some none
theorem scMvInit : FnScope ["self", "index"] ["self", "index"] (defScope sMvInit) := ⟨rfl, rfl, rfl, by decide +kernel, rfl, by decide +kernel, by decide +kernel⟩
theorem ok_mvInit {fd : FuncData} (F : Fun K "__init__" "BadMove.__init__" sMvInit fI fd) (T : XMv K mg CM fI) : FnOk P w K mg base CX0 1 fI fd ["self", "index"] (spX1 CM "index") := by
  refine F.ok scMvInit (fun vs H Q E h => ?_) (fun cdv A outer s H vs Q E hr h => ?_)
  · obtain ⟨a, v, rfl, _⟩ := h
    rfl
  · obtain ⟨a, v, rfl, ha, k⟩ := h
    exact ⟨_, pss_one (ps_ost (pv 0) (pv 1)), _, rfl, _, rfl, a, CM, rfl, T.xc.o, T.n, .inl ⟨ha, fun dx n ne => k dx n ne⟩⟩
/-- what is raised: an error of the class at C, its index i -/
def RaisedI (C : Addr) (i : Nat) (H : Hp) (E : XK) : Prop := ∀ (d : Addr) (H' : Hp), Same H H' → H' d = some (.xd [("index", .int (i : Nat))]) → E (.ref C) (some d) H'
end
end Y
set_option Elab.async false
set_option linter.all false
set_option maxRecDepth 100000
set_option maxHeartbeats 4000000
namespace Y
open PySem L2
/-! ### rows of moves played, whatever they are -/
structure DRow (K : PySem.W.Frag) (H : Hp) (l : Addr) (ds : List PyData) : Prop where
  ex : ∃ ys, SqA K H l ys ∧ Dqs K H ds ys
  small : ∀ d ∈ ds, ∀ es, d = .tuple es → es.length ≤ 100
structure StOk (n : Nat) (ts : List (Int × Int)) (rs : List (List Int)) (st : List Int) : Prop where
  n1000 : n ≤ 1000
  rok : ∀ r ∈ rs, RingOk n r
  tok : ∀ t ∈ ts, TieOk n t
  len : st.length = n
  pos : ∀ z ∈ st, 0 ≤ z
def spAllX (K : PySem.W.Frag) (CM : Addr) : Sp := fun vs H Q E => ∃ (x s l : Addr) (n : Nat) (ts : List (Int × Int)) (rs : List (List Int)) (st : List Int) (ds : List PyData), vs = [.ref x, .ref s, .ref l] ∧ YObj K H x n ts rs ∧ StOk n ts rs st ∧ SqA K H s (st.map V.int) ∧ DRow K H l ds ∧
  (∀ st', runD ts rs 0 st ds = .inr st' → ∀ t H', SqT K H' t (st'.map V.int) → (SqL K H s (st.map V.int) → PlT H' t) → Same H H' → Q (.ref t) H') ∧ (∀ i, runD ts rs 0 st ds = .inl i → ∀ H', Same H H' → RaisedI CM i H' E)
theorem drop_get {α : Type} : ∀ {l : List α} {i : Nat} {x : α}, l[i]? = some x → l.drop i = x :: l.drop (i + 1)
  | [], i, x, h => by simp at h
  | a :: l, 0, x, h => by cases Option.some.inj h; rfl
  | a :: l, i + 1, x, h => drop_get (l := l) (i := i) (x := x) h
section
variable {P : Program} {w : World} {K : PySem.W.Frag} {mg : Str → Option Value} {base : Heap} {fInt fRow fIsS fMove fCan fBeh fAll fCnt CM fI : Addr}
theorem scBehindAll : FnScope ["yard", "stand", "moves", "now", "index", "move"] ["yard", "stand", "moves"] (defScope sBehindAll) := ⟨rfl, rfl, rfl, by decide +kernel, rfl, by decide +kernel, by decide +kernel⟩
theorem ok_allX {f : Addr} {fd fdM fdC fdB fdI : FuncData} (F : Fun K "behind_all" "behind_all" sBehindAll f fd) (T : TPl K mg fInt fRow fIsS fMove fCan fBeh fAll fCnt) (TX : XMv K mg CM fI) (GM : FnOk P w K mg base CX0 2 fMove fdM ["yard", "value"] (spIsMoveD K)) (FM : Fun K "is_move" "is_move" sIsMove fMove fdM) (bM : Binds K fdM ["yard", "value"] [])
    (FC : Fun K "can_be_made" "can_be_made" sCanBe fCan fdC) (bC : Binds K fdC ["stand", "move"] []) (FB : Fun K "behind_move" "behind_move" sBehind fBeh fdB) (bB : Binds K fdB ["yard", "stand", "move"] []) (GX : FnOk P w K mg base CX0 1 fI fdI ["self", "index"] (spX1 CM "index")) (bX : Binds K fdI ["self", "index"] []) :
    FnOk P w K mg base (L2.CX P w) 3 f fd ["yard", "stand", "moves"] (spAllX K CM) := by
  have GC : FnOk P w K mg base CX0 1 fCan fdC ["stand", "move"] (spCanB K) := ok_canB FC
  have GB : FnOk P w K mg base CX0 1 fBeh fdB ["yard", "stand", "move"] (spBehind K) := ok_behind FB T
  refine F.okX scBehindAll (fun vs H Q E h => ?_) (fun cdv A outer s H vs Q E hr h => ?_)
  · obtain ⟨x, s, l, n, ts, rs, st, ds, rfl, _⟩ := h
    rfl
  · obtain ⟨x, s, l, n, ts, rs, st, ds, rfl, hy, ok, hs, ⟨⟨ys, hl, hd⟩, small⟩, k1, k2⟩ := h
    have hr1 : Room 1 _ := hr.mono (by decide)
    refine ⟨_, pss_cons (ps_set (i := 3) scBehindAll.nd rfl (Or.inl rfl) (pv 1))
      (pss_cons (ps_for (passes_of rfl) rfl (pi_enumV (by rfl) T.enum (pv 2)) (pg_tup rfl (pgs_cons (pg_name (i := 4) scBehindAll.nd rfl (Or.inl rfl)) (pgs_cons (pg_name (i := 5) scBehindAll.nd rfl (Or.inl rfl)) pgs_nil)))
        (pss_cons (ps_if (PW.pt (pw_or (pt_not (pt_val (pe_call GM hr (by rfl) T.gMove FM.kp bM .nil pass0 (pa_cons (pv 0) (pa_cons (pv 5) pa_nil))))) (pw_or1 (pt_not (pt_val (pe_call GC hr1 (by rfl) T.gCan FC.kp bC .nil pass0 (pa_cons (pv 3) (pa_cons (pv 5) pa_nil))))))))
          (pss_one (ps_raise rfl (takes_of rfl rfl rfl rfl) (pmk_oex TX.xc.o TX.i TX.t GX hr bX .nil pass0 (by rfl) TX.g (pa_cons (pv 4) pa_nil)))) pss_nil)
        (pss_one (ps_set (i := 3) scBehindAll.nd rfl (Or.inl rfl) (pe_call GB hr1 (by rfl) T.gBeh FB.kp bB .nil pass0 (pa_cons (pv 0) (pa_cons (pv 3) (pa_cons (pv 5) pa_nil))))))))
      (pss_one (ps_ret (pe_callTy call_tupF (by rfl) T.i.tuple (by decide +kernel) (pa_cons (pv 3) pa_nil))))), ?_⟩
    have hlen := dqs_len hd
    refine ⟨_, rfl, l, ys, H, rfl, hl, .refl H, fun J G w1 hG => ?_⟩
    refine for_it w1 (fun i σ H' => ∃ (cur : Addr) (v4 v5 : Option V) (now : List Int), σ = [some (.ref x), some (.ref s), some (.ref l), some (.ref cur), v4, v5] ∧ SqA K H' cur (now.map V.int) ∧ (SqL K H s (st.map V.int) → SqL K H' cur (now.map V.int)) ∧ now.length = n ∧ (∀ z ∈ now, 0 ≤ z) ∧ runD ts rs 0 st ds = runD ts rs i now (ds.drop i) ∧ Same H H')
      ⟨s, none, none, st, rfl, hs, fun z => z, ok.len, ok.pos, rfl, Same.refl' H⟩ (fun i σ H' _ ⟨_, _, _, _, _, _, _, _, _, _, s⟩ => hG H' (.of_same s)) ?_ ?_
    · rintro i v σ H2 H3 hi ⟨cur, v4, v5, now, rfl, hc, hcl, ln, ps, er, s2⟩ ⟨T1, u, y, rfl, nT, rfl, e1, e2⟩
      cases Option.some.inj e1
      obtain ⟨d, ed, hdq⟩ := dqs_get hd e2
      have s3 := s2.trans (Same.new (o := .tup [.int (i : Nat), y]) nT)
      have hc3 := Same.seqA (Same.new (o := .tup [.int (i : Nat), y]) nT) hc
      rw [drop_get ed] at er
      refine ⟨T1, _, rfl, SqT.of upd_same, rfl, _, _, rfl, _, _, rfl, rfl, ?_⟩
      have raised : stepD ts rs now d = none → ∀ H4, Same H H4 → RaisedI CM i H4 E := fun h => k2 i (er.trans (runD_cons_none h))
      refine ⟨_, rfl, _, rfl, x, y, n, ts, rs, d, rfl, hy.kp (.of_same s3), Dq.kp s3 hdq, small d (List.mem_of_getElem? ed), fun H4 b s4 hb => ⟨_, rfl, ?_⟩⟩
      have s34 := s3.trans s4
      cases b with
      | false =>
        have none1 : stepD ts rs now d = none := stepD_none fun m e hin => absurd (hb.mpr ⟨m, e, hin⟩) Bool.false_ne_true
        refine iteT ⟨_, rfl, ?_⟩
        exact mk1 fun dd H5 s5 _ e5 => raised none1 _ s34 dd H5 s5 e5
      | true =>
        obtain ⟨m, em, hin⟩ := hb.mp rfl
        have hm := dq_mv hdq em
        have hc4 := Same.seqA s4 hc3
        refine iteF ?_
        refine ⟨_, rfl, _, rfl, cur, y, n, ts, rs, now, m, rfl, hc4, ln, ok.tok, ps, hm.kp (.of_same s34), hin, _, rfl, ?_⟩
        cases hcan : canB now m with
        | false =>
          have none2 : stepD ts rs now d = none := stepD_none fun m' e' _ => by rw [← mvD_inj (em.symm.trans e')]; exact hcan
          refine iteT ⟨_, rfl, ?_⟩
          exact mk1 fun dd H5 s5 _ e5 => raised none2 _ s34 dd H5 s5 e5
        | true =>
          have cm := can_of ok.tok hin hcan
          refine iteF ?_
          refine ⟨_, rfl, _, rfl, _, rfl, x, cur, y, n, ts, rs, now, m, rfl, hy.kp (.of_same s34), ok.n1000, ok.rok, hc4, ln, hm.kp (.of_same s34), cm, fun g H5 eg s5 => ?_⟩
          exact ⟨g, _, _, stepMv rs now m, rfl, .inl (SqL.of eg), fun _ => SqL.of eg, by rw [stepMv_len, ln], step_pos ps, er.trans (runD_cons_some (stepD_some em hin hcan)), s34.trans s5⟩
    · rintro σ H2 ⟨cur, v4, v5, now, rfl, hc, hcl, ln, ps, er, s2⟩
      rw [hlen, List.drop_length] at er
      have made : SqL K H2 cur (now.map V.int) → tCB (rTupF K) (tCons (tVar 3) tNil) [some (.ref x), some (.ref s), some (.ref l), some (.ref cur), v4, v5] H2 Q := fun z => ⟨_, rfl, cur, _, rfl, .inl ⟨z, fun t H3 h3 => k1 now er t H3 h3.sq (fun _ => h3.pl) (s2.trans h3.same)⟩⟩
      by_cases il : SqL K H s (st.map V.int)
      · exact made (hcl il)
      · rcases hc with hc | hc
        · exact made hc
        · exact ⟨_, rfl, cur, _, rfl, .inr ⟨hc, k1 now er cur H2 hc (fun z => (il z).elim) s2⟩⟩
theorem scPlayed : FnScope ["yard", "stand", "moves"] ["yard", "stand", "moves"] (defScope sPlayed) := ⟨rfl, rfl, rfl, by decide +kernel, rfl, by decide +kernel, by decide +kernel⟩
theorem ok_playedX {f : Addr} {fd fdS fdA : FuncData} (F : Fun K "played" "played" sPlayed f fd) (T : TPl K mg fInt fRow fIsS fMove fCan fBeh fAll fCnt) (GS : FnOk P w K mg base CX0 3 fIsS fdS ["yard", "value"] (spIsStand K)) (FS : Fun K "is_stand_row" "is_stand_row" sIsStand fIsS fdS) (bS : Binds K fdS ["yard", "value"] [])
    (GA : FnOk P w K mg base (L2.CX P w) 3 fAll fdA ["yard", "stand", "moves"] (spAllX K CM)) (FA : Fun K "behind_all" "behind_all" sBehindAll fAll fdA) (bA : Binds K fdA ["yard", "stand", "moves"] []) :
    FnOk P w K mg base (L2.CX P w) 4 f fd ["yard", "stand", "moves"] (spAllX K CM) := by
  refine F.okX scPlayed (fun vs H Q E h => ?_) (fun cdv A outer s H vs Q E hr h => ?_)
  · obtain ⟨x, s, l, n, ts, rs, st, ds, rfl, _⟩ := h
    rfl
  · obtain ⟨x, s, l, n, ts, rs, st, ds, rfl, hy, ok, hs, ⟨⟨ys, hl, hd⟩, small⟩, k1, k2⟩ := h
    refine ⟨_, pss_cons (ps_if (pt_not (pt_val (pe_call GS hr (by rfl) T.gIsS FS.kp bS .nil pass0 (pa_cons (pv 0) (pa_cons (pv 1) pa_nil))))) (pss_one ps_never) pss_nil)
      (pss_one (ps_ret (pe_call GA hr (by rfl) T.gAll FA.kp bA .nil (passes_call (takes_of rfl rfl rfl rfl) fun _ _ _ _ h => h) (pa_cons (pv 0) (pa_cons (pv 1) (pa_cons (pv 2) pa_nil)))))), ?_⟩
    refine ⟨_, rfl, _, rfl, x, _, n, ts, rs, st, rfl, hy, ⟨s, rfl, hs⟩, ok.len, ok.n1000, ok.pos, fun H1 s1 => ⟨_, rfl, iteF ?_⟩⟩
    exact ⟨_, rfl, _, rfl, _, rfl, x, s, l, n, ts, rs, st, ds, rfl, hy.kp (.of_same s1), ok, Same.seqA s1 hs, ⟨⟨ys, Same.seqA s1 hl, Dqs.kp s1 hd⟩, small⟩, fun st' e t H' ht hp s2 => k1 st' e t H' ht (fun z => hp (s1.seq z)) (s1.trans s2), fun i e H' s2 => k2 i e H' (s1.trans s2)⟩
end
end Y
set_option Elab.async false
set_option linter.all false
set_option maxRecDepth 100000
set_option maxHeartbeats 4000000
namespace Y
open PySem L2
abbrev sFilled : Stmt := top 999
abbrev sThings : Stmt := top 999
abbrev sIsFilled : Stmt := top 999
abbrev sMovesAt : Stmt := top 999
abbrev sLed : Stmt := top 999
theorem ints_shapedL (ns : List Int) : SeqAt.shaped (.list (ns.map PyData.int)) = true := by
  unfold SeqAt.shaped
  have h1 : (PyData.list (ns.map PyData.int)).canLay0 = true := lay_ints ns
  have h2 : (PyData.list (ns.map PyData.int)).depth ≤ 64 := Nat.le_trans (Nat.succ_le_succ (depth_ints ns)) (by decide)
  rw [h1, decide_eq_true h2]
  rfl
/-! ### the filled places of a stand -/
def filTo (st : List Int) (m : Nat) : List Int := ((List.range m).filter fun i : Nat => decide (st.getD i 0 ≠ 0)).map fun i : Nat => ((i : Nat) : Int)
def filL (st : List Int) : List Int := filTo st st.length
theorem filTo_succ (st : List Int) (m : Nat) : filTo st (m + 1) = if st.getD m 0 ≠ 0 then filTo st m ++ [(m : Int)] else filTo st m := by
  unfold filTo
  rw [List.range_succ, List.filter_append, List.map_append]
  by_cases h : st.getD m 0 ≠ 0
  · rw [if_pos h, List.filter_cons_of_pos (by rw [decide_eq_true h])]
    rfl
  · rw [if_neg h, List.filter_cons_of_neg (by rw [decide_eq_false h]; exact Bool.false_ne_true)]
    simp
theorem filTo_len (st : List Int) : ∀ m, (filTo st m).length ≤ m
  | 0 => Nat.zero_le _
  | m + 1 => by
    have := filTo_len st m
    rw [filTo_succ]
    split
    · rw [List.length_append]; show _ + 1 ≤ m + 1; omega
    · omega
def nz (st : List Int) : List Int := st.filter fun z => decide (z ≠ 0)
def spFilled (K : PySem.W.Frag) : Sp := fun vs H Q _ => ∃ (s : Addr) (st : List Int), vs = [.ref s] ∧ SqA K H s (st.map V.int) ∧ st.length ≤ 1000 ∧ ∀ t H', SqT K H' t ((filL st).map V.int) → PlT H' t → Same H H' → Q (.ref t) H'
def spThings (K : PySem.W.Frag) : Sp := fun vs H Q _ => ∃ (s : Addr) (st : List Int), vs = [.ref s] ∧ SqA K H s (st.map V.int) ∧ st.length ≤ 1000 ∧ ∀ (t : Addr) (ms : List Int) (H' : Hp), ms.Perm (nz st) → ms.Pairwise (· ≤ ·) → SqT K H' t (ms.map V.int) → Same H H' → Q (.ref t) H'
/-- an ascending row of unlike places -/
structure FilOk (n : Nat) (r : List Int) : Prop where
  asc : r.Pairwise (· < ·)
  inn : ∀ z ∈ r, 0 ≤ z ∧ z < n
theorem FilOk.nodup {n : Nat} {r : List Int} (h : FilOk n r) : r.Nodup := h.asc.imp fun a => Int.ne_of_lt a
theorem asc_len : ∀ {r : List Int} {lo n : Int}, r.Pairwise (· < ·) → (∀ z ∈ r, lo ≤ z ∧ z < n) → (r.length : Int) ≤ max 0 (n - lo)
  | [], lo, n, _, _ => by simp only [List.length_nil]; omega
  | a :: l, lo, n, h, b => by
    have h1 := List.pairwise_cons.mp h
    have b0 := b a List.mem_cons_self
    have ih := asc_len (lo := a + 1) h1.2 (fun z hz => ⟨h1.1 z hz, (b z (List.mem_cons_of_mem _ hz)).2⟩)
    rw [List.length_cons]
    omega
theorem FilOk.len {n : Nat} {r : List Int} (h : FilOk n r) : r.length ≤ n := by
  have := asc_len h.asc h.inn
  omega
theorem nz_snoc (l : List Int) (z : Int) : nz (l ++ [z]) = if z ≠ 0 then nz l ++ [z] else nz l := by
  unfold nz
  rw [List.filter_append]
  by_cases h : z ≠ 0
  · rw [if_pos h, List.filter_cons_of_pos (by rw [decide_eq_true h])]
    rfl
  · rw [if_neg h, List.filter_cons_of_neg (by rw [decide_eq_false h]; exact Bool.false_ne_true)]
    simp
def spIsFilled (K : PySem.W.Frag) : Sp := fun vs H Q _ => ∃ (x : Addr) (y : V) (n : Nat) (ts : List (Int × Int)) (rs : List (List Int)) (r : List Int), vs = [.ref x, y] ∧ YObj K H x n ts rs ∧ RowAt K H y r ∧ FilOk n r ∧ n ≤ 60 ∧ ∀ H', Same H H' → Q (.bl true) H'
structure TR (K : PySem.W.Frag) (mg : Str → Option Value) (fUn : Addr) : Prop where
  i : TI0 mg
  enum : mg "enumerate" = none
  sorted : mg "sorted" = none
  range : mg "range" = none
  len : mg "len" = none
  gUn : mg "are_unlike_numbers" = some (.ref fUn)
section
variable {P : Program} {w : World} {K : PySem.W.Frag} {mg : Str → Option Value} {base : Heap} {fUn : Addr}
theorem asc_eq {r ms : List Int} (h : r.Pairwise (· < ·)) (p : ms.Perm r) (q : ms.Pairwise (· ≤ ·)) : ms = r :=
  p.eq_of_pairwise (le := fun a b : Int => decide (a ≤ b) = true) (fun a b _ _ h1 h2 => Int.le_antisymm (of_decide_eq_true h1) (of_decide_eq_true h2)) (q.imp fun h => decide_eq_true h) (h.imp fun h => decide_eq_true (Int.le_of_lt h))
end
end Y
set_option Elab.async false
set_option linter.all false
set_option maxRecDepth 100000
set_option maxHeartbeats 4000000
namespace Y
open PySem L2
/-! ### rows of unlike places, filled rows: of any data -/
def rowOf : PyData → Option (List PyData)
  | .list es => some es
  | .tuple es => some es
  | _ => none
def belowB (n : Nat) : PyData → Bool
  | .int z => decide (0 ≤ z) && decide (z < n)
  | _ => false
def numsOf (es : List PyData) : List Int := es.filterMap fun | .int z => some z | _ => none
def unB (n : Nat) (d : PyData) : Bool := match rowOf d with
  | some es => es.all (belowB n) && decide (numsOf es).Nodup
  | none => false
def filB (n : Nat) (d : PyData) : Bool := unB n d && decide ((numsOf ((rowOf d).getD [])).Pairwise (· ≤ ·))
def short63 (d : PyData) : Prop := ∀ es, rowOf d = some es → es.length < 64
theorem all_below {n : Nat} : ∀ {es : List PyData}, es.all (belowB n) = true → es = (numsOf es).map PyData.int ∧ ∀ z ∈ numsOf es, 0 ≤ z ∧ z < n
  | [], _ => ⟨rfl, fun z hz => by cases hz⟩
  | e :: es, h => by
    rw [List.all_cons, Bool.and_eq_true] at h
    obtain ⟨h1, h2⟩ := all_below h.2
    cases e with
    | int z =>
      have h0 : (decide (0 ≤ z) && decide (z < n)) = true := h.1
      rw [Bool.and_eq_true, decide_eq_true_iff, decide_eq_true_iff] at h0
      have e1 : numsOf (.int z :: es) = z :: numsOf es := rfl
      rw [e1]
      refine ⟨by rw [List.map_cons, ← h1], fun y hy => ?_⟩
      rcases List.mem_cons.mp hy with rfl | hy
      · exact h0
      · exact h2 y hy
    | _ => exact absurd h.1 (by simp [belowB])
theorem dqs_ints {K : PySem.W.Frag} {H : Hp} : ∀ {ns : List Int} {vs : List V}, Dqs K H (ns.map PyData.int) vs → vs = ns.map V.int
  | [], _, h => by cases h; rfl
  | n :: ns, _, h => by
    cases h with
    | cons a t => cases a; rw [List.map_cons, dqs_ints t]
def spUnlikeD (K : PySem.W.Frag) : Sp := fun vs H Q _ => ∃ (n : Nat) (y : V) (d : PyData), vs = [.int (n : Int), y] ∧ Dq K H d y ∧ short63 d ∧ ∀ H', Same H H' → Q (.bl (unB n d)) H'
def spFilD (K : PySem.W.Frag) : Sp := fun vs H Q _ => ∃ (x : Addr) (y : V) (n : Nat) (ts : List (Int × Int)) (rs : List (List Int)) (d : PyData), vs = [.ref x, y] ∧ YObj K H x n ts rs ∧ Dq K H d y ∧ short63 d ∧ ∀ H', Same H H' → Q (.bl (filB n d)) H'
def fBl (n : Nat) : V → V
  | .int z => .bl (decide (0 ≤ z) && decide (z < n))
  | _ => .bl false
theorem fBl_dq {K : PySem.W.Frag} {H : Hp} {n : Nat} {d : PyData} {v : V} (h : Dq K H d v) : fBl n v = .bl (belowB n d) := by cases h <;> rfl
theorem fBl_dqs {K : PySem.W.Frag} {H : Hp} {n : Nat} : ∀ {ds : List PyData} {vs : List V}, Dqs K H ds vs → vs.map (fBl n) = (ds.map (belowB n)).map V.bl
  | _, _, .nil => rfl
  | _, _, .cons h t => by rw [List.map_cons, List.map_cons, List.map_cons, fBl_dq h, fBl_dqs t]
theorem row_of2 {K : PySem.W.Frag} {H : Hp} {d : PyData} {y : V} {es : List PyData} (h : Dq K H d y) (r : rowOf d = some es) : ∃ (b : Addr) (xs : List V), y = .ref b ∧ SqA K H b xs ∧ Dqs K H es xs := by
  cases h with
  | lst h t => cases Option.some.inj r; exact ⟨_, _, rfl, .inl h, t⟩
  | tup h t => cases Option.some.inj r; exact ⟨_, _, rfl, .inr h, t⟩
  | _ => cases r
theorem row_none {d : PyData} (h : rowOf d = none) : isRowB d = false := by cases d <;> first | rfl | cases h
theorem row_some {d : PyData} {es : List PyData} (h : rowOf d = some es) : isRowB d = true := by cases d <;> first | rfl | cases h
section
variable {P : Program} {w : World} {K : PySem.W.Frag} {mg : Str → Option Value} {base : Heap} {fInt fRow fUn fCnt fFil : Addr}
theorem ok_unlikeD {f : Addr} {fd fdI fdR fdC : FuncData} (F : Fun K "are_unlike_numbers" "are_unlike_numbers" sUnlike f fd) (T : TUn K mg fInt fRow fUn fCnt) (FI : Fun K "is_integer" "is_integer" sIsInt fInt fdI) (bI : Binds K fdI ["value"] []) (FR : Fun K "is_row" "is_row" sIsRow fRow fdR) (bR : Binds K fdR ["value"] [])
    (FC : Fun K "is_count" "is_count" sIsCount fCnt fdC) (bC : Binds K fdC ["value"] []) : FnOk P w K mg base CX0 3 f fd ["many", "value"] (spUnlikeD K) := by
  have GC : FnOk P w K mg base CX0 2 fCnt fdC ["value"] (spIsCountD K) := ok_isCountD FC T.i T.gInt FI bI
  have GR : FnOk P w K mg base CX0 2 fRow fdR ["value"] (spIsRowD K) := (ok_isRowD FR T.i).mono (by decide)
  refine F.ok scUnlike (fun vs H Q E h => ?_) (fun cdv A outer s H vs Q E hr h => ?_)
  · obtain ⟨n, y, d, rfl, _⟩ := h
    rfl
  · obtain ⟨n, y, d, rfl, hd, sh, k⟩ := h
    refine ⟨_, pss_cons (ps_if (PW.pt (pw_or (pt_not (pt_val (pe_call GR hr (by rfl) T.gRow FR.kp bR .nil pass0 (pa_cons (pv 1) pa_nil)))) (pw_or1 (pt_not (pt_val (pe_callB (cr_all rfl) (by rfl) T.all (by decide +kernel) (pa_cons (pe_lc (own := [("number", 2)]) (g := gName 2) (tt := tYes) rfl scUnlike.nd (pi_seqV (pv 1)) (blkOk_by (N := ["many", "value", "number"]) (sc := defScope sUnlike) (by decide +kernel))
          (fun _ _ _ _ _ => pg_name (i := 2) scUnlike.nd rfl (Or.inl rfl)) (fun _ _ _ _ _ => pts_nil) (fun _ _ _ _ _ => pe_and (pe_call GC hr (by rfl) T.gCnt FC.kp bC .nil pass0 (pa_cons (pv 2) pa_nil)) (pe_one (pe_cmpR op_lt (pv 2) (pv 0) (nomark _))))) pa_nil)))))) ) (pss_one (ps_ret pe_bl)) pss_nil)
      (pss_one (ps_ret (pe_cmpR op_eq (pe_lenSet3 rfl (by rfl) T.len (by rfl) T.set (pv 1)) (pe_callB call_len_seq (by rfl) T.len PySem.boot_len (pa_cons (pv 1) pa_nil)) (nomark _)))), ?_⟩
    refine ⟨_, rfl, _, d, rfl, hd, fun H1 s1 => ⟨_, rfl, ?_⟩⟩
    cases hro : rowOf d with
    | none =>
      rw [row_none hro]
      have e : unB n d = false := by unfold unB; rw [hro]
      rw [e] at k
      exact iteT (k H1 s1)
    | some es =>
      rw [row_some hro]
      obtain ⟨b, xs, rfl, hb, hes⟩ := row_of2 hd hro
      have le := dqs_len hes
      have l64 := sh es hro
      have e : unB n d = (es.all (belowB n) && decide (numsOf es).Nodup) := by unfold unB; rw [hro]
      rw [e] at k
      refine iteF ?_
      refine ⟨b, xs, H, rfl, hb, .of_same s1, fun J G w1 hG D hD => ?_⟩
      refine lcp_it (f := fBl n) (H1 := H1) w1 hD (by omega) (fun H' s' => hG H' ((Kp.of_same s1).trans s')) (fun i x0 H2 R hx s2 hR => ?_) ?_
      · obtain ⟨d0, _, hd0⟩ := dqs_get hes hx
        refine ⟨rfl, _, rfl, _, _, rfl, Dq.kp (s1.trans s2) hd0, ?_⟩
        refine ⟨isCnt d0, rfl, ?_⟩
        cases hd0 with
        | int z =>
          refine ifT (fun h => ?_) (fun h => ?_)
          · refine ⟨_, rfl, _, rfl, _, _, rfl, rfl, ?_⟩
            have hR' : R (.bl (decide (0 ≤ z) && decide (z < n))) H2 := hR
            rw [show decide (0 ≤ z) = true from h, Bool.true_and] at hR'
            exact hR'
          · have hR' : R (.bl (decide (0 ≤ z) && decide (z < n))) H2 := hR
            have h' : decide (0 ≤ z) = false := h
            rw [h', Bool.false_and] at hR'
            exact hR'
        | _ => exact iteF hR
      · have s2 := s1.trans (Same.new (o := .lst (xs.map (fBl n))) hD)
        refine ⟨D, es.map (belowB n), rfl, ?_, ?_⟩
        · rw [← fBl_dqs hes]
          exact SqL.of upd_same
        rw [List.all_map]
        refine ⟨_, rfl, ?_⟩
        cases hall : es.all (belowB n) with
        | false =>
          rw [hall, Bool.false_and] at k
          rw [show es.all (id ∘ belowB n) = false from hall]
          exact iteT (k _ s2)
        | true =>
          rw [hall, Bool.true_and] at k
          rw [show es.all (id ∘ belowB n) = true from hall]
          obtain ⟨e1, _⟩ := all_below hall
          rw [e1] at hes
          have ex := dqs_ints hes
          have ln : (numsOf es).length = es.length := by
            have := congrArg List.length e1
            rw [List.length_map] at this
            exact this.symm
          subst ex
          refine iteF ?_
          refine ⟨_, rfl, b, numsOf es, rfl, Same.seqA s2 hb, by omega, fun c hc iff => ?_⟩
          refine ⟨_, rfl, b, _, rfl, Same.seqA s2 hb, rfl, ?_⟩
          rw [List.length_map]
          have e2 : (decide (V.int (c : Int) = V.int ((numsOf es).length : Nat))) = decide (numsOf es).Nodup := by
            rw [Bool.eq_iff_iff, decide_eq_true_iff, decide_eq_true_iff, ← iff]
            exact ⟨fun z => by injection z with z; omega, fun z => by rw [z]⟩
          rw [e2]
          exact k _ s2
/-! ### filled rows -/
end
end Y
set_option Elab.async false
set_option linter.all false
set_option maxRecDepth 100000
set_option maxHeartbeats 4000000
namespace Y
open PySem L2
/-! ### the errors' first methods -/
abbrev sNumI : Stmt := inClass (top 9) 0
abbrev sRowI : Stmt := inClass (top 10) 0
abbrev sTieI : Stmt := inClass (top 11) 0
abbrev sRingI : Stmt := inClass (top 12) 0
section
variable {P : Program} {w : World} {K : PySem.W.Frag} {mg : Str → Option Value} {base : Heap} {C f : Addr}
theorem scNumI : FnScope ["self", "what", "number"] ["self", "what", "number"] (defScope sNumI) := ⟨rfl, rfl, rfl, by decide +kernel, rfl, by decide +kernel, by decide +kernel⟩
theorem scRowI : FnScope ["self", "row"] ["self", "row"] (defScope sRowI) := ⟨rfl, rfl, rfl, by decide +kernel, rfl, by decide +kernel, by decide +kernel⟩
theorem scTieI : FnScope ["self", "tie"] ["self", "tie"] (defScope sTieI) := ⟨rfl, rfl, rfl, by decide +kernel, rfl, by decide +kernel, by decide +kernel⟩
theorem scRingI : FnScope ["self", "index"] ["self", "index"] (defScope sRingI) := ⟨rfl, rfl, rfl, by decide +kernel, rfl, by decide +kernel, by decide +kernel⟩
theorem ok_numI {fd : FuncData} (F : Fun K "__init__" "BadNumber.__init__" sNumI f fd) (T : XE2 K mg "BadNumber" "what" "number" C f) : FnOk P w K mg base CX0 1 f fd ["self", "what", "number"] (spX2 C "what" "number") := by
  refine F.ok scNumI (fun vs H Q E h => ?_) (fun cdv A outer s H vs Q E hr h => ?_)
  · obtain ⟨a, v, v2, rfl, _⟩ := h
    rfl
  · obtain ⟨a, v, v2, rfl, ha, k⟩ := h
    refine ⟨_, pss_cons (ps_ost (pv 0) (pv 1)) (pss_one (ps_ost (pv 0) (pv 2))), ?_⟩
    refine ⟨_, rfl, _, rfl, a, C, rfl, T.xc.o, T.n, .inl ⟨ha, fun dx nn ne => ?_⟩⟩
    refine ⟨_, rfl, _, rfl, a, C, rfl, T.xc.o, T.n2, .inr ⟨dx, _, upd_same, by rw [upd_ne ne]; exact upd_same, by show 1 ≤ 900; decide, ?_⟩⟩
    exact k dx _ nn ne (fun b u hb e => by rw [upd_ne (ne_of_none e nn), upd_ne hb, upd_ne (ne_of_none e nn)]; exact e) (by rw [upd_ne (Ne.symm ne)]; exact upd_same) upd_same
theorem ok_rowI {fd : FuncData} (F : Fun K "__init__" "BadRow.__init__" sRowI f fd) (T : XE1 K mg "BadRow" "row" C f) : FnOk P w K mg base CX0 1 f fd ["self", "row"] (spX1 C "row") := by
  refine F.ok scRowI (fun vs H Q E h => ?_) (fun cdv A outer s H vs Q E hr h => ?_)
  · obtain ⟨a, v, rfl, _⟩ := h
    rfl
  · obtain ⟨a, v, rfl, ha, k⟩ := h
    exact ⟨_, pss_one (ps_ost (pv 0) (pv 1)), _, rfl, _, rfl, a, C, rfl, T.xc.o, T.n, .inl ⟨ha, fun dx n ne => k dx n ne⟩⟩
theorem ok_tieI {fd : FuncData} (F : Fun K "__init__" "BadTie.__init__" sTieI f fd) (T : XE1 K mg "BadTie" "tie" C f) : FnOk P w K mg base CX0 1 f fd ["self", "tie"] (spX1 C "tie") := by
  refine F.ok scTieI (fun vs H Q E h => ?_) (fun cdv A outer s H vs Q E hr h => ?_)
  · obtain ⟨a, v, rfl, _⟩ := h
    rfl
  · obtain ⟨a, v, rfl, ha, k⟩ := h
    exact ⟨_, pss_one (ps_ost (pv 0) (pv 1)), _, rfl, _, rfl, a, C, rfl, T.xc.o, T.n, .inl ⟨ha, fun dx n ne => k dx n ne⟩⟩
theorem ok_ringI {fd : FuncData} (F : Fun K "__init__" "BadRing.__init__" sRingI f fd) (T : XE1 K mg "BadRing" "index" C f) : FnOk P w K mg base CX0 1 f fd ["self", "index"] (spX1 C "index") := by
  refine F.ok scRingI (fun vs H Q E h => ?_) (fun cdv A outer s H vs Q E hr h => ?_)
  · obtain ⟨a, v, rfl, _⟩ := h
    rfl
  · obtain ⟨a, v, rfl, ha, k⟩ := h
    exact ⟨_, pss_one (ps_ost (pv 0) (pv 1)), _, rfl, _, rfl, a, C, rfl, T.xc.o, T.n, .inl ⟨ha, fun dx n ne => k dx n ne⟩⟩
end
/-! ### wrong ties -/
/-- d is no tie of n places, or one of ps -/
def BadT (n : Nat) (ps : List (Int × Int)) (d : PyData) : Prop := ∀ t : Int × Int, rowOf d = some [.int t.1, .int t.2] → unB n d = true → t ∈ ps
/-- right ties, then a wrong one -/
structure TiesBad (n : Nat) (ps : List (Int × Int)) (d : PyData) : Prop where
  ok : ∀ t ∈ ps, TieOk n t
  nd : ps.Nodup
  l60 : ps.length ≤ 60
  sh : short63 d
  bad : BadT n ps d
def spCTX (K : PySem.W.Frag) (CR CT : Addr) : Sp := fun vs H Q E => ∃ (n : Nat) (y : V) (d : PyData), vs = [.int (n : Int), y] ∧ Dq K H d y ∧ n ≤ 60 ∧
  ((rowOf d = none ∧ RaisedF CR [("row", y)] H E) ∨ ∃ (ps : List (Int × Int)) (d0 : PyData) (rest : List PyData), rowOf d = some (ps.map tieD ++ d0 :: rest) ∧ TiesBad n ps d0 ∧ ∀ v H1, Same H H1 → Dq K H1 d0 v → RaisedF CT [("tie", v)] H1 E)
theorem unB_tie {n : Nat} {t : Int × Int} (h : TieOk n t) : unB n (tieD t) = true := by
  obtain ⟨a0, a1, b0, b1, ne⟩ := h
  show (([PyData.int t.1, PyData.int t.2].all (belowB n)) && decide (numsOf [PyData.int t.1, PyData.int t.2]).Nodup) = true
  have e : numsOf [PyData.int t.1, PyData.int t.2] = [t.1, t.2] := rfl
  rw [e]
  simp [belowB, a0, a1, b0, b1, ne]
theorem dq_tie {K : PySem.W.Frag} {H : Hp} {t : Int × Int} {v : V} (h : Dq K H (tieD t) v) : ∃ b, v = .ref b ∧ SqT K H b ((row2 t).map V.int) := by
  cases h with
  | tup hs hd => cases hd with
    | cons a hd => cases a; cases hd with
      | cons a hd => cases a; cases hd; exact ⟨_, rfl, hs⟩
theorem get_mid {α : Type} {l r : List α} {x : α} : (l ++ x :: r)[l.length]? = some x := by
  rw [List.getElem?_append_right (Nat.le_refl _), Nat.sub_self]
  rfl
section
variable {P : Program} {w : World} {K : PySem.W.Frag} {mg : Str → Option Value} {base : Heap} {fInt fRow fUn fCnt fFil CR CT CG CN CM fIR fIT fIG fIN : Addr}
theorem ok_ctX {f : Addr} {fd fdR fdU fdIR fdIT : FuncData} (F : Fun K "checked_ties" "checked_ties" sCTies f fd) (T : TUn K mg fInt fRow fUn fCnt) (FR : Fun K "is_row" "is_row" sIsRow fRow fdR) (bR : Binds K fdR ["value"] [])
    (GU : FnOk P w K mg base CX0 3 fUn fdU ["many", "value"] (spUnlikeD K)) (FU : Fun K "are_unlike_numbers" "are_unlike_numbers" sUnlike fUn fdU) (bU : Binds K fdU ["many", "value"] [])
    (XR : XE1 K mg "BadRow" "row" CR fIR) (GIR : FnOk P w K mg base CX0 1 fIR fdIR ["self", "row"] (spX1 CR "row")) (bIR : Binds K fdIR ["self", "row"] [])
    (XT : XE1 K mg "BadTie" "tie" CT fIT) (GIT : FnOk P w K mg base CX0 1 fIT fdIT ["self", "tie"] (spX1 CT "tie")) (bIT : Binds K fdIT ["self", "tie"] []) :
    FnOk P w K mg base (L2.CX P w) 4 f fd ["places", "ties"] (spCTX K CR CT) := by
  have GR : FnOk P w K mg base CX0 1 fRow fdR ["value"] (spIsRowD K) := ok_isRowD FR T.i
  refine F.okX scCTies (fun vs H Q E h => ?_) (fun cdv A outer s H vs Q E hr h => ?_)
  · obtain ⟨n, y, d, rfl, _⟩ := h
    rfl
  · obtain ⟨n, y, d, rfl, hd, n60, k⟩ := h
    have hu := hr.units
    have hr1 : Room 1 _ := hr.mono (by decide)
    have hr2 : Room 2 _ := hr.mono (by decide)
    refine ⟨_, pss_cons (ps_if (pt_not (pt_val (pe_call GR hr1 (by rfl) T.gRow FR.kp bR .nil pass0 (pa_cons (pv 1) pa_nil)))) (pss_one (ps_raise rfl (takes_of rfl rfl rfl rfl) (pmk_oex XR.xc.o XR.i XR.t GIR hr2 bIR .nil pass0 (by rfl) XR.g (pa_cons (pv 1) pa_nil)))) pss_nil)
      (pss_cons (ps_set (i := 2) scCTies.nd rfl (Or.inl rfl) (pe_callTy0 cr_set0T (by rfl) T.set (by decide +kernel)))
      (pss_cons (ps_for (passes_of rfl) rfl (pi_seqV (pv 1)) (pg_name (i := 3) scCTies.nd rfl (Or.inl rfl))
        (pss_cons (ps_if (PW.pt (pw_or (pt_not (pt_val (pe_call GU hr (by rfl) T.gUn FU.kp bU .nil pass0 (pa_cons (pv 0) (pa_cons (pv 3) pa_nil))))) (pw_or (pt_cmpR op_ne (pe_callB call_len_seq (by rfl) T.len PySem.boot_len (pa_cons (pv 3) pa_nil)) pe_int (nomark _))
            (pw_or1 (pt_cmpR (op_inSetT hu) (pe_callTy call_tuple_any (by rfl) T.i.tuple (by decide +kernel) (pa_cons (pv 3) pa_nil)) (pv 2) (by rfl))))))
          (pss_one (ps_raise rfl (takes_of rfl rfl rfl rfl) (pmk_oex XT.xc.o XT.i XT.t GIT hr2 bIT .nil pass0 (by rfl) XT.g (pa_cons (pv 3) pa_nil)))) pss_nil)
        (pss_one (ps_expr (pe_saddT hu (pv 2) (pa_cons (pe_callTy call_tuple_any (by rfl) T.i.tuple (by decide +kernel) (pa_cons (pv 3) pa_nil)) pa_nil))))))
      (pss_one ps_never))), ?_⟩
    refine ⟨_, rfl, _, d, rfl, hd, fun H1 s1 => ⟨_, rfl, ?_⟩⟩
    rcases k with ⟨hro, k⟩ | ⟨ps, d0, rest, hro, B, k⟩
    · rw [row_none hro]
      exact iteT ⟨_, rfl, mkF1 (k.same s1)⟩
    · rw [row_some hro]
      refine iteF ?_
      obtain ⟨z, zs, rfl, hz, hes⟩ := row_of2 hd hro
      have hlen := dqs_len hes
      refine ⟨rfl, fun sn nsn => ?_⟩
      have nsH : H sn = none := s1.free nsn
      have S0 : Same H (upd H1 sn (SetTO P w sn [])) := s1.trans (Same.new nsn)
      refine ⟨z, zs, H, rfl, hz, .of_same S0, fun J G w1 hG => ?_⟩
      refine for_it w1 (fun i σ H' => ∃ (v : Option V) (L : List (Addr × List Int)), σ = [some (.int (n : Int)), some (.ref z), some (.ref sn), v] ∧ H' sn = some (SetTO P w sn L) ∧ (L.map (·.2)).Perm ((ps.map row2).take i) ∧ (∀ p ∈ L, SqT K H' p.1 (p.2.map V.int)) ∧ Same H H' ∧ i ≤ ps.length)
        ⟨none, [], rfl, upd_same, .refl _, (fun p hp => by cases hp), S0, Nat.zero_le _⟩ (fun i σ H' _ ⟨_, _, _, _, _, _, s, _⟩ => hG H' (.of_same s)) ?_ ?_
      · rintro i x σ H2 H2' hi ⟨v, L, rfl, eS, pL, hL, s2, ile⟩ ⟨rfl, hx⟩
        obtain ⟨e, ee, he⟩ := dqs_get hes hx
        have he2 := Dq.kp s2 he
        have lenL : L.length = i := by
          have := pL.length_eq
          rw [List.length_map, List.length_take, List.length_map] at this
          omega
        rcases Nat.lt_or_ge i ps.length with hlt | hge
        · -- a right one
          have et : e = tieD (ps[i]'hlt) := by
            rw [List.getElem?_append_left (by rw [List.length_map]; exact hlt), List.getElem?_map, List.getElem?_eq_getElem hlt] at ee
            exact (Option.some.inj ee).symm
          subst et
          have htm : ps[i]'hlt ∈ ps := List.getElem_mem hlt
          generalize et2 : ps[i]'hlt = t at *
          have tok := B.ok t htm
          obtain ⟨b, rfl, hb⟩ := dq_tie he2
          have er : (ps.map row2)[i]? = some (row2 t) := by rw [List.getElem?_map, List.getElem?_eq_getElem hlt, et2]; rfl
          refine ⟨_, rfl, _, rfl, n, _, tieD t, rfl, he2, (fun es h => by cases Option.some.inj h; exact (by decide : 2 < 64)), fun H3 s3 => ⟨_, rfl, ?_⟩⟩
          rw [unB_tie tok]
          refine iteF ?_
          have hb3 := Same.seqT s3 hb
          refine ⟨_, rfl, b, _, rfl, .inr hb3, rfl, _, rfl, iteF ?_⟩
          refine ⟨_, rfl, b, _, rfl, .inr hb3, fun t4 H4 h4 s4 => ?_⟩
          have s34 := s3.trans s4
          have nd : (ps.map row2).Nodup := List.Pairwise.map _ (fun a b (h : a ≠ b) e => h (row2_inj e)) B.nd
          have fresh : row2 t ∉ L.map (·.2) := fun z => by
            have z2 := pL.mem_iff.mp z
            obtain ⟨j, hj, ej⟩ := List.getElem_of_mem z2
            rw [List.length_take] at hj
            rw [List.getElem_take] at ej
            obtain ⟨hi3, e3⟩ := List.getElem?_eq_some_iff.mp er
            have := (List.getElem_inj nd).mp (ej.trans e3.symm)
            omega
          refine ⟨_, rfl, sn, t4, L, row2 t, rfl, rfl, s34 _ _ eS, (fun p hp => Same.seqT s34 (hL p hp)), h4, _, rfl, ?_⟩
          rw [decide_eq_false fresh]
          refine iteF ?_
          refine ⟨_, rfl, ⟨sn, L, rfl, s34 _ _ eS⟩, _, rfl, b, _, rfl, .inr (Same.seqT s4 hb3), fun t5 H5 h5 s5 => ?_⟩
          have s35 := s34.trans s5
          have l60 := B.l60
          refine ⟨sn, t5, L, row2 t, rfl, rfl, s35 _ _ eS, (fun p hp => Same.seqT s35 (hL p hp)), h5, by omega, fun L' _ c2 => ?_⟩
          have p2 := c2 fresh
          refine ⟨_, L', rfl, upd_same, ?_, fun p hp => ?_, Same.upd_new (s2.trans s35) nsH, hlt⟩
          · rw [take_next er]
            have q1 : (L'.map (·.2)).Perm (row2 t :: L.map (·.2)) := p2.map (·.2)
            exact q1.trans ((pL.cons _).trans (List.perm_append_singleton _ _).symm)
          · rcases List.mem_cons.mp (p2.mem_iff.mp hp) with rfl | hp
            · exact seqT_offS h5 (s35 _ _ eS)
            · exact seqT_offS (Same.seqT s35 (hL p hp)) (s35 _ _ eS)
        · -- the wrong one
          have ei : i = ps.length := by omega
          subst ei
          have e0 : e = d0 := by
            have q := get_mid (l := ps.map tieD) (r := rest) (x := d0)
            rw [List.length_map] at q
            exact Option.some.inj (ee.symm.trans q)
          subst e0
          have raised := k x H (Same.refl' H) he
          refine ⟨_, rfl, _, rfl, n, _, e, rfl, he2, B.sh, fun H3 s3 => ⟨_, rfl, ?_⟩⟩
          have s23 := s2.trans s3
          cases hun : unB n e with
          | false => exact iteT ⟨_, rfl, mkF1 (raised.same s23)⟩
          | true =>
            refine iteF ?_
            have hun2 := hun
            unfold unB at hun2
            cases hroe : rowOf e with
            | none => rw [hroe] at hun2; cases hun2
            | some es =>
              rw [hroe] at hun2
              have hun2 : (es.all (belowB n) && decide (numsOf es).Nodup) = true := hun2
              rw [Bool.and_eq_true] at hun2
              obtain ⟨e1, _⟩ := all_below hun2.1
              obtain ⟨b, xs, rfl, hb, hes2⟩ := row_of2 (Dq.kp s3 he2) hroe
              rw [e1] at hes2
              obtain rfl := dqs_ints hes2
              refine ⟨_, rfl, b, _, rfl, hb, rfl, _, rfl, ?_⟩
              refine ifT (fun _ => ⟨_, rfl, mkF1 (raised.same s23)⟩) (fun h2 => ?_)
              have l2 : (numsOf es).length = 2 := by
                have h2' : (!decide (V.int (((numsOf es).map V.int).length : Nat) = V.int 2)) = false := h2
                rw [List.length_map] at h2'
                simp at h2'
                omega
              obtain ⟨u, v, euv⟩ : ∃ u v, numsOf es = [u, v] := by
                match numsOf es, l2 with
                | [u, v], _ => exact ⟨u, v, rfl⟩
              have tm : (u, v) ∈ ps := B.bad (u, v) (by rw [hroe, e1, euv]; rfl) hun
              refine ⟨_, rfl, b, _, rfl, hb, fun t4 H4 h4 s4 => ?_⟩
              have s34 := s3.trans s4
              refine ⟨_, rfl, sn, t4, L, numsOf es, rfl, rfl, s34 _ _ eS, (fun p hp => Same.seqT s34 (hL p hp)), h4, _, rfl, ?_⟩
              have inn : numsOf es ∈ L.map (·.2) := by
                refine pL.mem_iff.mpr ?_
                have : ps.length = (ps.map row2).length := by rw [List.length_map]
                rw [this, List.take_length, euv]
                exact List.mem_map.mpr ⟨(u, v), tm, rfl⟩
              rw [decide_eq_true inn]
              exact iteT ⟨_, rfl, mkF1 (raised.same (s2.trans s34))⟩
      · rintro σ H2 ⟨v, L, rfl, eS, pL, hL, s2, ile⟩
        rw [hlen, List.length_append, List.length_map, List.length_cons] at ile
        omega
end
end Y
set_option Elab.async false
set_option linter.all false
set_option maxRecDepth 100000
set_option maxHeartbeats 4000000
namespace Y
open PySem PySem.Spec PyProof.Rows L2
/-- two promises of one def -/
def spOr (a b : Sp) : Sp := fun vs H Q E => a vs H Q E ∨ b vs H Q E
theorem FnOk.orX {P : Program} {w : World} {K : PySem.W.Frag} {mg : Str → Option Value} {base : Heap} {k : Nat} {f : Addr} {fd : FuncData} {ps : List Str} {a b : Sp} (A : FnOk P w K mg base CX0 k f fd ps a) (B : FnOk P w K mg base (L2.CX P w) k f fd ps b) :
    FnOk P w K mg base (L2.CX P w) k f fd ps (spOr a b) := by
  refine ⟨fun vs H Q E h => ?_, fun Ar outer s H args us vs Q E hr e0 hb r h => ?_⟩
  · rcases h with h | h
    · exact A.len _ _ _ _ h
    · exact B.len _ _ _ _ h
  · rcases h with h | h
    · refine codeAny_mono (A.run Ar outer s H args us vs Q E hr e0 hb r h) fun res s' hq => ?_
      match res, hq with
      | .error e, hq => exact (show False from hq).elim
      | .ok (.ret u), hq => exact hq
      | .ok .next, hq => exact hq.elim
      | .ok .brk, hq => exact hq.elim
      | .ok .cont, hq => exact hq.elim
    · exact B.run Ar outer s H args us vs Q E hr e0 hb r h
/-! ### wrong rings -/
structure RingsBad (n : Nat) (rs : List (List Int)) (d : PyData) : Prop where
  ok : ∀ r ∈ rs, RingOk n r
  l60 : rs.length ≤ 60
  sh : short63 d
  bad : unB n d = true → ∀ es, rowOf d = some es → es.length < 3
def spCRX (K : PySem.W.Frag) (CR CG : Addr) : Sp := fun vs H Q E => ∃ (n : Nat) (y : V) (d : PyData), vs = [.int (n : Int), y] ∧ Dq K H d y ∧ n ≤ 60 ∧
  ((rowOf d = none ∧ RaisedF CR [("row", y)] H E) ∨ ∃ (rs : List (List Int)) (d0 : PyData) (rest : List PyData), rowOf d = some (rs.map rowD ++ d0 :: rest) ∧ RingsBad n rs d0 ∧ RaisedF CG [("index", .int (rs.length : Nat))] H E)
theorem nums_row (r : List Int) : numsOf (r.map PyData.int) = r := by
  induction r with
  | nil => rfl
  | cons a r ih =>
    show a :: numsOf (r.map PyData.int) = _
    rw [ih]
theorem unB_row {n : Nat} {r : List Int} (h : ∀ z ∈ r, 0 ≤ z ∧ z < n) (nd : r.Nodup) : unB n (rowD r) = true := by
  show ((r.map PyData.int).all (belowB n) && decide (numsOf (r.map PyData.int)).Nodup) = true
  rw [nums_row, decide_eq_true nd, Bool.and_true, List.all_map, List.all_eq_true]
  intro z hz
  obtain ⟨h0, h1⟩ := h z hz
  show (decide (0 ≤ z) && decide (z < n)) = true
  rw [decide_eq_true h0, decide_eq_true h1]
  rfl
theorem dq_row {K : PySem.W.Frag} {H : Hp} {r : List Int} {v : V} (h : Dq K H (rowD r) v) : ∃ b, v = .ref b ∧ SqT K H b (r.map V.int) := by
  cases h with
  | tup hs hd => exact ⟨_, rfl, by rw [dqs_ints hd] at hs; exact hs⟩
section
variable {P : Program} {w : World} {K : PySem.W.Frag} {mg : Str → Option Value} {base : Heap} {fInt fRow fUn fCnt fFil fCT fCR CR CT CG CN CM fIR fIT fIG fIN : Addr}
theorem ok_crX {f : Addr} {fd fdR fdU fdIR fdIG : FuncData} (F : Fun K "checked_rings" "checked_rings" sCRings f fd) (T : TUn K mg fInt fRow fUn fCnt) (FR : Fun K "is_row" "is_row" sIsRow fRow fdR) (bR : Binds K fdR ["value"] [])
    (GU : FnOk P w K mg base CX0 3 fUn fdU ["many", "value"] (spUnlikeD K)) (FU : Fun K "are_unlike_numbers" "are_unlike_numbers" sUnlike fUn fdU) (bU : Binds K fdU ["many", "value"] [])
    (XR : XE1 K mg "BadRow" "row" CR fIR) (GIR : FnOk P w K mg base CX0 1 fIR fdIR ["self", "row"] (spX1 CR "row")) (bIR : Binds K fdIR ["self", "row"] [])
    (XG : XE1 K mg "BadRing" "index" CG fIG) (GIG : FnOk P w K mg base CX0 1 fIG fdIG ["self", "index"] (spX1 CG "index")) (bIG : Binds K fdIG ["self", "index"] []) :
    FnOk P w K mg base (L2.CX P w) 4 f fd ["places", "rings"] (spCRX K CR CG) := by
  have GR : FnOk P w K mg base CX0 1 fRow fdR ["value"] (spIsRowD K) := ok_isRowD FR T.i
  refine F.okX scCRings (fun vs H Q E h => ?_) (fun cdv A outer s H vs Q E hr h => ?_)
  · obtain ⟨n, y, d, rfl, _⟩ := h
    rfl
  · obtain ⟨n, y, d, rfl, hd, n60, k⟩ := h
    have hr1 : Room 1 _ := hr.mono (by decide)
    have hr2 : Room 2 _ := hr.mono (by decide)
    refine ⟨_, pss_cons (ps_if (pt_not (pt_val (pe_call GR hr1 (by rfl) T.gRow FR.kp bR .nil pass0 (pa_cons (pv 1) pa_nil)))) (pss_one (ps_raise rfl (takes_of rfl rfl rfl rfl) (pmk_oex XR.xc.o XR.i XR.t GIR hr2 bIR .nil pass0 (by rfl) XR.g (pa_cons (pv 1) pa_nil)))) pss_nil)
      (pss_cons (ps_for (passes_of rfl) rfl (pi_enumV (by rfl) T.enum (pv 1)) (pg_tup rfl (pgs_cons (pg_name (i := 2) scCRings.nd rfl (Or.inl rfl)) (pgs_cons (pg_name (i := 3) scCRings.nd rfl (Or.inl rfl)) pgs_nil)))
        (pss_one (ps_if (PW.pt (pw_or (pt_not (pt_val (pe_call GU hr (by rfl) T.gUn FU.kp bU .nil pass0 (pa_cons (pv 0) (pa_cons (pv 3) pa_nil))))) (pw_or1 (pt_cmpR op_lt (pe_callB call_len_seq (by rfl) T.len PySem.boot_len (pa_cons (pv 3) pa_nil)) pe_int (nomark _)))))
          (pss_one (ps_raise rfl (takes_of rfl rfl rfl rfl) (pmk_oex XG.xc.o XG.i XG.t GIG hr2 bIG .nil pass0 (by rfl) XG.g (pa_cons (pv 2) pa_nil)))) pss_nil)))
      (pss_one ps_never)), ?_⟩
    refine ⟨_, rfl, _, d, rfl, hd, fun H1 s1 => ⟨_, rfl, ?_⟩⟩
    rcases k with ⟨hro, k⟩ | ⟨rs, d0, rest, hro, B, k⟩
    · rw [row_none hro]
      exact iteT ⟨_, rfl, mkF1 (k.same s1)⟩
    · rw [row_some hro]
      refine iteF ?_
      obtain ⟨z, zs, rfl, hz, hes⟩ := row_of2 hd hro
      have hlen := dqs_len hes
      refine ⟨z, zs, H, rfl, hz, .of_same s1, fun J G w1 hG => ?_⟩
      refine for_it w1 (fun i σ H' => ∃ (v2 v3 : Option V), σ = [some (.int (n : Int)), some (.ref z), v2, v3] ∧ Same H H' ∧ i ≤ rs.length) ⟨none, none, rfl, s1, Nat.zero_le _⟩ (fun i σ H' _ ⟨_, _, _, s, _⟩ => hG H' (.of_same s)) ?_ ?_
      · rintro i v σ H2 H3 hi ⟨v2, v3, rfl, s2, ile⟩ ⟨T1, u, y, rfl, nT, rfl, e1, e2⟩
        cases Option.some.inj e1
        have s3 := s2.trans (Same.new (o := .tup [.int (i : Nat), y]) nT)
        obtain ⟨e, ee, he⟩ := dqs_get hes e2
        have he3 := Dq.kp s3 he
        refine ⟨T1, _, rfl, SqT.of upd_same, rfl, _, _, rfl, _, _, rfl, rfl, ?_⟩
        rcases Nat.lt_or_ge i rs.length with hlt | hge
        · have et : e = rowD (rs[i]'hlt) := by
            rw [List.getElem?_append_left (by rw [List.length_map]; exact hlt), List.getElem?_map, List.getElem?_eq_getElem hlt] at ee
            exact (Option.some.inj ee).symm
          subst et
          obtain ⟨rn, rb, r3, rl⟩ := B.ok _ (List.getElem_mem hlt)
          generalize rs[i]'hlt = r at *
          obtain ⟨b, rfl, hb⟩ := dq_row he3
          refine ⟨_, rfl, _, rfl, n, _, rowD r, rfl, he3, (fun es h => by cases Option.some.inj h; rw [List.length_map]; omega), fun H4 s4 => ⟨_, rfl, ?_⟩⟩
          rw [unB_row rb rn]
          refine iteF ?_
          refine ⟨_, rfl, b, _, rfl, .inr (Same.seqT s4 hb), _, _, rfl, rfl, _, rfl, ?_⟩
          refine ifT (fun h => ?_) (fun _ => ⟨_, _, rfl, s3.trans s4, hlt⟩)
          have h' : (((r.map V.int).length : Nat) : Int) < 3 := of_decide_eq_true h
          rw [List.length_map] at h'
          omega
        · have ei : i = rs.length := by omega
          subst ei
          have e0 : e = d0 := by
            have q := get_mid (l := rs.map rowD) (r := rest) (x := d0)
            rw [List.length_map] at q
            exact Option.some.inj (ee.symm.trans q)
          subst e0
          refine ⟨_, rfl, _, rfl, n, _, e, rfl, he3, B.sh, fun H4 s4 => ⟨_, rfl, ?_⟩⟩
          have s34 := s3.trans s4
          cases hun : unB n e with
          | false => exact iteT ⟨_, rfl, mkF1 (k.same s34)⟩
          | true =>
            refine iteF ?_
            cases hroe : rowOf e with
            | none =>
              unfold unB at hun
              rw [hroe] at hun
              cases hun
            | some es =>
              have l3 := B.bad hun es hroe
              obtain ⟨b, xs, rfl, hb, hes2⟩ := row_of2 (Dq.kp s4 he3) hroe
              refine ⟨_, rfl, b, _, rfl, hb, _, _, rfl, rfl, _, rfl, ?_⟩
              refine ifT (fun _ => ⟨_, rfl, mkF1 (k.same s34)⟩) (fun h => ?_)
              have h' : ¬ ((xs.length : Nat) : Int) < 3 := of_decide_eq_false h
              rw [dqs_len hes2] at h'
              omega
      · rintro σ H2 ⟨v2, v3, rfl, s2, ile⟩
        rw [hlen, List.length_append, List.length_map, List.length_cons] at ile
        omega
/-! ### no yard -/
def spYX (K : PySem.W.Frag) (CR CT CG CN : Addr) : Sp := fun vs H Q E => ∃ (x C dx : Addr) (vn y z : V) (dn dt dr : PyData) (H0 : Hp), vs = [.ref x, vn, y, z] ∧ YCls K C ∧ H x = some (.ins C dx []) ∧ Same H0 H ∧ H0 x = none ∧ Dq K H0 dn vn ∧ Dq K H0 dt y ∧ Dq K H0 dr z ∧
  (((∀ n : Int, dn = .int n → n < 1) ∧ RaisedF CN [("number", vn), ("what", .str "places")] H0 E) ∨ ∃ n : Nat, dn = .int (n : Int) ∧ 1 ≤ n ∧ n ≤ 60 ∧
    ((rowOf dt = none ∧ RaisedF CR [("row", y)] H0 E) ∨ (∃ (ps : List (Int × Int)) (d0 : PyData) (rest : List PyData), rowOf dt = some (ps.map tieD ++ d0 :: rest) ∧ TiesBad n ps d0 ∧ ∀ v H1, Same H0 H1 → Dq K H1 d0 v → RaisedF CT [("tie", v)] H1 E) ∨
      ∃ ts : List (Int × Int), rowOf dt = some (ts.map tieD) ∧ TiesOk n ts ∧ ts.length ≤ 60 ∧
        ((rowOf dr = none ∧ RaisedF CR [("row", z)] H0 E) ∨ ∃ (rs : List (List Int)) (d0 : PyData) (rest : List PyData), rowOf dr = some (rs.map rowD ++ d0 :: rest) ∧ RingsBad n rs d0 ∧ RaisedF CG [("index", .int (rs.length : Nat))] H0 E)))
theorem dqs_rows {K : PySem.W.Frag} {H : Hp} : ∀ {ts : List (Int × Int)} {vs : List V}, Dqs K H (ts.map tieD) vs → Paired (RowAt K H) vs (ts.map row2)
  | [], _, h => by cases h; exact .nil
  | t :: ts, _, h => by
    cases h with
    | cons a r =>
      obtain ⟨b, rfl, hb⟩ := dq_tie a
      exact .cons ⟨b, rfl, .inr hb⟩ (dqs_rows r)
theorem ok_yX {f : Addr} {fd fdI fdT fdR fdIN : FuncData} (F : Fun K "__init__" "Yard.__init__" sYInit f fd) (T : TUn K mg fInt fRow fUn fCnt) (gCT : mg "checked_ties" = some (.ref fCT)) (gCR : mg "checked_rings" = some (.ref fCR)) (FI : Fun K "is_integer" "is_integer" sIsInt fInt fdI) (bI : Binds K fdI ["value"] [])
    (GT : FnOk P w K mg base (L2.CX P w) 4 fCT fdT ["places", "ties"] (spOr (spCTies K) (spCTX K CR CT))) (FT : Fun K "checked_ties" "checked_ties" sCTies fCT fdT) (bT : Binds K fdT ["places", "ties"] [])
    (GR : FnOk P w K mg base (L2.CX P w) 4 fCR fdR ["places", "rings"] (spCRX K CR CG)) (FR : Fun K "checked_rings" "checked_rings" sCRings fCR fdR) (bR : Binds K fdR ["places", "rings"] [])
    (XN : XE2 K mg "BadNumber" "what" "number" CN fIN) (GIN : FnOk P w K mg base CX0 1 fIN fdIN ["self", "what", "number"] (spX2 CN "what" "number")) (bIN : Binds K fdIN ["self", "what", "number"] []) :
    FnOk P w K mg base (L2.CX P w) 5 f fd ["self", "places", "ties", "rings"] (spYX K CR CT CG CN) := by
  have GI : FnOk P w K mg base CX0 1 fInt fdI ["value"] (spIsIntD K) := ok_isIntD FI T.i
  refine F.okX scYInit (fun vs H Q E h => ?_) (fun cdv A outer s H vs Q E hr h => ?_)
  · obtain ⟨x, C, dx, vn, y, z, dn, dt, dr, H0, rfl, _⟩ := h
    rfl
  · obtain ⟨x, C, dx, vn, y, z, dn, dt, dr, H0, rfl, yc, hx, s0, nx, hn, ht, hrr, k⟩ := h
    have hr1 : Room 1 _ := hr.mono (by decide)
    have hr2 : Room 2 _ := hr.mono (by decide)
    refine ⟨_, pss_cons (ps_if (PW.pt (pw_or (pt_not (pt_val (pe_call GI hr1 (by rfl) T.gInt FI.kp bI .nil pass0 (pa_cons (pv 1) pa_nil)))) (pw_or1 (pt_cmpR op_lt (pv 1) pe_int (nomark _)))))
        (pss_one (ps_raise rfl (takes_of rfl rfl rfl rfl) (pmk_oex XN.xc.o XN.i XN.t GIN hr2 bIN .nil pass0 (by rfl) XN.g (pa_cons pe_str (pa_cons (pv 1) pa_nil))))) pss_nil)
      (pss_cons (ps_fld (pv 0) (pv 1) rfl)
      (pss_cons (ps_fld (pv 0) (pe_call GT hr (by rfl) gCT FT.kp bT .nil (passes_call (takes_of rfl rfl rfl rfl) fun _ _ _ _ h => h) (pa_cons (pv 1) (pa_cons (pv 2) pa_nil))) rfl)
      (pss_one (ps_fld (pv 0) (pe_call GR hr (by rfl) gCR FR.kp bR .nil (passes_call (takes_of rfl rfl rfl rfl) fun _ _ _ _ h => h) (pa_cons (pv 1) (pa_cons (pv 3) pa_nil))) rfl)))), ?_⟩
    have hn' := Dq.kp s0 hn
    refine ⟨_, rfl, _, dn, rfl, hn', _, rfl, ?_⟩
    rcases k with ⟨hb, k⟩ | ⟨n, rfl, n1, n60, k⟩
    · have raise : RaisedF CN [("number", vn), ("what", .str "places")] H E := k.same s0
      cases hn with
      | int m =>
        refine iteF ?_
        have := hb m rfl
        refine ⟨_, rfl, _, _, rfl, rfl, _, rfl, ?_⟩
        refine ifT (fun _ => ?_) (fun h => ?_)
        · exact ⟨_, rfl, mk2 fun d H' s _ e => raise d H' s e⟩
        · have h' : ¬ m < 1 := of_decide_eq_false h
          omega
      | _ => exact iteT ⟨_, rfl, mk2 fun d H' s _ e => raise d H' s e⟩
    · cases hn
      refine iteF ?_
      refine ⟨_, rfl, _, _, rfl, rfl, _, rfl, ?_⟩
      refine ifT (fun h => ?_) (fun _ => ?_)
      · have h' : (n : Int) < 1 := of_decide_eq_true h
        omega
      refine ⟨_, rfl, _, rfl, x, C, dx, [], rfl, hx, yc.c, yc.p, (by show 0 < 1000; decide), ?_⟩
      have s1 : Same H0 (upd H x (.ins C dx (putF "places" (.int (n : Int)) []))) := Same.upd_new s0 nx
      have hx1 : (upd H x (.ins C dx (putF "places" (.int (n : Int)) []))) x = some (.ins C dx (putF "places" (.int (n : Int)) [])) := upd_same
      rcases k with ⟨hro, k⟩ | ⟨ps, d0, rest, hro, B, k⟩ | ⟨ts, hro, tok, t60, k⟩
      · exact ⟨_, rfl, _, rfl, .inr ⟨n, _, dt, rfl, Dq.kp s1 ht, n60, .inl ⟨hro, k.same s1⟩⟩⟩
      · refine ⟨_, rfl, _, rfl, .inr ⟨n, _, dt, rfl, Dq.kp s1 ht, n60, .inr ⟨ps, d0, rest, hro, B, fun v H1 s hv => k v H1 (s1.trans s) hv⟩⟩⟩
      · obtain ⟨a, zs, rfl, ha, hes⟩ := row_of2 ht hro
        refine ⟨_, rfl, _, rfl, .inl ⟨n, a, zs, ts, ts, rfl, Same.seqA s1 ha, dqs_rows (Dqs.kp s1 hes), .refl _, tok, n60, t60, fun t ys H2 et pt s2 => ?_⟩⟩
        have hx2 := s2 _ _ hx1
        refine ⟨_, rfl, x, C, dx, _, rfl, hx2, yc.c, yc.t, (by show 1 < 1000; decide), ?_⟩
        have s3 : Same H0 (upd H2 x (.ins C dx (putF "ties" (.ref t) (putF "places" (.int (n : Int)) [])))) := Same.upd_new (s1.trans s2) nx
        refine ⟨_, rfl, _, rfl, n, _, dr, rfl, Dq.kp s3 hrr, n60, ?_⟩
        rcases k with ⟨hro2, k⟩ | ⟨rs, d0, rest, hro2, B, k⟩
        · exact .inl ⟨hro2, k.same s3⟩
        · exact .inr ⟨rs, d0, rest, hro2, B, k.same s3⟩
end
end Y
set_option Elab.async false
set_option linter.all false
set_option maxRecDepth 100000
set_option maxHeartbeats 2000000
namespace Y
open PySem L2
/-! ### frozen -/
abbrev sFroz : Stmt := top 4
/-- of no kind of list -/
def NoLst (K : PySem.W.Frag) (H : Hp) (v : V) : Prop := ∃ t, TyX K H v t ∧ PySem.W.kitOne K t (.type "list") = some false
def spFroz (K : PySem.W.Frag) : Sp := fun vs H Q _ => ∃ x, vs = [x] ∧ ((∃ a xs, x = .ref a ∧ SqL K H a xs ∧ ∀ l H', SqT K H' l xs → Same H H' → Q (.ref l) H') ∨ (NoLst K H x ∧ Q x H))
section
variable {P : Program} {w : World} {K : PySem.W.Frag} {mg : Str → Option Value} {base : Heap} {fFro : Addr}
theorem scFroz : FnScope ["value"] ["value"] (defScope sFroz) := ⟨rfl, rfl, rfl, by decide +kernel, rfl, by decide +kernel, by decide +kernel⟩
theorem ok_froz {f : Addr} {fd : FuncData} (F : Fun K "frozen" "frozen" sFroz f fd) (T : TI0 mg) : FnOk P w K mg base CX0 1 f fd ["value"] (spFroz K) := by
  refine F.ok scFroz (fun vs H Q E h => ?_) (fun cdv A outer s H vs Q E hr h => ?_)
  · obtain ⟨x, rfl, _⟩ := h
    rfl
  · obtain ⟨x, rfl, k⟩ := h
    refine ⟨_, pss_one (ps_ret (pe_ifExp (pt_val (pe_callB call_isi (by rfl) T.isi (by decide +kernel) (pa_cons (pv 0) (pa_cons (pbT (n := "list") T.list (by decide +kernel)) pa_nil)))) (pe_callTy call_tuple_any (by rfl) T.tuple (by decide +kernel) (pa_cons (pv 0) pa_nil)) (pv 0))), ?_⟩
    rcases k with ⟨a, xs, rfl, ha, k⟩ | ⟨⟨t, ty, e⟩, k⟩
    · exact ⟨_, rfl, .ref a, .ty "list", _, _, true, rfl, ClsV.ty _, TyX.same (H' := H) ha, kit_ty (by decide +kernel), _, rfl, iteT ⟨_, rfl, a, xs, rfl, .inl ha, fun l H' h s => k l H' h s⟩⟩
    · exact ⟨_, rfl, x, .ty "list", _, _, false, rfl, ClsV.ty _, ty, e, _, rfl, iteF ⟨_, rfl, k⟩⟩
/-! ### a floor made -/
abbrev sFInit : Stmt := inClass (top 28) 0
structure FCls (K : PySem.W.Frag) (C : Addr) : Prop where
  c : Cls K C
  s : NoAttr K C "spots"
  y : NoAttr K C "yard"
  t : NoAttr K C "stand"
/-- what a floor keeps -/
def FlAt (H : Hp) (CF x : Addr) (t y u : Addr) : Prop := ∃ dx fs, H x = some (.ins CF dx fs) ∧ fs.lookup ("spots" : Str) = some (.ref t) ∧ fs.lookup ("yard" : Str) = some (.ref y) ∧ fs.lookup ("stand" : Str) = some (.ref u)
def spFInit (K : PySem.W.Frag) : Sp := fun vs H Q _ => ∃ (x C dx a y b : Addr) (xs zs : List V), vs = [.ref x, .ref a, .ref y, .ref b] ∧ FCls K C ∧ H x = some (.ins C dx []) ∧ SqL K H a xs ∧ (∀ H', (∀ b o, b ≠ x → H b = some o → H' b = some o) → NoLst K H' (.ref y)) ∧ SqL K H b zs ∧
  ∀ t u H', FlAt H' C x t y u → SqT K H' t xs → SqT K H' u zs → (∀ b o, b ≠ x → H b = some o → H' b = some o) → Q .non H'
theorem scFInit : FnScope ["self", "spots", "yard", "stand"] ["self", "spots", "yard", "stand"] (defScope sFInit) := ⟨rfl, rfl, rfl, by decide +kernel, rfl, by decide +kernel, by decide +kernel⟩
theorem ok_finit {f : Addr} {fd fdF : FuncData} (F : Fun K "__init__" "Floor.__init__" sFInit f fd) (gF : mg "frozen" = some (.ref fFro)) (T : TI0 mg) (FF : Fun K "frozen" "frozen" sFroz fFro fdF) (bF : Binds K fdF ["value"] []) :
    FnOk P w K mg base CX0 2 f fd ["self", "spots", "yard", "stand"] (spFInit K) := by
  have GF : FnOk P w K mg base CX0 1 fFro fdF ["value"] (spFroz K) := ok_froz FF T
  refine F.ok scFInit (fun vs H Q E h => ?_) (fun cdv A outer s H vs Q E hr h => ?_)
  · obtain ⟨x, C, dx, a, y, b, xs, zs, rfl, _⟩ := h
    rfl
  · obtain ⟨x, C, dx, a, y, b, xs, zs, rfl, fc, hx, ha, hy, hb, k⟩ := h
    refine ⟨_, pss_cons (ps_fld (pv 0) (pe_call GF hr (by rfl) gF FF.kp bF .nil pass0 (pa_cons (pv 1) pa_nil)) rfl)
      (pss_cons (ps_fld (pv 0) (pe_call GF hr (by rfl) gF FF.kp bF .nil pass0 (pa_cons (pv 2) pa_nil)) rfl)
      (pss_one (ps_fld (pv 0) (pe_call GF hr (by rfl) gF FF.kp bF .nil pass0 (pa_cons (pv 3) pa_nil)) rfl))), ?_⟩
    refine ⟨_, rfl, _, rfl, .inl ⟨a, xs, rfl, ha, fun t H1 ht s1 => ?_⟩⟩
    have hx1 := s1 _ _ hx
    refine ⟨_, rfl, x, C, dx, [], rfl, hx1, fc.c, fc.s, (by show 0 < 1000; decide), ?_⟩
    have hx2 : (upd H1 x (.ins C dx (putF "spots" (.ref t) []))) x = some (.ins C dx (putF "spots" (.ref t) [])) := upd_same
    refine ⟨_, rfl, _, rfl, .inr ⟨hy _ fun b' o nb e => by rw [upd_ne nb]; exact s1 _ _ e, ?_⟩⟩
    refine ⟨_, rfl, x, C, dx, _, rfl, hx2, fc.c, fc.y, (by show 1 < 1000; decide), ?_⟩
    have hb2 : SqL K (upd (upd H1 x (.ins C dx (putF "spots" (.ref t) []))) x (.ins C dx (putF "yard" (.ref y) (putF "spots" (.ref t) [])))) b zs := seqL_offI (seqL_offI ((Kp.of_same s1).seqL hb) hx1) hx2
    have hx3 : (upd (upd H1 x (.ins C dx (putF "spots" (.ref t) []))) x (.ins C dx (putF "yard" (.ref y) (putF "spots" (.ref t) [])))) x = some (.ins C dx (putF "yard" (.ref y) (putF "spots" (.ref t) []))) := upd_same
    refine ⟨_, rfl, _, rfl, .inl ⟨b, zs, rfl, hb2, fun u H4 hu s4 => ?_⟩⟩
    have hx4 := s4 _ _ hx3
    refine ⟨_, rfl, x, C, dx, _, rfl, hx4, fc.c, fc.t, (by show 2 < 1000; decide), ?_⟩
    refine k t u _ ⟨dx, _, upd_same, ?_, ?_, ?_⟩ (seqT_offI (Same.seqT s4 (seqT_offI (seqT_offI ht hx1) hx2)) hx4) (seqT_offI hu hx4) fun b' o nb e => ?_
    · rw [lookup_putF, if_neg (by decide +kernel), lookup_putF, if_neg (by decide +kernel), lookup_putF, if_pos rfl]
    · rw [lookup_putF, if_neg (by decide +kernel), lookup_putF, if_pos rfl]
    · rw [lookup_putF, if_pos rfl]
    · rw [upd_ne nb]
      refine s4 _ _ ?_
      rw [upd_ne nb, upd_ne nb]
      exact s1 _ _ e
end
end Y
set_option Elab.async false
set_option linter.all false
set_option maxRecDepth 100000
set_option maxHeartbeats 2000000
namespace Y
open PySem L2
/-! ### a text with a wrong sign -/
abbrev sLineI : Stmt := inClass (top 8) 0
structure FirstBad (ls : List (List Nat)) (i j : Nat) : Prop where
  ok : ∀ i' l, i' < i → ls[i']? = some l → ∀ c ∈ l, c ∈ SG ∨ c = 35
  at_ : ∃ l c, ls[i]? = some l ∧ l[j]? = some c ∧ ¬ c ∈ SG ∧ c ≠ 35 ∧ ∀ j' c', j' < j → l[j']? = some c' → c' ∈ SG ∨ c' = 35
def spDrawnX (CB : Addr) : Sp := fun vs H Q E => ∃ (ls : List (List Nat)) (bi bj : Nat), vs = [.str (strL (joinL 10 ls))] ∧ ls ≠ [] ∧ ls.length ≤ 60 ∧ (∀ l ∈ ls, l.length ≤ 60 ∧ ∀ c ∈ l, c < 128 ∧ c ≠ 10) ∧ (joinL 10 ls).length ≤ 10000 ∧ FirstBad ls bi bj ∧
  RaisedF CB [("column", .int ((bj : Int) + 1)), ("line", .int ((bi : Int) + 1))] H E
theorem putK_len {κ : Type} [DecidableEq κ] {kvs : List (κ × V)} {k : κ} {v : V} : (putK kvs k v).length ≤ kvs.length + 1 := by
  unfold putK
  split
  · rw [List.length_map]; omega
  · rw [List.length_append]; exact Nat.le_refl _
section
variable {P : Program} {w : World} {K : PySem.W.Frag} {mg : Str → Option Value} {base : Heap} {CB fIB : Addr}
theorem scLineI : FnScope ["self", "line", "column"] ["self", "line", "column"] (defScope sLineI) := ⟨rfl, rfl, rfl, by decide +kernel, rfl, by decide +kernel, by decide +kernel⟩
theorem ok_lineI {f C : Addr} {fd : FuncData} (F : Fun K "__init__" "BadLine.__init__" sLineI f fd) (T : XE2 K mg "BadLine" "line" "column" C f) : FnOk P w K mg base CX0 1 f fd ["self", "line", "column"] (spX2 C "line" "column") := by
  refine F.ok scLineI (fun vs H Q E h => ?_) (fun cdv A outer s H vs Q E hr h => ?_)
  · obtain ⟨a, v, v2, rfl, _⟩ := h
    rfl
  · obtain ⟨a, v, v2, rfl, ha, k⟩ := h
    refine ⟨_, pss_cons (ps_ost (pv 0) (pv 1)) (pss_one (ps_ost (pv 0) (pv 2))), ?_⟩
    refine ⟨_, rfl, _, rfl, a, C, rfl, T.xc.o, T.n, .inl ⟨ha, fun dx nn ne => ?_⟩⟩
    refine ⟨_, rfl, _, rfl, a, C, rfl, T.xc.o, T.n2, .inr ⟨dx, _, upd_same, by rw [upd_ne ne]; exact upd_same, by show 1 ≤ 900; decide, ?_⟩⟩
    exact k dx _ nn ne (fun b u hb e => by rw [upd_ne (ne_of_none e nn), upd_ne hb, upd_ne (ne_of_none e nn)]; exact e) (by rw [upd_ne (Ne.symm ne)]; exact upd_same) upd_same
theorem ok_drawnX {f : Addr} {fd fdIB : FuncData} {tw ts : Tok} (F : Fun K "drawn" "drawn" sDrawn f fd) (T : TPic mg tw ts) (gE : mg "enumerate" = none)
    (XB : XE2 K mg "BadLine" "line" "column" CB fIB) (GIB : FnOk P w K mg base CX0 1 fIB fdIB ["self", "line", "column"] (spX2 CB "line" "column")) (bIB : Binds K fdIB ["self", "line", "column"] []) :
    FnOk P w K mg base (L2.CX P w) 3 f fd ["text"] (spDrawnX CB) := by
  refine F.okX scDrawn (fun vs H Q E h => ?_) (fun cdv A outer s H vs Q E hr h => ?_)
  · obtain ⟨ls, i, j, rfl, _⟩ := h
    rfl
  · obtain ⟨ls, bi, bj, rfl, ne, l60, hls, lj, fb, k⟩ := h
    have hu := hu_of hr
    refine ⟨_, pss_cons (ps_set (i := 1) scDrawn.nd rfl (Or.inl rfl) pe_dnewT)
      (pss_cons (ps_for (passes_of rfl) rfl (pi_enum (by rfl) gE (pa_cons (pe_split (pv 0) pe_str) pa_nil)) (pg_tup rfl (pgs_cons (pg_name (i := 2) scDrawn.nd rfl (Or.inl rfl)) (pgs_cons (pg_name (i := 3) scDrawn.nd rfl (Or.inl rfl)) pgs_nil)))
        (pss_one (ps_for (passes_of rfl) rfl (pi_enumA (by rfl) gE (pv 3)) (pg_tup rfl (pgs_cons (pg_name (i := 4) scDrawn.nd rfl (Or.inl rfl)) (pgs_cons (pg_name (i := 5) scDrawn.nd rfl (Or.inl rfl)) pgs_nil)))
          (pss_one (ps_if (pt_cmpR op_in_sign (pv 5) (pgS T.signs) (by rfl))
            (pss_one (ps_dput hu (pv 1) (pe_tup (pa_cons (pv 2) (pa_cons (pv 4) pa_nil))) (pe_bmS PySem.F.plainAttrs_str PySem.F.slot_str_index PySem.F.type_str_index (mt_indexX rfl LamX.takes0) (pgS T.signs) (pa_cons (pv 5) pa_nil)) rfl))
            (pss_one (ps_if (pt_cmpR op_ne (pv 5) (pgS T.wall) (nomark _)) (pss_one (ps_raise rfl (takes_of rfl rfl rfl rfl) (pmk_oex XB.xc.o XB.i XB.t GIB hr bIB .nil pass0 (by rfl) XB.g (pa_cons (pe_op op_add (pv 2) pe_int) (pa_cons (pe_op op_add (pv 4) pe_int) pa_nil))))) pss_nil)))))))
      (pss_one ps_never)), ?_⟩
    have szl : sizeLine = 2 ^ 24 := rfl
    refine fun d nd => gset_go (σ' := [some (.str (strL (joinL 10 ls))), some (.ref d), none, none, none, none]) rfl ?_
    dsimp only
    have s1 := Same.new (o := .dT []) nd
    have ed : (upd H d (.dT [])) d = some (.dT []) := upd_same
    generalize upd H d (.dT []) = H1 at s1 ed ⊢
    refine ⟨_, rfl, ⟨_, rfl⟩, strL (joinL 10 ls), strL [10], rfl, by rw [nl_eq], by decide, by rw [strL_len]; omega, fun a na => ⟨a, _, rfl, SqL.of upd_same, ?_⟩⟩
    have no10 : ∀ l ∈ ls, 10 ∉ l := fun l hl h10 => ((hls l hl).2 10 h10).2 rfl
    have spl : Txt.split (strL (joinL 10 ls)) (strL [10]) = ls.map strL := by
      rw [show strL [10] = ⟨#[10]⟩ from rfl, split_one _ 10 (by decide), split_join 10 ls ne no10]
    rw [spl]
    have s2 := Same.new (o := .lst ((ls.map strL).map V.str)) na
    have ea : (upd H1 a (.lst ((ls.map strL).map V.str))) a = some (.lst ((ls.map strL).map V.str)) := upd_same
    have sA := s1.trans s2
    have edA := s2 _ _ ed
    have nda : a ≠ d := Ne.symm (ne_of_none ed na)
    generalize upd H1 a (.lst ((ls.map strL).map V.str)) = H2 at s2 ea sA edA ⊢
    obtain ⟨lb, cb, elb, ecb, nS, n35, good⟩ := fb.at_
    refine for_it (walk_enum (xs := (ls.map strL).map V.str)) (fun i σ H' => ∃ (v2 v3 v4 v5 : Option V) (kvs : List (List Key × V)), σ = [some (.str (strL (joinL 10 ls))), some (.ref d), v2, v3, v4, v5] ∧ H' d = some (.dT kvs) ∧ kvs.length ≤ 60 * i ∧ i ≤ bi ∧ H' a = some (.lst ((ls.map strL).map V.str)) ∧ Same H H')
      ⟨none, none, none, none, [], rfl, edA, Nat.zero_le _, Nat.zero_le _, ea, sA⟩ (fun i σ H' _ ⟨_, _, _, _, _, _, _, _, _, e, _⟩ => SqL.of e) ?_ ?_
    · rintro i v σ H3 H3' hi ⟨v2, v3, v4, v5, kvs, rfl, ed3, hk, ile, ea3, s3⟩ ⟨T1, x, y, rfl, nT, rfl, hx, hy⟩
      obtain rfl : V.int (i : Nat) = x := Option.some.inj hx
      have hil : i < ls.length := by rw [List.length_map, List.length_map] at hi; exact hi
      obtain ⟨l, el⟩ : ∃ l, ls[i]? = some l := ⟨_, List.getElem?_eq_getElem hil⟩
      obtain rfl : V.str (strL l) = y := by
        have hy : ((ls.map strL).map V.str)[i]? = some y := hy
        rw [List.getElem?_map, List.getElem?_map, el] at hy
        exact Option.some.inj hy
      have hl := hls l (List.mem_of_getElem? el)
      have sT := Same.new (o := .tup [V.int (i : Nat), .str (strL l)]) nT
      refine ⟨T1, _, rfl, SqT.of upd_same, rfl, _, _, rfl, _, _, rfl, rfl, ?_⟩
      refine sq_st (σ' := [some (.str (strL (joinL 10 ls))), some (.ref d), some (.int (i : Nat)), some (.str (strL l)), v4, v5]) rfl ?_
      have sB := s3.trans sT
      have edB := sT _ _ ed3
      have eaB := sT _ _ ea3
      generalize upd H3 T1 (.tup [V.int (i : Nat), .str (strL l)]) = H4 at sT sB edB eaB ⊢
      have asc : (strL l).cps.all (· < 128) = true := by
        rw [Array.all_eq_true_iff_forall_mem]
        intro c hc
        have hc : c ∈ l := by simpa [strL] using hc
        exact decide_eq_true (hl.2 c hc).1
      have lbi : i = bi → l = lb := fun e => by
        subst e
        exact Option.some.inj (el.symm.trans elb)
      refine ⟨_, rfl, strL l, rfl, asc, for_it walk_enumA (fun j σ H' => ∃ (v4 v5 : Option V) (kvs : List (List Key × V)), σ = [some (.str (strL (joinL 10 ls))), some (.ref d), some (.int (i : Nat)), some (.str (strL l)), v4, v5] ∧ H' d = some (.dT kvs) ∧ kvs.length ≤ 60 * i + j ∧ (i = bi → j ≤ bj) ∧ H' a = some (.lst ((ls.map strL).map V.str)) ∧ Same H H')
        ⟨v4, v5, kvs, rfl, edB, hk, fun _ => Nat.zero_le _, eaB, sB⟩ (fun j σ H' _ _ => trivial) ?_ ?_⟩
      · rintro j v σ H5 H5' hj ⟨v4, v5, kvs, rfl, ed5, hk, jle, ea5, s5⟩ ⟨T2, c, rfl, nT2, hc, rfl⟩
        have hc : l[j]? = some c := by simpa [strL] using hc
        have sT := Same.new (o := .tup [V.int (j : Nat), .str ⟨#[c]⟩]) nT2
        refine ⟨T2, _, rfl, SqT.of upd_same, rfl, _, _, rfl, _, _, rfl, rfl, ?_⟩
        refine sq_st (σ' := [some (.str (strL (joinL 10 ls))), some (.ref d), some (.int (i : Nat)), some (.str (strL l)), some (.int (j : Nat)), some (.str ⟨#[c]⟩)]) rfl ?_
        have sC := s5.trans sT
        have edC := sT _ _ ed5
        have eaC := sT _ _ ea5
        generalize upd H5 T2 (.tup [V.int (j : Nat), .str ⟨#[c]⟩]) = H6 at sT sC edC eaC ⊢
        have h4 := hl.1
        have h3 := (List.getElem?_eq_some_iff.mp hc).1
        -- not yet there
        have next : (c ∈ SG ∨ c = 35) → (i = bi → j + 1 ≤ bj) := fun hg e => by
          have := jle e
          rcases Nat.lt_or_ge j bj with h | h
          · exact h
          · have ej : j = bj := by omega
            rw [lbi e, ej, ecb] at hc
            rw [← Option.some.inj hc] at hg
            exact (hg.elim (fun h => nS h) (fun h => n35 h)).elim
        refine ⟨_, rfl, c, signsV, rfl, rfl, _, rfl, ?_⟩
        by_cases hs : c ∈ SG
        · refine iteT' (decide_eq_true (show c ∈ signsV.cps.toList from hs)) ?_
          refine ⟨rfl, _, rfl, signsV, ⟨#[c]⟩, rfl, rfl, fun n hn => ?_, fun hn => ?_⟩
          · rw [sg_index c hs] at hn
            obtain rfl : SG.idxOf c = n := Option.some.inj hn
            refine ⟨_, rfl, _, rfl, _, rfl, (by show 2 ≤ sizeLine; decide), fun kb nkb => ?_⟩
            have sk := Same.new (o := .tup [V.int (i : Nat), .int (j : Nat)]) nkb
            refine ⟨d, _, rfl, DPut.t (sk _ _ edC) (k := keyR (row2p ((i : Int), (j : Int)))) (by rw [keyR_kV]; exact upd_same) (by omega), ?_⟩
            refine ⟨_, _, _, rfl, upd_same, ?_, next (.inl hs), ?_, Same.upd_new (sC.trans sk) nd⟩
            · have := putK_len (kvs := kvs) (k := keyR (row2p ((i : Int), (j : Int)))) (v := V.int ((SG.idxOf c : Nat) : Int))
              omega
            · rw [upd_ne (Ne.symm (ne_of edC eaC fun z => by cases z))]
              exact sk _ _ eaC
          · rw [sg_index c hs] at hn
            cases hn
        · refine iteF' (decide_eq_false (show ¬ c ∈ signsV.cps.toList from hs)) ?_
          by_cases hw : c = 35
          · refine ⟨_, rfl, rfl, _, rfl, iteF' (by rw [hw, decide_eq_true rfl]; rfl) ?_⟩
            exact ⟨_, _, kvs, rfl, edC, by omega, next (.inr hw), eaC, sC⟩
          · refine ⟨_, rfl, rfl, _, rfl, iteT' (by rw [decide_eq_false fun z => hw (by injection z with z; injection z with z; simpa using z)]; rfl) ?_⟩
            -- the wrong one
            have eib : i = bi := by
              rcases Nat.lt_or_ge i bi with h | h
              · exact ((fb.ok i l h el c (List.mem_of_getElem? hc)).elim (fun h => hs h) (fun h => hw h)).elim
              · omega
            have ejb : j = bj := by
              have := jle eib
              rcases Nat.lt_or_ge j bj with h | h
              · rw [lbi eib] at hc
                exact ((good j c h hc).elim (fun h => hs h) (fun h => hw h)).elim
              · omega
            subst eib ejb
            refine ⟨_, rfl, _, _, rfl, rfl, _, rfl, _, _, rfl, rfl, ?_⟩
            exact mk2 fun dd H' s _ e => k dd H' (sC.trans s) e
      · rintro σ H5 ⟨v4, v5, kvs, rfl, ed5, hk, jle, ea5, s5⟩
        rw [show (strL l).cps.size = l.length by simp [strL]] at hk jle
        have h4 := hl.1
        refine ⟨_, _, _, _, kvs, rfl, ed5, by omega, ?_, ea5, s5⟩
        rcases Nat.lt_or_ge i bi with h | h
        · exact h
        · have e : i = bi := by omega
          have := jle e
          have := (List.getElem?_eq_some_iff.mp ecb).1
          rw [← lbi e] at this
          omega
    · rintro σ H3 ⟨v2, v3, v4, v5, kvs, rfl, ed3, hk, ile, ea3, s3⟩
      rw [List.length_map, List.length_map] at ile
      have := (List.getElem?_eq_some_iff.mp elb).1
      omega
end
end Y
set_option Elab.async false
set_option linter.all false
set_option maxRecDepth 100000
set_option maxHeartbeats 4000000
namespace Y
open PySem PySem.Spec PyProof.Rows L2
/-! ### a floor read -/
abbrev sRead : Stmt := top 31
abbrev NRead : List Str := ["text", "found", "places", "yard", "number", "spot"]
def spRead (K : PySem.W.Frag) (CF CY : Addr) : Sp := fun vs H Q _ => ∃ (ls : List (List Nat)) (ps : Placed), vs = [.str (strL (joinL 10 ls))] ∧ ls ≠ [] ∧ ls.length ≤ 60 ∧ (∀ l ∈ ls, l.length ≤ 60 ∧ ∀ c ∈ l, c ∈ SG ∨ c = 35) ∧ (joinL 10 ls).length ≤ 10000 ∧
  foundF ls ls.length = ps ∧ ps ≠ [] ∧ ps.length ≤ 15 ∧
  ∀ x y t u (ys : List V) (us : List (Int × Int)) H', FlAt H' CF x t y u → SqT K H' t ys → Paired (TieAt K H') ys (ps.map (·.1)) → SqT K H' u ((ps.map (·.2)).map V.int) → YObjC K H' CY y ps.length us [] → AscOf us (dbl (besideF (numb (ps.map (·.1))))) → Same H H' → Q (.ref x) H'
/-- what raises -/
def spReadX (K : PySem.W.Frag) (CB : Addr) : Sp := fun vs H Q E => ∃ v, vs = [v] ∧ ((∃ d t, Dq K H d v ∧ tyNm d ≠ "str" ∧ PySem.W.kitOne K (.type (tyNm d)) (.type "str") = some false ∧ t = d ∧ RaisedF CB [("column", .int 0), ("line", .int 0)] H E) ∨
  spDrawnX CB vs H Q E ∨ ∃ (ls : List (List Nat)), v = .str (strL (joinL 10 ls)) ∧ ls ≠ [] ∧ ls.length ≤ 60 ∧ (∀ l ∈ ls, l.length ≤ 60 ∧ ∀ c ∈ l, c ∈ SG ∨ c = 35) ∧ (joinL 10 ls).length ≤ 10000 ∧ foundF ls ls.length = [] ∧ RaisedF CB [("column", .int 1), ("line", .int 1)] H E)
structure OwnN (K : PySem.W.Frag) (C : Addr) : Prop where
  ha : PySem.W.findIn K (.ref C) "__class__" = some (some (.builtin "object.__class__"))
  hn : PySem.W.specialIn K (.builtin "object.__class__") "__get__" = some (some (.builtin "getset_descriptor.__get__"))
  htk : PySem.W.takesIn K (.builtin "object.__class__") = some true
  hm : PySem.W.mroIn K C (.type "object") = some true
structure TRd (K : PySem.W.Frag) (mg : Str → Option Value) (CB CY CF fIB fDr fBe fBo : Addr) : Prop where
  i : TI0 mg
  str : mg "str" = none
  enum : mg "enumerate" = none
  len : mg "len" = none
  gDr : mg "drawn" = some (.ref fDr)
  gBe : mg "pairs_beside" = some (.ref fBe)
  gBo : mg "both_ways" = some (.ref fBo)
  gY : mg "Yard" = some (.ref CY)
  gF : mg "Floor" = some (.ref CF)
  xB : XE2 K mg "BadLine" "line" "column" CB fIB
  yc : YCls K CY
  fc : FCls K CF
  oy : OwnN K CY
  ny : PySem.W.kitOne K (.ref CY) (.type "list") = some false
theorem intKV_keys {kvs : List (List Key × V)} {ps : Placed} {H : Hp} {bs : List Addr} (h : IntKV kvs ps) (k : IsKeys H kvs bs) : Paired (fun v t => ∃ b, v = V.ref b ∧ H b = some (.tup [.int t.1, .int t.2])) (bs.map V.ref) (ps.map (·.1)) := by
  unfold IntKV at h
  unfold IsKeys at k
  induction ps generalizing kvs bs with
  | nil => cases h; cases k; exact .nil
  | cons p ps ih =>
    cases h with
    | cons a t => cases k with
      | cons b r =>
        refine .cons ⟨_, rfl, ?_⟩ (ih t r)
        rw [b, a.1]
        show some (HO.tup ((keyR (row2p p.1)).map kV)) = _
        rw [keyR_kV]
        rfl
theorem intKV_vals {kvs : List (List Key × V)} {ps : Placed} (h : IntKV kvs ps) : kvs.map (·.2) = (ps.map (·.2)).map V.int := by
  unfold IntKV at h
  induction ps generalizing kvs with
  | nil => cases h; rfl
  | cons p ps ih =>
    cases h with
    | cons a t =>
      rw [List.map_cons, List.map_cons, List.map_cons, ih t, a.2]
theorem par_row {K : PySem.W.Frag} {H : Hp} {ys : List V} {ps : List (Int × Int)} (h : Paired (TieAt K H) ys ps) : Paired (RowAt K H) ys (ps.map row2) := by
  induction h with
  | nil => exact .nil
  | cons a _ ih => exact .cons (let ⟨b, e, h⟩ := a; ⟨b, e, .inr h⟩) ih
/-- unlike items of a row are no more than the row's -/
theorem sub_lenD {α : Type} [DecidableEq α] : ∀ {l D : List α}, l.Nodup → (∀ x ∈ l, x ∈ D) → l.length ≤ D.length
  | [], _, _, _ => Nat.zero_le _
  | x :: l, D, nd, h => by
    rw [List.nodup_cons] at nd
    have ih := sub_lenD (l := l) (D := D.erase x) nd.2 fun y hy => (List.mem_erase_of_ne (fun e => nd.1 (by rw [← e]; exact hy))).mpr (h y (List.mem_cons_of_mem _ hy))
    rw [List.length_erase_of_mem (h x List.mem_cons_self)] at ih
    have := List.length_pos_of_mem (h x List.mem_cons_self)
    rw [List.length_cons]
    omega
theorem nodup_sub {us xs : List (Int × Int)} (nd : us.Nodup) (h : ∀ u ∈ us, u ∈ xs) : us.length ≤ xs.length := sub_lenD nd h
theorem no_lst {K : PySem.W.Frag} {H : Hp} {CY y n : Addr} {us : List (Int × Int)} {rs : List (List Int)} (o : OwnN K CY) (ny : PySem.W.kitOne K (.ref CY) (.type "list") = some false) (h : ∃ dx fs, H y = some (.ins CY dx fs)) (c : Cls K CY) : NoLst K H (.ref y) := by
  obtain ⟨dx, fs, e⟩ := h
  exact ⟨_, .base (TyOf.ins e c o.ha o.hn o.htk o.hm), ny⟩
section
variable {P : Program} {w : World} {K : PySem.W.Frag} {mg : Str → Option Value} {base : Heap} {CB CY CF fIB fIY fIF fDr fBe fBo : Addr}
theorem scRead : FnScope NRead ["text"] (defScope sRead) := ⟨rfl, rfl, rfl, by decide +kernel, rfl, by decide +kernel, by decide +kernel⟩
theorem ok_read {f : Addr} {fd fdD fdB fdN fdY fdF fdIB : FuncData} (F : Fun K "read_floor" "read_floor" sRead f fd) (T : TRd K mg CB CY CF fIB fDr fBe fBo)
    (GD : FnOk P w K mg base (L2.CX P w) 3 fDr fdD ["text"] (spOr spDrawn (spDrawnX CB))) (FD : Fun K "drawn" "drawn" sDrawn fDr fdD) (bD : Binds K fdD ["text"] [])
    (GN : FnOk P w K mg base CX0 1 fBe fdN ["places"] (spBeside K)) (FN : Fun K "pairs_beside" "pairs_beside" sBeside fBe fdN) (bN : Binds K fdN ["places"] [])
    (GB : FnOk P w K mg base CX0 1 fBo fdB ["pairs"] (spBoth K)) (FB : Fun K "both_ways" "both_ways" sBoth fBo fdB) (bB : Binds K fdB ["pairs"] [])
    (MY : Mk K CY fIY) (GY : FnOk P w K mg base CX0 5 fIY fdY ["self", "places", "ties", "rings"] (spYInit K)) (bY : Binds K fdY ["self", "places", "ties", "rings"] [])
    (MF : Mk K CF fIF) (GF : FnOk P w K mg base CX0 2 fIF fdF ["self", "spots", "yard", "stand"] (spFInit K)) (bF : Binds K fdF ["self", "spots", "yard", "stand"] [])
    (GIB : FnOk P w K mg base CX0 1 fIB fdIB ["self", "line", "column"] (spX2 CB "line" "column")) (bIB : Binds K fdIB ["self", "line", "column"] []) :
    FnOk P w K mg base (L2.CX P w) 7 f fd ["text"] (spOr (spRead K CF CY) (spReadX K CB)) := by
  refine F.okX scRead (fun vs H Q E h => ?_) (fun cdv A outer s H vs Q E hr h => ?_)
  · rcases h with ⟨ls, ps, rfl, _⟩ | ⟨v, rfl, _⟩
    · rfl
    · rfl
  · have hu := hu_of hr
    have hr1 : Room 1 _ := hr.mono (by decide)
    have hr2 : Room 2 _ := hr.mono (by decide)
    have hr3 : Room 3 _ := hr.mono (by decide)
    refine ⟨_, pss_cons (ps_if (pt_not (pt_val (pe_callB call_isi (by rfl) T.i.isi (by decide +kernel) (pa_cons (pv 0) (pa_cons (pbT (n := "str") T.str (by decide +kernel)) pa_nil)))))
        (pss_one (ps_raise rfl (takes_of rfl rfl rfl rfl) (pmk_oex T.xB.xc.o T.xB.i T.xB.t GIB hr2 bIB .nil pass0 (by rfl) T.xB.g (pa_cons pe_int (pa_cons pe_int pa_nil))))) pss_nil)
      (pss_cons (ps_set (i := 1) scRead.nd rfl (Or.inl rfl) (pe_call GD hr3 (by rfl) T.gDr FD.kp bD .nil (passes_call (takes_of rfl rfl rfl rfl) fun _ _ _ _ h => h) (pa_cons (pv 0) pa_nil)))
      (pss_cons (ps_if (pt_not (pt_truthR (pv 1) tru_dT (by intro _; rfl)))
        (pss_one (ps_raise rfl (takes_of rfl rfl rfl rfl) (pmk_oex T.xB.xc.o T.xB.i T.xB.t GIB hr2 bIB .nil pass0 (by rfl) T.xB.g (pa_cons pe_int (pa_cons pe_int pa_nil))))) pss_nil)
      (pss_cons (ps_lock (ps_setDcT (own := [("number", 4), ("spot", 5)]) (i := 2) (g := gTup K 2 (gCons (gName 4) (gCons (gName 5) gNil))) (tt := tYes) hu rfl scRead.nd rfl rfl (sw_dict rfl rfl rfl (by decide +kernel)) (pi_enumK (by rfl) T.enum (pv 1)) (blkOk_by (N := NRead) (sc := defScope sRead) (by decide +kernel))
          (fun _ _ _ _ _ => pgT (K := K) (n := 2) rfl rfl (pgs_cons (pg_name (i := 4) scRead.nd rfl (Or.inl rfl)) (pgs_cons (pg_name (i := 5) scRead.nd rfl (Or.inl rfl)) pgs_nil)) rfl rfl) (fun _ _ _ _ _ => pts_nil) (fun _ _ _ _ _ => pv 5) (fun _ _ _ _ _ => pv 4)))
      (pss_cons (ps_set (i := 3) scRead.nd rfl (Or.inl rfl) (pe_make MY GY hr (by rfl) T.gY bY .nil pass0 (pa_cons (pe_callB call_lenT (by rfl) T.len PySem.boot_len (pa_cons (pv 1) pa_nil))
          (pa_cons (pe_call GB hr1 (by rfl) T.gBo FB.kp bB .nil pass0 (pa_cons (pe_call GN hr1 (by rfl) T.gBe FN.kp bN .nil pass0 (pa_cons (pv 2) pa_nil)) pa_nil)) (pa_cons (pe_tup pa_nil) pa_nil)))))
      (pss_one (ps_ret (pe_make MF GF hr3 (by rfl) T.gF bF .nil pass0 (pa_cons (pe_callTy (call_list_dT rfl) (by rfl) T.i.list (by decide +kernel) (pa_cons (pv 1) pa_nil)) (pa_cons (pv 3) (pa_cons (pe_listV rfl (by rfl) T.i.list (pv 1)) pa_nil)))))))))), ?_⟩
    rcases h with ⟨ls, ps, rfl, ne, l60, hls, lj, fnd, pne, p15, k⟩ | ⟨v, rfl, k⟩
    · refine ⟨_, rfl, _, _, _, _, true, rfl, ClsV.ty _, .base (TyOf.str _), kit_ty (by decide +kernel), _, rfl, iteF' rfl ?_⟩
      refine ⟨_, rfl, .inl ⟨ls, rfl, ne, l60, hls, lj, fun d kvs H1 nd ed hk s1 => ?_⟩⟩
      rw [fnd] at hk
      have asc : AscK ps := by rw [← fnd]; exact foundF_asc _ _
      refine gset_go (σ' := [some (.str (strL (joinL 10 ls))), some (.ref d), none, none, none, none]) rfl ?_
      dsimp only
      have lk : kvs.length = ps.length := by
        have := Paired.length hk
        rwa [List.length_map] at this
      have pl : 0 < ps.length := List.length_pos_iff.mpr pne
      refine ⟨_, rfl, d, kvs, rfl, ed, ?_⟩
      rw [decide_eq_true (show kvs.length ≠ 0 by omega)]
      refine iteF' rfl ?_
      -- places
      refine ⟨d, .dT kvs, ed, trivial, fun od => ?_⟩
      refine ⟨_, rfl, d, od, kvs, rfl, upd_same, fun D nD => ?_⟩
      have nDd : D ≠ d := fun z => by rw [z, upd_same] at nD; cases nD
      have nD1 : H1 D = none := by rw [upd_ne nDd] at nD; exact nD
      have b0 : But1' d H1 (upd H1 d (.frz od (.dT kvs))) := fun b o n e => by rw [upd_ne n]; exact e
      refine dcT_it walk_enumK (fun i H' => ∃ kv2, H' D = some (.dT kv2) ∧ IntKV kv2 ((numb (ps.map (·.1))).take i) ∧ H' d = some (.frz od (.dT kvs)) ∧ But1' d H1 H')
        ⟨[], upd_same, .nil, by rw [upd_ne (Ne.symm nDd)]; exact upd_same, fun b o n e => by rw [upd_ne (ne_of_none e nD1)]; exact b0 b o n e⟩ (fun i H' _ ⟨_, _, _, e, _⟩ => e) ?_ ?_
      · rintro i x H2 H2' hi ⟨kv2, eD, hk2, edz, b2⟩ ⟨T1, q, key, val, rfl, nT, hkv, hq, rfl⟩
        obtain ⟨p2, ep2, hkey, hval⟩ := par_get hk hkv
        obtain ⟨pr, epr, rfl⟩ : ∃ t, ps[i]? = some t ∧ (row2p t.1, t.2) = p2 := by
          rw [List.getElem?_map] at ep2
          cases e : ps[i]? with
          | none => rw [e] at ep2; cases ep2
          | some t => rw [e] at ep2; exact ⟨t, rfl, Option.some.inj ep2⟩
        obtain rfl : key = keyR (row2p pr.1) := hkey
        have sT := Same.new (o := .tup [V.int (i : Nat), .ref q]) nT
        refine ⟨T1, _, rfl, SqT.of upd_same, rfl, _, _, rfl, _, _, rfl, rfl, rfl, yes_if ?_⟩
        refine ⟨_, rfl, _, rfl, kv2, keyR (row2p pr.1), q, rfl, sT _ _ hq, sT _ _ eD, ?_, _, upd_same, ?_, ?_, fun b o n e => ?_⟩
        · have := Paired.length hk2
          rw [List.length_map, List.length_take, numb_len, List.length_map] at this
          exact Nat.lt_of_le_of_lt (by omega : kv2.length ≤ 15) (by decide)
        · have e1 : (ps.map (·.1))[i]? = some pr.1 := by rw [List.getElem?_map, epr]; rfl
          unfold IntKV
          rw [take_next (numb_get e1), List.map_append]
          refine KVs.snoc (F := fun v z => v = V.int z) (show KVs _ kv2 _ from hk2) ?_ rfl
          rw [List.map_map]
          intro hm
          obtain ⟨pz, hpz, e⟩ := List.mem_map.mp hm
          have e := row2p_inj e
          obtain ⟨j, hj⟩ := List.mem_iff_getElem?.mp hpz
          rw [List.getElem?_take] at hj
          split at hj
          · rename_i lt
            have h1 : (ps.map (·.1))[j]? = some pr.1 := by
              have : ((numb (ps.map (·.1))).map (·.1))[j]? = some pr.1 := by rw [List.getElem?_map, hj]; exact congrArg some e
              rwa [numb_keys] at this
            obtain ⟨a1, g1⟩ := List.getElem?_eq_some_iff.mp h1
            obtain ⟨a2, g2⟩ := List.getElem?_eq_some_iff.mp e1
            exact List.pairwise_iff_getElem.mp asc.nd j i a1 a2 lt (by rw [g1, g2])
          · cases hj
        · rw [upd_ne (Ne.symm nDd)]
          exact sT _ _ edz
        · rw [upd_ne (ne_of_none e nD1)]
          exact sT _ _ (b2 b o n e)
      · rintro H2 ⟨kv2, eD, hk2, edz, b2⟩
        rw [show kvs.length = (numb (ps.map (·.1))).length by rw [numb_len, List.length_map]; exact lk, List.take_length] at hk2
        refine gset_go (σ' := [some (.str (strL (joinL 10 ls))), some (.ref d), some (.ref D), none, none, none]) rfl ?_
        dsimp only
        refine ⟨edz, ?_⟩
        have sU : Same H1 (upd H2 d (.dT kvs)) := fun b o e => by
          by_cases c : b = d
          · rw [c, ed] at e
            rw [c, upd_same]
            exact e
          · rw [upd_ne c]
            exact b2 b o c e
        have edU : (upd H2 d (.dT kvs)) d = some (.dT kvs) := upd_same
        have eDU : (upd H2 d (.dT kvs)) D = some (.dT kv2) := by rw [upd_ne nDd]; exact eD
        generalize upd H2 d (.dT kvs) = H3 at sU edU eDU ⊢
        refine ⟨_, rfl, d, kvs, rfl, edU, ?_⟩
        -- ties
        refine ⟨_, rfl, D, kv2, numb (ps.map (·.1)), rfl, eDU, hk2, by rw [numb_keys]; exact asc.nd, by rw [numb_len, List.length_map]; omega, fun l ys H4 el py s4 => ?_⟩
        have hb30 : (besideF (numb (ps.map (·.1)))).length ≤ 30 := by
          have := beside_len (numb (ps.map (·.1)))
          rw [numb_len, List.length_map] at this
          omega
        have tok : ∀ t ∈ dbl (besideF (numb (ps.map (·.1)))), TieOk ps.length t := fun t ht => by
          have := both_ok asc.nd ht
          rwa [List.length_map] at this
        refine ⟨l, ys, besideF (numb (ps.map (·.1))), rfl, .inl (SqL.of el), par_row py, fun t ht => ?_, by omega, fun t zs us H5 ht5 pt5 ascu s5 => ?_⟩
        · obtain ⟨a0, a1, b0, b1, _⟩ := tok t (mem_dbl.mpr (.inl ht))
          exact ⟨a0, by omega, b0, by omega⟩
        refine ⟨(by show 0 ≤ sizeLine; decide), fun te nte => ?_⟩
        have s6 := Same.new (o := .tup ([] : List V)) nte
        have e6 : (upd H5 te (.tup ([] : List V))) te = some (.tup []) := upd_same
        have ht6 := Same.seqT s6 ht5
        have pt6 := ties_kp pt5 (.of_same s6)
        have s36 := (s4.trans s5).trans s6
        generalize upd H5 te (.tup ([] : List V)) = H6 at s6 e6 ht6 pt6 s36 ⊢
        intro y dy ny ndy ney
        have ulen : us.length ≤ 60 := by
          have h1 := nodup_sub ascu.nd (fun u hu => (ascu.mem u).mp hu)
          rw [dbl_len] at h1
          omega
        have sI : Same H6 (upd (upd H6 dy (.own y)) y (.ins CY dy [])) := (Same.new ndy).trans (Same.new (by rw [upd_ne (Ne.symm ney)]; exact ny))
        have row6 := Same.seqT sI ht6
        have prow6 := par_row (ties_kp pt6 (.of_same sI))
        have se6 := Same.seqT sI (SqT.of (K := K) e6)
        refine ⟨y, CY, dy, t, te, ps.length, zs, [], us, us, [], by rw [lk]; rfl, T.yc, upd_same, by omega, by omega, .inr row6, prow6, .refl _, ⟨ascu.nd, fun u hu => tok u ((ascu.mem u).mp hu), ascu.asc⟩, ulen, .inr se6, .nil, (fun r hr => by cases hr), Nat.zero_le _, fun H7 yo keep => ⟨rfl, ?_⟩⟩
        have s67 : Same H6 H7 := fun b' o e' => keep b' o (ne_of_none e' ny) (sI b' o e')
        have s37 := s36.trans s67
        refine gset_go (σ' := [some (.str (strL (joinL 10 ls))), some (.ref d), some (.ref D), some (.ref y), none, none]) rfl ?_
        dsimp only
        have ed7 := s37 _ _ edU
        -- the floor
        refine ⟨_, rfl, d, kvs, rfl, .inl ed7, fun p bs np kz => ?_⟩
        have s8 := Same.new (o := .lst (bs.map V.ref)) np
        have e8 : (upd H7 p (.lst (bs.map V.ref))) p = some (.lst (bs.map V.ref)) := upd_same
        have pk := intKV_keys hk kz
        have s38 := s37.trans s8
        have ed8 := s8 _ _ ed7
        have yo8 := yo.kp (.of_same s8)
        have pk8 : Paired (TieAt K (upd H7 p (.lst (bs.map V.ref)))) (bs.map V.ref) (ps.map (·.1)) := Paired.mono (fun v t h => by
          obtain ⟨b, rfl, hb⟩ := h
          exact ⟨b, rfl, SqT.of (s8 _ _ hb)⟩) pk
        generalize upd H7 p (.lst (bs.map V.ref)) = H8 at s8 e8 s38 ed8 yo8 pk8 ⊢
        refine ⟨_, rfl, _, rfl, d, kvs, rfl, .inl ed8, fun q nq => ?_⟩
        have s9 := Same.new (o := .lst (kvs.map (·.2))) nq
        have e9 : (upd H8 q (.lst (kvs.map (·.2)))) q = some (.lst (kvs.map (·.2))) := upd_same
        rw [intKV_vals hk] at s9 e9 ⊢
        have s39 := s38.trans s9
        have e89 := s9 _ _ e8
        have yo9 := yo8.kp (.of_same s9)
        have pk9 := ties_kp pk8 (.of_same s9)
        generalize upd H8 q (.lst ((ps.map (·.2)).map V.int)) = H9 at s9 e9 s39 e89 yo9 pk9 ⊢
        intro x dx nx ndx nex
        have sJ : Same H9 (upd (upd H9 dx (.own x)) x (.ins CF dx [])) := (Same.new ndx).trans (Same.new (by rw [upd_ne (Ne.symm nex)]; exact nx))
        refine ⟨x, CF, dx, p, y, q, bs.map V.ref, (ps.map (·.2)).map V.int, rfl, T.fc, upd_same, SqL.of (sJ _ _ e89), fun H' keep => ?_, SqL.of (sJ _ _ e9), fun t' u' H' fl ht' hu' keep => ⟨rfl, ?_⟩⟩
        · obtain ⟨dx', _, _, fs', _, _, hy9, _⟩ := id yo9
          exact no_lst (n := 0) (us := []) (rs := []) T.oy T.ny ⟨dx', fs', keep _ _ (ne_of_none hy9 nx) (sJ _ _ hy9)⟩ T.yc.c
        · have sL : Same H9 H' := fun b' o e' => keep b' o (ne_of_none e' nx) (sJ b' o e')
          exact k x y t' u' _ us H' fl ht' (ties_kp pk9 (.of_same sL)) hu' (yo9.kp (.of_same sL)) ascu (((s1.trans sU).trans s39).trans sL)
    · rcases k with ⟨d, t, hd, hn, kt, _, k⟩ | ⟨ls, bi, bj, e, k⟩ | ⟨ls, rfl, ne, l60, hls, lj, fnd, k⟩
      · refine ⟨_, rfl, _, _, _, _, false, rfl, ClsV.ty _, dq_ty hd, kt, _, rfl, iteT' rfl ?_⟩
        exact mk2 fun dd H' s _ e => k dd H' s e
      · obtain rfl : v = .str (strL (joinL 10 ls)) := by injection e
        refine ⟨_, rfl, _, _, _, _, true, rfl, ClsV.ty _, .base (TyOf.str _), kit_ty (by decide +kernel), _, rfl, iteF' rfl ?_⟩
        exact ⟨_, rfl, .inr ⟨ls, bi, bj, rfl, k⟩⟩
      · refine ⟨_, rfl, _, _, _, _, true, rfl, ClsV.ty _, .base (TyOf.str _), kit_ty (by decide +kernel), _, rfl, iteF' rfl ?_⟩
        refine ⟨_, rfl, .inl ⟨ls, rfl, ne, l60, hls, lj, fun d kvs H1 nd ed hk s1 => ?_⟩⟩
        rw [fnd] at hk
        have lk : kvs.length = 0 := by
          have := Paired.length hk
          rwa [List.length_map] at this
        refine gset_go (σ' := [some (.str (strL (joinL 10 ls))), some (.ref d), none, none, none, none]) rfl ?_
        dsimp only
        refine ⟨_, rfl, d, kvs, rfl, ed, ?_⟩
        rw [decide_eq_false (show ¬ kvs.length ≠ 0 by omega)]
        refine iteT' rfl ?_
        exact mk2 fun dd H' s _ e => k dd H' (s1.trans s) e
end
end Y
set_option Elab.async false
set_option linter.all false
set_option maxRecDepth 100000
set_option maxHeartbeats 4000000
namespace Y
open PySem L2
abbrev sTaken : Stmt := top 999
/-! ### rows that are no stands, no filled rows; moves that are none -/
def spPlB (K : PySem.W.Frag) (CR : Addr) : Sp := fun vs H Q E => ∃ (x : Addr) (y l : V) (n : Nat) (ts : List (Int × Int)) (rs : List (List Int)) (d : PyData), vs = [.ref x, y, l] ∧ YObj K H x n ts rs ∧ Dq K H d y ∧ shortD d ∧ isStB n d = false ∧ RaisedF CR [("row", y)] H E
def spMAX (K : PySem.W.Frag) (CR : Addr) : Sp := fun vs H Q E => ∃ (x : Addr) (y : V) (n : Nat) (ts : List (Int × Int)) (rs : List (List Int)) (d : PyData), vs = [.ref x, y] ∧ YObj K H x n ts rs ∧ Dq K H d y ∧ short63 d ∧ filB n d = false ∧ RaisedF CR [("row", y)] H E
def spLedX (K : PySem.W.Frag) (CR CM : Addr) : Sp := fun vs H Q E => ∃ (x : Addr) (y l : V) (n : Nat) (ts : List (Int × Int)) (rs : List (List Int)) (d : PyData), vs = [.ref x, y, l] ∧ YObj K H x n ts rs ∧ Dq K H d y ∧ short63 d ∧
  ((filB n d = false ∧ RaisedF CR [("row", y)] H E) ∨
    (d = .tuple [] ∧ ∃ (la : Addr) (ds : List PyData) (i : Nat), l = .ref la ∧ DRow K H la ds ∧ n ≤ 60 ∧ (∀ r ∈ rs, RingOk n r) ∧ (∀ t ∈ ts, TieOk n t) ∧ runD ts rs 0 (List.replicate n 0) ds = .inl i ∧ ∀ H', Same H H' → RaisedI CM i H' E))
def spTkX (K : PySem.W.Frag) (CM : Addr) : Sp := fun vs H Q E => ∃ (x l : Addr) (n : Nat) (ts : List (Int × Int)) (rs : List (List Int)) (ms : List Mv) (d0 : PyData) (rest : List PyData), vs = [.ref x, .ref l] ∧ YObj K H x n ts rs ∧ DRow K H l (ms.map mvD ++ d0 :: rest) ∧ (∀ m ∈ ms, MvIn ts rs m) ∧ ¬ IsMv ts rs d0 ∧
  ∀ H', Same H H' → RaisedI CM ms.length H' E
section
variable {P : Program} {w : World} {K : PySem.W.Frag} {mg : Str → Option Value} {base : Heap} {fInt fRow fIsS fMove fCan fBeh fAll fCnt fUn fFil CR CM fIR fI : Addr}
theorem ok_plB {f : Addr} {fd fdS fdIR : FuncData} (F : Fun K "played" "played" sPlayed f fd) (T : TPl K mg fInt fRow fIsS fMove fCan fBeh fAll fCnt) (GS : FnOk P w K mg base CX0 3 fIsS fdS ["yard", "value"] (spStRowD K)) (FS : Fun K "is_stand_row" "is_stand_row" sIsStand fIsS fdS) (bS : Binds K fdS ["yard", "value"] [])
    (XR : XE1 K mg "BadRow" "row" CR fIR) (GIR : FnOk P w K mg base CX0 1 fIR fdIR ["self", "row"] (spX1 CR "row")) (bIR : Binds K fdIR ["self", "row"] []) :
    FnOk P w K mg base (L2.CX P w) 4 f fd ["yard", "stand", "moves"] (spPlB K CR) := by
  refine F.okX scPlayed (fun vs H Q E h => ?_) (fun cdv A outer s H vs Q E hr h => ?_)
  · obtain ⟨x, y, l, n, ts, rs, d, rfl, _⟩ := h
    rfl
  · obtain ⟨x, y, l, n, ts, rs, d, rfl, hy, hd, sh, hb, k⟩ := h
    have hr2 : Room 2 _ := hr.mono (by decide)
    refine ⟨_, pss_cons (ps_if (pt_not (pt_val (pe_call GS hr (by rfl) T.gIsS FS.kp bS .nil pass0 (pa_cons (pv 0) (pa_cons (pv 1) pa_nil))))) (pss_one (ps_raise rfl (takes_of rfl rfl rfl rfl) (pmk_oex XR.xc.o XR.i XR.t GIR hr2 bIR .nil pass0 (by rfl) XR.g (pa_cons (pv 1) pa_nil)))) pss_nil)
      (pss_one ps_never), ?_⟩
    refine ⟨_, rfl, _, rfl, x, y, n, ts, rs, d, rfl, hy, hd, sh, fun H1 s1 => ⟨_, rfl, ?_⟩⟩
    rw [hb]
    exact iteT ⟨_, rfl, mkF1 (k.same s1)⟩
end
end Y
set_option Elab.async false
set_option linter.all false
set_option maxRecDepth 100000
set_option maxHeartbeats 4000000
namespace Y
open PySem L2
/-! ### rows of data: whether there is a sign for each -/
abbrev sDraw2 : Stmt := top 34
abbrev sReel : Stmt := top 35
def drwD : PyData → Bool
  | .int z => drw z
  | _ => false
def drwV2 : V → V
  | .int z => .bl (drw z)
  | _ => .bl false
theorem drw_dv {K : PySem.W.Frag} {H : Hp} {d : PyData} {v : V} (h : Dq K H d v) : drwV2 v = .bl (drwD d) := by cases h <;> rfl
theorem drw_dvs {K : PySem.W.Frag} {H : Hp} {ds : List PyData} {vs : List V} (h : Dqs K H ds vs) : vs.map drwV2 = (ds.map drwD).map V.bl := by
  induction h using Dqs.rec (motive_1 := fun _ _ _ => True) with
  | nil => rfl
  | cons a _ _ ih => rw [List.map_cons, List.map_cons, List.map_cons, ih, drw_dv a]
  | _ => trivial
def spAreDD (K : PySem.W.Frag) : Sp := fun vs H Q _ => ∃ (y : V) (d : PyData) (es : List PyData), vs = [y] ∧ Dq K H d y ∧ rowOf d = some es ∧ es.length ≤ 1000 ∧ ∀ H', Same H H' → Q (.bl (es.all drwD)) H'
/-- what draw refuses -/
def BadS (n : Nat) (d : PyData) : Prop := rowOf d = none ∨ ∃ es, rowOf d = some es ∧ es.length ≤ 1000 ∧ (es.length ≠ n ∨ es.all drwD = false)
def spDrawF (K : PySem.W.Frag) (CR : Addr) : Sp := fun vs H Q E => ∃ (a : Addr) (y : V) (xs : List V) (d : PyData), vs = [.ref a, y] ∧ SqA K H a xs ∧ Dq K H d y ∧
  ((BadS xs.length d ∧ RaisedF CR [("row", y)] H E) ∨ ∃ st : List Int, rowOf d = some (st.map PyData.int) ∧ st.length = xs.length ∧ st.length ≤ 60 ∧ (∀ z ∈ st, 0 ≤ z ∧ z < 36) ∧ ∀ H', Same H H' → spPic K vs H' (fun v H2 => Same H' H2 → Q v H2) (fun _ _ _ => False))
structure TDw (mg : Str → Option Value) (fInt fRow fCnt fPic fAreD : Addr) : Prop where
  i : TI0 mg
  len : mg "len" = none
  all : mg "all" = none
  gInt : mg "is_integer" = some (.ref fInt)
  gRow : mg "is_row" = some (.ref fRow)
  gCnt : mg "is_count" = some (.ref fCnt)
  gPic : mg "picture" = some (.ref fPic)
  gAre : mg "are_drawable" = some (.ref fAreD)
section
variable {P : Program} {w : World} {K : PySem.W.Frag} {mg : Str → Option Value} {base : Heap} {fInt fRow fCnt fPic fAreD CR fIR : Addr}
theorem ok_areDD {f : Addr} {fd fdI fdC : FuncData} {tw ts : Tok} (F : Fun K "are_drawable" "are_drawable" sAreD f fd) (T : TPic mg tw ts) (D : TDw mg fInt fRow fCnt fPic fAreD)
    (FI : Fun K "is_integer" "is_integer" sIsInt fInt fdI) (bI : Binds K fdI ["value"] []) (FC : Fun K "is_count" "is_count" sIsCount fCnt fdC) (bC : Binds K fdC ["value"] []) : FnOk P w K mg base CX0 3 f fd ["things"] (spAreDD K) := by
  have GC : FnOk P w K mg base CX0 2 fCnt fdC ["value"] (spIsCountD K) := ok_isCountD FC D.i D.gInt FI bI
  refine F.ok scAreD (fun vs H Q E h => ?_) (fun cdv A outer s H vs Q E hr h => ?_)
  · obtain ⟨y, d, es, rfl, _⟩ := h
    rfl
  · obtain ⟨y, d, es, rfl, hd, hro, l1000, k⟩ := h
    refine ⟨_, pss_one (ps_ret (pe_callB (cr_all rfl) (by rfl) D.all (by decide +kernel) (pa_cons (pe_lc (own := [("thing", 1)]) (g := gName 1) (tt := tYes) rfl scAreD.nd (pi_seqV (pv 0)) (blkOk_by (N := NAreD) (sc := defScope sAreD) (by decide +kernel))
          (fun _ _ _ _ _ => pg_name (i := 1) scAreD.nd rfl (Or.inl rfl)) (fun _ _ _ _ _ => pts_nil) (fun _ _ _ _ _ => pe_and (pe_call GC hr (by rfl) D.gCnt FC.kp bC .nil pass0 (pa_cons (pv 1) pa_nil)) (pe_one (pe_cmpR op_lt (pv 1) (pe_callB call_len_str (by rfl) D.len PySem.boot_len (pa_cons (pgS T.signs) pa_nil)) (nomark _))))) pa_nil))), ?_⟩
    obtain ⟨b, xs, rfl, hb, hes⟩ := row_of2 hd hro
    have lx : xs.length = es.length := dqs_len hes
    refine ⟨b, xs, H, rfl, hb, .refl H, fun J G w1 hG D hD => ?_⟩
    refine lcp_it (f := drwV2) (H1 := H) w1 hD (by omega) (fun H' s' => hG H' s') (fun i x0 H2 R hx s2 hR => ?_) ?_
    · obtain ⟨e, ee, he⟩ := dqs_get hes hx
      rw [drw_dv he] at hR
      refine ⟨rfl, _, rfl, _, e, rfl, Dq.kp s2 he, _, rfl, ?_⟩
      cases he with
      | int z =>
        by_cases z0 : 0 ≤ z
        · refine iteT' (decide_eq_true z0) ?_
          refine ⟨_, rfl, _, rfl, by decide, _, _, rfl, rfl, ?_⟩
          have hR : R (.bl (drw z)) H2 := hR
          rw [drw, decide_eq_true z0, Bool.true_and] at hR
          exact hR
        · refine iteF' (decide_eq_false z0) ?_
          have hR : R (.bl (drw z)) H2 := hR
          rw [drw, decide_eq_false z0, Bool.false_and] at hR
          exact hR
      | _ => exact iteF' rfl hR
    · have s2 := Same.new (H := H) (o := .lst (xs.map drwV2)) hD
      rw [drw_dvs hes] at s2 ⊢
      refine ⟨D, es.map drwD, rfl, SqL.of upd_same, ?_⟩
      rw [show ((es.map drwD).all id) = es.all drwD by rw [List.all_map]; rfl]
      exact k _ s2
theorem scDraw2 : FnScope ["spots", "stand"] ["spots", "stand"] (defScope sDraw2) := ⟨rfl, rfl, rfl, by decide +kernel, rfl, by decide +kernel, by decide +kernel⟩
theorem ok_drawF {f : Addr} {fd fdR fdA fdP fdIR : FuncData} (F : Fun K "draw" "draw" sDraw2 f fd) (D : TDw mg fInt fRow fCnt fPic fAreD) (FR : Fun K "is_row" "is_row" sIsRow fRow fdR) (bR : Binds K fdR ["value"] [])
    (GA : FnOk P w K mg base CX0 3 fAreD fdA ["things"] (spAreDD K)) (FA : Fun K "are_drawable" "are_drawable" sAreD fAreD fdA) (bA : Binds K fdA ["things"] [])
    (GP : FnOk P w K mg base CX0 1 fPic fdP ["spots", "stand"] (spPic K)) (FP : Fun K "picture" "picture" sPic fPic fdP) (bP : Binds K fdP ["spots", "stand"] [])
    (XR : XE1 K mg "BadRow" "row" CR fIR) (GIR : FnOk P w K mg base CX0 1 fIR fdIR ["self", "row"] (spX1 CR "row")) (bIR : Binds K fdIR ["self", "row"] []) :
    FnOk P w K mg base (L2.CX P w) 4 f fd ["spots", "stand"] (spDrawF K CR) := by
  have GR : FnOk P w K mg base CX0 1 fRow fdR ["value"] (spIsRowD K) := ok_isRowD FR D.i
  refine F.okX scDraw2 (fun vs H Q E h => ?_) (fun cdv A outer s H vs Q E hr h => ?_)
  · obtain ⟨a, y, xs, d, rfl, _⟩ := h
    rfl
  · obtain ⟨a, y, xs, d, rfl, ha, hd, k⟩ := h
    have hr1 : Room 1 _ := hr.mono (by decide)
    have hr2 : Room 2 _ := hr.mono (by decide)
    refine ⟨_, pss_cons (ps_if (PW.pt (pw_or (pt_not (pt_val (pe_call GR hr1 (by rfl) D.gRow FR.kp bR .nil pass0 (pa_cons (pv 1) pa_nil))))
        (pw_or (pt_cmpR op_ne (pe_callB call_len_seq (by rfl) D.len PySem.boot_len (pa_cons (pv 1) pa_nil)) (pe_callB call_len_seq (by rfl) D.len PySem.boot_len (pa_cons (pv 0) pa_nil)) (nomark _))
        (pw_or1 (pt_not (pt_val (pe_call GA hr (by rfl) D.gAre FA.kp bA .nil pass0 (pa_cons (pv 1) pa_nil))))))))
      (pss_one (ps_raise rfl (takes_of rfl rfl rfl rfl) (pmk_oex XR.xc.o XR.i XR.t GIR hr2 bIR .nil pass0 (by rfl) XR.g (pa_cons (pv 1) pa_nil)))) pss_nil)
      (pss_one (ps_ret (pe_call GP hr1 (by rfl) D.gPic FP.kp bP .nil pass0 (pa_cons (pv 0) (pa_cons (pv 1) pa_nil))))), ?_⟩
    refine ⟨_, rfl, _, d, rfl, hd, fun H1 s1 => ⟨_, rfl, ?_⟩⟩
    rcases k with ⟨hb | ⟨es, hro, l1000, hb⟩, k⟩ | ⟨st, hro, ls, l60, hst, k⟩
    · rw [row_none hb]
      exact iteT ⟨_, rfl, mkF1 (k.same s1)⟩
    · rw [row_some hro]
      refine iteF ?_
      obtain ⟨b, zs, rfl, hz, hes⟩ := row_of2 hd hro
      have lz := dqs_len hes
      refine ⟨_, rfl, b, _, rfl, Same.seqA s1 hz, _, rfl, a, _, rfl, Same.seqA s1 ha, rfl, _, rfl, ?_⟩
      by_cases c : es.length = xs.length
      · refine iteF' (by rw [lz, c, decide_eq_true rfl]; rfl) ?_
        refine ⟨_, rfl, _, d, es, rfl, Dq.kp s1 hd, hro, l1000, fun H2 s2 => ⟨_, rfl, ?_⟩⟩
        rw [hb.resolve_left fun z => z c]
        exact iteT ⟨_, rfl, mkF1 (k.same (s1.trans s2))⟩
      · refine iteT' (by rw [lz, decide_eq_false fun z => c (by injection z with z; exact_mod_cast z)]; rfl) ?_
        exact ⟨_, rfl, mkF1 (k.same s1)⟩
    · rw [row_some hro]
      refine iteF ?_
      obtain ⟨b, zs, rfl, hz, hes⟩ := row_of2 hd hro
      have lz := dqs_len hes
      rw [List.length_map] at lz
      refine ⟨_, rfl, b, _, rfl, Same.seqA s1 hz, _, rfl, a, _, rfl, Same.seqA s1 ha, rfl, _, rfl, ?_⟩
      refine iteF' (by rw [lz, ls, decide_eq_true rfl]; rfl) ?_
      refine ⟨_, rfl, _, d, _, rfl, Dq.kp s1 hd, hro, by rw [List.length_map]; omega, fun H2 s2 => ⟨_, rfl, ?_⟩⟩
      have hall : (st.map PyData.int).all drwD = true := by
        rw [List.all_eq_true]
        intro x hx
        obtain ⟨z, hz, rfl⟩ := List.mem_map.mp hx
        obtain ⟨h0, h1⟩ := hst z hz
        show (decide (0 ≤ z) && decide (z < 36)) = true
        rw [decide_eq_true h0, decide_eq_true h1]
        rfl
      rw [hall]
      refine iteF ?_
      obtain ⟨a', b', xs', sp, st', h, w', e, q⟩ := k H2 (s1.trans s2)
      injection e with e1 e2
      injection e2 with e2 _
      injection e1 with e1
      injection e2 with e2
      subst e1 e2
      obtain ⟨q1, q2, q3, q4, q5, q6, q7, q8, q9, q10, q11, q12, kk⟩ := q
      exact ⟨_, rfl, _, rfl, a, b, xs', sp, st', h, w', rfl, q1, q2, q3, q4, q5, q6, q7, q8, q9, q10, q11, q12, fun H' s' => kk H' s' s'⟩
end
end Y
set_option Elab.async false
set_option linter.all false
set_option maxRecDepth 100000
set_option maxHeartbeats 4000000
namespace Y
open PySem L2
/-! ### a reel -/
abbrev NReel : List Str := ["floor", "stand", "moves", "now", "pictures", "move"]
def Rng36 (st : List Int) : Prop := ∀ z ∈ st, 0 ≤ z ∧ z < 36
theorem step_rng {n : Nat} {ts : List (Int × Int)} {st : List Int} {m : Mv} (c : CanMv n ts [] st m) (h : Rng36 st) : Rng36 (stepMv [] st m) := by
  cases m with
  | slide a b =>
    intro z hz
    have hz : z ∈ (st.set a.toNat 0).set b.toNat (gAt st a) := hz
    rcases List.mem_or_eq_of_mem_set hz with hz | rfl
    · rcases List.mem_or_eq_of_mem_set hz with hz | rfl
      · exact h z hz
      · exact ⟨by decide, by decide⟩
    · unfold gAt
      rw [List.getD_eq_getElem?_getD]
      cases e : st[a.toNat]? with
      | none => exact ⟨by decide, by decide⟩
      | some z => exact h z (List.mem_of_getElem? e)
  | turn k => exact absurd c.2 (by show ¬ k < ((0 : Nat) : Int); have := c.1; omega)
theorem play_rng {n : Nat} {ts : List (Int × Int)} : ∀ {ms : List Mv} {st : List Int}, CanAll n ts [] st ms → Rng36 st → Rng36 (playMvs [] st ms)
  | [], _, _, h => h
  | m :: ms, st, c, h => play_rng (ms := ms) c.2 (step_rng c.1 h)
theorem can_take {n : Nat} {ts : List (Int × Int)} : ∀ {ms : List Mv} {st : List Int} (i : Nat), CanAll n ts [] st ms → CanAll n ts [] st (ms.take i)
  | [], _, 0, h => h
  | [], _, i + 1, h => h
  | m :: ms, _, 0, _ => trivial
  | m :: ms, st, i + 1, h => ⟨h.1, can_take (ms := ms) i h.2⟩
/-- spots that can be drawn: h lines, w columns -/
structure SpOk (sp : List (Int × Int)) (h w : Nat) : Prop where
  ne : sp ≠ []
  l60 : sp.length ≤ 60
  nd : sp.Nodup
  box : ∀ p ∈ sp, 0 ≤ p.1 ∧ p.1 < h ∧ 0 ≤ p.2 ∧ p.2 < w
  mh : ∃ p ∈ sp, p.1 = (h : Int) - 1
  mw : ∃ p ∈ sp, p.2 = (w : Int) - 1
  h60 : h ≤ 60
  w60 : w ≤ 60
def picL (sp : List (Int × Int)) (h w : Nat) (st : List Int) : List Nat := textL (linesL (sp.zip st) h w)
def reelL (sp : List (Int × Int)) (h w : Nat) (st : List Int) (ms : List Mv) (m : Nat) : List (List Nat) := (List.range m).map fun i => picL sp h w (playMvs [] st (ms.take i))
theorem reel_succ {sp : List (Int × Int)} {h w : Nat} {st : List Int} {ms : List Mv} {m : Nat} : reelL sp h w st ms (m + 1) = reelL sp h w st ms m ++ [picL sp h w (playMvs [] st (ms.take m))] := by
  unfold reelL
  rw [List.range_succ, List.map_append]
  rfl
theorem reel_len {sp : List (Int × Int)} {h w : Nat} {st : List Int} {ms : List Mv} {m : Nat} : (reelL sp h w st ms m).length = m := by unfold reelL; rw [List.length_map, List.length_range]
theorem textL_len : ∀ ls : List (List Nat), (textL ls).length = (ls.map fun l => l.length + 1).sum
  | [] => rfl
  | l :: ls => by
    show ((l ++ [10]) ++ textL ls).length = (l.length + 1) + (ls.map fun l => l.length + 1).sum
    rw [List.length_append, List.length_append, textL_len ls]
    rfl
theorem pic_len {sp : List (Int × Int)} {h w : Nat} (h60 : h ≤ 60) (w60 : w ≤ 60) (st : List Int) : (picL sp h w st).length ≤ 3660 := by
  unfold picL
  rw [textL_len]
  have := sum_le (ls := (linesL (sp.zip st) h w).map fun l => l.length + 1) (m := 61) fun x hx => by
    obtain ⟨l, hl, rfl⟩ := List.mem_map.mp hx
    obtain ⟨i, _, rfl⟩ := List.mem_map.mp hl
    show (rowL (sp.zip st) i w).length + 1 ≤ 61
    unfold rowL
    rw [List.length_map, List.length_range]
    omega
  rw [List.length_map] at this
  have ll : (linesL (sp.zip st) h w).length = h := by
    unfold linesL
    rw [List.length_map, List.length_range]
  rw [ll] at this
  omega
def spReel (K : PySem.W.Frag) (CF CM : Addr) : Sp := fun vs H Q E => ∃ (x t y u s l : Addr) (n h w : Nat) (ts sp : List (Int × Int)) (st : List Int) (xs ys : List V), vs = [.ref x, .ref s, .ref l] ∧ FlAt H CF x t y u ∧ SqT K H t xs ∧ Paired (TieAt K H) xs sp ∧ YObj K H y n ts [] ∧ (∀ t ∈ ts, TieOk n t) ∧
  SqT K H s (st.map V.int) ∧ st.length = n ∧ sp.length = n ∧ Rng36 st ∧ SqT K H l ys ∧ SpOk sp h w ∧
  ((∃ ms : List Mv, MvsAt K H ys ms ∧ CanAll n ts [] st ms ∧ ms.length ≤ 10 ∧ ∀ H', Same H H' → Q (.str (strL (joinL 10 (reelL sp h w st ms (ms.length + 1))))) H') ∨
   ∃ (ms : List Mv) (d : PyData), Dqs K H (ms.map mvD ++ [d]) ys ∧ CanAll n ts [] st ms ∧ stepD ts [] (playMvs [] st ms) d = none ∧ (∀ es, d = .tuple es → es.length ≤ 100) ∧ RaisedF CM [("index", .int (ms.length : Nat))] H E)
structure TRl (mg : Str → Option Value) (fPl fBeh fPic fAreD : Addr) : Prop where
  gPl : mg "played" = some (.ref fPl)
  gBeh : mg "behind_move" = some (.ref fBeh)
  gPic : mg "picture" = some (.ref fPic)
  gAre : mg "are_drawable" = some (.ref fAreD)
section
variable {P : Program} {w : World} {K : PySem.W.Frag} {mg : Str → Option Value} {base : Heap} {fPl fBeh fPic fAreD CF CM : Addr}
theorem dqs_st {H : Hp} (st : List Int) : Dqs K H (st.map PyData.int) (st.map V.int) := by
  induction st with
  | nil => exact .nil
  | cons z st ih => exact .cons (.int z) ih
theorem scReel : FnScope NReel ["floor", "stand", "moves"] (defScope sReel) := ⟨rfl, rfl, rfl, by decide +kernel, rfl, by decide +kernel, by decide +kernel⟩
theorem ok_reel {f : Addr} {fd fdPl fdB fdA fdP : FuncData} (F : Fun K "reel" "reel" sReel f fd) (T : TRl mg fPl fBeh fPic fAreD) (fc : FCls K CF)
    (GPl : FnOk P w K mg base (L2.CX P w) 4 fPl fdPl ["yard", "stand", "moves"] (spAllX K CM)) (FPl : Fun K "played" "played" sPlayed fPl fdPl) (bPl : Binds K fdPl ["yard", "stand", "moves"] [])
    (GB : FnOk P w K mg base CX0 1 fBeh fdB ["yard", "stand", "move"] (spBehind K)) (FB : Fun K "behind_move" "behind_move" sBehind fBeh fdB) (bB : Binds K fdB ["yard", "stand", "move"] [])
    (GA : FnOk P w K mg base CX0 3 fAreD fdA ["things"] (spAreDD K)) (FA : Fun K "are_drawable" "are_drawable" sAreD fAreD fdA) (bA : Binds K fdA ["things"] [])
    (GP : FnOk P w K mg base CX0 1 fPic fdP ["spots", "stand"] (spPic K)) (FP : Fun K "picture" "picture" sPic fPic fdP) (bP : Binds K fdP ["spots", "stand"] []) :
    FnOk P w K mg base (L2.CX P w) 5 f fd ["floor", "stand", "moves"] (spReel K CF CM) := by
  refine F.okX scReel (fun vs H Q E h => ?_) (fun cdv A outer s H vs Q E hr h => ?_)
  · obtain ⟨x, t, y, u, s, l, n, h, w', ts, sp, st, xs, ys, rfl, _⟩ := h
    rfl
  · obtain ⟨x, t, y, u, s, l, n, h, w', ts, sp, st, xs, ys, rfl, ⟨dx, fs, hx, f1, f2, f3⟩, ht, px, yo, tok, hs, ls, lp, r36, hl, ok, k⟩ := h
    have hr1 : Room 1 _ := hr.mono (by decide)
    have hr3 : Room 3 _ := hr.mono (by decide)
    have n60 : n ≤ 60 := by rw [← lp]; exact ok.l60
    refine ⟨_, pss_cons (ps_expr (pe_call GPl hr (by rfl) T.gPl FPl.kp bPl .nil (passes_call (takes_of rfl rfl rfl rfl) fun _ _ _ _ h => h) (pa_cons (pe_fld (pv 0) rfl) (pa_cons (pv 1) (pa_cons (pv 2) pa_nil)))))
      (pss_cons (ps_if (pt_not (pt_val (pe_call GA hr3 (by rfl) T.gAre FA.kp bA .nil pass0 (pa_cons (pv 1) pa_nil)))) (pss_one ps_never) pss_nil)
      (pss_cons (ps_set (i := 3) scReel.nd rfl (Or.inl rfl) (pv 1))
      (pss_cons (ps_set (i := 4) scReel.nd rfl (Or.inl rfl) (pe_lst (pa_cons (pe_call GP hr1 (by rfl) T.gPic FP.kp bP .nil pass0 (pa_cons (pe_fld (pv 0) rfl) (pa_cons (pv 3) pa_nil))) pa_nil)))
      (pss_cons (ps_for (passes_of rfl) rfl (pi_tup (pv 2)) (pg_name (i := 5) scReel.nd rfl (Or.inl rfl))
        (pss_cons (ps_set (i := 3) scReel.nd rfl (Or.inl rfl) (pe_call GB hr1 (by rfl) T.gBeh FB.kp bB .nil pass0 (pa_cons (pe_fld (pv 0) rfl) (pa_cons (pv 3) (pa_cons (pv 5) pa_nil)))))
        (pss_one (ps_expr (pe_bm PySem.F.plainAttrs_list PySem.F.slot_list_append PySem.F.type_list_append mt_append (pv 4) (pa_cons (pe_call GP hr1 (by rfl) T.gPic FP.kp bP .nil pass0 (pa_cons (pe_fld (pv 0) rfl) (pa_cons (pv 3) pa_nil))) pa_nil))))))
      (pss_one (ps_ret (pe_joinK (K := K) rfl pe_str (pv 4)))))))), ?_⟩
    have sok : StOk n ts [] st := ⟨by omega, (fun r hr => by cases hr), tok, ls, fun z hz => (r36 z hz).1⟩
    refine ⟨_, rfl, x, CF, dx, fs, _, rfl, hx, fc.c, fc.y, f2, _, rfl, _, rfl, ?_⟩
    rcases k with ⟨ms, hm, can, l10, k⟩ | ⟨ms, d, hd, can, bad, small, k⟩
    · refine ⟨y, s, l, n, ts, [], st, ms.map mvD, rfl, yo, sok, .inr hs, ⟨⟨ys, .inr hl, mvs_dq hm⟩, fun d hd es e => ?_⟩, fun st' e t' H1 ht' _ s1 => ?_, fun i e => ?_⟩
      · obtain ⟨m, _, rfl⟩ := List.mem_map.mp hd
        cases m with
        | slide a b => injection e with e; rw [← e]; show 3 ≤ 100; decide
        | turn a => injection e with e; rw [← e]; show 2 ≤ 100; decide
      rotate_left
      · rw [runD_mvs can] at e
        cases e
      refine ⟨_, rfl, .ref s, .tuple (st.map PyData.int), st.map PyData.int, rfl, .tup (Same.seqT s1 hs) (dqs_st st), rfl, by rw [List.length_map]; omega, fun H2 s2 => ⟨_, rfl, ?_⟩⟩
      have hall : (st.map PyData.int).all drwD = true := by
        rw [List.all_eq_true]
        intro x hx
        obtain ⟨z, hz, rfl⟩ := List.mem_map.mp hx
        obtain ⟨h0, h1⟩ := r36 z hz
        show (decide (0 ≤ z) && decide (z < 36)) = true
        rw [decide_eq_true h0, decide_eq_true h1]
        rfl
      rw [hall]
      refine iteF ?_
      refine ⟨_, rfl, gset_go (σ' := [some (.ref x), some (.ref s), some (.ref l), some (.ref s), none, none]) rfl ?_⟩
      dsimp only
      have s12 := s1.trans s2
      refine ⟨_, rfl, x, CF, dx, fs, _, rfl, s12 _ _ hx, fc.c, fc.s, f1, _, rfl, ?_⟩
      refine ⟨t, s, xs, sp, st, h, w', rfl, .inr (.inl ⟨Same.seqT s12 ht, Same.seqT s12 hs⟩), ties_kp px (.of_same s12), by omega, ok.ne, ok.l60, ok.nd, r36, ok.box, ok.mh, ok.mw, ok.h60, ok.w60, fun H3 s3 => ?_⟩
      refine ⟨(by show 1 ≤ sizeLine; decide), fun g ng => ?_⟩
      refine gset_go (σ' := [some (.ref x), some (.ref s), some (.ref l), some (.ref s), some (.ref g), none]) rfl ?_
      dsimp only
      have s4 := (s12.trans s3).trans (Same.new (o := .lst [V.str (strL (textL (linesL (sp.zip st) h w')))]) ng)
      have e4 : (upd H3 g (.lst [V.str (strL (textL (linesL (sp.zip st) h w')))])) g = some (.lst [V.str (strL (textL (linesL (sp.zip st) h w')))]) := upd_same
      have ng0 : H g = none := (s12.trans s3).free ng
      generalize upd H3 g (.lst [V.str (strL (textL (linesL (sp.zip st) h w')))]) = H4 at s4 e4 ⊢
      have lm : ys.length = ms.length := Paired.length hm
      refine ⟨_, rfl, l, rfl, ⟨_, Same.seqT s4 hl⟩, ?_⟩
      refine for_it (walk_tup (K := K) (a := l) (xs := ys)) (fun i σ H' => ∃ (cur : Addr) (v5 : Option V), σ = [some (.ref x), some (.ref s), some (.ref l), some (.ref cur), some (.ref g), v5] ∧ SqA K H' cur ((playMvs [] st (ms.take i)).map V.int) ∧ H' g = some (.lst ((reelL sp h w' st ms (i + 1)).map fun z => V.str (strL z))) ∧ Same H H')
        ⟨s, none, rfl, .inr (Same.seqT s4 hs), e4, s4⟩ (fun i σ H' _ ⟨_, _, _, _, _, s'⟩ => Same.seqT s' hl) ?_ ?_
      · rintro i v σ H5 H6 hi ⟨cur, v5, rfl, hc, eg, s5⟩ ⟨rfl, hy⟩
        obtain ⟨m, em, hmv⟩ := par_get hm hy
        have cm : CanMv n ts [] (playMvs [] st (ms.take i)) m := can_get can em
        refine gset_go (σ' := [some (.ref x), some (.ref s), some (.ref l), some (.ref cur), some (.ref g), some v]) rfl ?_
        refine ⟨_, rfl, x, CF, dx, fs, _, rfl, s5 _ _ hx, fc.c, fc.y, f2, _, rfl, _, rfl, ?_⟩
        have pl : (playMvs [] st (ms.take i)).length = n := by rw [play_len, ls]
        refine ⟨y, cur, v, n, ts, [], _, m, rfl, yo.kp (.of_same s5), by omega, fun r hr => (by cases hr), hc, pl, hmv.kp (.of_same s5), cm, fun b H7 eb s7 => ?_⟩
        refine gset_go (σ' := [some (.ref x), some (.ref s), some (.ref l), some (.ref b), some (.ref g), some v]) rfl ?_
        have s57 := s5.trans s7
        have ep : stepMv [] (playMvs [] st (ms.take i)) m = playMvs [] st (ms.take (i + 1)) := by rw [take_next em, play_snoc]
        rw [ep] at eb
        refine ⟨_, rfl, .inl ⟨rfl, _, SqL.of (s7 _ _ eg)⟩, _, rfl, x, CF, dx, fs, _, rfl, s57 _ _ hx, fc.c, fc.s, f1, _, rfl, ?_⟩
        have r2 : Rng36 (playMvs [] st (ms.take (i + 1))) := play_rng (can_take (i + 1) can) r36
        refine ⟨t, b, xs, sp, _, h, w', rfl, .inr (.inr ⟨Same.seqT s57 ht, SqL.of eb⟩), ties_kp px (.of_same s57), by rw [play_len]; omega, ok.ne, ok.l60, ok.nd, r2, ok.box, ok.mh, ok.mw, ok.h60, ok.w60, fun H8 s8 => ?_⟩
        have eg8 := s8 _ _ (s7 _ _ eg)
        refine ⟨g, _, _, rfl, rfl, eg8, ?_, ?_⟩
        · rw [List.length_map, reel_len]
          exact Nat.lt_of_le_of_lt (by omega : i + 1 ≤ 11) (by decide)
        · have nbg : b ≠ g := fun z => by rw [z, s7 _ _ eg] at eb; injection eb with eb; injection eb with eb; have := congrArg List.length eb; cases hq : playMvs [] st (ms.take (i + 1)) with
            | nil => rw [hq] at eb; rw [reel_succ, List.map_append] at eb; simp at eb
            | cons a q => rw [hq] at eb; unfold reelL at eb; rw [show i + 1 = (i + 1) from rfl, List.range_succ_eq_map] at eb; simp at eb
          refine ⟨b, _, rfl, .inl (SqL.of (by rw [upd_ne nbg]; exact s8 _ _ eb)), ?_, Same.upd_new (s57.trans s8) ng0⟩
          rw [upd_same, reel_succ (m := i + 1), List.map_append]
          rfl
      · rintro σ H5 ⟨cur, v5, rfl, hc, eg, s5⟩
        rw [lm] at eg
        refine ⟨⟨_, rfl⟩, _, rfl, _, g, (reelL sp h w' st ms (ms.length + 1)).map strL, rfl, rfl, .inl (SqL.of (by rw [eg, List.map_map]; rfl)), ?_, ?_⟩
        · have := sum_le (ls := ((reelL sp h w' st ms (ms.length + 1)).map strL).map (·.length)) (m := 3660) fun x hx => by
            obtain ⟨y, hy, rfl⟩ := List.mem_map.mp hx
            obtain ⟨z, hz, rfl⟩ := List.mem_map.mp hy
            rw [strL_len]
            obtain ⟨i, _, rfl⟩ := List.mem_map.mp hz
            exact pic_len ok.h60 ok.w60 _
          rw [List.length_map, List.length_map, reel_len] at this
          have e0 : Str.length (Str.ofString "\n") = 1 := by decide +kernel
          rw [e0, List.length_map, reel_len]
          omega
        · rw [glued_nl _ (by decide +kernel)]
          exact k H5 s5
    · refine ⟨y, s, l, n, ts, [], st, ms.map mvD ++ [d], rfl, yo, sok, .inr hs, ⟨⟨ys, .inr hl, hd⟩, fun d' hd' es e => ?_⟩, fun st' e => ?_, fun i e H1 s1 => ?_⟩
      · rcases List.mem_append.mp hd' with hd' | hd'
        · obtain ⟨m, _, rfl⟩ := List.mem_map.mp hd'
          cases m with
          | slide a b => injection e with e; rw [← e]; show 3 ≤ 100; decide
          | turn a => injection e with e; rw [← e]; show 2 ≤ 100; decide
        · rw [List.mem_singleton.mp hd'] at e
          exact small es e
      · rw [runD_app can, runD_cons_none bad] at e
        cases e
      · rw [runD_app can, runD_cons_none bad, Nat.zero_add] at e
        injection e with e
        subst e
        exact fun dd H' s' e' => k dd H' (s1.trans s') e'
end
end Y
set_option Elab.async false
set_option linter.all false
set_option maxRecDepth 100000
set_option maxHeartbeats 4000000
namespace Y
open PySem L2
/-! ### the law's stirred stand -/
abbrev sStir : Stmt := top 40
abbrev NStir : List Str := ["_law_pen_here", "_law_stand", "_law_found", "_law_lap", "_law_one", "_law_other"]
def spStir (K : PySem.W.Frag) : Sp := fun vs H Q _ => ∃ (p c s : Addr) (st : List Int) (b : Nat), vs = [.ref p, .ref s] ∧ Pen H p c (b + 10) ∧ SqT K H s (st.map V.int) ∧ 1 ≤ st.length ∧ st.length ≤ 60 ∧
  ∀ t (st' : List Int) H', H' t = some (.tup (st'.map V.int)) → st'.length = st.length → (∀ z ∈ st', z ∈ st) → Kp H H' → Pen H' p c b → Q (.ref t) H'
section
variable {P : Program} {w : World} {K : PySem.W.Frag} {mg : Str → Option Value} {base : Heap} {fDraw : Addr}
theorem scStir : FnScope NStir ["_law_pen_here", "_law_stand"] (defScope sStir) := ⟨rfl, rfl, rfl, by decide +kernel, rfl, by decide +kernel, by decide +kernel⟩
theorem gAt_in {st : List Int} {i : Int} (h0 : 0 ≤ i) (h1 : i < st.length) : gAt st i ∈ st := by
  unfold gAt
  exact getD_mem (by omega)
theorem ok_stir {f : Addr} {fd fdD : FuncData} (F : Fun K "_law_stirred" "_law_stirred" sStir f fd) (T : TG K mg fDraw) (FD : Fun K "_law_draw" "_law_draw" sDraw fDraw fdD) (bD : Binds K fdD ["_law_pen_here", "_law_many"] []) :
    FnOk P w K mg base CX0 2 f fd ["_law_pen_here", "_law_stand"] (spStir K) := by
  have GD : FnOk P w K mg base CX0 1 fDraw fdD ["_law_pen_here", "_law_many"] spDraw := ok_draw FD T.p
  refine F.ok scStir (fun vs H Q E h => ?_) (fun cdv A outer s H vs Q E hr h => ?_)
  · obtain ⟨p, c, s, st, b, rfl, _⟩ := h
    rfl
  · obtain ⟨p, c, s, st, b, rfl, hP, hs, l1, l60, k⟩ := h
    refine ⟨_, pss_cons (ps_set (i := 2) scStir.nd rfl (Or.inl rfl) (pe_callTy call_list_of (by rfl) T.p.list (by decide +kernel) (pa_cons (pv 1) pa_nil)))
      (pss_cons (ps_for PassesOwn.never rfl (pi_range1 (by rfl) T.range (pa_cons (pe_call GD hr (by rfl) T.p.gDraw FD.kp bD .nil pass0 (pa_cons (pv 0) (pa_cons pe_int pa_nil))) pa_nil)) (pg_name (i := 3) scStir.nd rfl (Or.inl rfl))
        (pss_cons (ps_par (i := 4) (j := 5) rfl scStir.nd rfl rfl (by decide) rfl rfl
            (pa_cons (pe_call GD hr (by rfl) T.p.gDraw FD.kp bD .nil pass0 (pa_cons (pv 0) (pa_cons (pe_callB call_len_seq (by rfl) T.p.len PySem.boot_len (pa_cons (pv 2) pa_nil)) pa_nil)))
            (pa_cons (pe_call GD hr (by rfl) T.p.gDraw FD.kp bD .nil pass0 (pa_cons (pv 0) (pa_cons (pe_callB call_len_seq (by rfl) T.p.len PySem.boot_len (pa_cons (pv 2) pa_nil)) pa_nil))) pa_nil)) (by rfl))
        (pss_one (ps_asg (pe_tup (pa_cons (pe_ix ix_list (pv 2) (pv 5) (fun _ _ => rfl)) (pa_cons (pe_ix ix_list (pv 2) (pv 4) (fun _ _ => rfl)) pa_nil))) (pg_tup rfl (pgs_cons (pg_sub (pv 2) (pv 4) set_list) (pgs_cons (pg_sub (pv 2) (pv 5) set_list) pgs_nil)))))))
      (pss_one (ps_ret (pe_callTy call_tuple_of (by rfl) T.tuple (by decide +kernel) (pa_cons (pv 2) pa_nil))))), ?_⟩
    obtain ⟨kvs, hk⟩ := hP.there
    refine ⟨_, rfl, s, _, rfl, .inr hs, fun l nl => ?_⟩
    refine gset_go (σ' := [some (.ref p), some (.ref s), some (.ref l), none, none, none]) rfl ?_
    dsimp only
    have s1 := Same.new (o := .lst (st.map V.int)) nl
    have e1 : (upd H l (.lst (st.map V.int))) l = some (.lst (st.map V.int)) := upd_same
    have P1 := hP.same s1
    have off := hP.off nl
    generalize upd H l (.lst (st.map V.int)) = H1 at s1 e1 P1 ⊢
    obtain ⟨kv1, hk1⟩ := P1.there
    refine ⟨_, rfl, p, c, 4, b + 9, rfl, P1.less (by omega), by decide, by decide, fun n H2 n0 n4 P2 B2 => ?_⟩
    refine ⟨n, rfl, by omega, by omega, ?_⟩
    have e2 := B2.keep hk1 e1 (by intro z; cases z)
    have kp2 : Kp H H2 := (Kp.of_same s1).trans (.of_but B2 hk1)
    refine for_range (lo := 0) (n := n.toNat) (fun i σ H' => ∃ (v3 v4 v5 : Option V) (L : List Int), σ = [some (.ref p), some (.ref s), some (.ref l), v3, v4, v5] ∧ H' l = some (.lst (L.map V.int)) ∧ L.length = st.length ∧ (∀ z ∈ L, z ∈ st) ∧ Kp H H' ∧ Pen H' p c (b + 2 * (4 - i)))
      ⟨none, none, none, st, rfl, e2, rfl, fun z h => h, kp2, P2.less (by omega)⟩ ?_ ?_
    · rintro i σ H3 hi ⟨v3, v4, v5, L, rfl, eL, lL, hL, kp3, P3⟩
      have hi' : i < 4 := by omega
      refine gset_go (σ' := [some (.ref p), some (.ref s), some (.ref l), some (.int (0 + (i : Int))), v4, v5]) rfl ?_
      obtain ⟨kv3, hk3⟩ := P3.there
      refine ⟨_, rfl, _, rfl, l, _, rfl, .inl (SqL.of eL), p, c, _, b + 2 * (3 - i) + 1, rfl, P3.less (by omega), by rw [List.length_map]; omega, by rw [List.length_map]; omega, fun a H4 a0 a1 P4 B4 => ?_⟩
      have eL4 := B4.keep hk3 eL (by intro z; cases z)
      have kp4 := kp3.trans (.of_but B4 hk3)
      obtain ⟨kv4, hk4⟩ := P4.there
      refine ⟨_, rfl, _, rfl, l, _, rfl, .inl (SqL.of eL4), p, c, _, b + 2 * (3 - i), rfl, P4, by rw [List.length_map]; omega, by rw [List.length_map]; omega, fun d H5 d0 d1 P5 B5 => ?_⟩
      have eL5 := B5.keep hk4 eL4 (by intro z; cases z)
      have kp5 := kp4.trans (.of_but B5 hk4)
      rw [List.length_map] at a1 d1
      refine ⟨_, _, rfl, ?_⟩
      refine sq_st (σ' := [some (.ref p), some (.ref s), some (.ref l), some (.int (0 + (i : Int))), some (.int a), some (.int d)]) rfl ?_
      refine ⟨_, rfl, _, rfl, l, _, d, _, rfl, rfl, SqL.of eL5, atI_st d0 d1, _, rfl, _, rfl, l, _, a, _, rfl, rfl, SqL.of eL5, atI_st a0 a1, (by show 2 ≤ sizeLine; decide), fun t nt => ?_⟩
      have s6 := Same.new (o := .tup [.int (gAt L d), .int (gAt L a)]) nt
      refine ⟨t, _, rfl, SqT.of upd_same, rfl, _, _, rfl, ?_⟩
      have eL6 := s6 _ _ eL5
      have P6 := P5.same s6
      have kp6 := kp5.trans (.of_same s6)
      generalize upd H5 t (.tup [.int (gAt L d), .int (gAt L a)]) = H6 at s6 eL6 P6 kp6 ⊢
      refine ⟨_, rfl, _, rfl, l, _, a, a.toNat, rfl, rfl, eL6, by rw [List.length_map]; exact ixN_ok a0 a1, ?_⟩
      rw [map_set]
      refine ⟨_, _, rfl, _, rfl, _, rfl, l, _, d, d.toNat, rfl, rfl, upd_same, by rw [List.length_map, List.length_set]; exact ixN_ok d0 d1, ?_⟩
      rw [map_set]
      refine ⟨rfl, _, _, _, _, rfl, upd_same, by rw [List.length_set, List.length_set]; exact lL, fun z hz => ?_, (kp6.upd nl).upd nl, ?_⟩
      · rcases List.mem_or_eq_of_mem_set hz with hz | rfl
        · rcases List.mem_or_eq_of_mem_set hz with hz | rfl
          · exact hL z hz
          · exact hL _ (gAt_in d0 d1)
        · exact hL _ (gAt_in a0 a1)
      · have := (P6.upd (o := .lst ((L.set a.toNat (gAt L d)).map V.int)) off.1 off.2).upd (o := .lst (((L.set a.toNat (gAt L d)).set d.toNat (gAt L a)).map V.int)) off.1 off.2
        exact this.less (by omega)
    · rintro σ H3 ⟨v3, v4, v5, L, rfl, eL, lL, hL, kp3, P3⟩
      refine ⟨_, rfl, l, _, rfl, .inl ⟨SqL.of eL, fun t nt => ?_⟩⟩
      have s4 := Same.new (o := .tup (L.map V.int)) nt
      exact k t L _ upd_same lL hL (kp3.trans (.of_same s4)) ((P3.same s4).less (by omega))
end
end Y
set_option Elab.async false
set_option linter.all false
set_option maxRecDepth 100000
set_option maxHeartbeats 4000000
namespace Y
open PySem L2
/-! ### the law's drawn spots -/
abbrev sSpots : Stmt := top 45
abbrev NSpots : List Str := ["_law_pen_here", "_law_found", "_law_lap"]
def Bx (t : Int × Int) : Prop := 0 ≤ t.1 ∧ t.1 < 3 ∧ 0 ≤ t.2 ∧ t.2 < 4
def KeysS (kvs : PK) (ks : List (Int × Int)) : Prop := kvs.map (·.1) = ks.map pk ∧ ks.Nodup ∧ ∀ t ∈ ks, Bx t
theorem KeysS.len {kvs : PK} {ks : List (Int × Int)} (h : KeysS kvs ks) : kvs.length = ks.length := by
  have := congrArg List.length h.1
  rwa [List.length_map, List.length_map] at this
theorem KeysS.put {kvs : PK} {ks : List (Int × Int)} (h : KeysS kvs ks) {t : Int × Int} (ht : Bx t) (v : V) : ∃ ks', KeysS (putK kvs (pk t) v) ks' ∧ ks'.length ≤ ks.length + 1 ∧ ks.length ≤ ks'.length := by
  by_cases c : (kvs.any fun kv => decide (kv.1 = pk t)) = true
  · refine ⟨ks, ⟨?_, h.2.1, h.2.2⟩, Nat.le_succ _, Nat.le_refl _⟩
    unfold putK
    rw [if_pos c, List.map_map, ← h.1]
    refine List.map_congr_left fun kv _ => ?_
    show (if kv.1 = pk t then (kv.1, v) else kv).1 = kv.1
    split <;> rfl
  · refine ⟨ks ++ [t], ⟨?_, ?_, fun u hu => ?_⟩, by rw [List.length_append]; exact Nat.le_refl _, by rw [List.length_append]; exact Nat.le_add_right _ _⟩
    · unfold putK
      rw [if_neg c, List.map_append, List.map_append, h.1]
      rfl
    · rw [List.nodup_append]
      refine ⟨h.2.1, by simp, fun a ha b hb e => c ?_⟩
      rw [List.mem_singleton] at hb
      subst hb
      subst e
      have : pk a ∈ kvs.map (·.1) := by rw [h.1]; exact List.mem_map.mpr ⟨a, ha, rfl⟩
      obtain ⟨kv, m, e⟩ := List.mem_map.mp this
      exact List.any_eq_true.mpr ⟨kv, m, decide_eq_true e⟩
    · rcases List.mem_append.mp hu with hu | hu
      · exact h.2.2 u hu
      · rw [List.mem_singleton.mp hu]; exact ht
/-- sorted, the spots stand in order -/
theorem sorted_spots {K : PySem.W.Frag} {H : Hp} {bs : List Addr} {ks : List (Int × Int)} (r : Paired (fun (t : Int × Int) (b : Addr) => H b = some (.tup [.int t.1, .int t.2])) ks bs) (nd : ks.Nodup) (ok : ∀ t ∈ ks, Bx t)
    {ys : List V} (pm : ys.Perm (bs.map V.ref)) (pw : ys.Pairwise (fun x y => ∀ n m, TupI K H x n → TupI K H y m → TS.code 64 n ≤ TS.code 64 m)) :
    ∃ ts : List (Int × Int), ts.Perm ks ∧ ts.Pairwise lexlt ∧ Paired (TieAt K H) ys ts := by
  let f : V → Int × Int := fun y => match y with
    | .ref b => (match H b with | some (.tup [.int i, .int j]) => (i, j) | _ => (0, 0))
    | _ => (0, 0)
  have fb : (bs.map V.ref).map f = ks := by
    clear nd ok pm pw
    induction r with
    | nil => rfl
    | @cons t b _ _ e _ ih =>
      rw [List.map_cons, List.map_cons, ih]
      show (match H b with | some (.tup [.int i, .int j]) => (i, j) | _ => (0, 0)) :: _ = _
      rw [e]
  have fa : ∀ y ∈ bs.map V.ref, TieAt K H y (f y) := by
    clear nd ok pm pw fb
    induction r with
    | nil => intro y hy; cases hy
    | @cons t b _ _ e _ ih =>
      intro y hy
      rcases List.mem_cons.mp hy with rfl | hy
      · refine ⟨b, rfl, ?_⟩
        show SqT K H b [.int (match H b with | some (.tup [.int i, .int j]) => (i, j) | _ => (0, 0)).1, .int (match H b with | some (.tup [.int i, .int j]) => (i, j) | _ => (0, 0)).2]
        rw [e]
        exact SqT.of e
      · exact ih y hy
  have p1 : (ys.map f).Perm ks := by rw [← fb]; exact pm.map f
  have at' : ∀ y ∈ ys, TieAt K H y (f y) := fun y hy => fa y (pm.mem_iff.mp hy)
  have nd1 := (p1.nodup_iff).mpr nd
  refine ⟨ys.map f, p1, ?_, ?_⟩
  · have le1 : (ys.map f).Pairwise fun a b => TS.code 64 [a.1, a.2] ≤ TS.code 64 [b.1, b.2] := by
      rw [List.pairwise_map]
      exact List.Pairwise.imp_of_mem (fun {a b} ha hb h => h _ _ (at' a ha) (at' b hb)) pw
    have both := List.Pairwise.and le1 nd1
    refine List.Pairwise.imp_of_mem (fun {a b} ha hb h => ?_) both
    obtain ⟨h1, h2⟩ := h
    obtain ⟨a0, a1, a2, a3⟩ := ok a (p1.mem_iff.mp ha)
    obtain ⟨b0, b1, b2, b3⟩ := ok b (p1.mem_iff.mp hb)
    have e1 : TS.code 64 [a.1, a.2] = a.1 * 64 + a.2 := code_pair _ _
    have e2 : TS.code 64 [b.1, b.2] = b.1 * 64 + b.2 := code_pair _ _
    rw [e1, e2] at h1
    have ne : ¬ (a.1 = b.1 ∧ a.2 = b.2) := fun z => h2 (Prod.ext z.1 z.2)
    unfold lexlt
    omega
  · clear p1 pm pw nd1
    induction ys with
    | nil => exact .nil
    | cons y ys ih => exact .cons (at' y List.mem_cons_self) (ih fun z hz => at' z (List.mem_cons_of_mem _ hz))
/-- drawn spots -/
structure SpD (sp : List (Int × Int)) : Prop where
  ne : sp ≠ []
  l9 : sp.length ≤ 9
  asc : sp.Pairwise lexlt
  box : ∀ t ∈ sp, Bx t
def spSpots (K : PySem.W.Frag) : Sp := fun vs H Q _ => ∃ (p c : Addr) (b : Nat), vs = [.ref p] ∧ Pen H p c (b + 20) ∧
  ∀ l ys sp H', H' l = some (.lst ys) → Paired (TieAt K H') ys sp → SpD sp → Kp H H' → Pen H' p c b → Q (.ref l) H'
theorem bd_bx {t : Int × Int} (h : Bx t) : TS.Bd 64 [t.1, t.2] := by
  obtain ⟨a, b, c, d⟩ := h
  intro x hx
  rcases List.mem_cons.mp hx with rfl | hx
  · exact ⟨a, by omega⟩
  · rw [List.mem_singleton.mp hx]; exact ⟨c, by omega⟩
section
variable {P : Program} {w : World} {K : PySem.W.Frag} {mg : Str → Option Value} {base : Heap} {fDraw : Addr}
theorem scSpots : FnScope NSpots ["_law_pen_here"] (defScope sSpots) := ⟨rfl, rfl, rfl, by decide +kernel, rfl, by decide +kernel, by decide +kernel⟩
theorem ok_spots {f : Addr} {fd fdD : FuncData} (F : Fun K "_law_drawn_spots" "_law_drawn_spots" sSpots f fd) (T : TG K mg fDraw) (gS : mg "sorted" = none) (FD : Fun K "_law_draw" "_law_draw" sDraw fDraw fdD) (bD : Binds K fdD ["_law_pen_here", "_law_many"] []) :
    FnOk P w K mg base CX0 2 f fd ["_law_pen_here"] (spSpots K) := by
  have GD : FnOk P w K mg base CX0 1 fDraw fdD ["_law_pen_here", "_law_many"] spDraw := ok_draw FD T.p
  refine F.ok scSpots (fun vs H Q E h => ?_) (fun cdv A outer s H vs Q E hr h => ?_)
  · obtain ⟨p, c, b, rfl, _⟩ := h
    rfl
  · obtain ⟨p, c, b, rfl, hP, k⟩ := h
    have hu := hu_of hr
    refine ⟨_, pss_cons (ps_set (i := 1) scSpots.nd rfl (Or.inl rfl) (pe_disp1T hu (pe_tup (pa_cons (pe_call GD hr (by rfl) T.p.gDraw FD.kp bD .nil pass0 (pa_cons (pv 0) (pa_cons pe_int pa_nil))) (pa_cons (pe_call GD hr (by rfl) T.p.gDraw FD.kp bD .nil pass0 (pa_cons (pv 0) (pa_cons pe_int pa_nil))) pa_nil))) pe_bl))
      (pss_cons (ps_for PassesOwn.never rfl (pi_range1 (by rfl) T.range (pa_cons (pe_call GD hr (by rfl) T.p.gDraw FD.kp bD .nil pass0 (pa_cons (pv 0) (pa_cons pe_int pa_nil))) pa_nil)) (pg_name (i := 2) scSpots.nd rfl (Or.inl rfl))
        (pss_one (ps_dput hu (pv 1) (pe_tup (pa_cons (pe_call GD hr (by rfl) T.p.gDraw FD.kp bD .nil pass0 (pa_cons (pv 0) (pa_cons pe_int pa_nil))) (pa_cons (pe_call GD hr (by rfl) T.p.gDraw FD.kp bD .nil pass0 (pa_cons (pv 0) (pa_cons pe_int pa_nil))) pa_nil))) pe_bl rfl)))
      (pss_one (ps_ret (pe_callB (cr_sortedDT rfl) (by rfl) gS (by decide +kernel) (pa_cons (pv 1) pa_nil))))), ?_⟩
    obtain ⟨kvp, hkp⟩ := hP.there
    refine fun d nd => ?_
    have s0 := Same.new (o := .dT []) nd
    have off := hP.off nd
    have P0 := hP.same s0
    have e0 : (upd H d (.dT [])) d = some (.dT []) := upd_same
    generalize upd H d (.dT []) = H0 at s0 P0 e0 ⊢
    obtain ⟨kv0, hk0⟩ := P0.there
    refine ⟨_, rfl, p, c, 3, b + 19, rfl, P0.less (by omega), by decide, by decide, fun n1 H1 n10 n11 P1 B1 => ?_⟩
    obtain ⟨kv1, hk1⟩ := P1.there
    refine ⟨_, rfl, p, c, 4, b + 18, rfl, P1.less (by omega), by decide, by decide, fun n2 H2 n20 n21 P2 B2 => ⟨(by show 2 ≤ sizeLine; decide), fun t nt => ?_⟩⟩
    have s3 := Same.new (o := .tup [.int n1, .int n2]) nt
    have e3 := s3 _ _ (B2.keep hk1 (B1.keep hk0 e0 (by intro z; cases z)) (by intro z; cases z))
    refine ⟨t, pk (n1, n2), rfl, upd_same, e3, ?_⟩
    have kp3 : Kp H (upd H2 t (.tup [.int n1, .int n2])) := (((Kp.of_same s0).trans (.of_but B1 hk0)).trans (.of_but B2 hk1)).trans (.of_same s3)
    have P3 := (P2.same s3).upd (o := .dT [(pk (n1, n2), .bl true)]) off.1 off.2
    have kp4 := kp3.upd (o := .dT [(pk (n1, n2), .bl true)]) nd
    have e4 : (upd (upd H2 t (.tup [.int n1, .int n2])) d (.dT [(pk (n1, n2), .bl true)])) d = some (.dT [(pk (n1, n2), .bl true)]) := upd_same
    generalize upd (upd H2 t (.tup [.int n1, .int n2])) d (.dT [(pk (n1, n2), .bl true)]) = H4 at P3 kp4 e4 ⊢
    refine gset_go (σ' := [some (.ref p), some (.ref d), none]) rfl ?_
    dsimp only
    obtain ⟨kv4, hk4⟩ := P3.there
    refine ⟨_, rfl, p, c, 9, b + 17, rfl, P3.less (by omega), by decide, by decide, fun n H5 n0 n9 P5 B5 => ?_⟩
    have kp5 := kp4.trans (.of_but B5 hk4)
    have e5 := B5.keep hk4 e4 (by intro z; cases z)
    refine ⟨n, rfl, by omega, by omega, ?_⟩
    refine for_range (lo := 0) (n := n.toNat) (fun i σ H' => ∃ (v2 : Option V) (kvs : PK) (ks : List (Int × Int)), σ = [some (.ref p), some (.ref d), v2] ∧ H' d = some (.dT kvs) ∧ KeysS kvs ks ∧ 1 ≤ ks.length ∧ ks.length ≤ i + 1 ∧ Kp H H' ∧ Pen H' p c (b + 2 * (8 - i)))
      ⟨none, _, [(n1, n2)], rfl, e5, ⟨rfl, by simp, fun t ht => by rw [List.mem_singleton.mp ht]; exact ⟨n10, n11, n20, n21⟩⟩, Nat.le_refl _, Nat.le_refl _, kp5, P5.less (by omega)⟩ ?_ ?_
    · rintro i σ H6 hi ⟨v2, kvs, ks, rfl, ed, hks, l1, l2, kp6, P6⟩
      have hi' : i < 8 := by omega
      refine gset_go (σ' := [some (.ref p), some (.ref d), some (.int (0 + (i : Int)))]) rfl ?_
      obtain ⟨kv6, hk6⟩ := P6.there
      refine ⟨_, rfl, _, rfl, p, c, 3, b + 2 * (7 - i) + 1, rfl, P6.less (by omega), by decide, by decide, fun m1 H7 m10 m11 P7 B7 => ?_⟩
      obtain ⟨kv7, hk7⟩ := P7.there
      refine ⟨_, rfl, p, c, 4, b + 2 * (7 - i), rfl, P7, by decide, by decide, fun m2 H8 m20 m21 P8 B8 => ⟨(by show 2 ≤ sizeLine; decide), fun t nt => ?_⟩⟩
      have s9 := Same.new (o := .tup [.int m1, .int m2]) nt
      have e9 := s9 _ _ (B8.keep hk7 (B7.keep hk6 ed (by intro z; cases z)) (by intro z; cases z))
      have lk := hks.len
      refine ⟨d, _, rfl, DPut.t e9 (k := pk (m1, m2)) upd_same (Nat.lt_of_le_of_lt (by omega : kvs.length ≤ 9) (by decide)), ?_⟩
      obtain ⟨ks', h1, h2, h3⟩ := hks.put (t := (m1, m2)) ⟨m10, m11, m20, m21⟩ (V.bl true)
      exact ⟨_, _, ks', rfl, upd_same, h1, by omega, by omega, ((((kp6.trans (.of_but B7 hk6)).trans (.of_but B8 hk7)).trans (.of_same s9)).upd nd), ((P8.same s9).upd off.1 off.2).less (by omega)⟩
    · rintro σ H6 ⟨v2, kvs, ks, rfl, ed, hks, l1, l2, kp6, P6⟩
      have lk := hks.len
      refine ⟨_, rfl, d, kvs, 2, 64, rfl, .inl ed, by omega, by decide, fun kv hkv => ?_, fun bs ys q kz pm pw nq => ?_⟩
      · have : kv.1 ∈ ks.map pk := by rw [← hks.1]; exact List.mem_map.mpr ⟨kv, hkv, rfl⟩
        obtain ⟨u, hu, e⟩ := List.mem_map.mp this
        exact ⟨[u.1, u.2], by rw [← e]; rfl, rfl, bd_bx (hks.2.2 u hu)⟩
      · obtain ⟨sp, p1, asc, pa⟩ := sorted_spots (keysP (n := 0) kz hks.1) hks.2.1 hks.2.2 pm pw
        have s7 := Same.new (o := .lst ys) nq
        have pl := p1.length_eq
        refine k q ys sp _ upd_same (ties_kp pa (.of_same s7)) ⟨fun z => ?_, by omega, asc, fun t ht => hks.2.2 t (p1.mem_iff.mp ht)⟩ (kp6.trans (.of_same s7)) ((P6.same s7).less (by omega))
        rw [z] at pl
        rw [List.length_nil] at pl
        omega
end
end Y
set_option Elab.async false
set_option linter.all false
set_option maxRecDepth 100000
set_option maxHeartbeats 4000000
namespace Y
open PySem L2
/-! ### the law's due ties -/
abbrev sDue : Stmt := top 46
abbrev NDue : List Str := ["_law_spots", "_law_found", "_law_k", "_law_j", "_law_down", "_law_right"]
def spAt (sp : List (Int × Int)) (k : Nat) : Int × Int := sp.getD k (0, 0)
def adjB (p q : Int × Int) : Bool := decide ((q.1 - p.1).natAbs + (q.2 - p.2).natAbs = 1)
def dueRow (sp : List (Int × Int)) (k m : Nat) : List (Int × Int) := ((List.range m).filter fun j => adjB (spAt sp k) (spAt sp j)).map fun (j : Nat) => ((k : Int), (j : Int))
def dueTo (sp : List (Int × Int)) (m : Nat) : List (Int × Int) := (List.range m).flatMap fun k => dueRow sp k sp.length
def dueF (sp : List (Int × Int)) : List (Int × Int) := dueTo sp sp.length
theorem dueRow_succ (sp : List (Int × Int)) (k m : Nat) : dueRow sp k (m + 1) = dueRow sp k m ++ (if adjB (spAt sp k) (spAt sp m) = true then [((k : Int), (m : Int))] else []) := by
  unfold dueRow
  rw [List.range_succ, List.filter_append, List.map_append]
  by_cases h : adjB (spAt sp k) (spAt sp m) = true
  · rw [if_pos h]
    simp [h]
  · rw [if_neg h]
    simp [h]
theorem dueTo_succ (sp : List (Int × Int)) (m : Nat) : dueTo sp (m + 1) = dueTo sp m ++ dueRow sp m sp.length := by
  unfold dueTo
  rw [List.range_succ, List.flatMap_append]
  simp
theorem dueRow_len (sp : List (Int × Int)) (k : Nat) : ∀ m, (dueRow sp k m).length ≤ m
  | 0 => Nat.zero_le _
  | m + 1 => by
    rw [dueRow_succ, List.length_append]
    have := dueRow_len sp k m
    split
    · show _ + 1 ≤ m + 1; omega
    · show _ + 0 ≤ m + 1; omega
theorem dueTo_len (sp : List (Int × Int)) : ∀ m, (dueTo sp m).length ≤ m * sp.length
  | 0 => Nat.zero_le _
  | m + 1 => by
    rw [dueTo_succ, List.length_append, Nat.succ_mul]
    have := dueTo_len sp m
    have := dueRow_len sp m sp.length
    omega
theorem mem_dueRow {sp : List (Int × Int)} {k m : Nat} {t : Int × Int} : t ∈ dueRow sp k m ↔ ∃ j : Nat, j < m ∧ adjB (spAt sp k) (spAt sp j) = true ∧ t = ((k : Int), (j : Int)) := by
  unfold dueRow
  rw [List.mem_map]
  constructor
  · rintro ⟨j, hj, rfl⟩
    rw [List.mem_filter, List.mem_range] at hj
    exact ⟨j, hj.1, hj.2, rfl⟩
  · rintro ⟨j, h1, h2, rfl⟩
    exact ⟨j, List.mem_filter.mpr ⟨List.mem_range.mpr h1, h2⟩, rfl⟩
theorem mem_due {sp : List (Int × Int)} {t : Int × Int} : t ∈ dueF sp ↔ ∃ k j : Nat, k < sp.length ∧ j < sp.length ∧ adjB (spAt sp k) (spAt sp j) = true ∧ t = ((k : Int), (j : Int)) := by
  unfold dueF dueTo
  rw [List.mem_flatMap]
  constructor
  · rintro ⟨k, hk, ht⟩
    obtain ⟨j, h1, h2, h3⟩ := mem_dueRow.mp ht
    exact ⟨k, j, List.mem_range.mp hk, h1, h2, h3⟩
  · rintro ⟨k, j, hk, hj, ha, e⟩
    exact ⟨k, List.mem_range.mpr hk, mem_dueRow.mpr ⟨j, hj, ha, e⟩⟩
theorem dueRow_asc (sp : List (Int × Int)) (k : Nat) : ∀ m, (dueRow sp k m).Pairwise lexlt
  | 0 => .nil
  | m + 1 => by
    rw [dueRow_succ, List.pairwise_append]
    refine ⟨dueRow_asc sp k m, by split <;> simp, fun a ha b hb => ?_⟩
    obtain ⟨j, hj, _, rfl⟩ := mem_dueRow.mp ha
    split at hb
    · rw [List.mem_singleton.mp hb]
      exact .inr ⟨rfl, by show (j : Int) < (m : Int); omega⟩
    · cases hb
theorem dueTo_asc (sp : List (Int × Int)) : ∀ m, (dueTo sp m).Pairwise lexlt
  | 0 => .nil
  | m + 1 => by
    rw [dueTo_succ, List.pairwise_append]
    refine ⟨dueTo_asc sp m, dueRow_asc sp m _, fun a ha b hb => ?_⟩
    unfold dueTo at ha
    obtain ⟨k, hk, ha⟩ := List.mem_flatMap.mp ha
    obtain ⟨j, _, _, rfl⟩ := mem_dueRow.mp ha
    obtain ⟨i, _, _, rfl⟩ := mem_dueRow.mp hb
    have := List.mem_range.mp hk
    exact .inl (by show (k : Int) < (m : Int); omega)
theorem adj_iff {p q : Int × Int} : adjB p q = true ↔ adjP p q := by
  unfold adjB adjP nextTo
  rw [decide_eq_true_iff]
  simp only [List.mem_cons, List.not_mem_nil, or_false]
  obtain ⟨a, b⟩ := p
  obtain ⟨c, d⟩ := q
  simp only [Prod.mk.injEq]
  omega
def Bx60 (t : Int × Int) : Prop := 0 ≤ t.1 ∧ t.1 < 64 ∧ 0 ≤ t.2 ∧ t.2 < 64
theorem due_one {sp us : List (Int × Int)} (nd : sp.Nodup) (l : sp.length ≤ 60) (h : AscOf us (dbl (besideF (numb sp)))) : us = dueF sp := by
  have dk : ∀ (a b : Int × Int), Bx60 a → Bx60 b → lexlt a b → TS.code 64 [a.1, a.2] ≤ TS.code 64 [b.1, b.2] := fun a b ha hb h => by
    have e1 : TS.code 64 [a.1, a.2] = a.1 * 64 + a.2 := code_pair _ _
    have e2 : TS.code 64 [b.1, b.2] = b.1 * 64 + b.2 := code_pair _ _
    rw [e1, e2]
    obtain ⟨a0, a1, a2, a3⟩ := ha
    obtain ⟨b0, b1, b2, b3⟩ := hb
    unfold lexlt at h
    omega
  have bx : ∀ t ∈ dueF sp, Bx60 t := fun t ht => by
    obtain ⟨k, j, hk, hj, _, rfl⟩ := mem_due.mp ht
    exact ⟨by show (0 : Int) ≤ k; omega, by show (k : Int) < 64; omega, by show (0 : Int) ≤ j; omega, by show (j : Int) < 64; omega⟩
  have asc := dueTo_asc sp sp.length
  have g : AscOf (dueF sp) (dueF sp) := ⟨List.Pairwise.imp (fun {a b} hab e => by rw [e] at hab; exact lex_asymm hab hab) asc, List.Pairwise.imp_of_mem (fun {a b} ha hb hab => dk a b (bx a ha) (bx b hb) hab) asc, fun u => Iff.rfl⟩
  refine h.one g (fun u => ?_) fun u hu => ?_
  · rw [mem_both nd, mem_due]
    constructor
    · rintro ⟨i, j, p, q, hi, hj, ha, e⟩
      have ei : spAt sp i = p := by unfold spAt; rw [List.getD_eq_getElem?_getD, hi]; rfl
      have ej : spAt sp j = q := by unfold spAt; rw [List.getD_eq_getElem?_getD, hj]; rfl
      exact ⟨i, j, (List.getElem?_eq_some_iff.mp hi).1, (List.getElem?_eq_some_iff.mp hj).1, by rw [ei, ej]; exact adj_iff.mpr ha, e⟩
    · rintro ⟨i, j, hi, hj, ha, e⟩
      have ei : sp[i]? = some (spAt sp i) := by unfold spAt; rw [List.getD_eq_getElem?_getD, List.getElem?_eq_getElem hi]; rfl
      have ej : sp[j]? = some (spAt sp j) := by unfold spAt; rw [List.getD_eq_getElem?_getD, List.getElem?_eq_getElem hj]; rfl
      exact ⟨i, j, _, _, ei, ej, adj_iff.mp ha, e⟩
  · obtain ⟨a, b, c, d, _⟩ := both_ok nd hu
    exact ⟨a, by omega, c, by omega⟩
def spDue (K : PySem.W.Frag) : Sp := fun vs H Q _ => ∃ (l : Addr) (ys : List V) (sp : List (Int × Int)), vs = [.ref l] ∧ SqL K H l ys ∧ Paired (TieAt K H) ys sp ∧ sp.length ≤ 60 ∧
  ∀ t zs H', SqT K H' t zs → Paired (TieAt K H') zs (dueF sp) → Same H H' → Q (.ref t) H'
theorem abs_max {x m : Int} (hm : m ∈ [x, 0 - x]) (h : ∀ y ∈ [x, 0 - x], y ≤ m) : m = (x.natAbs : Int) := by
  have h1 := h x (by simp)
  have h2 := h (0 - x) (by simp)
  simp only [List.mem_cons, List.not_mem_nil, or_false] at hm
  omega
theorem two_sorted {ms : List Int} {x y : Int} (pm : ms.Perm [x, y]) (asc : ms.Pairwise (· ≤ ·)) : ms = if x ≤ y then [x, y] else [y, x] := by
  refine List.Perm.eq_of_pairwise (le := (· ≤ ·)) (fun a b _ _ h1 h2 => by omega) asc ?_ ?_
  · split
    · simp; assumption
    · simp; omega
  · split
    · exact pm
    · exact pm.trans (List.Perm.swap _ _ _)
section
variable {P : Program} {w : World} {K : PySem.W.Frag} {mg : Str → Option Value} {base : Heap} {fDraw : Addr}
theorem scDue : FnScope NDue ["_law_spots"] (defScope sDue) := ⟨rfl, rfl, rfl, by decide +kernel, rfl, by decide +kernel, by decide +kernel⟩
theorem ok_due {f : Addr} {fd : FuncData} (F : Fun K "_law_due_ties" "_law_due_ties" sDue f fd) (T : TG K mg fDraw) (gS : mg "sorted" = none) (gM : mg "max" = none) : FnOk P w K mg base CX0 1 f fd ["_law_spots"] (spDue K) := by
  refine F.ok scDue (fun vs H Q E h => ?_) (fun cdv A outer s H vs Q E hr h => ?_)
  · obtain ⟨l, ys, sp, rfl, _⟩ := h
    rfl
  · obtain ⟨l, ys, sp, rfl, hl, px, l60, k⟩ := h
    have hu := hr.units
    refine ⟨_, pss_cons (ps_set (i := 1) scDue.nd rfl (Or.inl rfl) (pe_lst pa_nil))
      (pss_cons (ps_for PassesOwn.never rfl (pi_range1 (by rfl) T.range (pa_cons (pe_callB call_len_seq (by rfl) T.p.len PySem.boot_len (pa_cons (pv 0) pa_nil)) pa_nil)) (pg_name (i := 2) scDue.nd rfl (Or.inl rfl))
        (pss_one (ps_for PassesOwn.never rfl (pi_range1 (by rfl) T.range (pa_cons (pe_callB call_len_seq (by rfl) T.p.len PySem.boot_len (pa_cons (pv 0) pa_nil)) pa_nil)) (pg_name (i := 3) scDue.nd rfl (Or.inl rfl))
          (pss_cons (ps_par (i := 4) (j := 5) rfl scDue.nd rfl rfl (by decide) rfl rfl
              (pa_cons (pe_op op_sub (pe_ix ix_tup (pe_ix ix_list (pv 0) (pv 3) (fun _ _ => rfl)) pe_int (fun _ _ => rfl)) (pe_ix ix_tup (pe_ix ix_list (pv 0) (pv 2) (fun _ _ => rfl)) pe_int (fun _ _ => rfl)))
              (pa_cons (pe_op op_sub (pe_ix ix_tup (pe_ix ix_list (pv 0) (pv 3) (fun _ _ => rfl)) pe_int (fun _ _ => rfl)) (pe_ix ix_tup (pe_ix ix_list (pv 0) (pv 2) (fun _ _ => rfl)) pe_int (fun _ _ => rfl))) pa_nil)) (by rfl))
          (pss_one (ps_if (pt_cmpR (op_eqD hu) (pe_callB cr_sortedA (by rfl) gS (by decide +kernel) (pa_cons (pe_lst (pa_cons (pe_callB (cr_max rfl) (by rfl) gM PyProof.Rows.boot_max (pa_cons (pe_lst (pa_cons (pv 4) (pa_cons (pe_op op_sub pe_int (pv 4)) pa_nil))) pa_nil))
              (pa_cons (pe_callB (cr_max rfl) (by rfl) gM PyProof.Rows.boot_max (pa_cons (pe_lst (pa_cons (pv 5) (pa_cons (pe_op op_sub pe_int (pv 5)) pa_nil))) pa_nil)) pa_nil))) pa_nil)) (pe_lst (pa_cons pe_int (pa_cons pe_int pa_nil))) (nomark _))
            (pss_one (ps_expr (pe_bm PySem.F.plainAttrs_list PySem.F.slot_list_append PySem.F.type_list_append mt_append (pv 1) (pa_cons (pe_tup (pa_cons (pv 2) (pa_cons (pv 3) pa_nil))) pa_nil)))) pss_nil))))))
      (pss_one (ps_ret (pe_callTy call_tuple_of (by rfl) T.tuple (by decide +kernel) (pa_cons (pv 1) pa_nil))))), ?_⟩
    have lx : ys.length = sp.length := Paired.length px
    refine ⟨(by show 0 ≤ sizeLine; decide), fun g ng => ?_⟩
    refine gset_go (σ' := [some (.ref l), some (.ref g), none, none, none, none]) rfl ?_
    dsimp only
    have s1 := Same.new (o := .lst ([] : List V)) ng
    have e1 : (upd H g (.lst ([] : List V))) g = some (.lst []) := upd_same
    generalize upd H g (.lst ([] : List V)) = H1 at s1 e1 ⊢
    have at_ : ∀ {i : Nat} {H' : Hp}, i < sp.length → Same H H' → ∃ b, atI ys (i : Int) = some (.ref b) ∧ SqT K H' b [.int (spAt sp i).1, .int (spAt sp i).2] := fun {i H'} hi s => by
      obtain ⟨y, hy⟩ : ∃ y, ys[i]? = some y := ⟨_, List.getElem?_eq_getElem (by omega)⟩
      obtain ⟨q, eq, b, rfl, hb⟩ := par_get px hy
      refine ⟨b, atI_nat hy, ?_⟩
      have : spAt sp i = q := by unfold spAt; rw [List.getD_eq_getElem?_getD, eq]; rfl
      rw [this]
      exact Same.seqT s hb
    refine ⟨_, rfl, l, ys, rfl, .inl ((Kp.of_same s1).seqL hl), _, rfl, by omega, by omega, ?_⟩
    rw [show ((ys.length : Nat) : Int).toNat = sp.length by omega]
    refine for_range (lo := 0) (n := sp.length) (fun i σ H' => ∃ (v2 v3 v4 v5 : Option V) (zs : List V), σ = [some (.ref l), some (.ref g), v2, v3, v4, v5] ∧ H' g = some (.lst zs) ∧ Paired (TieR H') zs (dueTo sp i) ∧ Same H H')
      ⟨none, none, none, none, [], rfl, e1, .nil, s1⟩ ?_ ?_
    · rintro i σ H2 hi ⟨v2, v3, v4, v5, zs, rfl, eg, pz, s2⟩
      refine gset_go (σ' := [some (.ref l), some (.ref g), some (.int (0 + (i : Int))), v3, v4, v5]) rfl ?_
      rw [Int.zero_add]
      refine ⟨_, rfl, l, ys, rfl, .inl ((Kp.of_same s2).seqL hl), _, rfl, by omega, by omega, ?_⟩
      rw [show ((ys.length : Nat) : Int).toNat = sp.length by omega]
      refine for_range (lo := 0) (n := sp.length) (fun j σ H' => ∃ (v3 v4 v5 : Option V) (zs : List V), σ = [some (.ref l), some (.ref g), some (.int (i : Int)), v3, v4, v5] ∧ H' g = some (.lst zs) ∧ Paired (TieR H') zs (dueTo sp i ++ dueRow sp i j) ∧ Same H H')
        ⟨v3, v4, v5, zs, rfl, eg, by rw [show dueRow sp i 0 = [] from rfl, List.append_nil]; exact pz, s2⟩ ?_ ?_
      · rintro j σ H3 hj ⟨v3, v4, v5, zs, rfl, eg, pz, s3⟩
        refine gset_go (σ' := [some (.ref l), some (.ref g), some (.int (i : Int)), some (.int (0 + (j : Int))), v4, v5]) rfl ?_
        rw [Int.zero_add]
        obtain ⟨bi, ai, hbi⟩ := at_ hi s3
        obtain ⟨bj, aj, hbj⟩ := at_ hj s3
        have hl3 : SqL K H3 l ys := (Kp.of_same s3).seqL hl
        refine ⟨_, rfl, _, rfl, l, ys, _, _, rfl, rfl, hl3, aj, bj, _, 0, _, rfl, rfl, hbj, atI_nat (j := 0) rfl, _, rfl, _, rfl, l, ys, _, _, rfl, rfl, hl3, ai, bi, _, 0, _, rfl, rfl, hbi, atI_nat (j := 0) rfl, _, _, rfl, rfl, ?_⟩
        refine ⟨_, rfl, _, rfl, l, ys, _, _, rfl, rfl, hl3, aj, bj, _, 1, _, rfl, rfl, hbj, atI_nat (j := 1) rfl, _, rfl, _, rfl, l, ys, _, _, rfl, rfl, hl3, ai, bi, _, 1, _, rfl, rfl, hbi, atI_nat (j := 1) rfl, _, _, rfl, rfl, ?_⟩
        refine ⟨_, _, rfl, ?_⟩
        refine sq_st (σ' := [some (.ref l), some (.ref g), some (.int (i : Int)), some (.int (j : Int)), some (.int ((spAt sp j).1 - (spAt sp i).1)), some (.int ((spAt sp j).2 - (spAt sp i).2))]) rfl ?_
        generalize hx : (spAt sp j).1 - (spAt sp i).1 = x
        generalize hy : (spAt sp j).2 - (spAt sp i).2 = y
        refine ⟨_, rfl, _, rfl, _, _, rfl, rfl, (by show 2 ≤ sizeLine; decide), fun a1 n1 => ?_⟩
        have sa := Same.new (o := .lst [V.int x, .int (0 - x)]) n1
        have ea : (upd H3 a1 (.lst [V.int x, .int (0 - x)])) a1 = some (.lst [V.int x, .int (0 - x)]) := upd_same
        generalize upd H3 a1 (.lst [V.int x, .int (0 - x)]) = H4 at sa ea ⊢
        refine ⟨a1, [x, 0 - x], rfl, SqL.of ea, by show 0 < 2; decide, fun m1 hm1 hle1 => ?_⟩
        obtain rfl := abs_max hm1 hle1
        refine ⟨_, rfl, _, rfl, _, _, rfl, rfl, (by show 2 ≤ sizeLine; decide), fun a2 n2 => ?_⟩
        have sb := Same.new (o := .lst [V.int y, .int (0 - y)]) n2
        have eb : (upd H4 a2 (.lst [V.int y, .int (0 - y)])) a2 = some (.lst [V.int y, .int (0 - y)]) := upd_same
        generalize upd H4 a2 (.lst [V.int y, .int (0 - y)]) = H5 at sb eb ⊢
        refine ⟨a2, [y, 0 - y], rfl, SqL.of eb, by show 0 < 2; decide, fun m2 hm2 hle2 => ?_⟩
        obtain rfl := abs_max hm2 hle2
        refine ⟨(by show 2 ≤ sizeLine; decide), fun a3 n3 => ?_⟩
        have sc := Same.new (o := .lst [V.int (x.natAbs : Int), .int (y.natAbs : Int)]) n3
        have ec : (upd H5 a3 (.lst [V.int (x.natAbs : Int), .int (y.natAbs : Int)])) a3 = some (.lst [V.int (x.natAbs : Int), .int (y.natAbs : Int)]) := upd_same
        generalize upd H5 a3 (.lst [V.int (x.natAbs : Int), .int (y.natAbs : Int)]) = H6 at sc ec ⊢
        refine ⟨a3, [(x.natAbs : Int), (y.natAbs : Int)], rfl, .inl (SqL.of ec), by show 2 ≤ 100000; decide, fun ms a4 pm asc n4 => ?_⟩
        have sd := Same.new (o := .lst (ms.map V.int)) n4
        have ed : (upd H6 a4 (.lst (ms.map V.int))) a4 = some (.lst (ms.map V.int)) := upd_same
        generalize upd H6 a4 (.lst (ms.map V.int)) = H7 at sd ed ⊢
        refine ⟨(by show 2 ≤ sizeLine; decide), fun a5 n5 => ?_⟩
        have se := Same.new (o := .lst [V.int 0, .int 1]) n5
        have ee : (upd H7 a5 (.lst [V.int 0, .int 1])) a5 = some (.lst [V.int 0, .int 1]) := upd_same
        have ed8 := se _ _ ed
        generalize upd H7 a5 (.lst [V.int 0, .int 1]) = H8 at se ee ed8 ⊢
        have s38 := (((sa.trans sb).trans sc).trans sd).trans se
        refine ⟨.list (ms.map PyData.int), .list [.int 0, .int 1], .lst (SqL.of ed8) (ints_dp ms), .lst (SqL.of ee) (.cons (.int 0) (.cons (.int 1) .nil)), ints_shapedL ms, ints_shapedL [0, 1], ?_⟩
        have hv : PyData.eqv (.list (ms.map PyData.int)) (.list [.int 0, .int 1]) = adjB (spAt sp i) (spAt sp j) := by
          have h1 : PyData.eqv (.list (ms.map PyData.int)) (.list ([0, 1].map PyData.int)) = decide (ms = [0, 1]) := ring_eqv ms [0, 1]
          rw [show PyData.list [.int 0, .int 1] = .list ([0, 1].map PyData.int) from rfl, h1, two_sorted pm asc]
          unfold adjB
          rw [hx, hy]
          refine decide_eq_decide.mpr ?_
          split
          · simp only [List.cons.injEq, and_true]
            omega
          · simp only [List.cons.injEq, and_true]
            omega
        rw [hv]
        refine ⟨_, rfl, ?_⟩
        have lz : zs.length ≤ 3600 := by
          have h1 := Paired.length pz
          rw [List.length_append] at h1
          have h2 := dueTo_len sp i
          have h3 := dueRow_len sp i j
          have h4 : i * sp.length ≤ 59 * 60 := Nat.mul_le_mul (by omega) l60
          omega
        by_cases hadj : adjB (spAt sp i) (spAt sp j) = true
        · refine iteT' hadj ?_
          refine ⟨_, rfl, .inl ⟨rfl, _, SqL.of (s38 _ _ eg)⟩, _, rfl, _, rfl, (by show 2 ≤ sizeLine; decide), fun t nt => ?_⟩
          have sf := Same.new (o := .tup [V.int (i : Int), .int (j : Int)]) nt
          have ef : (upd H8 t (.tup [V.int (i : Int), .int (j : Int)])) t = some (.tup [V.int (i : Int), .int (j : Int)]) := upd_same
          have eg9 := sf _ _ (s38 _ _ eg)
          have s9 := s38.trans sf
          generalize upd H8 t (.tup [V.int (i : Int), .int (j : Int)]) = H9 at sf ef eg9 s9 ⊢
          refine ⟨g, zs, _, rfl, rfl, eg9, Nat.lt_of_le_of_lt lz (by decide), ?_⟩
          refine ⟨_, _, _, _, rfl, upd_same, ?_, Same.upd_new (s3.trans s9) ng⟩
          rw [dueRow_succ, if_pos hadj, ← List.append_assoc]
          have up : ∀ b xs, H9 b = some (.tup xs) → upd H9 g (.lst (zs ++ [.ref t])) b = some (.tup xs) := fun b xs e => by
            rw [upd_ne (ne_of e eg9 fun z => by cases z)]
            exact e
          exact pair_app (TieR.mono pz fun b xs e => up _ _ (s9 _ _ e)) (.cons ⟨t, rfl, up _ _ ef⟩ .nil)
        · refine iteF' (by simpa using hadj) ?_
          refine ⟨_, _, _, zs, rfl, s38 _ _ eg, ?_, s3.trans s38⟩
          rw [dueRow_succ, if_neg hadj, List.append_nil]
          exact TieR.mono pz fun b xs e => s38 _ _ e
      · rintro σ H3 ⟨v3, v4, v5, zs, rfl, eg, pz, s3⟩
        exact ⟨_, _, _, _, zs, rfl, eg, by rw [dueTo_succ]; exact pz, s3⟩
    · rintro σ H2 ⟨v2, v3, v4, v5, zs, rfl, eg, pz, s2⟩
      refine ⟨_, rfl, g, _, rfl, .inl ⟨SqL.of eg, fun t nt => ?_⟩⟩
      have s3 := Same.new (o := .tup zs) nt
      refine k t zs _ (SqT.of upd_same) (Paired.mono (fun y t' h => ?_) pz) (s2.trans s3)
      obtain ⟨b, rfl, hb⟩ := h
      exact ⟨b, rfl, SqT.of (s3 _ _ hb)⟩
end
end Y
set_option Elab.async false
set_option linter.all false
set_option maxRecDepth 100000
set_option maxHeartbeats 4000000
namespace Y
open PySem L2
theorem room65 {k : Nat} {A : Around} (r : Room k A) : A.units + 65 < cLine := by have := r.un; omega
/-! ### the law's picture -/
abbrev sLPic : Stmt := top 47
abbrev NLPic : List Str := ["_law_spots", "_law_stand", "_law_signs", "_law_rows", "_law_line_here", "_law_row", "_law_column", "_law_spot"]
def spLPic (K : PySem.W.Frag) : Sp := fun vs H Q _ => ∃ (a b : Addr) (xs : List V) (sp : List (Int × Int)) (st : List Int) (h w : Nat), vs = [.ref a, .ref b] ∧ SqL K H a xs ∧ SqT K H b (st.map V.int) ∧ Paired (TieAt K H) xs sp ∧ sp.length = st.length ∧ SpOk sp h w ∧ Rng36 st ∧
  ∀ g H', H' g = some (.lst (((linesL (sp.zip st) h w).map strL).map V.str)) → H g = none → Same H H' → Q (.ref g) H'
theorem tsL_shaped (ts : List (Int × Int)) : SeqAt.shaped (.list (ts.map tieD)) = true := shaped_of (lay_all tie_lay ts) (Nat.le_trans (Nat.succ_le_succ (deep_all tie_deep ts)) (by decide))
theorem zip_keys {sp : List (Int × Int)} {st : List Int} (l : sp.length = st.length) : (sp.zip st).map (·.1) = sp := by
  rw [List.map_fst_zip]
  omega
theorem sign_in {sp : List (Int × Int)} {st : List Int} (nd : sp.Nodup) (l : sp.length = st.length) {k : Nat} {p : Int × Int} {z : Int} (hk : sp[k]? = some p) (hz : st[k]? = some z) : signAt (sp.zip st) p = sgN z := by
  have : (sp.zip st)[k]? = some (p, z) := List.getElem?_zip_eq_some.mpr ⟨hk, hz⟩
  have h := lookup_at (ps := sp.zip st) (q := (p, z)) (by rw [zip_keys l]; exact nd) (List.mem_of_getElem? this)
  unfold signAt
  rw [h]
theorem sign_out {sp : List (Int × Int)} {st : List Int} (l : sp.length = st.length) {p : Int × Int} (h : p ∉ sp) : signAt (sp.zip st) p = 35 := by
  unfold signAt
  cases e : (sp.zip st).lookup p with
  | none => rfl
  | some z =>
    have : p ∈ (sp.zip st).map (·.1) := List.mem_map.mpr ⟨_, lookup_mem e, rfl⟩
    rw [zip_keys l] at this
    exact absurd this h
theorem first_at {sp : List (Int × Int)} (nd : sp.Nodup) {p : Int × Int} (h : p ∈ sp) : ∃ k : Nat, sp[k]? = some p ∧ ∀ (m : Nat) q, m < k → sp[m]? = some q → q ≠ p := by
  obtain ⟨k, hk⟩ := List.mem_iff_getElem?.mp h
  refine ⟨k, hk, fun m q lt hm e => ?_⟩
  subst e
  obtain ⟨a1, g1⟩ := List.getElem?_eq_some_iff.mp hm
  obtain ⟨a2, g2⟩ := List.getElem?_eq_some_iff.mp hk
  exact List.pairwise_iff_getElem.mp nd m k a1 a2 lt (by rw [g1, g2])
section
variable {P : Program} {w : World} {K : PySem.W.Frag} {mg : Str → Option Value} {base : Heap} {fDraw : Addr}
theorem scLPic : FnScope NLPic ["_law_spots", "_law_stand"] (defScope sLPic) := ⟨rfl, rfl, rfl, by decide +kernel, rfl, by decide +kernel, by decide +kernel⟩
theorem ok_lpic {f : Addr} {fd : FuncData} (F : Fun K "_law_picture" "_law_picture" sLPic f fd) (T : TG K mg fDraw) (gM : mg "max" = none) : FnOk P w K mg base CX0 2 f fd ["_law_spots", "_law_stand"] (spLPic K) := by
  refine F.ok scLPic (fun vs H Q E h => ?_) (fun cdv A outer s H vs Q E hr h => ?_)
  · obtain ⟨a, b, xs, sp, st, h, w, rfl, _⟩ := h
    rfl
  · obtain ⟨a, b, xs, sp, st, h, w', rfl, ha, hb, px, l1, ok, r36, k⟩ := h
    have hu65 : (cxOf CX0 P w K mg base NLPic "_law_picture" (defScope sLPic) f cdv A outer s H E).nox.A.units + 65 < cLine := room65 hr
    have lx : xs.length = sp.length := Paired.length px
    refine ⟨_, pss_cons (ps_par (i := 2) (j := 3) rfl scLPic.nd rfl rfl (by decide) rfl rfl (pa_cons pe_str (pa_cons (pe_lst pa_nil) pa_nil)) (by rfl))
      (pss_cons (ps_for PassesOwn.never rfl (pi_range1 (by rfl) T.range (pa_cons (pe_op op_add (pe_callB (cr_max rfl) (by rfl) gM PyProof.Rows.boot_max (pa_cons
          (pe_lc (own := [("_law_spot", 7)]) (g := gName 7) (tt := tYes) rfl scLPic.nd (pi_list (pv 0)) (blkOk_by (N := NLPic) (sc := defScope sLPic) (by decide +kernel))
            (fun _ _ _ _ _ => pg_name (i := 7) scLPic.nd rfl (Or.inl rfl)) (fun _ _ _ _ _ => pts_nil) (fun _ _ _ _ _ => pe_ix (ixT_at (K := K) rfl) (pv 7) pe_int (fun _ _ => rfl))) pa_nil)) pe_int) pa_nil)) (pg_name (i := 4) scLPic.nd rfl (Or.inl rfl))
        (pss_cons (ps_set (i := 5) scLPic.nd rfl (Or.inl rfl) pe_str)
        (pss_cons (ps_for PassesOwn.never rfl (pi_range1 (by rfl) T.range (pa_cons (pe_op op_add (pe_callB (cr_max rfl) (by rfl) gM PyProof.Rows.boot_max (pa_cons
            (pe_lc (own := [("_law_spot", 7)]) (g := gName 7) (tt := tYes) rfl scLPic.nd (pi_list (pv 0)) (blkOk_by (N := NLPic) (sc := defScope sLPic) (by decide +kernel))
              (fun _ _ _ _ _ => pg_name (i := 7) scLPic.nd rfl (Or.inl rfl)) (fun _ _ _ _ _ => pts_nil) (fun _ _ _ _ _ => pe_ix (ixT_at (K := K) rfl) (pv 7) pe_int (fun _ _ => rfl))) pa_nil)) pe_int) pa_nil)) (pg_name (i := 6) scLPic.nd rfl (Or.inl rfl))
          (pss_one (ps_set (i := 5) scLPic.nd rfl (Or.inl rfl) (pe_op op_add_str (pv 5) (pe_ifExp (pt_cmpR (op_inD hu65) (pe_tup (pa_cons (pv 4) (pa_cons (pv 6) pa_nil))) (pv 0) (by rfl))
            (pe_ix ix_str (pv 2) (pe_ix ix_tup (pv 1) (pe_bm PySem.F.plainAttrs_list PySem.F.slot_list_index PySem.F.type_list_index (mt_indexD hu65) (pv 0) (pa_cons (pe_tup (pa_cons (pv 4) (pa_cons (pv 6) pa_nil))) pa_nil)) (fun _ _ => rfl)) (fun _ _ => rfl)) pe_str)))))
        (pss_one (ps_expr (pe_bm PySem.F.plainAttrs_list PySem.F.slot_list_append PySem.F.type_list_append mt_append (pv 3) (pa_cons (pv 5) pa_nil)))))))
      (pss_one (ps_ret (pv 3)))), ?_⟩
    have n60 := ok.l60
    refine ⟨(by show 0 ≤ sizeLine; decide), fun g ng => ⟨_, _, rfl, ?_⟩⟩
    refine sq_st (σ' := [some (.ref a), some (.ref b), some (.str signsV), some (.ref g), none, none, none, none]) rfl ?_
    have s1 := Same.new (o := .lst ([] : List V)) ng
    have e1 : (upd H g (.lst ([] : List V))) g = some (.lst []) := upd_same
    generalize upd H g (.lst ([] : List V)) = H1 at s1 e1 ⊢
    have L1 : ∀ {H' : Hp}, Same H H' → SqL K H' a xs := fun s => (Kp.of_same s).seqL ha
    refine ⟨_, rfl, a, rfl, ⟨_, L1 s1⟩, fun D2 nD2 => ?_⟩
    refine lc_it (walk_list (K := K) (a := a) (xs := xs)) (fun i H' => H' D2 = some (.lst (((sp.take i).map fun p => p.1).map V.int)) ∧ Same H1 H') ⟨upd_same, Same.new nD2⟩ (fun i H' _ h => L1 (s1.trans h.2)) ?_ ?_
    · rintro i v H2 H2' hi ⟨eD2, s2⟩ ⟨rfl, hx⟩
      obtain ⟨q, eq, b', rfl, hb'⟩ := par_get px hx
      refine ⟨rfl, yes_if ?_⟩
      refine ⟨_, rfl, b', _, 0, _, rfl, rfl, Same.seqT (s1.trans s2) hb', atI_nat (j := 0) rfl, _, eD2, ?_, ?_, Same.upd_new s2 nD2⟩
      · rw [List.length_map, List.length_map, List.length_take]
        exact Nat.lt_of_le_of_lt (by omega : _ ≤ 60) (by decide)
      · rw [upd_same, take_next eq, List.map_append, List.map_append]
        rfl
    · rintro H2 ⟨eD2, s2⟩
      rw [lx, List.take_length] at eD2
      refine ⟨D2, sp.map (fun p => p.1), rfl, SqL.of eD2, by rw [List.length_map]; exact List.length_pos_iff.mpr ok.ne, fun m hm hle => ?_⟩
      obtain rfl : m = (h : Int) - 1 := by
        obtain ⟨p, hp, rfl⟩ := List.mem_map.mp hm
        obtain ⟨p2, hp2, e2⟩ := ok.mh
        have h1 := hle p2.1 (List.mem_map.mpr ⟨p2, hp2, rfl⟩)
        have h2 := (ok.box p hp).2.1
        omega
      have h60 := ok.h60
      have w60 := ok.w60
      refine ⟨_, _, rfl, rfl, _, rfl, by omega, by omega, ?_⟩
      rw [show ((h : Int) - 1 + 1).toNat = h by omega]
      have s12 := s1.trans s2
      have eg2 := s2 _ _ e1
      refine for_range (lo := 0) (n := h) (fun i σ H' => ∃ (v4 v5 v6 v7 : Option V), σ = [some (.ref a), some (.ref b), some (.str signsV), some (.ref g), v4, v5, v6, v7] ∧ H' g = some (.lst ((((linesL (sp.zip st) h w').take i).map strL).map V.str)) ∧ Same H H')
        ⟨none, none, none, none, rfl, eg2, s12⟩ ?_ ?_
      · rintro i σ H3 hi ⟨v4, v5, v6, v7, rfl, eg, s3⟩
        refine gset_go (σ' := [some (.ref a), some (.ref b), some (.str signsV), some (.ref g), some (.int (0 + (i : Int))), v5, v6, v7]) rfl ?_
        rw [Int.zero_add]
        refine gset_go (σ' := [some (.ref a), some (.ref b), some (.str signsV), some (.ref g), some (.int (i : Int)), some (.str (strL [])), v6, v7]) rfl ?_
        refine ⟨_, rfl, a, rfl, ⟨_, L1 s3⟩, fun D3 nD3 => ?_⟩
        refine lc_it (walk_list (K := K) (a := a) (xs := xs)) (fun i H' => H' D3 = some (.lst (((sp.take i).map fun p => p.2).map V.int)) ∧ Same H3 H') ⟨upd_same, Same.new nD3⟩ (fun i H' _ h => L1 (s3.trans h.2)) ?_ ?_
        · rintro i v H4 H4' hi ⟨eD3, s4⟩ ⟨rfl, hx⟩
          obtain ⟨q, eq, b', rfl, hb'⟩ := par_get px hx
          refine ⟨rfl, yes_if ?_⟩
          refine ⟨_, rfl, b', _, 1, _, rfl, rfl, Same.seqT (s3.trans s4) hb', atI_nat (j := 1) rfl, _, eD3, ?_, ?_, Same.upd_new s4 nD3⟩
          · rw [List.length_map, List.length_map, List.length_take]
            exact Nat.lt_of_le_of_lt (by omega : _ ≤ 60) (by decide)
          · rw [upd_same, take_next eq, List.map_append, List.map_append]
            rfl
        · rintro H4 ⟨eD3, s4⟩
          rw [lx, List.take_length] at eD3
          refine ⟨D3, sp.map (fun p => p.2), rfl, SqL.of eD3, by rw [List.length_map]; exact List.length_pos_iff.mpr ok.ne, fun m hm hle => ?_⟩
          obtain rfl : m = (w' : Int) - 1 := by
            obtain ⟨p, hp, rfl⟩ := List.mem_map.mp hm
            obtain ⟨p2, hp2, e2⟩ := ok.mw
            have h1 := hle p2.2 (List.mem_map.mpr ⟨p2, hp2, rfl⟩)
            have h2 := (ok.box p hp).2.2.2
            omega
          refine ⟨_, _, rfl, rfl, _, rfl, by omega, by omega, ?_⟩
          rw [show ((w' : Int) - 1 + 1).toNat = w' by omega]
          have s34 := s3.trans s4
          have eg4 := s4 _ _ eg
          refine for_range (lo := 0) (n := w') (fun j σ H' => ∃ (v6 v7 : Option V), σ = [some (.ref a), some (.ref b), some (.str signsV), some (.ref g), some (.int (i : Int)), some (.str (strL ((List.range j).map fun (j : Nat) => signAt (sp.zip st) ((i : Int), (j : Int))))), v6, v7] ∧ H' g = some (.lst ((((linesL (sp.zip st) h w').take i).map strL).map V.str)) ∧ Same H H')
            ⟨v6, v7, rfl, eg4, s34⟩ ?_ ?_
          · rintro j σ H5 hj ⟨v6, v7, rfl, eg, s5⟩
            refine gset_go (σ' := [some (.ref a), some (.ref b), some (.str signsV), some (.ref g), some (.int (i : Int)), some (.str (strL ((List.range j).map fun (j : Nat) => signAt (sp.zip st) ((i : Int), (j : Int))))), some (.int (0 + (j : Int))), v7]) rfl ?_
            rw [Int.zero_add]
            refine ⟨_, rfl, _, rfl, _, rfl, (by show 2 ≤ sizeLine; decide), fun t nt => ?_⟩
            have s6 := Same.new (o := .tup [.int (i : Int), .int (j : Int)]) nt
            have e6 : (upd H5 t (.tup [.int (i : Int), .int (j : Int)])) t = some (.tup [.int (i : Int), .int (j : Int)]) := upd_same
            have eg6 := s6 _ _ eg
            generalize upd H5 t (.tup [.int (i : Int), .int (j : Int)]) = H6 at s6 e6 eg6 ⊢
            have s56 := s5.trans s6
            refine ⟨_, rfl, tieD ((i : Int), (j : Int)), sp.map tieD, dp_tie (SqT.of e6), .lst (L1 s56) (ties_dp (ties_kp px (.of_same s56))), shaped_tie _, tsL_shaped sp, _, rfl, ?_⟩
            rw [any_tie]
            have done : ∀ (c : Nat) (H7 : Hp), Same H6 H7 → c = signAt (sp.zip st) ((i : Int), (j : Int)) → ∃ a_1 b_1, V.str (strL ((List.range j).map fun (j : Nat) => signAt (sp.zip st) ((i : Int), (j : Int)))) = V.str a_1 ∧ V.str ⟨#[c]⟩ = V.str b_1 ∧ a_1.length + b_1.length ≤ sizeLine ∧
                gName 5 (.str (a_1 ++ b_1)) [some (.ref a), some (.ref b), some (.str signsV), some (.ref g), some (.int (i : Int)), some (.str (strL ((List.range j).map fun (j : Nat) => signAt (sp.zip st) ((i : Int), (j : Int))))), some (.int (j : Int)), v7] H7
                  (fun σ H' => ∃ (v6 v7 : Option V), σ = [some (.ref a), some (.ref b), some (.str signsV), some (.ref g), some (.int (i : Int)), some (.str (strL ((List.range (j + 1)).map fun (j : Nat) => signAt (sp.zip st) ((i : Int), (j : Int))))), v6, v7] ∧ H' g = some (.lst ((((linesL (sp.zip st) h w').take i).map strL).map V.str)) ∧ Same H H') := fun c H7 s7 ec => by
              refine ⟨_, _, rfl, rfl, ?_, ?_⟩
              · rw [strL_len, List.length_map, List.length_range]
                exact Nat.le_trans (by show j + 1 ≤ 61; omega) (by decide)
              · refine gset_go (σ' := [some (.ref a), some (.ref b), some (.str signsV), some (.ref g), some (.int (i : Int)), some (.str (strL ((List.range (j + 1)).map fun (j : Nat) => signAt (sp.zip st) ((i : Int), (j : Int))))), some (.int (j : Int)), v7]) ?_ ⟨_, _, rfl, s7 _ _ eg6, s56.trans s7⟩
                have e : strL ((List.range j).map fun (j : Nat) => signAt (sp.zip st) ((i : Int), (j : Int))) ++ ⟨#[c]⟩ = strL ((List.range (j + 1)).map fun (j : Nat) => signAt (sp.zip st) ((i : Int), (j : Int))) := by
                  rw [show (⟨#[c]⟩ : Str) = strL [c] from rfl, strL_app, List.range_succ, List.map_append, ec]
                  rfl
                rw [e]
                rfl
            by_cases c : ((i : Int), (j : Int)) ∈ sp
            · refine iteT' (decide_eq_true c) ?_
              obtain ⟨kk, hk, first⟩ := first_at ok.nd c
              have kl := (List.getElem?_eq_some_iff.mp hk).1
              obtain ⟨z, hz⟩ : ∃ z, st[kk]? = some z := ⟨_, List.getElem?_eq_getElem (by omega)⟩
              have mz := r36 z (List.mem_of_getElem? hz)
              refine ⟨_, rfl, _, rfl, _, rfl, .inl ⟨rfl, _, L1 s56⟩, _, rfl, _, rfl, (by show 2 ≤ sizeLine; decide), fun t2 nt2 => ?_⟩
              have s7 := Same.new (o := .tup [.int (i : Int), .int (j : Int)]) nt2
              have e7 : (upd H6 t2 (.tup [.int (i : Int), .int (j : Int)])) t2 = some (.tup [.int (i : Int), .int (j : Int)]) := upd_same
              generalize upd H6 t2 (.tup [.int (i : Int), .int (j : Int)]) = H7 at s7 e7 ⊢
              have s57 := s56.trans s7
              refine ⟨a, .ref t2, tieD ((i : Int), (j : Int)), sp.map tieD, kk, tieD ((i : Int), (j : Int)), rfl, rfl, .lst (L1 s57) (ties_dp (ties_kp px (.of_same s57))), dp_tie (SqT.of e7), tsL_shaped sp, shaped_tie _, by rw [List.getElem?_map, hk]; rfl, by rw [eqv_tie]; exact decide_eq_true rfl, fun m z' lt hz' => ?_, ?_⟩
              · rw [List.getElem?_map] at hz'
                cases em : sp[m]? with
                | none => rw [em] at hz'; cases hz'
                | some q =>
                  rw [em] at hz'
                  rw [← Option.some.inj hz', eqv_tie]
                  exact decide_eq_false (first m q lt em)
              · refine ⟨b, _, _, .int z, rfl, rfl, Same.seqT s57 hb, atI_nat (by rw [List.getElem?_map, hz]; rfl), signsV, z, sgN z, rfl, rfl, Nat.le_trans (by decide +kernel : signsV.length ≤ 36) (by decide), sg_at mz.1 mz.2, ?_⟩
                exact done _ _ s7 (sign_in ok.nd l1 hk hz).symm
            · refine iteF' (decide_eq_false c) ?_
              exact done 35 _ (Same.refl' _) (sign_out l1 c).symm
          · rintro σ H5 ⟨v6, v7, rfl, eg, s5⟩
            refine ⟨_, rfl, .inl ⟨rfl, _, SqL.of eg⟩, _, rfl, g, _, _, rfl, rfl, eg, ?_, ?_⟩
            · rw [List.length_map, List.length_map, List.length_take]
              exact Nat.lt_of_le_of_lt (by omega : _ ≤ 60) (by decide)
            · refine ⟨_, _, _, _, rfl, ?_, Same.upd_new s5 ng⟩
              have el : (linesL (sp.zip st) h w')[i]? = some (rowL (sp.zip st) i w') := by
                unfold linesL
                rw [List.getElem?_map, List.getElem?_range hi]
                rfl
              rw [upd_same, take_next el, List.map_append, List.map_append]
              rfl
      · rintro σ H3 ⟨v4, v5, v6, v7, rfl, eg, s3⟩
        have ll : (linesL (sp.zip st) h w').length = h := by
          unfold linesL
          rw [List.length_map, List.length_range]
        rw [List.take_of_length_le (by omega)] at eg
        exact ⟨_, rfl, k g _ eg ng s3⟩
end
end Y
set_option Elab.async false
set_option linter.all false
set_option maxRecDepth 100000
set_option maxHeartbeats 4000000
namespace Y
open PySem PySem.Spec PyProof.Rows L2 LamX
/-! ### the law's own tries -/
abbrev sLine : Stmt := top 43
abbrev sWhy : Stmt := top 44
def tLineS (C : Addr) : Addr → Value → Option Addr → TS := fun a cls d => tRet (tTup (tCons (tXf a cls d C "line" (tVar 1)) (tCons (tXf a cls d C "column" (tVar 1)) tNil)))
/-- a text that is refused at line ln, column co -/
def spLine (K : PySem.W.Frag) (CB : Addr) : Sp := fun vs H Q _ => ∃ (v : V) (ln co : Int), vs = [v] ∧ (∀ E : XK, RaisedF CB [("column", .int co), ("line", .int ln)] H E → spReadX K CB [v] H (fun _ _ => False) E) ∧ ∀ t H', Same H H' → H' t = some (.tup [.int ln, .int co]) → Q (.ref t) H'
structure TWhy (K : PySem.W.Frag) (mg : Str → Option Value) (CR CM : Addr) : Prop where
  gR : mg "BadRow" = some (.ref CR)
  gM : mg "BadMove" = some (.ref CM)
  xR : XfC K CR
  xM : XfC K CM
  nR : PySem.W.findIn K (.ref CR) "row" = some none
  nM : PySem.W.findIn K (.ref CM) "index" = some none
  tR : PySem.W.exmOne K (.ref CR) (.ref CR) = some true
  mR : PySem.W.exmOne K (.ref CM) (.ref CR) = some false
  mM : PySem.W.exmOne K (.ref CM) (.ref CM) = some true
/-- what the lambda's call comes to: a BadMove, or a BadRow -/
def TTe (CR CM : Addr) : (XK → Hp → VK → Prop) → Hp → VK → Prop := fun tl H Q => ∀ R : VK,
  tl (fun cls d H' => (cls = .ref CM ∧ ∃ dd v, d = some dd ∧ H' dd = some (.xd [("index", v)]) ∧ ∀ t, H' t = none → Q (.ref t) (upd H' t (.lst [.str "move", v]))) ∨
    (cls = .ref CR ∧ ∃ dd v, d = some dd ∧ H' dd = some (.xd [("row", v)]) ∧ ∀ t, H' t = none → Q (.ref t) (upd H' t (.lst [.str "row", v])))) H R
def tSuL (C : Addr) (tag f : Str) : Addr → Value → Option Addr → TS := fun a cls d => tRet (tLst (tCons (tC (.str tag)) (tCons (tXf a cls d C f (tVar 1)) tNil)))
theorem takes_len {X : Cx} {W : WX} (tk : Takes X W) : Takes X (fun cls d σ H => σ.length = X.N.length → W cls d σ H) := fun u s' x => by
  obtain ⟨a, B, sI, pins', σ', H', cls, d, e, J, r1, r2, r3, r4, r5, r6, w⟩ := x
  exact tk u s' ⟨a, B, sI, pins', σ', H', cls, d, e, J, r1, r2, r3, r4, r5, r6, w J.len⟩
section
variable {P : Program} {w : World} {K : PySem.W.Frag} {mg : Str → Option Value} {base : Heap} {CB CR CM fIB fRd : Addr}
theorem scLine : FnScope ["_law_text", "e"] ["_law_text"] (defScope sLine) := ⟨rfl, rfl, rfl, by decide +kernel, rfl, by decide +kernel, by decide +kernel⟩
theorem ok_line {f : Addr} {fd fdR : FuncData} (F : Fun K "_law_line" "_law_line" sLine f fd) (T : XE2 K mg "BadLine" "line" "column" CB fIB) (te : PySem.W.exmOne K (.ref CB) (.ref CB) = some true) (gR : mg "read_floor" = some (.ref fRd))
    (GR : FnOk P w K mg base (L2.CX P w) 7 fRd fdR ["text"] (spReadX K CB)) (FR : Fun K "read_floor" "read_floor" sRead fRd fdR) (bR : Binds K fdR ["text"] []) : FnOk P w K mg base CX0 8 f fd ["_law_text"] (spLine K CB) := by
  refine F.ok scLine (fun vs H Q E h => ?_) (fun cdv A outer s H vs Q E hr h => ?_)
  · obtain ⟨x, ln, co, rfl, _⟩ := h
    rfl
  · obtain ⟨x, ln, co, rfl, hx, k⟩ := h
    refine ⟨_, pss_cons (ps_try_as (i := 1) (tb := fun W => tDrop (tCallS (spReadX K CB) (WE W) (tCons (tVar 0) tNil))) (ts := tLineS CB) (Wout := fun _ _ _ _ => False) rfl rfl scLine.nd rfl rfl ⟨rfl, by decide, Or.inl T.g⟩ L2.takes0
        (fun W pn xe tk _ => pss_one (ps_expr (by exact (pe_callS GR hr rfl gR FR.kp bR (fun σ => passAt tk σ) (by exact (pa_cons (pv 0) pa_nil))))))
        (fun a oe cls d pn hz hf => pss_one (ps_ret (by exact (pe_tup (pa_cons (pe_xf T.xc.x T.n hz hf (pv 1)) (pa_cons (pe_xf T.xc.x T.n2 hz hf (pv 1)) pa_nil)))))))
      (pss_one (ps_ret pe_non)), ?_⟩
    refine ⟨_, rfl, ?_⟩
    have go := hx (WE (wAs K (.ref CB) 1 (tLineS CB) (fun _ _ _ _ => False) { nx := tRet (tC V.non) { nx := fun _ H' => Q .non H', rt := Q }, rt := Q }) (L2.start ["_law_text", "e"] [x])) (fun d H2 s2 e2 => by
      refine ⟨true, te, fun _ a ha => ?_, fun z => Bool.noConfusion z⟩
      refine ⟨_, rfl, rfl, rfl, d, _, _, rfl, e2, rfl, _, rfl, rfl, rfl, d, _, _, rfl, e2, rfl, (by show 2 ≤ sizeLine; decide), fun t nt => ?_⟩
      exact k t _ (s2.trans (Same.new nt)) upd_same)
    obtain ⟨v, e, go⟩ := go
    refine ⟨v, e, ?_⟩
    rcases go with go | go | go
    · exact .inl go
    · obtain ⟨ls, i, j, e2, q⟩ := go
      exact .inr (.inl ⟨ls, i, j, e2, q⟩)
    · exact .inr (.inr go)
theorem scWhy : FnScope ["_law_call", "e"] ["_law_call"] (defScope sWhy) := ⟨rfl, rfl, rfl, by decide +kernel, rfl, by decide +kernel, by decide +kernel⟩
theorem why_gives {X : Cx} {q : Str} {g : Addr} {cdg : Value} (T : TWhy X.K X.mg CR CM) : GivesTo X ["_law_call", "e"] "_law_why" (defScope sWhy) g cdg (defBody sWhy) "_law_call" q (TTe CR CM) := by
  intro f c' s H Q tl act hc h
  refine ⟨_, (pss_cons (ps_try_each (X := (cxOf C8.CX0 X.prog X.w X.K X.mg X.base ["_law_call", "e"] "_law_why" (defScope sWhy) g cdg X.A X.stack s H C8.E0).nox) (i := 1) (n := "e") (Wout := fun _ _ _ _ => False)
      (l := [(.ref CR, tSuL CR "row" "row"), (.ref CM, tSuL CM "move" "index")])
      (tb := fun W D σ H => ∃ Ech : XK, (∀ cls d σ' H', σ'.length = 2 → Ech cls d H' → W cls d σ' H') ∧ σ[0]? = some (some (.ref f)) ∧ H c' = some (CodeO c' q) ∧ tl Ech H (fun _ H' => D.nx σ H'))
      rfl rfl scWhy.nd rfl rfl L2.takes0 (fun W pn xe tk _ => ?body)
      (.cons ⟨rfl, by decide, Or.inl T.gR⟩ (fun a oe cls d pn hz hf => pss_one (ps_ret (pe_lst (pa_cons pe_str (pa_cons (by exact pe_xf T.xR T.nR hz hf (pv 1)) pa_nil)))))
      (.cons ⟨rfl, by decide, Or.inl T.gM⟩ (fun a oe cls d pn hz hf => pss_one (ps_ret (pe_lst (pa_cons pe_str (pa_cons (by exact pe_xf T.xM T.nM hz hf (pv 1)) pa_nil))))) .nil)))
    (pss_one (ps_ret (pe_lst pa_nil)))), ?_⟩
  case body =>
    refine ⟨fun pins s' σ H' D I h' => ?_⟩
    obtain ⟨Ech, hW, h1, h2, h3⟩ := h'
    exact (pss_one (ps_expr (act _ pn xe Ech _ _ (takes_len tk) (fun cls d σ' H' e l => hW cls d σ' H' l e)))).run pins s' σ H' D I ⟨h1, h2, h3⟩
  · refine ⟨fun cls d H' => (cls = .ref CM ∧ ∃ dd v, d = some dd ∧ H' dd = some (.xd [("index", v)]) ∧ ∀ t, H' t = none → Q (.ref t) (upd H' t (.lst [.str "move", v]))) ∨
      (cls = .ref CR ∧ ∃ dd v, d = some dd ∧ H' dd = some (.xd [("row", v)]) ∧ ∀ t, H' t = none → Q (.ref t) (upd H' t (.lst [.str "row", v]))), ?_, rfl, hc, h _⟩
    rintro cls d σ' H' lσ (⟨rfl, dd, v, rfl, e, k⟩ | ⟨rfl, dd, v, rfl, e, k⟩)
    · refine ⟨false, T.mR, fun z => Bool.noConfusion z, fun _ => ⟨true, T.mM, fun _ a ha => ?_, fun z => Bool.noConfusion z⟩⟩
      match σ', lσ with
      | [v0, v1], _ => exact ⟨_, rfl, rfl, rfl, dd, _, v, rfl, e, rfl, (by show 2 ≤ sizeLine; decide), fun t nt => k t nt⟩
    · refine ⟨true, T.tR, fun _ a ha => ?_, fun z => Bool.noConfusion z⟩
      match σ', lσ with
      | [v0, v1], _ => exact ⟨_, rfl, rfl, rfl, dd, _, v, rfl, e, rfl, (by show 2 ≤ sizeLine; decide), fun t nt => k t nt⟩
end
end Y
set_option Elab.async false
set_option linter.all false
set_option maxRecDepth 100000
set_option maxHeartbeats 4000000
namespace Y
open PySem PySem.Spec PyProof.Rows L2 LamX
/-! ### what stands while the law runs -/
def Ky (H H' : Hp) : Prop := ∀ b o, H b = some o → (∀ kvs, o ≠ .dK kvs) → (∀ ps, o ≠ .tbl ps) → H' b = some o
theorem Ky.of_kp {H H' : Hp} (s : Kp H H') : Ky H H' := fun b o e n _ => s b o e n
theorem Ky.of_ext {H H' : Hp} (s : ExtN H H') : Ky H H' := fun b o e _ n => s b o e n
theorem Ky.of_same {H H' : Hp} (s : Same H H') : Ky H H' := fun b o e _ _ => s b o e
theorem Ky.trans {H H1 H2 : Hp} (a : Ky H H1) (b : Ky H1 H2) : Ky H H2 := fun c o e n m => b c o (a c o e n m) n m
section
variable {K : PySem.W.Frag} {H H' : Hp}
theorem Ky.lst {a : Addr} {xs : List V} (s : Ky H H') (h : H a = some (.lst xs)) : H' a = some (.lst xs) := s _ _ h (fun _ z => by cases z) (fun _ z => by cases z)
theorem Ky.seqT {a : Addr} {xs : List V} (s : Ky H H') (h : SqT K H a xs) : SqT K H' a xs := by
  rcases h with (h | ⟨o, h⟩) | h
  · exact .inl (.inl (s _ _ h (fun _ z => by cases z) (fun _ z => by cases z)))
  · exact .inl (.inr ⟨o, s _ _ h (fun _ z => by cases z) (fun _ z => by cases z)⟩)
  · exact .inr h
theorem Ky.ties {ys : List V} {ts : List (Int × Int)} (s : Ky H H') (h : Paired (TieAt K H) ys ts) : Paired (TieAt K H') ys ts := par_map (fun y r ⟨b, e, hb⟩ => ⟨b, e, s.seqT hb⟩) h
theorem Ky.rings {ys : List V} {rs : List (List Int)} (s : Ky H H') (h : Paired (RingAt K H) ys rs) : Paired (RingAt K H') ys rs := par_map (fun y r ⟨b, e, hb⟩ => ⟨b, e, s.seqT hb⟩) h
theorem Ky.yc {C x : Addr} {n : Nat} {ts : List (Int × Int)} {rs : List (List Int)} (s : Ky H H') (h : YObjC K H C x n ts rs) : YObjC K H' C x n ts rs := by
  obtain ⟨dx, a, e, fs, ys, zs, h1, h2, h3, h4, h5, h6, h7, h8, h9⟩ := h
  exact ⟨dx, a, e, fs, ys, zs, s _ _ h1 (fun _ z => by cases z) (fun _ z => by cases z), h2, h3, h4, h5, s.seqT h6, s.ties h7, s.seqT h8, s.rings h9⟩
theorem Ky.fl {CF x t y u : Addr} (s : Ky H H') (h : FlAt H CF x t y u) : FlAt H' CF x t y u := by
  obtain ⟨dx, fs, h1, h2⟩ := h
  exact ⟨dx, fs, s _ _ h1 (fun _ z => by cases z) (fun _ z => by cases z), h2⟩
theorem Ky.mvs {ys : List V} {ms : List Mv} (s : Ky H H') (h : MvsAt K H ys ms) : MvsAt K H' ys ms := par_map (fun y r ⟨b, e, hb⟩ => ⟨b, e, s.seqT hb⟩) h
theorem Pen.ext {p l : Addr} {b : Nat} (h : Pen H p l b) (s : ExtN H H') : Pen H' p l b := by
  obtain ⟨ns, a, g, c, f, h1, h2, h3⟩ := h.ex
  exact ⟨ns, a, g, c, f, s _ _ h1 (by intro _ z; cases z), s _ _ h2 (by intro _ z; cases z), h3⟩
theorem tabS_kp {Pp : Addr} {q : Str} (t : TabS H Pp q) (s : Kp H H') : TabS H' Pp q := by
  obtain ⟨ps, h1, h2, h3⟩ := t
  refine ⟨ps, s _ _ h1 (by intro _ z; cases z), h2, fun pos cv hc => ?_⟩
  obtain ⟨c, e1, e2⟩ := h3 pos cv hc
  exact ⟨c, e1, s _ _ e2 (by intro _ z; unfold CodeO at z; cases z)⟩
theorem tabs_kp {T : List (Addr × Str)} (t : Tabs T H) (s : Kp H H') : Tabs T H' := fun p hp => tabS_kp (t p hp) s
end
theorem ixL_at {X : Cx} {K : PySem.W.Frag} (e : X.K = K) : IxR X (rIxL K) := by
  subst e
  exact ix_list
/-- nothing raised -/
theorem passF {X : Cx} {P : Program} {w : World} : Passes (L2.CX P w) X (fun _ _ _ => False) := fun _ _ _ _ _ _ _ h => by
  obtain ⟨_, _, _, _, _, _, _, _, _, _, _, _, z⟩ := h
  exact z.elim
/-! ### drawn spots have a greatest line and a greatest column -/
theorem max_of : ∀ {l : List Int}, l ≠ [] → ∃ m ∈ l, ∀ x ∈ l, x ≤ m
  | [], h => absurd rfl h
  | [a], _ => ⟨a, by simp, fun x hx => by rw [List.mem_singleton.mp hx]; exact Int.le_refl _⟩
  | a :: b :: l, _ => by
    obtain ⟨m, hm, hle⟩ := max_of (l := b :: l) (by simp)
    by_cases c : m ≤ a
    · exact ⟨a, List.mem_cons_self, fun x hx => by
        rcases List.mem_cons.mp hx with rfl | hx
        · exact Int.le_refl _
        · exact Int.le_trans (hle x hx) c⟩
    · exact ⟨m, List.mem_cons_of_mem _ hm, fun x hx => by
        rcases List.mem_cons.mp hx with rfl | hx
        · omega
        · exact hle x hx⟩
theorem SpD.nd {sp : List (Int × Int)} (h : SpD sp) : sp.Nodup := List.Pairwise.imp (fun {a b} hab e => by rw [e] at hab; exact lex_asymm hab hab) h.asc
theorem SpD.ok {sp : List (Int × Int)} (d : SpD sp) : ∃ h w : Nat, SpOk sp h w ∧ 1 ≤ h ∧ h ≤ 3 ∧ w ≤ 4 := by
  obtain ⟨m1, hm1, le1⟩ := max_of (l := sp.map (·.1)) (fun z => d.ne (List.map_eq_nil_iff.mp z))
  obtain ⟨m2, hm2, le2⟩ := max_of (l := sp.map (·.2)) (fun z => d.ne (List.map_eq_nil_iff.mp z))
  obtain ⟨p1, hp1, rfl⟩ := List.mem_map.mp hm1
  obtain ⟨p2, hp2, rfl⟩ := List.mem_map.mp hm2
  obtain ⟨a0, a1, _, _⟩ := d.box p1 hp1
  obtain ⟨_, _, b0, b1⟩ := d.box p2 hp2
  have l9 := d.l9
  refine ⟨(p1.1 + 1).toNat, (p2.2 + 1).toNat, ⟨d.ne, by omega, d.nd, fun p hp => ?_, ⟨p1, hp1, by omega⟩, ⟨p2, hp2, by omega⟩, by omega, by omega⟩, by omega, by omega, by omega⟩
  have h1 := le1 p.1 (List.mem_map.mpr ⟨p, hp, rfl⟩)
  have h2 := le2 p.2 (List.mem_map.mpr ⟨p, hp, rfl⟩)
  obtain ⟨c0, _, d0, _⟩ := d.box p hp
  exact ⟨c0, by omega, d0, by omega⟩
theorem pic_ok {sp : List (Int × Int)} {st : List Int} {h w : Nat} (d : SpD sp) (ok : SpOk sp h w) (l : sp.length = st.length) (r : Rng36 st) : PicOk (sp.zip st) h w := by
  refine ⟨?_, fun p hp => r p.2 (List.of_mem_zip hp).2, fun p hp => ok.box p.1 (List.of_mem_zip hp).1⟩
  have := d.asc
  rw [← zip_keys l, List.pairwise_map] at this
  exact this
theorem lines_ne {ps : Placed} {h w : Nat} (h1 : 1 ≤ h) : linesL ps h w ≠ [] := fun z => by
  have : (linesL ps h w).length = h := by unfold linesL; rw [List.length_map, List.length_range]
  rw [z] at this
  rw [List.length_nil] at this
  omega
theorem lines_len (ps : Placed) (h w : Nat) : (linesL ps h w).length = h := by unfold linesL; rw [List.length_map, List.length_range]
theorem textL_app (ls ms : List (List Nat)) : textL (ls ++ ms) = textL ls ++ textL ms := List.flatMap_append
theorem textL_nl {ls : List (List Nat)} (h : ls ≠ []) : textL ls = joinL 10 ls ++ [10] := by rw [textL_join ls h, joinL_app 10 ls [] h]
/-! ### texts that show them -/
structure ShOk (ps : Placed) (z : Str) : Prop where
  ex : ∃ ls : List (List Nat), z = strL (joinL 10 ls) ∧ ls ≠ [] ∧ ls.length ≤ 60 ∧ (∀ l ∈ ls, l.length ≤ 60 ∧ ∀ c ∈ l, c ∈ SG ∨ c = 35) ∧ (joinL 10 ls).length ≤ 10000 ∧ foundF ls ls.length = ps
theorem sh_more {ps : Placed} {h w : Nat} (ok : PicOk ps h w) (h1 : 1 ≤ h) (h3 : h ≤ 3) (w4 : w ≤ 4) {ex : List (List Nat)} (e1 : ex.length ≤ 1) (e2 : ∀ l ∈ ex, l.length ≤ 60 ∧ ∀ c ∈ l, c = 35) : ShOk ps (strL (textL (linesL ps h w ++ ex))) := by
  have ne : linesL ps h w ++ ex ≠ [] := fun z => lines_ne h1 (List.append_eq_nil_iff.mp z).1
  have good : ∀ l ∈ linesL ps h w ++ ex ++ [[]], l.length ≤ 60 ∧ ∀ c ∈ l, c ∈ SG ∨ c = 35 := fun l hl => by
    rcases List.mem_append.mp hl with hl | hl
    · rcases List.mem_append.mp hl with hl | hl
      · have := line_ok ok l hl
        exact ⟨by omega, this.2⟩
      · exact ⟨(e2 l hl).1, fun c hc => .inr ((e2 l hl).2 c hc)⟩
    · rw [List.mem_singleton.mp hl]
      exact ⟨Nat.zero_le _, fun c hc => by cases hc⟩
  have len : (linesL ps h w ++ ex ++ [[]]).length ≤ 5 := by
    rw [List.length_append, List.length_append, lines_len]
    show h + ex.length + 1 ≤ 5
    omega
  refine ⟨linesL ps h w ++ ex ++ [[]], by rw [textL_join _ ne], by simp, by omega, good, ?_, ?_⟩
  · have := joinL_le (c := 10) (k := 60) (ls := linesL ps h w ++ ex ++ [[]]) fun l hl => (good l hl).1
    have : (linesL ps h w ++ ex ++ [[]]).length * 61 ≤ 5 * 61 := Nat.mul_le_mul_right _ len
    omega
  · rw [List.append_assoc, (same_more (ls := linesL ps h w) (ms := ex ++ [[]]) fun l hl c hc => ?_).found, found_pic ok]
    rcases List.mem_append.mp hl with hl | hl
    · rw [(e2 l hl).2 c hc]
      exact wall_sg
    · rw [List.mem_singleton.mp hl] at hc
      cases hc
def Loose (m l : List Nat) : Prop := ∃ k r, k ≤ l.length ∧ r ≤ 2 ∧ m = l.take k ++ List.replicate r 35 ∧ ∀ j c, k ≤ j → l[j]? = some c → c = 35
theorem par_get' {α β : Type} {R : α → β → Prop} {xs : List α} {ys : List β} (h : Paired R xs ys) : ∀ {i : Nat} {y : β}, ys[i]? = some y → ∃ x, xs[i]? = some x ∧ R x y := by
  induction h with
  | nil => intro i y e; simp at e
  | cons a _ ih =>
    intro i y e
    cases i with
    | zero => cases Option.some.inj e; exact ⟨_, rfl, a⟩
    | succ i => exact ih e
theorem sh_loose {ps : Placed} {h w : Nat} (ok : PicOk ps h w) (h1 : 1 ≤ h) (h3 : h ≤ 3) (w4 : w ≤ 4) {ms : List (List Nat)} (p : Paired Loose ms (linesL ps h w)) : ShOk ps (strL (joinL 10 ms)) := by
  have len : ms.length = h := by rw [Paired.length p, lines_len]
  have good : ∀ m ∈ ms, m.length ≤ 60 ∧ ∀ c ∈ m, c ∈ SG ∨ c = 35 := fun m hm => by
    obtain ⟨i, hi⟩ := List.mem_iff_getElem?.mp hm
    obtain ⟨l, hl, k, r, hk, hr, rfl, _⟩ := par_get p hi
    have lo := line_ok ok l (List.mem_of_getElem? hl)
    refine ⟨by rw [List.length_append, List.length_take, List.length_replicate]; omega, fun c hc => ?_⟩
    rcases List.mem_append.mp hc with hc | hc
    · exact lo.2 c (List.mem_of_mem_take hc)
    · exact .inr (List.eq_of_mem_replicate hc)
  refine ⟨ms, rfl, fun z => ?_, by omega, good, ?_, ?_⟩
  · rw [z, List.length_nil] at len
    omega
  · have := joinL_le (c := 10) (k := 60) (ls := ms) fun l hl => (good l hl).1
    have : ms.length * 61 ≤ 3 * 61 := Nat.mul_le_mul_right _ (by omega)
    omega
  · rw [SameSg.found (ms := linesL ps h w) fun i j c hs => ?_, found_pic ok]
    constructor
    · rintro ⟨m, hm, hc⟩
      obtain ⟨l, hl, k, r, hk, hr, rfl, hw⟩ := par_get p hm
      exact ⟨l, hl, (loose_line hk hw hs).mp hc⟩
    · rintro ⟨l, hl, hc⟩
      obtain ⟨m, hm, k, r, hk, hr, rfl, hw⟩ := par_get' p hl
      exact ⟨_, hm, (loose_line hk hw hs).mpr hc⟩
/-! ### texts with a wrong sign -/
theorem set_bad {ls : List (List Nat)} {a p c : Nat} {l : List Nat} (good : ∀ l ∈ ls, ∀ c ∈ l, c ∈ SG ∨ c = 35) (hl : ls[a]? = some l) (hp : p ≤ l.length) (nS : c ∉ SG) (n35 : c ≠ 35) : FirstBad (ls.set a (l.take p ++ c :: l.drop p)) a p := by
  have ha := (List.getElem?_eq_some_iff.mp hl).1
  have lt : (l.take p).length = p := by rw [List.length_take]; omega
  refine ⟨fun i' l' h e => ?_, ⟨_, c, by rw [List.getElem?_set_self ha], ?_, nS, n35, fun j' c' hj e => ?_⟩⟩
  · rw [List.getElem?_set_ne (by omega)] at e
    exact good l' (List.mem_of_getElem? e)
  · rw [List.getElem?_append_right (by omega), lt, Nat.sub_self]
    rfl
  · rw [List.getElem?_append_left (by omega), List.getElem?_take_of_lt hj] at e
    exact good l (List.mem_of_getElem? hl) c' (List.mem_of_getElem? e)
theorem cut_head {l : List Nat} {p : Nat} (h : p ≤ l.length) : cutS (strL l) none (some (p : Int)) = strL (l.take p) := by
  unfold cutS
  rw [HT.sIx_none, HT.sIx_nat, strL_len, Nat.min_eq_left h, List.drop_zero, Nat.sub_zero]
  rfl
theorem cut_tail {l : List Nat} {p : Nat} (h : p ≤ l.length) : cutS (strL l) (some (p : Int)) none = strL (l.drop p) := by
  unfold cutS
  rw [HT.sIx_none, HT.sIx_nat, strL_len, Nat.min_eq_left h]
  show (⟨((l.toArray.toList.drop p).take (l.length - p)).toArray⟩ : Str) = ⟨(l.drop p).toArray⟩
  rw [List.take_of_length_le (by rw [List.length_drop]; exact Nat.le_refl _)]
/-! ### pictures, longer by one -/
theorem reel_snoc {sp : List (Int × Int)} {h w : Nat} {st : List Int} {ms : List Mv} {m : Mv} : reelL sp h w st (ms ++ [m]) ((ms ++ [m]).length + 1) = reelL sp h w st ms (ms.length + 1) ++ [picL sp h w (playMvs [] st (ms ++ [m]))] := by
  rw [reel_succ, List.take_length]
  refine congrArg (· ++ _) ?_
  rw [List.length_append]
  show reelL sp h w st (ms ++ [m]) (ms.length + 1) = _
  unfold reelL
  refine List.map_congr_left fun i hi => ?_
  rw [List.mem_range] at hi
  rw [List.take_append_of_le_length (by omega)]
/-! ### stands that are none -/
inductive OddD (st : List Int) : PyData → Prop
  | non : OddD st .none
  | five : OddD st (.int 5)
  | more : OddD st (.tuple ((st ++ [0]).map PyData.int))
  | less : OddD st (.tuple ((st.drop 1).map PyData.int))
  | big : OddD st (.tuple ((36 :: st.drop 1).map PyData.int))
  | neg : OddD st (.tuple ((-1 :: st.drop 1).map PyData.int))
  | tru : OddD st (.tuple (.bool true :: (st.drop 1).map PyData.int))
  | str : OddD st (.str "1")
theorem OddD.bad {st : List Int} {d : PyData} (h : OddD st d) (l1 : 1 ≤ st.length) (l9 : st.length ≤ 60) : BadS st.length d := by
  cases h with
  | non => exact .inl rfl
  | five => exact .inl rfl
  | more => exact .inr ⟨_, rfl, by rw [List.length_map, List.length_append]; show st.length + 1 ≤ 1000; omega, .inl (by rw [List.length_map, List.length_append]; show st.length + 1 ≠ _; omega)⟩
  | less => exact .inr ⟨_, rfl, by rw [List.length_map, List.length_drop]; omega, .inl (by rw [List.length_map, List.length_drop]; omega)⟩
  | big => exact .inr ⟨_, rfl, by rw [List.length_map, List.length_cons, List.length_drop]; omega, .inr rfl⟩
  | neg => exact .inr ⟨_, rfl, by rw [List.length_map, List.length_cons, List.length_drop]; omega, .inr rfl⟩
  | tru => exact .inr ⟨_, rfl, by rw [List.length_cons, List.length_map, List.length_drop]; omega, .inr rfl⟩
  | str => exact .inl rfl
theorem OddD.lay {st : List Int} {d : PyData} (h : OddD st d) : d.canLay0 = true ∧ d.depth ≤ 5 := by
  have il : ∀ l : List Int, PyData.canLayAll0 (l.map PyData.int) = true := fun l => lay_all (f := PyData.int) (fun _ => rfl) l
  have id : ∀ l : List Int, PyData.depthAll (l.map PyData.int) ≤ 2 := fun l => deep_all (f := PyData.int) int_deep l
  cases h with
  | non => exact ⟨rfl, by simp [PyData.depth]⟩
  | five => exact ⟨rfl, Nat.le_trans (int_deep 5) (by decide)⟩
  | more => exact ⟨il _, Nat.le_trans (Nat.succ_le_succ (id _)) (by decide)⟩
  | less => exact ⟨il _, Nat.le_trans (Nat.succ_le_succ (id _)) (by decide)⟩
  | big => exact ⟨il _, Nat.le_trans (Nat.succ_le_succ (id _)) (by decide)⟩
  | neg => exact ⟨il _, Nat.le_trans (Nat.succ_le_succ (id _)) (by decide)⟩
  | tru =>
    refine ⟨?_, ?_⟩
    · show (true && PyData.canLayAll0 ((st.drop 1).map PyData.int)) = true
      rw [il]
      rfl
    · have := id (st.drop 1)
      show max (PyData.bool true).depth (PyData.depthAll ((st.drop 1).map PyData.int)) + 1 ≤ 5
      have h0 : (PyData.bool true).depth ≤ 2 := by simp [PyData.depth]
      omega
  | str => exact ⟨by decide +kernel, by simp [PyData.depth]⟩
theorem pair_shaped {s : Str} {d : PyData} (hs : (PyData.str s).canLay0 = true) (h : d.canLay0 = true ∧ d.depth ≤ 5) : SeqAt.shaped (.list [.str s, d]) = true := by
  refine shaped_of ?_ ?_
  · show ((PyData.str s).canLay0 && (d.canLay0 && true)) = true
    rw [hs, h.1]
    rfl
  · have := h.2
    have h0 : (PyData.str s).depth ≤ 2 := by simp [PyData.depth]
    show max (PyData.str s).depth (max d.depth 0) + 1 ≤ 64
    omega
theorem pair_eqv {s : Str} {d : PyData} (hs : (PyData.str s).canLay0 = true) (h : d.canLay0 = true) : PyData.eqv (.list [.str s, d]) (.list [.str s, d]) = true := by
  refine PySem.SeqAt.eqv_refl _ ?_
  show ((PyData.str s).canLay0 && (d.canLay0 && true)) = true
  rw [hs, h]
  rfl
theorem odd_at {K : PySem.W.Frag} {H : Hp} {st : List Int} {t1 t2 t3 t4 t5 : Addr} (h1 : SqT K H t1 ((st ++ [0]).map V.int)) (h2 : SqT K H t2 ((st.drop 1).map V.int)) (h3 : SqT K H t3 ((36 :: st.drop 1).map V.int)) (h4 : SqT K H t4 ((-1 :: st.drop 1).map V.int)) (h5 : SqT K H t5 (.bl true :: (st.drop 1).map V.int)) :
    ∀ x ∈ [V.non, .int 5, .ref t1, .ref t2, .ref t3, .ref t4, .ref t5, .str "1"], ∃ d, OddD st d ∧ Dq K H d x ∧ Dp K H x d := fun x hx => by
  simp only [List.mem_cons, List.not_mem_nil, or_false] at hx
  rcases hx with rfl | rfl | rfl | rfl | rfl | rfl | rfl | rfl
  · exact ⟨_, .non, .non, .non⟩
  · exact ⟨_, .five, .int 5, .int 5⟩
  · exact ⟨_, .more, .tup h1 (dqs_st _), .tup h1 (ints_dp _)⟩
  · exact ⟨_, .less, .tup h2 (dqs_st _), .tup h2 (ints_dp _)⟩
  · exact ⟨_, .big, .tup h3 (dqs_st _), .tup h3 (ints_dp _)⟩
  · exact ⟨_, .neg, .tup h4 (dqs_st _), .tup h4 (ints_dp _)⟩
  · exact ⟨_, .tru, .tup h5 (.cons (.bl true) (dqs_st _)), .tup h5 (.cons (.bl true) (ints_dp _))⟩
  · exact ⟨_, .str, .str _, .str _⟩
theorem wall_eq : (Str.ofString "#") = ⟨#[35]⟩ := by decide +kernel
theorem rep_wall (n : Nat) : repS ⟨#[35]⟩ n = strL (List.replicate n 35) := by
  have h := fold_rep #[35] n #[]
  have e : ∀ m : Nat, (List.replicate m [35]).flatten = List.replicate m 35 := by
    intro m
    induction m with
    | zero => rfl
    | succ m ih => rw [List.replicate_succ, List.flatten_cons, ih, List.replicate_succ]; rfl
  have e2 : (#[35] : Array Nat).toList = [35] := rfl
  rw [e2, e n] at h
  show (⟨(List.replicate n #[35]).foldl (· ++ ·) #[]⟩ : Str) = ⟨(List.replicate n 35).toArray⟩
  refine congrArg Str.mk ?_
  rw [← Array.toList_inj, h]
  simp
theorem nil_eq : (Str.ofString "") = strL [] := by decide +kernel
theorem nl2_eq : (Str.ofString "##\n") = strL [35, 35, 10] := by decide +kernel
theorem sh_third {ps : Placed} {h w : Nat} {LS : List (List Nat)} (e : LS = linesL ps h w) (ok : PicOk ps h w) (h1 : 1 ≤ h) (h3 : h ≤ 3) (w4 : w ≤ 4) : ∀ x ∈ [V.str "", .str "\n", .str "##\n"], ∃ z : Str, x = .str z ∧ z.length ≤ 3 ∧ ShOk ps (strL (textL LS) ++ z) := fun x hx => by
  subst e
  simp only [List.mem_cons, List.not_mem_nil, or_false] at hx
  rcases hx with rfl | rfl | rfl
  · refine ⟨_, rfl, by decide +kernel, ?_⟩
    have := sh_more ok h1 h3 w4 (ex := []) (Nat.zero_le _) (fun l hl => by cases hl)
    rw [nil_eq, strL_app, List.append_nil]
    rwa [List.append_nil] at this
  · refine ⟨_, rfl, by decide +kernel, ?_⟩
    have := sh_more ok h1 h3 w4 (ex := [[]]) (Nat.le_refl _) (fun l hl => by rw [List.mem_singleton.mp hl]; exact ⟨Nat.zero_le _, fun c hc => by cases hc⟩)
    rw [nl_eq, strL_app]
    rwa [textL_app] at this
  · refine ⟨_, rfl, by decide +kernel, ?_⟩
    have := sh_more ok h1 h3 w4 (ex := [[35, 35]]) (Nat.le_refl _) (fun l hl => by rw [List.mem_singleton.mp hl]; exact ⟨by decide, fun c hc => by simpa using hc⟩)
    rw [nl2_eq, strL_app]
    rwa [textL_app] at this
/-- a floor that was read -/
def FlOk (K : PySem.W.Frag) (CF CY : Addr) (H : Hp) (x : Addr) (sp : List (Int × Int)) (st : List Int) : Prop := ∃ (y t u : Addr) (ys : List V), FlAt H CF x t y u ∧ SqT K H t ys ∧ Paired (TieAt K H) ys sp ∧ SqT K H u (st.map V.int) ∧ YObjC K H CY y sp.length (dueF sp) []
theorem FlOk.ky {K : PySem.W.Frag} {CF CY : Addr} {H H' : Hp} {x : Addr} {sp : List (Int × Int)} {st : List Int} (h : FlOk K CF CY H x sp st) (s : Ky H H') : FlOk K CF CY H' x sp st := by
  obtain ⟨y, t, u, ys, h1, h2, h3, h4, h5⟩ := h
  exact ⟨y, t, u, ys, s.fl h1, s.seqT h2, s.ties h3, s.seqT h4, s.yc h5⟩
theorem atI_last {xs : List V} {x : V} : atI (xs ++ [x]) (-1) = some x := by
  unfold atI ixN
  rw [if_neg (by decide), if_pos (by rw [List.length_append]; show -((xs.length + 1 : Nat) : Int) ≤ -1; omega)]
  show (xs ++ [x])[((-1 : Int) + (((xs ++ [x]).length : Nat) : Int)).toNat]? = _
  rw [show ((-1 : Int) + (((xs ++ [x]).length : Nat) : Int)).toNat = xs.length by rw [List.length_append]; show ((-1 : Int) + ((xs.length + 1 : Nat) : Int)).toNat = _; omega]
  rw [List.getElem?_append_right (Nat.le_refl _), Nat.sub_self]
  rfl
theorem due_tok {sp : List (Int × Int)} : ∀ t ∈ dueF sp, TieOk sp.length t := fun t ht => by
  obtain ⟨k, j, hk, hj, ha, rfl⟩ := mem_due.mp ht
  refine ⟨by show (0 : Int) ≤ k; omega, by show (k : Int) < _; omega, by show (0 : Int) ≤ j; omega, by show (j : Int) < _; omega, fun e => ?_⟩
  have e : (k : Int) = (j : Int) := e
  have e : k = j := by omega
  subst e
  unfold adjB at ha
  have := of_decide_eq_true ha
  omega
theorem moves_can {n : Nat} {ts : List (Int × Int)} {st : List Int} (tok : ∀ t ∈ ts, TieOk n t) {m : Mv} (h : m ∈ movesOf ts [] st) : CanMv n ts [] st m := by
  unfold movesOf at h
  rcases List.mem_append.mp h with h | h
  · obtain ⟨t, ht, rfl⟩ := List.mem_map.mp h
    rw [List.mem_filter] at ht
    exact can_of (m := .slide t.1 t.2) tok ht.1 ht.2
  · cases h
theorem dqs_app {K : PySem.W.Frag} {H : Hp} {ds : List PyData} {vs : List V} {d : PyData} {v : V} (h : Dqs K H ds vs) (g : Dq K H d v) : Dqs K H (ds ++ [d]) (vs ++ [v]) := by
  induction h using Dqs.rec (motive_1 := fun _ _ _ => True) with
  | nil => exact .cons g .nil
  | cons a _ _ ih => exact .cons a ih
  | _ => trivial
theorem step_none {ts : List (Int × Int)} {n : Nat} {st : List Int} (tok : ∀ t ∈ ts, TieOk n t) : stepD ts [] st (mvD (.slide 0 0)) = none := by
  refine stepD_none fun m e hin => ?_
  have e := mvD_inj e
  subst e
  exact absurd rfl (tok _ hin).2.2.2.2
theorem off_lst {K : PySem.W.Frag} {H : Hp} {D : Addr} {ys : List V} {ms : List Mv} {zs : List V} {o : HO} (h : MvsAt K H ys ms) (e : H D = some (.lst zs)) : MvsAt K (upd H D o) ys ms := par_map (fun y r hm => hm.off e) h
theorem mvs_kp' {K : PySem.W.Frag} {H H' : Hp} {ys : List V} {ms : List Mv} (h : MvsAt K H ys ms) (s : Kp H H') : MvsAt K H' ys ms := (Ky.of_kp s).mvs h
/-- a stand that is none, as it lies in memory -/
def OddV (K : PySem.W.Frag) (H : Hp) (st : List Int) (v : V) (d : PyData) : Prop := OddD st d ∧ ((∀ H', Dq K H' d v ∧ Dp K H' v d) ∨ ∃ t xs es, v = .ref t ∧ d = .tuple es ∧ SqT K H t xs ∧ (∀ H', Dqs K H' es xs) ∧ (∀ H', DpAll K H' xs es))
section
variable {K : PySem.W.Frag} {H H' : Hp} {st : List Int} {v : V} {d : PyData}
theorem OddV.ky (h : OddV K H st v d) (s : Ky H H') : OddV K H' st v d := by
  refine ⟨h.1, h.2.imp id ?_⟩
  rintro ⟨t, xs, es, e1, e2, e3, e4⟩
  exact ⟨t, xs, es, e1, e2, s.seqT e3, e4⟩
theorem OddV.dq (h : OddV K H st v d) : Dq K H d v := by
  rcases h.2 with h | ⟨t, xs, es, rfl, rfl, e3, e4, _⟩
  · exact (h H).1
  · exact .tup e3 (e4 H)
theorem OddV.dp (h : OddV K H st v d) : Dp K H v d := by
  rcases h.2 with h | ⟨t, xs, es, rfl, rfl, e3, _, e4⟩
  · exact (h H).2
  · exact .tup e3 (e4 H)
end
theorem odd_all {K : PySem.W.Frag} {H : Hp} {st : List Int} {t1 t2 t3 t4 t5 : Addr} (h1 : SqT K H t1 ((st ++ [0]).map V.int)) (h2 : SqT K H t2 ((st.drop 1).map V.int)) (h3 : SqT K H t3 ((36 :: st.drop 1).map V.int)) (h4 : SqT K H t4 ((-1 :: st.drop 1).map V.int)) (h5 : SqT K H t5 (.bl true :: (st.drop 1).map V.int)) :
    ∀ x ∈ [V.non, .int 5, .ref t1, .ref t2, .ref t3, .ref t4, .ref t5, .str "1"], ∃ d, OddV K H st x d := fun x hx => by
  simp only [List.mem_cons, List.not_mem_nil, or_false] at hx
  rcases hx with rfl | rfl | rfl | rfl | rfl | rfl | rfl | rfl
  · exact ⟨_, .non, .inl fun H' => ⟨.non, .non⟩⟩
  · exact ⟨_, .five, .inl fun H' => ⟨.int 5, .int 5⟩⟩
  · exact ⟨_, .more, .inr ⟨_, _, _, rfl, rfl, h1, fun H' => dqs_st _, fun H' => ints_dp _⟩⟩
  · exact ⟨_, .less, .inr ⟨_, _, _, rfl, rfl, h2, fun H' => dqs_st _, fun H' => ints_dp _⟩⟩
  · exact ⟨_, .big, .inr ⟨_, _, _, rfl, rfl, h3, fun H' => dqs_st _, fun H' => ints_dp _⟩⟩
  · exact ⟨_, .neg, .inr ⟨_, _, _, rfl, rfl, h4, fun H' => dqs_st _, fun H' => ints_dp _⟩⟩
  · exact ⟨_, .tru, .inr ⟨_, _, _, rfl, rfl, h5, fun H' => .cons (.bl true) (dqs_st _), fun H' => .cons (.bl true) (ints_dp _)⟩⟩
  · exact ⟨_, .str, .inl fun H' => ⟨.str _, .str _⟩⟩
theorem sign_bad : ∀ x ∈ [V.str "0", .str " ", .str "A", .str "-", .str "_", .str "*"], ∃ c : Nat, x = .str (strL [c]) ∧ c ∉ SG ∧ c ≠ 35 ∧ c < 128 ∧ c ≠ 10 := fun x hx => by
  simp only [List.mem_cons, List.not_mem_nil, or_false] at hx
  rcases hx with rfl | rfl | rfl | rfl | rfl | rfl
  · exact ⟨48, congrArg V.str (by decide +kernel), by decide +kernel, by decide, by decide, by decide⟩
  · exact ⟨32, congrArg V.str (by decide +kernel), by decide +kernel, by decide, by decide, by decide⟩
  · exact ⟨65, congrArg V.str (by decide +kernel), by decide +kernel, by decide, by decide, by decide⟩
  · exact ⟨45, congrArg V.str (by decide +kernel), by decide +kernel, by decide, by decide, by decide⟩
  · exact ⟨95, congrArg V.str (by decide +kernel), by decide +kernel, by decide, by decide, by decide⟩
  · exact ⟨42, congrArg V.str (by decide +kernel), by decide +kernel, by decide, by decide, by decide⟩
theorem empty_one (ls : List (List Nat)) {z : Str} (e : z = strL (joinL 10 ls)) (h1 : ls ≠ []) (h2 : ls.length ≤ 60) (h3 : (ls.all fun l => decide (l.length ≤ 60) && l.all fun c => decide (c = 35)) = true) (h4 : (joinL 10 ls).length ≤ 10000) (h5 : foundF ls ls.length = []) :
    ∃ ls : List (List Nat), V.str z = .str (strL (joinL 10 ls)) ∧ ls ≠ [] ∧ ls.length ≤ 60 ∧ (∀ l ∈ ls, l.length ≤ 60 ∧ ∀ c ∈ l, c ∈ SG ∨ c = 35) ∧ (joinL 10 ls).length ≤ 10000 ∧ foundF ls ls.length = [] := by
  refine ⟨ls, by rw [e], h1, h2, fun l hl => ?_, h4, h5⟩
  have := List.all_eq_true.mp h3 l hl
  rw [Bool.and_eq_true, decide_eq_true_iff] at this
  exact ⟨this.1, fun c hc => .inr (of_decide_eq_true (List.all_eq_true.mp this.2 c hc))⟩
theorem empty_text : ∀ x ∈ [V.str "", .str "\n", .str "###\n#", .str "#"], ∃ ls : List (List Nat), x = .str (strL (joinL 10 ls)) ∧ ls ≠ [] ∧ ls.length ≤ 60 ∧ (∀ l ∈ ls, l.length ≤ 60 ∧ ∀ c ∈ l, c ∈ SG ∨ c = 35) ∧ (joinL 10 ls).length ≤ 10000 ∧ foundF ls ls.length = [] := fun x hx => by
  simp only [List.mem_cons, List.not_mem_nil, or_false] at hx
  rcases hx with rfl | rfl | rfl | rfl
  · exact empty_one [[]] (by decide +kernel) (by decide) (by decide) (by decide) (by decide) (by decide +kernel)
  · exact empty_one [[], []] (by decide +kernel) (by decide) (by decide) (by decide) (by decide) (by decide +kernel)
  · exact empty_one [[35, 35, 35], [35]] (by decide +kernel) (by decide) (by decide) (by decide) (by decide) (by decide +kernel)
  · exact empty_one [[35]] (by decide +kernel) (by decide) (by decide) (by decide) (by decide) (by decide +kernel)
theorem no_text {K : PySem.W.Frag} {H : Hp} {u : Addr} (h : H u = some (.lst [.str "1"])) : ∀ x ∈ [V.non, .int 5, .ref u], ∃ d, Dq K H d x ∧ tyNm d ≠ "str" ∧ PySem.W.kitOne K (.type (tyNm d)) (.type "str") = some false := fun x hx => by
  simp only [List.mem_cons, List.not_mem_nil, or_false] at hx
  rcases hx with rfl | rfl | rfl
  · exact ⟨.none, .non, by decide, kit_ty (by show kitB _ _ = _; dsimp only [tyNm]; decide +kernel)⟩
  · exact ⟨.int 5, .int 5, by decide, kit_ty (by show kitB _ _ = _; dsimp only [tyNm]; decide +kernel)⟩
  · exact ⟨.list [.str "1"], .lst (SqL.of h) (.cons (.str _) .nil), by decide, kit_ty (by show kitB _ _ = _; dsimp only [tyNm]; decide +kernel)⟩
theorem set_good {ls : List (List Nat)} {a p c w : Nat} {l : List Nat} (gok : ∀ m ∈ ls, m.length = w ∧ ∀ c ∈ m, c ∈ SG ∨ c = 35) (w4 : w ≤ 4) (hl : ls[a]? = some l) (hp : p ≤ l.length) (hc : c < 128) (h10 : c ≠ 10) : ∀ m ∈ ls.set a (l.take p ++ c :: l.drop p), m.length ≤ 60 ∧ ∀ c ∈ m, c < 128 ∧ c ≠ 10 := fun m hm => by
  have good : ∀ m ∈ ls, ∀ c ∈ m, c < 128 ∧ c ≠ 10 := fun m hm c hc => by
    rcases (gok m hm).2 c hc with h | h
    · exact ⟨sg_small c h, fun z => by rw [z] at h; exact absurd h (by decide +kernel)⟩
    · omega
  rcases List.mem_or_eq_of_mem_set hm with hm | rfl
  · have := (gok m hm).1
    exact ⟨by omega, good m hm⟩
  · have hlm := List.mem_of_getElem? hl
    have := (gok l hlm).1
    refine ⟨?_, fun c' hc' => ?_⟩
    · rw [List.length_append, List.length_take, List.length_cons, List.length_drop]
      omega
    · rcases List.mem_append.mp hc' with h | h
      · exact good l hlm c' (List.mem_of_mem_take h)
      · rcases List.mem_cons.mp h with rfl | h
        · exact ⟨hc, h10⟩
        · exact good l hlm c' (List.mem_of_mem_drop h)
theorem nums_eqv (i j : Int) : PyData.eqv (.tuple [.int i, .int j]) (.tuple [.int i, .int j]) = true := by
  have := tie_eqv (i, j) (i, j)
  rw [decide_eq_true rfl] at this
  exact this
end Y
set_option Elab.async false
set_option linter.all false
set_option maxRecDepth 100000
set_option maxHeartbeats 1000000
namespace Y
open PySem PySem.Spec PyProof.Rows L2 LamX
/-! ### the law's lambdas -/
abbrev sLaw : Stmt := top 48
abbrev NLaw : List Str := ["_law_script", "_law_pen_here", "_law_stand", "_law_rows", "_law_text", "_law_loose", "_law_shown", "_law_yard", "_law_one", "_law_pictures", "_law_lap", "_law_ways", "_law_at", "_law_place", "_law_first", "_law_floor", "_law_moves_here", "_law_odd", "_law_spots", "_law_spot", "_law_row"]
def qLam : Str := (envOfC "law" (defScope sLaw) 0 0 (.none : Value)).qual ++ "<lambda>"
/-- a method of a text called in a block, the written part told -/
theorem pe_bmK {X : Cx} {K : PySem.W.Frag} {o e : Expr} {es : List Expr} {to : TE} {t : TA} {name : Str} {apos cpos : Pos} {T id : String} {r : V → List V → Hp → VK → Prop} (eK : X.K = K) (pa : PlainAttrs T) (slot : Slot T name id) (hty : typeOf (.builtin id) = pure (.type "method_descriptor")) (hm : MtR X id r) (ho : PE X o to) (ha : PA X (e :: es) t)
    (hbase : attributeBase o name X.env (eval o X.env) = eval o X.env := by rfl)
    (hfew : ((backTo cpos (starEach (e :: es) X.env)).all (fun x => !x.1) && (backToKw cpos (keywordEach [] X.env)).all (fun x => x.1.isSome)
      && decide ((e :: es).length + ([] : List Keyword).length + (if ([] : List Keyword).isEmpty then 0 else 1) < 30)) = true := by rfl)
    (hline : (apos.endLine == cpos.line) = true := by rfl) (hs : starEach (e :: es) X.env = (false, eval e X.env) :: starEach es X.env := by rfl) (hplain : (backTo cpos (starEach es X.env)).any (·.1) = false := by rfl) :
    PE X (.Call (.Attribute o name apos) (e :: es) [] cpos) (tBM K T r to t) := by
  subst eK
  exact pe_bm pa slot hty hm ho ha hbase hfew hline hs hplain
section
variable {X : Cx} {K : PySem.W.Frag} {c Pt fWhy fRl fDw CR CM CF : Addr} {fdW fdL : FuncData} {params : Arguments} {scope : Scope} {p p1 p2 p3 p4 p5 p6 p7 p8 q1 q2 q3 q4 q5 lpos pos : Pos}
theorem pe_whyR (eK : X.K = K) (eN : X.N = NLaw) (hgw : Gl X "_law_why") (gWhy : X.mg "_law_why" = some (.ref fWhy)) (FW : Fun X.K "_law_why" "_law_why" sWhy fWhy fdW) (bW : Binds X.K fdW ["_law_call"] [])
    (TW : TWhy X.K X.mg CR CM) (TB : TabB X.base X.mg c Pt) (hcode : X.env.code = .ref c) (hq : X.env.qual ++ "<lambda>" = qLam) (hr : Room 7 X.A) (L : LamS X.env.scope scope) (hdef : defaultsOf params X.env = ([], []))
    (hbind : ∀ (q : Str) (cl : List (Str × Addr)) (pm cv ctv : Value), bindArgs (PySem.W.kla_fn "<lambda>" q params (.Call (.Name "reel" p1) [.Name "_law_floor" p2, .Name "_law_first" p3, .BinOp (.Call (.Name "tuple" p4) [.Name "_law_moves_here" p5] [] p6) .Add (.Tuple [.Tuple [.Constant (.str "slide") 0 q1, .Constant (.int 0) 0 q2, .Constant (.int 0) 0 q3] 0 q4] 0 q5) p7] [] p8) scope cl pm cv ctv) ⟨[], []⟩ = pure [])
    (hgl : scope.names.lookup ("reel" : Str) = some .globalImplicit) (hgt : scope.names.lookup ("tuple" : Str) = some .globalImplicit) (htup : X.mg "tuple" = none) (v1 : Vis scope "_law_floor") (v2 : Vis scope "_law_first") (v3 : Vis scope "_law_moves_here")
    (gRl : X.mg "reel" = some (.ref fRl)) (GL : FnOk X.prog X.w X.K X.mg X.base (L2.CX X.prog X.w) 5 fRl fdL ["floor", "stand", "moves"] (spReel X.K CF CM)) (FL : Fun X.K "reel" "reel" sReel fRl fdL) (bL : Binds X.K fdL ["floor", "stand", "moves"] []) :
    PE X (.Call (.Name "_law_why" p) [.Lambda params (.Call (.Name "reel" p1) [.Name "_law_floor" p2, .Name "_law_first" p3, .BinOp (.Call (.Name "tuple" p4) [.Name "_law_moves_here" p5] [] p6) .Add (.Tuple [.Tuple [.Constant (.str "slide") 0 q1, .Constant (.int 0) 0 q2, .Constant (.int 0) 0 q3] 0 q4] 0 q5) p7] [] p8) scope lpos] [] pos)
      (tLam [(Pt, qLam)] (TTe CR CM) (fun E => tCall (spReel K CF CM) [] E (tCons (tVar 15) (tCons (tVar 14) (tCons (tOp (rCatU K) (tCB (rTupAny K) (tCons (tVar 16) tNil)) (tTup (tCons (tTup (tCons (tC (.str "slide")) (tCons (tC (.int 0)) (tCons (tC (.int 0)) tNil)))) tNil))) tNil))))) := by
  subst eK
  obtain ⟨oc, od, kV, doc, pm, an, cdw, ct, osl, rfl, lkw, hcw⟩ := FW.ex
  refine pe_lamcall (T := [(Pt, qLam)]) (TT := TTe CR CM) (k := 5) (a := "_law_call") (Ng := ["_law_call", "e"]) hgw gWhy FW.kp lkw hcw bW scWhy rfl (.inl rfl) (why_gives TW) TB hcode (by rw [hq]; exact List.mem_singleton.mpr rfl) (fun p hp _ => by rw [List.mem_singleton.mp hp, hq]) hr L hdef hbind ?_
  intro A outer s H E f c' hrl
  have hn : ∀ (i : Nat) (x : Str), NLaw[i]? = some x → (lamCx X A outer s H E scope f c').N[i]? = some x := fun i x h => by
    show X.N[i]? = some x
    rw [eN]; exact h
  exact pe_call GL hrl hgl gRl FL.kp bL .nil (passes_call (takes_of rfl rfl rfl rfl) fun _ _ _ _ h => h) (pa_cons (pe_var (hn 15 _ rfl) v1) (pa_cons (pe_var (hn 14 _ rfl) v2) (pa_cons (pe_op op_catU (pe_callTy call_tuple_any hgt htup (by decide +kernel) (pa_cons (pe_var (hn 16 _ rfl) v3) pa_nil)) (pe_tup (pa_cons (pe_tup (pa_cons pe_str (pa_cons pe_int (pa_cons pe_int pa_nil)))) pa_nil))) pa_nil)))
theorem pe_whyD (eK : X.K = K) (eN : X.N = NLaw) (hgw : Gl X "_law_why") (gWhy : X.mg "_law_why" = some (.ref fWhy)) (FW : Fun X.K "_law_why" "_law_why" sWhy fWhy fdW) (bW : Binds X.K fdW ["_law_call"] [])
    (TW : TWhy X.K X.mg CR CM) (TB : TabB X.base X.mg c Pt) (hcode : X.env.code = .ref c) (hq : X.env.qual ++ "<lambda>" = qLam) (hr : Room 7 X.A) (L : LamS X.env.scope scope) (hdef : defaultsOf params X.env = ([], []))
    (hbind : ∀ (q : Str) (cl : List (Str × Addr)) (pm cv ctv : Value), bindArgs (PySem.W.kla_fn "<lambda>" q params (.Call (.Name "draw" p1) [.Call (.Name "tuple" p4) [.Name "_law_spots" p5] [] p6, .Name "_law_odd" p2] [] p8) scope cl pm cv ctv) ⟨[], []⟩ = pure [])
    (hgl : scope.names.lookup ("draw" : Str) = some .globalImplicit) (hgt : scope.names.lookup ("tuple" : Str) = some .globalImplicit) (htup : X.mg "tuple" = none) (v1 : Vis scope "_law_spots") (v2 : Vis scope "_law_odd")
    (gDw : X.mg "draw" = some (.ref fDw)) (GL : FnOk X.prog X.w X.K X.mg X.base (L2.CX X.prog X.w) 4 fDw fdL ["spots", "stand"] (spDrawF X.K CR)) (FL : Fun X.K "draw" "draw" sDraw2 fDw fdL) (bL : Binds X.K fdL ["spots", "stand"] []) :
    PE X (.Call (.Name "_law_why" p) [.Lambda params (.Call (.Name "draw" p1) [.Call (.Name "tuple" p4) [.Name "_law_spots" p5] [] p6, .Name "_law_odd" p2] [] p8) scope lpos] [] pos)
      (tLam [(Pt, qLam)] (TTe CR CM) (fun E => tCall (spDrawF K CR) [] E (tCons (tCB (rTupAny K) (tCons (tVar 18) tNil)) (tCons (tVar 17) tNil)))) := by
  subst eK
  obtain ⟨oc, od, kV, doc, pm, an, cdw, ct, osl, rfl, lkw, hcw⟩ := FW.ex
  refine pe_lamcall (T := [(Pt, qLam)]) (TT := TTe CR CM) (k := 4) (a := "_law_call") (Ng := ["_law_call", "e"]) hgw gWhy FW.kp lkw hcw bW scWhy rfl (.inl rfl) (why_gives TW) TB hcode (by rw [hq]; exact List.mem_singleton.mpr rfl) (fun p hp _ => by rw [List.mem_singleton.mp hp, hq]) (hr.mono (by decide)) L hdef hbind ?_
  intro A outer s H E f c' hrl
  have hn : ∀ (i : Nat) (x : Str), NLaw[i]? = some x → (lamCx X A outer s H E scope f c').N[i]? = some x := fun i x h => by
    show X.N[i]? = some x
    rw [eN]; exact h
  exact pe_call GL hrl hgl gDw FL.kp bL .nil (passes_call (takes_of rfl rfl rfl rfl) fun _ _ _ _ h => h) (pa_cons (pe_callTy call_tuple_any hgt htup (by decide +kernel) (pa_cons (pe_var (hn 18 _ rfl) v1) pa_nil)) (pa_cons (pe_var (hn 17 _ rfl) v2) pa_nil))
end
end Y
set_option Elab.async false
set_option linter.all false
set_option maxRecDepth 100000
set_option maxHeartbeats 8000000
namespace Y
open PySem PySem.Spec PyProof.Rows L2 LamX
/-! ### the law -/
def spLaw (K : PySem.W.Frag) (Pt : Addr) : Sp := fun vs H Q _ => ∃ (a : Addr) (ns : List Int), vs = [.ref a] ∧ SqL K H a (ns.map V.int) ∧ ns.length ≤ 63 ∧ H Pt = some (.tbl #[]) ∧ ∀ H', Q (.bl true) H'
structure TLw (K : PySem.W.Frag) (mg : Str → Option Value) (CF CY fPen fPick fStir fMoves fMoved fLine fWhy fSpots fDue fLPic fDw fRd fRl fDraw : Addr) : Prop where
  g : TG K mg fDraw
  isi : mg "isinstance" = none
  gPen : mg "_law_pen" = some (.ref fPen)
  gPick : mg "_law_pick" = some (.ref fPick)
  gStir : mg "_law_stirred" = some (.ref fStir)
  gMoves : mg "_law_moves" = some (.ref fMoves)
  gMoved : mg "_law_moved" = some (.ref fMoved)
  gLine : mg "_law_line" = some (.ref fLine)
  gWhy : mg "_law_why" = some (.ref fWhy)
  gSpots : mg "_law_drawn_spots" = some (.ref fSpots)
  gDue : mg "_law_due_ties" = some (.ref fDue)
  gLPic : mg "_law_picture" = some (.ref fLPic)
  gDw : mg "draw" = some (.ref fDw)
  gRd : mg "read_floor" = some (.ref fRd)
  gRl : mg "reel" = some (.ref fRl)
  gF : mg "Floor" = some (.ref CF)
  fc : FCls K CF
  of_ : OwnN K CF
  own : PySem.W.kitOne K (.ref CF) (.ref CF) = some true
  yc : YCls K CY
section
variable {P : Program} {w : World} {K : PySem.W.Frag} {mg : Str → Option Value} {base : Heap} {CF CY CB CR CM fPen fPick fStir fMoves fMoved fLine fWhy fSpots fDue fLPic fDw fRd fRl fDraw : Addr}
theorem q_law {f c : Addr} {A : Around} {outer : List Env} {s : Shared} {H : Hp} {E : XK} : (cxOf CX0 P w K mg base NLaw "law" (defScope sLaw) f (.ref c) A outer s H E).nox.env.qual ++ "<lambda>" = qLam := by
  show (PyProof.Rows.envOfC "law" (defScope sLaw) s.heap.objs.size f (.ref c)).qual ++ "<lambda>" = qLam
  rfl
theorem scLaw : FnScope NLaw ["_law_script"] (defScope sLaw) := ⟨rfl, rfl, rfl, by decide +kernel, rfl, by decide +kernel, by decide +kernel⟩
theorem ok_law {f c Pt : Addr} {fd fdPen fdK fdSt fdMv fdMd fdLn fdW fdSp fdDu fdLp fdDw fdRd fdRl fdD : FuncData} (F : Fun K "law" "law" sLaw f fd) (hc : fd.code = .ref c) (TB : TabB base mg c Pt)
    (T : TLw K mg CF CY fPen fPick fStir fMoves fMoved fLine fWhy fSpots fDue fLPic fDw fRd fRl fDraw) (TW : TWhy K mg CR CM)
    (GD : FnOk P w K mg base CX0 1 fDraw fdD ["_law_pen_here", "_law_many"] spDraw) (FD : Fun K "_law_draw" "_law_draw" sDraw fDraw fdD) (bD : Binds K fdD ["_law_pen_here", "_law_many"] [])
    (GK : FnOk P w K mg base CX0 2 fPick fdK ["_law_pen_here", "_law_some"] (spPick K)) (FK : Fun K "_law_pick" "_law_pick" sPick fPick fdK) (bK : Binds K fdK ["_law_pen_here", "_law_some"] [])
    (GPen : FnOk P w K mg base CX0 1 fPen fdPen ["_law_script"] (spPen K)) (FPen : Fun K "_law_pen" "_law_pen" sPen fPen fdPen) (bPen : Binds K fdPen ["_law_script"] [])
    (GSt : FnOk P w K mg base CX0 2 fStir fdSt ["_law_pen_here", "_law_stand"] (spStir K)) (FSt : Fun K "_law_stirred" "_law_stirred" sStir fStir fdSt) (bSt : Binds K fdSt ["_law_pen_here", "_law_stand"] [])
    (GMv : FnOk P w K mg base CX0 1 fMoves fdMv ["_law_yard", "_law_stand"] (spMoves K)) (FMv : Fun K "_law_moves" "_law_moves" sMoves fMoves fdMv) (bMv : Binds K fdMv ["_law_yard", "_law_stand"] [])
    (GMd : FnOk P w K mg base CX0 1 fMoved fdMd ["_law_yard", "_law_stand", "_law_move"] (spMoved K)) (FMd : Fun K "_law_moved" "_law_moved" sMoved fMoved fdMd) (bMd : Binds K fdMd ["_law_yard", "_law_stand", "_law_move"] [])
    (GLn : FnOk P w K mg base CX0 8 fLine fdLn ["_law_text"] (spLine K CB)) (FLn : Fun K "_law_line" "_law_line" sLine fLine fdLn) (bLn : Binds K fdLn ["_law_text"] [])
    (FW : Fun K "_law_why" "_law_why" sWhy fWhy fdW) (bW : Binds K fdW ["_law_call"] [])
    (GSp : FnOk P w K mg base CX0 2 fSpots fdSp ["_law_pen_here"] (spSpots K)) (FSp : Fun K "_law_drawn_spots" "_law_drawn_spots" sSpots fSpots fdSp) (bSp : Binds K fdSp ["_law_pen_here"] [])
    (GDu : FnOk P w K mg base CX0 1 fDue fdDu ["_law_spots"] (spDue K)) (FDu : Fun K "_law_due_ties" "_law_due_ties" sDue fDue fdDu) (bDu : Binds K fdDu ["_law_spots"] [])
    (GLp : FnOk P w K mg base CX0 2 fLPic fdLp ["_law_spots", "_law_stand"] (spLPic K)) (FLp : Fun K "_law_picture" "_law_picture" sLPic fLPic fdLp) (bLp : Binds K fdLp ["_law_spots", "_law_stand"] [])
    (GDw : FnOk P w K mg base (L2.CX P w) 4 fDw fdDw ["spots", "stand"] (spDrawF K CR)) (FDw : Fun K "draw" "draw" sDraw2 fDw fdDw) (bDw : Binds K fdDw ["spots", "stand"] [])
    (GRd : FnOk P w K mg base (L2.CX P w) 7 fRd fdRd ["text"] (spOr (spRead K CF CY) (spReadX K CB))) (FRd : Fun K "read_floor" "read_floor" sRead fRd fdRd) (bRd : Binds K fdRd ["text"] [])
    (GRl : FnOk P w K mg base (L2.CX P w) 5 fRl fdRl ["floor", "stand", "moves"] (spReel K CF CM)) (FRl : Fun K "reel" "reel" sReel fRl fdRl) (bRl : Binds K fdRl ["floor", "stand", "moves"] []) :
    FnG P w K mg base CX0 9 f fd ["_law_script"] (spLaw K Pt) := by
  refine okGc F hc scLaw (fun vs H Q E h => ?_) (fun A outer s H vs Q E hg hr h => ?_)
  · obtain ⟨a, ns, rfl, _⟩ := h
    rfl
  · obtain ⟨a, ns, rfl, hS, hlen, hPt, k⟩ := h
    have hr1 : Room 1 _ := hr.mono (by decide)
    have hr2 : Room 2 _ := hr.mono (by decide)
    have hr4 : Room 4 _ := hr.mono (by decide)
    have hr5 : Room 5 _ := hr.mono (by decide)
    have hr7 : Room 7 _ := hr.mono (by decide)
    have hu := hr.units
    refine ⟨_, pss_cons (ps_set (i := 1) scLaw.nd rfl (Or.inr rfl) (pe_call GPen hr1 (by rfl) T.gPen FPen.kp bPen .nil pass0 (pa_cons (pv 0) pa_nil)))
      (pss_cons (ps_set (i := 18) scLaw.nd rfl (Or.inr rfl) (pe_call GSp hr2 (by rfl) T.gSpots FSp.kp bSp .nil pass0 (pa_cons (pv 1) pa_nil)))
      (pss_cons (ps_set (i := 2) scLaw.nd rfl (Or.inl rfl) (pe_callTy call_tuple_any (by rfl) T.g.tuple (by decide +kernel) (pa_cons
          (pe_lc (own := [("_law_spot", 19)]) (g := gName 19) (tt := tYes) rfl scLaw.nd (pi_list (pv 18)) (blkOk_by (N := NLaw) (sc := defScope sLaw) (by decide +kernel)) (fun _ _ _ _ _ => pg_name (i := 19) scLaw.nd rfl (Or.inl rfl)) (fun _ _ _ _ _ => pts_nil)
            (fun _ _ _ _ _ => pe_call GK hr2 (by rfl) T.gPick FK.kp bK .nil pass0 (pa_cons (pv 1) (pa_cons (pe_lst (pa_cons pe_int (pa_cons pe_int (pa_cons pe_int (pa_cons pe_int (pa_cons pe_int (pa_cons pe_int (pa_cons pe_int (pa_cons pe_int (pa_cons (pe_op op_add pe_int (pe_call GD hr1 (by rfl) T.g.p.gDraw FD.kp bD .nil pass0 (pa_cons (pv 1) (pa_cons pe_int pa_nil)))) pa_nil)))))))))) pa_nil)))) pa_nil)))
      (pss_cons (ps_set (i := 3) scLaw.nd rfl (Or.inl rfl) (pe_call GLp hr2 (by rfl) T.gLPic FLp.kp bLp .nil pass0 (pa_cons (pv 18) (pa_cons (pv 2) pa_nil))))
      (pss_cons (ps_set (i := 4) scLaw.nd rfl (Or.inl rfl) (pe_op op_add_str (pe_joinK (K := K) rfl pe_str (pv 3)) pe_str))
      (pss_cons (ps_if (PW.pt (pw_or (pt_cmpR op_ne (pe_call GDw hr4 (by rfl) T.gDw FDw.kp bDw .nil passF (pa_cons (pe_callTy call_tuple_any (by rfl) T.g.tuple (by decide +kernel) (pa_cons (pv 18) pa_nil)) (pa_cons (pv 2) pa_nil))) (pv 4) (nomark _))
          (pw_or1 (pt_cmpR op_ne (pe_call GDw hr4 (by rfl) T.gDw FDw.kp bDw .nil passF (pa_cons (pv 18) (pa_cons (pe_callTy call_list_of (by rfl) T.g.p.list (by decide +kernel) (pa_cons (pv 2) pa_nil)) pa_nil))) (pv 4) (nomark _))))) (pss_one (ps_ret pe_bl)) pss_nil)
      (pss_cons (ps_setLc (own := [("_law_row", 20)]) (i := 5) (g := gName 20) (tt := tYes) rfl scLaw.nd rfl rfl (sw_true rfl rfl rfl (by decide +kernel)) (pi_list (pv 3)) (blkOk_by (N := NLaw) (sc := defScope sLaw) (by decide +kernel)) (fun _ _ _ _ _ => pg_name (i := 20) scLaw.nd rfl (Or.inl rfl)) (fun _ _ _ _ _ => pts_nil)
          (fun _ _ _ _ _ => pe_op op_add_str (pe_bmK (K := K) rfl PySem.F.plainAttrs_str PySem.F.slot_str_rstrip PySem.F.type_str_rstrip mt_rstripChars (pv 20) (pa_cons pe_str pa_nil)) (pe_op op_mul_str pe_str (pe_call GD hr1 (by rfl) T.g.p.gDraw FD.kp bD .nil pass0 (pa_cons (pv 1) (pa_cons pe_int pa_nil))))))
      (pss_cons (ps_for PassesOwn.never rfl (pi_list (pe_lst (pa_cons (pv 4) (pa_cons (pe_joinK (K := K) rfl pe_str (pv 5)) (pa_cons (pe_op op_add_str (pv 4) (pe_call GK hr2 (by rfl) T.gPick FK.kp bK .nil pass0 (pa_cons (pv 1) (pa_cons (pe_lst (pa_cons pe_str (pa_cons pe_str (pa_cons pe_str pa_nil)))) pa_nil)))) pa_nil))))) (pg_name (i := 6) scLaw.nd rfl (Or.inl rfl))
        (pss_cons (ps_set (i := 15) scLaw.nd rfl (Or.inr rfl) (pe_call GRd hr7 (by rfl) T.gRd FRd.kp bRd .nil passF (pa_cons (pv 6) pa_nil)))
        (pss_cons (ps_if (PW.pt (pw_or (pt_not (pt_val (pe_callB call_isi (by rfl) T.isi (by decide +kernel) (pa_cons (pv 15) (pa_cons (pgR T.gF) pa_nil)))))
            (pw_or (pt_cmpR (op_neD hu) (pe_fld (pv 15) rfl) (pe_callTy call_tuple_any (by rfl) T.g.tuple (by decide +kernel) (pa_cons (pv 18) pa_nil)) (nomark _)) (pw_or1 (pt_cmpR (op_neD hu) (pe_fld (pv 15) rfl) (pv 2) (nomark _)))))) (pss_one (ps_ret pe_bl)) pss_nil)
        (pss_one (ps_if (pt_cmpR (op_neD hu) (pe_tup (pa_cons (pe_fld (pe_fld (pv 15) rfl) rfl) (pa_cons (pe_fld (pe_fld (pv 15) rfl) rfl) (pa_cons (pe_fld (pe_fld (pv 15) rfl) rfl) pa_nil))))
            (pe_tup (pa_cons (pe_callB call_len_seq (by rfl) T.g.p.len PySem.boot_len (pa_cons (pv 18) pa_nil)) (pa_cons (pe_call GDu hr1 (by rfl) T.gDue FDu.kp bDu .nil pass0 (pa_cons (pv 18) pa_nil)) (pa_cons (pe_tup pa_nil) pa_nil)))) (nomark _)) (pss_one (ps_ret pe_bl)) pss_nil)))))
      (pss_cons (ps_set (i := 14) scLaw.nd rfl (Or.inr rfl) (pe_call GSt hr2 (by rfl) T.gStir FSt.kp bSt .nil pass0 (pa_cons (pv 1) (pa_cons (pv 2) pa_nil))))
      (pss_cons (ps_asg (pe_tup (pa_cons (pe_tup (pa_cons (pe_callB call_len_seq (by rfl) T.g.p.len PySem.boot_len (pa_cons (pv 18) pa_nil)) (pa_cons (pe_call GDu hr1 (by rfl) T.gDue FDu.kp bDu .nil pass0 (pa_cons (pv 18) pa_nil)) (pa_cons (pe_tup pa_nil) pa_nil)))) (pa_cons (pe_lst pa_nil) (pa_cons (pv 14) pa_nil))))
          (pg_tup rfl (pgs_cons (pg_name (i := 7) scLaw.nd rfl (Or.inl rfl)) (pgs_cons (pg_name (i := 16) scLaw.nd rfl (Or.inr rfl)) (pgs_cons (pg_name (i := 8) scLaw.nd rfl (Or.inl rfl)) pgs_nil)))))
      (pss_cons (ps_set (i := 9) scLaw.nd rfl (Or.inl rfl) (pe_lst (pa_cons (pe_op op_add_str (pe_joinK (K := K) rfl pe_str (pe_call GLp hr2 (by rfl) T.gLPic FLp.kp bLp .nil pass0 (pa_cons (pv 18) (pa_cons (pv 14) pa_nil)))) pe_str) pa_nil)))
      (pss_cons (ps_for PassesOwn.never rfl (pi_range1 (by rfl) T.g.range (pa_cons (pe_call GD hr1 (by rfl) T.g.p.gDraw FD.kp bD .nil pass0 (pa_cons (pv 1) (pa_cons pe_int pa_nil))) pa_nil)) (pg_name (i := 10) scLaw.nd rfl (Or.inl rfl))
        (pss_cons (ps_set (i := 11) scLaw.nd rfl (Or.inl rfl) (pe_call GMv hr1 (by rfl) T.gMoves FMv.kp bMv .nil pass0 (pa_cons (pv 7) (pa_cons (pv 8) pa_nil))))
        (pss_one (ps_if (pt_cmpR (op_neD hu) (pv 11) (pe_lst pa_nil) (nomark _))
          (pss_cons (ps_expr (pe_bm PySem.F.plainAttrs_list PySem.F.slot_list_append PySem.F.type_list_append mt_append (pv 16) (pa_cons (pe_call GK hr2 (by rfl) T.gPick FK.kp bK .nil pass0 (pa_cons (pv 1) (pa_cons (pv 11) pa_nil))) pa_nil)))
          (pss_cons (ps_set (i := 8) scLaw.nd rfl (Or.inl rfl) (pe_call GMd hr1 (by rfl) T.gMoved FMd.kp bMd .nil pass0 (pa_cons (pv 7) (pa_cons (pv 8) (pa_cons (pe_ix ix_list (pv 16) (pe_un un_neg pe_int) (fun _ _ => rfl)) pa_nil)))))
          (pss_one (ps_expr (pe_bm PySem.F.plainAttrs_list PySem.F.slot_list_append PySem.F.type_list_append mt_append (pv 9) (pa_cons (pe_op op_add_str (pe_joinK (K := K) rfl pe_str (pe_call GLp hr2 (by rfl) T.gLPic FLp.kp bLp .nil pass0 (pa_cons (pv 18) (pa_cons (pv 8) pa_nil)))) pe_str) pa_nil)))))) pss_nil))))
      (pss_cons (ps_if (pt_cmpR op_ne (pe_call GRl hr5 (by rfl) T.gRl FRl.kp bRl .nil passF (pa_cons (pv 15) (pa_cons (pv 14) (pa_cons (pe_callTy call_tuple_any (by rfl) T.g.tuple (by decide +kernel) (pa_cons (pv 16) pa_nil)) pa_nil)))) (pe_joinK (K := K) rfl pe_str (pv 9)) (nomark _)) (pss_one (ps_ret pe_bl)) pss_nil)
      (pss_cons (ps_if (pt_cmpR (op_neD hu) (pe_whyR (K := K) rfl rfl (by rfl) T.gWhy FW bW TW TB rfl q_law hr7 (lamS_by (sc := defScope sLaw) (by decide +kernel)) rfl (fun _ _ _ _ _ => rfl) rfl rfl T.g.tuple (.inr (.inr rfl)) (.inr (.inr rfl)) (.inr (.inr rfl)) T.gRl GRl FRl bRl)
          (pe_lst (pa_cons pe_str (pa_cons (pe_callB call_len_seq (by rfl) T.g.p.len PySem.boot_len (pa_cons (pv 16) pa_nil)) pa_nil))) (nomark _)) (pss_one (ps_ret pe_bl)) pss_nil)
      (pss_cons (ps_set (i := 11) scLaw.nd rfl (Or.inl rfl) (pe_lst (pa_cons pe_non (pa_cons pe_int (pa_cons (pe_op op_catU (pv 2) (pe_tup (pa_cons pe_int pa_nil))) (pa_cons (pe_slice sl_tupU (pv 2) (po_some pe_int) po_none)
          (pa_cons (pe_op op_catU (pe_tup (pa_cons pe_int pa_nil)) (pe_slice sl_tupU (pv 2) (po_some pe_int) po_none)) (pa_cons (pe_op op_catU (pe_tup (pa_cons (pe_un un_neg pe_int) pa_nil)) (pe_slice sl_tupU (pv 2) (po_some pe_int) po_none))
          (pa_cons (pe_op op_catU (pe_tup (pa_cons pe_bl pa_nil)) (pe_slice sl_tupU (pv 2) (po_some pe_int) po_none)) (pa_cons pe_str pa_nil))))))))))
      (pss_cons (ps_set (i := 17) scLaw.nd rfl (Or.inr rfl) (pe_call GK hr2 (by rfl) T.gPick FK.kp bK .nil pass0 (pa_cons (pv 1) (pa_cons (pv 11) pa_nil))))
      (pss_cons (ps_if (pt_cmpR (op_neD hu) (pe_whyD (K := K) rfl rfl (by rfl) T.gWhy FW bW TW TB rfl q_law hr7 (lamS_by (sc := defScope sLaw) (by decide +kernel)) rfl (fun _ _ _ _ _ => rfl) rfl rfl T.g.tuple (.inr (.inr rfl)) (.inr (.inr rfl)) T.gDw GDw FDw bDw)
          (pe_lst (pa_cons pe_str (pa_cons (pv 17) pa_nil))) (nomark _)) (pss_one (ps_ret pe_bl)) pss_nil)
      (pss_cons (ps_set (i := 12) scLaw.nd rfl (Or.inl rfl) (pe_call GD hr1 (by rfl) T.g.p.gDraw FD.kp bD .nil pass0 (pa_cons (pv 1) (pa_cons (pe_callB call_len_seq (by rfl) T.g.p.len PySem.boot_len (pa_cons (pv 3) pa_nil)) pa_nil))))
      (pss_cons (ps_set (i := 13) scLaw.nd rfl (Or.inl rfl) (pe_call GD hr1 (by rfl) T.g.p.gDraw FD.kp bD .nil pass0 (pa_cons (pv 1) (pa_cons (pe_op op_add (pe_callB call_len_str (by rfl) T.g.p.len PySem.boot_len (pa_cons (pe_ix ix_list (pv 3) (pv 12) (fun _ _ => rfl)) pa_nil)) pe_int) pa_nil))))
      (pss_cons (ps_asg (pe_op op_add_str (pe_op op_add_str (pe_slice sl_str (pe_ix ix_list (pv 3) (pv 12) (fun _ _ => rfl)) po_none (po_some (pv 13))) (pe_call GK hr2 (by rfl) T.gPick FK.kp bK .nil pass0 (pa_cons (pv 1) (pa_cons (pe_lst (pa_cons pe_str (pa_cons pe_str (pa_cons pe_str (pa_cons pe_str (pa_cons pe_str (pa_cons pe_str pa_nil))))))) pa_nil))))
          (pe_slice sl_str (pe_ix ix_list (pv 3) (pv 12) (fun _ _ => rfl)) (po_some (pv 13)) po_none)) (pg_sub (pv 3) (pv 12) set_list))
      (pss_cons (ps_if (pt_cmpR (op_neD hu) (pe_call GLn hr (by rfl) T.gLine FLn.kp bLn .nil pass0 (pa_cons (pe_joinK (K := K) rfl pe_str (pv 3)) pa_nil)) (pe_tup (pa_cons (pe_op op_add (pv 12) pe_int) (pa_cons (pe_op op_add (pv 13) pe_int) pa_nil))) (nomark _)) (pss_one (ps_ret pe_bl)) pss_nil)
      (pss_cons (ps_if (pt_cmpR (op_neD hu) (pe_call GLn hr (by rfl) T.gLine FLn.kp bLn .nil pass0 (pa_cons (pe_call GK hr2 (by rfl) T.gPick FK.kp bK .nil pass0 (pa_cons (pv 1) (pa_cons (pe_lst (pa_cons pe_str (pa_cons pe_str (pa_cons pe_str (pa_cons pe_str pa_nil))))) pa_nil))) pa_nil)) (pe_tup (pa_cons pe_int (pa_cons pe_int pa_nil))) (nomark _)) (pss_one (ps_ret pe_bl)) pss_nil)
      (pss_one (ps_ret (pe_cmpR (op_eqD hu) (pe_call GLn hr (by rfl) T.gLine FLn.kp bLn .nil pass0 (pa_cons (pe_call GK hr2 (by rfl) T.gPick FK.kp bK .nil pass0 (pa_cons (pv 1) (pa_cons (pe_lst (pa_cons pe_non (pa_cons pe_int (pa_cons (pe_lst (pa_cons pe_str pa_nil)) pa_nil)))) pa_nil))) pa_nil)) (pe_tup (pa_cons pe_int (pa_cons pe_int pa_nil))) (nomark _))))))))))))))))))))))))), ?_⟩
    refine ⟨_, rfl, a, ns, rfl, hS, hlen, fun p c0 H1 P1 s1 np => ?_⟩
    have hT1 : Tabs [(Pt, qLam)] H1 := fun q hq => by rw [List.mem_singleton.mp hq]; exact TabS.nil (s1 _ _ hPt)
    refine gset_go (σ' := [some (.ref a), some (.ref p), none, none, none, none, none, none, none, none, none, none, none, none, none, none, none, none, none, none, none]) rfl ?_
    dsimp only
    -- spots
    refine ⟨_, rfl, p, c0, 2000, rfl, P1.less (by decide), fun l ys sp H2 el py sd kp2 P2 => ?_⟩
    refine gset_go (σ' := [some (.ref a), some (.ref p), none, none, none, none, none, none, none, none, none, none, none, none, none, none, none, none, some (.ref l), none, none]) rfl ?_
    dsimp only
    obtain ⟨h, w', sok, h1, h3, w4⟩ := sd.ok
    have T2 := tabs_kp hT1 kp2
    have lys : ys.length = sp.length := Paired.length py
    have l9 := sd.l9
    have l0 : 0 < sp.length := List.length_pos_iff.mpr sd.ne
    clear hT1 kp2 s1 hS hPt P1
    -- the stand
    refine ⟨_, rfl, l, rfl, ⟨_, SqL.of el⟩, fun D nD => ?_⟩
    have offD := P2.off nD
    refine lc_it (walk_list (K := K) (a := l) (xs := ys)) (fun i H' => ∃ zs : List Int, H' D = some (.lst (zs.map V.int)) ∧ zs.length = i ∧ Rng36 zs ∧ Kp H2 H' ∧ Pen H' p c0 (1900 - 2 * i))
      ⟨[], upd_same, rfl, fun z hz => (by cases hz), Kp.new nD, (P2.same (Same.new nD)).less (by omega)⟩ (fun i H' _ ⟨_, _, _, _, kp, _⟩ => SqL.of (kp.lst el)) ?_ ?_
    · rintro i x H3 H3' hi ⟨zs, eD, lz, rz, kp3, P3⟩ ⟨rfl, hx⟩
      have hi9 : i < 9 := by omega
      refine ⟨rfl, yes_if ?_⟩
      obtain ⟨kv3, hk3⟩ := P3.there
      refine ⟨_, rfl, _, rfl, p, c0, 35, 1900 - 2 * i - 1, rfl, P3.less (by omega), by decide, by decide, fun n H4 n0 n35 P4 B4 => ⟨_, _, rfl, rfl, (by show 9 ≤ sizeLine; decide), fun g ng => ?_⟩⟩
      have eD4 := B4.keep hk3 eD (by intro z; cases z)
      have s5 := Same.new (o := .lst (([0, 0, 1, 2, 9, 10, 11, 35, 1 + n] : List Int).map V.int)) ng
      have eg5 : (upd H4 g (.lst (([0, 0, 1, 2, 9, 10, 11, 35, 1 + n] : List Int).map V.int))) g = some (.lst (([0, 0, 1, 2, 9, 10, 11, 35, 1 + n] : List Int).map V.int)) := upd_same
      have kp5 := (kp3.trans (.of_but B4 hk3)).trans (.of_same s5)
      have P5 := P4.same s5
      have eD5 := s5 _ _ eD4
      obtain ⟨kv5, hk5⟩ := P5.there
      refine ⟨p, c0, g, _, 1900 - 2 * (i + 1), rfl, P5.less (by omega), .inl (SqL.of eg5), by simp, by show 9 ≤ 1000000; decide, fun x i' H6 hx P6 B6 => ?_⟩
      obtain ⟨z, hz, rfl⟩ := ints_at hx
      have rz' : 0 ≤ z ∧ z < 36 := by
        have hm := List.mem_of_getElem? hz
        simp only [List.mem_cons, List.not_mem_nil, or_false] at hm
        omega
      have eD6 := B6.keep hk5 eD5 (by intro z; cases z)
      refine ⟨_, eD6, by rw [List.length_map]; exact Nat.lt_of_le_of_lt (by omega : zs.length ≤ 9) (by decide), zs ++ [z], by rw [upd_same, List.map_append]; rfl, by rw [List.length_append, lz]; rfl, fun y hy => ?_, (kp5.trans (.of_but B6 hk5)).upd nD, P6.upd offD.1 offD.2⟩
      rcases List.mem_append.mp hy with hy | hy
      · exact rz y hy
      · rw [List.mem_singleton.mp hy]
        exact rz'
    · rintro H3 ⟨st, eD, lst', r36, kp3, P3⟩
      have l1 : sp.length = st.length := by omega
      have el3 := kp3.lst el
      have py3 := ties_kp py kp3
      have T3 := tabs_kp T2 kp3
      have P3' : Pen H3 p c0 1800 := P3.less (by omega)
      clear P3 T2 kp3 P2 offD nD py
      refine ⟨D, _, rfl, .inl (SqL.of eD), fun t H4 ht s4 => ?_⟩
      have el4 := s4 _ _ el3
      have py4 := ties_kp py3 (.of_same s4)
      have T4 := T3.ext s4
      have P4 := P3'.same s4
      clear eD s4 el3 py3 T3 P3' H3 H2 el
      refine gset_go (σ' := [some (.ref a), some (.ref p), some (.ref t), none, none, none, none, none, none, none, none, none, none, none, none, none, none, none, some (.ref l), none, none]) rfl ?_
      dsimp only
      -- its picture
      refine ⟨_, rfl, _, rfl, l, t, ys, sp, st, h, w', rfl, SqL.of el4, ht, py4, l1, sok, r36, fun r H5 er nr s5 => ?_⟩
      have el5 := s5 _ _ el4
      have lr : l ≠ r := ne_of_none el4 nr
      have ht5 := Same.seqT s5 ht
      have py5 := ties_kp py4 (.of_same s5)
      have T5 := T4.ext s5
      have P5 := P4.same s5
      have offr := P4.off nr
      clear nr s5 el4 ht py4 T4 P4
      refine gset_go (σ' := [some (.ref a), some (.ref p), some (.ref t), some (.ref r), none, none, none, none, none, none, none, none, none, none, none, none, none, none, some (.ref l), none, none]) rfl ?_
      dsimp only
      obtain ⟨LS, hLS⟩ : ∃ LS, LS = linesL (sp.zip st) h w' := ⟨_, rfl⟩
      have pok := pic_ok sd sok l1 r36
      have lne : LS ≠ [] := by rw [hLS]; exact lines_ne h1
      have lsl : LS.length = h := by rw [hLS]; exact lines_len _ _ _
      have gok : ∀ m ∈ LS, m.length = w' ∧ ∀ c ∈ m, c ∈ SG ∨ c = 35 := by rw [hLS]; exact line_ok pok
      rw [← hLS] at er
      have pic_eq : picL sp h w' st = textL LS := by rw [hLS]; rfl
      have sum60 : ∀ ms : List (List Nat), ms.length ≤ 5 → (∀ m ∈ ms, m.length ≤ 60) → ((ms.map strL).map (·.length)).sum + (ms.map strL).length * 1 ≤ 16777216 := fun ms hm hl => by
        have := sum_le (ls := (ms.map strL).map (·.length)) (m := 60) fun x hx => by
          obtain ⟨y, hy, rfl⟩ := List.mem_map.mp hx
          obtain ⟨z, hz, rfl⟩ := List.mem_map.mp hy
          rw [strL_len]
          exact hl z hz
        rw [List.length_map, List.length_map] at this
        rw [List.length_map]
        have : ms.length * 60 ≤ 5 * 60 := Nat.mul_le_mul_right _ hm
        omega
      have en : Str.length (Str.ofString "\n") = 1 := by decide +kernel
      have ec : (Str.ofString "\n").cps = #[10] := by decide +kernel
      have jl : (joinL 10 LS).length ≤ 305 := by
        have := joinL_le (c := 10) (k := 60) (ls := LS) fun l hl => by have := (gok l hl).1; omega
        have : LS.length * 61 ≤ 5 * 61 := Nat.mul_le_mul_right _ (by omega)
        omega
      refine ⟨⟨_, rfl⟩, _, rfl, _, r, LS.map strL, rfl, rfl, .inl (SqL.of er), by rw [en]; exact sum60 LS (by omega) fun m hm => by have := (gok m hm).1; omega, ?_⟩
      rw [glued_nl _ ec]
      refine ⟨_, _, rfl, rfl, by rw [strL_len, en]; exact Nat.le_trans (by omega : _ ≤ 306) (by decide), ?_⟩
      have etx : strL (joinL 10 LS) ++ Str.ofString "\n" = strL (textL LS) := by rw [nl_eq, strL_app, ← textL_nl lne]
      rw [etx]
      refine gset_go (σ' := [some (.ref a), some (.ref p), some (.ref t), some (.ref r), some (.str (strL (textL LS))), none, none, none, none, none, none, none, none, none, none, none, none, none, some (.ref l), none, none]) rfl ?_
      dsimp only
      -- drawn
      refine ⟨_, rfl, l, ys, rfl, .inl (SqL.of el5), fun ts H6 hts s6 => ?_⟩
      have ht6 := Same.seqT s6 ht5
      have py6 := ties_kp py5 (.of_same s6)
      refine ⟨_, rfl, ts, .ref t, ys, .tuple (st.map PyData.int), rfl, .inr hts, .tup ht6 (dqs_st st), .inr ⟨st, rfl, by omega, by omega, r36, fun H7 s7 => ?_⟩⟩
      refine ⟨ts, t, ys, sp, st, h, w', rfl, .inr (.inl ⟨Same.seqT s7 hts, Same.seqT s7 ht6⟩), ties_kp py6 (.of_same s7), l1, sok.ne, sok.l60, sok.nd, r36, sok.box, sok.mh, sok.mw, sok.h60, sok.w60, fun H8 s8 s8' => ?_⟩
      refine ⟨_, rfl, rfl, _, rfl, iteF' (by rw [← hLS, decide_eq_true rfl]; rfl) ?_⟩
      have s58 := (s6.trans s7).trans s8
      have el8 := s58 _ _ el5
      refine ⟨_, rfl, _, rfl, t, _, rfl, .inr (Same.seqT s58 ht5), fun l2 nl2 => ?_⟩
      have s9 := Same.new (o := .lst (st.map V.int)) nl2
      have e9 : (upd H8 l2 (.lst (st.map V.int))) l2 = some (.lst (st.map V.int)) := upd_same
      have s59 := s58.trans s9
      generalize upd H8 l2 (.lst (st.map V.int)) = H9 at s9 e9 s59 ⊢
      refine ⟨l, .ref l2, ys, .list (st.map PyData.int), rfl, .inl (SqL.of (s59 _ _ el5)), .lst (SqL.of e9) (dqs_st st), .inr ⟨st, rfl, by omega, by omega, r36, fun H10 s10 => ?_⟩⟩
      refine ⟨l, l2, ys, sp, st, h, w', rfl, .inl ⟨SqL.of (s10 _ _ (s59 _ _ el5)), SqL.of (s10 _ _ e9)⟩, ties_kp py5 (.of_same (s59.trans s10)), l1, sok.ne, sok.l60, sok.nd, r36, sok.box, sok.mh, sok.mw, sok.h60, sok.w60, fun H11 s11 s11' => ?_⟩
      refine ⟨_, rfl, rfl, _, rfl, iteF' (by rw [← hLS, decide_eq_true rfl]; rfl) ?_⟩
      have sZ := (s59.trans s10).trans s11
      have elZ := sZ _ _ el5
      have htZ := Same.seqT sZ ht5
      have pyZ := ties_kp py5 (.of_same sZ)
      have TZ := T5.ext sZ
      have PZ := P5.same sZ
      have erZ := sZ _ _ er
      clear s8' s11' sZ s10 s11 s59 s9 e9 el8 s58 s6 s7 s8 ht6 py6 hts el5 ht5 py5 T5 P5 er nl2
      clear H10 H9 H8 H7 H6 H5 H4
      -- walls more, walls less
      refine ⟨_, rfl, r, rfl, ⟨_, SqL.of erZ⟩, fun D5 nD5 => ?_⟩
      have offD5 := PZ.off nD5
      refine lc_it (walk_list (K := K) (a := r) (xs := (LS.map strL).map V.str)) (fun i H' => ∃ ms : List (List Nat), H' D5 = some (.lst ((ms.map strL).map V.str)) ∧ Paired Loose ms (LS.take i) ∧ Kp H11 H' ∧ Pen H' p c0 (1790 - i))
        ⟨[], upd_same, .nil, Kp.new nD5, (PZ.same (Same.new nD5)).less (by omega)⟩ (fun i H' _ ⟨_, _, _, kp, _⟩ => SqL.of (kp.lst erZ)) ?_ ?_
      · rintro i x H3 H3' hi ⟨ms, eD, pm, kp3, P3⟩ ⟨rfl, hx⟩
        rw [List.length_map, List.length_map] at hi
        obtain ⟨m, em⟩ : ∃ m, LS[i]? = some m := ⟨_, List.getElem?_eq_getElem hi⟩
        obtain rfl : V.str (strL m) = x := by
          have hx : ((LS.map strL).map V.str)[i]? = some x := hx
          rw [List.getElem?_map, List.getElem?_map, em] at hx
          exact Option.some.inj hx
        have gm := gok m (List.mem_of_getElem? em)
        obtain ⟨kv3, hk3⟩ := P3.there
        obtain ⟨kk, hk, ers, hw⟩ := rstrip_at m
        refine ⟨rfl, yes_if ?_⟩
        refine ⟨_, rfl, rfl, _, _, rfl, rfl, by rw [strL_len]; exact Nat.le_trans (by omega : m.length ≤ 4) (by decide), ?_⟩
        rw [wall_eq, ers]
        refine ⟨_, rfl, p, c0, 3, 1790 - (i + 1), rfl, P3.less (by omega), by decide, by decide, fun n H4 n0 n3 P4 B4 => ?_⟩
        refine ⟨_, n, rfl, rfl, n0, by omega, by show 1 ≤ 1000; decide, ?_⟩
        rw [rep_wall]
        refine ⟨_, _, rfl, rfl, ?_, ?_⟩
        · rw [strL_len, strL_len, List.length_take, List.length_replicate]
          exact Nat.le_trans (by omega : _ ≤ 60) (by decide)
        rw [strL_app]
        have eD4 := B4.keep hk3 eD (by intro z; cases z)
        have lm := Paired.length pm
        rw [List.length_take] at lm
        refine ⟨_, eD4, by rw [List.length_map, List.length_map]; exact Nat.lt_of_le_of_lt (by omega : ms.length ≤ 3) (by decide), ms ++ [m.take kk ++ List.replicate n.toNat 35], by rw [upd_same, List.map_append, List.map_append]; rfl, ?_, (kp3.trans (.of_but B4 hk3)).upd nD5, P4.upd offD5.1 offD5.2⟩
        rw [take_next em]
        exact pair_app pm (.cons ⟨kk, n.toNat, hk, by omega, rfl, hw⟩ .nil)
      · rintro H3 ⟨ms, eD, pm, kp3, P3⟩
        rw [show ((LS.map strL).map V.str).length = LS.length by rw [List.length_map, List.length_map], List.take_length] at pm
        rw [show ((LS.map strL).map V.str).length = LS.length by rw [List.length_map, List.length_map]] at P3
        have sh2 : ShOk (sp.zip st) (strL (joinL 10 ms)) := sh_loose pok h1 h3 w4 (by rw [← hLS]; exact pm)
        have lms : ms.length = h := by rw [Paired.length pm]; exact lsl
        have ms60 : ∀ m ∈ ms, m.length ≤ 60 := fun m hm => by
          obtain ⟨i, hi⟩ := List.mem_iff_getElem?.mp hm
          obtain ⟨l, hl, k, r, hk, hr, rfl, _⟩ := par_get pm hi
          have := (gok l (List.mem_of_getElem? hl)).1
          rw [List.length_append, List.length_take, List.length_replicate]
          omega
        refine gset_go (σ' := [some (.ref a), some (.ref p), some (.ref t), some (.ref r), some (.str (strL (textL LS))), some (.ref D5), none, none, none, none, none, none, none, none, none, none, none, none, some (.ref l), none, none]) rfl ?_
        dsimp only
        have el3 := kp3.lst elZ
        have er3 := kp3.lst erZ
        have ht3 := kp3.seqT htZ
        have py3 := ties_kp pyZ kp3
        have T3 := tabs_kp TZ kp3
        have P3' : Pen H3 p c0 1780 := P3.less (by omega)
        clear kp3 P3 TZ PZ pyZ htZ elZ erZ nD5 offD5
        -- the three texts
        refine ⟨_, rfl, ?_⟩
        refine ⟨⟨_, rfl⟩, _, rfl, _, D5, ms.map strL, rfl, rfl, .inl (SqL.of eD), by rw [en]; exact sum60 ms (by omega) ms60, ?_⟩
        rw [glued_nl _ ec]
        refine ⟨_, rfl, _, rfl, (by show 3 ≤ sizeLine; decide), fun g ng => ?_⟩
        have sg := Same.new (o := .lst [V.str "", .str "\n", .str "##\n"]) ng
        have eg : (upd H3 g (.lst [V.str "", .str "\n", .str "##\n"])) g = some (.lst [V.str "", .str "\n", .str "##\n"]) := upd_same
        have P4 := P3'.same sg
        refine ⟨p, c0, g, [V.str "", .str "\n", .str "##\n"], 1770, rfl, P4.less (by omega), .inl (SqL.of eg), by simp, by show 3 ≤ 1000000; decide, fun x i' H5 hx P5 B5 => ?_⟩
        obtain ⟨z3, rfl, lz3, sh3⟩ := sh_third hLS pok h1 h3 w4 x (List.mem_of_getElem? hx)
        have tl : (textL LS).length ≤ 306 := by rw [textL_nl lne, List.length_append]; show _ + 1 ≤ 306; omega
        refine ⟨_, _, rfl, rfl, by rw [strL_len]; exact Nat.le_trans (by omega : _ ≤ 309) (by decide), ?_⟩
        have sh1 : ShOk (sp.zip st) (strL (textL LS)) := by
          have := sh_more pok h1 h3 w4 (ex := []) (Nat.zero_le _) (fun l hl => by cases hl)
          rwa [List.append_nil, ← hLS] at this
        obtain ⟨kv4, hk4⟩ := P4.there
        have kp5 : Kp H3 H5 := (Kp.of_same sg).trans (.of_but B5 hk4)
        generalize hz3 : strL (textL LS) ++ z3 = Z3 at sh3 ⊢
        generalize hz2 : strL (joinL 10 ms) = Z2 at sh2 ⊢
        refine ⟨(by show 3 ≤ sizeLine; decide), fun lv nlv => ⟨lv, rfl, ⟨_, SqL.of upd_same⟩, ?_⟩⟩
        have s6 := Same.new (o := .lst [V.str (strL (textL LS)), .str Z2, .str Z3]) nlv
        have elv : (upd H5 lv (.lst [V.str (strL (textL LS)), .str Z2, .str Z3])) lv = some (.lst [V.str (strL (textL LS)), .str Z2, .str Z3]) := upd_same
        have kp6 := kp5.trans (.of_same s6)
        have P6 := P5.same s6
        have el6 := kp6.lst el3
        have er6 := kp6.lst er3
        have ht6 := kp6.seqT ht3
        have py6 := ties_kp py3 kp6
        have T6 := tabs_kp T3 kp6
        generalize upd H5 lv (.lst [V.str (strL (textL LS)), .str Z2, .str Z3]) = H6 at s6 elv kp6 P6 el6 er6 ht6 py6 T6 ⊢
        clear kp5 kp6 s6 sg P5 B5 hk4 P4 T3 py3 ht3 er3 el3 P3' eD hx eg ng nlv lz3 hz2 hz3 pm ms60 lms
        refine for_list (K := K) (a := lv) (xs := [V.str (strL (textL LS)), .str Z2, .str Z3]) (fun j σ H' => ∃ (v6 v15 : Option V), σ = [some (.ref a), some (.ref p), some (.ref t), some (.ref r), some (.str (strL (textL LS))), some (.ref D5), v6, none, none, none, none, none, none, none, none, v15, none, none, some (.ref l), none, none] ∧ Same H6 H' ∧ (j ≠ 0 → ∃ x, v15 = some (.ref x) ∧ FlOk K CF CY H' x sp st))
          ⟨none, none, rfl, Same.refl' _, fun z => absurd rfl z⟩ (fun j σ H' _ ⟨_, _, _, s, _⟩ => SqL.of (s _ _ elv)) ?_ ?_
        · rintro j y σ H7 hj ⟨v6, v15, rfl, s7, _⟩
          obtain ⟨z, rfl, sh⟩ : ∃ z, y = .str z ∧ ShOk (sp.zip st) z := by
            have := List.mem_of_getElem? hj
            simp only [List.mem_cons, List.not_mem_nil, or_false] at this
            rcases this with rfl | rfl | rfl
            · exact ⟨_, rfl, sh1⟩
            · exact ⟨_, rfl, sh2⟩
            · exact ⟨_, rfl, sh3⟩
          obtain ⟨ls, rfl, ne, l60, hls, lj, fnd⟩ := sh.ex
          refine gset_go (σ' := [some (.ref a), some (.ref p), some (.ref t), some (.ref r), some (.str (strL (textL LS))), some (.ref D5), some (.str (strL (joinL 10 ls))), none, none, none, none, none, none, none, none, v15, none, none, some (.ref l), none, none]) rfl ?_
          have lz : (sp.zip st).length = sp.length := by rw [List.length_zip]; omega
          refine ⟨_, rfl, .inl ⟨ls, sp.zip st, rfl, ne, l60, hls, lj, fnd, fun z => (by rw [z] at lz; rw [List.length_nil] at lz; omega), by omega, fun x yy tt uu yys us H8 fl htt pyy huu yo asc s8 => ?_⟩⟩
          rw [zip_keys l1] at pyy asc
          rw [List.map_snd_zip (by omega)] at huu
          rw [lz] at yo
          obtain rfl := due_one sd.nd (by omega) asc
          refine gset_go (σ' := [some (.ref a), some (.ref p), some (.ref t), some (.ref r), some (.str (strL (textL LS))), some (.ref D5), some (.str (strL (joinL 10 ls))), none, none, none, none, none, none, none, none, some (.ref x), none, none, some (.ref l), none, none]) rfl ?_
          obtain ⟨dx, fs, hx, f1, f2, f3⟩ := id fl
          have s68 := s7.trans s8
          refine ⟨_, rfl, .ref x, .ref CF, _, _, true, rfl, ClsV.own _, .base (TyOf.ins hx T.fc.c T.of_.ha T.of_.hn T.of_.htk T.of_.hm), T.own, _, rfl, iteF' rfl ?_⟩
          refine ⟨_, rfl, x, CF, dx, fs, _, rfl, hx, T.fc.c, T.fc.s, f1, ?_⟩
          refine ⟨_, rfl, l, ys, rfl, .inl (SqL.of (s68 _ _ el6)), fun q H9 hq s9 => ?_⟩
          have s69 := s68.trans s9
          refine ⟨tsD sp, tsD sp, .tup (Same.seqT s9 htt) (ties_dp (ties_kp pyy (.of_same s9))), .tup hq (ties_dp (ties_kp py6 (.of_same s69))), ts_shaped sp, ts_shaped sp, _, rfl, iteF' (by rw [ts_eqv, decide_eq_true rfl]; rfl) ?_⟩
          refine ⟨_, rfl, x, CF, dx, fs, _, rfl, s9 _ _ hx, T.fc.c, T.fc.t, f3, ?_⟩
          refine ⟨_, rfl, ringD st, ringD st, .tup (Same.seqT s9 huu) (ints_dp st), .tup (Same.seqT s69 ht6) (ints_dp st), shaped_of (ring_lay st) (Nat.le_trans (ring_deep st) (by decide)), shaped_of (ring_lay st) (Nat.le_trans (ring_deep st) (by decide)), _, rfl, iteF' (by rw [ring_eqv, decide_eq_true rfl]; rfl) ?_⟩
          obtain ⟨dy, ta, ea, fy, tys, tzs, hy, ycc, lp, lt, lr', hta, pta, hea, pea⟩ := yo.kp (.of_same s9)
          have hx9 := s9 _ _ hx
          refine ⟨_, rfl, x, CF, dx, fs, _, rfl, hx9, T.fc.c, T.fc.y, f2, yy, CY, dy, fy, _, rfl, hy, T.yc.c, T.yc.p, lp, ?_⟩
          refine ⟨_, rfl, x, CF, dx, fs, _, rfl, hx9, T.fc.c, T.fc.y, f2, yy, CY, dy, fy, _, rfl, hy, T.yc.c, T.yc.t, lt, ?_⟩
          refine ⟨_, rfl, x, CF, dx, fs, _, rfl, hx9, T.fc.c, T.fc.y, f2, yy, CY, dy, fy, _, rfl, hy, T.yc.c, T.yc.r, lr', (by show 3 ≤ sizeLine; decide), fun t1 nt1 => ?_⟩
          have s10 := Same.new (o := .tup [.int (sp.length : Nat), .ref ta, .ref ea]) nt1
          have e10 : (upd H9 t1 (.tup [.int (sp.length : Nat), .ref ta, .ref ea])) t1 = some (.tup [.int (sp.length : Nat), .ref ta, .ref ea]) := upd_same
          generalize upd H9 t1 (.tup [.int (sp.length : Nat), .ref ta, .ref ea]) = H10 at s10 e10 ⊢
          have s610 := s69.trans s10
          refine ⟨_, rfl, l, ys, rfl, .inl (SqL.of (s610 _ _ el6)), ?_⟩
          refine ⟨_, rfl, l, ys, sp, rfl, SqL.of (s610 _ _ el6), ties_kp py6 (.of_same s610), by omega, fun td zs H12 htd pz s12 => ?_⟩
          refine ⟨(by show 0 ≤ sizeLine; decide), fun te nte => ?_⟩
          have s13 := Same.new (o := .tup ([] : List V)) nte
          have e13 : (upd H12 te (.tup ([] : List V))) te = some (.tup []) := upd_same
          generalize upd H12 te (.tup ([] : List V)) = H13 at s13 e13 ⊢
          refine ⟨(by show 3 ≤ sizeLine; decide), fun t2 nt2 => ?_⟩
          have s14 := Same.new (o := .tup [.int (ys.length : Nat), .ref td, .ref te]) nt2
          have e14 : (upd H13 t2 (.tup [.int (ys.length : Nat), .ref td, .ref te])) t2 = some (.tup [.int (ys.length : Nat), .ref td, .ref te]) := upd_same
          generalize upd H13 t2 (.tup [.int (ys.length : Nat), .ref td, .ref te]) = H14 at s14 e14 ⊢
          have s1014 := (s12.trans s13).trans s14
          have s914 := s10.trans s1014
          refine ⟨ydD sp.length (dueF sp) [], ydD ys.length (dueF sp) [], ?_, ?_, yd_shaped _ _ _, yd_shaped _ _ _, _, rfl, iteF' (by rw [yd_eqv, lys, ydB_self]; rfl) ?_⟩
          · refine .tup (SqT.of (s1014 _ _ e10)) (.cons (.int _) (.cons (.tup (Same.seqT s914 hta) (ties_dp (ties_kp pta (.of_same s914)))) (.cons ?_ .nil)))
            cases pea
            exact .tup (Same.seqT s914 hea) .nil
          · exact .tup (SqT.of e14) (.cons (.int _) (.cons (.tup (Same.seqT (s13.trans s14) htd) (ties_dp (ties_kp pz (.of_same (s13.trans s14))))) (.cons (.tup (SqT.of (s14 _ _ e13)) .nil) .nil)))
          · have s814 := s9.trans s914
            exact ⟨_, _, rfl, s68.trans s814, fun _ => ⟨x, rfl, yy, tt, uu, yys, (Ky.of_same s814).fl fl, Same.seqT s814 htt, ties_kp pyy (.of_same s814), Same.seqT s814 huu, yo.kp (.of_same s814)⟩⟩
        · rintro σ H7 ⟨v6, v15, rfl, s7, fo⟩
          obtain ⟨x, rfl, flo⟩ := fo (by show 3 ≠ 0; decide)
          have el7 := s7 _ _ el6
          have er7 := s7 _ _ er6
          have ht7 := Same.seqT s7 ht6
          have py7 := ties_kp py6 (.of_same s7)
          have T7 := T6.ext s7
          have P7 := P6.same s7
          clear fo s7 T6 P6 py6 ht6 er6 el6 elv sh1 sh2 sh3
          -- moves
          refine ⟨_, rfl, _, rfl, p, c0, t, st, 1700, rfl, P7.less (by omega), ht7, by omega, by omega, fun ft fst H8 eft lf hf kp8 P8 => ?_⟩
          have rf : Rng36 fst := fun z hz => r36 z (hf z hz)
          have lf' : sp.length = fst.length := by omega
          refine gset_go (σ' := [some (.ref a), some (.ref p), some (.ref t), some (.ref r), some (.str (strL (textL LS))), some (.ref D5), v6, none, none, none, none, none, none, none, some (.ref ft), some (.ref x), none, none, some (.ref l), none, none]) rfl ?_
          have el8 := kp8.lst el7
          have er8 := kp8.lst er7
          have ht8 := kp8.seqT ht7
          have py8 := ties_kp py7 kp8
          have T8 := tabs_kp T7 kp8
          have fl8 := flo.ky (Ky.of_kp kp8)
          clear kp8 P7 T7 py7 ht7 er7 el7 flo hf
          -- the yard
          refine ⟨_, rfl, l, ys, rfl, .inl (SqL.of el8), ?_⟩
          refine ⟨_, rfl, l, ys, sp, rfl, SqL.of el8, py8, by omega, fun td zs H9 htd pz s9 => ?_⟩
          refine ⟨(by show 0 ≤ sizeLine; decide), fun te nte => ?_⟩
          have s10 := Same.new (o := .tup ([] : List V)) nte
          have e10 : (upd H9 te (.tup ([] : List V))) te = some (.tup []) := upd_same
          generalize upd H9 te (.tup ([] : List V)) = H10 at s10 e10 ⊢
          refine ⟨(by show 3 ≤ sizeLine; decide), fun q nq => ?_⟩
          have s11 := Same.new (o := .tup [.int (ys.length : Nat), .ref td, .ref te]) nq
          have e11 : (upd H10 q (.tup [.int (ys.length : Nat), .ref td, .ref te])) q = some (.tup [.int (ys.length : Nat), .ref td, .ref te]) := upd_same
          generalize upd H10 q (.tup [.int (ys.length : Nat), .ref td, .ref te]) = HA at s11 e11 ⊢
          have s8A := (s9.trans s10).trans s11
          have yq : YdAt K HA q sp.length (dueF sp) [] := by
            rw [lys] at e11
            exact ⟨td, te, zs, [], SqT.of e11, Same.seqT (s10.trans s11) htd, ties_kp pz (.of_same (s10.trans s11)), SqT.of (s11 _ _ e10), .nil⟩
          have elA := s8A _ _ el8
          have erA := s8A _ _ er8
          have htA := Same.seqT s8A ht8
          have pyA := ties_kp py8 (.of_same s8A)
          have TA := T8.ext s8A
          have flA := fl8.ky (Ky.of_same s8A)
          have PA := P8.same s8A
          have eftA := s8A _ _ eft
          clear s8A s9 s10 s11 e10 e11 htd pz el8 er8 ht8 py8 T8 fl8 P8 eft nte nq
          refine ⟨(by show 0 ≤ sizeLine; decide), fun m nm => ?_⟩
          have sm := Same.new (o := .lst ([] : List V)) nm
          have em : (upd HA m (.lst ([] : List V))) m = some (.lst []) := upd_same
          have offm := PA.off nm
          generalize upd HA m (.lst ([] : List V)) = H12 at sm em ⊢
          refine ⟨_, rfl, (by show 3 ≤ sizeLine; decide), fun tt ntt => ?_⟩
          have st13 := Same.new (o := .tup [.ref q, .ref m, .ref ft]) ntt
          refine ⟨tt, _, rfl, SqT.of upd_same, rfl, _, _, rfl, _, _, rfl, _, _, rfl, rfl, ?_⟩
          refine sq_st (σ' := [some (.ref a), some (.ref p), some (.ref t), some (.ref r), some (.str (strL (textL LS))), some (.ref D5), v6, some (.ref q), some (.ref ft), none, none, none, none, none, some (.ref ft), some (.ref x), some (.ref m), none, some (.ref l), none, none]) rfl ?_
          have s13 := sm.trans st13
          have em13 := st13 _ _ em
          generalize upd H12 tt (.tup [.ref q, .ref m, .ref ft]) = H13 at s13 em13 st13 ⊢
          have P13 := PA.same s13
          clear st13 em sm PA
          -- pictures
          have pics : ∀ s' : List Int, sp.length = s'.length → Rng36 s' → ((((linesL (sp.zip s') h w').map strL).map (·.length)).sum + ((linesL (sp.zip s') h w').map strL).length * 1 ≤ 16777216 ∧ (strL (joinL 10 (linesL (sp.zip s') h w'))).length + 1 ≤ sizeLine ∧ strL (joinL 10 (linesL (sp.zip s') h w')) ++ Str.ofString "\n" = strL (picL sp h w' s')) := fun s' ls' rs' => by
            have pok' := pic_ok sd sok ls' rs'
            have gok' := line_ok pok'
            have ll' := lines_len (sp.zip s') h w'
            have ne' : linesL (sp.zip s') h w' ≠ [] := lines_ne h1
            refine ⟨sum60 _ (by omega) fun m hm => by have := (gok' m hm).1; omega, ?_, by rw [nl_eq, strL_app, ← textL_nl ne']; rfl⟩
            have := joinL_le (c := 10) (k := 60) (ls := linesL (sp.zip s') h w') fun l hl => by have := (gok' l hl).1; omega
            have : (linesL (sp.zip s') h w').length * 61 ≤ 5 * 61 := Nat.mul_le_mul_right _ (by omega)
            rw [strL_len]
            exact Nat.le_trans (by omega : _ ≤ 306) (by decide)
          obtain ⟨pf1, pf2, pf3⟩ := pics fst lf' rf
          refine ⟨⟨_, rfl⟩, _, rfl, _, rfl, l, ft, ys, sp, fst, h, w', rfl, SqL.of (s13 _ _ elA), SqT.of (s13 _ _ eftA), ties_kp pyA (.of_same s13), lf', sok, rf, fun r2 H14 er2 nr2 s14 => ?_⟩
          refine ⟨_, r2, _, rfl, rfl, .inl (SqL.of er2), by rw [en]; exact pf1, ?_⟩
          rw [glued_nl _ ec]
          refine ⟨_, _, rfl, rfl, by rw [en]; exact pf2, ?_⟩
          rw [pf3]
          refine ⟨(by show 1 ≤ sizeLine; decide), fun g ng => ?_⟩
          have s15 := s14.trans (Same.new (o := .lst [V.str (strL (picL sp h w' fst))]) ng)
          have e15 : (upd H14 g (.lst [V.str (strL (picL sp h w' fst))])) g = some (.lst [V.str (strL (picL sp h w' fst))]) := upd_same
          have ngA : HA g = none := (s13.trans s14).free ng
          have mg_ : m ≠ g := ne_of_none (s14 _ _ em13) ng
          refine gset_go (σ' := [some (.ref a), some (.ref p), some (.ref t), some (.ref r), some (.str (strL (textL LS))), some (.ref D5), v6, some (.ref q), some (.ref ft), some (.ref g), none, none, none, none, some (.ref ft), some (.ref x), some (.ref m), none, some (.ref l), none, none]) rfl ?_
          generalize upd H14 g (.lst [V.str (strL (picL sp h w' fst))]) = H15 at s15 e15 ⊢
          have P15 := P13.same s15
          have offg : p ≠ g ∧ c0 ≠ g := (P13.same s14).off ng
          have em15 := s15 _ _ em13
          have sA15 := s13.trans s15
          have PA : Pen H15 p c0 1600 := P15.less (by omega)
          clear pf1 pf2 pf3 er2 nr2 s14 s15 s13 em13 ng P13 P15
          have n9 : (dueF sp).length ≤ 1000 := by
            have := dueTo_len sp sp.length
            have h81 : sp.length * sp.length ≤ 9 * 9 := Nat.mul_le_mul l9 l9
            show (dueTo sp sp.length).length ≤ 1000
            omega
          -- laps
          obtain ⟨kvA, hkA⟩ := PA.there
          refine ⟨_, rfl, p, c0, 5, 1590, rfl, PA.less (by omega), by decide, by decide, fun n H16 n0 n5 P16 B16 => ?_⟩
          have kp16 : Kp HA H16 := (Kp.of_same sA15).trans (.of_but B16 hkA)
          have em16 := B16.keep hkA em15 (by intro z; cases z)
          have e16 := B16.keep hkA e15 (by intro z; cases z)
          refine ⟨n, rfl, by omega, by omega, ?_⟩
          refine for_range (lo := 0) (n := n.toNat) (fun i σ H' => ∃ (v10 v11 : Option V) (o : Addr) (ws : List V) (ms : List Mv), σ = [some (.ref a), some (.ref p), some (.ref t), some (.ref r), some (.str (strL (textL LS))), some (.ref D5), v6, some (.ref q), some (.ref o), some (.ref g), v10, v11, none, none, some (.ref ft), some (.ref x), some (.ref m), none, some (.ref l), none, none] ∧ Kp HA H' ∧ Pen H' p c0 (1500 - i) ∧ H' m = some (.lst ws) ∧ MvsAt K H' ws ms ∧ CanAll sp.length (dueF sp) [] fst ms ∧ ms.length ≤ i ∧ SqT K H' o ((playMvs [] fst ms).map V.int) ∧ H' g = some (.lst (((reelL sp h w' fst ms (ms.length + 1)).map strL).map V.str)))
            ⟨none, none, ft, [], [], rfl, kp16, P16.less (by omega), em16, .nil, trivial, Nat.le_refl _, kp16.seqT (SqT.of eftA), e16⟩ ?_ ?_
          · rintro i σ H17 hi ⟨v10, v11, o, ws, ms, rfl, kp17, P17, em17, pm, can, lm, ho, eg⟩
            have hi5 : i < 4 := by omega
            refine gset_go (σ' := [some (.ref a), some (.ref p), some (.ref t), some (.ref r), some (.str (strL (textL LS))), some (.ref D5), v6, some (.ref q), some (.ref o), some (.ref g), some (.int (0 + (i : Int))), v11, none, none, some (.ref ft), some (.ref x), some (.ref m), none, some (.ref l), none, none]) rfl ?_
            have lcur : (playMvs [] fst ms).length = sp.length := by rw [play_len]; omega
            refine ⟨_, rfl, _, rfl, q, o, sp.length, dueF sp, [], _, rfl, yq.kp kp17, n9, Nat.zero_le _, due_tok, ho, lcur, fun wl wys H18 ewl pw s18 => ?_⟩
            refine gset_go (σ' := [some (.ref a), some (.ref p), some (.ref t), some (.ref r), some (.str (strL (textL LS))), some (.ref D5), v6, some (.ref q), some (.ref o), some (.ref g), some (.int (0 + (i : Int))), some (.ref wl), none, none, some (.ref ft), some (.ref x), some (.ref m), none, some (.ref l), none, none]) rfl ?_
            refine ⟨_, rfl, (by show 0 ≤ sizeLine; decide), fun e0 ne0 => ?_⟩
            have s19 := s18.trans (Same.new (o := .lst ([] : List V)) ne0)
            have ewl19 := Same.new (o := .lst ([] : List V)) ne0 _ _ ewl
            have ee0 : (upd H18 e0 (.lst ([] : List V))) e0 = some (.lst []) := upd_same
            have pw19 := (Ky.of_same (Same.new (o := .lst ([] : List V)) ne0)).mvs pw
            generalize upd H18 e0 (.lst ([] : List V)) = H19 at s19 ewl19 ee0 pw19 ⊢
            refine ⟨.list ((movesOf (dueF sp) [] (playMvs [] fst ms)).map mvD), .list [], .lst (SqL.of ewl19) (mvs_dp pw19), .lst (SqL.of ee0) .nil, mvs_shapedL _, by decide +kernel, _, rfl, ?_⟩
            have kp19 := kp17.trans (.of_same s19)
            have P19 := P17.same s19
            have em19 := s19 _ _ em17
            have eg19 := s19 _ _ eg
            have ho19 := Same.seqT s19 ho
            have pm19 := (Ky.of_same s19).mvs pm
            cases hmv : movesOf (dueF sp) [] (playMvs [] fst ms) with
            | nil =>
              refine iteF' rfl ?_
              exact ⟨_, _, o, ws, ms, rfl, kp19, P19.less (by omega), em19, pm19, can, by omega, ho19, eg19⟩
            | cons m0 mr =>
              refine iteT' rfl ?_
              have wne : wys ≠ [] := fun z => by
                rw [z, hmv] at pw19
                cases pw19
              have lw : wys.length ≤ 1000 := by
                rw [Paired.length pw19]
                unfold movesOf
                rw [List.length_append, List.length_map]
                have := List.length_filter_le (canSlide (playMvs [] fst ms)) (dueF sp)
                show _ + 0 ≤ 1000
                omega
              obtain ⟨kv19, hk19⟩ := P19.there
              refine ⟨_, rfl, .inl ⟨rfl, _, SqL.of em19⟩, _, rfl, _, rfl, p, c0, wl, wys, 1500 - (i + 1), rfl, P19.less (by omega), .inl (SqL.of ewl19), wne, by omega, fun x' j H20 hx P20 B20 => ?_⟩
              obtain ⟨mv, hmvj, hat⟩ := par_get pw19 hx
              have cmv := moves_can due_tok (List.mem_of_getElem? hmvj)
              have kpB : Kp H19 H20 := .of_but B20 hk19
              have em20 := kpB.lst em19
              have lws : ws.length ≤ 4 := by rw [Paired.length pm]; omega
              refine ⟨m, ws, x', rfl, rfl, em20, Nat.lt_of_le_of_lt lws (by decide), ?_⟩
              have hat20 := hat.kp kpB
              have pm20 := mvs_kp' pm19 kpB
              have hat21 := hat20.off (o := .lst (ws ++ [x'])) em20
              have pm21 := off_lst (o := .lst (ws ++ [x'])) pm20 em20
              have ho21 : SqT K (upd H20 m (.lst (ws ++ [x']))) o ((playMvs [] fst ms).map V.int) := seqT_off (kpB.seqT ho19) em20
              have eg21 : (upd H20 m (.lst (ws ++ [x']))) g = some (.lst (((reelL sp h w' fst ms (ms.length + 1)).map strL).map V.str)) := by rw [upd_ne (Ne.symm mg_)]; exact kpB.lst eg19
              have kp21 : Kp HA (upd H20 m (.lst (ws ++ [x']))) := (kp19.trans kpB).upd nm
              have P21 := P20.upd (o := .lst (ws ++ [x'])) offm.1 offm.2
              have em21 : (upd H20 m (.lst (ws ++ [x']))) m = some (.lst (ws ++ [x'])) := upd_same
              generalize upd H20 m (.lst (ws ++ [x'])) = H21 at hat21 pm21 ho21 eg21 kp21 P21 em21 ⊢
              clear hat20 pm20 pm19 ho19 eg19 kp19 em19 em20 P19 P20 B20 hk19 kpB pw19 ewl19 ee0 s19 ho eg pm em17 P17 kp17 pw ewl s18 hat hx
              -- moved
              refine ⟨_, rfl, _, rfl, _, rfl, 1, rfl, m, _, _, _, rfl, rfl, SqL.of em21, atI_last, ?_⟩
              refine ⟨q, o, x', sp.length, dueF sp, [], _, mv, rfl, yq.kp kp21, by omega, (fun r hr => by cases hr), ho21, lcur, hat21, cmv, fun t2 H22 et2 s22 => ?_⟩
              refine gset_go (σ' := [some (.ref a), some (.ref p), some (.ref t), some (.ref r), some (.str (strL (textL LS))), some (.ref D5), v6, some (.ref q), some (.ref t2), some (.ref g), some (.int (0 + (i : Int))), some (.ref wl), none, none, some (.ref ft), some (.ref x), some (.ref m), none, some (.ref l), none, none]) rfl ?_
              have can2 : CanAll sp.length (dueF sp) [] fst (ms ++ [mv]) := can_snoc can cmv
              have ep : stepMv [] (playMvs [] fst ms) mv = playMvs [] fst (ms ++ [mv]) := by rw [play_snoc]
              rw [ep] at et2
              have l2 : sp.length = (playMvs [] fst (ms ++ [mv])).length := by rw [play_len]; omega
              have r2 : Rng36 (playMvs [] fst (ms ++ [mv])) := play_rng can2 rf
              obtain ⟨pf1, pf2, pf3⟩ := pics _ l2 r2
              have kp22 := kp21.trans (.of_same s22)
              refine ⟨_, rfl, .inl ⟨rfl, _, SqL.of (s22 _ _ eg21)⟩, ⟨_, rfl⟩, _, rfl, _, rfl, l, t2, ys, sp, _, h, w', rfl, SqL.of (kp22.lst elA), SqT.of et2, ties_kp pyA kp22, l2, sok, r2, fun r3 H23 er3 nr3 s23 => ?_⟩
              refine ⟨_, r3, _, rfl, rfl, .inl (SqL.of er3), by rw [en]; exact pf1, ?_⟩
              rw [glued_nl _ ec]
              refine ⟨_, _, rfl, rfl, by rw [en]; exact pf2, ?_⟩
              rw [pf3]
              have s2 := s22.trans s23
              have eg23 := s2 _ _ eg21
              refine ⟨g, _, _, rfl, rfl, eg23, by rw [List.length_map, List.length_map, reel_len]; exact Nat.lt_of_le_of_lt (by omega : ms.length + 1 ≤ 10) (by decide), ?_⟩
              refine ⟨_, _, t2, ws ++ [x'], ms ++ [mv], rfl, (kp22.trans (.of_same s23)).upd ngA, ((P21.same s2).upd offg.1 offg.2).less (by omega), by rw [upd_ne mg_]; exact s2 _ _ em21, ?_, can2, by rw [List.length_append]; show ms.length + 1 ≤ i + 1; omega, ?_, ?_⟩
              · exact off_lst ((Ky.of_same s2).mvs (pair_app pm21 (.cons hat21 .nil))) eg23
              · exact seqT_off (SqT.of (s23 _ _ et2)) eg23
              · rw [upd_same, reel_snoc, List.map_append, List.map_append]
                rfl
          · rintro σ H17 ⟨v10, v11, o, ws, ms, rfl, kp17, P17, em17, pm, can, lm, ho, eg⟩
            have P17' : Pen H17 p c0 1400 := P17.less (by omega)
            have el17 := kp17.lst elA
            have er17 := kp17.lst erA
            have ht17 := kp17.seqT htA
            have py17 := ties_kp pyA kp17
            have T17 := tabs_kp TA kp17
            have fl17 := flA.ky (Ky.of_kp kp17)
            have eft17 : SqT K H17 ft (fst.map V.int) := kp17.seqT (SqT.of eftA)
            clear kp17 P17 hkA B16 P16 kp16 em16 e16 PA elA erA htA pyA TA flA eftA yq em15 e15 sA15 ho nm offm
            clear ngA
            -- the reel
            obtain ⟨yy, tt0, uu, yys, flx, htt, pyy, huu, yo⟩ := id fl17
            refine ⟨_, rfl, _, rfl, _, rfl, m, ws, rfl, .inl (SqL.of em17), fun tm H18 htm s18 => ?_⟩
            refine ⟨x, tt0, yy, uu, ft, tm, sp.length, h, w', dueF sp, sp, fst, yys, ws, rfl, (Ky.of_same s18).fl flx, Same.seqT s18 htt, ties_kp pyy (.of_same s18), (yo.kp (.of_same s18)).y, due_tok, Same.seqT s18 eft17, by omega, rfl, rf, htm, sok, .inl ⟨ms, (Ky.of_same s18).mvs pm, can, by omega, fun H19 s19 => ?_⟩⟩
            have s1719 := s18.trans s19
            refine ⟨⟨_, rfl⟩, _, rfl, _, g, (reelL sp h w' fst ms (ms.length + 1)).map strL, rfl, rfl, .inl (SqL.of (s1719 _ _ eg)), ?_, ?_⟩
            · have := sum_le (ls := ((reelL sp h w' fst ms (ms.length + 1)).map strL).map (·.length)) (m := 3660) fun x hx => by
                obtain ⟨y, hy, rfl⟩ := List.mem_map.mp hx
                obtain ⟨z, hz, rfl⟩ := List.mem_map.mp hy
                rw [strL_len]
                obtain ⟨i, _, rfl⟩ := List.mem_map.mp hz
                exact pic_len sok.h60 sok.w60 _
              rw [List.length_map, List.length_map, reel_len] at this
              rw [en, List.length_map, reel_len]
              omega
            rw [glued_nl _ ec]
            refine ⟨rfl, _, rfl, iteF' (by rw [decide_eq_true rfl]; rfl) ?_⟩
            -- a move that is none
            have el19 := s1719 _ _ el17
            have er19 := s1719 _ _ er17
            have ht19 := Same.seqT s1719 ht17
            have py19 := ties_kp py17 (.of_same s1719)
            have P19 := P17'.same s1719
            have fl19 := fl17.ky (Ky.of_same s1719)
            have eft19 := Same.seqT s1719 eft17
            have em19 := s1719 _ _ em17
            have pm19 := (Ky.of_same s1719).mvs pm
            clear fl17 flx htt pyy huu yo
            refine ⟨T17.ext s1719, fun H20 eN T20 R => ?_⟩
            have ky20 : Ky H19 H20 := .of_ext eN
            obtain ⟨yy, tt0, uu, yys, flx, htt, pyy, huu, yo⟩ := fl19.ky ky20
            refine ⟨_, rfl, _, rfl, _, rfl, m, ws, rfl, .inl (SqL.of (ky20.lst em19)), fun tm H21 htm s21 => ?_⟩
            refine ⟨(by show 3 ≤ sizeLine; decide), fun t3 nt3 => ?_⟩
            have s22 := s21.trans (Same.new (o := .tup [.str "slide", .int 0, .int 0]) nt3)
            have e22 : (upd H21 t3 (.tup [.str "slide", .int 0, .int 0])) t3 = some (.tup [.str "slide", .int 0, .int 0]) := upd_same
            have htm22 := Same.seqT (Same.new (o := .tup [.str "slide", .int 0, .int 0]) nt3) htm
            generalize upd H21 t3 (.tup [.str "slide", .int 0, .int 0]) = H22 at s22 e22 htm22 ⊢
            refine ⟨(by show 1 ≤ sizeLine; decide), fun t4 nt4 => ?_⟩
            have s4 := Same.new (o := .tup [.ref t3]) nt4
            have lws : ws.length ≤ 4 := by rw [Paired.length pm]; omega
            refine ⟨tm, t4, ws, [.ref t3], rfl, rfl, Same.seqT s4 htm22, SqT.of upd_same, Nat.le_trans (by show ws.length + 1 ≤ 5; omega) (by decide), fun uu2 H23 hu23 s23 => ?_⟩
            have s24 := (s22.trans s4).trans s23
            have ky24 := ky20.trans (.of_same s24)
            refine ⟨x, tt0, yy, uu, ft, uu2, sp.length, h, w', dueF sp, sp, fst, yys, ws ++ [.ref t3], rfl, (Ky.of_same s24).fl flx, Same.seqT s24 htt, ties_kp pyy (.of_same s24), (yo.kp (.of_same s24)).y, due_tok, ky24.seqT eft19, by omega, rfl, rf, hu23, sok, .inr ⟨ms, mvD (.slide 0 0), dqs_app (mvs_dq (ky24.mvs pm19)) (.tup (SqT.of ((s4.trans s23) _ _ e22)) (.cons (.str _) (.cons (.int _) (.cons (.int _) .nil)))), can, step_none due_tok, fun es e => by injection e with e; rw [← e]; show 3 ≤ 100; decide, fun dd H24 s25 e25 => ?_⟩⟩
            refine .inl ⟨rfl, dd, _, rfl, e25, fun t5 nt5 => ?_⟩
            have s26 := (s24.trans s25).trans (Same.new (o := .lst [.str "move", .int (ms.length : Nat)]) nt5)
            have e26 : (upd H24 t5 (.lst [.str "move", .int (ms.length : Nat)])) t5 = some (.lst [.str "move", .int (ms.length : Nat)]) := upd_same
            generalize upd H24 t5 (.lst [.str "move", .int (ms.length : Nat)]) = H26 at s26 e26 ⊢
            have ky26 := ky20.trans (.of_same s26)
            have T26 := T20.ext s26
            refine ⟨_, rfl, m, ws, rfl, .inl (SqL.of (ky26.lst em19)), (by show 2 ≤ sizeLine; decide), fun t6 nt6 => ?_⟩
            have s27 := Same.new (o := .lst [.str "move", .int (ws.length : Nat)]) nt6
            have e27 : (upd H26 t6 (.lst [.str "move", .int (ws.length : Nat)])) t6 = some (.lst [.str "move", .int (ws.length : Nat)]) := upd_same
            generalize upd H26 t6 (.lst [.str "move", .int (ws.length : Nat)]) = H27 at s27 e27 ⊢
            have lwm : ws.length = ms.length := Paired.length pm
            have hmv : (PyData.str "move").canLay0 = true := by decide +kernel
            refine ⟨.list [.str "move", .int (ms.length : Nat)], .list [.str "move", .int (ms.length : Nat)], .lst (SqL.of (s27 _ _ e26)) (.cons (.str _) (.cons (.int _) .nil)), .lst (SqL.of (by rw [← lwm]; exact e27)) (.cons (.str _) (.cons (.int _) .nil)), pair_shaped hmv ⟨rfl, Nat.le_trans (int_deep _) (by decide)⟩, pair_shaped hmv ⟨rfl, Nat.le_trans (int_deep _) (by decide)⟩, _, rfl, iteF' (by rw [pair_eqv hmv rfl]; rfl) ?_⟩
            have ky27 := ky26.trans (.of_same s27)
            have el27 := ky27.lst el19
            have er27 := ky27.lst er19
            have ht27 := ky27.seqT ht19
            have py27 := ky27.ties py19
            have P27 := (P19.ext eN).same (s26.trans s27)
            have T27 := T26.ext s27
            clear T26 T20 ky26 ky24 ky20 ky27 s27 s26 s25 s24 s23 s22 s21 e26 e27 e25 e22 htm htm22 hu23 flx htt pyy huu yo nt3 nt4 nt5 nt6 s4 P19 el19 er19 ht19 py19 fl19 eft19 em19 pm19
            clear eN R s1719 s18 s19 el17 er17 ht17 py17 T17 eft17 em17 P17' pm eg lwm lws
            -- odd stands
            have lst1 : st.length ≤ 9 := by omega
            have lst0 : 1 ≤ st.length := by omega
            have sz1 : 1 ≤ sizeLine := by decide
            have sz11 : 11 ≤ sizeLine := by decide
            refine ⟨_, rfl, sz1, fun a1 na1 => ?_⟩
            have s1 := Same.new (o := .tup [.int 0]) na1
            have b1 : (upd H27 a1 (.tup [.int 0])) a1 = some (.tup [.int 0]) := upd_same
            generalize upd H27 a1 (.tup [.int 0]) = G1 at s1 b1 ⊢
            refine ⟨t, a1, _, [.int 0], rfl, rfl, Same.seqT s1 ht27, SqT.of b1, Nat.le_trans (by rw [List.length_map]; show st.length + 1 ≤ 11; omega) sz11, fun t1 G2 ht1 s2 => ?_⟩
            have ss2 := s1.trans s2
            refine ⟨_, rfl, 1, rfl, t, _, rfl, Same.seqT ss2 ht27, fun t2 G3 ht2 s3 => ?_⟩
            have ss3 := ss2.trans s3
            rw [cut_d1, ← List.map_drop] at ht2
            refine ⟨sz1, fun a2 na2 => ?_⟩
            have s4 := Same.new (o := .tup [.int 36]) na2
            have b2 : (upd G3 a2 (.tup [.int 36])) a2 = some (.tup [.int 36]) := upd_same
            generalize upd G3 a2 (.tup [.int 36]) = G4 at s4 b2 ⊢
            have ss4 := ss3.trans s4
            refine ⟨_, rfl, 1, rfl, t, _, rfl, Same.seqT ss4 ht27, fun d1 G5 hd1 s5 => ?_⟩
            rw [cut_d1, ← List.map_drop] at hd1
            have ss5 := ss4.trans s5
            refine ⟨a2, d1, [.int 36], _, rfl, rfl, SqT.of (s5 _ _ b2), hd1, Nat.le_trans (by rw [List.length_map, List.length_drop]; show 1 + _ ≤ 11; omega) sz11, fun t3 G6 ht3 s6 => ?_⟩
            have ss6 := ss5.trans s6
            refine ⟨1, rfl, sz1, fun a3 na3 => ?_⟩
            have s7 := Same.new (o := .tup [.int (-1)]) na3
            have b3 : (upd G6 a3 (.tup [.int (-1)])) a3 = some (.tup [.int (-1)]) := upd_same
            generalize upd G6 a3 (.tup [.int (-1)]) = G7 at s7 b3 ⊢
            have ss7 := ss6.trans s7
            refine ⟨_, rfl, 1, rfl, t, _, rfl, Same.seqT ss7 ht27, fun d2 G8 hd2 s8 => ?_⟩
            rw [cut_d1, ← List.map_drop] at hd2
            have ss8 := ss7.trans s8
            refine ⟨a3, d2, [.int (-1)], _, rfl, rfl, SqT.of (s8 _ _ b3), hd2, Nat.le_trans (by rw [List.length_map, List.length_drop]; show 1 + _ ≤ 11; omega) sz11, fun t4 G9 ht4 s9 => ?_⟩
            have ss9 := ss8.trans s9
            refine ⟨sz1, fun a4 na4 => ?_⟩
            have s10 := Same.new (o := .tup [.bl true]) na4
            have b4 : (upd G9 a4 (.tup [.bl true])) a4 = some (.tup [.bl true]) := upd_same
            generalize upd G9 a4 (.tup [.bl true]) = G10 at s10 b4 ⊢
            have ss10 := ss9.trans s10
            refine ⟨_, rfl, 1, rfl, t, _, rfl, Same.seqT ss10 ht27, fun d3 G11 hd3 s11 => ?_⟩
            rw [cut_d1, ← List.map_drop] at hd3
            have ss11 := ss10.trans s11
            refine ⟨a4, d3, [.bl true], _, rfl, rfl, SqT.of (s11 _ _ b4), hd3, Nat.le_trans (by rw [List.length_map, List.length_drop]; show 1 + _ ≤ 11; omega) sz11, fun t5 G12 ht5 s12 => ?_⟩
            have ss12 := ss11.trans s12
            refine ⟨(by show 8 ≤ sizeLine; decide), fun wl nwl => ?_⟩
            have s13 := Same.new (o := .lst [V.non, .int 5, .ref t1, .ref t2, .ref t3, .ref t4, .ref t5, .str "1"]) nwl
            have ewl : (upd G12 wl (.lst [V.non, .int 5, .ref t1, .ref t2, .ref t3, .ref t4, .ref t5, .str "1"])) wl = some (.lst [V.non, .int 5, .ref t1, .ref t2, .ref t3, .ref t4, .ref t5, .str "1"]) := upd_same
            have k13 := ss12.trans s13
            have odd := odd_all (K := K) (H := upd G12 wl (.lst [V.non, .int 5, .ref t1, .ref t2, .ref t3, .ref t4, .ref t5, .str "1"])) (st := st)
              (by rw [List.map_append]; exact Same.seqT ((((((((((s3.trans s4).trans s5).trans s6).trans s7).trans s8).trans s9).trans s10).trans s11).trans s12).trans s13) ht1)
              (Same.seqT (((((((((s4.trans s5).trans s6).trans s7).trans s8).trans s9).trans s10).trans s11).trans s12).trans s13) ht2)
              (Same.seqT ((((((s7.trans s8).trans s9).trans s10).trans s11).trans s12).trans s13) ht3)
              (Same.seqT (((s10.trans s11).trans s12).trans s13) ht4)
              (Same.seqT s13 ht5)
            generalize upd G12 wl (.lst [V.non, .int 5, .ref t1, .ref t2, .ref t3, .ref t4, .ref t5, .str "1"]) = H28 at s13 ewl k13 odd ⊢
            refine gset_go (σ' := [some (.ref a), some (.ref p), some (.ref t), some (.ref r), some (.str (strL (textL LS))), some (.ref D5), v6, some (.ref q), some (.ref o), some (.ref g), v10, some (.ref wl), none, none, some (.ref ft), some (.ref x), some (.ref m), none, some (.ref l), none, none]) rfl ?_
            have P28 := P27.same k13
            have T28 := T27.ext k13
            have el28 := k13 _ _ el27
            have er28 := k13 _ _ er27
            have py28 := ties_kp py27 (.of_same k13)
            clear s1 s2 s3 s4 s5 s6 s7 s8 s9 s10 s11 s12 s13 ss2 ss3 ss4 ss5 ss6 ss7 ss8 ss9 ss10 ss11 ss12 k13 ht1 ht2 ht3 ht4 ht5 b1 b2 b3 b4 hd1 hd2 hd3 ht27 P27 T27 el27 er27 py27
            -- one of them
            refine ⟨_, rfl, _, rfl, p, c0, wl, _, 1300, rfl, P28.less (by omega), .inl (SqL.of ewl), by simp, by show 8 ≤ 1000000; decide, fun ov j H29 hov P29 B29 => ?_⟩
            obtain ⟨kv28, hk28⟩ := P28.there
            have kp29 : Kp H28 H29 := .of_but B29 hk28
            obtain ⟨d, ovd⟩ := odd ov (List.mem_of_getElem? hov)
            have ovd29 := ovd.ky (.of_kp kp29)
            refine gset_go (σ' := [some (.ref a), some (.ref p), some (.ref t), some (.ref r), some (.str (strL (textL LS))), some (.ref D5), v6, some (.ref q), some (.ref o), some (.ref g), v10, some (.ref wl), none, none, some (.ref ft), some (.ref x), some (.ref m), some ov, some (.ref l), none, none]) rfl ?_
            have T29 := tabs_kp T28 kp29
            have el29 := kp29.lst el28
            have er29 := kp29.lst er28
            have py29 := ties_kp py28 kp29
            clear odd ovd ewl P28 T28 el28 er28 py28 kp29 hk28 B29
            refine ⟨T29, fun H30 eN T30 R => ?_⟩
            have ky30 : Ky H29 H30 := .of_ext eN
            refine ⟨_, rfl, l, ys, rfl, .inl (SqL.of (ky30.lst el29)), fun ts H31 hts s31 => ?_⟩
            have ky31 := ky30.trans (.of_same s31)
            refine ⟨_, rfl, ts, ov, ys, d, rfl, .inr hts, (ovd29.ky ky31).dq, .inl ⟨by rw [show ys.length = st.length by omega]; exact ovd29.1.bad lst0 (by omega), fun dd H32 s32 e32 => ?_⟩⟩
            refine .inr ⟨rfl, dd, ov, rfl, e32, fun t7 nt7 => ?_⟩
            have s33 := (s31.trans s32).trans (Same.new (o := .lst [.str "row", ov]) nt7)
            have e33 : (upd H32 t7 (.lst [.str "row", ov])) t7 = some (.lst [.str "row", ov]) := upd_same
            generalize upd H32 t7 (.lst [.str "row", ov]) = H33 at s33 e33 ⊢
            refine ⟨_, rfl, (by show 2 ≤ sizeLine; decide), fun t8 nt8 => ?_⟩
            have s34 := Same.new (o := .lst [.str "row", ov]) nt8
            have e34 : (upd H33 t8 (.lst [.str "row", ov])) t8 = some (.lst [.str "row", ov]) := upd_same
            generalize upd H33 t8 (.lst [.str "row", ov]) = H34 at s34 e34 ⊢
            have ky34 := ky30.trans (.of_same (s33.trans s34))
            have hrow : (PyData.str "row").canLay0 = true := by decide +kernel
            have od34 := ovd29.ky ky34
            refine ⟨.list [.str "row", d], .list [.str "row", d], .lst (SqL.of (s34 _ _ e33)) (.cons (.str _) (.cons od34.dp .nil)), .lst (SqL.of e34) (.cons (.str _) (.cons od34.dp .nil)), pair_shaped hrow od34.1.lay, pair_shaped hrow od34.1.lay, _, rfl, iteF' (by rw [pair_eqv hrow od34.1.lay.1]; rfl) ?_⟩
            have er34 := ky34.lst er29
            have P34 := (P29.ext eN).same (s33.trans s34)
            clear ovd29 od34 ky34 ky31 ky30 s34 s33 s32 s31 e34 e33 e32 T30 T29 hts el29 er29 py29 nt7 nt8 P29 eN R
            -- a wrong sign put in
            have lr : ((LS.map strL).map V.str).length = h := by rw [List.length_map, List.length_map]; exact lsl
            refine ⟨_, rfl, _, rfl, r, _, rfl, .inl (SqL.of er34), p, c0, _, 1290, rfl, P34.less (by omega), by rw [lr]; omega, by rw [lr]; omega, fun an H35 a0 a1 P35 B35 => ?_⟩
            rw [lr] at a1
            obtain ⟨ai, rfl⟩ : ∃ ai : Nat, an = (ai : Int) := ⟨an.toNat, by omega⟩
            have hai : ai < LS.length := by omega
            refine gset_go (σ' := [some (.ref a), some (.ref p), some (.ref t), some (.ref r), some (.str (strL (textL LS))), some (.ref D5), v6, some (.ref q), some (.ref o), some (.ref g), v10, some (.ref wl), some (.int (ai : Int)), none, some (.ref ft), some (.ref x), some (.ref m), some ov, some (.ref l), none, none]) rfl ?_
            obtain ⟨kv34, hk34⟩ := P34.there
            have er35 := B35.keep hk34 er34 (by intro z; cases z)
            obtain ⟨lm, elm⟩ : ∃ lm, LS[ai]? = some lm := ⟨_, List.getElem?_eq_getElem hai⟩
            have glm := gok lm (List.mem_of_getElem? elm)
            have atr : atI ((LS.map strL).map V.str) (ai : Int) = some (.str (strL lm)) := atI_nat (by rw [List.getElem?_map, List.getElem?_map, elm]; rfl)
            have szl : (strL lm).length ≤ sizeLine := by rw [strL_len]; exact Nat.le_trans (by omega : lm.length ≤ 4) (by decide)
            refine ⟨_, rfl, _, rfl, _, rfl, r, _, _, _, rfl, rfl, SqL.of er35, atr, ?_⟩
            refine ⟨_, rfl, szl, _, _, rfl, rfl, p, c0, _, 1280, rfl, P35.less (by omega), by rw [strL_len]; omega, by rw [strL_len]; omega, fun pn H36 p0 p1 P36 B36 => ?_⟩
            rw [strL_len] at p1
            obtain ⟨pi, rfl⟩ : ∃ pi : Nat, pn = (pi : Int) := ⟨pn.toNat, by omega⟩
            have hpi : pi ≤ lm.length := by omega
            refine gset_go (σ' := [some (.ref a), some (.ref p), some (.ref t), some (.ref r), some (.str (strL (textL LS))), some (.ref D5), v6, some (.ref q), some (.ref o), some (.ref g), v10, some (.ref wl), some (.int (ai : Int)), some (.int (pi : Int)), some (.ref ft), some (.ref x), some (.ref m), some ov, some (.ref l), none, none]) rfl ?_
            obtain ⟨kv35, hk35⟩ := P35.there
            have er36 := B36.keep hk35 er35 (by intro z; cases z)
            refine ⟨_, rfl, _, rfl, r, _, _, _, rfl, rfl, SqL.of er36, atr, ?_⟩
            refine ⟨_, rfl, _, rfl, _, rfl, szl, ?_⟩
            rw [cut_head hpi]
            refine ⟨_, rfl, (by show 6 ≤ sizeLine; decide), fun g6 ng6 => ?_⟩
            have s37 := Same.new (o := .lst [V.str "0", .str " ", .str "A", .str "-", .str "_", .str "*"]) ng6
            have e37 : (upd H36 g6 (.lst [V.str "0", .str " ", .str "A", .str "-", .str "_", .str "*"])) g6 = some (.lst [V.str "0", .str " ", .str "A", .str "-", .str "_", .str "*"]) := upd_same
            have P37 := P36.same s37
            have er37 := s37 _ _ er36
            refine ⟨p, c0, g6, [V.str "0", .str " ", .str "A", .str "-", .str "_", .str "*"], 1270, rfl, P37.less (by omega), .inl (SqL.of e37), by simp, by show 6 ≤ 1000000; decide, fun sg j H38 hsg P38 B38 => ?_⟩
            obtain ⟨cc, rfl, cS, c35, c128, c10⟩ := sign_bad sg (List.mem_of_getElem? hsg)
            obtain ⟨kv37, hk37⟩ := P37.there
            have er38 := B38.keep hk37 er37 (by intro z; cases z)
            refine ⟨_, _, rfl, rfl, by rw [strL_len, strL_len, List.length_take]; exact Nat.le_trans (by show _ + 1 ≤ 10; omega) (by decide), ?_⟩
            rw [strL_app]
            refine ⟨_, rfl, _, rfl, r, _, _, _, rfl, rfl, SqL.of er38, atr, ?_⟩
            refine ⟨_, rfl, _, rfl, _, rfl, szl, ?_⟩
            rw [cut_tail hpi]
            refine ⟨_, _, rfl, rfl, by rw [strL_len, strL_len, List.length_append, List.length_take, List.length_drop]; exact Nat.le_trans (by show _ + 1 + _ ≤ 10; omega) (by decide), ?_⟩
            rw [strL_app, List.append_assoc]
            refine ⟨_, rfl, _, rfl, r, _, (ai : Int), ai, rfl, rfl, er38, by rw [lr]; exact ixN_ok (by omega) (by omega), ?_⟩
            have eset : ((LS.map strL).map V.str).set ai (V.str (strL (lm.take pi ++ ([cc] ++ lm.drop pi)))) = ((LS.set ai (lm.take pi ++ cc :: lm.drop pi)).map strL).map V.str := by rw [List.map_set, List.map_set]; rfl
            rw [eset]
            have P39 := P38.upd (o := .lst (((LS.set ai (lm.take pi ++ cc :: lm.drop pi)).map strL).map V.str)) offr.1 offr.2
            have er39 : (upd H38 r (.lst (((LS.set ai (lm.take pi ++ cc :: lm.drop pi)).map strL).map V.str))) r = some (.lst (((LS.set ai (lm.take pi ++ cc :: lm.drop pi)).map strL).map V.str)) := upd_same
            generalize upd H38 r (.lst (((LS.set ai (lm.take pi ++ cc :: lm.drop pi)).map strL).map V.str)) = H39 at P39 er39 ⊢
            have fb : FirstBad (LS.set ai (lm.take pi ++ cc :: lm.drop pi)) ai pi := set_bad (fun m hm => (gok m hm).2) elm hpi cS c35
            have sgd := set_good gok w4 elm hpi c128 c10
            have lset : (LS.set ai (lm.take pi ++ cc :: lm.drop pi)).length = h := by rw [List.length_set]; exact lsl
            generalize LS.set ai (lm.take pi ++ cc :: lm.drop pi) = MS at eset er39 fb sgd lset
            clear eset er38 er37 er36 er35 er34 P38 P37 P36 P35 P34 B38 B36 B35 s37 e37 hk37 hk35 hk34 hsg
            have jms : (joinL 10 MS).length ≤ 305 := by
              have := joinL_le (c := 10) (k := 60) (ls := MS) fun l hl => (sgd l hl).1
              have : MS.length * 61 ≤ 5 * 61 := Nat.mul_le_mul_right _ (by omega)
              omega
            refine ⟨⟨_, rfl⟩, _, rfl, _, r, MS.map strL, rfl, rfl, .inl (SqL.of er39), by rw [en]; exact sum60 MS (by omega) fun m hm => (sgd m hm).1, ?_⟩
            rw [glued_nl _ ec]
            refine ⟨_, (ai : Int) + 1, (pi : Int) + 1, rfl, fun E2 R2 => ⟨_, rfl, .inr (.inl ⟨MS, ai, pi, rfl, fun z => by rw [z] at lset; rw [List.length_nil] at lset; omega, by omega, sgd, by omega, fb, R2⟩)⟩, fun u1 H40 s40 e40 => ?_⟩
            refine ⟨_, rfl, _, _, rfl, rfl, _, rfl, _, _, rfl, rfl, (by show 2 ≤ sizeLine; decide), fun u2 nu2 => ?_⟩
            have s41 := Same.new (o := .tup [.int ((ai : Int) + 1), .int ((pi : Int) + 1)]) nu2
            have e41 : (upd H40 u2 (.tup [.int ((ai : Int) + 1), .int ((pi : Int) + 1)])) u2 = some (.tup [.int ((ai : Int) + 1), .int ((pi : Int) + 1)]) := upd_same
            have P41 := (P39.same s40).same s41
            have e40' := s41 _ _ e40
            generalize upd H40 u2 (.tup [.int ((ai : Int) + 1), .int ((pi : Int) + 1)]) = H41 at s41 e41 P41 e40' ⊢
            refine ⟨tieD ((ai : Int) + 1, (pi : Int) + 1), tieD ((ai : Int) + 1, (pi : Int) + 1), dp_tie (SqT.of e40'), dp_tie (SqT.of e41), shaped_tie _, shaped_tie _, _, rfl, iteF' (by rw [tie_eqv, decide_eq_true rfl]; rfl) ?_⟩
            clear fb sgd lset er39 P39 s40 e40 e40' s41 e41 jms
            -- texts with no place
            refine ⟨_, rfl, (by show 4 ≤ sizeLine; decide), fun g7 ng7 => ?_⟩
            have s42 := Same.new (o := .lst [V.str "", .str "\n", .str "###\n#", .str "#"]) ng7
            have e42 : (upd H41 g7 (.lst [V.str "", .str "\n", .str "###\n#", .str "#"])) g7 = some (.lst [V.str "", .str "\n", .str "###\n#", .str "#"]) := upd_same
            have P42 := P41.same s42
            refine ⟨p, c0, g7, [V.str "", .str "\n", .str "###\n#", .str "#"], 1200, rfl, P42.less (by omega), .inl (SqL.of e42), by simp, by show 4 ≤ 1000000; decide, fun sg j H43 hsg P43 B43 => ?_⟩
            obtain ⟨ls, rfl, ne, l60, hls, lj, fnd⟩ := empty_text sg (List.mem_of_getElem? hsg)
            refine ⟨_, 1, 1, rfl, fun E2 R2 => ⟨_, rfl, .inr (.inr ⟨ls, rfl, ne, l60, hls, lj, fnd, R2⟩)⟩, fun u3 H44 s44 e44 => ?_⟩
            refine ⟨(by show 2 ≤ sizeLine; decide), fun u4 nu4 => ?_⟩
            have s45 := Same.new (o := .tup [.int 1, .int 1]) nu4
            have e45 : (upd H44 u4 (.tup [.int 1, .int 1])) u4 = some (.tup [.int 1, .int 1]) := upd_same
            have P45 := (P43.same s44).same s45
            have e44' := s45 _ _ e44
            generalize upd H44 u4 (.tup [.int 1, .int 1]) = H45 at s45 e45 P45 e44' ⊢
            refine ⟨tieD (1, 1), tieD (1, 1), dp_tie (SqT.of e44'), dp_tie (SqT.of e45), shaped_tie _, shaped_tie _, _, rfl, iteF' (by rw [tie_eqv, decide_eq_true rfl]; rfl) ?_⟩
            clear s42 e42 P42 B43 P43 s44 e44 s45 e45 e44' P41
            -- what is no text
            refine ⟨_, rfl, (by show 1 ≤ sizeLine; decide), fun g8 ng8 => ?_⟩
            have s46 := Same.new (o := .lst [V.str "1"]) ng8
            have e46 : (upd H45 g8 (.lst [V.str "1"])) g8 = some (.lst [V.str "1"]) := upd_same
            have P46 := P45.same s46
            generalize upd H45 g8 (.lst [V.str "1"]) = H46 at s46 e46 P46 ⊢
            refine ⟨(by show 3 ≤ sizeLine; decide), fun g9 ng9 => ?_⟩
            have s47 := Same.new (o := .lst [V.non, .int 5, .ref g8]) ng9
            have e47 : (upd H46 g9 (.lst [V.non, .int 5, .ref g8])) g9 = some (.lst [V.non, .int 5, .ref g8]) := upd_same
            have P47 := P46.same s47
            have e46' := s47 _ _ e46
            generalize upd H46 g9 (.lst [V.non, .int 5, .ref g8]) = H47 at s47 e47 P47 e46' ⊢
            obtain ⟨kv47, hk47⟩ := P47.there
            refine ⟨p, c0, g9, [V.non, .int 5, .ref g8], 1100, rfl, P47.less (by omega), .inl (SqL.of e47), by simp, by show 3 ≤ 1000000; decide, fun sg j H48 hsg P48 B48 => ?_⟩
            obtain ⟨dd, hdd, hn, hk⟩ := no_text (K := K) (B48.keep hk47 e46' (by intro z; cases z)) sg (List.mem_of_getElem? hsg)
            refine ⟨_, 0, 0, rfl, fun E2 R2 => ⟨_, rfl, .inl ⟨dd, dd, hdd, hn, hk, rfl, R2⟩⟩, fun u5 H49 s49 e49 => ?_⟩
            refine ⟨(by show 2 ≤ sizeLine; decide), fun u6 nu6 => ?_⟩
            have s50 := Same.new (o := .tup [.int 0, .int 0]) nu6
            have e50 : (upd H49 u6 (.tup [.int 0, .int 0])) u6 = some (.tup [.int 0, .int 0]) := upd_same
            have e49' := s50 _ _ e49
            generalize upd H49 u6 (.tup [.int 0, .int 0]) = H50 at s50 e50 e49' ⊢
            refine ⟨tieD (0, 0), tieD (0, 0), dp_tie (SqT.of e49'), dp_tie (SqT.of e50), shaped_tie _, shaped_tie _, ?_⟩
            rw [tie_eqv, decide_eq_true rfl]
            exact k _
end
end Y
set_option Elab.async false
set_option linter.all false
set_option maxRecDepth 100000
set_option maxHeartbeats 4000000
namespace Y
open PySem PySem.Spec PyProof.Rows L2 LamX
theorem kit_own {K : PySem.W.Frag} {C : Addr} : PySem.W.kitOne K (.ref C) (.ref C) = some true := by
  unfold PySem.W.kitOne
  rw [if_pos (beq_self_eq_true _)]
theorem kit_noL {K : PySem.W.Frag} {C : Addr} (h : PySem.W.subIn K (.ref C) (.type "list") = some false) : PySem.W.kitOne K (.ref C) (.type "list") = some false := by
  unfold PySem.W.kitOne
  rw [if_neg (fun e => by have := eq_of_beq e; cases this)]
  show (if PySem.W.kitMeta "list" = true then PySem.W.subIn K (.ref C) (.type "list") else none) = some false
  rw [if_pos (by decide +kernel)]
  exact h
theorem FnOk.rightX {P : Program} {w : World} {K : PySem.W.Frag} {mg : Str → Option Value} {base : Heap} {k : Nat} {f : Addr} {fd : FuncData} {ps : List Str} {a b : Sp} {CX : CXT} (A : FnOk P w K mg base CX k f fd ps (spOr a b)) : FnOk P w K mg base CX k f fd ps b :=
  ⟨fun vs H Q E h => A.len _ _ _ _ (.inr h), fun Ar outer s H args us vs Q E hr e0 hb r h => A.run Ar outer s H args us vs Q E hr e0 hb r (.inr h)⟩
theorem exm_of {K : PySem.W.Frag} {C S : Addr} {b : Bool} (h1 : PySem.W.subIn K (.ref S) (.type "BaseException") = some true) (h2 : PySem.W.isClsIn K S = true) (h3 : PySem.W.typeIn K (.ref S) = some (.type "type")) (h4 : PySem.W.subIn K (.ref C) (.ref S) = some b) :
    PySem.W.exmOne K (.ref C) (.ref S) = some b := by
  have e1 : (PySem.W.subIn K (.ref S) (.type "BaseException") == some true) = true := by rw [h1] <;> rfl
  have e2 : ((PySem.W.clsIn K S).isSome && PySem.W.typeIn K (.ref S) == some (.type "type")) = true := by
    have h2' : (PySem.W.clsIn K S).isSome = true := h2
    rw [h2', h3] <;> rfl
  show (if (PySem.W.subIn K (.ref S) (.type "BaseException") == some true) = true then (if ((PySem.W.clsIn K S).isSome && PySem.W.typeIn K (.ref S) == some (.type "type")) = true then PySem.W.subIn K (.ref C) (.ref S) else none) else none) = some b
  rw [if_pos e1, if_pos e2]
  exact h4
theorem all_mk {l : PySem.W.OpenLaw} {w : World} {K : PySem.W.Frag} {h : Heap} {mg : Str → Option Value} {fa C0 C1 CB CR CM CY cL PL f0 f1 f2 f3 f4 f5 f6 f7 f8 f9 f10 f11 f12 f13 f14 f15 f16 f17 f18 f19 f20 f21 f22 f23 f24 f25 f26 f27 f28 f29 f30 f31 f32 f33 f34 f35 f36 f37 : Addr} {tkW tkS : Tok} (X : K.In h) (G : h.Ns mainGlobals mg) (hfa : mg "law" = some (.ref fa))
    {nmB qB : Str} {NB : Addr} {bsB : List Value} {snB : List Str} {subB : List Value} {abB : Bool} {colB : Option Bool} {ddB : Option Addr} {m0B m1B m2B m3B m5B : Option Value}
    {nmR qR : Str} {NR : Addr} {bsR : List Value} {snR : List Str} {subR : List Value} {abR : Bool} {colR : Option Bool} {ddR : Option Addr} {m0R m1R m2R m3R m5R : Option Value}
    {nmM qM : Str} {NM : Addr} {bsM : List Value} {snM : List Str} {subM : List Value} {abM : Bool} {colM : Option Bool} {ddM : Option Addr} {m0M m1M m2M m3M m5M : Option Value}
    {eL : Value} {ddL : Option Addr} {vsL : Array Value} {slL : Array (Option Value)}
    {od0 an0 od1 an1 od2 an2 od3 an3 od4 an4 od5 an5 od6 an6 od7 an7 od8 an8 od9 an9 od10 an10 od11 an11 od12 an12 od13 an13 od14 an14 od15 an15 od16 an16 od17 an17 od18 an18 od19 an19 od20 an20 od21 an21 od22 an22 od23 an23 od24 an24 od25 an25 od26 an26 od27 an27 od28 an28 od29 an29 od30 an30 od31 an31 od32 an32 od33 an33 od34 an34 od35 an35 od36 an36 od37 an37 : Option Addr} {sl0 sl1 sl2 sl3 sl4 sl5 sl6 sl7 sl8 sl9 sl10 sl11 sl12 sl13 sl14 sl15 sl16 sl17 sl18 sl19 sl20 sl21 sl22 sl23 sl24 sl25 sl26 sl27 sl28 sl29 sl30 sl31 sl32 sl33 sl34 sl35 sl36 sl37 : Array (Option Value)} {oc0 kV0 dc0 pm0 cd0 ct0 oc1 kV1 dc1 pm1 cd1 ct1 oc2 kV2 dc2 pm2 cd2 ct2 oc3 kV3 dc3 pm3 cd3 ct3 oc4 kV4 dc4 pm4 cd4 ct4 oc5 kV5 dc5 pm5 cd5 ct5 oc6 kV6 dc6 pm6 cd6 ct6 oc7 kV7 dc7 pm7 cd7 ct7 oc8 kV8 dc8 pm8 cd8 ct8 oc9 kV9 dc9 pm9 cd9 ct9 oc10 kV10 dc10 pm10 cd10 ct10 oc11 kV11 dc11 pm11 cd11 ct11 oc12 kV12 dc12 pm12 cd12 ct12 oc13 kV13 dc13 pm13 cd13 ct13 oc14 kV14 dc14 pm14 cd14 ct14 oc15 kV15 dc15 pm15 cd15 ct15 oc16 kV16 dc16 pm16 cd16 ct16 oc17 kV17 dc17 pm17 cd17 ct17 oc18 kV18 dc18 pm18 cd18 ct18 oc19 kV19 dc19 pm19 cd19 ct19 oc20 kV20 dc20 pm20 cd20 ct20 oc21 kV21 dc21 pm21 cd21 ct21 oc22 kV22 dc22 pm22 cd22 ct22 oc23 kV23 dc23 pm23 cd23 ct23 oc24 kV24 dc24 pm24 cd24 ct24 oc25 kV25 dc25 pm25 cd25 ct25 oc26 kV26 dc26 pm26 cd26 ct26 oc27 kV27 dc27 pm27 cd27 ct27 oc28 kV28 dc28 pm28 cd28 ct28 oc29 kV29 dc29 pm29 cd29 ct29 oc30 kV30 dc30 pm30 cd30 ct30 oc31 kV31 dc31 pm31 cd31 ct31 oc32 kV32 dc32 pm32 cd32 ct32 oc33 kV33 dc33 pm33 cd33 ct33 oc34 kV34 dc34 pm34 cd34 ct34 oc35 kV35 dc35 pm35 cd35 ct35 oc36 kV36 dc36 pm36 cd36 ct36 oc37 kV37 dc37 pm37  ct37 : Value}
    (aC0 : PySem.W.nsIn K mainGlobals "Yard" = some (some (.ref C0)))
    (pg0 : PySem.W.plainGet K C0 Str.empty = true)
    (hd0 : PySem.W.hasDictIn K C0 = true)
    (po0 : PySem.W.plainOver K C0 = true)
    (sa0 : PySem.W.findIn K (.ref C0) "__setattr__" = some (some (.builtin "object.__setattr__")))
    (mk0 : PySem.W.makesIn K C0 = true)
    (kc0 : PySem.W.keepIn K (.ref C0) = true)
    (n0_0 : PySem.W.findIn K (.ref C0) "places" = some none)
    (n0_1 : PySem.W.findIn K (.ref C0) "ties" = some none)
    (n0_2 : PySem.W.findIn K (.ref C0) "rings" = some none)
    (yc0 : PySem.W.findIn K (.ref C0) "__class__" = some (some (.builtin "object.__class__")))
    (ym0 : PySem.W.mroIn K C0 (.type "object") = some true)
    (yt0 : PySem.W.subIn K (.ref C0) (.type "list") = some false)
    (aC1 : PySem.W.nsIn K mainGlobals "Floor" = some (some (.ref C1)))
    (pg1 : PySem.W.plainGet K C1 Str.empty = true)
    (hd1 : PySem.W.hasDictIn K C1 = true)
    (po1 : PySem.W.plainOver K C1 = true)
    (sa1 : PySem.W.findIn K (.ref C1) "__setattr__" = some (some (.builtin "object.__setattr__")))
    (mk1 : PySem.W.makesIn K C1 = true)
    (kc1 : PySem.W.keepIn K (.ref C1) = true)
    (n1_0 : PySem.W.findIn K (.ref C1) "spots" = some none)
    (n1_1 : PySem.W.findIn K (.ref C1) "yard" = some none)
    (n1_2 : PySem.W.findIn K (.ref C1) "stand" = some none)
    (yc1 : PySem.W.findIn K (.ref C1) "__class__" = some (some (.builtin "object.__class__")))
    (ym1 : PySem.W.mroIn K C1 (.type "object") = some true)
    (ye3 : PySem.W.specialIn K (.builtin "object.__class__") "__get__" = some (some (.builtin "getset_descriptor.__get__")))
    (ye4 : PySem.W.takesIn K (.builtin "object.__class__") = some true)
    (wW : PySem.W.nsIn K mainGlobals "WALL" = some (some (.str "#" tkW)))
    (wS : PySem.W.nsIn K mainGlobals "SIGNS" = some (some (.str ".123456789abcdefghijklmnopqrstuvwxyz" tkS)))
    (aEB : PySem.W.nsIn K mainGlobals "BadLine" = some (some (.ref CB)))
    (gaB : PySem.W.findIn K (.ref CB) "__getattribute__" = some (some (.builtin "BaseException.__getattribute__")))
    (ggB : PySem.W.findIn K (.ref CB) "__getattr__" = some none)
    (eCB : PySem.W.subIn K (.ref CB) (.type "BaseException") = some true)
    (hCB : PySem.W.hasDictIn K CB = true)
    (nEB0 : PySem.W.findIn K (.ref CB) "line" = some none)
    (nEB1 : PySem.W.findIn K (.ref CB) "column" = some none)
    (tCB : PySem.W.typeIn K (.ref CB) = some (.type "type"))
    (iCB : PySem.W.isClsIn K CB = true)
    (xLB : K.lookup CB = some (excClassObj nmB qB CB NB bsB [.ref CY, .type "ValueError", .type "Exception", .type "BaseException", .type "object"] true snB subB abB colB ddB m0B m1B m2B m3B m5B "ValueError.__new__"))
    (saB : PySem.W.findIn K (.ref CB) "__setattr__" = some (some (.builtin "object.__setattr__")))
    (kCB : PySem.W.keepIn K (.ref CB) = true)
    (aER : PySem.W.nsIn K mainGlobals "BadRow" = some (some (.ref CR)))
    (gaR : PySem.W.findIn K (.ref CR) "__getattribute__" = some (some (.builtin "BaseException.__getattribute__")))
    (ggR : PySem.W.findIn K (.ref CR) "__getattr__" = some none)
    (eCR : PySem.W.subIn K (.ref CR) (.type "BaseException") = some true)
    (hCR : PySem.W.hasDictIn K CR = true)
    (nER0 : PySem.W.findIn K (.ref CR) "row" = some none)
    (tCR : PySem.W.typeIn K (.ref CR) = some (.type "type"))
    (iCR : PySem.W.isClsIn K CR = true)
    (xLR : K.lookup CR = some (excClassObj nmR qR CR NR bsR [.ref CY, .type "ValueError", .type "Exception", .type "BaseException", .type "object"] true snR subR abR colR ddR m0R m1R m2R m3R m5R "ValueError.__new__"))
    (saR : PySem.W.findIn K (.ref CR) "__setattr__" = some (some (.builtin "object.__setattr__")))
    (kCR : PySem.W.keepIn K (.ref CR) = true)
    (aEM : PySem.W.nsIn K mainGlobals "BadMove" = some (some (.ref CM)))
    (gaM : PySem.W.findIn K (.ref CM) "__getattribute__" = some (some (.builtin "BaseException.__getattribute__")))
    (ggM : PySem.W.findIn K (.ref CM) "__getattr__" = some none)
    (eCM : PySem.W.subIn K (.ref CM) (.type "BaseException") = some true)
    (hCM : PySem.W.hasDictIn K CM = true)
    (nEM0 : PySem.W.findIn K (.ref CM) "index" = some none)
    (tCM : PySem.W.typeIn K (.ref CM) = some (.type "type"))
    (iCM : PySem.W.isClsIn K CM = true)
    (xLM : K.lookup CM = some (excClassObj nmM qM CM NM bsM [.ref CY, .type "ValueError", .type "Exception", .type "BaseException", .type "object"] true snM subM abM colM ddM m0M m1M m2M m3M m5M "ValueError.__new__"))
    (saM : PySem.W.findIn K (.ref CM) "__setattr__" = some (some (.builtin "object.__setattr__")))
    (kCM : PySem.W.keepIn K (.ref CM) = true)
    (sBB : PySem.W.subIn K (.ref CB) (.ref CB) = some true)
    (sRB : PySem.W.subIn K (.ref CR) (.ref CB) = some false)
    (sRR : PySem.W.subIn K (.ref CR) (.ref CR) = some true)
    (sMB : PySem.W.subIn K (.ref CM) (.ref CB) = some false)
    (sMR : PySem.W.subIn K (.ref CM) (.ref CR) = some false)
    (sMM : PySem.W.subIn K (.ref CM) (.ref CM) = some true)
    (a0 : PySem.W.findIn K (.ref C0) "__init__" = some (some (.ref f0)))
    (i0 : PySem.W.isFn K (.ref f0) = true)
    (l0 : K.lookup f0 = some ⟨oc0, od0, .func (PySem.W.fnOf "__init__" "Yard.__init__" (defArgs sYInit) (defBody sYInit) (defScope sYInit) .none kV0 dc0 pm0 an0 cd0 ct0), sl0⟩)
    (c0 : PySem.W.codeIn K cd0 "Yard.__init__" = true)
    (k0 : PySem.W.keepIn K (.ref f0) = true)
    (a1 : PySem.W.findIn K (.ref C1) "__init__" = some (some (.ref f1)))
    (i1 : PySem.W.isFn K (.ref f1) = true)
    (l1 : K.lookup f1 = some ⟨oc1, od1, .func (PySem.W.fnOf "__init__" "Floor.__init__" (defArgs sFInit) (defBody sFInit) (defScope sFInit) .none kV1 dc1 pm1 an1 cd1 ct1), sl1⟩)
    (c1 : PySem.W.codeIn K cd1 "Floor.__init__" = true)
    (k1 : PySem.W.keepIn K (.ref f1) = true)
    (a2 : PySem.W.findIn K (.ref CB) "__init__" = some (some (.ref f2)))
    (t2 : PySem.W.typeIn K (.ref f2) = some (.type "function"))
    (l2 : K.lookup f2 = some ⟨oc2, od2, .func (PySem.W.fnOf "__init__" "BadLine.__init__" (defArgs sLineI) (defBody sLineI) (defScope sLineI) .none kV2 dc2 pm2 an2 cd2 ct2), sl2⟩)
    (c2 : PySem.W.codeIn K cd2 "BadLine.__init__" = true)
    (k2 : PySem.W.keepIn K (.ref f2) = true)
    (a3 : PySem.W.findIn K (.ref CR) "__init__" = some (some (.ref f3)))
    (t3 : PySem.W.typeIn K (.ref f3) = some (.type "function"))
    (l3 : K.lookup f3 = some ⟨oc3, od3, .func (PySem.W.fnOf "__init__" "BadRow.__init__" (defArgs sRowI) (defBody sRowI) (defScope sRowI) .none kV3 dc3 pm3 an3 cd3 ct3), sl3⟩)
    (c3 : PySem.W.codeIn K cd3 "BadRow.__init__" = true)
    (k3 : PySem.W.keepIn K (.ref f3) = true)
    (a4 : PySem.W.findIn K (.ref CM) "__init__" = some (some (.ref f4)))
    (t4 : PySem.W.typeIn K (.ref f4) = some (.type "function"))
    (l4 : K.lookup f4 = some ⟨oc4, od4, .func (PySem.W.fnOf "__init__" "BadMove.__init__" (defArgs sMvInit) (defBody sMvInit) (defScope sMvInit) .none kV4 dc4 pm4 an4 cd4 ct4), sl4⟩)
    (c4 : PySem.W.codeIn K cd4 "BadMove.__init__" = true)
    (k4 : PySem.W.keepIn K (.ref f4) = true)
    (a5 : PySem.W.nsIn K mainGlobals "is_integer" = some (some (.ref f5)))
    (l5 : K.lookup f5 = some ⟨oc5, od5, .func (PySem.W.fnOf "is_integer" "is_integer" (defArgs sIsInt) (defBody sIsInt) (defScope sIsInt) .none kV5 dc5 pm5 an5 cd5 ct5), sl5⟩)
    (c5 : PySem.W.codeIn K cd5 "is_integer" = true)
    (k5 : PySem.W.keepIn K (.ref f5) = true)
    (a6 : PySem.W.nsIn K mainGlobals "is_count" = some (some (.ref f6)))
    (l6 : K.lookup f6 = some ⟨oc6, od6, .func (PySem.W.fnOf "is_count" "is_count" (defArgs sIsCount) (defBody sIsCount) (defScope sIsCount) .none kV6 dc6 pm6 an6 cd6 ct6), sl6⟩)
    (c6 : PySem.W.codeIn K cd6 "is_count" = true)
    (k6 : PySem.W.keepIn K (.ref f6) = true)
    (a7 : PySem.W.nsIn K mainGlobals "is_row" = some (some (.ref f7)))
    (l7 : K.lookup f7 = some ⟨oc7, od7, .func (PySem.W.fnOf "is_row" "is_row" (defArgs sIsRow) (defBody sIsRow) (defScope sIsRow) .none kV7 dc7 pm7 an7 cd7 ct7), sl7⟩)
    (c7 : PySem.W.codeIn K cd7 "is_row" = true)
    (k7 : PySem.W.keepIn K (.ref f7) = true)
    (a8 : PySem.W.nsIn K mainGlobals "frozen" = some (some (.ref f8)))
    (l8 : K.lookup f8 = some ⟨oc8, od8, .func (PySem.W.fnOf "frozen" "frozen" (defArgs sFroz) (defBody sFroz) (defScope sFroz) .none kV8 dc8 pm8 an8 cd8 ct8), sl8⟩)
    (c8 : PySem.W.codeIn K cd8 "frozen" = true)
    (k8 : PySem.W.keepIn K (.ref f8) = true)
    (a9 : PySem.W.nsIn K mainGlobals "are_unlike_numbers" = some (some (.ref f9)))
    (l9 : K.lookup f9 = some ⟨oc9, od9, .func (PySem.W.fnOf "are_unlike_numbers" "are_unlike_numbers" (defArgs sUnlike) (defBody sUnlike) (defScope sUnlike) .none kV9 dc9 pm9 an9 cd9 ct9), sl9⟩)
    (c9 : PySem.W.codeIn K cd9 "are_unlike_numbers" = true)
    (k9 : PySem.W.keepIn K (.ref f9) = true)
    (a10 : PySem.W.nsIn K mainGlobals "checked_ties" = some (some (.ref f10)))
    (l10 : K.lookup f10 = some ⟨oc10, od10, .func (PySem.W.fnOf "checked_ties" "checked_ties" (defArgs sCTies) (defBody sCTies) (defScope sCTies) .none kV10 dc10 pm10 an10 cd10 ct10), sl10⟩)
    (c10 : PySem.W.codeIn K cd10 "checked_ties" = true)
    (k10 : PySem.W.keepIn K (.ref f10) = true)
    (a11 : PySem.W.nsIn K mainGlobals "checked_rings" = some (some (.ref f11)))
    (l11 : K.lookup f11 = some ⟨oc11, od11, .func (PySem.W.fnOf "checked_rings" "checked_rings" (defArgs sCRings) (defBody sCRings) (defScope sCRings) .none kV11 dc11 pm11 an11 cd11 ct11), sl11⟩)
    (c11 : PySem.W.codeIn K cd11 "checked_rings" = true)
    (k11 : PySem.W.keepIn K (.ref f11) = true)
    (a12 : PySem.W.nsIn K mainGlobals "both_ways" = some (some (.ref f12)))
    (l12 : K.lookup f12 = some ⟨oc12, od12, .func (PySem.W.fnOf "both_ways" "both_ways" (defArgs sBoth) (defBody sBoth) (defScope sBoth) .none kV12 dc12 pm12 an12 cd12 ct12), sl12⟩)
    (c12 : PySem.W.codeIn K cd12 "both_ways" = true)
    (k12 : PySem.W.keepIn K (.ref f12) = true)
    (a13 : PySem.W.nsIn K mainGlobals "is_stand_row" = some (some (.ref f13)))
    (l13 : K.lookup f13 = some ⟨oc13, od13, .func (PySem.W.fnOf "is_stand_row" "is_stand_row" (defArgs sIsStand) (defBody sIsStand) (defScope sIsStand) .none kV13 dc13 pm13 an13 cd13 ct13), sl13⟩)
    (c13 : PySem.W.codeIn K cd13 "is_stand_row" = true)
    (k13 : PySem.W.keepIn K (.ref f13) = true)
    (a14 : PySem.W.nsIn K mainGlobals "is_move" = some (some (.ref f14)))
    (l14 : K.lookup f14 = some ⟨oc14, od14, .func (PySem.W.fnOf "is_move" "is_move" (defArgs sIsMove) (defBody sIsMove) (defScope sIsMove) .none kV14 dc14 pm14 an14 cd14 ct14), sl14⟩)
    (c14 : PySem.W.codeIn K cd14 "is_move" = true)
    (k14 : PySem.W.keepIn K (.ref f14) = true)
    (a15 : PySem.W.nsIn K mainGlobals "can_be_made" = some (some (.ref f15)))
    (l15 : K.lookup f15 = some ⟨oc15, od15, .func (PySem.W.fnOf "can_be_made" "can_be_made" (defArgs sCanBe) (defBody sCanBe) (defScope sCanBe) .none kV15 dc15 pm15 an15 cd15 ct15), sl15⟩)
    (c15 : PySem.W.codeIn K cd15 "can_be_made" = true)
    (k15 : PySem.W.keepIn K (.ref f15) = true)
    (a16 : PySem.W.nsIn K mainGlobals "behind_move" = some (some (.ref f16)))
    (l16 : K.lookup f16 = some ⟨oc16, od16, .func (PySem.W.fnOf "behind_move" "behind_move" (defArgs sBehind) (defBody sBehind) (defScope sBehind) .none kV16 dc16 pm16 an16 cd16 ct16), sl16⟩)
    (c16 : PySem.W.codeIn K cd16 "behind_move" = true)
    (k16 : PySem.W.keepIn K (.ref f16) = true)
    (a17 : PySem.W.nsIn K mainGlobals "behind_all" = some (some (.ref f17)))
    (l17 : K.lookup f17 = some ⟨oc17, od17, .func (PySem.W.fnOf "behind_all" "behind_all" (defArgs sBehindAll) (defBody sBehindAll) (defScope sBehindAll) .none kV17 dc17 pm17 an17 cd17 ct17), sl17⟩)
    (c17 : PySem.W.codeIn K cd17 "behind_all" = true)
    (k17 : PySem.W.keepIn K (.ref f17) = true)
    (a18 : PySem.W.nsIn K mainGlobals "played" = some (some (.ref f18)))
    (l18 : K.lookup f18 = some ⟨oc18, od18, .func (PySem.W.fnOf "played" "played" (defArgs sPlayed) (defBody sPlayed) (defScope sPlayed) .none kV18 dc18 pm18 an18 cd18 ct18), sl18⟩)
    (c18 : PySem.W.codeIn K cd18 "played" = true)
    (k18 : PySem.W.keepIn K (.ref f18) = true)
    (a19 : PySem.W.nsIn K mainGlobals "drawn" = some (some (.ref f19)))
    (l19 : K.lookup f19 = some ⟨oc19, od19, .func (PySem.W.fnOf "drawn" "drawn" (defArgs sDrawn) (defBody sDrawn) (defScope sDrawn) .none kV19 dc19 pm19 an19 cd19 ct19), sl19⟩)
    (c19 : PySem.W.codeIn K cd19 "drawn" = true)
    (k19 : PySem.W.keepIn K (.ref f19) = true)
    (a20 : PySem.W.nsIn K mainGlobals "pairs_beside" = some (some (.ref f20)))
    (l20 : K.lookup f20 = some ⟨oc20, od20, .func (PySem.W.fnOf "pairs_beside" "pairs_beside" (defArgs sBeside) (defBody sBeside) (defScope sBeside) .none kV20 dc20 pm20 an20 cd20 ct20), sl20⟩)
    (c20 : PySem.W.codeIn K cd20 "pairs_beside" = true)
    (k20 : PySem.W.keepIn K (.ref f20) = true)
    (a21 : PySem.W.nsIn K mainGlobals "read_floor" = some (some (.ref f21)))
    (l21 : K.lookup f21 = some ⟨oc21, od21, .func (PySem.W.fnOf "read_floor" "read_floor" (defArgs sRead) (defBody sRead) (defScope sRead) .none kV21 dc21 pm21 an21 cd21 ct21), sl21⟩)
    (c21 : PySem.W.codeIn K cd21 "read_floor" = true)
    (k21 : PySem.W.keepIn K (.ref f21) = true)
    (a22 : PySem.W.nsIn K mainGlobals "picture" = some (some (.ref f22)))
    (l22 : K.lookup f22 = some ⟨oc22, od22, .func (PySem.W.fnOf "picture" "picture" (defArgs sPic) (defBody sPic) (defScope sPic) .none kV22 dc22 pm22 an22 cd22 ct22), sl22⟩)
    (c22 : PySem.W.codeIn K cd22 "picture" = true)
    (k22 : PySem.W.keepIn K (.ref f22) = true)
    (a23 : PySem.W.nsIn K mainGlobals "are_drawable" = some (some (.ref f23)))
    (l23 : K.lookup f23 = some ⟨oc23, od23, .func (PySem.W.fnOf "are_drawable" "are_drawable" (defArgs sAreD) (defBody sAreD) (defScope sAreD) .none kV23 dc23 pm23 an23 cd23 ct23), sl23⟩)
    (c23 : PySem.W.codeIn K cd23 "are_drawable" = true)
    (k23 : PySem.W.keepIn K (.ref f23) = true)
    (a24 : PySem.W.nsIn K mainGlobals "draw" = some (some (.ref f24)))
    (l24 : K.lookup f24 = some ⟨oc24, od24, .func (PySem.W.fnOf "draw" "draw" (defArgs sDraw2) (defBody sDraw2) (defScope sDraw2) .none kV24 dc24 pm24 an24 cd24 ct24), sl24⟩)
    (c24 : PySem.W.codeIn K cd24 "draw" = true)
    (k24 : PySem.W.keepIn K (.ref f24) = true)
    (a25 : PySem.W.nsIn K mainGlobals "reel" = some (some (.ref f25)))
    (l25 : K.lookup f25 = some ⟨oc25, od25, .func (PySem.W.fnOf "reel" "reel" (defArgs sReel) (defBody sReel) (defScope sReel) .none kV25 dc25 pm25 an25 cd25 ct25), sl25⟩)
    (c25 : PySem.W.codeIn K cd25 "reel" = true)
    (k25 : PySem.W.keepIn K (.ref f25) = true)
    (a26 : PySem.W.nsIn K mainGlobals "_law_pen" = some (some (.ref f26)))
    (l26 : K.lookup f26 = some ⟨oc26, od26, .func (PySem.W.fnOf "_law_pen" "_law_pen" (defArgs sPen) (defBody sPen) (defScope sPen) .none kV26 dc26 pm26 an26 cd26 ct26), sl26⟩)
    (c26 : PySem.W.codeIn K cd26 "_law_pen" = true)
    (k26 : PySem.W.keepIn K (.ref f26) = true)
    (a27 : PySem.W.nsIn K mainGlobals "_law_draw" = some (some (.ref f27)))
    (l27 : K.lookup f27 = some ⟨oc27, od27, .func (PySem.W.fnOf "_law_draw" "_law_draw" (defArgs sDraw) (defBody sDraw) (defScope sDraw) .none kV27 dc27 pm27 an27 cd27 ct27), sl27⟩)
    (c27 : PySem.W.codeIn K cd27 "_law_draw" = true)
    (k27 : PySem.W.keepIn K (.ref f27) = true)
    (a28 : PySem.W.nsIn K mainGlobals "_law_pick" = some (some (.ref f28)))
    (l28 : K.lookup f28 = some ⟨oc28, od28, .func (PySem.W.fnOf "_law_pick" "_law_pick" (defArgs sPick) (defBody sPick) (defScope sPick) .none kV28 dc28 pm28 an28 cd28 ct28), sl28⟩)
    (c28 : PySem.W.codeIn K cd28 "_law_pick" = true)
    (k28 : PySem.W.keepIn K (.ref f28) = true)
    (a29 : PySem.W.nsIn K mainGlobals "_law_stirred" = some (some (.ref f29)))
    (l29 : K.lookup f29 = some ⟨oc29, od29, .func (PySem.W.fnOf "_law_stirred" "_law_stirred" (defArgs sStir) (defBody sStir) (defScope sStir) .none kV29 dc29 pm29 an29 cd29 ct29), sl29⟩)
    (c29 : PySem.W.codeIn K cd29 "_law_stirred" = true)
    (k29 : PySem.W.keepIn K (.ref f29) = true)
    (a30 : PySem.W.nsIn K mainGlobals "_law_moves" = some (some (.ref f30)))
    (l30 : K.lookup f30 = some ⟨oc30, od30, .func (PySem.W.fnOf "_law_moves" "_law_moves" (defArgs sMoves) (defBody sMoves) (defScope sMoves) .none kV30 dc30 pm30 an30 cd30 ct30), sl30⟩)
    (c30 : PySem.W.codeIn K cd30 "_law_moves" = true)
    (k30 : PySem.W.keepIn K (.ref f30) = true)
    (a31 : PySem.W.nsIn K mainGlobals "_law_moved" = some (some (.ref f31)))
    (l31 : K.lookup f31 = some ⟨oc31, od31, .func (PySem.W.fnOf "_law_moved" "_law_moved" (defArgs sMoved) (defBody sMoved) (defScope sMoved) .none kV31 dc31 pm31 an31 cd31 ct31), sl31⟩)
    (c31 : PySem.W.codeIn K cd31 "_law_moved" = true)
    (k31 : PySem.W.keepIn K (.ref f31) = true)
    (a32 : PySem.W.nsIn K mainGlobals "_law_line" = some (some (.ref f32)))
    (l32 : K.lookup f32 = some ⟨oc32, od32, .func (PySem.W.fnOf "_law_line" "_law_line" (defArgs sLine) (defBody sLine) (defScope sLine) .none kV32 dc32 pm32 an32 cd32 ct32), sl32⟩)
    (c32 : PySem.W.codeIn K cd32 "_law_line" = true)
    (k32 : PySem.W.keepIn K (.ref f32) = true)
    (a33 : PySem.W.nsIn K mainGlobals "_law_why" = some (some (.ref f33)))
    (l33 : K.lookup f33 = some ⟨oc33, od33, .func (PySem.W.fnOf "_law_why" "_law_why" (defArgs sWhy) (defBody sWhy) (defScope sWhy) .none kV33 dc33 pm33 an33 cd33 ct33), sl33⟩)
    (c33 : PySem.W.codeIn K cd33 "_law_why" = true)
    (k33 : PySem.W.keepIn K (.ref f33) = true)
    (a34 : PySem.W.nsIn K mainGlobals "_law_drawn_spots" = some (some (.ref f34)))
    (l34 : K.lookup f34 = some ⟨oc34, od34, .func (PySem.W.fnOf "_law_drawn_spots" "_law_drawn_spots" (defArgs sSpots) (defBody sSpots) (defScope sSpots) .none kV34 dc34 pm34 an34 cd34 ct34), sl34⟩)
    (c34 : PySem.W.codeIn K cd34 "_law_drawn_spots" = true)
    (k34 : PySem.W.keepIn K (.ref f34) = true)
    (a35 : PySem.W.nsIn K mainGlobals "_law_due_ties" = some (some (.ref f35)))
    (l35 : K.lookup f35 = some ⟨oc35, od35, .func (PySem.W.fnOf "_law_due_ties" "_law_due_ties" (defArgs sDue) (defBody sDue) (defScope sDue) .none kV35 dc35 pm35 an35 cd35 ct35), sl35⟩)
    (c35 : PySem.W.codeIn K cd35 "_law_due_ties" = true)
    (k35 : PySem.W.keepIn K (.ref f35) = true)
    (a36 : PySem.W.nsIn K mainGlobals "_law_picture" = some (some (.ref f36)))
    (l36 : K.lookup f36 = some ⟨oc36, od36, .func (PySem.W.fnOf "_law_picture" "_law_picture" (defArgs sLPic) (defBody sLPic) (defScope sLPic) .none kV36 dc36 pm36 an36 cd36 ct36), sl36⟩)
    (c36 : PySem.W.codeIn K cd36 "_law_picture" = true)
    (k36 : PySem.W.keepIn K (.ref f36) = true)
    (a37 : PySem.W.nsIn K mainGlobals "law" = some (some (.ref f37)))
    (l37 : K.lookup f37 = some ⟨oc37, od37, .func (PySem.W.fnOf "law" "law" (defArgs sLaw) (defBody sLaw) (defScope sLaw) .none kV37 dc37 pm37 an37 (.ref cL) ct37), sl37⟩)
    (c37 : PySem.W.codeIn K (.ref cL) "law" = true)
    (k37 : PySem.W.keepIn K (.ref f37) = true)
    (z0 : PySem.W.nsIn K mainGlobals "isinstance" = some none)
    (z1 : PySem.W.nsIn K mainGlobals "int" = some none)
    (z2 : PySem.W.nsIn K mainGlobals "bool" = some none)
    (z3 : PySem.W.nsIn K mainGlobals "tuple" = some none)
    (z4 : PySem.W.nsIn K mainGlobals "list" = some none)
    (z5 : PySem.W.nsIn K mainGlobals "len" = some none)
    (z6 : PySem.W.nsIn K mainGlobals "all" = some none)
    (z7 : PySem.W.nsIn K mainGlobals "set" = some none)
    (z8 : PySem.W.nsIn K mainGlobals "sorted" = some none)
    (z9 : PySem.W.nsIn K mainGlobals "enumerate" = some none)
    (z10 : PySem.W.nsIn K mainGlobals "range" = some none)
    (z11 : PySem.W.nsIn K mainGlobals "max" = some none)
    (z12 : PySem.W.nsIn K mainGlobals "zip" = some none)
    (z13 : PySem.W.nsIn K mainGlobals "str" = some none)
    (xTL : K.lookup cL = some ⟨eL, ddL, .fields vsL, slL⟩)
    (pTL : vsL[11]? = some (.ref PL))
    (hTL : PySem.W.codeHdIn K cL PL = true)
    (nTL : K.lookup PL = none)
    (tTL : h.get? PL = some { cls := .none, data := .fields #[] }) :
    LawG l w K 9 63 "_law_script" mg fa h := by
  have e := hfa.symm.trans (PySem.W.mg_of X G a37)
  cases e
  have F0 := fun_mk (st := sYInit) l0 c0 k0
  have b0 := F0.binds (ps := ["self", "places", "ties", "rings"]) fun _ _ _ _ _ _ us hl => match us, hl with | [_, _, _, _], _ => rfl
  have F1 := fun_mk (st := sFInit) l1 c1 k1
  have b1 := F1.binds (ps := ["self", "spots", "yard", "stand"]) fun _ _ _ _ _ _ us hl => match us, hl with | [_, _, _, _], _ => rfl
  have F2 := fun_mk (st := sLineI) l2 c2 k2
  have b2 := F2.binds (ps := ["self", "line", "column"]) fun _ _ _ _ _ _ us hl => match us, hl with | [_, _, _], _ => rfl
  have F3 := fun_mk (st := sRowI) l3 c3 k3
  have b3 := F3.binds (ps := ["self", "row"]) fun _ _ _ _ _ _ us hl => match us, hl with | [_, _], _ => rfl
  have F4 := fun_mk (st := sMvInit) l4 c4 k4
  have b4 := F4.binds (ps := ["self", "index"]) fun _ _ _ _ _ _ us hl => match us, hl with | [_, _], _ => rfl
  have F5 := fun_mk (st := sIsInt) l5 c5 k5
  have b5 := F5.binds (ps := ["value"]) fun _ _ _ _ _ _ us hl => match us, hl with | [_], _ => rfl
  have F6 := fun_mk (st := sIsCount) l6 c6 k6
  have b6 := F6.binds (ps := ["value"]) fun _ _ _ _ _ _ us hl => match us, hl with | [_], _ => rfl
  have F7 := fun_mk (st := sIsRow) l7 c7 k7
  have b7 := F7.binds (ps := ["value"]) fun _ _ _ _ _ _ us hl => match us, hl with | [_], _ => rfl
  have F8 := fun_mk (st := sFroz) l8 c8 k8
  have b8 := F8.binds (ps := ["value"]) fun _ _ _ _ _ _ us hl => match us, hl with | [_], _ => rfl
  have F9 := fun_mk (st := sUnlike) l9 c9 k9
  have b9 := F9.binds (ps := ["many", "value"]) fun _ _ _ _ _ _ us hl => match us, hl with | [_, _], _ => rfl
  have F10 := fun_mk (st := sCTies) l10 c10 k10
  have b10 := F10.binds (ps := ["places", "ties"]) fun _ _ _ _ _ _ us hl => match us, hl with | [_, _], _ => rfl
  have F11 := fun_mk (st := sCRings) l11 c11 k11
  have b11 := F11.binds (ps := ["places", "rings"]) fun _ _ _ _ _ _ us hl => match us, hl with | [_, _], _ => rfl
  have F12 := fun_mk (st := sBoth) l12 c12 k12
  have b12 := F12.binds (ps := ["pairs"]) fun _ _ _ _ _ _ us hl => match us, hl with | [_], _ => rfl
  have F13 := fun_mk (st := sIsStand) l13 c13 k13
  have b13 := F13.binds (ps := ["yard", "value"]) fun _ _ _ _ _ _ us hl => match us, hl with | [_, _], _ => rfl
  have F14 := fun_mk (st := sIsMove) l14 c14 k14
  have b14 := F14.binds (ps := ["yard", "value"]) fun _ _ _ _ _ _ us hl => match us, hl with | [_, _], _ => rfl
  have F15 := fun_mk (st := sCanBe) l15 c15 k15
  have b15 := F15.binds (ps := ["stand", "move"]) fun _ _ _ _ _ _ us hl => match us, hl with | [_, _], _ => rfl
  have F16 := fun_mk (st := sBehind) l16 c16 k16
  have b16 := F16.binds (ps := ["yard", "stand", "move"]) fun _ _ _ _ _ _ us hl => match us, hl with | [_, _, _], _ => rfl
  have F17 := fun_mk (st := sBehindAll) l17 c17 k17
  have b17 := F17.binds (ps := ["yard", "stand", "moves"]) fun _ _ _ _ _ _ us hl => match us, hl with | [_, _, _], _ => rfl
  have F18 := fun_mk (st := sPlayed) l18 c18 k18
  have b18 := F18.binds (ps := ["yard", "stand", "moves"]) fun _ _ _ _ _ _ us hl => match us, hl with | [_, _, _], _ => rfl
  have F19 := fun_mk (st := sDrawn) l19 c19 k19
  have b19 := F19.binds (ps := ["text"]) fun _ _ _ _ _ _ us hl => match us, hl with | [_], _ => rfl
  have F20 := fun_mk (st := sBeside) l20 c20 k20
  have b20 := F20.binds (ps := ["places"]) fun _ _ _ _ _ _ us hl => match us, hl with | [_], _ => rfl
  have F21 := fun_mk (st := sRead) l21 c21 k21
  have b21 := F21.binds (ps := ["text"]) fun _ _ _ _ _ _ us hl => match us, hl with | [_], _ => rfl
  have F22 := fun_mk (st := sPic) l22 c22 k22
  have b22 := F22.binds (ps := ["spots", "stand"]) fun _ _ _ _ _ _ us hl => match us, hl with | [_, _], _ => rfl
  have F23 := fun_mk (st := sAreD) l23 c23 k23
  have b23 := F23.binds (ps := ["things"]) fun _ _ _ _ _ _ us hl => match us, hl with | [_], _ => rfl
  have F24 := fun_mk (st := sDraw2) l24 c24 k24
  have b24 := F24.binds (ps := ["spots", "stand"]) fun _ _ _ _ _ _ us hl => match us, hl with | [_, _], _ => rfl
  have F25 := fun_mk (st := sReel) l25 c25 k25
  have b25 := F25.binds (ps := ["floor", "stand", "moves"]) fun _ _ _ _ _ _ us hl => match us, hl with | [_, _, _], _ => rfl
  have F26 := fun_mk (st := sPen) l26 c26 k26
  have b26 := F26.binds (ps := ["_law_script"]) fun _ _ _ _ _ _ us hl => match us, hl with | [_], _ => rfl
  have F27 := fun_mk (st := sDraw) l27 c27 k27
  have b27 := F27.binds (ps := ["_law_pen_here", "_law_many"]) fun _ _ _ _ _ _ us hl => match us, hl with | [_, _], _ => rfl
  have F28 := fun_mk (st := sPick) l28 c28 k28
  have b28 := F28.binds (ps := ["_law_pen_here", "_law_some"]) fun _ _ _ _ _ _ us hl => match us, hl with | [_, _], _ => rfl
  have F29 := fun_mk (st := sStir) l29 c29 k29
  have b29 := F29.binds (ps := ["_law_pen_here", "_law_stand"]) fun _ _ _ _ _ _ us hl => match us, hl with | [_, _], _ => rfl
  have F30 := fun_mk (st := sMoves) l30 c30 k30
  have b30 := F30.binds (ps := ["_law_yard", "_law_stand"]) fun _ _ _ _ _ _ us hl => match us, hl with | [_, _], _ => rfl
  have F31 := fun_mk (st := sMoved) l31 c31 k31
  have b31 := F31.binds (ps := ["_law_yard", "_law_stand", "_law_move"]) fun _ _ _ _ _ _ us hl => match us, hl with | [_, _, _], _ => rfl
  have F32 := fun_mk (st := sLine) l32 c32 k32
  have b32 := F32.binds (ps := ["_law_text"]) fun _ _ _ _ _ _ us hl => match us, hl with | [_], _ => rfl
  have F33 := fun_mk (st := sWhy) l33 c33 k33
  have b33 := F33.binds (ps := ["_law_call"]) fun _ _ _ _ _ _ us hl => match us, hl with | [_], _ => rfl
  have F34 := fun_mk (st := sSpots) l34 c34 k34
  have b34 := F34.binds (ps := ["_law_pen_here"]) fun _ _ _ _ _ _ us hl => match us, hl with | [_], _ => rfl
  have F35 := fun_mk (st := sDue) l35 c35 k35
  have b35 := F35.binds (ps := ["_law_spots"]) fun _ _ _ _ _ _ us hl => match us, hl with | [_], _ => rfl
  have F36 := fun_mk (st := sLPic) l36 c36 k36
  have b36 := F36.binds (ps := ["_law_spots", "_law_stand"]) fun _ _ _ _ _ _ us hl => match us, hl with | [_, _], _ => rfl
  have F37 := fun_mk (st := sLaw) l37 c37 k37
  refine ⟨PySem.W.fnOf "law" "law" (defArgs sLaw) (defBody sLaw) (defScope sLaw) .none kV37 dc37 pm37 an37 (.ref cL) ct37, [(cL, PL)], spLaw K PL, ⟨fun p hp => ?_, fun p hp => ?_, fun p hp => ?_⟩, fun s v => .of_eq rfl, fun H a ns hl hH hS => ⟨a, ns, rfl, hS, hl, hH (cL, PL) (List.mem_singleton.mpr rfl), fun _ => rfl⟩, fun base _ _ hTB => ?_⟩
  · rw [List.mem_singleton.mp hp]
    exact tTL
  · rw [List.mem_singleton.mp hp]
    exact nTL
  · rw [List.mem_singleton.mp hp]
    exact PySem.W.codeHd_of_K X hTL
  have TBL := hTB (cL, PL) (List.mem_singleton.mpr rfl)
  have xcB : XcC K CB := ⟨⟨⟨nmB, qB, NB, bsB, _, snB, subB, abB, colB, ddB, m0B, m1B, m2B, m3B, m5B, xLB, rfl⟩, saB, eCB, tCB, kCB⟩, ⟨gaB, ggB, eCB, hCB⟩, sBB, iCB⟩
  have xcR : XcC K CR := ⟨⟨⟨nmR, qR, NR, bsR, _, snR, subR, abR, colR, ddR, m0R, m1R, m2R, m3R, m5R, xLR, rfl⟩, saR, eCR, tCR, kCR⟩, ⟨gaR, ggR, eCR, hCR⟩, sRR, iCR⟩
  have xcM : XcC K CM := ⟨⟨⟨nmM, qM, NM, bsM, _, snM, subM, abM, colM, ddM, m0M, m1M, m2M, m3M, m5M, xLM, rfl⟩, saM, eCM, tCM, kCM⟩, ⟨gaM, ggM, eCM, hCM⟩, sMM, iCM⟩
  have xB : XE2 K mg "BadLine" "line" "column" CB f2 := ⟨PySem.W.mg_of X G aEB, xcB, a2, t2, nEB0, nEB1⟩
  have xR : XE1 K mg "BadRow" "row" CR f3 := ⟨PySem.W.mg_of X G aER, xcR, a3, t3, nER0⟩
  have xM : XMv K mg CM f4 := ⟨PySem.W.mg_of X G aEM, xcM, a4, t4, nEM0⟩
  have twh : TWhy K mg CR CM := ⟨PySem.W.mg_of X G aER, PySem.W.mg_of X G aEM, xcR.x, xcM.x, nER0, nEM0, exm_of eCR iCR tCR sRR, exm_of eCR iCR tCR sMR, exm_of eCM iCM tCM sMM⟩
  have yc : YCls K C0 := ⟨⟨pg0, hd0, po0, sa0⟩, n0_0, n0_1, n0_2⟩
  have fc : FCls K C1 := ⟨⟨pg1, hd1, po1, sa1⟩, n1_0, n1_1, n1_2⟩
  have onY : OwnN K C0 := ⟨yc0, ye3, ye4, ym0⟩
  have onF : OwnN K C1 := ⟨yc1, ye3, ye4, ym1⟩
  have ti : TI0 mg := ⟨(PySem.W.mg_none_of X G z0), (PySem.W.mg_none_of X G z1), (PySem.W.mg_none_of X G z2), (PySem.W.mg_none_of X G z3), (PySem.W.mg_none_of X G z4)⟩
  have tu : TUn K mg f5 f7 f9 f6 := ⟨ti, (PySem.W.mg_none_of X G z5), (PySem.W.mg_none_of X G z6), (PySem.W.mg_none_of X G z7), (PySem.W.mg_none_of X G z8), (PySem.W.mg_none_of X G z9), (PySem.W.mg_of X G a5), (PySem.W.mg_of X G a7), (PySem.W.mg_of X G a9), (PySem.W.mg_of X G a6)⟩
  have ty : TYd K mg C0 f5 f7 f9 f6 f10 f11 := ⟨tu, (PySem.W.mg_of X G a10), (PySem.W.mg_of X G a11), yc, PySem.W.mg_of X G aC0⟩
  have tpl : TPl K mg f5 f7 f13 f14 f15 f16 f17 f6 := ⟨ti, (PySem.W.mg_none_of X G z5), (PySem.W.mg_none_of X G z6), (PySem.W.mg_none_of X G z9), (PySem.W.mg_of X G a5), (PySem.W.mg_of X G a7), (PySem.W.mg_of X G a13), (PySem.W.mg_of X G a14), (PySem.W.mg_of X G a15), (PySem.W.mg_of X G a16), (PySem.W.mg_of X G a17), (PySem.W.mg_of X G a6)⟩
  have tn : TN K mg f5 := ⟨ti, (PySem.W.mg_none_of X G z13), (PySem.W.mg_none_of X G z5), (PySem.W.mg_none_of X G z6), (PySem.W.mg_of X G a5)⟩
  have tp : TxP K mg f27 := ⟨(PySem.W.mg_none_of X G z1), (PySem.W.mg_none_of X G z4), (PySem.W.mg_none_of X G z5), (PySem.W.mg_of X G a27)⟩
  have tg : Y.TG K mg f27 := ⟨tp, (PySem.W.mg_none_of X G z10), (PySem.W.mg_none_of X G z3)⟩
  have tpic : TPic mg tkW tkS := ⟨by rw [← wall_eq]; exact PySem.W.mg_of X G wW, PySem.W.mg_of X G wS, (PySem.W.mg_none_of X G z12), (PySem.W.mg_none_of X G z10), (PySem.W.mg_none_of X G z11)⟩
  have tdw : TDw mg f5 f7 f6 f22 f23 := ⟨ti, (PySem.W.mg_none_of X G z5), (PySem.W.mg_none_of X G z6), (PySem.W.mg_of X G a5), (PySem.W.mg_of X G a7), (PySem.W.mg_of X G a6), (PySem.W.mg_of X G a22), (PySem.W.mg_of X G a23)⟩
  have trl : TRl mg f18 f16 f22 f23 := ⟨(PySem.W.mg_of X G a18), (PySem.W.mg_of X G a16), (PySem.W.mg_of X G a22), (PySem.W.mg_of X G a23)⟩
  have trd : TRd K mg CB C0 C1 f2 f19 f20 f12 := ⟨ti, (PySem.W.mg_none_of X G z13), (PySem.W.mg_none_of X G z9), (PySem.W.mg_none_of X G z5), (PySem.W.mg_of X G a19), (PySem.W.mg_of X G a20), (PySem.W.mg_of X G a12), PySem.W.mg_of X G aC0, PySem.W.mg_of X G aC1, xB, yc, fc, onY, kit_noL yt0⟩
  have tlw : TLw K mg C1 C0 f26 f28 f29 f30 f31 f32 f33 f34 f35 f36 f24 f21 f25 f27 := ⟨tg, (PySem.W.mg_none_of X G z0), (PySem.W.mg_of X G a26), (PySem.W.mg_of X G a28), (PySem.W.mg_of X G a29), (PySem.W.mg_of X G a30), (PySem.W.mg_of X G a31), (PySem.W.mg_of X G a32), (PySem.W.mg_of X G a33), (PySem.W.mg_of X G a34), (PySem.W.mg_of X G a35), (PySem.W.mg_of X G a36), (PySem.W.mg_of X G a24), (PySem.W.mg_of X G a21), (PySem.W.mg_of X G a25), PySem.W.mg_of X G aC1, fc, onF, kit_own, yc⟩
  have mkY : Mk K C0 f0 := ⟨mk0, a0, i0, kc0⟩
  have mkF : Mk K C1 f1 := ⟨mk1, a1, i1, kc1⟩
  have gUn := ok_unlike (P := l.prog) (w := w) (base := base) F9 tu F5 b5 F7 b7 F6 b6
  have gCT := ok_cties (P := l.prog) (w := w) (base := base) F10 tu F7 b7 gUn F9 b9
  have gCR := ok_crings (P := l.prog) (w := w) (base := base) F11 tu F7 b7 gUn F9 b9
  have gYI := ok_yinit (P := l.prog) (w := w) (base := base) F0 ty F5 b5 gCT F10 b10 gCR F11 b11
  have gBo := ok_both (P := l.prog) (w := w) (base := base) F12 (PySem.W.mg_none_of X G z3) (PySem.W.mg_none_of X G z7) (PySem.W.mg_none_of X G z8)
  have gLI := ok_lineI (P := l.prog) (w := w) (base := base) F2 xB
  have gRI := ok_rowI (P := l.prog) (w := w) (base := base) F3 xR
  have gMI := ok_mvInit (P := l.prog) (w := w) (base := base) F4 xM
  have gDr := ok_drawn (P := l.prog) (w := w) (base := base) F19 tpic (PySem.W.mg_none_of X G z9)
  have gDX := ok_drawnX (P := l.prog) (w := w) (base := base) F19 tpic (PySem.W.mg_none_of X G z9) xB gLI b2
  have gDO := FnOk.orX gDr gDX
  have gBs := ok_beside (mg := mg) (P := l.prog) (w := w) (base := base) F20
  have gFI := ok_finit (P := l.prog) (w := w) (base := base) F1 (PySem.W.mg_of X G a8) ti F8 b8
  have gRd := ok_read (P := l.prog) (w := w) (base := base) F21 trd gDO F19 b19 gBs F20 b20 gBo F12 b12 mkY gYI b0 mkF gFI b1 gLI b2
  have gPi := ok_pic (P := l.prog) (w := w) (base := base) F22 tpic
  have gAD := ok_areDD (P := l.prog) (w := w) (base := base) F23 tpic tdw F5 b5 F6 b6
  have gDw := ok_drawF (P := l.prog) (w := w) (base := base) F24 tdw F7 b7 gAD F23 b23 gPi F22 b22 xR gRI b3
  have gIM := ok_isMoveD (P := l.prog) (w := w) (base := base) F14 tn F5 b5
  have gIS := ok_isStand (P := l.prog) (w := w) (base := base) F13 tpl F5 b5 F7 b7 F6 b6
  have gAl := ok_allX (P := l.prog) (w := w) (base := base) F17 tpl xM gIM F14 b14 F15 b15 F16 b16 gMI b4
  have gPl := ok_playedX (P := l.prog) (w := w) (base := base) F18 tpl gIS F13 b13 gAl F17 b17
  have gBe := ok_behind (P := l.prog) (w := w) (base := base) F16 tpl
  have gRl := ok_reel (P := l.prog) (w := w) (base := base) F25 trl fc gPl F18 b18 gBe F16 b16 gAD F23 b23 gPi F22 b22
  have gPen := ok_pen (P := l.prog) (w := w) (base := base) F26 tp
  have gD := ok_draw (P := l.prog) (w := w) (base := base) F27 tp
  have gPk := ok_pick (P := l.prog) (w := w) (base := base) F28 tp F27 b27
  have gSt := ok_stir (P := l.prog) (w := w) (base := base) F29 tg F27 b27
  have gMv := ok_moves (P := l.prog) (w := w) (base := base) F30 tg
  have gMd := ok_moved (P := l.prog) (w := w) (base := base) F31 tg
  have gLn := ok_line (P := l.prog) (w := w) (base := base) F32 xB (exm_of eCB iCB tCB sBB) (PySem.W.mg_of X G a21) (FnOk.rightX gRd) F21 b21
  have gSp := ok_spots (P := l.prog) (w := w) (base := base) F34 tg (PySem.W.mg_none_of X G z8) F27 b27
  have gDu := ok_due (P := l.prog) (w := w) (base := base) F35 tg (PySem.W.mg_none_of X G z8) (PySem.W.mg_none_of X G z11)
  have gLp := ok_lpic (P := l.prog) (w := w) (base := base) F36 tg (PySem.W.mg_none_of X G z11)
  exact ok_law (P := l.prog) (w := w) (base := base) F37 rfl TBL tlw twh gD F27 b27 gPk F28 b28 gPen F26 b26 gSt F29 b29 gMv F30 b30 gMd F31 b31 gLn F32 b32 F33 b33 gSp F34 b34 gDu F35 b35 gLp F36 b36 gDw F24 b24 gRd F21 b21 gRl F25 b25
end Y
set_option Elab.async false
set_option linter.all false
open PySem PySem.W PyProof.Rows
set_option maxRecDepth 100000 in
set_option maxHeartbeats 0 in
theorem PySem.Challenge.cw_slideyards_k31_whole_floors_holds : PySem.Challenge.rw_slideyards_k31_whole_floors.Holds := by
  w_on; o_law; k_head; (case hw => w_witness2)
  k_fill
  refine Y.walk_G (l := PySem.Challenge.rw_slideyards_k31_whole_floors) (k := 9) (n := 63) (x := "_law_script") rfl (by decide) rfl ⟨rfl, by decide, by decide⟩ (fun w h Y => PySem.W.km_in_of Y) ?F
  case F =>
    intro w mg fa h hk KX G hmg
    refine' Y.all_mk KX G hmg ?aC0 ?pg0 ?hd0 ?po0 ?sa0 ?mk0 ?kc0 ?n0_0 ?n0_1 ?n0_2 ?yc0 ?ym0 ?yt0 ?aC1 ?pg1 ?hd1 ?po1 ?sa1 ?mk1 ?kc1 ?n1_0 ?n1_1 ?n1_2 ?yc1 ?ym1 ?ye3 ?ye4 ?wW ?wS ?aEB ?gaB ?ggB ?eCB ?hCB ?nEB0 ?nEB1 ?tCB ?iCB ?xLB ?saB ?kCB ?aER ?gaR ?ggR ?eCR ?hCR ?nER0 ?tCR ?iCR ?xLR ?saR ?kCR ?aEM ?gaM ?ggM ?eCM ?hCM ?nEM0 ?tCM ?iCM ?xLM ?saM ?kCM ?sBB ?sRB ?sRR ?sMB ?sMR ?sMM ?a0 ?i0 ?l0 ?c0 ?k0 ?a1 ?i1 ?l1 ?c1 ?k1 ?a2 ?t2 ?l2 ?c2 ?k2 ?a3 ?t3 ?l3 ?c3 ?k3 ?a4 ?t4 ?l4 ?c4 ?k4 ?a5 ?l5 ?c5 ?k5 ?a6 ?l6 ?c6 ?k6 ?a7 ?l7 ?c7 ?k7 ?a8 ?l8 ?c8 ?k8 ?a9 ?l9 ?c9 ?k9 ?a10 ?l10 ?c10 ?k10 ?a11 ?l11 ?c11 ?k11 ?a12 ?l12 ?c12 ?k12 ?a13 ?l13 ?c13 ?k13 ?a14 ?l14 ?c14 ?k14 ?a15 ?l15 ?c15 ?k15 ?a16 ?l16 ?c16 ?k16 ?a17 ?l17 ?c17 ?k17 ?a18 ?l18 ?c18 ?k18 ?a19 ?l19 ?c19 ?k19 ?a20 ?l20 ?c20 ?k20 ?a21 ?l21 ?c21 ?k21 ?a22 ?l22 ?c22 ?k22 ?a23 ?l23 ?c23 ?k23 ?a24 ?l24 ?c24 ?k24 ?a25 ?l25 ?c25 ?k25 ?a26 ?l26 ?c26 ?k26 ?a27 ?l27 ?c27 ?k27 ?a28 ?l28 ?c28 ?k28 ?a29 ?l29 ?c29 ?k29 ?a30 ?l30 ?c30 ?k30 ?a31 ?l31 ?c31 ?k31 ?a32 ?l32 ?c32 ?k32 ?a33 ?l33 ?c33 ?k33 ?a34 ?l34 ?c34 ?k34 ?a35 ?l35 ?c35 ?k35 ?a36 ?l36 ?c36 ?k36 ?a37 ?l37 ?c37 ?k37 ?z0 ?z1 ?z2 ?z3 ?z4 ?z5 ?z6 ?z7 ?z8 ?z9 ?z10 ?z11 ?z12 ?z13 ?xTL ?pTL ?hTL ?nTL ?tTL
    (case aC0 => k_is); (case pg0 => k_is); (case hd0 => k_is); (case po0 => k_is); (case sa0 => k_is); (case mk0 => k_is)
    (case kc0 => k_is); (case n0_0 => k_is); (case n0_1 => k_is); (case n0_2 => k_is); (case yc0 => k_is); (case ym0 => k_is)
    (case yt0 => k_is); (case aC1 => k_is); (case pg1 => k_is); (case hd1 => k_is); (case po1 => k_is); (case sa1 => k_is)
    (case mk1 => k_is); (case kc1 => k_is); (case n1_0 => k_is); (case n1_1 => k_is); (case n1_2 => k_is); (case yc1 => k_is)
    (case ym1 => k_is); (case ye3 => k_is); (case ye4 => k_is); (case wW => k_is); (case wS => k_is); (case aEB => k_is)
    (case gaB => k_is); (case ggB => k_is); (case eCB => k_is); (case hCB => k_is); (case nEB0 => k_is); (case nEB1 => k_is)
    (case tCB => k_is); (case iCB => k_is); (case xLB => k_is); (case saB => k_is); (case kCB => k_is); (case aER => k_is)
    (case gaR => k_is); (case ggR => k_is); (case eCR => k_is); (case hCR => k_is); (case nER0 => k_is); (case tCR => k_is)
    (case iCR => k_is); (case xLR => k_is); (case saR => k_is); (case kCR => k_is); (case aEM => k_is); (case gaM => k_is)
    (case ggM => k_is); (case eCM => k_is); (case hCM => k_is); (case nEM0 => k_is); (case tCM => k_is); (case iCM => k_is)
    (case xLM => k_is); (case saM => k_is); (case kCM => k_is); (case sBB => k_is); (case sRB => k_is); (case sRR => k_is)
    (case sMB => k_is); (case sMR => k_is); (case sMM => k_is); (case a0 => k_is); (case i0 => k_is); (case l0 => k_is)
    (case c0 => k_is); (case k0 => k_is); (case a1 => k_is); (case i1 => k_is); (case l1 => k_is); (case c1 => k_is)
    (case k1 => k_is); (case a2 => k_is); (case t2 => k_is); (case l2 => k_is); (case c2 => k_is); (case k2 => k_is)
    (case a3 => k_is); (case t3 => k_is); (case l3 => k_is); (case c3 => k_is); (case k3 => k_is); (case a4 => k_is)
    (case t4 => k_is); (case l4 => k_is); (case c4 => k_is); (case k4 => k_is); (case a5 => k_is); (case l5 => k_is)
    (case c5 => k_is); (case k5 => k_is); (case a6 => k_is); (case l6 => k_is); (case c6 => k_is); (case k6 => k_is)
    (case a7 => k_is); (case l7 => k_is); (case c7 => k_is); (case k7 => k_is); (case a8 => k_is); (case l8 => k_is)
    (case c8 => k_is); (case k8 => k_is); (case a9 => k_is); (case l9 => k_is); (case c9 => k_is); (case k9 => k_is)
    (case a10 => k_is); (case l10 => k_is); (case c10 => k_is); (case k10 => k_is); (case a11 => k_is); (case l11 => k_is)
    (case c11 => k_is); (case k11 => k_is); (case a12 => k_is); (case l12 => k_is); (case c12 => k_is); (case k12 => k_is)
    (case a13 => k_is); (case l13 => k_is); (case c13 => k_is); (case k13 => k_is); (case a14 => k_is); (case l14 => k_is)
    (case c14 => k_is); (case k14 => k_is); (case a15 => k_is); (case l15 => k_is); (case c15 => k_is); (case k15 => k_is)
    (case a16 => k_is); (case l16 => k_is); (case c16 => k_is); (case k16 => k_is); (case a17 => k_is); (case l17 => k_is)
    (case c17 => k_is); (case k17 => k_is); (case a18 => k_is); (case l18 => k_is); (case c18 => k_is); (case k18 => k_is)
    (case a19 => k_is); (case l19 => k_is); (case c19 => k_is); (case k19 => k_is); (case a20 => k_is); (case l20 => k_is)
    (case c20 => k_is); (case k20 => k_is); (case a21 => k_is); (case l21 => k_is); (case c21 => k_is); (case k21 => k_is)
    (case a22 => k_is); (case l22 => k_is); (case c22 => k_is); (case k22 => k_is); (case a23 => k_is); (case l23 => k_is)
    (case c23 => k_is); (case k23 => k_is); (case a24 => k_is); (case l24 => k_is); (case c24 => k_is); (case k24 => k_is)
    (case a25 => k_is); (case l25 => k_is); (case c25 => k_is); (case k25 => k_is); (case a26 => k_is); (case l26 => k_is)
    (case c26 => k_is); (case k26 => k_is); (case a27 => k_is); (case l27 => k_is); (case c27 => k_is); (case k27 => k_is)
    (case a28 => k_is); (case l28 => k_is); (case c28 => k_is); (case k28 => k_is); (case a29 => k_is); (case l29 => k_is)
    (case c29 => k_is); (case k29 => k_is); (case a30 => k_is); (case l30 => k_is); (case c30 => k_is); (case k30 => k_is)
    (case a31 => k_is); (case l31 => k_is); (case c31 => k_is); (case k31 => k_is); (case a32 => k_is); (case l32 => k_is)
    (case c32 => k_is); (case k32 => k_is); (case a33 => k_is); (case l33 => k_is); (case c33 => k_is); (case k33 => k_is)
    (case a34 => k_is); (case l34 => k_is); (case c34 => k_is); (case k34 => k_is); (case a35 => k_is); (case l35 => k_is)
    (case c35 => k_is); (case k35 => k_is); (case a36 => k_is); (case l36 => k_is); (case c36 => k_is); (case k36 => k_is)
    (case a37 => k_is); (case l37 => k_is); (case c37 => k_is); (case k37 => k_is); (case z0 => k_is); (case z1 => k_is)
    (case z2 => k_is); (case z3 => k_is); (case z4 => k_is); (case z5 => k_is); (case z6 => k_is); (case z7 => k_is)
    (case z8 => k_is); (case z9 => k_is); (case z10 => k_is); (case z11 => k_is); (case z12 => k_is); (case z13 => k_is)
    (case xTL => k_is); (case pTL => rfl); (case hTL => rfl); (case nTL => rfl); (case tTL => exact PySem.W.km_tabs_of hk _ (by decide))
