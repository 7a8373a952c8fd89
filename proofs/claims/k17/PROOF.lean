import PyProof.Rows.All
import Wide.All
import OpenK.AllK
import Wide.FinOn
import HandS.ForMost
import HandS.AnyAll
import HandS.GenList
import HandS.Walk
import KE.GoesEnum
import HandS.IsInst
import HandS.Defaults
import HandS.HeadHook4
import HandS.HeadWalk
import HandS.ExcInit
import HandS.ExcField
import HandS.ExcIs
import HandS.Head2
import HandS.HeadEnd
import HandS.WordsExc
import KE.KExcSuper
import KE.KSuper
import KE.KExcIs
import HandS.Conv
import HandS.TupAny
import HandS.Star
import HandS.ExcInitHot
import HandS.SuiteRaise
import HandS.RaiseFrom
import HandS.HotCalls
import HandS.ExcCtx
import KE.KTryMore
import HandS.Lambda
import HandS.Style
import HandS.Evl
import HandS.EndTab
import PySem.Challenge.RW_answerhouse_k17_batches
section
set_option Elab.async false
set_option linter.all false
set_option maxRecDepth 100000
set_option maxHeartbeats 2000000
/-! all(elt for x in iter) where elt may call defs: the generator's block as a context of its own. -/
namespace GxG
open PySem PySem.Spec PyProof.Rows L2 GenW
open GxR (TabB TabG Tabbed inv_tab sh_eta)

/-- the generator expression's own scope: one name of its own, nothing captured, no cells -/
structure GenS (env : Env) (scope : Scope) (x : Str) : Prop where
  kind : scope.kind = .function
  co : scope.isCoroutine = false
  nocf : ∀ y ∈ scope.names, y.2 ≠ .cell ∧ y.2 ≠ .free
  dot : scope.names.lookup (".0" : Str) = some NameKind.local
  loc : scope.names.lookup x = some .local
  clo : cloFrom env.cells scope.names [] = []

/-- the generator has been made: the state sB ahead of its frame, and s5 behind it -/
structure Made (X : Cx) (pins : List (Addr × Obj)) (σ : L2.St) (P : Addr) (H1 H2 : Hp) (tg : Expr) (c0 : Expr) (scope : Scope) (J : It) (it : Addr) (fp : List Addr) (tn : Nat → Heap → Prop) (code : Value) (sB s5 : Shared) : Prop where
  tab : Tabbed P H1 H2
  inv : Inv X pins σ H2 sB
  turn : Turn X.prog X.w X.K tg J fp it tn
  tn0 : tn 0 sB.heap
  fpo : ∀ b ∈ fp, FpOk X pins H2 b ∧ b < sB.heap.objs.size
  os : s5.os = sB.os
  bare : AllBare s5.gens
  keep : ∀ b o, sB.heap.get? b = some o → s5.heap.get? b = some o
  ns : s5.heap.Ns sB.heap.objs.size (fun y => if y = (".0" : Str) then some (.ref it) else none)
  gen : ∃ go nm qn, s5.heap.get? (sB.heap.objs.size + 1) = some go ∧ go.cls = .type "generator" ∧ go.data = .fields #[.int sB.gens.size 0, nm, qn] ∧ go.slots = #[]
  gs : s5.gens[sB.gens.size]? = some (.fresh (.compStart c0 0 (.ref it) .none (genEnv scope [] sB.heap.objs.size code builtinsNs X.env)))

section
variable {X : Cx} {pins : List (Addr × Obj)} {σ : L2.St} {H : Hp} {s : Shared}
theorem gen_it {c P : Addr} {elt iter tg : Expr} {x : Str} {gpos : Pos} {scope : Scope} {wi : TI} {k : Nat} {Q' : Value → Shared → Prop} {R : It → Hp → Prop}
    (hr : Room k X.A) (TB : TabB X.base X.mg c P) (hcode : X.env.code = .ref c) (S : GenS X.env scope x) (hi : PI X tg iter wi)
    (hs : ∀ v, genFold iter X.env v = pure v) (I : Inv X pins σ H s) (h : wi σ H fun J H1 => TabG H1 P ∧ R J H1)
    (hQ : ∀ J H1 H2 it fp tn code sB s5, R J H1 → Made X pins σ P H1 H2 tg (.GeneratorExp elt [⟨tg, iter, [], 0⟩] scope gpos) scope J it fp tn code sB s5 → Q' (.ref (sB.heap.objs.size + 1)) s5) :
    wpAny (model X.prog X.w) X.A (eval (.GeneratorExp elt [⟨tg, iter, [], 0⟩] scope gpos) X.env) Q' X.xe s := by
  refine wpAny_GeneratorExp_make (cl := []) S.co (by rw [← S.clo]; exact closure_ok fun y hy e => absurd e (S.nocf y hy).2) (fun y hy => (S.nocf y hy).1) S.dot S.kind (by have := hr.dp; omega) ?_ hs
  refine thn (hi.run pins s σ H _ I h) fun xv s1 h1 => thn h1 fun itv s2 h2 => ?_
  obtain ⟨it, fp, tn, J, H1, rfl, I1, T, st1, f1, ⟨ps, hP, ht⟩, hR⟩ := h2
  have hPs : s2.heap.get? P = some { cls := .none, data := .fields ps } := I1.hok P _ hP
  have cd : PySem.W.CodeHd s2.heap c P := TB.code.keeps fun b u e => I1.bk b u e
  refine ⟨I1.nolimit, ?_⟩
  have fpl : ∀ b ∈ fp, b < s2.heap.objs.size := fun b hb => let ⟨o, e, _⟩ := T.obj _ _ st1 b hb; Heap.lt_size e
  have fpP : ∀ b ∈ fp, b ≠ P := fun b hb z => by
    have := (f1 b hb).1
    rw [z, hP] at this
    cases this
  have cont : ∀ (code : Value) (h3 : Heap) (tk : Nat) (more : Array Value), Heap.ExtBut P s2.heap h3 → s2.heap.objs.size ≤ h3.objs.size → h3.get? P = some { cls := .none, data := .fields (ps ++ more) } → TriplesOk (ps ++ more).toList →
      wpAny (model X.prog X.w) X.A (builtinsFor X.env.globals X.env.builtins) (fun bi s₄ => ∀ h', h'.Ns s₄.heap.objs.size (fun y => if y = (".0" : Str) then some (.ref it) else none) → Heap.SameBut s₄.heap.objs.size (s₄.heap.push { cls := .type "frame", data := .dict #[] }) h' →
          Q' (.ref h'.objs.size) { s₄ with
            gens := s₄.gens.push (.fresh (.compStart (.GeneratorExp elt [⟨tg, iter, [], 0⟩] scope gpos) 0 (.ref it) .none (genEnv scope [] s₄.heap.objs.size code bi X.env))),
            toks := s₄.toks + 1 + 1 + 1,
            heap := h'.push { cls := .type "generator", data := .fields #[.int s₄.gens.size 0, .str "<genexpr>" (s₄.toks + 1), .str (X.env.qual ++ "<genexpr>") (s₄.toks + 1 + 1)] } }) X.xe { s2 with heap := h3, toks := tk } := by
    intro code h3 tk more hx hsz hP3 ht3
    obtain ⟨bm, ob, e1, e2, e3, e4, e5, e6, e7, e8⟩ := TB.bm
    refine wpAny_builtinsFor (m := X.mg) (by rw [I1.ok.glob]; exact (I1.mod.glob.keeps I1.bk).extBut hx TB.gP) e1 e2 (hx _ _ e4 (I1.bk _ _ e5)) e6 e7 e8 ?_
    intro h' hn' hs'
    have J3 : Inv X pins σ (upd H1 P (.tbl (ps ++ more))) { s2 with heap := h3, toks := tk } :=
      inv_tab (more := more) (h' := h3) (g' := s2.gens) (d' := s2.drawn) (t' := tk) I1 hP (fun b u hb e => hx b u hb e) hP3 I1.bare
    have hsz' : h'.objs.size = h3.objs.size + 1 := by rw [hs'.1, Heap.size_push]
    have keep' : ∀ b o, h3.get? b = some o → h'.get? b = some o := fun b o e => hs'.extBut b o (Nat.ne_of_lt (Heap.lt_size e)) (Heap.get?_push_of_some _ e)
    have e9 : Value.ref h'.objs.size = Value.ref (h3.objs.size + 1) := by rw [hsz']
    rw [e9]
    refine hQ J H1 (upd H1 P (.tbl (ps ++ more))) it fp tn code { s2 with heap := h3, toks := tk } _ hR
      ⟨⟨⟨_, upd_same, ht3⟩, fun b hb => upd_ne hb⟩, J3, T, T.keep _ _ _ st1 fun b hb o e => hx b o (fpP b hb) e, fun b hb => ⟨?_, Nat.lt_of_lt_of_le (fpl b hb) hsz⟩, rfl, I1.bare.push rfl, fun b o e => Heap.get?_push_of_some _ (keep' b o e), hn'.push _, ?_, Array.getElem?_push_size ..⟩
    · obtain ⟨q0, q1⟩ := f1 b hb
      exact ⟨by rw [upd_ne (fpP b hb)]; exact q0, q1⟩
    · have hg := Heap.get?_push_size (h := h') (o := { cls := .type "generator", data := .fields #[.int s2.gens.size 0, .str "<genexpr>" (tk + 1), .str (X.env.qual ++ "<genexpr>") (tk + 1 + 1)] }) rfl
      rw [hsz'] at hg
      exact ⟨_, _, _, hg, rfl, rfl, rfl⟩
  cases hf : codeAmong gpos ps.toList with
  | none =>
    refine wpAny_genexprCodeX hcode (cd.code hPs ht) (cd.tab hPs) hf fun c' h' tk hx hge hlt hco' _ htab' _ => ?_
    obtain ⟨o1, vs, f1', tf, fl, tg', inF, tx, tt, op, _, _, _, _, _, _, _, _, _, htr, _⟩ := hco'
    exact cont _ h' tk _ hx (Nat.le_trans hge (Nat.le_of_lt hlt)) htab'.2 htr
  | some cv =>
    refine wpAny_genexprCode_hit hcode (cd.code hPs ht) hf ?_
    have e0 : ps ++ (#[] : Array Value) = ps := by simp
    exact cont cv s2.heap s2.toks #[] (Heap.ExtBut.refl _ _) (Nat.le_refl _) (by rw [e0]; exact hPs) (by rw [e0]; exact ht)
end
end GxG
end
section
set_option Elab.async false
set_option linter.all false
set_option maxRecDepth 100000
set_option maxHeartbeats 2000000
namespace GxG
open PySem PySem.Spec PyProof.Rows L2 GenW
open GxR (TabB TabG Tabbed inv_tab sh_eta)
abbrev gEnv (X : Cx) (sB : Shared) (scope : Scope) (code : Value) : Env := genEnv scope [] sB.heap.objs.size code builtinsNs X.env
/-- the generator's block -/
def gcx (X : Cx) (A : Around) (sB : Shared) (H : Hp) (x : Str) (scope : Scope) (code : Value) (fp : List Addr) (pn : List (Addr × Obj)) : Cx :=
  { X with A := A.deeper (gEnv X sB scope code), N := [x], s_0 := sB, H_0 := H, env := gEnv X sB scope code, outer := X.stack, stack := gEnv X sB scope code :: X.stack, ex := fp, fn := fun _ => true, calm := true, pn := pn, xe := fun _ _ => False }
theorem over_gen {A : Around} {elt tg iter : Expr} {ifs : List Expr} {scope : Scope} {pos : Pos} {it acc : Value} {env : Env} :
    A.over (.compLoop (.GeneratorExp elt [⟨tg, iter, ifs, 0⟩] scope pos) 0 it acc env) [] = A.deeper env := by
  obtain ⟨hd, d, fr, gs, u⟩ := A
  simp [Around.over, Around.deeper, marksOver, frameCount, unitsOf, envsOf, guardsOf, pushEnvs, pushGuards, Code.envs, Code.env?, Code.isFrame, Code.guards, Code.isGuard, Code.weight, Code.frames, Code.isCreation, Code.isCaller, Code.cUnits]
theorem over_gen0 {A : Around} {elt tg iter : Expr} {ifs : List Expr} {scope : Scope} {pos : Pos} {it acc : Value} {env : Env} :
    A.over (.compStart (.GeneratorExp elt [⟨tg, iter, ifs, 0⟩] scope pos) 0 it acc env) [] = A.deeper env := by
  obtain ⟨hd, d, fr, gs, u⟩ := A
  simp [Around.over, Around.deeper, marksOver, frameCount, unitsOf, envsOf, guardsOf, pushEnvs, pushGuards, Code.envs, Code.env?, Code.isFrame, Code.guards, Code.isGuard, Code.weight, Code.frames, Code.isCreation, Code.isCaller, Code.cUnits]
end GxG
namespace GxG
open PySem PySem.Spec PyProof.Rows L2 GenW
open GxR (TabB TabG Tabbed inv_tab sh_eta)
section
variable {X : Cx} {pins : List (Addr × Obj)} {σ : L2.St} {P : Addr} {H1 H2 : Hp} {tg c0 : Expr} {scope : Scope} {J : It} {it : Addr} {fp : List Addr} {tn : Nat → Heap → Prop} {code : Value} {sB s5 : Shared} {A : Around} {x : Str} {pn : List (Addr × Obj)}
theorem gcx_ok (M : Made X pins σ P H1 H2 tg c0 scope J it fp tn code sB s5) (S : GenS X.env scope x) (hA : A.frames = some X.stack) (hh : A.handled = none) : (gcx X A sB H2 x scope code fp pn).Ok := by
  have I := M.inv
  have noc : ∀ (y : Str) (c : Addr), (gEnv X sB scope code).cells.lookup y = some c → False := fun y c e => by
    have e' : ([] : List (Str × Addr)).lookup y = some c := e
    cases e'
  refine ⟨I.ok.mod, S.kind, I.ok.glob, rfl, Nat.le_refl _, fun y z c e => (noc y c e).elim, fun y hy => ?_, fun y c _ e => (noc y c e).elim, fun _ => hh, ?_, .inr ⟨rfl, rfl⟩, fun b hb => ⟨Nat.ne_of_lt (M.fpo b hb).2, fun y c e => (noc y c e).elim⟩, I.bs, Nat.le_trans I.ok.bsz I.sz, fun b o e hb => ?_, fun b hb z => ?_, I.stack, I.stkFree⟩
  · have key : ∀ k, scope.names.lookup y = some k → k = .cell ∨ k = .free → False := fun k hk hk' => by
      have q := S.nocf (y, k) (PySem.mem_of_lookup hk)
      rcases hk' with z | z
      · exact q.1 z
      · exact q.2 z
    rcases hy with hy | hy
    · exact (key _ hy (.inl rfl)).elim
    · exact (key _ hy (.inr rfl)).elim
  · show (A.frames.map _) = some (gEnv X sB scope code :: X.stack)
    rw [hA] <;> rfl
  · rcases (M.fpo b hb).1.2.2.2.1 with z | z
    · exact I.ok.noex b o e z
    · exact absurd (Nat.lt_of_lt_of_le (Heap.lt_size e) (Nat.le_trans I.ok.bsz z)) (Nat.lt_irrefl _)
  · rcases List.mem_cons.mp (I.stkSub b z) with z | z
    · exact (M.fpo b hb).1.2.1 z
    · exact (M.fpo b hb).1.2.2.1 z
theorem inv_gen {go : Obj} {nm qn : Value} (M : Made X pins σ P H1 H2 tg c0 scope J it fp tn code sB s5) (S : GenS X.env scope x) (hA : A.frames = some X.stack) (hh : A.handled = none)
    (hg : s5.heap.get? (sB.heap.objs.size + 1) = some go) (hd : go.data = .fields #[.int sB.gens.size 0, nm, qn]) : Inv (gcx X A sB H2 x scope code fp [(sB.heap.objs.size + 1, go)]) [] [none] H2 s5 := by
  have I := M.inv
  refine ⟨gcx_ok M S hA hh, M.os, M.bare, Un.kept M.keep, ⟨_, M.ns, fun i y v e1 e2 e3 => ?_⟩, fun y c e => ?_, I.hok.fresh (Nat.le_refl _), fun y c e => ?_, fun p hp => ?_, I.hok.kept M.keep, rfl⟩
  · cases i with
    | zero => cases e2
    | succ i => cases e2
  · have e' : ([] : List (Str × Addr)).lookup y = some c := e
    cases e'
  · have e' : ([] : List (Str × Addr)).lookup y = some c := e
    cases e'
  · rcases List.mem_append.mp hp with z | z
    · rw [List.mem_singleton.mp z]
      refine ⟨hg, I.hok.fresh (Nat.le_succ _), Nat.succ_ne_self _, fun hm => ?_, fun v q => by rw [hd] at q; cases q⟩
      have q := I.stkSub _ hm
      rcases List.mem_cons.mp q with z2 | z2
      · have h1 : X.env.locals < sB.heap.objs.size := I.lt
        have h2 : sB.heap.objs.size + 1 = X.env.locals := z2
        rw [← h2] at h1
        exact absurd h1 (Nat.not_lt_of_le (Nat.le_succ _))
      · exact I.nofs (Nat.le_succ _) z2
    · cases z
/-- what a state with the same heap inherits -/
theorem inv_same {Y : Cx} {pins : List (Addr × Obj)} {σ : L2.St} {H : Hp} {s s' : Shared} (I : Inv Y pins σ H s) (ho : s'.os = s.os) (hg : AllBare s'.gens) (hk : ∀ b o, s.heap.get? b = some o → s'.heap.get? b = some o) : Inv Y pins σ H s' :=
  I.call' (ch := []) ho (Un.kept hk) (I.hok.kept hk) hg fun b hb => absurd hb (by simp)
/-- back in the def -/
theorem inv_back {σ' : L2.St} {pins' : List (Addr × Obj)} {H' : Hp} {s' : Shared} (M : Made X pins σ P H1 H2 tg c0 scope J it fp tn code sB s5) (I' : Inv (gcx X A sB H2 x scope code fp pn) pins' σ' H' s') : Inv X pins σ H' s' :=
  M.inv.call' (ch := fp) I'.os I'.base I'.hok I'.bare fun b hb => ⟨(M.fpo b hb).1.2.2.2.1, (M.fpo b hb).1.2.1, (M.fpo b hb).1.2.2.2.2.1, (M.fpo b hb).1.2.2.2.2.2⟩
end
end GxG
end
section
set_option Elab.async false
set_option linter.all false
set_option maxRecDepth 100000
set_option maxHeartbeats 2000000
namespace GxG
open PySem PySem.Spec PyProof.Rows L2 GenW
open GxR (TabB TabG Tabbed inv_tab sh_eta)
/-- what the generator keeps to: the end, an item -/
def GEnd (B : Cx) (QT : Hp → Prop) : GenEnd := fun _ _ r s1 => ((r = .ok (.ret .none) ∨ r = .ok .next) ∧ ∃ H', Inv B [] [none] H' s1 ∧ QT H') ∨ ∃ e, r = .error e ∧ False
def GItem (B : Cx) (QF : Hp → Prop) : Protocol := fun _ _ v s1 kap => ∃ c H' σ' pins', v = .bool c ∧ Inv B pins' σ' H' s1 ∧ (c = false → QF H') ∧ (c = true → ∀ s', s'.heap = s1.heap → s'.os = s1.os → AllBare s'.gens → kap (.send .none) s')
/-- the walk's invariant and its turns -/
def GTurns (J : It) (g : TG) (te : TE) (W : Nat → Nat → Hp → Prop) (QT QF : Hp → Prop) : Prop :=
  ∀ i m H, W i m H → (J.stop i H ∧ QT H) ∨ (J.go i H ∧ ∃ Nx : Hp → Prop, (∀ H', Nx H' → ∃ m', m' < m ∧ W (i + 1) m' H') ∧ ∀ y H', J.yld i H y H' → g y [none] H' fun σ2 H2 => te σ2 H2 fun z H3 => ∃ c, z = .bl c ∧ if c = true then Nx H3 else QF H3)
section
variable {X : Cx} {pins : List (Addr × Obj)} {σ : L2.St} {P : Addr} {H1 H2 : Hp} {elt tg iter : Expr} {scope : Scope} {gpos : Pos} {J : It} {it : Addr} {fp : List Addr} {tn : Nat → Heap → Prop} {code : Value} {sB s5 : Shared} {A : Around} {x : Str} {pn : List (Addr × Obj)}
theorem seg_loop {g : TG} {te : TE} {W : Nat → Nat → Hp → Prop} {QT QF : Hp → Prop} (hco : scope.isCoroutine = false) (T : Turn X.prog X.w X.K tg J fp it tn)
    (hg : PG (gcx X A sB H2 x scope code fp pn) tg g) (he : PE (gcx X A sB H2 x scope code fp pn) elt te) (turn : GTurns J g te W QT QF) :
    ∀ (m n i : Nat) (s₀ s : Shared) (H : Hp), m < n → W i m H → Inv (gcx X A sB H2 x scope code fp pn) [] [none] H s → tn i s.heap → (∀ b ∈ fp, FpOk (gcx X A sB H2 x scope code fp pn) [] H b) →
      Seg (model X.prog X.w) A (GEnd (gcx X A sB H2 x scope code fp pn) QT) (GItem (gcx X A sB H2 x scope code fp pn) QF) n s₀
        (.compLoop (.GeneratorExp elt [⟨tg, iter, [], 0⟩] scope gpos) 0 (.ref it) .none (gEnv X sB scope code))
        ((model X.prog X.w).den (.compLoop (.GeneratorExp elt [⟨tg, iter, [], 0⟩] scope gpos) 0 (.ref it) .none (gEnv X sB scope code))) [] s := by
  intro m
  induction m using Nat.strongRecOn with
  | ind m ih =>
    intro n i s₀ s H hn hW I hst hfp
    obtain ⟨n, rfl⟩ : ∃ q, n = q + 1 := ⟨n - 1, by omega⟩
    show Seg _ A _ _ _ s₀ _ ((compTurn (.GeneratorExp elt [⟨tg, iter, [], 0⟩] scope gpos) 0 (.ref it) .none (gEnv X sB scope code)).onRaise (leaving (gEnv X sB scope code))) [] s
    rw [compTurn_gen, Sem.onRaise_eq_wrap]
    refine seg_bind_wrap (wpAny_standAt ?_)
    rcases turn i m H hW with ⟨stop, q⟩ | ⟨go, Nx, hNx, step⟩
    · refine seg_bind_wrap ?_
      rw [over_gen]
      refine thnF (T.done (gcx X A sB H2 x scope code fp pn) rfl rfl rfl rfl i [] s [none] H (fun _ _ => False) I hfp hst stop) fun r s1 ⟨hr, I1⟩ => ?_
      subst hr
      exact seg_end (.ok .next) (.inl ⟨.inr rfl, H, I1, q⟩)
    · refine seg_bind_wrap ?_
      rw [over_gen]
      refine thnF (T.item (gcx X A sB H2 x scope code fp pn) rfl rfl rfl rfl i [] s [none] H (fun _ _ => False) I hfp hst go) fun r s1 ⟨u, hr, h1⟩ => ?_
      subst hr
      dsimp only
      refine seg_bind_wrap ?_
      rw [over_gen]
      refine thnF h1 fun _ s2 ⟨y, H', I2, r2, y2, st2, n2⟩ => ?_
      have f2 : ∀ b ∈ fp, FpOk (gcx X A sB H2 x scope code fp pn) [] H' b := fun b hb => ⟨n2 b hb, (hfp b hb).2⟩
      have I2' := I2.pinned f2 (T.obj _ _ st2)
      refine seg_bind_wrap ?_
      rw [over_gen]
      refine thnF (hg.run _ s2 _ H' y u _ I2' r2 (step y H' y2)) fun _ s3 ⟨σ3, H3, I3, q3⟩ => ?_
      simp only [List.forIn_nil]
      refine seg_bind_wrap (wpAny_pure ?_)
      simp only [if_true]
      have hy : ∀ v, yieldOut (gEnv X sB scope code) v = yieldValue v := fun v => by
        have e : (gEnv X sB scope code).scope.isCoroutine = false := hco
        simp only [yieldOut, e, Bool.false_eq_true, if_false]
      simp only [hy]
      rw [Sem.bind_eq_wrap', Sem.bind_eq_wrap', Sem.wrap_wrap, Sem.wrap_wrap]
      refine seg_wrap ?_
      rw [over_gen]
      refine thnF (he.run _ s3 σ3 H3 _ I3 q3) fun v s4 ⟨z, H4, I4, r4, c, ez, q4⟩ => ?_
      subst ez
      cases (show v = Value.bool c from r4)
      refine seg_at (seg_yield rfl rfl rfl ⟨c, H4, _, _, rfl, I4, fun e => ?_, fun e s'' eh eo eb => ?_⟩)
      · subst e
        exact q4
      · subst e
        obtain ⟨m', hm', hW'⟩ := hNx H4 q4
        have pin' : ∀ b ∈ fp, ∀ o, s2.heap.get? b = some o → s4.heap.get? b = some o ∧ H4 b = none := fun b hb o e =>
          let z := I4.pin (b, o) (List.mem_append_right _ (List.mem_append_right _ (mem_pinsAt hb e)))
          ⟨z.1, z.2.1⟩
        have I5 : Inv (gcx X A sB H2 x scope code fp pn) [] [none] H4 s'' := inv_same ((I4.unpinned (pins := [])).weak (by rw [I4.len]; rfl) (fun j v e => by
          cases j with
          | zero => cases e
          | succ j => cases e)) eo eb fun b o e => by rw [eh]; exact e
        refine seg_again rfl (ih m' hm' n (i + 1) s'' s'' H4 (by omega) hW' I5 (T.keep _ _ _ st2 fun b hb o e => by rw [eh]; exact (pin' b hb o e).1) fun b hb => ⟨?_, (hfp b hb).2⟩)
        obtain ⟨o, e, _⟩ := T.obj _ _ st2 b hb
        exact (pin' b hb o e).2
end
end GxG
end
section
set_option Elab.async false
set_option linter.all false
set_option maxRecDepth 100000
set_option maxHeartbeats 2000000
namespace GxG
open PySem PySem.Spec PyProof.Rows L2 GenW
open GxR (TabB TabG Tabbed inv_tab sh_eta)
section
variable {A : Around} {R : Result → Shared → Prop} {B : Cx} {QT QF : Hp → Prop} {a : Addr} {g : Nat} {go : Obj} {nm qn : Value}
theorem drain_all (hh : A.handled = none) (hd : A.depth < recursionLimit) (hpn : (a, go) ∈ B.pn) (hgo : go.cls = .type "generator" ∧ go.data = .fields #[.int g 0, nm, qn] ∧ go.slots = #[])
    (hT : ∀ H' s1 s', Inv B [] [none] H' s1 → QT H' → s'.os = s1.os → AllBare s'.gens → (∀ b o, s1.heap.get? b = some o → s'.heap.get? b = some o) → R (.ok (.ret (.bool true))) s')
    (hF : ∀ H' σ' pins' s1 s', Inv B pins' σ' H' s1 → QF H' → s'.os = s1.os → AllBare s'.gens → (∀ b o, s1.heap.get? b = some o → s'.heap.get? b = some o) → R (.ok (.ret (.bool false))) s') :
    ∀ (n : Nat) (s : Shared), s.heap.IsGen a g → s.heap.NoLimit →
      (∃ gs, s.gens[g]? = some gs ∧ gs.Goes (model B.prog B.w) A.in1.in1 (GEnd B QT) (GItem B QF) n (.send .none) (s.setGen g .running)) →
      codeAny (model B.prog B.w) A (.builtin "all.loop" ⟨[.ref a], []⟩) R s := by
  have goes : ∀ {gs : GenState} {A' : Around} {n : Nat} {r : Resume} {s : Shared}, gs.Goes (model B.prog B.w) A' (GEnd B QT) (GItem B QF) n r s →
      gs.Goes (model B.prog B.w) A' (fun n s₀ r s1 => ((r = .ok (.ret .none) ∨ r = .ok .next) ∧ (∃ H', Inv B [] [none] H' s1 ∧ QT H')) ∨ ∃ e, r = .error e ∧ False) (GItem B QF) n r s := fun h => h
  have isg : ∀ {pins' σ' H' s'}, Inv B pins' σ' H' s' → s'.heap.IsGen a g := fun {pins' σ' H' s'} I =>
    ⟨go, nm, qn, (I.pin (a, go) (List.mem_append_left _ hpn)).1, hgo.1, hgo.2.1, hgo.2.2⟩
  intro n
  induction n with
  | zero =>
    intro s hg hl ⟨gs, hgs, hgo'⟩
    refine codeAny_builtin F.entry_all_loop ?_
    rw [Around.under_plainId F.plain_all_loop _]
    show wpAny _ A.in1 (pyNext (.ref a) >>= _) _ _ s
    refine wpAny_bind (next_genG (A := A.in1) (Er := fun _ _ => False) hh hl hd hg hgs (goes hgo') (fun v s₁ gs' hbare hv => ?_) (fun s₁ hp h' hk => ?_) fun e s₁ he => he.elim)
    · obtain ⟨c, H', σ', pins', rfl, I', q1, q2⟩ := hv
      refine wpAny_bind (wpAny_holding (wpAny_truthy_bool ?_))
      refine wpAny_bind (wpAny_letGo ?_)
      cases c with
      | true => exact False.elim (q2 rfl s₁ rfl rfl I'.bare)
      | false =>
        simp only [Bool.false_eq_true, if_false]
        exact wpAny_bind (wpAny_rule (wpAny_pure (hF H' σ' pins' s₁ _ I' (q1 rfl) rfl (allBare_setGen I'.bare hbare) fun b o e => e)))
    · obtain ⟨H', I', q⟩ := hp
      exact wpAny_bind (wpAny_rule (wpAny_pure (hT H' s₁ _ I' q rfl (allBare_setGen I'.bare rfl) hk)))
  | succ n ih =>
    intro s hg hl ⟨gs, hgs, hgo'⟩
    have hgl : g < s.gens.size := (Array.getElem?_eq_some_iff.mp hgs).1
    refine codeAny_builtin F.entry_all_loop ?_
    rw [Around.under_plainId F.plain_all_loop _]
    show wpAny _ A.in1 (pyNext (.ref a) >>= _) _ _ s
    refine wpAny_bind (wpAny_gsz (n := g + 1) hgl (next_genG (A := A.in1) (Er := fun _ _ => False) hh hl hd hg hgs (goes hgo') (fun v s₁ gs' hbare hv => ?_) (fun s₁ hp h' hk => ?_) fun e s₁ he => he.elim))
    · intro hsz
      obtain ⟨c, H', σ', pins', rfl, I', q1, q2⟩ := hv
      refine wpAny_bind (wpAny_holding (wpAny_truthy_bool ?_))
      refine wpAny_bind (wpAny_letGo ?_)
      cases c with
      | true =>
        simp only [if_true]
        have hsz1 : g < s₁.gens.size := by
          have q : (s₁.setGen g gs').gens.size = s₁.gens.size := setGen_size _ _ _
          have hsz' : g + 1 ≤ (s₁.setGen g gs').gens.size := hsz
          omega
        refine wpAny_pure ⟨plainId_quiet F.plain_all_loop _, ih (s₁.setGen g gs') (show s₁.heap.IsGen a g from isg I') (show s₁.heap.NoLimit from I'.nolimit) ⟨gs', setGen_at hsz1, ?_⟩⟩
        exact q2 rfl _ rfl rfl (allBare_setGen (s := s₁.setGen g gs') (allBare_setGen I'.bare hbare) rfl)
      | false =>
        simp only [Bool.false_eq_true, if_false]
        exact wpAny_bind (wpAny_rule (wpAny_pure (hF H' σ' pins' s₁ _ I' (q1 rfl) rfl (allBare_setGen I'.bare hbare) fun b o e => e)))
    · intro hsz
      obtain ⟨H', I', q⟩ := hp
      exact wpAny_bind (wpAny_rule (wpAny_pure (hT H' s₁ _ I' q rfl (allBare_setGen I'.bare rfl) hk)))
end
/-- all(elt for tg in iter): the walk's invariant W by turn and measure; behind it the def's table may have grown -/
def tAllG (P : Addr) (wi : TI) (g : TG) (te : TE) : TE := fun σ H Q => wi σ H fun J H1 => TabG H1 P ∧ ∀ H2, Tabbed P H1 H2 → ∃ W : Nat → Nat → Hp → Prop, (∃ m, W 0 m H2) ∧ GTurns J g te W (Q (.bl true)) (Q (.bl false))
section
variable {X : Cx}
theorem pe_allG {c P : Addr} {elt iter tg : Expr} {x : Str} {p pos gpos : Pos} {scope : Scope} {wi : TI} {g : TG} {te : TE} {k : Nat}
    (hr : Room (k + 1) X.A) (hg : Gl X "all") (hm : X.mg "all" = none) (TB : TabB X.base X.mg c P) (hcode : X.env.code = .ref c) (S : GenS X.env scope x) (hi : PI X tg iter wi)
    (hpg : ∀ (A : Around) (sB : Shared) (H : Hp) (code : Value) (fp : List Addr) (pn : List (Addr × Obj)), PG (gcx X A sB H x scope code fp pn) tg g)
    (hel : ∀ (A : Around) (sB : Shared) (H : Hp) (code : Value) (fp : List Addr) (pn : List (Addr × Obj)), Room k (gcx X A sB H x scope code fp pn).A → PE (gcx X A sB H x scope code fp pn) elt te)
    (hs : ∀ v, genFold iter X.env v = pure v := by intro _; rfl)
    (he : starEach [.GeneratorExp elt [⟨tg, iter, [], 0⟩] scope gpos] X.env = (false, eval (.GeneratorExp elt [⟨tg, iter, [], 0⟩] scope gpos) X.env) :: starEach [] X.env := by rfl) :
    PE X (.Call (.Name "all" p) [.GeneratorExp elt [⟨tg, iter, [], 0⟩] scope gpos] [] pos) (tAllG P wi g te) := by
  refine ⟨fun pins s σ H Q I h => ?_⟩
  refine wpAny_Call_Name_kw (ld_blt I hg hm (by decide +kernel : bootBuiltins "all" = some (.builtin "all")) ?_)
  refine PyProof.Rows.callWith_builtin1 ?_ he (by rfl)
  rw [he]
  show wpAny _ _ (spliced ((false, eval (.GeneratorExp elt [⟨tg, iter, [], 0⟩] scope gpos) X.env) :: backTo pos (starEach [] X.env))) _ _ s
  refine Calls.spliced_cons (gen_it (R := fun J H1 => ∀ H2, Tabbed P H1 H2 → ∃ W : Nat → Nat → Hp → Prop, (∃ m, W 0 m H2) ∧ GTurns J g te W (Q (.bl true)) (Q (.bl false))) hr TB hcode S hi hs I h fun J H1 H2 it fp tn code sB s5 hR M => ?_)
  refine Calls.spliced_nil ?_
  obtain ⟨W, ⟨m0, w0⟩, turn⟩ := hR H2 M.tab
  obtain ⟨go, nm, qn, hgo, hc, hd, hsl⟩ := M.gen
  have hh : X.A.handled = none := hr.hd
  have hA : X.A.in1.in1.frames = some X.stack := I.ok.frames
  have I5 := inv_gen (A := X.A.in1.in1) M S hA hh hgo hd
  have hroom : Room k (gcx X X.A.in1.in1 sB H2 x scope code fp [(sB.heap.objs.size + 1, go)]).A := by
    refine ⟨hh, ?_, ?_⟩
    · have := hr.dp
      show X.A.depth + 1 + 3 * k + 5 < _
      omega
    · have := hr.un
      show X.A.units + 1 + 1 + 3 + 16 * k + 200 < _
      omega
  have hgl : sB.gens.size < s5.gens.size := (Array.getElem?_eq_some_iff.mp M.gs).1
  refine call_function_tree F.kind_all F.plain_all F.entry_all (F.args_all1 _) ?_
  unfold Builtin.«all»
  refine wpAny_bind (m := oneArg "all" _) (wpAny_pure ?_)
  refine wpAny_bind (wpAny_pyIter_gen (g := sB.gens.size) ⟨go, nm, qn, hgo, hc, hd, hsl⟩ ?_)
  refine wpAny_pure ⟨plainId_quiet F.plain_all_loop _, ?_⟩
  refine drain_all (B := gcx X X.A.in1.in1 sB H2 x scope code fp [(sB.heap.objs.size + 1, go)]) (QT := Q (.bl true)) (QF := Q (.bl false)) (g := sB.gens.size) hh hr.depth (List.mem_singleton.mpr rfl) ⟨hc, hd, hsl⟩
    (fun H' s1 s' I' q ho hb hk => ⟨.bl true, H', inv_back M (inv_same I' ho hb hk), rfl, q⟩) (fun H' σ' pins' s1 s' I' q ho hb hk => ⟨.bl false, H', inv_back M (inv_same I' ho hb hk), rfl, q⟩)
    (m0 + 1) s5 ⟨go, nm, qn, hgo, hc, hd, hsl⟩ I5.nolimit ⟨_, M.gs, rfl, ?_⟩
  -- the generator starts
  have I6 : Inv (gcx X X.A.in1.in1 sB H2 x scope code fp [(sB.heap.objs.size + 1, go)]) [] [none] H2 (s5.setGen sB.gens.size .running) := inv_same I5 rfl (allBare_setGen M.bare rfl) fun b o e => e
  have f6 : ∀ b ∈ fp, FpOk (gcx X X.A.in1.in1 sB H2 x scope code fp [(sB.heap.objs.size + 1, go)]) [] H2 b := fun b hb => by
    refine ⟨(M.fpo b hb).1.1, Nat.ne_of_lt (M.fpo b hb).2, fun z => I5.ok.exfs b hb z, .inl hb, fun y c e => ?_, fun p hp => ?_⟩
    · have e' : ([] : List (Str × Addr)).lookup y = some c := e
      cases e'
    · rw [List.mem_singleton.mp hp]
      exact Nat.ne_of_gt (Nat.lt_succ_of_lt (M.fpo b hb).2)
  have tn6 : tn 0 (s5.setGen sB.gens.size .running).heap := M.turn.keep _ _ _ M.tn0 fun b _ o e => M.keep b o e
  have loop := seg_loop (A := X.A.in1.in1) (elt := elt) (iter := iter) (gpos := gpos) (g := g) (te := te) (W := W) (QT := Q (.bl true)) (QF := Q (.bl false)) S.co M.turn (hpg _ sB H2 code fp [(sB.heap.objs.size + 1, go)]) (hel _ sB H2 code fp [(sB.heap.objs.size + 1, go)] hroom) turn
    m0 (m0 + 1) 0 (s5.setGen sB.gens.size .running) (s5.setGen sB.gens.size .running) H2 (Nat.lt_succ_self _) w0 I6 tn6 f6
  show Seg _ _ _ _ _ _ _ ((compStart (.GeneratorExp elt [⟨tg, iter, [], 0⟩] scope gpos) 0 (.ref it) .none (gEnv X sB scope code)).onRaise (leaving (gEnv X sB scope code))) [] _
  unfold compStart
  rw [Sem.onRaise_eq_wrap]
  show Seg _ _ _ _ _ _ _ ((ask >>= _).wrap _ _ _ _) [] _
  refine seg_bind_wrap (wpAny_askSetting ?_)
  split
  · exact seg_again rfl loop
  · refine seg_bind_wrap (wpAny_rule ?_)
    show Seg _ _ _ _ _ _ _ ((standAt iter.pos >>= _).wrap _ _ _ _) [] _
    refine seg_bind_wrap (wpAny_standAt (seg_bind_wrap ?_))
    exact M.turn.self _ 0 _ _ _ tn6 (seg_again rfl loop)
end
end GxG
end
section
set_option Elab.async false
set_option linter.all false
set_option maxRecDepth 100000
namespace GxG
open PySem PySem.Spec PyProof.Rows L2 GenW
theorem nd1 (x : Str) : [x].Nodup := by simp
/-- the turns of all(..) over a walk -/
theorem ga_it {J : It} {n : Nat} {G : Hp → Prop} {Y : Nat → Hp → V → Hp → Prop} (w : Walk J n G Y) {g : TG} {te : TE} {H0 : Hp} {QT QF : Hp → Prop} (Pv : Nat → Hp → Prop) (h0 : Pv 0 H0) (hG : ∀ i H, i ≤ n → Pv i H → G H)
    (hs : ∀ i y H H', i < n → Pv i H → Y i H y H' → g y [none] H' fun σ2 H2 => te σ2 H2 fun z H3 => ∃ c, z = .bl c ∧ if c = true then Pv (i + 1) H3 else QF H3) (hd : ∀ H, Pv n H → QT H) :
    ∃ W : Nat → Nat → Hp → Prop, (∃ m, W 0 m H0) ∧ GTurns J g te W QT QF := by
  refine ⟨fun i m H => m = n - i ∧ i ≤ n ∧ Pv i H, ⟨n, by simp, Nat.zero_le _, h0⟩, ?_⟩
  rintro i m H ⟨rfl, hi, p⟩
  have q := hG i H hi p
  by_cases hlt : i < n
  · exact .inr ⟨w.goes i H hlt q, Pv (i + 1), fun H' p' => ⟨n - (i + 1), by omega, rfl, hlt, p'⟩, fun y H' yy => hs i y H H' hlt p (w.yields i H y H' hlt q yy)⟩
  · have e : i = n := by omega
    subst e
    exact .inl ⟨w.stops H q, hd H p⟩
/-- all of a list, by its first parts -/
theorem all_take {α : Type} {l : List α} {p : α → Bool} {i : Nat} {c : α} (h : (l.take i).all p = true) (hc : l[i]? = some c) : (p c = true → (l.take (i + 1)).all p = true) ∧ (p c = false → l.all p = false) := by
  have e : l.take (i + 1) = l.take i ++ [c] := by rw [List.take_add_one, hc] <;> rfl
  refine ⟨fun z => by rw [e, List.all_append, h]; simp [z], fun z => ?_⟩
  cases q : l.all p with
  | false => rfl
  | true =>
    have := List.all_eq_true.mp q c (List.mem_of_getElem? hc)
    rw [z] at this
    cases this
end GxG
end
section
set_option Elab.async false
set_option linter.all false
set_option maxRecDepth 100000
set_option maxHeartbeats 2000000
/-! enumerate(t), t a tuple, in a for -/
namespace EnT
open PySem PySem.Spec PyProof.Rows L2
theorem meets_new {t : Addr} (items : Array Value) :
    Meets (Builtin.«enumerate.__new__» ⟨[.type "enumerate", .ref t], []⟩) (fun _ R s => s.heap.IsTuple t items ∧
      R (.ok (.ret (.ref (s.heap.push { cls := .type "tuple_iterator", data := .fields #[.ref t, .int 0 0] }).objs.size)))
        { s with heap := (s.heap.push { cls := .type "tuple_iterator", data := .fields #[.ref t, .int 0 0] }).push { cls := .type "enumerate", data := .fields #[.none, .bool false, .ref s.heap.objs.size, rawInt 0, .none, .none] } }) :=
  .of_wp fun prog w A R s h => by
    obtain ⟨hp, g, d, tk, os⟩ := s; obtain ⟨h1, h⟩ := h
    have hsub := sub_enumerate
    have q1 : ∀ {A' : Around} {E : Value → Shared → Prop} {Q : Value → Shared → Prop}, Q (.ref hp.objs.size) ⟨hp.push { cls := .type "tuple_iterator", data := .fields #[.ref t, .int 0 0] }, g, d, tk, os⟩ → wpAny (model prog w) A' (pyIter (.ref t)) Q E ⟨hp, g, d, tk, os⟩ :=
      fun q => (begins_tuple t items).iter prog w _ _ ⟨hp, g, d, tk, os⟩ _ h1 q
    wp_walk using q1
    refine wpAny_stack_any fun st => wpAny_pure ?_
    split
    · rename_i c _ _ _ _ _
      cases (c == Value.type "enumerate")
      · wp_walk using q1
        exact ⟨_, rfl, h⟩
      · wp_walk using q1
        exact ⟨_, rfl, h⟩
    · wp_walk using q1
      exact ⟨_, rfl, h⟩
section
variable {prog : Program} {w : World} {A : Around} {E : Value → Shared → Prop} {s : Shared}
theorem call_enum {t : Addr} {items : Array Value} {Q : Value → Shared → Prop} (h1 : s.heap.IsTuple t items)
    (h : ∀ h', IsEnum h' (s.heap.objs.size + 1) s.heap.objs.size 0 .none → h'.IsTupleIter s.heap.objs.size t 0 →
      (∀ b o, s.heap.get? b = some o → h'.get? b = some o) → Q (.ref (s.heap.objs.size + 1)) { s with heap := h' }) :
    wpAny (model prog w) A (call (.type "enumerate") [.ref t]) Q E s := by
  refine callType_new F.called_enumerate (by decide) (F.typeCall_enumerate_1 _) (F.newCall_enumerate_1 _) (fun obj => F.args_object_init_2 obj _) F.entry_enumerate_new (meets_new items) ⟨h1, ?_⟩
  generalize hob : ({ cls := .type "tuple_iterator", data := .fields #[.ref t, .int 0 0] } : Obj) = ob
  have hfree : ob.isFreed = false := by rw [← hob]; rfl
  have hz : (s.heap.push ob).objs.size = s.heap.objs.size + 1 := Heap.size_push ..
  show _ ∧ _
  rw [hz]
  have he : IsEnum ((s.heap.push ob).push { cls := .type "enumerate", data := .fields #[.none, .bool false, .ref s.heap.objs.size, rawInt 0, .none, .none] }) (s.heap.objs.size + 1) s.heap.objs.size 0 .none := by
    have q := Heap.get?_push_size (s.heap.push ob) (o := { cls := .type "enumerate", data := .fields #[.none, .bool false, .ref s.heap.objs.size, rawInt 0, .none, .none] }) rfl
    rw [hz] at q
    exact q
  refine ⟨⟨_, he, rfl⟩, h _ he ⟨ob, Heap.get?_push_of_some _ (Heap.get?_push_size _ hfree), by subst hob; rfl, by subst hob; rfl⟩ fun b o x => Heap.get?_push_of_some _ (Heap.get?_push_of_some _ x)⟩
end
def IteT (K : PySem.W.Frag) (a : Addr) : It :=
  ⟨fun i H => ∃ (xs : List V) (x : V), SqT K H a xs ∧ xs[i]? = some x, fun i H v H' => ∃ T x, v = .ref T ∧ H T = none ∧ H' = upd H T (.tup [.int (i : Nat), x]) ∧ ∀ xs, SqT K H a xs → xs[i]? = some x, fun i H => ∃ xs : List V, SqT K H a xs ∧ xs.length ≤ i⟩
theorem turn_enumT {P : Program} {w : World} {K : PySem.W.Frag} {elts : List Expr} {kk : Nat} {tpos : Pos} (a e it : Addr) :
    Turn P w K (.Tuple elts kk tpos) (IteT K a) [e, it] e (fun i h => (∃ old, IsEnum h e it ((i : Nat) : Int) old) ∧ h.IsTupleIter it a i ∧ e ≠ it ∧ a ≠ it ∧ e ≠ a) where
  mem := by simp
  obj := fun i h st b hb => by
    obtain ⟨⟨old, he⟩, ⟨o, ho, hc, hd⟩, _⟩ := st
    have e' : b = e ∨ b = it := by simpa using hb
    rcases e' with z | z
    · rw [z]; exact ⟨_, he, fun v q => nomatch q⟩
    · rw [z]; exact ⟨o, ho, fun v q => by rw [hd] at q; cases q⟩
  keep := fun i h h' st k => let ⟨⟨old, he⟩, hi, hne⟩ := st; ⟨⟨old, k e (by simp) _ he⟩, hi.at fun o q => k it (by simp) o q, hne⟩
  item := by
    intro X hP hw hK hc i pins s σ H E I hf st hg
    subst hP hw hK
    obtain ⟨⟨old, he⟩, hit, hne, hai, hea⟩ := st
    obtain ⟨xs, x, hq, hx⟩ := hg
    obtain ⟨its, rv, p, hz⟩ := I.tuple hq
    obtain ⟨u, hu, ru⟩ := rv.get hx
    have hel : e < s.heap.objs.size := Heap.lt_size he
    have hil : it < s.heap.objs.size := by obtain ⟨_, q, _⟩ := hit; exact Heap.lt_size q
    have hsz0 : i < its.toArray.size := by
      have := (List.getElem?_eq_some_iff.mp hu).1
      simpa using this
    refine wpAny_pyNext_enum_itemD (Draws.tuple (A := X.A.in1) (I.ok.hd hc) it a hai its.toArray) he ⟨hit, p⟩ hsz0 hne (by simp [hne, hea]) fun y h' tk hy ho hst hT hsz hk => ?_
    obtain rfl : y = u := by
      rw [show its.toArray[i]? = some u by simpa using hu] at hy
      exact (Option.some.inj hy).symm
    refine ⟨_, rfl, wpAny_letOwnedTupleGo_enum (s := { s with heap := h', toks := tk + 1 }) ho fun h'' he' sb => ?_⟩
    have hT2 : h''.get? s.heap.objs.size = some { cls := .type "tuple", data := .seq #[.int i tk, y] } := (sb.2 _ (Nat.ne_of_gt hel)).trans hT
    have new : ObjOk X.prog X.w (upd H s.heap.objs.size (.tup [.int (i : Nat), x])) h'' s.heap.objs.size (.tup [.int (i : Nat), x]) :=
      ⟨by show 2 ≤ sizeLine; decide, [.int i tk, y], .cons ⟨_, rfl⟩ (.cons ru .nil), ⟨_, hT2, rfl, _, rfl⟩⟩
    have I1 : Inv X pins σ (upd H s.heap.objs.size (.tup [.int (i : Nat), x])) { s with heap := h'', toks := tk + 1 } :=
      I.turnedNew (ch := [e, it]) (fun b ob hb q => (sb.2 b (fun z => hb (by simp [z]))).trans (hk b ob (fun z => hb (by simp [z])) (fun z => hb (by simp [z])) q)) hf (Nat.le_refl _) new
    refine ⟨.ref s.heap.objs.size, _, I1, rfl, ⟨_, x, rfl, I.hok.fresh (Nat.le_refl _), rfl, fun ys hy => by rw [I.tuple_inj hy hq]; exact hx⟩, ⟨⟨y, ?_⟩, hst.1.at fun o q => (sb.2 it (Ne.symm hne)).trans q, hne, hai, hea⟩, fun b hb => ?_⟩
    · have e1 : ((i + 1 : Nat) : Int) = (i : Int) + 1 := by omega
      rw [e1]; exact he'
    · have hb' : b < s.heap.objs.size := by
        have e' : b = e ∨ b = it := by simpa using hb
        rcases e' with z | z
        · rw [z]; exact hel
        · rw [z]; exact hil
      rw [upd_ne (Nat.ne_of_lt hb')]
      exact (hf b hb).1
  done := by
    intro X hP hw hK hc i pins s σ H E I hf st hg
    subst hP hw hK
    obtain ⟨⟨old, he⟩, hit, hne, hai, hea⟩ := st
    obtain ⟨xs, hq, hx⟩ := hg
    obtain ⟨its, rv, p, hz⟩ := I.tuple hq
    obtain ⟨f0, f1, f2, f3, f4, f5⟩ := hf it (by simp)
    have hl := rv.length
    have hT : s.TypeIs (.ref e) "enumerate" := ⟨_, he, rfl⟩
    unfold pyNext
    refine wpAny_bind (wpAny_attempt (wpAny_callSpecial?_slot (name := Str.ofString "__next__") hT F.slot_enumerate_next (wpAny_call_entry F.slot_enumerate_next hT F.entry_enumerate_next ?_ (F.args_enumerate_next_1 _))))
    show wpAny _ _ (field (.ref e) 2 >>= _) _ _ _
    refine wpAny_bind (wpAny_field he rfl (x := .ref it) rfl ?_)
    refine wpAny_bind (wpAny_nextOf_tuple_end (I.ok.hd hc) hit p (by simp; omega) fun h' x he' hx' => ?_)
    obtain ⟨o, ho, hc⟩ := hx'
    refine wpAny_bind (wpAny_isInstance (T := "StopIteration") (b := true) ⟨o, ho, hc⟩ isSubtype_stop ?_)
    exact wpAny_pure ⟨rfl, I.turned (t' := s.toks) (fun b o hb q => he' b o hb q) f0 f1 f3 f4 f5⟩
  self := fun A i s Q E st h => let ⟨⟨_, he⟩, _⟩ := st; wpAny_pyIter_enum he h
def iEnumT (K : PySem.W.Frag) (ta : TA) : TI := fun σ H R => ta σ H fun vs H1 => ∃ a xs, vs = [.ref a] ∧ SqT K H1 a xs ∧ R (IteT K a) H1
theorem pi_enumT {X : Cx} {e : Expr} {ta : TA} {p pos tpos : Pos} {elts : List Expr} {kk : Nat} (hg : Gl X "enumerate") (hm : X.mg "enumerate" = none) (ha : PA X [e] ta) (hs : starEach [e] X.env = [(false, eval e X.env)] := by rfl) :
    PI X (.Tuple elts kk tpos) (.Call (.Name "enumerate" p) [e] [] pos) (iEnumT X.K ta) := by
  refine ⟨fun pins s σ H R I h => ?_⟩
  refine Call_ (ld_blt I hg hm boot_enumerate (PyProof.Rows.callWith_type1 (thn (ha.run pos pins s σ H _ I h) fun us s1 ⟨vs, H1, I1, r1, q1⟩ => ?_) hs rfl))
  obtain ⟨a, xs, ex, hq, q⟩ := q1
  subst ex
  cases r1 with
  | cons r rr =>
    cases rr
    cases r
    obtain ⟨its, rv, p', hz⟩ := I1.tuple hq
    have hal : a < s1.heap.objs.size := let ⟨_, h, _⟩ := p'; Heap.lt_size h
    refine call_enum (items := its.toArray) p' fun h' he hit hk => wpAny_pyIter_enum he ?_
    have I2 : Inv X pins σ H1 { s1 with heap := h' } := I1.kept (t' := s1.toks) hk
    refine ⟨s1.heap.objs.size + 1, [s1.heap.objs.size + 1, s1.heap.objs.size], _, _, H1, rfl, I2, turn_enumT a (s1.heap.objs.size + 1) s1.heap.objs.size, ⟨⟨.none, he⟩, hit, Nat.succ_ne_self _, Nat.ne_of_lt hal, Nat.ne_of_gt (Nat.lt_succ_of_lt hal)⟩, fun b hb => ?_, q⟩
    have e' : b = s1.heap.objs.size + 1 ∨ b = s1.heap.objs.size := by simpa using hb
    have hle : s1.heap.objs.size ≤ b := by
      rcases e' with z | z
      · rw [z]; exact Nat.le_add_right _ _
      · rw [z]; exact Nat.le_refl _
    exact I1.fpOk hle (I1.hok.fresh hle)
theorem walk_enumT {K : PySem.W.Frag} {a : Addr} {xs : List V} : Walk (IteT K a) xs.length (fun H => SqT K H a xs) (YPair (fun i => some (.int (i : Nat))) (fun i => xs[i]?)) := by
  refine ⟨fun i _ hi q => ⟨xs, xs[i], q, by simp [hi]⟩, fun _ q => ⟨xs, q, Nat.le_refl _⟩, fun i H v H' _ q y => ?_⟩
  obtain ⟨T, x, h1, h2, h3, h4⟩ := y
  exact ⟨T, .int (i : Nat), x, h1, h2, h3, rfl, h4 xs q⟩
end EnT
end
section
set_option Elab.async false
set_option linter.all false
set_option maxRecDepth 100000
set_option maxHeartbeats 2000000
namespace Ah
open PySem PySem.Spec PyProof.Rows L2
open GxR (TabB TabG Tabbed)
/-! ### the text by places -/
def top (i : Nat) : Stmt := PySem.Challenge.pw_answerhouse_k17_batches.main.body.getD i (.Pass ⟨0, 0, 0, 0⟩)
abbrev sWall : Stmt := top 0
abbrev sPlaces : Stmt := top 3
abbrev sLKind : Stmt := top 4
abbrev sLOn : Stmt := top 5
abbrev sLTie : Stmt := top 6
abbrev sLBy : Stmt := top 7
abbrev sRInit : Stmt := inClass (top 8) 0
abbrev sRLeads : Stmt := inClass (top 8) 1
abbrev sRWork : Stmt := inClass (top 8) 2
abbrev sAll : Stmt := top 9
abbrev sSizeOf : Stmt := top 11
abbrev sSearchInit : Stmt := inClass (top 12) 0
abbrev sSearchRun : Stmt := inClass (top 12) 1
abbrev sSearchRunLevel : Stmt := inClass (top 12) 2
abbrev sSearchFindsOther : Stmt := inClass (top 12) 3
abbrev sSearchHasPart : Stmt := inClass (top 12) 4
abbrev sSearchPut : Stmt := inClass (top 12) 5
abbrev sSearchTake : Stmt := inClass (top 12) 6
abbrev sSearchJoinSecond : Stmt := inClass (top 12) 7
abbrev sSearchJoinFirst : Stmt := inClass (top 12) 8
abbrev sSearchMasks : Stmt := inClass (top 12) 9
abbrev sMasksOf : Stmt := top 13
abbrev sBadrowInit : Stmt := inClass (top 16) 0
abbrev sBadstepsInit : Stmt := inClass (top 19) 0
abbrev sBaddeedInit : Stmt := inClass (top 22) 0
abbrev sHaltedInit : Stmt := inClass (top 23) 0
abbrev sBadtextInit : Stmt := inClass (top 24) 0
abbrev sIsWord : Stmt := top 31
abbrev sIsRow : Stmt := top 32
abbrev sIsNumber : Stmt := top 33
abbrev sCheck : Stmt := top 34
abbrev sCheckNumber : Stmt := top 35
abbrev sToldOf : Stmt := top 36
abbrev sNamesOf : Stmt := top 37
abbrev sFirstBits : Stmt := top 40
abbrev sTrialInit : Stmt := inClass (top 41) 0
abbrev sTrialBits : Stmt := inClass (top 41) 1
abbrev sTrialOtherLotsClash : Stmt := inClass (top 41) 2
abbrev sTrialDisturbing : Stmt := inClass (top 41) 3
abbrev sTrialFirstFit : Stmt := inClass (top 41) 4
abbrev sTrialFirstWay : Stmt := inClass (top 41) 5
abbrev sTrialHelpful : Stmt := inClass (top 41) 6
abbrev sWordOf : Stmt := top 43
abbrev sWordsOf : Stmt := top 44
abbrev sIsDeed : Stmt := top 47
abbrev sCheckDeeds : Stmt := top 48
abbrev sHouseInit : Stmt := inClass (top 49) 0
abbrev sHouseText : Stmt := inClass (top 49) 1
abbrev sHousePut : Stmt := inClass (top 49) 2
abbrev sHouseDrop : Stmt := inClass (top 49) 3
abbrev sHouseTell : Stmt := inClass (top 49) 4
abbrev sHouseAsk : Stmt := inClass (top 49) 5
abbrev sHouseKept : Stmt := inClass (top 49) 6
abbrev sHouseTurned : Stmt := inClass (top 49) 7
abbrev sHouseBatch : Stmt := inClass (top 49) 8
abbrev sHouseBegin : Stmt := inClass (top 49) 9
abbrev sHouseEnd : Stmt := inClass (top 49) 10
abbrev sHouseDo : Stmt := inClass (top 49) 11
abbrev sHouseTold : Stmt := inClass (top 49) 12
abbrev sHouseIsIdle : Stmt := inClass (top 49) 13
abbrev lRow : Stmt := top 51
abbrev lTaken : Stmt := top 52
abbrev lOne : Stmt := top 53
abbrev lText : Stmt := top 54
abbrev lDeed : Stmt := top 55
abbrev lDone : Stmt := top 56
abbrev lWord : Stmt := top 57
abbrev lAlike : Stmt := top 58
abbrev lLaw : Stmt := top 59
abbrev FnP (K : PySem.W.Frag) (x : Str) (st : Stmt) (f : Addr) (fd : FuncData) : Prop := FunD K x x (defArgs st) (defBody st) (defScope st) [] [] f fd
/-- the rule for a def whose code object is known -/
theorem okC {P : Program} {w : World} {K : PySem.W.Frag} {mg : Str → Option Value} {base : Heap} {x qual : Str} {params : Arguments} {body : List Stmt} {scope : Scope} {dvs : List V} {kws : List (Str × V)} {f c : Addr} {fd : FuncData}
    {CX : CXT} {N ps : List Str} {k : Nat} {sp : Sp} (F : FunD K x qual params body scope dvs kws f fd) (hc : fd.code = .ref c) (S : FnScope N ps scope) (len : ∀ vs H Q E, sp vs H Q E → vs.length = ps.length)
    (hbody : ∀ (A : Around) (outer : List Env) (s : Shared) (H : Hp) (vs : List V) (Q : VK) (E : XK), Room k (A.deeper (envOfC qual scope s.heap.objs.size f (.ref c))) → sp vs H Q E →
      ∃ t, PSs (cxOf CX P w K mg base N qual scope f (.ref c) A outer s H E) body t ∧ t { nx := fun _ H' => Q .non H', rt := Q } (start N vs) H) : FnOk P w K mg base CX (k + 1) f fd ps sp := by
  obtain ⟨oc, od, dV, kV, doc, pm, an, cdv, ct, osl, rfl, lk, hcd, _, _⟩ := F.ex
  have e : cdv = .ref c := hc
  subst e
  exact fn_of lk hcd S len fun A outer s H vs Q E hr hsp => hbody A outer s H vs Q E hr hsp
/-! ### words -/
def letters : Str := "abcdefghijklmnopqrstuvwxyz"
def barred : List Str := ["is", "isnt", "has", "hasnt", "to", "all", "are", "no", "each", "who", "some", "turned", "goes", "on", "comes", "from", "leads", "also"]
def isWord (z : Str) : Bool := decide (1 ≤ z.length) && decide (z.length ≤ 6) && !(barred.contains z) && z.cps.toList.all fun c => decide (c ∈ letters.cps.toList)
structure TW (K : PySem.W.Frag) (mg : Str → Option Value) : Prop where
  isi : mg "isinstance" = none
  len : mg "len" = none
  all_ : mg "all" = none
  str : mg "str" = none
  tup : mg "tuple" = none
  enu : mg "enumerate" = none
  lw : ∃ t, mg "LONGEST_WORD" = some (.int 6 t)
  let_ : ∃ t, mg "LETTERS" = some (.str letters t)
  bar : ∃ a, mg "BARRED" = some (.ref a) ∧ ∀ H, SqT K H a (barred.map V.str)
/-- the tables may have grown, all else that was held is held -/
structure Kp (T : List Addr) (H H' : Hp) : Prop where
  tab : ∀ P ∈ T, TabG H' P
  keep : ∀ b o, H b = some o → b ∉ T → H' b = some o
end Ah
end
section
set_option Elab.async false
set_option linter.all false
set_option maxRecDepth 100000
set_option maxHeartbeats 2000000
namespace Ah
open PySem PySem.Spec PyProof.Rows L2
open GxR (TabB TabG Tabbed)
open GxG
/-- what may be looked at as a word -/
def PlainV (H : Hp) (v : V) : Prop := (∃ z, v = .str z ∧ z.length ≤ sizeLine) ∨ v = .non ∨ (∃ i, v = .int i) ∨ ∃ a xs, v = .ref a ∧ (H a = some (.tup xs) ∨ H a = some (.lst xs))
theorem PlainV.kp {T : List Addr} {H H' : Hp} {v : V} (ht : ∀ P ∈ T, TabG H P) (k : Kp T H H') (h : PlainV H v) : PlainV H' v := by
  have out : ∀ {a : Addr} {o : HO}, H a = some o → (∀ ps, o ≠ .tbl ps) → H' a = some o := fun {a o} e n => k.keep a o e fun hm => by
    obtain ⟨ps, e2, _⟩ := ht a hm
    rw [e] at e2
    exact n ps (Option.some.inj e2)
  rcases h with h | h | h | ⟨a, xs, rfl, e | e⟩
  · exact .inl h
  · exact .inr (.inl h)
  · exact .inr (.inr (.inl h))
  · exact .inr (.inr (.inr ⟨a, xs, rfl, .inl (out e fun ps q => by cases q)⟩))
  · exact .inr (.inr (.inr ⟨a, xs, rfl, .inr (out e fun ps q => by cases q)⟩))
def isWordV : V → Bool
  | .str z => isWord z
  | _ => false
def spWord (T : List Addr) : Sp := fun vs H Q _ => ∃ v : V, vs = [v] ∧ PlainV H v ∧ (∀ P ∈ T, TabG H P) ∧ ∀ H', Kp T H H' → Q (.bl (isWordV v)) H'
theorem scW : FnScope ["word"] ["word"] (defScope sIsWord) := ⟨rfl, rfl, rfl, by decide +kernel, rfl, by decide +kernel, by decide +kernel⟩
theorem inV_strs (z : Str) (l : List Str) : inV (V.str z) (l.map V.str) = l.contains z := by
  unfold inV
  induction l with
  | nil => rfl
  | cons a r ih =>
    rw [List.map_cons, List.any_cons, List.contains_cons, ih]
    congr 1
    show (a == z) = (z == a)
    exact Bool.beq_comm
section
variable {P : Program} {w : World} {K : PySem.W.Frag} {mg : Str → Option Value} {base : Heap} {f c P1 : Addr} {fd : FuncData} {T : List Addr}
theorem ok_word (F : FnP K "is_word" sIsWord f fd) (hc : fd.code = .ref c) (TB : TabB base mg c P1) (hT : P1 ∈ T) (W : TW K mg) : FnOk P w K mg base CX0 3 f fd ["word"] (spWord T) := by
  refine okC F hc scW (fun vs H Q E h => ?_) (fun A outer s H vs Q E hr h => ?_)
  · obtain ⟨v, rfl, _⟩ := h
    rfl
  · obtain ⟨v, rfl, hv, ht, k⟩ := h
    obtain ⟨lwt, lw⟩ := W.lw
    obtain ⟨ltt, lt⟩ := W.let_
    obtain ⟨ba, bg, bs⟩ := W.bar
    refine ⟨_, pss_cons (ps_if (PW.pt (pw_or (pt_not (pt_val (pe_callB call_isi (by rfl) W.isi (by decide +kernel) (pa_cons (pv 0) (pa_cons (pe_bltn (v := .ty "str") (by rfl) W.str (by decide +kernel) rfl) pa_nil)))))
        (pw_or (pt_not (pt_chain op_le op_le pe_int (pe_callB call_len_str (by rfl) W.len (by decide +kernel) (pa_cons (pv 0) pa_nil)) (pe_glob (v := .int 6) (by rfl) lw ⟨_, rfl⟩)))
        (pw_or1 (pt_cmpR op_in_seq (pv 0) (pe_glob (v := .ref ba) (by rfl) bg rfl) (by rfl))))))
        (pss_one (ps_ret pe_bl)) pss_nil)
      (pss_one (ps_ret (pe_allG (k := 1) (x := "letter") (P := P1) hr (by rfl) W.all_ TB rfl ⟨rfl, rfl, by decide +kernel, by decide +kernel, by decide +kernel, by rfl⟩ (pi_str (pv 0))
        (fun A sB H code fp pn => pg_name (i := 0) (nd1 _) rfl (Or.inl rfl))
        (fun A sB H code fp pn hr' => pe_cmpR op_in_sign (pv 0) (pe_glob (v := .str letters) (by rfl) lt ⟨_, rfl⟩) (by rfl))))), ?_⟩
    rcases hv with ⟨z, rfl, hz⟩ | hn
    · have fin : ∀ b, isWordV (V.str z) = b → Q (.bl b) H := fun b e => by
        rw [← e]
        exact k H ⟨ht, fun _ _ e _ => e⟩
      refine ⟨_, rfl, _, _, _, _, true, rfl, ClsV.ty _, TyX.base (.str z), kit_ty (by decide +kernel), true, rfl, ?_⟩
      refine iteF ?_
      refine ⟨_, rfl, z, rfl, hz, 1, _, rfl, rfl, _, rfl, ?_⟩
      by_cases h1 : (1 : Int) ≤ z.length
      · rw [decide_eq_true h1]
        refine iteT ⟨_, _, rfl, rfl, _, rfl, ?_⟩
        by_cases h6 : (z.length : Int) ≤ 6
        · rw [decide_eq_true h6]
          refine iteF ⟨_, rfl, ba, _, rfl, .inr (bs H), rfl, by decide +kernel, _, rfl, ?_⟩
          show (fun b H1 => _) (inV (V.str z) (List.map V.str barred)) H
          rw [inV_strs]
          cases hb : barred.contains z with
          | true => exact iteT (fin false (by show isWord z = false; unfold isWord; rw [hb]; simp))
          | false =>
            refine iteF ⟨_, rfl, z, rfl, ht P1 hT, fun H2 tb => ?_⟩
            have kp : Kp T H H2 := ⟨fun p hp => by
              by_cases e : p = P1
              · rw [e]; exact tb.1
              · obtain ⟨ps, h2, h3⟩ := ht p hp
                exact ⟨ps, (tb.2 p e).trans h2, h3⟩, fun b o e hb => (tb.2 b fun z => hb (by rw [z]; exact hT)).trans e⟩
            have fin2 : ∀ b, z.cps.toList.all (fun c => decide (c ∈ letters.cps.toList)) = b → Q (.bl b) H2 := fun b e => by
              have q := k H2 kp
              have e2 : isWordV (V.str z) = b := by
                show isWord z = b
                unfold isWord
                rw [hb, e, decide_eq_true (show 1 ≤ z.length by omega), decide_eq_true (show z.length ≤ 6 by omega)] <;> simp
              rw [e2] at q
              exact q
            refine ga_it (walk_str (z := z)) (fun i H' => H' = H2 ∧ (z.cps.toList.take i).all (fun c => decide (c ∈ letters.cps.toList)) = true) ⟨rfl, rfl⟩ (fun _ _ _ _ => trivial) (fun i y Ha Hb hi p yy => ?_) (fun H' p => ?_)
            · obtain ⟨rfl, p⟩ := p
              obtain ⟨rfl, cc, e, rfl⟩ := yy
              have e' : z.cps.toList[i]? = some cc := by rw [Array.getElem?_toList]; exact e
              obtain ⟨a1, a2⟩ := all_take p e'
              refine ⟨_, rfl, cc, letters, rfl, rfl, _, rfl, ?_⟩
              cases hd : decide (cc ∈ letters.cps.toList) with
              | true => exact iteT ⟨rfl, a1 hd⟩
              | false => exact iteF (fin2 false (a2 hd))
            · obtain ⟨rfl, p⟩ := p
              rw [List.take_of_length_le (by simp)] at p
              exact fin2 true p
        · rw [decide_eq_false h6]
          exact iteT (fin false (by simp [isWordV, isWord]; omega))
      · rw [decide_eq_false h1]
        refine iteF ⟨_, rfl, ?_⟩
        exact iteT (fin false (by simp [isWordV, isWord]; omega))
    · rcases hn with rfl | ⟨i, rfl⟩ | ⟨a, xs, rfl, e | e⟩
      · exact ⟨_, rfl, _, _, _, _, false, rfl, ClsV.ty _, TyX.base .non, kit_ty (by decide +kernel), false, rfl, iteT (iteT (k H ⟨ht, fun _ _ e _ => e⟩))⟩
      · exact ⟨_, rfl, _, _, _, _, false, rfl, ClsV.ty _, TyX.base (.int i), kit_ty (by decide +kernel), false, rfl, iteT (iteT (k H ⟨ht, fun _ _ e _ => e⟩))⟩
      · exact ⟨_, rfl, _, _, _, _, false, rfl, ClsV.ty _, TyX.base (.tup e), kit_ty (by decide +kernel), false, rfl, iteT (iteT (k H ⟨ht, fun _ _ e _ => e⟩))⟩
      · exact ⟨_, rfl, _, _, _, _, false, rfl, ClsV.ty _, TyX.base (.lst e), kit_ty (by decide +kernel), false, rfl, iteT (iteT (k H ⟨ht, fun _ _ e _ => e⟩))⟩
end
end Ah
end
section
set_option Elab.async false
set_option linter.all false
set_option maxRecDepth 100000
set_option maxHeartbeats 2000000
namespace Ah
open PySem PySem.Spec PyProof.Rows L2
open GxR (TabB TabG Tabbed)
open GxG
/-! ### rows -/
def formsL : List (Str × List Str) := [("is", ["name", "kind"]), ("isnt", ["name", "kind"]), ("has", ["name", "tie", "name"]), ("hasnt", ["name", "tie", "name"]), ("all", ["kind", "kind"]), ("no", ["kind", "kind"]),
  ("each", ["kind", "tie", "name"]), ("who", ["tie", "kind", "kind"]), ("turned", ["tie", "tie"]), ("on", ["tie"]), ("from", ["tie", "kind"]), ("to", ["tie", "kind"]), ("under", ["tie", "tie"])]
/-- the module's dict FORMS -/
structure TF (K : PySem.W.Frag) (w : World) (mg : Str → Option Value) (d : Addr) : Prop where
  at_ : mg "FORMS" = some (.ref d)
  kd : ∃ es n, KDict K w d es n
  val : ∀ z ps, formsL.lookup z = some ps → ∃ a, PySem.W.nsIn K d z = some (some (.ref a)) ∧ ∀ H, SqT K H a (ps.map V.str)
  out : ∀ z, formsL.lookup z = none → PySem.W.nsIn K d z = some none
def isRowL : List V → Bool
  | .str h :: rest => (match formsL.lookup h with
    | some ps => decide (rest.length = ps.length) && rest.all isWordV
    | none => false)
  | _ => false
/-- what may be looked at as a row, and the answer -/
theorem tyTup {K : PySem.W.Frag} {H : Hp} {a : Addr} {xs : List V} (h : SqT K H a xs) : TyX K H (.ref a) (.type "tuple") := by
  rcases h with (e | ⟨o, e⟩) | ⟨o, its, n, h1, h2, _⟩
  · exact .base (.tup e)
  · exact .fTuple e
  · exact .kTuple h1 h2
def RowV (K : PySem.W.Frag) (H : Hp) (v : V) (b : Bool) : Prop := (((∃ z, v = .str z) ∨ v = .non ∨ (∃ i, v = .int i) ∨ ∃ a xs, v = .ref a ∧ H a = some (.lst xs)) ∧ b = false) ∨ ∃ a xs, v = .ref a ∧ SqT K H a xs ∧ xs.length ≤ 1000 ∧ (∀ x ∈ xs, PlainV H x) ∧ b = isRowL xs
def spRow (K : PySem.W.Frag) (T : List Addr) : Sp := fun vs H Q _ => ∃ (v : V) (b : Bool), vs = [v] ∧ RowV K H v b ∧ (∀ P ∈ T, TabG H P) ∧ ∀ H', Kp T H H' → Q (.bl b) H'
theorem scR : FnScope ["row"] ["row"] (defScope sIsRow) := ⟨rfl, rfl, rfl, by decide +kernel, rfl, by decide +kernel, by decide +kernel⟩
theorem cut_tail (h : V) (rest : List V) : cutV (h :: rest) (some 1) none = rest := by
  have h1 : HT.sIx (h :: rest).length 0 (some 1) = 1 := by
    rw [show (1 : Int) = ((1 : Nat) : Int) from rfl, HT.sIx_nat, List.length_cons]
    omega
  unfold cutV
  rw [h1, HT.sIx_none]
  simp
theorem Kp.trans {T : List Addr} {H H1 H2 : Hp} (a : Kp T H H1) (b : Kp T H1 H2) : Kp T H H2 := ⟨b.tab, fun p o e n => b.keep p o (a.keep p o e n) n⟩
/-- what is no table is held -/
theorem Kp.obj {T : List Addr} {H H' : Hp} {a : Addr} {o : HO} (k : Kp T H H') (ht : ∀ P ∈ T, TabG H P) (e : H a = some o) (n : ∀ ps, o ≠ .tbl ps := by intro ps q; cases q) : H' a = some o := k.keep a o e fun hm => by
  obtain ⟨ps, e2, _⟩ := ht a hm
  rw [e] at e2
  exact n ps (Option.some.inj e2)
section
variable {P : Program} {w : World} {K : PySem.W.Frag} {mg : Str → Option Value} {base : Heap} {f c P1 fW d : Addr} {fd fdW : FuncData} {T : List Addr}
theorem ok_row (F : FnP K "is_row" sIsRow f fd) (hc : fd.code = .ref c) (TB : TabB base mg c P1) (hT : P1 ∈ T) (W : TW K mg) (D : TF K w mg d) (gW : mg "is_word" = some (.ref fW)) (FW : FnOk P w K mg base CX0 3 fW fdW ["word"] (spWord T))
    (kW : PySem.W.keepIn K (.ref fW) = true) (bW : Binds K fdW ["word"] []) : FnOk P w K mg base CX0 5 f fd ["row"] (spRow K T) := by
  refine okC F hc scR (fun vs H Q E h => ?_) (fun A outer s H vs Q E hr h => ?_)
  · obtain ⟨v, b, rfl, _⟩ := h
    rfl
  · obtain ⟨v, b, rfl, hv, ht, k⟩ := h
    obtain ⟨es, nn, kd⟩ := D.kd
    refine ⟨_, pss_cons (ps_if (PW.pt (pw_or (pt_not (pt_val (pe_callB call_isi (by rfl) W.isi (by decide +kernel) (pa_cons (pv 0) (pa_cons (pe_bltn (v := .ty "tuple") (by rfl) W.tup (by decide +kernel) rfl) pa_nil)))))
        (pw_or (pt_not (pt_truth (pv 0) (by intro _; rfl)))
        (pw_or (pt_not (pt_val (pe_callB call_isi (by rfl) W.isi (by decide +kernel) (pa_cons (pe_ix ix_tup (pv 0) pe_int (fun _ _ => rfl)) (pa_cons (pe_bltn (v := .ty "str") (by rfl) W.str (by decide +kernel) rfl) pa_nil)))))
        (pw_or1 (pt_cmpR (op_notIn_kd kd) (pe_ix ix_tup (pv 0) pe_int (fun _ _ => rfl)) (pe_glob (v := .ref d) (by rfl) D.at_ rfl) (by rfl)))))))
        (pss_one (ps_ret pe_bl)) pss_nil)
      (pss_one (ps_ret (pe_and (pe_cmpR op_eq (pe_callB call_len_seq (by rfl) W.len (by decide +kernel) (pa_cons (pv 0) pa_nil)) (pe_op op_add pe_int (pe_callB call_len_seq (by rfl) W.len (by decide +kernel) (pa_cons
          (pe_ix ix_kdict (pe_glob (v := .ref d) (by rfl) D.at_ rfl) (pe_ix ix_tup (pv 0) pe_int (fun _ _ => rfl)) (fun _ _ => rfl)) pa_nil))) (nomark _))
        (pe_one (pe_allG (k := 3) (x := "word") (P := P1) hr (by rfl) W.all_ TB rfl ⟨rfl, rfl, by decide +kernel, by decide +kernel, by decide +kernel, by rfl⟩ (pi_tup (pe_slice sl_tup (pv 0) (po_some pe_int) po_none))
          (fun A sB H code fp pn => pg_name (i := 0) (nd1 _) rfl (Or.inl rfl))
          (fun A sB H code fp pn hr' => pe_call FW hr' (by rfl) gW kW bW .nil pass0 (pa_cons (pv 0) pa_nil))))))), ?_⟩
    have kp0 : Kp T H H := ⟨ht, fun _ _ e _ => e⟩
    rcases hv with ⟨hn, rfl⟩ | ⟨a, xs, rfl, hx, hl, hp, rfl⟩
    · rcases hn with ⟨z, rfl⟩ | rfl | ⟨i, rfl⟩ | ⟨a, xs, rfl, e⟩
      · exact ⟨_, rfl, _, _, _, _, false, rfl, ClsV.ty _, TyX.base (.str z), kit_ty (by decide +kernel), false, rfl, iteT (iteT (k H kp0))⟩
      · exact ⟨_, rfl, _, _, _, _, false, rfl, ClsV.ty _, TyX.base .non, kit_ty (by decide +kernel), false, rfl, iteT (iteT (k H kp0))⟩
      · exact ⟨_, rfl, _, _, _, _, false, rfl, ClsV.ty _, TyX.base (.int i), kit_ty (by decide +kernel), false, rfl, iteT (iteT (k H kp0))⟩
      · exact ⟨_, rfl, _, _, _, _, false, rfl, ClsV.ty _, TyX.base (.lst e), kit_ty (by decide +kernel), false, rfl, iteT (iteT (k H kp0))⟩
    · have sx : SqT K H a xs := hx
      refine ⟨_, rfl, _, _, _, _, true, rfl, ClsV.ty _, tyTup hx, kit_ty (by decide +kernel), true, rfl, ?_⟩
      refine iteF ⟨_, rfl, !xs.isEmpty, .inr (.inl ⟨xs, sx, rfl⟩), ?_⟩
      cases xs with
      | nil => exact iteT (iteT (k H kp0))
      | cons h rest =>
        have ph := hp h List.mem_cons_self
        refine iteF ⟨_, rfl, a, _, 0, h, rfl, rfl, sx, at_of (j := 0) rfl rfl, ?_⟩
        rcases ph with ⟨z, rfl, hz⟩ | rfl | ⟨i, rfl⟩ | ⟨a', ys, rfl, e | e⟩
        · refine ⟨_, _, _, _, true, rfl, ClsV.ty _, TyX.base (.str z), kit_ty (by decide +kernel), true, rfl, ?_⟩
          refine iteF ⟨_, rfl, a, _, 0, .str z, rfl, rfl, sx, at_of (j := 0) rfl rfl, ?_⟩
          cases hf : formsL.lookup z with
          | none =>
            refine ⟨z, _, rfl, rfl, D.out z hf, _, rfl, ?_⟩
            refine iteT ?_
            have e : isRowL (.str z :: rest) = false := by
              show (match formsL.lookup z with
                | some ps => decide (rest.length = ps.length) && rest.all isWordV
                | none => false) = false
              rw [hf]
            have q := k H kp0
            rw [e] at q
            exact q
          | some ps =>
            obtain ⟨ap, e1, e2⟩ := D.val z ps hf
            have er : isRowL (.str z :: rest) = (decide (rest.length = ps.length) && rest.all isWordV) := by
              show (match formsL.lookup z with
                | some ps => decide (rest.length = ps.length) && rest.all isWordV
                | none => false) = _
              rw [hf]
            rw [er] at k
            refine ⟨z, _, rfl, rfl, e1, _, rfl, ?_⟩
            refine iteF ?_
            refine ⟨_, rfl, a, _, rfl, .inr sx, ?_⟩
            refine ⟨_, rfl, a, _, 0, .str z, rfl, rfl, sx, at_of (j := 0) rfl rfl, d, z, .ref ap, rfl, rfl, ⟨es, nn, _, kd.at_, kd.lit, e1, rfl⟩, ap, _, rfl, .inr (e2 H), _, _, rfl, rfl, rfl, _, rfl, ?_⟩
            have ed : decide (V.int (((V.str z :: rest).length : Nat) : Int) = V.int (1 + ((ps.map V.str).length : Int))) = decide (rest.length = ps.length) := by
              rw [List.length_cons, List.length_map]
              by_cases e : rest.length = ps.length
              · rw [decide_eq_true e, e]
                exact decide_eq_true (by congr 1; omega)
              · rw [decide_eq_false e]
                refine decide_eq_false fun q => e ?_
                have := V.int.inj q
                omega
            rw [ed]
            cases hl2 : decide (rest.length = ps.length) with
            | false =>
              refine iteF ?_
              have q := k H kp0
              rw [hl2] at q
              exact q
            | true =>
              rw [hl2, Bool.true_and] at k
              refine iteT ⟨_, rfl, 1, rfl, a, _, rfl, sx, fun q => ?_, fun p np => ⟨p, rfl, ⟨rest, .inl (.of ?_)⟩, ?_, fun H2 tb => ?_⟩⟩
              · have h1 : HT.sIx (V.str z :: rest).length 0 (some 1) = 1 := by
                  rw [show (1 : Int) = ((1 : Nat) : Int) from rfl, HT.sIx_nat, List.length_cons]
                  omega
                have h2 := q.1
                rw [h1] at h2
                cases h2
              · rw [cut_tail]; exact upd_same
              · obtain ⟨qs, h2, h3⟩ := ht P1 hT
                exact ⟨qs, by rw [upd_ne (ne_of_none h2 np)]; exact h2, h3⟩
              · rw [cut_tail] at tb
                have hpP : p ≠ P1 := fun e => by
                  obtain ⟨qs, h2, h3⟩ := ht P1 hT
                  rw [e, h2] at np
                  cases np
                have kp2 : Kp T H H2 := ⟨fun q hq => by
                  by_cases e : q = P1
                  · rw [e]; exact tb.1
                  · obtain ⟨qs, h2, h3⟩ := ht q hq
                    exact ⟨qs, by rw [tb.2 q e, upd_ne (ne_of_none h2 np)]; exact h2, h3⟩, fun b o e hb => by
                    rw [tb.2 b fun z => hb (by rw [z]; exact hT), upd_ne (ne_of_none e np)]
                    exact e⟩
                have hp2 : H2 p = some (.tup rest) := by rw [tb.2 p hpP, upd_same]
                refine ga_it (walk_tup (K := K) (a := p) (xs := rest)) (fun i H' => Kp T H2 H' ∧ (rest.take i).all isWordV = true) ⟨⟨kp2.tab, fun _ _ e _ => e⟩, rfl⟩ (fun i H' _ pv => ?_) (fun i y Ha Hb hi pv yy => ?_) (fun H' pv => ?_)
                · exact .inl (.of (pv.1.obj kp2.tab hp2))
                · obtain ⟨k1, p1⟩ := pv
                  obtain ⟨rfl, ey⟩ := yy
                  obtain ⟨a1, a2⟩ := all_take p1 ey
                  have py : PlainV Hb y := (hp y (List.mem_cons_of_mem _ (List.mem_of_getElem? ey))).kp ht (kp2.trans k1)
                  refine ⟨y, rfl, y, rfl, py, k1.tab, fun H3 k3 => ⟨_, rfl, ?_⟩⟩
                  cases hw : isWordV y with
                  | true => exact iteT ⟨k1.trans k3, a1 hw⟩
                  | false =>
                    have q := k H3 (kp2.trans (k1.trans k3))
                    rw [a2 hw] at q
                    exact iteF q
                · obtain ⟨k1, p1⟩ := pv
                  rw [List.take_of_length_le (Nat.le_refl _)] at p1
                  have q := k H' (kp2.trans k1)
                  rw [p1] at q
                  exact q
        · exact ⟨_, _, _, _, false, rfl, ClsV.ty _, TyX.base .non, kit_ty (by decide +kernel), false, rfl, iteT (iteT (k H kp0))⟩
        · exact ⟨_, _, _, _, false, rfl, ClsV.ty _, TyX.base (.int i), kit_ty (by decide +kernel), false, rfl, iteT (iteT (k H kp0))⟩
        · exact ⟨_, _, _, _, false, rfl, ClsV.ty _, TyX.base (.tup e), kit_ty (by decide +kernel), false, rfl, iteT (iteT (k H kp0))⟩
        · exact ⟨_, _, _, _, false, rfl, ClsV.ty _, TyX.base (.lst e), kit_ty (by decide +kernel), false, rfl, iteT (iteT (k H kp0))⟩
end
end Ah
end
section
set_option Elab.async false
set_option linter.all false
set_option maxRecDepth 100000
set_option maxHeartbeats 2000000
namespace Ah
open PySem PySem.Spec PyProof.Rows L2
/-! ### what the head tells of a def that closes over its class -/
abbrev FnY : Type := Option (Str × Str × Arguments × FuncBody × Scope × Addr × List Str × Addr)
def fnY (K : PySem.W.Frag) (a : Addr) : FnY := match K.lookup a with
  | some ⟨_, _, .func fd, _⟩ => some (fd.name, fd.qualname, fd.params, fd.body, fd.scope, fd.globals, fd.closure.map (·.1), fd.builtins)
  | _ => none
def valY (qual : Str) (st : Stmt) : FnY := some ("__init__", qual, defArgs st, .stmts (defBody st), defScope st, mainGlobals, [("__class__" : Str)], builtinsNs)
def supB (K : PySem.W.Frag) (file : Str) (qual : Str) (fI C : Addr) : Bool := (match K.lookup fI with
    | some ⟨_, _, .func fd, _⟩ => (decide (fd.defaults = .none) && PySem.W.codeIn K fd.code qual) && ((match fd.code with
        | .ref cda => (match K.lookup cda with
          | some ⟨_, _, .fields vs, _⟩ => (match (vs : Array Value)[2]? with
            | some (Value.str f _) => file == f
            | _ => false)
          | _ => false)
        | _ => false) && (match fd.closure with
        | [(_, cc)] => (match K.lookup cc with
          | some ⟨_, _, .cell (some (.ref c)), _⟩ => decide (c = C)
          | _ => false)
        | _ => false))
    | _ => false) &&
  (decide (PySem.W.nsIn K cStatics "thirdparty.any" = some none) && (decide (PySem.W.ks_superIn K C C "__init__" = some (some (.builtin "ValueError.__init__"))) &&
    (decide (PySem.W.subIn K (.ref C) (.type "ValueError") = some true) && decide (PySem.W.mroIn K C (.ref C) = some true))))
theorem band {a b : Bool} (h : (a && b) = true) : a = true ∧ b = true := Bool.and_eq_true_iff.mp h
/-- the module's dict DEEDS, as a list -/
def deedsL : List (Str × Nat) := [("put", 3), ("drop", 2), ("tell", 3)]
end Ah
end
section
set_option Elab.async false
set_option linter.all false
set_option maxRecDepth 100000
set_option maxHeartbeats 2000000
namespace Ah
open PySem PySem.Spec PyProof.Rows L2
/-! ### the hook that also tells of defs that close over their class; what is read holds the statics' namespace too -/
def frY (g : Addr → Option Obj) (n : Nat) : PySem.W.Frag := He.frT g (cStatics :: He.asD g n)
abbrev AlY : Type := He.AlX × List FnY
def obsY (n : Nat) (fa : List He.Fa) (fn : List He.DefD) (ts : List He.Tab) (tf : List He.Defn) (ex : PySem.W.Frag → Bool) (sup : PySem.W.Frag → List FnY) (g : Addr → Option Obj) : AlY :=
  ((He.obsT fa fn ts (frY g n), ex (frY g n) && He.tabsB g tf (frY g n)), sup (frY g n))
theorem saysY_of {n : Nat} {fa : List He.Fa} {fn : List He.DefD} {ts : List He.Tab} {tf : List He.Defn} {ex : PySem.W.Frag → Bool} {w : World} {h : Heap} (e1 : He.obsT fa fn ts (frY h.get? n) = He.valT fn ts w) (e2 : (ex (frY h.get? n) && He.tabsB h.get? tf (frY h.get? n)) = true) : He.SaysX fa fn ts tf ex w h (frY h.get? n) := by
  obtain ⟨x1, x2⟩ := band e2
  have all : ∀ q ∈ tf, PySem.W.codeHdIn (frY h.get? n) (He.cT (frY h.get? n) q).1 (He.cT (frY h.get? n) q).2 = true ∧ ∃ u, h.get? (He.cT (frY h.get? n) q).2 = some u ∧ He.emptyTab u = true := by
    intro q hq
    have y := band (List.all_eq_true.mp x2 q hq)
    refine ⟨y.1, ?_⟩
    have y2 := y.2
    cases r : h.get? (He.cT (frY h.get? n) q).2 with
    | none => rw [r] at y2; cases y2
    | some u => rw [r] at y2; exact ⟨u, rfl, y2⟩
  refine ⟨e1, x1, fun q hq => (all q hq).1, fun q hq => ?_, fun q hq => ?_⟩
  · obtain ⟨u, r, z⟩ := (all q hq).2
    exact He.frT_none r z
  · obtain ⟨u, r, z⟩ := (all q hq).2
    rw [r, He.emptyTab_eq z]
def hookY (n : Nat) (fa : List He.Fa) (fn : List He.DefD) (ts : List He.Tab) (tf : List He.Defn) (ex : PySem.W.Frag → Bool) (sup : PySem.W.Frag → List FnY) (val : List FnY) : PySem.W.Hook where
  α := AlY
  obs := fun s => obsY n fa fn ts tf ex sup s.heap.get?
  val := fun w => (He.valX fn ts w, val)
  says := fun w h => ∃ K : PySem.W.Frag, K.In h ∧ He.SaysX fa fn ts tf ex w h K ∧ sup K = val
  of := fun _ _ e => ⟨_, He.frT_in, saysY_of (congrArg (fun z : AlY => z.1.1) e) (congrArg (fun z : AlY => z.1.2) e), congrArg (fun z : AlY => z.2) e⟩
  keeps := fun _ _ _ ⟨K, hK, c, v⟩ k => ⟨K, PySem.W.Frag.In.keeps hK k, ⟨c.t, c.more, c.hd, c.out, fun p hp => k _ _ (c.empty p hp)⟩, v⟩
theorem obsY_eq {n : Nat} {fa : List He.Fa} {fn : List He.DefD} {ts : List He.Tab} {tf : List He.Defn} {ex : PySem.W.Frag → Bool} {sup : PySem.W.Frag → List FnY} {val : List FnY} {g : Addr → Option Obj} {s : Shared} (h : ∀ a, g a = s.heap.get? a) : obsY n fa fn ts tf ex sup g = (hookY n fa fn ts tf ex sup val).obs s := by
  have e : g = s.heap.get? := funext h
  rw [e] <;> rfl
end Ah
end
section
set_option Elab.async false
set_option linter.all false
set_option maxRecDepth 100000
set_option maxHeartbeats 2000000
namespace Ah
open PySem PySem.Spec PyProof.Rows L2
/-! ### the classes' facts by a Bool -/
def oexB (K : PySem.W.Frag) (C : Addr) : Bool := (match K.lookup C with
  | some ⟨.type c, _, .cls cd, sl⟩ => decide (c = "type") && ((match cd.mro with
      | .ref C' :: bm => decide (C' = C) && PySem.HandSPX.refsVE bm
      | _ => false) && (cd.hasDict && (!cd.hasDel && (match sl.toList with
      | [_, _, _, _, some (.builtin n), _] => decide (n = "ValueError.__new__")
      | _ => false))))
  | _ => false) && (decide (PySem.W.findIn K (.ref C) "__setattr__" = some (some (.builtin "object.__setattr__"))) && (decide (PySem.W.subIn K (.ref C) (.type "BaseException") = some true) && (decide (PySem.W.typeIn K (.ref C) = some (.type "type")) && PySem.W.keepIn K (.ref C))))
theorem oexB_ok {K : PySem.W.Frag} {C : Addr} (h : oexB K C = true) : OexC K C := by
  obtain ⟨h1, h2⟩ := band h
  obtain ⟨h2, h3⟩ := band h2
  obtain ⟨h3, h4⟩ := band h3
  obtain ⟨h4, h5⟩ := band h4
  refine ⟨?_, of_decide_eq_true h2, of_decide_eq_true h3, of_decide_eq_true h4, h5⟩
  cases q : K.lookup C with
  | none => rw [q] at h1; cases h1
  | some o =>
    obtain ⟨oc, od, dt, sl⟩ := o
    rw [q] at h1
    cases oc with
    | type c =>
      cases dt with
      | cls cd =>
        have h1 : (decide (c = "type") && ((match cd.mro with
          | .ref C' :: bm => decide (C' = C) && PySem.HandSPX.refsVE bm
          | _ => false) && (cd.hasDict && (!cd.hasDel && (match sl.toList with
          | [_, _, _, _, some (.builtin n), _] => decide (n = "ValueError.__new__")
          | _ => false))))) = true := h1
        obtain ⟨a1, r1⟩ := band h1
        obtain ⟨a2, r2⟩ := band r1
        obtain ⟨a3, r3⟩ := band r2
        obtain ⟨a4, a5⟩ := band r3
        clear r1 r2 r3
        have a1 : c = "type" := of_decide_eq_true a1
        subst a1
        obtain ⟨nm, bs, mro, N, qn, hd, sn, sb, ab, col, del⟩ := cd
        dsimp only at a2 a3 a4
        have a4 : del = false := by simpa using a4
        subst a3 a4
        match mro, a2 with
        | .ref C' :: bm, a2 =>
          obtain ⟨b1, b2⟩ := band a2
          have b1 : C' = C := of_decide_eq_true b1
          subst b1
          obtain ⟨sl⟩ := sl
          match sl, a5 with
          | [k0, k1, k2, k3, some (.builtin n), k5], a5 =>
            have a5 : n = "ValueError.__new__" := of_decide_eq_true a5
            subst a5
            exact ⟨nm, qn, N, bs, bm, sn, sb, ab, col, od, k0, k1, k2, k3, k5, rfl, b2⟩
      | _ => cases h1
    | _ => cases dt <;> cases h1
def xcB (K : PySem.W.Frag) (D : Addr) : Bool := decide (PySem.W.findIn K (.ref D) "__getattribute__" = some (some (.builtin "BaseException.__getattribute__"))) && (decide (PySem.W.findIn K (.ref D) "__getattr__" = some none) && (decide (PySem.W.subIn K (.ref D) (.type "BaseException") = some true) && (PySem.W.hasDictIn K D &&
  (decide (PySem.W.findIn K (.ref D) "__class__" = some (some (.builtin "object.__class__"))) && (decide (PySem.W.specialIn K (.builtin "object.__class__") "__get__" = some (some (.builtin "getset_descriptor.__get__"))) && (decide (PySem.W.takesIn K (.builtin "object.__class__") = some true) && decide (PySem.W.mroIn K D (.type "object") = some true)))))))
theorem xcB_ok {K : PySem.W.Frag} {D : Addr} (h : xcB K D = true) : ExcC K D := by
  obtain ⟨h1, h⟩ := band h
  obtain ⟨h2, h⟩ := band h
  obtain ⟨h3, h⟩ := band h
  obtain ⟨h4, h⟩ := band h
  obtain ⟨h5, h⟩ := band h
  obtain ⟨h6, h⟩ := band h
  obtain ⟨h7, h8⟩ := band h
  exact ⟨of_decide_eq_true h1, of_decide_eq_true h2, of_decide_eq_true h3, h4, of_decide_eq_true h5, of_decide_eq_true h6, of_decide_eq_true h7, of_decide_eq_true h8⟩
/-- the nine classes -/
def nine : List Str := ["BadRow", "BadSaying", "BadCount", "BadSteps", "NoRow", "NoFollow", "BadDeed", "Halted", "BadText"]
def cW (K : PySem.W.Frag) (i : Nat) : Addr := He.ga K (nine.getD i "")
def wordB (K : PySem.W.Frag) (CA : Addr) : Bool := (List.range 9).all (fun i => (List.range 9).all fun j => decide (PySem.W.kitOne K (.ref (cW K i)) (.ref (cW K j)) = some (decide (i = j)))) &&
  ((List.range 9).all (fun i => decide (PySem.W.kitOne K (.ref (cW K i)) (.type "ValueError") = some true) && (decide (PySem.W.exmOne K (.ref (cW K i)) (.ref CA) = some true) && xcB K (cW K i))) &&
  [0, 3, 6].all fun i => xfB K (cW K i) && decide (PySem.W.findIn K (.ref (cW K i)) "number" = some none))
theorem wordB_ok {K : PySem.W.Frag} {CA : Addr} (h : wordB K CA = true) : (∀ i j, i < 9 → j < 9 → PySem.W.kitOne K (.ref (cW K i)) (.ref (cW K j)) = some (decide (i = j))) ∧ (∀ i, i < 9 → PySem.W.kitOne K (.ref (cW K i)) (.type "ValueError") = some true) ∧
    (∀ i, i < 9 → PySem.W.exmOne K (.ref (cW K i)) (.ref CA) = some true) ∧ (∀ i, i < 9 → ExcC K (cW K i)) ∧ ∀ i, i = 0 ∨ i = 3 ∨ i = 6 → XfC K (cW K i) ∧ PySem.W.findIn K (.ref (cW K i)) "number" = some none := by
  obtain ⟨h1, h⟩ := band h
  obtain ⟨h2, h3⟩ := band h
  have g2 : ∀ i, i < 9 → _ := fun i hi => band (List.all_eq_true.mp h2 i (List.mem_range.mpr hi))
  refine ⟨fun i j hi hj => of_decide_eq_true (List.all_eq_true.mp (List.all_eq_true.mp h1 i (List.mem_range.mpr hi)) j (List.mem_range.mpr hj)), fun i hi => of_decide_eq_true (g2 i hi).1, fun i hi => of_decide_eq_true (band (g2 i hi).2).1, fun i hi => xcB_ok (band (g2 i hi).2).2, fun i hi => ?_⟩
  obtain ⟨a, b⟩ := band (List.all_eq_true.mp h3 i (by simp; exact hi))
  exact ⟨xfB_ok a, of_decide_eq_true b⟩
def deedsB (K : PySem.W.Frag) : Bool := deedsL.all fun q => match PySem.W.nsIn K (He.ga K "DEEDS") q.1 with
  | some (some (.int i _)) => decide (i = (q.2 : Int))
  | _ => false
theorem deedsB_ok {K : PySem.W.Frag} (h : deedsB K = true) {z : Str} {n : Nat} (m : (z, n) ∈ deedsL) : ∃ t, PySem.W.nsIn K (He.ga K "DEEDS") z = some (some (.int (n : Int) t)) := by
  have h2 : (match PySem.W.nsIn K (He.ga K "DEEDS") z with
    | some (some (.int i _)) => decide (i = (n : Int))
    | _ => false) = true := List.all_eq_true.mp h _ m
  cases q : PySem.W.nsIn K (He.ga K "DEEDS") z with
  | none => rw [q] at h2; cases h2
  | some r =>
    rw [q] at h2
    cases r with
    | none => cases h2
    | some u =>
      cases u with
      | int i t =>
        have e : i = (n : Int) := of_decide_eq_true h2
        exact ⟨t, by rw [e]⟩
      | _ => cases h2
end Ah
end
section
set_option Elab.async false
set_option linter.all false
set_option maxRecDepth 100000
set_option maxHeartbeats 2000000
/-! the head's run in two halves, so that each takes less of the kernel's memory -/
namespace Ah
open PySem PySem.W PySem.Calls PyProof.Rows HandSHeadRun
theorem map_pair {α β γ δ : Type} {x : Option α} {f : α → β} {g : α → γ} {h : α → δ} {b : β} {c : γ} {d : δ} (h1 : x.map (fun s => (f s, g s)) = some (b, c)) (h2 : x.map h = some d) : x.map (fun s => (f s, g s, h s)) = some (b, c, d) := by
  cases x with
  | none => cases h1
  | some s =>
    have e1 : (f s, g s) = (b, c) := Option.some.inj h1
    have e2 : h s = d := Option.some.inj h2
    have e3 := Prod.mk.inj e1
    show some (f s, g s, h s) = some (b, c, d)
    rw [e3.1, e3.2, e2]
/-- what the library looks at -/
def RunA (r : OpenRow) (q : Program) (M : Nat) (loose : List PySem.Str) (w : World) : Prop :=
  ∀ os : OsState, (endF (stepQ (denQ tabQ) r.prog w) M r.prog w os).map (fun s => (looksF r.prog (boot_heap w.params) s.abs, seenQ q loose (importedModules r.prog.main.body) (fun s => xlAt q [] s && recOk r.toRowW.records s) s.abs)) = some (true, openGood q loose)
/-- what our own hook looks at -/
def RunC (r : OpenRow) {α : Type} (ob : SharedT → α) (val : α) (M : Nat) (w : World) : Prop :=
  ∀ os : OsState, (endF (stepQ (denQ tabQ) r.prog w) M r.prog w os).map ob = some val
theorem run_of {r : OpenRow} {q : Program} {H : Hook} {ob : SharedT → H.α} {M : Nat} {loose : List PySem.Str} {w : World} (a : RunA r q M loose w) (c : RunC r ob (H.val w) M w) : RunEq r q H ob M loose w := fun os => map_pair (a os) (c os)
end Ah
end
section
set_option Elab.async false
set_option linter.all false
set_option maxRecDepth 100000
set_option maxHeartbeats 2000000
namespace Ah
open PySem PySem.Spec PyProof.Rows L2
/-! ### the hook that reads the objects at given places alone, and tells of defs that close over their class -/
def frZ (g : Addr → Option Obj) (as : List Addr) : PySem.W.Frag := He.frT g as
abbrev AlZ : Type := He.AlX × List FnY
def obsZ (as : List Addr) (fa : List He.Fa) (fn : List He.DefD) (ts : List He.Tab) (tf : List He.Defn) (ex : PySem.W.Frag → Bool) (sup : PySem.W.Frag → List FnY) (g : Addr → Option Obj) : AlZ :=
  ((He.obsT fa fn ts (frZ g as), ex (frZ g as) && He.tabsB g tf (frZ g as)), sup (frZ g as))
theorem saysZ_of {as : List Addr} {fa : List He.Fa} {fn : List He.DefD} {ts : List He.Tab} {tf : List He.Defn} {ex : PySem.W.Frag → Bool} {w : World} {h : Heap} (e1 : He.obsT fa fn ts (frZ h.get? as) = He.valT fn ts w) (e2 : (ex (frZ h.get? as) && He.tabsB h.get? tf (frZ h.get? as)) = true) : He.SaysX fa fn ts tf ex w h (frZ h.get? as) := by
  obtain ⟨x1, x2⟩ := band e2
  have all : ∀ q ∈ tf, PySem.W.codeHdIn (frZ h.get? as) (He.cT (frZ h.get? as) q).1 (He.cT (frZ h.get? as) q).2 = true ∧ ∃ u, h.get? (He.cT (frZ h.get? as) q).2 = some u ∧ He.emptyTab u = true := by
    intro q hq
    have y := band (List.all_eq_true.mp x2 q hq)
    refine ⟨y.1, ?_⟩
    have y2 := y.2
    cases r : h.get? (He.cT (frZ h.get? as) q).2 with
    | none => rw [r] at y2; cases y2
    | some u => rw [r] at y2; exact ⟨u, rfl, y2⟩
  refine ⟨e1, x1, fun q hq => (all q hq).1, fun q hq => ?_, fun q hq => ?_⟩
  · obtain ⟨u, r, z⟩ := (all q hq).2
    exact He.frT_none r z
  · obtain ⟨u, r, z⟩ := (all q hq).2
    rw [r, He.emptyTab_eq z]
def hookZ (as : List Addr) (fa : List He.Fa) (fn : List He.DefD) (ts : List He.Tab) (tf : List He.Defn) (ex : PySem.W.Frag → Bool) (sup : PySem.W.Frag → List FnY) (val : List FnY) : PySem.W.Hook where
  α := AlZ
  obs := fun s => obsZ as fa fn ts tf ex sup s.heap.get?
  val := fun w => (He.valX fn ts w, val)
  says := fun w h => ∃ K : PySem.W.Frag, K.In h ∧ He.SaysX fa fn ts tf ex w h K ∧ sup K = val
  of := fun _ _ e => ⟨_, He.frT_in, saysZ_of (congrArg (fun z : AlZ => z.1.1) e) (congrArg (fun z : AlZ => z.1.2) e), congrArg (fun z : AlZ => z.2) e⟩
  keeps := fun _ _ _ ⟨K, hK, c, v⟩ k => ⟨K, PySem.W.Frag.In.keeps hK k, ⟨c.t, c.more, c.hd, c.out, fun p hp => k _ _ (c.empty p hp)⟩, v⟩
theorem obsZ_eq {as : List Addr} {fa : List He.Fa} {fn : List He.DefD} {ts : List He.Tab} {tf : List He.Defn} {ex : PySem.W.Frag → Bool} {sup : PySem.W.Frag → List FnY} {val : List FnY} {g : Addr → Option Obj} {s : Shared} (h : ∀ a, g a = s.heap.get? a) : obsZ as fa fn ts tf ex sup g = (hookZ as fa fn ts tf ex sup val).obs s := by
  have e : g = s.heap.get? := funext h
  rw [e] <;> rfl
end Ah
end
section
set_option Elab.async false
set_option linter.all false
set_option maxRecDepth 100000
set_option maxHeartbeats 0
namespace Ah
open PySem PySem.Spec PyProof.Rows L2
/-! ### the head -/
def dF (x : Str) (st : Stmt) : He.DefD := ⟨(x, none), x, x, defArgs st, defBody st, defScope st, [], []⟩
def dM (c x q : Str) (st : Stmt) : He.DefD := ⟨(c, some x), x, q, defArgs st, defBody st, defScope st, [], []⟩
def dBatch : He.DefD := ⟨("House", some "batch"), "batch", "House.batch", defArgs sHouseBatch, defBody sHouseBatch, defScope sHouseBatch, [], [("keep", .bl true)]⟩
def fn0 : List He.DefD := [dF "is_word" sIsWord, dF "is_row" sIsRow, dF "is_number" sIsNumber, dF "check_text" sCheck, dF "check_number" sCheckNumber, dF "is_deed" sIsDeed, dF "check_deeds" sCheckDeeds, dM "House" "__init__" "House.__init__" sHouseInit, dM "House" "text" "House.text" sHouseText, dM "House" "put" "House.put" sHousePut, dM "House" "drop" "House.drop" sHouseDrop, dM "House" "tell" "House.tell" sHouseTell, dBatch, dM "House" "begin" "House.begin" sHouseBegin, dM "House" "end" "House.end" sHouseEnd, dM "House" "do" "House.do" sHouseDo, dM "House" "told" "House.told" sHouseTold, dM "House" "is_idle" "House.is_idle" sHouseIsIdle, dF "_law_row" lRow, dF "_law_taken" lTaken]
def fn1 : List He.DefD := [dF "_law_one" lOne, dF "_law_text" lText, dF "_law_deed" lDeed, dF "_law_done" lDone, dF "_law_word" lWord, dF "_law_alike" lAlike, dF "law" lLaw]
def fn : List He.DefD := fn0 ++ fn1
def fa0 : List He.Fa := [.glo "is_word", .glo "is_row", .glo "is_number", .glo "check_text", .glo "check_number", .glo "is_deed", .glo "check_deeds", .glo "_law_row", .glo "_law_taken", .glo "_law_one", .glo "_law_text", .glo "_law_deed", .glo "_law_done", .glo "_law_word", .glo "_law_alike", .glo "law", .free "isinstance", .free "len", .free "tuple", .free "list", .free "str", .free "bool", .free "range", .free "enumerate", .free "sorted"]
def fa1 : List He.Fa := [.free "zip", .free "dict", .free "all", .free "super", .free "ValueError", .free "int", .glo "FORMS", .glo "BARRED", .glo "DEEDS", .glo "House", .glo "AnswerError", .glo "BadRow", .glo "BadSaying", .glo "BadCount", .glo "BadSteps", .glo "NoRow", .glo "NoFollow", .glo "BadDeed", .glo "Halted", .glo "BadText", .int "LONGEST_WORD" 6, .int "MOST_ROWS" 24, .str "LETTERS" letters, .cls "House", .noat "House" "standing"]
def fa2 : List He.Fa := [.noat "House" "asked", .noat "House" "events", .noat "House" "idle", .meth "House" "text", .meth "House" "told", .meth "House" "is_idle", .meth "House" "begin", .meth "House" "end", .meth "House" "do", .meth "House" "put", .meth "House" "drop", .meth "House" "tell", .meth "House" "batch", .mkr "House", .exc "NoRow"]
def fa : List He.Fa := fa0 ++ fa1 ++ fa2
abbrev R : PySem.W.OpenRow := PySem.W.OpenLaw.row PySem.Challenge.rw_answerhouse_k17_batches
def ts : List He.Tab := [(fun K => He.ga K "FORMS", formsL.map (·.1)), (fun K => He.ga K "DEEDS", deedsL.map (·.1))]
def tf : List He.Defn := [("is_word", none), ("is_row", none), ("law", none)]
def tupK (K : PySem.W.Frag) (a : Addr) (ws : List Str) : Bool := match K.lookup a with
  | some ⟨.type c, _, .seq its _, _⟩ => decide (c = "tuple") && (decide (its.size ≤ 1000) && He.relAll (ws.map V.str) its.toList)
  | _ => false
def formsB (K : PySem.W.Frag) : Bool := formsL.all fun q => match PySem.W.nsIn K (He.ga K "FORMS") q.1 with
  | some (some (.ref a)) => tupK K a q.2
  | _ => false
def neT (a b : Addr) : Bool := !decide (a = b)
def tabsB (K : PySem.W.Frag) : Bool := neT (He.cT K ("law", none)).2 (He.cT K ("is_word", none)).2 && neT (He.cT K ("law", none)).2 (He.cT K ("is_row", none)).2
def rwB (K : PySem.W.Frag) : Bool := supB K PySem.Challenge.pw_answerhouse_k17_batches.main.file "BadRow.__init__" (He.ma K (He.ga K "BadRow") "__init__") (He.ga K "BadRow") && (oexB K (He.ga K "BadRow") && (xfB K (He.ga K "BadRow") && (decide (PySem.W.findIn K (.ref (He.ga K "BadRow")) "__init__" = some (some (.ref (He.ma K (He.ga K "BadRow") "__init__")))) && (decide (PySem.W.typeIn K (.ref (He.ma K (He.ga K "BadRow") "__init__")) = some (.type "function")) && decide (PySem.W.findIn K (.ref (He.ga K "BadRow")) "number" = some none)))))
def bdB (K : PySem.W.Frag) : Bool := supB K PySem.Challenge.pw_answerhouse_k17_batches.main.file "BadDeed.__init__" (He.ma K (He.ga K "BadDeed") "__init__") (He.ga K "BadDeed") && (oexB K (He.ga K "BadDeed") && (xfB K (He.ga K "BadDeed") && (decide (PySem.W.findIn K (.ref (He.ga K "BadDeed")) "__init__" = some (some (.ref (He.ma K (He.ga K "BadDeed") "__init__")))) && (decide (PySem.W.typeIn K (.ref (He.ma K (He.ga K "BadDeed") "__init__")) = some (.type "function")) && decide (PySem.W.findIn K (.ref (He.ga K "BadDeed")) "number" = some none)))))
def haB (K : PySem.W.Frag) : Bool := (supB K PySem.Challenge.pw_answerhouse_k17_batches.main.file "Halted.__init__" (He.ma K (He.ga K "Halted") "__init__") (He.ga K "Halted") && (oexB K (He.ga K "Halted") && (xfB K (He.ga K "Halted") && (decide (PySem.W.findIn K (.ref (He.ga K "Halted")) "__init__" = some (some (.ref (He.ma K (He.ga K "Halted") "__init__")))) && (decide (PySem.W.typeIn K (.ref (He.ma K (He.ga K "Halted") "__init__")) = some (.type "function")) && decide (PySem.W.findIn K (.ref (He.ga K "Halted")) "number" = some none)))))) && decide (PySem.W.findIn K (.ref (He.ga K "Halted")) "done" = some none)
def exmB (K : PySem.W.Frag) : Bool := decide (PySem.W.exmAny K (.ref (He.ga K "NoRow")) [.ref (He.ga K "NoRow"), .ref (He.ga K "BadRow")] = some true) && decide (PySem.W.exmAny K (.ref (He.ga K "BadRow")) [.ref (He.ga K "NoRow"), .ref (He.ga K "BadRow")] = some true)
def exB (K : PySem.W.Frag) : Bool := formsB K && (tupK K (He.ga K "BARRED") barred && (deedsB K && (tabsB K && (rwB K && (bdB K && (haB K && (exmB K && wordB K (He.ga K "AnswerError"))))))))
def sup17 (K : PySem.W.Frag) : List FnY := [fnY K (He.ma K (He.ga K "BadRow") "__init__"), fnY K (He.ma K (He.ga K "BadDeed") "__init__"), fnY K (He.ma K (He.ga K "Halted") "__init__")]
def val17 : List FnY := [valY "BadRow.__init__" sBadrowInit, valY "BadDeed.__init__" sBaddeedInit, valY "Halted.__init__" sHaltedInit]
def asL0 : List Addr := [2, 3, 375, 382, 389, 396, 403, 503, 510, 628, 635, 642, 647, 654, 661, 668, 673, 678, 219, 231, 243, 264, 276, 288, 309, 330, 351, 197, 617, 355, 354, 496, 374, 381, 388, 395, 402, 502, 509, 627]
def asL1 : List Addr := [634, 641, 646, 653, 660, 667, 672, 677, 218, 230, 242, 263, 275, 287, 308, 329, 350, 196, 616, 356, 357, 358, 359, 360, 361, 362, 363, 364, 365, 366, 367, 368, 369, 370, 371, 372, 373, 376, 377, 378]
def asL2 : List Addr := [379, 380, 383, 384, 385, 386, 387, 390, 391, 392, 393, 394, 397, 398, 399, 400, 401, 497, 498, 499, 500, 501, 504, 505, 506, 507, 508, 622, 623, 624, 625, 626, 629, 630, 631, 632, 633, 636, 637, 638]
def asL3 : List Addr := [639, 640, 643, 644, 645, 648, 649, 650, 651, 652, 655, 656, 657, 658, 659, 662, 663, 664, 665, 666, 669, 670, 671, 674, 675, 676, 216, 217, 229, 241, 261, 262, 274, 286, 306, 307, 327, 328, 348, 349]
def asL4 : List Addr := [195, 198, 524, 531, 538, 545, 552, 559, 566, 571, 579, 586, 593, 600, 607, 614, 615, 618, 619, 215, 204, 260, 249, 305, 294, 326, 315, 347, 336, 523, 530, 537, 544, 551, 558, 565, 570, 578, 572, 585]
def asL5 : List Addr := [592, 599, 606, 613, 210, 211, 212, 213, 214, 255, 256, 257, 258, 259, 300, 301, 302, 303, 304, 321, 322, 323, 324, 325, 342, 343, 344, 345, 346, 518, 519, 520, 521, 522, 525, 526, 527, 528, 529, 532]
def asL6 : List Addr := [533, 534, 535, 536, 539, 540, 541, 542, 543, 546, 547, 548, 549, 550, 553, 554, 555, 556, 557, 560, 561, 562, 563, 564, 567, 568, 569, 573, 574, 575, 576, 577, 580, 581, 582, 583, 584, 587, 588, 589]
def asL7 : List Addr := [590, 591, 594, 595, 596, 597, 598, 601, 602, 603, 604, 605, 608, 609, 610, 611, 612]
def asL : List Addr := asL0 ++ asL1 ++ asL2 ++ asL3 ++ asL4 ++ asL5 ++ asL6 ++ asL7
abbrev hk : PySem.W.Hook := hookZ asL fa fn ts tf exB sup17 val17
def ob (s : PySem.W.SharedT) : AlZ := obsZ asL fa fn ts tf exB sup17 (HandSHeadRun.getT s)
theorem ob_eq (s : PySem.W.SharedT) : ob s = hk.obs s.abs := obsZ_eq (HandSHeadRun.getT_eq s)
def loose0 : List Str := ["_wall", "CLASH", "places_of", "leads_from_kind", "leads_on", "leads_from_tie", "leads_by", "Rules", "all_results", "size_of", "Search", "masks_of", "AnswerError", "BadRow", "BadSaying", "BadCount", "BadSteps", "NoRow", "NoFollow", "BadDeed", "Halted", "BadText", "MOST_ROWS", "LONGEST_WORD", "LETTERS", "BARRED", "FORMS", "is_word", "is_row", "is_number"]
def loose1 : List Str := ["check_text", "check_number", "told_of", "names_of", "BATCH", "first_bits", "Trial", "word_of", "words_of", "DEEDS", "is_deed", "check_deeds", "House", "_law_row", "_law_taken", "_law_one", "_law_text", "_law_deed", "_law_done", "_law_word", "_law_alike"]
def loose : List Str := loose0 ++ loose1
theorem runA0 (w : World) : RunA R (PySem.W.view R.prog [59]) 7000 loose (w.withFollow "special-get-raises" false) := by
  intro os
  kernel_rfl
theorem runA1 (w : World) : RunA R (PySem.W.view R.prog [59]) 7000 loose (w.withFollow "special-get-raises" true) := by
  intro os
  kernel_rfl
theorem runC0 (w : World) : RunC R ob (hk.val (w.withFollow "special-get-raises" false)) 7000 (w.withFollow "special-get-raises" false) := by
  intro os
  kernel_rfl
theorem runC1 (w : World) : RunC R ob (hk.val (w.withFollow "special-get-raises" true)) 7000 (w.withFollow "special-get-raises" true) := by
  intro os
  kernel_rfl
theorem run2 (b : Bool) (w : World) : HandSHeadRun.RunEq R (PySem.W.view R.prog [59]) hk ob 7000 loose (w.withFollow "special-get-raises" b) := by
  cases b
  · exact run_of (runA0 w) (runC0 w)
  · exact run_of (runA1 w) (runC1 w)
theorem run (w : World) : HandSHeadRun.RunEq R (PySem.W.view R.prog [59]) hk ob 7000 loose w := by
  have h := run2 (w.params.followText "special-get-raises") w
  rwa [World.withFollow_self] at h
end Ah
end
section
set_option Elab.async false
set_option linter.all false
set_option maxRecDepth 100000
set_option maxHeartbeats 4000000
namespace Ah
open PySem PySem.Spec PyProof.Rows L2
open GxR (TabB TabG Tabbed)
/-! ### what the head tells, for the defs -/
theorem tupK_ok {K : PySem.W.Frag} {a : Addr} {ws : List Str} (h : tupK K a ws = true) (H : Hp) : SqT K H a (ws.map V.str) := by
  unfold tupK at h
  cases q : K.lookup a with
  | none =>
    rw [q] at h
    cases h
  | some o =>
    obtain ⟨oc, od, dt, osl⟩ := o
    rw [q] at h
    cases oc with
    | type c =>
      cases dt with
      | seq its n =>
        obtain ⟨h1, h2⟩ := He.ba h
        obtain ⟨h3, h4⟩ := He.ba h2
        have e : c = "tuple" := of_decide_eq_true h1
        have l : its.size ≤ 1000 := of_decide_eq_true h3
        exact .inr ⟨_, its, n, q, by rw [e], rfl, Nat.le_trans l (by decide), He.relAll_ok h4⟩
      | _ => cases h
    | _ => cases dt <;> cases h
theorem out_of {K : PySem.W.Frag} {P : Params} {a : Addr} {ks : List Str} (h : He.dicW K a = some (He.keysIn P ks)) {z : Str} (hz : z ∉ ks) : PySem.W.nsIn K a z = some none := by
  unfold He.dicW at h
  cases q : K.lookup a with
  | none =>
    rw [q] at h
    cases h
  | some o =>
    obtain ⟨oc, od, dt, osl⟩ := o
    rw [q] at h
    cases oc with
    | type c =>
      cases od with
      | none =>
        cases dt with
        | dict es n =>
          have h1 : (match decide (c = "dict") && (osl.isEmpty && !(a == sysModules)) with
            | true => some (es.toList.map He.keyOf)
            | false => none) = some (He.keysIn P ks) := h
          have h2 : es.toList.map He.keyOf = He.keysIn P ks := by
            cases y : decide (c = "dict") && (osl.isEmpty && !(a == sysModules)) with
            | false =>
              rw [y] at h1
              cases h1
            | true =>
              rw [y] at h1
              exact Option.some.inj h1
          have key : ∀ e ∈ es.toList, e.key.isStr z = false ∧ e.refKey = false := by
            intro e he
            have m : He.keyOf e ∈ He.keysIn P ks := by
              rw [← h2]
              exact List.mem_map_of_mem he
            obtain ⟨k, hk, ek⟩ := List.mem_map.mp m
            unfold He.keyOf at ek
            cases qk : e.key with
            | str x t =>
              rw [qk] at ek
              have ex : k = x := (Prod.mk.inj (Option.some.inj ek)).1
              refine ⟨?_, ?_⟩
              · rw [PySem.W.isStr_of]
                unfold Value.isStrOf
                cases y : (x == z) with
                | false => simpa using y
                | true =>
                  rw [ex, beq_iff_eq.mp y] at hk
                  exact absurd hk hz
              · unfold DictEntry.refKey
                rw [qk]
            | _ =>
              rw [qk] at ek
              cases ek
          unfold PySem.W.nsIn
          rw [q]
          show (match es.toList.find? (·.key.isStr z) with | some e => some (some e.val) | none => if es.toList.any (·.refKey) then none else some none) = some none
          rw [List.find?_eq_none.mpr fun e he => by rw [(key e he).1]; decide]
          show (if es.toList.any (·.refKey) then none else some none) = some none
          rw [if_neg]
          intro y
          obtain ⟨e, he, hr⟩ := List.any_eq_true.mp y
          rw [(key e he).2] at hr
          cases hr
        | _ => cases h
      | some d => cases dt <;> cases h
    | _ => cases od <;> cases dt <;> cases h
theorem lookup_none {β : Type} {z : Str} : ∀ {l : List (Str × β)}, l.lookup z = none → z ∉ l.map (·.1)
  | [], _ => by simp
  | (k, v) :: r, h => by
    have h2 : (match z == k with | true => some v | false => r.lookup z) = none := h
    cases q : (z == k) with
    | true =>
      rw [q] at h2
      cases h2
    | false =>
      rw [q] at h2
      have ne : z ≠ k := fun e => by rw [e, beq_self_eq_true] at q; cases q
      intro m
      rcases List.mem_cons.mp (show z ∈ k :: r.map (·.1) from m) with e | e
      · exact ne e
      · exact lookup_none h2 e
theorem lookup_in {β : Type} {z : Str} {b : β} : ∀ {l : List (Str × β)}, l.lookup z = some b → (z, b) ∈ l
  | [], h => by cases h
  | (k, v) :: r, h => by
    have h2 : (match z == k with | true => some v | false => r.lookup z) = some b := h
    cases q : (z == k) with
    | true =>
      rw [q] at h2
      rw [beq_iff_eq.mp q, Option.some.inj h2]
      exact List.mem_cons_self
    | false =>
      rw [q] at h2
      exact List.mem_cons_of_mem _ (lookup_in h2)
end Ah
end
section
set_option Elab.async false
set_option linter.all false
set_option maxRecDepth 100000
set_option maxHeartbeats 2000000
namespace Ah
open PySem PySem.Spec PyProof.Rows L2
open GxR (TabB TabG Tabbed)
open GxG EnT
/-! ### texts -/
def spCheck0 (K : PySem.W.Frag) (T : List Addr) : Sp := fun vs H Q _ => ∃ (a : Addr) (rs : List V), vs = [.ref a] ∧ H a = some (.tup rs) ∧ rs.length ≤ 24 ∧ (∀ r ∈ rs, RowV K H r true) ∧ (∀ P ∈ T, TabG H P) ∧ ∀ H', Kp T H H' → Q .non H'
theorem Kp.sqT {K : PySem.W.Frag} {T : List Addr} {H H' : Hp} {a : Addr} {xs : List V} (ht : ∀ P ∈ T, TabG H P) (k : Kp T H H') (h : SqT K H a xs) : SqT K H' a xs := by
  rcases h with (h | ⟨o, h⟩) | h
  · exact .inl (.inl (k.obj ht h))
  · exact .inl (.inr ⟨o, k.obj ht h⟩)
  · exact .inr h
theorem RowV.kp {K : PySem.W.Frag} {T : List Addr} {H H' : Hp} {v : V} {b : Bool} (ht : ∀ P ∈ T, TabG H P) (k : Kp T H H') (h : RowV K H v b) : RowV K H' v b := by
  rcases h with ⟨h, e⟩ | ⟨a, xs, e, h1, h2, h3, h4⟩
  · refine .inl ⟨?_, e⟩
    rcases h with h | h | h | ⟨a, xs, e, h⟩
    · exact .inl h
    · exact .inr (.inl h)
    · exact .inr (.inr (.inl h))
    · exact .inr (.inr (.inr ⟨a, xs, e, k.obj ht h⟩))
  · exact .inr ⟨a, xs, e, Kp.sqT ht k h1, h2, fun x hx => (h3 x hx).kp ht k, h4⟩
theorem scC : FnScope ["rows", "number", "row"] ["rows"] (defScope sCheck) := ⟨rfl, rfl, rfl, by decide +kernel, rfl, by decide +kernel, by decide +kernel⟩
theorem Kp.upd {T : List Addr} {H H1 : Hp} {p : Addr} {o : HO} (k : Kp T H H1) (n : H1 p = none) : Kp T H (upd H1 p o) := ⟨fun q hq => by
    obtain ⟨ps, e, h⟩ := k.tab q hq
    exact ⟨ps, by rw [upd_ne (ne_of_none e n)]; exact e, h⟩, fun b u e hb => by
    have q := k.keep b u e hb
    rw [upd_ne (ne_of_none q n)]
    exact q⟩
section
variable {P : Program} {w : World} {K : PySem.W.Frag} {mg : Str → Option Value} {base : Heap} {f fR : Addr} {fd fdR : FuncData} {T : List Addr}
theorem ok_check (F : FnP K "check_text" sCheck f fd) (W : TW K mg) (hm : ∃ t, mg "MOST_ROWS" = some (.int 24 t)) (gR : mg "is_row" = some (.ref fR)) (FR : FnOk P w K mg base CX0 5 fR fdR ["row"] (spRow K T))
    (kR : PySem.W.keepIn K (.ref fR) = true) (bR : Binds K fdR ["row"] []) : FnOk P w K mg base CX0 6 f fd ["rows"] (spCheck0 K T) := by
  refine F.ok scC (fun vs H Q E h => ?_) (fun cdv A outer s H vs Q E hr h => ?_)
  · obtain ⟨a, rs, rfl, _⟩ := h
    rfl
  · obtain ⟨a, rs, rfl, ha, hl, hrs, ht, k⟩ := h
    obtain ⟨mt, hm⟩ := hm
    have sa : SqT K H a rs := .inl (.of ha)
    refine ⟨_, PSs.nox (pss_cons (ps_if (pt_not (pt_val (pe_callB call_isi (by rfl) W.isi (by decide +kernel) (pa_cons (pv 0) (pa_cons (pe_bltn (v := .ty "tuple") (by rfl) W.tup (by decide +kernel) rfl) pa_nil))))) (pss_one ps_never) pss_nil)
      (pss_one (ps_for PassesOwn.never rfl (pi_enumT (by rfl) W.enu (pa_cons (pv 0) pa_nil)) (pg_tup rfl (pgs_cons (pg_name (i := 1) scC.nd rfl (.inl rfl)) (pgs_cons (pg_name (i := 2) scC.nd rfl (.inl rfl)) pgs_nil)))
        (pss_one (ps_if (PW.pt (pw_or (pt_cmpR op_eq (pv 1) (pe_glob (v := .int 24) (by rfl) hm ⟨_, rfl⟩) (nomark _)) (pw_or1 (pt_not (pt_val (pe_call FR hr (by rfl) gR kR bR .nil pass0 (pa_cons (pv 2) pa_nil))))))) (pss_one ps_never) pss_nil))))), ?_⟩
    refine ⟨_, rfl, _, _, _, _, true, rfl, ClsV.ty _, TyX.base (.tup ha), kit_ty (by decide +kernel), true, rfl, ?_⟩
    refine iteF ?_
    refine ⟨_, rfl, a, rs, rfl, sa, for_it (walk_enumT (K := K) (a := a) (xs := rs)) (fun i σ H' => (∃ v1 v2, σ = [some (.ref a), v1, v2]) ∧ Kp T H H') ⟨⟨_, _, rfl⟩, ht, fun _ _ e _ => e⟩ (fun i σ H' _ pv => .inl (.of (pv.2.obj ht ha))) ?_ ?_⟩
    · rintro i x σ Ha Hb hi ⟨⟨v1, v2, rfl⟩, kp⟩ ⟨Tp, x1, x2, rfl, nT, rfl, e1, e2⟩
      cases e1
      have kp1 : Kp T H (L2.upd Ha Tp (.tup [.int (i : Nat), x2])) := kp.upd nT
      refine ⟨Tp, _, rfl, .inl (.of upd_same), rfl, ?_⟩
      refine ⟨_, _, rfl, _, _, rfl, rfl, ?_⟩
      refine ⟨_, rfl, rfl, _, rfl, ?_⟩
      have hi24 : ¬ V.int ((i : Nat) : Int) = V.int 24 := fun e => by
        have := V.int.inj e
        omega
      rw [decide_eq_false hi24]
      refine iteF ⟨_, rfl, ?_⟩
      refine ⟨_, true, rfl, (hrs x2 (List.mem_of_getElem? e2)).kp ht kp1, kp1.tab, fun H2 k2 => ⟨_, rfl, iteF ⟨⟨_, _, rfl⟩, kp1.trans k2⟩⟩⟩
    · rintro σ H' ⟨_, kp⟩
      exact k H' kp
end
end Ah
end
section
set_option Elab.async false
set_option linter.all false
set_option maxRecDepth 100000
set_option maxHeartbeats 2000000
/-! an own exception whose __init__ begins with super().__init__('..'): the def by its further statements. -/
namespace Ah
open PySem PySem.Spec PyProof.Rows L2

theorem look_mem {κ : Type} {x : Str} {u : κ} : ∀ {l : List (Str × κ)}, (l.map (·.1)).Nodup → (x, u) ∈ l → l.lookup x = some u
  | [], _, h => nomatch h
  | (y, v) :: l, nd, h => by
    rw [List.map_cons, List.nodup_cons] at nd
    rcases List.mem_cons.mp h with e | e
    · cases e
      simp [List.lookup]
    · have hne : (x == y) = false := beq_eq_false_iff_ne.mpr fun z => nd.1 (List.mem_map.mpr ⟨_, e, z⟩)
      rw [List.lookup, hne]
      exact look_mem nd.2 e
theorem zip_fst {κ : Type} : ∀ {ps : List Str} {us : List κ}, ps.length = us.length → (ps.zip us).map (·.1) = ps
  | [], [], _ => rfl
  | p :: ps, u :: us, h => by rw [List.zip_cons_cons, List.map_cons, zip_fst (by simpa using h)]
  | [], _ :: _, h => by simp at h
  | _ :: _, [], h => by simp at h
theorem zip_look {ps : List Str} {us : List Value} {i : Nat} {y : Str} {u : Value} (nd : ps.Nodup) (hl : ps.length = us.length) (hp : ps[i]? = some y) (hu : us[i]? = some u) : (ps.zip us).reverse.lookup y = some u := by
  refine look_mem ?_ (List.mem_reverse.mpr ?_)
  · rw [List.map_reverse, zip_fst hl]
    exact (List.reverse_perm ps).nodup_iff.mpr nd
  · refine List.mem_of_getElem? (i := i) ?_
    rw [List.getElem?_zip_eq_some]
    exact ⟨hp, hu⟩

/-- the context of such a def's body, at its entry -/
def cxSup (CX : CXT) (P : Program) (w : World) (K : PySem.W.Frag) (mg : Str → Option Value) (base : Heap) (N : List Str) (qual : Str) (scope : Scope) (f : Addr) (cd : Value) (cc : Addr) (A : Around) (outer : List Env) (s : Shared) (H : Hp) (E : XK) : Cx where
  prog := P
  w := w
  K := K
  mg := mg
  base := base
  A := A.deeper (PySem.W.ksEnv qual scope s.heap.objs.size f cd cc)
  N := N
  s_0 := s
  H_0 := H
  env := PySem.W.ksEnv qual scope s.heap.objs.size f cd cc
  outer := outer
  stack := PySem.W.ksEnv qual scope s.heap.objs.size f cd cc :: outer
  ex := []
  calm := true
  fn := fun _ => false
  pn := []
  xe := fun e s' => wpAny (model P w) (A.deeper (PySem.W.ksEnv qual scope s.heap.objs.size f cd cc)) (leaving (PySem.W.ksEnv qual scope s.heap.objs.size f cd cc) e) (fun _ s'' => CX outer H s E e s'') (fun e' s'' => CX outer H s E e' s'') s'

/-- what the written part says of such a def -/
structure SupFn (P : Program) (K : PySem.W.Frag) (mg : Str → Option Value) (f C : Addr) (fd : FuncData) (N : List Str) (slf : Str) (rest : List Stmt) : Prop where
  ex : ∃ (oc : Value) (od : Option Addr) (name qual : Str) (params : Arguments) (scope : Scope) (dV kV doc pm ct : Value) (an : Option Addr) (cda cc : Addr) (osl : Array (Option Value)) (p0 p1 p2 p3 p4 p5 : Pos) (txt : Str) (kk : Nat) (ar : Arg)
    (ccl cl : Value) (cdd cld : Option Addr) (ccs csl : Array (Option Value)) (vs : Array Value) (file : Str) (tf : Tok) (pl : Addr → Sem Bool),
    fd = PySem.W.ksFn name qual params (.Expr (.Call (.Attribute (.Call (.Name "super" p0) [] [] p1) "__init__" p2) [.Constant (.str txt) kk p3] [] p4) p5 :: rest) scope dV kV doc pm an (.ref cda) ct cc ∧
    K.lookup f = some ⟨oc, od, .func fd, osl⟩ ∧ PySem.W.codeIn K (.ref cda) qual = true ∧ (params.posonlyargs ++ params.args).head? = some ar ∧ ar.arg = slf ∧
    K.lookup cda = some ⟨ccl, cdd, .fields vs, ccs⟩ ∧ vs[2]? = some (.str file tf) ∧ ((P.main.file : Str) == file) = true ∧
    K.lookup cc = some ⟨cl, cld, .cell (some (.ref C)), csl⟩ ∧
    scope.kind = .function ∧ scope.isCoroutine = false ∧ scope.isGenerator = false ∧ (∀ x ∈ scope.names, x.2 ≠ .cell) ∧ (∀ x ∈ N, scope.names.lookup x = some .local) ∧
    (∀ x, scope.names.lookup x = some .free → x = "__class__") ∧
    scope.names.lookup ("super" : Str) = some .globalImplicit ∧ scope.names.lookup ("__class__" : Str) = some .free ∧
    (∀ L : Addr, interactive (PySem.W.ksEnv qual scope L f (.ref cda) cc) = false) ∧
    (∀ L : Addr, swapsWith (.Call (.Attribute (.Call (.Name "super" p0) [] [] p1) "__init__" p2) [.Constant (.str txt) kk p3] [] p4) none p5.line (PySem.W.ksEnv qual scope L f (.ref cda) cc) = pure false) ∧
    (∀ L : Addr, eval (.Call (.Attribute (.Call (.Name "super" p0) [] [] p1) "__init__" p2) [.Constant (.str txt) kk p3] [] p4) (PySem.W.ksEnv qual scope L f (.ref cda) cc) = (do
      let ov ← attributeBase (.Call (.Name "super" p0) [] [] p1) "__init__" (PySem.W.ksEnv qual scope L f (.ref cda) cc) (eval (.Call (.Name "super" p0) [] [] p1) (PySem.W.ksEnv qual scope L f (.ref cda) cc))
      standAt p2.atName
      let (g, first) ← holding [ov] (getMethod ov "__init__" (pl L))
      callWith p4 g first (backTo p4 (starEach [.Constant (.str txt) kk p3] (PySem.W.ksEnv qual scope L f (.ref cda) cc))) [])) ∧
    (∀ L : Addr, starEach [.Constant (.str txt) kk p3] (PySem.W.ksEnv qual scope L f (.ref cda) cc) = (false, eval (.Constant (.str txt) kk p3) (PySem.W.ksEnv qual scope L f (.ref cda) cc)) :: starEach [] (PySem.W.ksEnv qual scope L f (.ref cda) cc)) ∧
    (∀ L : Addr, (backTo p4 (starEach [] (PySem.W.ksEnv qual scope L f (.ref cda) cc))).any (·.1) = false)
  nd : N.Nodup
  hd : N[0]? = some slf
  sup : mg "super" = none
  top : (P.main.scope.names.lookup ("super" : Str)).isSome = false
  opq : PySem.W.nsIn K cStatics "thirdparty.any" = some none
  meth : PySem.W.ks_superIn K C C "__init__" = some (some (.builtin "ValueError.__init__"))
  val : PySem.W.subIn K (.ref C) (.type "ValueError") = some true
  own : PySem.W.mroIn K C (.ref C) = some true

section
variable {CX : CXT} {P : Program} {w : World} {K : PySem.W.Frag} {mg : Str → Option Value} {base : Heap} {f C : Addr} {N : List Str} {E : XK} {A : Around} {outer : List Env} {s : Shared} {H : Hp} {us : List Value} {vs : List V}
theorem inv_sup {qual : Str} {scope : Scope} {cd : Value} {cc : Addr} {h1 : Heap} {tk : Nat} {o : Obj} {v0 : Option Value} (hd : A.handled = none) (e0 : Env0 P w K mg base A outer s H) (nd : N.Nodup) (hl : vs.length = N.length) (r : Vals vs us)
    (hkind : scope.kind = .function) (hloc : ∀ x ∈ N, scope.names.lookup x = some .local) (hcell : ∀ x ∈ scope.names, x.2 ≠ .cell) (hfree : ∀ x, scope.names.lookup x = some .free → x = "__class__")
    (hcc : K.lookup cc = some o) (ho : o.data = .cell v0)
    (hns : h1.Ns s.heap.objs.size (fun x => (N.zip us).reverse.lookup x)) (hk : ∀ b o, s.heap.get? b = some o → h1.get? b = some o) :
    Inv (cxSup CX P w K mg base N qual scope f cd cc A outer s H E) [] (L2.start N vs) H { s with heap := h1, toks := tk } := by
  have KB : ∀ b o, K.lookup b = some o → base.get? b = some o := fun b o q => e0.mod.kin _ _ q
  have lkc : ∀ {x : Str} {c : Addr}, (cxSup CX P w K mg base N qual scope f cd cc A outer s H E).env.cells.lookup x = some c → x = "__class__" ∧ c = cc := fun {x c} h => by
    have h : List.lookup x [(("__class__" : Str), cc)] = some c := h
    by_cases hx : x = "__class__"
    · subst hx
      simp [List.lookup] at h
      exact ⟨rfl, h.symm⟩
    · rw [List.lookup, beq_eq_false_iff_ne.mpr hx] at h
      cases h
  have noA : ∀ b : Addr, b ∉ (cxSup CX P w K mg base N qual scope f cd cc A outer s H E).ex := fun b z => absurd (show b ∈ ([] : List Addr) from z) (by simp)
  have hlu : N.length = us.length := by rw [← hl]; exact r.length
  have bcc := e0.bs _ _ (KB _ _ hcc)
  refine ⟨⟨e0.mod, hkind, rfl, rfl, Nat.le_refl _, fun y z c h1 h2 => (lkc h1).1.trans (lkc h2).1.symm, fun y hy => ?_, fun y c z _ => ?_, fun _ => hd, Around.frames_deeper e0.frames, .inr ⟨rfl, rfl⟩, fun b z => absurd z (noA b), e0.bs, e0.bsz, fun b _ _ => noA b, fun b z => absurd z (noA b), e0.funs, e0.frf⟩,
    rfl, e0.bare, Un.kept hk, ⟨_, hns, fun i y v h1 h2 h3 => ?_⟩, fun y c h => ⟨v0, o, ?_, ho⟩, e0.hok.fresh (Nat.le_refl _), fun y c h => ?_, fun p hp => absurd (show p ∈ ([] : List (Addr × Obj)) from hp) (by simp), e0.hok.kept hk, ?_⟩
  · have hy : scope.names.lookup y = some .cell ∨ scope.names.lookup y = some .free := hy
    rcases hy with hy | hy
    · exact absurd rfl (hcell _ (PySem.mem_of_lookup hy))
    · refine ⟨cc, ?_⟩
      rw [hfree y hy]
      show List.lookup ("__class__" : Str) [(("__class__" : Str), cc)] = some cc
      simp [List.lookup]
  · cases (show false = true from z)
  · have hi : i < vs.length := by
      unfold L2.start at h2
      by_cases hi : i < vs.length
      · exact hi
      · rw [List.getElem?_append_right (by simpa using hi)] at h2
        rw [List.getElem?_replicate] at h2
        split at h2 <;> cases h2
    have ha : vs[i]? = some v := by
      unfold L2.start at h2
      rw [List.getElem?_append_left (by simpa using hi), List.getElem?_map] at h2
      cases e : vs[i]? with
      | none => rw [e] at h2; cases h2
      | some a => rw [e] at h2; cases h2; rfl
    obtain ⟨u, hu, rv⟩ := r.get ha
    exact ⟨u, rv, .inl ⟨hloc y (List.mem_of_getElem? h1), zip_look nd hlu h1 hu⟩⟩
  · rw [(lkc h).2]
    exact hk _ _ bcc.1
  · rw [(lkc h).2]
    exact bcc.2
  · unfold L2.start
    show _ = N.length
    rw [List.length_append, List.length_map, List.length_replicate]
    omega

/-- THE RULE -/
theorem sup_fn {k : Nat} {fd : FuncData} {slf : Str} {rest : List Stmt} {sp : Sp} (S : SupFn P K mg f C fd N slf rest) (T : OexC K C)
    (len : ∀ vs H Q E, sp vs H Q E → vs.length = N.length)
    (hbody : ∀ (qual : Str) (scope : Scope) (cd : Value) (cc : Addr) (A : Around) (outer : List Env) (s : Shared) (H : Hp) (vs : List V) (Q : VK) (E : XK), (∀ x ∈ N, scope.names.lookup x = some .local) → sp vs H Q E →
      (∃ a vr, vs = .ref a :: vr ∧ H a = some (exo a C none)) ∧ ∃ t, PSs (cxSup CX P w K mg base N qual scope f cd cc A outer s H E) rest t ∧ t { nx := fun _ H' => Q .non H', rt := Q } (L2.start N vs) H) :
    FnOk P w K mg base CX (k + 1) f fd N sp := by
  refine ⟨len, fun A outer s H args us vs Q E hr e0 hb r hsp => ?_⟩
  obtain ⟨oc, od, name, qual, params, scope, dV, kV, doc, pm, ct, an, cda, cc, osl, p0, p1, p2, p3, p4, p5, txt, kk, ar, ccl, cl, cdd, cld, ccs, csl, xs, file, tf, pl, rfl, lk, hcd, hhd, har, hcda, hxs, hfile, hcc, hkind, hco, hgen, hcell, hloc, hfree, hsup, hcls, hin, hsw, hev, hst, hpl⟩ := S.ex
  have hl := len _ _ _ _ hsp
  have hlu : N.length = us.length := by rw [← hl]; exact r.length
  have KX : K.In s.heap := e0.mod.kin.keeps fun b o e => (e0.bs b o e).1
  have lim : s.heap.NoLimit := e0.mod.nolimit.keeps fun b o e => (e0.bs b o e).1
  refine PySem.ks_codeAny_call_defAt hr.depth (KX _ _ lk) rfl lim (PySem.W.codeRec_of KX hcd) rfl hb hcell (fun x hx => hloc _ (List.of_mem_zip (show (x.1, x.2) ∈ N.zip us from hx)).1) (fun h1 hns hk => ?_) hco hgen hkind
  have I : Inv (cxSup CX P w K mg base N qual scope f (.ref cda) cc A outer s H E) [] (L2.start N vs) H { s with heap := h1, toks := s.toks + (N.zip us).length } :=
    inv_sup hr.hd e0 S.nd hl r hkind hloc hcell hfree hcc rfl hns hk
  obtain ⟨⟨a, vr, rfl, ea⟩, t, ht, hq⟩ := hbody qual scope (.ref cda) cc A outer s H vs Q E hloc hsp
  obtain ⟨t1, hat⟩ := exo_at I.hok ea
  have hat : h1.get? a = some ({ cls := .ref C, dict := none, data := .fields #[.ref t1, .none, .none, .none, .bool false, .none] } : Obj) := hat
  obtain ⟨nm, q, Nm, bs, bm, sn, sub, ab, col, dd, k0, k1, k2, k3, k5, hC, hbm⟩ := T.cls
  have K1 : K.In h1 := KX.keeps hk
  have hcl : PySem.W.clsIn K C = some { name := nm, bases := bs, mro := .ref C :: bm, ns := Nm, qualname := q, hasDict := true, slotNames := sn, subclasses := sub, abstract := ab, collection := col, hasDel := false } := by unfold PySem.W.clsIn; rw [hC] <;> rfl
  have us0 : ∃ ur, us = .ref a :: ur := by
    cases r with
    | @cons _ u0 _ ur ra rw' =>
      obtain rfl : u0 = Value.ref a := ra
      exact ⟨ur, rfl⟩
  have hself : (N.zip us).reverse.lookup ar.arg = some (.ref a) := by
    obtain ⟨ur, e⟩ := us0
    rw [har]
    exact zip_look S.nd hlu S.hd (by rw [e]; rfl)
  have hlself : scope.names.lookup ar.arg = some .local := by rw [har]; exact hloc _ (List.mem_of_getElem? S.hd)
  show _root_.PySem.wpAt (model P w) (A.deeper (PySem.W.ksEnv qual scope s.heap.objs.size f (.ref cda) cc)) (.func _ (PySem.W.ksEnv qual scope s.heap.objs.size f (.ref cda) cc)) (execs _ (PySem.W.ksEnv qual scope s.heap.objs.size f (.ref cda) cc)) _ _ _
  refine PySem.ks_wpAt_execs_cons (PySem.ks_wpAt_Expr_any (PySem.ks_wpAt_MethodCall (PySem.ks_wpAt_super_base (env := PySem.W.ksEnv qual scope s.heap.objs.size f (.ref cda) cc) hsup hcls (by decide) rfl (K1 _ _ lk) rfl hhd rfl (K1 _ _ hcda) rfl hxs hfile S.top ?_) (hev _)) (hin _) (hsw _))
  obtain ⟨mb, hm1, hm2⟩ := I.mod.blt
  refine PySem.W.ks_loadName_global hkind hsup (Calls.loadGlobal_builtin (env := PySem.W.ksEnv qual scope s.heap.objs.size f (.ref cda) cc) (I.mod.glob.keeps I.bk) S.sup (hm1.keeps I.bk) ((hm2 "super" (by decide)).trans PyProof.Rows.Boot.«super») ⟨rfl, ?_⟩)
  refine wpAny_loadName_free hkind hcls rfl ⟨_, K1 _ _ hcc, rfl⟩ ?_
  refine wpAny_loadName_local hkind hlself hns hself ?_
  refine PySem.ks_wpAny_isType_cls (K1 _ _ hC) rfl ⟨rfl, ?_⟩
  refine PySem.ks_wpAny_call_super (K1 _ _ hC) rfl hat rfl (fun c e => by cases e) (PySem.W.looks_mroIn K1 S.own) (fun h2 e2 k2 => ?_)
  have K2 : K.In h2 := K1.keeps k2
  have hat2 := k2 _ _ hat
  have I2 : PySem.W.InstAt h2 a { cls := .ref C, dict := none, data := .fields #[.ref t1, .none, .none, .none, .bool false, .none] } C none := ⟨hat2, rfl, rfl, trivial⟩
  have hal := S.meth
  unfold PySem.W.ks_superIn at hal
  rw [hcl] at hal
  refine PySem.W.kxs_getMethod PySem.W.kxs_ValueError e2 (PySem.W.looks_opaque K2 S.opq) (l₀ := .ref C :: bm) (fun A Q E s k q => wpAny_bind ((PySem.W.looks_clsIn K2 hcl) A _ E s k (wpAny_pure q))) rfl K2 hal (I2.type.andThen (PySem.W.looks_subIn K2 S.val)) (PySem.W.ks_ne K2 I2 hcl) (by decide) ?_
  have k3 : ∀ b o, h1.get? b = some o → (h2.push (PySem.W.kxs_mw "ValueError.__init__" a)).get? b = some o := fun b o q => Heap.get?_push_of_some _ (k2 b o q)
  have e3 : (h2.push (PySem.W.kxs_mw "ValueError.__init__" a)).get? h2.objs.size = some (PySem.W.kxs_mw "ValueError.__init__" a) := Heap.get?_push_at rfl rfl
  generalize h2.push (PySem.W.kxs_mw "ValueError.__init__" a) = h3 at k3 e3 ⊢
  generalize h2.objs.size = u at e3 ⊢
  have I3 : Inv (cxSup CX P w K mg base N qual scope f (.ref cda) cc A outer s H E) [] (L2.start N (.ref a :: vr)) H { s with heap := h3, toks := s.toks + (N.zip us).length + 1 } := I.kept k3
  dsimp only
  rw [hst]
  refine PySem.W.kxs_callWith (i := "ValueError.__init__") (x := a) (by show (false || (backTo p4 (starEach [] (PySem.W.ksEnv qual scope s.heap.objs.size f (.ref cda) cc))).any (·.1)) = false; rw [hpl]; rfl) (Calls.evalArgs_plain ?_)
  refine Calls.spliced_cons (Calls.Constant_str (k := kk) (pos := p3) (Calls.spliced_nil ⟨e3, ?_⟩))
  refine wpAny_call (codeAny_of_tree ?_)
  show wpAny _ (A.deeper (PySem.W.ksEnv qual scope s.heap.objs.size f (.ref cda) cc)).in1 (callAny (.ref u) ⟨[.str txt _], []⟩) _ _ _
  simp only [callAny]
  refine wpAny_bind (wpAny_load e3 ?_)
  simp only [PySem.W.kxs_mw, show (Value.type "method-wrapper" == Value.type "method" || Value.type "method-wrapper" == Value.type "builtin_function_or_method" || Value.type "method-wrapper" == Value.type "method-wrapper") = true by decide, if_true]
  refine PySem.W.KFB.if_so (by decide) ?_
  refine wpAny_bind (PySem.W.check_bound_init F.excBase_ValueError.toExcCallFacts (K1.keeps k3 _ _ hC) (k3 _ _ hat) rfl ?_)
  refine wpAny_bind (wpAny_pure (wpAny_pure ?_))
  refine ⟨plainId_quiet F.excBase_ValueError.init.plain _, codeAny_builtin F.excBase_ValueError.initEntry ?_⟩
  refine PySem.W.exc_init_tree (cls := .ref C) (t0 := t1) (dv := none) (c2 := .none) (c3 := .none) (b4 := .bool false) (k3 _ _ hat) (by rw [sizeLine_eq]; show 1 ≤ 16777216; decide) fun h5 k5 e5 _ => ?_
  have I5 : Inv (cxSup CX P w K mg base N qual scope f (.ref cda) cc A outer s H E) [] (L2.start N (.ref a :: vr)) (upd H a (exo a C none)) { s with heap := h5, toks := s.toks + (N.zip us).length + 1 + 1 } :=
    (I3.tok (s.toks + (N.zip us).length + 1 + 1)).write (x := a) (e := a) (o := exo a C none) (by rw [ea]; exact True.intro) (.inl rfl) k5 ⟨_, e5⟩ (exo_ok e5)
  have eu : upd H a (exo a C none) = H := by
    funext b
    by_cases hb : b = a
    · rw [hb, upd_same, ea]
    · rw [upd_ne hb]
  rw [eu] at I5
  refine wpAt_of_wpAny (wpAny_mono (ht.run [] _ (L2.start N (.ref a :: vr)) H _ I5 hq) (fun fl s' hs => ?_) fun e s' hs => hs)
  have fin : ∀ {σ' : L2.St} {H' : Hp} {v : V} {u : Value}, Inv (cxSup CX P w K mg base N qual scope f (.ref cda) cc A outer s H E) [] σ' H' s' → RelV v u → Q v H' → CE outer P w H s Q u s' :=
    fun {σ' H' v u} J rv q => ⟨v, H', J.os, J.bare, J.base, J.hok, rv, q⟩
  cases fl with
  | ret u =>
    obtain ⟨v, σ', H', J, rv, q⟩ := hs
    exact fin J rv q
  | next =>
    obtain ⟨σ', H', J, q⟩ := hs
    exact fin (v := V.non) (u := Value.none) J rfl q
  | brk =>
    obtain ⟨_, _, _, q⟩ := hs
    exact False.elim q
  | cont =>
    obtain ⟨_, _, _, q⟩ := hs
    exact False.elim q
end
end Ah
end
section
set_option Elab.async false
set_option linter.all false
set_option maxRecDepth 100000
set_option maxHeartbeats 2000000
/-! own exceptions with one field: made, raised, caught, read; isinstance of them. -/
namespace Ah
open PySem PySem.Spec PyProof.Rows L2
def spErr1 (C : Addr) (fld : Str) : Sp := fun vs H Q _ => ∃ a y, vs = [.ref a, y] ∧ H a = some (exo a C none) ∧ ∀ dx, H dx = none → dx ≠ a → Q .non (upd (upd H dx (exd dx [(fld, y)])) a (exo a C (some dx)))
section
variable {CX : CXT} {P : Program} {w : World} {K : PySem.W.Frag} {mg : Str → Option Value} {base : Heap} {f C : Addr}
theorem sup_one {fd : FuncData} {slf arg fld : Str} {p6 p7 p8 p9 : Pos} (S : SupFn P K mg f C fd [slf, arg] slf [.Assign [.Attribute (.Name slf p6) fld p7] (.Name arg p8) p9]) (T : OexC K C) (hno : PySem.W.findIn K (.ref C) fld = some none)
    (hd1 : (slf == ("__debug__" : Str)) = false) (hd2 : (slf == ("__classdict__" : Str)) = false) (hd3 : (arg == ("__debug__" : Str)) = false) (hd4 : (arg == ("__classdict__" : Str)) = false) :
    FnOk P w K mg base CX 1 f fd [slf, arg] (spErr1 C fld) := by
  refine sup_fn S T (fun vs H Q E h => by obtain ⟨a, y, rfl, _⟩ := h; rfl) (fun qual scope cd cc A outer s H vs Q E hv h => ?_)
  obtain ⟨a, y, rfl, ea, q⟩ := h
  refine ⟨⟨a, _, rfl, ea⟩, _, pss_one (ps_ost (pe_var (i := 0) rfl (.inl (hv _ (by simp))) hd1 hd2) (pe_var (i := 1) rfl (.inl (hv _ (by simp))) hd3 hd4) (by rfl)), ?_⟩
  exact ⟨y, rfl, .ref a, rfl, a, C, rfl, T, hno, .inl ⟨ea, fun dx hn hne => q dx hn hne⟩⟩
end
/-- what the written part says of a class of one field -/
structure One (K : PySem.W.Frag) (C fI : Addr) (fld : Str) : Prop where
  T : OexC K C
  xf : XfC K C
  iC : PySem.W.findIn K (.ref C) "__init__" = some (some (.ref fI))
  tI : PySem.W.typeIn K (.ref fI) = some (.type "function")
  hno : PySem.W.findIn K (.ref C) fld = some none
theorem one_q {H1 : Hp} {C : Addr} {fld : Str} {y : V} {Q : XK} (h : ∀ d, H1 d = none → Q (.ref C) (some d) (upd H1 d (.xd [(fld, y)]))) :
    [y].length ≤ 1000 ∧ ∀ a, H1 a = none → spErr1 C fld (.ref a :: ([y] ++ [])) (upd H1 a (exo a C none))
      (fun v H2 => v = .non ∧ ∃ (d : Addr) (fs : List (Str × V)), H2 a = some (exo a C (some d)) ∧ H2 d = some (exd d fs) ∧ H1 d = none ∧ Q (.ref C) (some d) (upd (del H2 a) d (.xd fs))) (fun _ _ _ => False) := by
  refine ⟨by simp, fun a na => ⟨a, y, rfl, upd_same, fun dx hn hne => ⟨rfl, dx, [(fld, y)], upd_same, ?_, ?_, ?_⟩⟩⟩
  · rw [upd_ne hne, upd_same]
  · rw [upd_ne hne] at hn
    exact hn
  · have e : upd (del (upd (upd (upd H1 a (exo a C none)) dx (exd dx [(fld, y)])) a (exo a C (some dx))) a) dx (.xd [(fld, y)]) = upd H1 dx (.xd [(fld, y)]) := by
      funext b
      by_cases hb : b = dx
      · rw [hb, upd_same, upd_same]
      · rw [upd_ne hb, upd_ne hb]
        by_cases ha : b = a
        · rw [ha, del_same, na]
        · rw [del_ne ha, upd_ne ha, upd_ne hb, upd_ne ha]
    rw [e]
    rw [upd_ne hne] at hn
    exact h dx hn
section
variable {X : Cx} {C fI : Addr} {fld : Str} {W : WX} {e : Expr} {te : TE} {x : Str} {p pos pos' : Pos} {fd : FuncData} {ps : List Str}
/-- raise X(e): behind [e]: one_q -/
theorem ps_raise1 (hc : X.calm = true) (tk : Takes X W) (R : One X.K C fI fld) (F1 : FnOk X.prog X.w X.K X.mg X.base (L2.CX X.prog X.w) 1 fI fd ps (spErr1 C fld)) (hr : Room 2 X.A) (hb : Binds X.K fd ps []) (hg : Gl X x) (hm : X.mg x = some (.ref C)) (he : PE X e te)
    (hdb : (x == ("__debug__" : Str)) = false := by decide) (hst : starEach [e] X.env = (false, eval e X.env) :: starEach [] X.env := by rfl) (hpl : (backTo pos (starEach [] X.env)).any (·.1) = false := by rfl) :
    PS X (.Raise (some (.Call (.Name x p) [e] [] pos)) none pos') (fun _ σ H => tMkO C (spErr1 C fld) [] (tCons te tNil) σ H fun cls d H' => W cls d σ H') :=
  ps_raise hc tk (pmk_oex (p := p) (pos := pos) R.T R.iC R.tI F1 hr hb .nil passL hg hm (pa_cons he pa_nil hst) hdb hst hpl)
end

/-! ### isinstance(e, c), e the exception that the suite holds, with a dict or none -/
def rIsD (K : PySem.W.Frag) (D a : Addr) (d : Option Addr) : List V → Hp → VK → Prop := fun xs H Q => ∃ (c : V) (cv : Value) (b : Bool), xs = [.ref a, c] ∧ (∀ u, RelV c u → u = cv) ∧ PySem.W.kitOne K (.ref D) cv = some b ∧ (∀ dd, d = some dd → ∃ fs, H dd = some (.xd fs)) ∧ Q (.bl b) H
theorem call_isD {X : Cx} {a D : Addr} {oe : Obj} {d : Option Addr} {pn : List (Addr × Obj)} (C : ExcC X.K D) (hz : Zc (.ref D) d oe) (hf : ∃ vs, oe.data = .fields vs) : CallR (X.suite a ((a, oe) :: pn)) (.builtin "isinstance") (rIsD X.K D a d) := by
  intro pins s σ H xs us Q I r h
  obtain ⟨c, cv, b, rfl, hcv, e, hdd, q⟩ := h
  cases r with
  | cons rx rr =>
    cases rr with
    | cons rt rr =>
      cases rr
      cases rx
      have ec := hcv _ rt
      subst ec
      obtain ⟨hget, _⟩ := I.pin (a, oe) (List.mem_append.mpr (.inl List.mem_cons_self))
      obtain ⟨vs, hv⟩ := hf
      obtain ⟨cd, hcl, _⟩ := PySem.W.any_some C.hd
      have J : ∃ od, PySem.W.InstAt s.heap a oe D od := by
        obtain ⟨oc, od, oda, osl⟩ := oe
        obtain ⟨h1, h2⟩ := hz
        dsimp only at h1 h2 hv
        subst h1 h2 hv
        cases od with
        | none => exact ⟨none, hget, rfl, rfl, trivial⟩
        | some dd =>
          obtain ⟨fs, hfs⟩ := hdd dd rfl
          have hx : ObjOk X.prog X.w H s.heap dd (.xd fs) := I.hok dd _ hfs
          obtain ⟨mA, hns, _⟩ := hx
          obtain ⟨o, ho, _⟩ := lookIn_ns hns
          exact ⟨some o, hget, rfl, rfl, ho⟩
      obtain ⟨od, J⟩ := J
      exact PySem.W.kia_one (PySem.W.kitx_exc (by rw [hcl]; rfl) C.hg C.hk C.hs C.ha C.hn C.ht C.hm) I.kIn J e (fun z => nomatch z) fun tk => ⟨.bl b, H, I.kept (t' := tk) fun _ _ z => z, rfl, q⟩
end Ah
end
section
set_option Elab.async false
set_option linter.all false
set_option maxRecDepth 100000
set_option maxHeartbeats 2000000
namespace Ah
open PySem PySem.Spec PyProof.Rows L2
open GxR (TabB TabG Tabbed)
open GxG
/-! ### numbers of rows -/
/-- whether it is a number from 0 to below m -/
def isNumL (m : Int) : V → Bool
  | .int i => decide (0 ≤ i) && decide (i < m)
  | _ => false
def NumV (v : V) : Prop := (∃ i, v = .int i) ∨ v = .non ∨ (∃ b, v = .bl b) ∨ ∃ z, v = .str z
def spNum : Sp := fun vs H Q _ => ∃ (v : V) (m : Int), vs = [v, .int m] ∧ NumV v ∧ Q (.bl (isNumL m v)) H
theorem scNum : FnScope ["number", "many"] ["number", "many"] (defScope sIsNumber) := ⟨rfl, rfl, rfl, by decide +kernel, rfl, by decide +kernel, by decide +kernel⟩
section
variable {P : Program} {w : World} {K : PySem.W.Frag} {mg : Str → Option Value} {base : Heap} {f fN C : Addr} {fd fdN : FuncData}
theorem ok_isnum (F : FnP K "is_number" sIsNumber f fd) (hi : mg "isinstance" = none) (hI : mg "int" = none) (hB : mg "bool" = none) : FnOk P w K mg base CX0 1 f fd ["number", "many"] spNum := by
  refine F.ok scNum (fun vs H Q E h => ?_) (fun cdv A outer s H vs Q E hr h => ?_)
  · obtain ⟨v, m, rfl, _⟩ := h
    rfl
  · obtain ⟨v, m, rfl, hv, k⟩ := h
    refine ⟨_, PSs.nox (pss_one (ps_ret (pe_and (pe_callB call_isi (by rfl) hi (by decide +kernel) (pa_cons (pv 0) (pa_cons (pe_bltn (v := .ty "int") (by rfl) hI (by decide +kernel) rfl) pa_nil)))
      (pe_and (pe_not (pe_callB call_isi (by rfl) hi (by decide +kernel) (pa_cons (pv 0) (pa_cons (pe_bltn (v := .ty "bool") (by rfl) hB (by decide +kernel) rfl) pa_nil))))
        (pe_one (pe_chain op_le op_lt pe_int (pv 0) (pv 1))))))), ?_⟩
    rcases hv with ⟨i, rfl⟩ | rfl | ⟨b, rfl⟩ | ⟨z, rfl⟩
    · refine ⟨_, rfl, _, _, _, _, true, rfl, ClsV.ty _, TyX.base (.int i), kit_ty (by decide +kernel), true, rfl, ?_⟩
      refine iteT ⟨_, rfl, _, _, _, _, false, rfl, ClsV.ty _, TyX.base (.int i), kit_ty (by decide +kernel), false, rfl, ?_⟩
      refine ⟨true, rfl, iteT ⟨_, rfl, 0, i, rfl, rfl, decide (0 ≤ i), rfl, ?_⟩⟩
      have k2 : Q (.bl (decide (0 ≤ i) && decide (i < m))) H := k
      cases h0 : decide (0 ≤ i) with
      | false =>
        rw [h0] at k2
        exact iteF k2
      | true =>
        rw [h0] at k2
        exact iteT ⟨_, rfl, i, m, rfl, rfl, k2⟩
    · exact ⟨_, rfl, _, _, _, _, false, rfl, ClsV.ty _, TyX.base .non, kit_ty (by decide +kernel), false, rfl, iteF k⟩
    · refine ⟨_, rfl, _, _, _, _, true, rfl, ClsV.ty _, TyX.base (.bl b), kit_ty (by decide +kernel), true, rfl, ?_⟩
      refine iteT ⟨_, rfl, _, _, _, _, true, rfl, ClsV.ty _, TyX.base (.bl b), kit_ty (by decide +kernel), true, rfl, ?_⟩
      exact ⟨false, rfl, iteF k⟩
    · exact ⟨_, rfl, _, _, _, _, false, rfl, ClsV.ty _, TyX.base (.str z), kit_ty (by decide +kernel), false, rfl, iteF k⟩
/-- check_number -/
def spChNum (C : Addr) : Sp := fun vs H Q E => ∃ (v : V) (m : Int), vs = [v, .int m] ∧ NumV v ∧ (isNumL m v = true → Q .non H) ∧ (isNumL m v = false → E (.ref C) none H)
theorem scChN : FnScope ["number", "many"] ["number", "many"] (defScope sCheckNumber) := ⟨rfl, rfl, rfl, by decide +kernel, rfl, by decide +kernel, by decide +kernel⟩
theorem ok_chnum (F : FnP K "check_number" sCheckNumber f fd) (gN : mg "is_number" = some (.ref fN)) (FN : FnOk P w K mg base CX0 1 fN fdN ["number", "many"] spNum) (kN : PySem.W.keepIn K (.ref fN) = true) (bN : Binds K fdN ["number", "many"] [])
    (gC : mg "NoRow" = some (.ref C)) (xC : PySem.W.excIn K C He.veBase "ValueError.__new__" = true) (kC : PySem.W.keepIn K (.ref C) = true) (bC : PySem.W.subIn K (.ref C) (.type "BaseException") = some true) (tC' : PySem.W.typeIn K (.ref C) = some (.type "type")) :
    FnOk P w K mg base (L2.CX P w) 2 f fd ["number", "many"] (spChNum C) := by
  refine F.ok scChN (fun vs H Q E h => ?_) (fun cdv A outer s H vs Q E hr h => ?_)
  · obtain ⟨v, m, rfl, _⟩ := h
    rfl
  · obtain ⟨v, m, rfl, hv, k1, k2⟩ := h
    refine ⟨_, pss_one (ps_if (pt_not (pt_val (pe_call FN (hr.mono (by decide)) (by rfl) gN kN bN .nil pass0 (pa_cons (pv 0) (pa_cons (pv 1) pa_nil)))))
      (pss_one (ps_raise rfl (takes_of rfl rfl rfl rfl) (pmk_own PySem.F.excBase_ValueError xC gC kC (raises_own bC tC') rfl))) pss_nil), ?_⟩
    refine ⟨_, rfl, _, rfl, v, m, rfl, hv, _, rfl, ?_⟩
    cases hb : isNumL m v with
    | true => exact iteF (k1 hb)
    | false => exact iteT (k2 hb)
end
end Ah
end
section
set_option Elab.async false
set_option linter.all false
set_option maxRecDepth 100000
set_option maxHeartbeats 2000000
namespace Ah
open PySem PySem.Spec PyProof.Rows L2
/-! ### the law's draws -/
theorem scLR : FnScope ["_law_script", "_law_mixed", "_law_cell"] ["_law_script"] (defScope lRow) := ⟨rfl, rfl, rfl, by decide +kernel, rfl, by decide +kernel, by decide +kernel⟩
theorem scLT : FnScope ["_law_row_here", "_law_many", "_law_found", "_law_cell"] ["_law_row_here", "_law_many"] (defScope lTaken) := ⟨rfl, rfl, rfl, by decide +kernel, rfl, by decide +kernel, by decide +kernel⟩
def spLRow (K : PySem.W.Frag) : Sp := fun vs H Q _ => ∃ (a : Addr) (ns : List Int), vs = [.ref a] ∧ SqL K H a (ns.map V.int) ∧ ns.length ≤ 63 ∧ ∀ (p : Addr) (m : Int), H p = none → Q (.ref p) (upd H p (.lst [.ref a, .int 0, .int 0, .int m]))
/-- the draws' state: the script, the place, what is left, the mixed number -/
def StAt (K : PySem.W.Frag) (H : Hp) (p a : Addr) (ns : List Int) : Prop := ∃ i r m : Int, H p = some (.lst [.ref a, .int i, .int r, .int m]) ∧ 0 ≤ i ∧ 0 ≤ r ∧ SqL K H a (ns.map V.int)
/-- all that was held is held, but at M -/
def Kept (M : List Addr) (H H' : Hp) : Prop := ∀ b o, H b = some o → b ∉ M → H' b = some o
def spTaken (K : PySem.W.Frag) : Sp := fun vs H Q _ => ∃ (p a : Addr) (ns : List Int) (many : Int), vs = [.ref p, .int many] ∧ StAt K H p a ns ∧ 0 < many ∧ many < 1000000 ∧
  ∀ (n : Int) (H' : Hp), 0 ≤ n → n < many → StAt K H' p a ns → Kept [p] H H' → Q (.int n) H'
theorem seqL_upd {K : PySem.W.Frag} {H : Hp} {a p : Addr} {o : HO} {xs ys : List V} (hp : H p = some (.lst ys)) (h : SqL K H a xs) (n : ys ≠ xs) : SqL K (upd H p o) a xs := by
  rcases h with (h | ⟨ob, h⟩) | h
  · exact .inl (.inl (by rw [upd_ne (fun e => n (by rw [e, hp] at h; cases h; rfl))]; exact h))
  · exact .inl (.inr ⟨ob, by rw [upd_ne (fun e => by rw [e, hp] at h; cases h)]; exact h⟩)
  · exact .inr h
section
variable {P : Program} {w : World} {K : PySem.W.Frag} {mg : Str → Option Value} {base : Heap} {f : Addr} {fd : FuncData}
theorem ok_lrow (F : FnP K "_law_row" lRow f fd) : FnOk P w K mg base CX0 1 f fd ["_law_script"] (spLRow K) := by
  refine F.ok scLR (fun vs H Q E h => ?_) (fun cdv A outer s H vs Q E hr h => ?_)
  · obtain ⟨a, ns, rfl, _⟩ := h
    rfl
  · obtain ⟨a, ns, rfl, hs, hl, k⟩ := h
    refine ⟨_, PSs.nox (pss_cons (ps_set (i := 1) scLR.nd rfl (.inl rfl) pe_int) (pss_cons (ps_for PassesOwn.never rfl (pi_list (pv 0)) (pg_name (i := 2) scLR.nd rfl (.inl rfl))
        (pss_one (ps_set (i := 1) scLR.nd rfl (.inl rfl) (pe_op op_mod (pe_op op_add (pe_op op_add (pe_op op_mul (pv 1) pe_int) (pv 2)) pe_int) pe_int))))
      (pss_one (ps_ret (pe_lst (pa_cons (pv 0) (pa_cons pe_int (pa_cons pe_int (pa_cons (pv 1) pa_nil))))))))), ?_⟩
    refine ⟨_, rfl, a, rfl, ⟨_, hs⟩, for_list (K := K) (a := a) (xs := ns.map V.int) (fun i σ H' => (∃ (m : Int) (v : Option V), σ = [some (.ref a), some (.int m), v]) ∧ H' = H) ⟨⟨7, none, rfl⟩, rfl⟩ (fun i σ H' _ pv => by rw [pv.2]; exact hs) ?_ ?_⟩
    · rintro i x σ Ha hi ⟨⟨m, v, rfl⟩, rfl⟩
      obtain ⟨c, rfl⟩ : ∃ c, x = V.int c := by
        obtain ⟨c, _, e⟩ := List.mem_map.mp (List.mem_of_getElem? hi)
        exact ⟨c, e.symm⟩
      exact ⟨_, rfl, _, _, rfl, rfl, .inr ⟨by decide, by decide⟩, _, rfl, _, _, rfl, rfl, _, _, rfl, rfl, _, _, rfl, rfl, (by decide : (0 : Int) < 2147483647), ⟨_, _, rfl⟩, rfl⟩
    · rintro σ Ha ⟨⟨m, v, rfl⟩, rfl⟩
      exact ⟨_, rfl, _, rfl, (by show 4 ≤ sizeLine; decide), fun p np => k p m np⟩
theorem ok_ltaken (F : FnP K "_law_taken" lTaken f fd) (hlen : mg "len" = none) : FnOk P w K mg base CX0 1 f fd ["_law_row_here", "_law_many"] (spTaken K) := by
  refine F.ok scLT (fun vs H Q E h => ?_) (fun cdv A outer s H vs Q E hr h => ?_)
  · obtain ⟨p, a, ns, many, rfl, _⟩ := h
    rfl
  · obtain ⟨p, a, ns, many, rfl, ⟨i, r, m, hp, hi, hr0, hs⟩, hm, hm2, k⟩ := h
    have ne : ∀ z1 z2 z3 : Int, ([.ref a, .int z1, .int z2, .int z3] : List V) ≠ ns.map V.int := fun z1 z2 z3 e => by
      cases ns with
      | nil => cases e
      | cons q qs => cases e
    have k : ∀ (n i r m : Int), 0 ≤ n → n < many → 0 ≤ i → 0 ≤ r → Q (.int n) (upd H p (.lst [.ref a, .int i, .int r, .int m])) := fun n i' r' m' h1 h2 h3 h4 =>
      k n _ h1 h2 ⟨i', r', m', upd_same, h3, h4, seqL_upd hp hs (ne _ _ _)⟩ fun b o e hb => by rw [upd_ne (fun z => hb (by simp [z]))]; exact e
    have sp : SqL K H p [.ref a, .int i, .int r, .int m] := .inl (.of hp)
    have cd : CDiv 5 many := ⟨hm, by omega⟩
    have a0 : ∀ {xs : List V} {j : Nat} {v : V} {z : Int}, z = (j : Int) → xs[j]? = some v → atI xs z = some v := fun h1 h2 => at_of h1 h2
    refine ⟨_, PSs.nox (pss_cons (ps_if (pt_cmpR op_gt (pe_ix ix_list (pv 0) pe_int (fun _ _ => rfl)) pe_int (nomark _))
        (pss_cons (ps_set (i := 2) scLT.nd rfl (.inl rfl) (pe_op op_mod (pe_ix ix_list (pv 0) pe_int (fun _ _ => rfl)) (pv 1)))
        (pss_cons (ps_asg (pe_op op_fdiv (pe_ix ix_list (pv 0) pe_int (fun _ _ => rfl)) (pv 1)) (pg_sub (pv 0) pe_int set_list))
        (pss_one (ps_ret (pv 2))))) pss_nil)
      (pss_cons (ps_if (pt_cmpR op_lt (pe_ix ix_list (pv 0) pe_int (fun _ _ => rfl)) (pe_callB call_len_seq (by rfl) hlen PySem.boot_len (pa_cons (pe_ix ix_list (pv 0) pe_int (fun _ _ => rfl)) pa_nil)) (nomark _))
        (pss_cons (ps_set (i := 3) scLT.nd rfl (.inl rfl) (pe_ix ix_list (pe_ix ix_list (pv 0) pe_int (fun _ _ => rfl)) (pe_ix ix_list (pv 0) pe_int (fun _ _ => rfl)) (fun _ _ => rfl)))
        (pss_cons (ps_asg (pe_op op_add (pe_ix ix_list (pv 0) pe_int (fun _ _ => rfl)) pe_int) (pg_sub (pv 0) pe_int set_list))
        (pss_cons (ps_if (pt_cmpR op_ge (pv 3) (pe_op op_pow pe_int pe_int) (nomark _)) (pss_one (ps_asg (pe_op op_fdiv (pv 3) (pv 1)) (pg_sub (pv 0) pe_int set_list))) pss_nil)
        (pss_one (ps_ret (pe_op op_mod (pv 3) (pv 1))))))) pss_nil)
      (pss_cons (ps_asg (pe_op op_mod (pe_op op_add (pe_op op_mul (pe_ix ix_list (pv 0) pe_int (fun _ _ => rfl)) pe_int) pe_int) pe_int) (pg_sub (pv 0) pe_int set_list))
      (pss_one (ps_ret (pe_op op_mod (pe_op op_fdiv (pe_ix ix_list (pv 0) pe_int (fun _ _ => rfl)) pe_int) (pv 1))))))), ?_⟩
    refine ⟨_, rfl, p, _, 2, _, rfl, rfl, sp, a0 (j := 2) rfl rfl, _, _, rfl, rfl, _, rfl, ?_⟩
    by_cases h2 : 0 < r
    · rw [decide_eq_true h2]
      refine iteT ⟨_, rfl, p, _, 2, _, rfl, rfl, sp, a0 (j := 2) rfl rfl, _, rfl, _, _, rfl, rfl, hm, ?_⟩
      refine ⟨_, rfl, p, _, 2, _, rfl, rfl, sp, a0 (j := 2) rfl rfl, _, rfl, _, _, rfl, rfl, ⟨hm, by omega⟩, ?_⟩
      refine ⟨_, rfl, p, _, 2, 2, rfl, rfl, hp, rfl, ?_⟩
      refine ⟨_, rfl, ?_⟩
      exact k (r % many) i (r / many) m (Int.emod_nonneg _ (by omega)) (Int.emod_lt_of_pos _ hm) hi (Int.ediv_nonneg hr0 (by omega))
    · rw [decide_eq_false h2]
      refine iteF ?_
      refine ⟨_, rfl, p, _, 1, _, rfl, rfl, sp, a0 (j := 1) rfl rfl, _, rfl, p, _, 0, _, rfl, rfl, sp, a0 (j := 0) rfl rfl, a, _, rfl, .inl hs, _, _, rfl, rfl, _, rfl, ?_⟩
      rw [List.length_map]
      by_cases h3 : i < (ns.length : Int)
      · rw [decide_eq_true h3]
        obtain ⟨j, rfl⟩ : ∃ j : Nat, i = (j : Int) := ⟨i.toNat, by omega⟩
        have hj : j < ns.length := by omega
        have ej : (ns.map V.int)[j]? = some (.int ns[j]) := by rw [List.getElem?_map, List.getElem?_eq_getElem hj]; rfl
        have up1 : upd H p (.lst [.ref a, .int ((j : Int) + 1), .int r, .int m]) p = some (.lst [.ref a, .int ((j : Int) + 1), .int r, .int m]) := upd_same
        refine iteT ⟨_, rfl, p, _, 0, _, rfl, rfl, sp, a0 (j := 0) rfl rfl, _, rfl, p, _, 1, _, rfl, rfl, sp, a0 (j := 1) rfl rfl, a, _, _, _, rfl, rfl, hs, a0 rfl ej, ?_⟩
        refine ⟨_, rfl, p, _, 1, _, rfl, rfl, sp, a0 (j := 1) rfl rfl, _, _, rfl, rfl, ?_⟩
        refine ⟨_, rfl, p, _, 1, 1, rfl, rfl, hp, rfl, ?_⟩
        refine ⟨_, rfl, _, _, rfl, rfl, ⟨by decide, by decide, by decide⟩, _, _, rfl, rfl, _, rfl, ?_⟩
        have md : 0 ≤ ns[j] % many ∧ ns[j] % many < many := ⟨Int.emod_nonneg _ (by omega), Int.emod_lt_of_pos _ hm⟩
        refine ite2 (fun hb => ?_) (fun _ => ?_)
        · refine ⟨_, rfl, _, rfl, _, _, rfl, rfl, ⟨hm, by omega⟩, ?_⟩
          refine ⟨_, rfl, p, _, 2, 2, rfl, rfl, up1, rfl, ?_⟩
          refine ⟨_, rfl, _, rfl, _, _, rfl, rfl, hm, ?_⟩
          have q := k (ns[j] % many) ((j : Int) + 1) (ns[j] / many) m md.1 md.2 (by omega) (Int.ediv_nonneg (by
            have hb' := of_decide_eq_true hb
            have : (0 : Int) ≤ 10 ^ (18 : Int).toNat := by decide
            omega) (by omega))
          rw [upd_upd]
          exact q
        · refine ⟨_, rfl, _, rfl, _, _, rfl, rfl, hm, ?_⟩
          exact k _ ((j : Int) + 1) r m md.1 md.2 (by omega) hr0
      · rw [decide_eq_false h3]
        refine iteF ?_
        refine ⟨_, rfl, p, _, 3, _, rfl, rfl, sp, a0 (j := 3) rfl rfl, _, _, rfl, rfl, .inr ⟨by decide, by decide⟩, _, _, rfl, rfl, _, _, rfl, rfl, (by decide : (0 : Int) < 2147483647), ?_⟩
        refine ⟨_, rfl, p, _, 3, 3, rfl, rfl, hp, rfl, ?_⟩
        refine ⟨_, rfl, p, _, 3, _, rfl, rfl, .inl (.of upd_same), a0 (j := 3) rfl rfl, _, _, rfl, rfl, ⟨by decide, by decide⟩, _, rfl, _, _, rfl, rfl, hm, ?_⟩
        exact k _ i r _ (Int.emod_nonneg _ (by omega)) (Int.emod_lt_of_pos _ hm) hi hr0
end
end Ah
end
section
set_option Elab.async false
set_option linter.all false
set_option maxRecDepth 100000
set_option maxHeartbeats 2000000
namespace Ah
open PySem PySem.Spec PyProof.Rows L2
/-! ### rows and sayings as data -/
inductive Rw where
  | is (n k : Str) | isnt (n k : Str) | has (n t m : Str) | hasnt (n t m : Str) | all (k l : Str) | no (k l : Str) | each (k t m : Str) | who (t k l : Str) | turned (t s : Str) | on (t : Str) | fr (t k : Str) | to (t k : Str) | under (t s : Str)
  deriving DecidableEq
def Rw.ws : Rw → List Str
  | .is n k => ["is", n, k] | .isnt n k => ["isnt", n, k] | .has n t m => ["has", n, t, m] | .hasnt n t m => ["hasnt", n, t, m] | .all k l => ["all", k, l] | .no k l => ["no", k, l]
  | .each k t m => ["each", k, t, m] | .who t k l => ["who", t, k, l] | .turned t s => ["turned", t, s] | .on t => ["on", t] | .fr t k => ["from", t, k] | .to t k => ["to", t, k] | .under t s => ["under", t, s]
def namesL : List Str := ["ann", "ben", "cy"]
def kindsL : List Str := ["cat", "dog", "owl"]
def tiesL : List Str := ["likes", "owns"]
/-- a row of the law's few words -/
def Rw.few : Rw → Prop
  | .is n k => n ∈ namesL ∧ k ∈ kindsL | .isnt n k => n ∈ namesL ∧ k ∈ kindsL | .has n t m => n ∈ namesL ∧ t ∈ tiesL ∧ m ∈ namesL | .hasnt n t m => n ∈ namesL ∧ t ∈ tiesL ∧ m ∈ namesL
  | .all k l => k ∈ kindsL ∧ l ∈ kindsL | .no k l => k ∈ kindsL ∧ l ∈ kindsL | .each k t m => k ∈ kindsL ∧ t ∈ tiesL ∧ m ∈ namesL | .who t k l => t ∈ tiesL ∧ k ∈ kindsL ∧ l ∈ kindsL
  | .turned t s => t ∈ tiesL ∧ s ∈ tiesL | .on t => t ∈ tiesL | .fr t k => t ∈ tiesL ∧ k ∈ kindsL | .to t k => t ∈ tiesL ∧ k ∈ kindsL | .under t s => t ∈ tiesL ∧ s ∈ tiesL
theorem Kept.refl {M : List Addr} (H : Hp) : Kept M H H := fun _ _ e _ => e
theorem Kept.trans {M : List Addr} {H H1 H2 : Hp} (a : Kept M H H1) (b : Kept M H1 H2) : Kept M H H2 := fun p o e n => b p o (a p o e n) n
theorem Kept.mono {M M' : List Addr} {H H1 : Hp} (a : Kept M H H1) (h : ∀ b ∈ M, b ∈ M') : Kept M' H H1 := fun p o e n => a p o e fun z => n (h p z)
theorem Kept.upd {M : List Addr} {H H1 : Hp} {p : Addr} {o : HO} (a : Kept M H H1) (n : H1 p = none) : Kept M H (upd H1 p o) := fun b u e hb => by
  have q := a b u e hb
  rw [upd_ne (ne_of_none q n)]
  exact q
/-- what stands at an address not in M: it is another than M's -/
theorem notin1 {H : Hp} {a p : Addr} {o u : HO} (h : H a = some o) (hp : H p = some u) (d : o ≠ u) : a ∉ [p] := fun z => by
  rw [List.mem_singleton.mp z, hp] at h
  exact d (Option.some.inj h).symm
theorem StAt.ob {K : PySem.W.Frag} {H : Hp} {p a : Addr} {ns : List Int} (S : StAt K H p a ns) : ∃ xs, H p = some (.lst xs) := let ⟨_, _, _, h, _⟩ := S; ⟨_, h⟩
theorem StAt.upd {K : PySem.W.Frag} {H : Hp} {p a q : Addr} {ns : List Int} {o : HO} (S : StAt K H p a ns) (n : H q = none) : StAt K (upd H q o) p a ns := by
  obtain ⟨i, r, m, h, h1, h2, h3⟩ := S
  refine ⟨i, r, m, by rw [upd_ne (ne_of_none h n)]; exact h, h1, h2, ?_⟩
  rcases h3 with (h3 | ⟨ob, h3⟩) | h3
  · exact .inl (.inl (by rw [upd_ne (ne_of_none h3 n)]; exact h3))
  · exact .inl (.inr ⟨ob, by rw [upd_ne (ne_of_none h3 n)]; exact h3⟩)
  · exact .inr h3
/-! ### displays -/
/-- arguments that are evaluated without a change: their values -/
def ValA (t : TA) (σ : L2.St) (vs : List V) : Prop := ∀ H (Q : List V → Hp → Prop), Q vs H → t σ H Q
theorem valA_nil {σ : L2.St} : ValA tNil σ [] := fun _ _ h => h
theorem valA_str {σ : L2.St} {t : TA} {z : Str} {vs : List V} (h : ValA t σ vs) : ValA (tCons (tC (.str z)) t) σ (.str z :: vs) := fun H Q q => h H _ q
theorem valA_var {σ : L2.St} {t : TA} {i : Nat} {v : V} {vs : List V} (e : σ[i]? = some (some v)) (h : ValA t σ vs) : ValA (tCons (tVar i) t) σ (v :: vs) := fun H Q q => ⟨v, e, h H _ q⟩
/-- arguments that are new tuples -/
def MkA (t : TA) (σ : L2.St) (xss : List (List V)) : Prop := ∀ H (Q : List V → Hp → Prop), (∀ (ps : List Addr) H', Kept [] H H' → Paired (fun p xs => H' p = some (.tup xs)) ps xss → Q (ps.map V.ref) H') → t σ H Q
theorem mkA_nil {σ : L2.St} : MkA tNil σ [] := fun H Q h => h [] H (Kept.refl H) .nil
theorem mkA_cons {σ : L2.St} {s t : TA} {xs : List V} {xss : List (List V)} (hs : ValA s σ xs) (h : MkA t σ xss) (hl : xs.length ≤ 100 := by exact Nat.le_of_ble_eq_true rfl) : MkA (tCons (tTup s) t) σ (xs :: xss) := fun H Q q =>
  hs H _ ⟨Nat.le_trans hl (by decide), fun p np => h _ _ fun ps H' k r => q (p :: ps) H' (fun b o e hb => k b o (by rw [upd_ne (ne_of_none e np)]; exact e) hb) (.cons (k p _ upd_same (by simp)) r)⟩
/-- [..][_law_taken(row, m)]: one of them -/
theorem rd_pick {K : PySem.W.Frag} {σ : L2.St} {H : Hp} {Q : VK} {tl : TA} {l : List Str} {m : Int} {p a : Addr} {ns : List Int} {E : XK} (hl : ValA tl σ (l.map V.str)) (hm : m = (l.length : Int)) (h0 : 0 < l.length) (h1 : l.length ≤ 100)
    (hσ : σ[0]? = some (some (.ref p))) (S : StAt K H p a ns) (h : ∀ z ∈ l, ∀ H', StAt K H' p a ns → Kept [p] H H' → Q (.str z) H') :
    tOp (rIxL K) (tLst tl) (tCall (spTaken K) [] E (tCons (tVar 0) (tCons (tC (.int m)) tNil))) σ H Q := by
  refine hl H _ ⟨by rw [List.length_map]; exact Nat.le_trans h1 (by decide), fun q nq => ?_⟩
  refine ⟨_, hσ, p, a, ns, m, rfl, S.upd nq, by omega, by omega, fun n H' hn0 hn1 S' k => ?_⟩
  obtain ⟨j, rfl⟩ : ∃ j : Nat, n = (j : Int) := ⟨n.toNat, by omega⟩
  have hj : j < l.length := by omega
  obtain ⟨xs, hp⟩ := S.ob
  have hq : q ∉ [p] := fun z => by
    rw [List.mem_singleton.mp z, hp] at nq
    cases nq
  refine ⟨q, l.map V.str, (j : Int), .str l[j], rfl, rfl, .inl (.of (k q _ upd_same hq)), at_of (j := j) rfl (by rw [List.getElem?_map, List.getElem?_eq_getElem hj]; rfl), ?_⟩
  exact h _ (List.getElem_mem hj) H' S' fun b o e hb => k b o (by rw [upd_ne (ne_of_none e nq)]; exact e) hb
theorem mkL {t : TA} {σ : L2.St} {xss : List (List V)} {H : Hp} {Q : VK} (h : MkA t σ xss) (hl : xss.length ≤ 100) (k : ∀ (ps : List Addr) (l : Addr) H', Kept [] H H' → Paired (fun p xs => H' p = some (.tup xs)) ps xss → H' l = some (.lst (ps.map V.ref)) → Q (.ref l) H') : tLst t σ H Q :=
  h H _ fun ps H' k1 r => ⟨by rw [List.length_map, r.length]; exact Nat.le_trans hl (by decide), fun l nl => k ps l _ (k1.upd nl) (Paired.mapP r fun p xs e => by rw [upd_ne (ne_of_none e nl)]; exact e) upd_same⟩
/-- statement by statement -/
theorem seq_set {te : TE} {i : Nat} {rest : TS} {D : Ends} {σ : L2.St} {H : Hp} (h : te σ H fun x H1 => rest D (σ.set i (some x)) H1) : tSeq (tAsg te (gName i)) rest D σ H := h
theorem ret_of {te : TE} {D : Ends} {σ : L2.St} {H : Hp} (h : te σ H D.rt) : tRet te D σ H := h
theorem op_of {r : R2} {ta tb : TE} {σ : L2.St} {H : Hp} {Q : VK} (h : ta σ H fun x H1 => tb σ H1 fun y H2 => r x y H2 Q) : tOp r ta tb σ H Q := h
theorem paired_app {α β : Type} {F : α → β → Prop} : ∀ {l₁ m₁ : List α} {l₂ m₂ : List β}, Paired F l₁ l₂ → Paired F m₁ m₂ → Paired F (l₁ ++ m₁) (l₂ ++ m₂)
  | _, _, _, _, .nil, h => h
  | _, _, _, _, .cons r t, h => .cons r (paired_app t h)
theorem paired_at {α β : Type} {F : α → β → Prop} : ∀ {l₁ : List α} {l₂ : List β} {i : Nat} {a : α}, Paired F l₁ l₂ → l₁[i]? = some a → ∃ b, l₂[i]? = some b ∧ F a b
  | _, _, _, _, .nil, h => by simp at h
  | _, _, 0, _, .cons r t, h => by
    simp at h
    subst h
    exact ⟨_, rfl, r⟩
  | _, _, i + 1, _, .cons r t, h => by
    obtain ⟨b, e, f⟩ := paired_at (i := i) t (by simpa using h)
    exact ⟨b, by simpa using e, f⟩
theorem StAt.kept {K : PySem.W.Frag} {H H' : Hp} {p a : Addr} {ns : List Int} (S : StAt K H p a ns) (k : Kept [] H H') : StAt K H' p a ns := by
  obtain ⟨i, r, m, h, h1, h2, h3⟩ := S
  refine ⟨i, r, m, k _ _ h (by simp), h1, h2, ?_⟩
  rcases h3 with (h3 | ⟨ob, h3⟩) | h3
  · exact .inl (.inl (k _ _ h3 (by simp)))
  · exact .inl (.inr ⟨ob, k _ _ h3 (by simp)⟩)
  · exact .inr h3
theorem few16 {n m c d t u : Str} (hn : n ∈ namesL) (hm : m ∈ namesL) (hc : c ∈ kindsL) (hd : d ∈ kindsL) (ht : t ∈ tiesL) (hu : u ∈ tiesL) :
    ∀ xs ∈ ([[.str "is", .str n, .str c], [.str "is", .str n, .str c], [.str "has", .str n, .str t, .str m], [.str "has", .str n, .str t, .str m], [.str "has", .str n, .str t, .str m], [.str "all", .str c, .str d]] ++
      [[.str "isnt", .str n, .str c], [.str "hasnt", .str n, .str t, .str m], [.str "no", .str c, .str d], [.str "each", .str c, .str t, .str m], [.str "who", .str t, .str c, .str d]] ++
      [[.str "turned", .str t, .str u], [.str "on", .str t], [.str "from", .str t, .str c], [.str "to", .str t, .str c], [.str "under", .str t, .str u]] : List (List V)), ∃ r : Rw, r.few ∧ xs = r.ws.map V.str := by
  intro xs hx
  simp only [List.mem_append, List.mem_cons, List.not_mem_nil, or_false] at hx
  rcases hx with ((e | e | e | e | e | e) | (e | e | e | e | e)) | (e | e | e | e | e)
  · exact ⟨.is n c, ⟨hn, hc⟩, e⟩
  · exact ⟨.is n c, ⟨hn, hc⟩, e⟩
  · exact ⟨.has n t m, ⟨hn, ht, hm⟩, e⟩
  · exact ⟨.has n t m, ⟨hn, ht, hm⟩, e⟩
  · exact ⟨.has n t m, ⟨hn, ht, hm⟩, e⟩
  · exact ⟨.all c d, ⟨hc, hd⟩, e⟩
  · exact ⟨.isnt n c, ⟨hn, hc⟩, e⟩
  · exact ⟨.hasnt n t m, ⟨hn, ht, hm⟩, e⟩
  · exact ⟨.no c d, ⟨hc, hd⟩, e⟩
  · exact ⟨.each c t m, ⟨hc, ht, hm⟩, e⟩
  · exact ⟨.who t c d, ⟨ht, hc, hd⟩, e⟩
  · exact ⟨.turned t u, ⟨ht, hu⟩, e⟩
  · exact ⟨.on t, ht, e⟩
  · exact ⟨.fr t c, ⟨ht, hc⟩, e⟩
  · exact ⟨.to t c, ⟨ht, hc⟩, e⟩
  · exact ⟨.under t u, ⟨ht, hu⟩, e⟩
/-- the slots -/
def sg (p : Addr) (n m c d t u : Str) (v : Option V) : L2.St := [some (.ref p), some (.str n), some (.str m), some (.str c), some (.str d), some (.str t), some (.str u), v]
theorem scLOne : FnScope ["_law_row_here", "_law_n", "_law_m", "_law_k", "_law_l", "_law_t", "_law_s", "_law_some"] ["_law_row_here"] (defScope lOne) := ⟨rfl, rfl, rfl, by decide +kernel, rfl, by decide +kernel, by decide +kernel⟩
def spOne (K : PySem.W.Frag) : Sp := fun vs H Q _ => ∃ (p a : Addr) (ns : List Int), vs = [.ref p] ∧ StAt K H p a ns ∧
  ∀ (q : Addr) (r : Rw) (H' : Hp), r.few → StAt K H' p a ns → Kept [p] H H' → H' q = some (.tup (r.ws.map V.str)) → Q (.ref q) H'
section
variable {P : Program} {w : World} {K : PySem.W.Frag} {mg : Str → Option Value} {base : Heap} {f fT : Addr} {fd fdT : FuncData}
theorem ok_lone (F : FnP K "_law_one" lOne f fd) (gT : mg "_law_taken" = some (.ref fT)) (FT : FnOk P w K mg base CX0 1 fT fdT ["_law_row_here", "_law_many"] (spTaken K)) (kT : PySem.W.keepIn K (.ref fT) = true) (bT : Binds K fdT ["_law_row_here", "_law_many"] []) :
    FnOk P w K mg base CX0 2 f fd ["_law_row_here"] (spOne K) := by
  refine F.ok scLOne (fun vs H Q E h => ?_) (fun cdv A outer s H vs Q E hr h => ?_)
  · obtain ⟨p, a, ns, rfl, _⟩ := h
    rfl
  · obtain ⟨p, a, ns, rfl, S, k⟩ := h
    refine ⟨_, PSs.nox (pss_cons (ps_par (by rfl) scLOne.nd (i := 1) (j := 2) rfl rfl (by decide) rfl rfl (pa_cons (pe_ix ix_list (pe_lst (pa_cons pe_str (pa_cons pe_str (pa_cons pe_str pa_nil)))) (pe_call FT hr (by rfl) gT kT bT .nil pass0 (pa_cons (pv 0) (pa_cons pe_int pa_nil))) (fun _ _ => rfl)) (pa_cons (pe_ix ix_list (pe_lst (pa_cons pe_str (pa_cons pe_str (pa_cons pe_str pa_nil)))) (pe_call FT hr (by rfl) gT kT bT .nil pass0 (pa_cons (pv 0) (pa_cons pe_int pa_nil))) (fun _ _ => rfl)) pa_nil)) (by rfl))
      (pss_cons (ps_par (by rfl) scLOne.nd (i := 3) (j := 4) rfl rfl (by decide) rfl rfl (pa_cons (pe_ix ix_list (pe_lst (pa_cons pe_str (pa_cons pe_str (pa_cons pe_str pa_nil)))) (pe_call FT hr (by rfl) gT kT bT .nil pass0 (pa_cons (pv 0) (pa_cons pe_int pa_nil))) (fun _ _ => rfl)) (pa_cons (pe_ix ix_list (pe_lst (pa_cons pe_str (pa_cons pe_str (pa_cons pe_str pa_nil)))) (pe_call FT hr (by rfl) gT kT bT .nil pass0 (pa_cons (pv 0) (pa_cons pe_int pa_nil))) (fun _ _ => rfl)) pa_nil)) (by rfl))
      (pss_cons (ps_par (by rfl) scLOne.nd (i := 5) (j := 6) rfl rfl (by decide) rfl rfl (pa_cons (pe_ix ix_list (pe_lst (pa_cons pe_str (pa_cons pe_str pa_nil))) (pe_call FT hr (by rfl) gT kT bT .nil pass0 (pa_cons (pv 0) (pa_cons pe_int pa_nil))) (fun _ _ => rfl)) (pa_cons (pe_ix ix_list (pe_lst (pa_cons pe_str (pa_cons pe_str pa_nil))) (pe_call FT hr (by rfl) gT kT bT .nil pass0 (pa_cons (pv 0) (pa_cons pe_int pa_nil))) (fun _ _ => rfl)) pa_nil)) (by rfl))
      (pss_cons (ps_set (i := 7) scLOne.nd rfl (.inl rfl) (pe_lst (pa_cons (pe_tup (pa_cons pe_str (pa_cons (pv 1) (pa_cons (pv 3) pa_nil)))) (pa_cons (pe_tup (pa_cons pe_str (pa_cons (pv 1) (pa_cons (pv 3) pa_nil)))) (pa_cons (pe_tup (pa_cons pe_str (pa_cons (pv 1) (pa_cons (pv 5) (pa_cons (pv 2) pa_nil))))) (pa_cons (pe_tup (pa_cons pe_str (pa_cons (pv 1) (pa_cons (pv 5) (pa_cons (pv 2) pa_nil))))) (pa_cons (pe_tup (pa_cons pe_str (pa_cons (pv 1) (pa_cons (pv 5) (pa_cons (pv 2) pa_nil))))) (pa_cons (pe_tup (pa_cons pe_str (pa_cons (pv 3) (pa_cons (pv 4) pa_nil)))) pa_nil))))))))
      (pss_cons (ps_set (i := 7) scLOne.nd rfl (.inl rfl) (pe_op op_cat (pv 7) (pe_lst (pa_cons (pe_tup (pa_cons pe_str (pa_cons (pv 1) (pa_cons (pv 3) pa_nil)))) (pa_cons (pe_tup (pa_cons pe_str (pa_cons (pv 1) (pa_cons (pv 5) (pa_cons (pv 2) pa_nil))))) (pa_cons (pe_tup (pa_cons pe_str (pa_cons (pv 3) (pa_cons (pv 4) pa_nil)))) (pa_cons (pe_tup (pa_cons pe_str (pa_cons (pv 3) (pa_cons (pv 5) (pa_cons (pv 2) pa_nil))))) (pa_cons (pe_tup (pa_cons pe_str (pa_cons (pv 5) (pa_cons (pv 3) (pa_cons (pv 4) pa_nil))))) pa_nil))))))))
      (pss_cons (ps_set (i := 7) scLOne.nd rfl (.inl rfl) (pe_op op_cat (pv 7) (pe_lst (pa_cons (pe_tup (pa_cons pe_str (pa_cons (pv 5) (pa_cons (pv 6) pa_nil)))) (pa_cons (pe_tup (pa_cons pe_str (pa_cons (pv 5) pa_nil))) (pa_cons (pe_tup (pa_cons pe_str (pa_cons (pv 5) (pa_cons (pv 3) pa_nil)))) (pa_cons (pe_tup (pa_cons pe_str (pa_cons (pv 5) (pa_cons (pv 3) pa_nil)))) (pa_cons (pe_tup (pa_cons pe_str (pa_cons (pv 5) (pa_cons (pv 6) pa_nil)))) pa_nil))))))))
      (pss_one (ps_ret (pe_ix ix_list (pv 7) (pe_call FT hr (by rfl) gT kT bT .nil pass0 (pa_cons (pv 0) (pa_cons pe_int pa_nil))) (fun _ _ => rfl)))))))))), ?_⟩
    refine rd_pick (l := namesL) (valA_str (valA_str (valA_str valA_nil))) rfl (by decide) (by decide) rfl S fun n hn H1 S1 k1 => ?_
    refine rd_pick (l := namesL) (valA_str (valA_str (valA_str valA_nil))) rfl (by decide) (by decide) rfl S1 fun m hm H2 S2 k2 => ⟨_, _, rfl, ?_⟩
    refine rd_pick (l := kindsL) (valA_str (valA_str (valA_str valA_nil))) rfl (by decide) (by decide) rfl S2 fun c hc H3 S3 k3 => ?_
    refine rd_pick (l := kindsL) (valA_str (valA_str (valA_str valA_nil))) rfl (by decide) (by decide) rfl S3 fun d hd H4 S4 k4 => ⟨_, _, rfl, ?_⟩
    refine rd_pick (l := tiesL) (valA_str (valA_str valA_nil)) rfl (by decide) (by decide) rfl S4 fun t ht H5 S5 k5 => ?_
    refine rd_pick (l := tiesL) (valA_str (valA_str valA_nil)) rfl (by decide) (by decide) rfl S5 fun u hu H6 S6 k6 => ⟨_, _, rfl, ?_⟩
    have A1 : MkA _ (sg p n m c d t u none) [[.str "is", .str n, .str c], [.str "is", .str n, .str c], [.str "has", .str n, .str t, .str m], [.str "has", .str n, .str t, .str m], [.str "has", .str n, .str t, .str m], [.str "all", .str c, .str d]] :=
      mkA_cons (valA_str (valA_var (i := 1) rfl (valA_var (i := 3) rfl valA_nil))) (mkA_cons (valA_str (valA_var (i := 1) rfl (valA_var (i := 3) rfl valA_nil))) (mkA_cons (valA_str (valA_var (i := 1) rfl (valA_var (i := 5) rfl (valA_var (i := 2) rfl valA_nil)))) (mkA_cons (valA_str (valA_var (i := 1) rfl (valA_var (i := 5) rfl (valA_var (i := 2) rfl valA_nil)))) (mkA_cons (valA_str (valA_var (i := 1) rfl (valA_var (i := 5) rfl (valA_var (i := 2) rfl valA_nil)))) (mkA_cons (valA_str (valA_var (i := 3) rfl (valA_var (i := 4) rfl valA_nil))) mkA_nil)))))
    dsimp only
    refine seq_set ?_
    change tLst _ (sg p n m c d t u none) H6 _
    refine mkL A1 (by exact Nat.le_of_ble_eq_true rfl) fun ps1 l1 H7 k7 r7 e7 => ?_
    change tSeq (tAsg _ (gName 7)) _ _ (sg p n m c d t u (some (.ref l1))) H7
    refine seq_set (op_of ⟨_, rfl, ?_⟩)
    change tLst _ (sg p n m c d t u (some (.ref l1))) H7 _
    have A2 : MkA _ (sg p n m c d t u (some (.ref l1))) [[.str "isnt", .str n, .str c], [.str "hasnt", .str n, .str t, .str m], [.str "no", .str c, .str d], [.str "each", .str c, .str t, .str m], [.str "who", .str t, .str c, .str d]] :=
      mkA_cons (valA_str (valA_var (i := 1) rfl (valA_var (i := 3) rfl valA_nil))) (mkA_cons (valA_str (valA_var (i := 1) rfl (valA_var (i := 5) rfl (valA_var (i := 2) rfl valA_nil)))) (mkA_cons (valA_str (valA_var (i := 3) rfl (valA_var (i := 4) rfl valA_nil))) (mkA_cons (valA_str (valA_var (i := 3) rfl (valA_var (i := 5) rfl (valA_var (i := 2) rfl valA_nil)))) (mkA_cons (valA_str (valA_var (i := 5) rfl (valA_var (i := 3) rfl (valA_var (i := 4) rfl valA_nil)))) mkA_nil))))
    refine mkL A2 (by exact Nat.le_of_ble_eq_true rfl) fun ps2 l2 H8 k8 r8 e8 => ?_
    refine ⟨l1, l2, _, _, rfl, rfl, k8 l1 _ e7 (by simp), e8, ?_, fun l3 n3 => ?_⟩
    · rw [List.length_map, List.length_map, r7.length, r8.length]; exact Nat.le_of_ble_eq_true rfl
    change tSeq (tAsg _ (gName 7)) _ _ (sg p n m c d t u (some (.ref l3))) _
    refine seq_set (op_of ⟨_, rfl, ?_⟩)
    change tLst _ (sg p n m c d t u (some (.ref l3))) _ _
    have A3 : MkA _ (sg p n m c d t u (some (.ref l3))) [[.str "turned", .str t, .str u], [.str "on", .str t], [.str "from", .str t, .str c], [.str "to", .str t, .str c], [.str "under", .str t, .str u]] :=
      mkA_cons (valA_str (valA_var (i := 5) rfl (valA_var (i := 6) rfl valA_nil))) (mkA_cons (valA_str (valA_var (i := 5) rfl valA_nil)) (mkA_cons (valA_str (valA_var (i := 5) rfl (valA_var (i := 3) rfl valA_nil))) (mkA_cons (valA_str (valA_var (i := 5) rfl (valA_var (i := 3) rfl valA_nil))) (mkA_cons (valA_str (valA_var (i := 5) rfl (valA_var (i := 6) rfl valA_nil))) mkA_nil))))
    refine mkL A3 (by exact Nat.le_of_ble_eq_true rfl) fun ps3 l4 H9 k9 r9 e9 => ?_
    refine ⟨l3, l4, _, _, rfl, rfl, k9 l3 _ upd_same (by simp), e9, ?_, fun l5 n5 => ?_⟩
    · rw [List.length_append, List.length_map, List.length_map, List.length_map, r7.length, r8.length, r9.length]; exact Nat.le_of_ble_eq_true rfl
    change tRet _ _ (sg p n m c d t u (some (.ref l5))) _
    refine ret_of (op_of ⟨_, rfl, ?_⟩)
    have kA : Kept [] H6 (L2.upd H8 l3 (.lst (ps1.map V.ref ++ ps2.map V.ref))) := (k7.trans k8).upd n3
    have kB : Kept [] H6 (L2.upd H9 l5 (.lst (ps1.map V.ref ++ ps2.map V.ref ++ ps3.map V.ref))) := (kA.trans k9).upd n5
    have k89 : Kept [] H8 (L2.upd H9 l5 (.lst (ps1.map V.ref ++ ps2.map V.ref ++ ps3.map V.ref))) := (((Kept.refl H8).upd n3).trans k9).upd n5
    have k99 : Kept [] H9 (L2.upd H9 l5 (.lst (ps1.map V.ref ++ ps2.map V.ref ++ ps3.map V.ref))) := (Kept.refl H9).upd n5
    have rr := (paired_app (paired_app (Paired.mapP r7 fun q xs e => k89 q _ (k8 q _ e (by simp)) (by simp)) (Paired.mapP r8 fun q xs e => k89 q _ e (by simp))) (Paired.mapP r9 fun q xs e => k99 q _ e (by simp)))
    have e5 : L2.upd H9 l5 (.lst (ps1.map V.ref ++ ps2.map V.ref ++ ps3.map V.ref)) l5 = some (.lst ((ps1 ++ ps2 ++ ps3).map V.ref)) := by rw [upd_same, List.map_append, List.map_append]
    have SB := S6.kept kB
    generalize hHf : L2.upd H9 l5 (.lst (ps1.map V.ref ++ ps2.map V.ref ++ ps3.map V.ref)) = Hf at kB rr e5 SB
    have hl5 : l5 ∉ [p] := fun z => by
      obtain ⟨xs, hp⟩ := S6.ob
      have q := k9 p _ (kA p _ hp (by simp)) (by simp)
      rw [List.mem_singleton.mp z, q] at n5
      cases n5
    refine ⟨_, rfl, p, a, ns, 16, rfl, SB, by decide, by decide, fun i H' h0 h1 S' k' => ?_⟩
    obtain ⟨j, rfl⟩ : ∃ j : Nat, i = (j : Int) := ⟨i.toNat, by omega⟩
    have hlen := rr.length
    have hj : j < (ps1 ++ ps2 ++ ps3).length := by
      rw [hlen]
      exact Nat.lt_of_lt_of_le (show j < 16 by omega) (by exact Nat.le_of_ble_eq_true rfl)
    obtain ⟨xs, hx, hq⟩ := paired_at rr (List.getElem?_eq_getElem hj)
    obtain ⟨r, hr, er⟩ := few16 hn hm hc hd ht hu xs (List.mem_of_getElem? hx)
    subst er
    refine ⟨l5, _, _, _, rfl, rfl, .inl (.of (k' l5 _ e5 hl5)), at_of (j := j) rfl (by rw [List.getElem?_map, List.getElem?_eq_getElem hj]; rfl), ?_⟩
    obtain ⟨ys, hp6⟩ := SB.ob
    refine k _ r H' hr S' ?_ (k' _ _ hq (notin1 hq hp6 (by intro z; cases z)))
    exact ((((((k1.trans k2).trans k3).trans k4).trans k5).trans k6).trans (kB.mono (by simp))).trans k'
end
end Ah
end
section
set_option Elab.async false
set_option linter.all false
set_option maxRecDepth 100000
set_option maxHeartbeats 2000000
namespace Ah
open PySem PySem.Spec PyProof.Rows L2
/-! ### texts -/
def TextAt (H : Hp) (q : Addr) (rs : List Rw) : Prop := ∃ ps : List Addr, H q = some (.tup (ps.map V.ref)) ∧ Paired (fun a r => H a = some (.tup ((Rw.ws r).map V.str))) ps rs
theorem scLTx : FnScope ["_law_row_here", "_law_many", "_law_k"] ["_law_row_here", "_law_many"] (defScope lText) := ⟨rfl, rfl, rfl, by decide +kernel, rfl, by decide +kernel, by decide +kernel⟩
def spText (K : PySem.W.Frag) : Sp := fun vs H Q _ => ∃ (p a : Addr) (ns : List Int) (many : Int), vs = [.ref p, .int many] ∧ StAt K H p a ns ∧ 0 ≤ many ∧ many < 1000 ∧
  ∀ (q : Addr) (rs : List Rw) (H' : Hp), (∀ r ∈ rs, r.few) → (rs.length : Int) ≤ many → StAt K H' p a ns → Kept [p] H H' → TextAt H' q rs → Q (.ref q) H'
theorem seqL_far {K : PySem.W.Frag} {H1 H' : Hp} {a D : Addr} {o : HO} {xs : List V} (h1 : SqL K H1 a xs) (n : H1 D = none) (h : SqL K H' a xs) : SqL K (upd H' D o) a xs := by
  rcases h1 with h1 | h1
  · have ne : a ≠ D := fun e => by
      rcases h1 with h1 | ⟨ob, h1⟩ <;> rw [e, n] at h1 <;> cases h1
    rcases h with (h | ⟨ob, h⟩) | h
    · exact .inl (.inl (by rw [upd_ne ne]; exact h))
    · exact .inl (.inr ⟨ob, by rw [upd_ne ne]; exact h⟩)
    · exact .inr h
  · exact .inr h1
/-- the state stands where another new object changes -/
theorem StAt.far {K : PySem.W.Frag} {H1 H' : Hp} {p a D : Addr} {ns : List Int} {o : HO} (S1 : StAt K H1 p a ns) (n : H1 D = none) (S : StAt K H' p a ns) : StAt K (L2.upd H' D o) p a ns := by
  obtain ⟨i, r, m, h, g1, g2, g3⟩ := S
  obtain ⟨i1, r1, m1, h1, _, _, q3⟩ := S1
  exact ⟨i, r, m, by rw [upd_ne (ne_of_none h1 n)]; exact h, g1, g2, seqL_far q3 n g3⟩
theorem Kept.far {M : List Addr} {H H1 H' : Hp} {D : Addr} {o : HO} (k1 : Kept M H H1) (n : H1 D = none) (k : Kept M H H') : Kept M H (L2.upd H' D o) := fun b u e hb => by
  rw [upd_ne (ne_of_none (k1 b u e hb) n)]
  exact k b u e hb
theorem yes_if {X Y : Hp → Prop} {σ : L2.St} {H : Hp} (h : X H) : tYes σ H fun b H3 => if b = true then X H3 else Y H3 := by
  show if true = true then X H else Y H
  rw [if_pos rfl]
  exact h
section
variable {P : Program} {w : World} {K : PySem.W.Frag} {mg : Str → Option Value} {base : Heap} {f fT fO : Addr} {fd fdT fdO : FuncData}
theorem ok_ltext (F : FnP K "_law_text" lText f fd) (gT : mg "_law_taken" = some (.ref fT)) (FT : FnOk P w K mg base CX0 1 fT fdT ["_law_row_here", "_law_many"] (spTaken K)) (kT : PySem.W.keepIn K (.ref fT) = true) (bT : Binds K fdT ["_law_row_here", "_law_many"] [])
    (gO : mg "_law_one" = some (.ref fO)) (FO : FnOk P w K mg base CX0 2 fO fdO ["_law_row_here"] (spOne K)) (kO : PySem.W.keepIn K (.ref fO) = true) (bO : Binds K fdO ["_law_row_here"] []) (zt : mg "tuple" = none) (zr : mg "range" = none) :
    FnOk P w K mg base CX0 3 f fd ["_law_row_here", "_law_many"] (spText K) := by
  refine F.ok scLTx (fun vs H Q E h => ?_) (fun cdv A outer s H vs Q E hr h => ?_)
  · obtain ⟨p, a, ns, many, rfl, _⟩ := h
    rfl
  · obtain ⟨p, a, ns, many, rfl, S, h0, h1, k⟩ := h
    refine ⟨_, PSs.nox (pss_one (ps_ret (pe_callTy call_tuple_of (by rfl) zt (by decide +kernel) (pa_cons
      (pe_lc (own := [("_law_k", 2)]) (g := gName 2) (tt := tYes) rfl scLTx.nd (pi_range1 rfl zr (pa_cons (pe_call FT (hr.mono (by decide)) (by rfl) gT kT bT .nil pass0 (pa_cons (pv 0) (pa_cons (pe_op op_add (pv 1) pe_int) pa_nil))) pa_nil))
        (blkOk_by (N := ["_law_row_here", "_law_many", "_law_k"]) (sc := defScope lText) (by decide +kernel)) (fun _ _ _ _ _ => pg_name (i := 2) scLTx.nd rfl (Or.inl rfl)) (fun _ _ _ _ _ => pts_nil)
        (fun _ _ _ _ _ => pe_call FO hr (by rfl) gO kO bO .nil pass0 (pa_cons (pv 0) pa_nil))) pa_nil)))), ?_⟩
    refine ⟨_, rfl, _, rfl, _, _, rfl, rfl, p, a, ns, many + 1, rfl, S, by omega, by omega, fun n H1 hn0 hn1 S1 k1 => ⟨n, rfl, by omega, by omega, fun D nD => ?_⟩⟩
    refine lc_range (lo := 0) (n := n.toNat) (fun i H' => ∃ (ps : List Addr) (rs : List Rw), H' D = some (.lst (ps.map V.ref)) ∧ Paired (fun a r => H' a = some (.tup ((Rw.ws r).map V.str))) ps rs ∧ rs.length = i ∧ (∀ r ∈ rs, r.few) ∧ StAt K H' p a ns ∧ Kept [p] H H')
      ⟨[], [], upd_same, .nil, rfl, fun _ z => (by simp at z), S1.upd nD, k1.upd nD⟩ ?_ ?_
    · rintro i Ha hi ⟨ps, rs, e1, r1, hl, hf, S2, k2⟩
      refine ⟨rfl, yes_if ?_⟩
      refine ⟨_, rfl, p, a, ns, rfl, S2, fun q r H3 hr' S3 k3 eq => ?_⟩
      obtain ⟨ys, hp2⟩ := S2.ob
      have hDp : D ∉ [p] := fun z => by
        obtain ⟨zs, hz⟩ := S1.ob
        rw [List.mem_singleton.mp z, hz] at nD
        cases nD
      have hl2 : ps.length = rs.length := r1.length
      have eD := k3 D _ e1 hDp
      refine ⟨_, eD, ?_, ps ++ [q], rs ++ [r], ?_, ?_, ?_, ?_, ?_, ?_⟩
      · rw [List.length_map, hl2, hl]
        exact Nat.lt_of_lt_of_le (show i < 2000 by omega) (by decide)
      · rw [upd_same, List.map_append] <;> rfl
      · have neD : ∀ {b : Addr} {xs : List V}, H3 b = some (.tup xs) → b ≠ D := fun e z => by
          rw [z, eD] at e
          cases e
        refine paired_app (Paired.mapP r1 fun b r' e => ?_) (.cons ?_ .nil)
        · have e' := k3 b _ e (notin1 e hp2 (by intro z; cases z))
          rw [upd_ne (neD e')]
          exact e'
        · rw [upd_ne (neD eq)]
          exact eq
      · rw [List.length_append, hl] <;> rfl
      · intro r' hr2
        rcases List.mem_append.mp hr2 with z | z
        · exact hf r' z
        · rw [List.mem_singleton.mp z]
          exact hr'
      · exact S1.far nD S3
      · exact k1.far nD (k2.trans k3)
    · rintro Ha ⟨ps, rs, e1, r1, hl, hf, S2, k2⟩
      refine ⟨D, _, rfl, .inl ⟨.inl (.of e1), fun q nq => ?_⟩⟩
      refine k q rs _ hf (by omega) (S2.upd nq) (k2.upd nq) ⟨ps, upd_same, Paired.mapP r1 fun b r' e => by rw [upd_ne (ne_of_none e nq)]; exact e⟩
end
end Ah
end
section
set_option Elab.async false
set_option linter.all false
set_option maxRecDepth 100000
set_option maxHeartbeats 2000000
namespace Ah
open PySem PySem.Spec PyProof.Rows L2
/-! ### alike -/
def Flat : V → Prop
  | .non => True | .bl _ => True | .int _ => True | .str _ => True | _ => False
/-- the same data to the depth n -/
def At (K : PySem.W.Frag) (H : Hp) : Nat → V → V → Prop
  | 0, x, y => x = y ∧ Flat x
  | n + 1, x, y => (x = y ∧ Flat x) ∨ ∃ a b xs ys, x = .ref a ∧ y = .ref b ∧ ((SqT K H a xs ∧ SqT K H b ys) ∨ (H a = some (.lst xs) ∧ H b = some (.lst ys))) ∧ xs.length ≤ 1000000 ∧ Paired (At K H n) xs ys
theorem sqT_kept {K : PySem.W.Frag} {H H' : Hp} {a : Addr} {xs : List V} (k : Kept [] H H') (h : SqT K H a xs) : SqT K H' a xs := by
  rcases h with (h | ⟨o, h⟩) | h
  · exact .inl (.inl (k _ _ h (by simp)))
  · exact .inl (.inr ⟨o, k _ _ h (by simp)⟩)
  · exact .inr h
theorem At.kept {K : PySem.W.Frag} {H H' : Hp} (k : Kept [] H H') : ∀ {n : Nat} {x y : V}, At K H n x y → At K H' n x y
  | 0, _, _, h => h
  | n + 1, _, _, h => by
    rcases h with h | ⟨a, b, xs, ys, e1, e2, h, hl, r⟩
    · exact .inl h
    · refine .inr ⟨a, b, xs, ys, e1, e2, ?_, hl, Paired.mapP r fun x y q => At.kept k q⟩
      rcases h with ⟨h1, h2⟩ | ⟨h1, h2⟩
      · exact .inl ⟨sqT_kept k h1, sqT_kept k h2⟩
      · exact .inr ⟨k _ _ h1 (by simp), k _ _ h2 (by simp)⟩
def spAlike (K : PySem.W.Frag) : Nat → Sp
  | 0 => fun _ _ _ _ => False
  | n + 1 => fun vs H Q _ => ∃ x y : V, vs = [x, y] ∧ At K H n x y ∧ ∀ H', Kept [] H H' → Q (.bl true) H'
theorem scLA : FnScope ["_law_found", "_law_due", "_law_same_kind", "_law_k"] ["_law_found", "_law_due"] (defScope lAlike) := ⟨rfl, rfl, rfl, by decide +kernel, rfl, by decide +kernel, by decide +kernel⟩
/-- built-in names that the module leaves alone -/
structure Bl (mg : Str → Option Value) : Prop where
  isinstance_ : mg "isinstance" = none
  len_ : mg "len" = none
  tuple_ : mg "tuple" = none
  list_ : mg "list" = none
  str_ : mg "str" = none
  bool_ : mg "bool" = none
  range_ : mg "range" = none
  enumerate_ : mg "enumerate" = none
  sorted_ : mg "sorted" = none
  zip_ : mg "zip" = none
  dict_ : mg "dict" = none
  all_ : mg "all" = none
/-- a def of the module's own, its promise, its binding -/
structure Own (P : Program) (w : World) (K : PySem.W.Frag) (mg : Str → Option Value) (base : Heap) (x : Str) (k : Nat) (f : Addr) (fd : FuncData) (ps : List Str) (sp : Sp) : Prop where
  ok : FnOk P w K mg base CX0 k f fd ps sp
  g : mg x = some (.ref f)
  kp : PySem.W.keepIn K (.ref f) = true
  b : Binds K fd ps []
/-- a value's built-in class -/
inductive TyS (K : PySem.W.Frag) (H : Hp) : V → String → Prop where
  | non : TyS K H .non "NoneType"
  | bl (b : Bool) : TyS K H (.bl b) "bool"
  | int (i : Int) : TyS K H (.int i) "int"
  | str (z : Str) : TyS K H (.str z) "str"
  | tup {a : Addr} {xs : List V} (e : SqT K H a xs) : TyS K H (.ref a) "tuple"
  | lst {a : Addr} {xs : List V} (e : H a = some (.lst xs)) : TyS K H (.ref a) "list"
theorem TyS.x {K : PySem.W.Frag} {H : Hp} {v : V} {a : String} (h : TyS K H v a) : TyX K H v (.type a) := by
  cases h with
  | non => exact .base .non
  | bl b => exact .base (.bl b)
  | int i => exact .base (.int i)
  | str z => exact .base (.str z)
  | tup e =>
    rcases e with (e | ⟨o, e⟩) | ⟨o, its, n, h1, h2, _⟩
    · exact .base (.tup e)
    · exact .fTuple e
    · exact .kTuple h1 h2
  | lst e => exact .base (.lst e)
theorem TyS.kept {K : PySem.W.Frag} {H H' : Hp} {v : V} {a : String} (h : TyS K H v a) (k : Kept [] H H') : TyS K H' v a := by
  cases h with
  | non => exact .non
  | bl b => exact .bl b
  | int i => exact .int i
  | str z => exact .str z
  | tup e => exact .tup (sqT_kept k e)
  | lst e => exact .lst (k _ _ e (by simp))
theorem Flat.ty {K : PySem.W.Frag} {H : Hp} {v : V} (h : Flat v) : ∃ a, TyS K H v a ∧ kitB a "tuple" = some false ∧ kitB a "list" = some false ∧ (∃ b, kitB a "str" = some b) ∧ ∃ b, kitB a "bool" = some b := by
  cases v with
  | non => exact ⟨_, .non, by decide +kernel, by decide +kernel, ⟨false, by decide +kernel⟩, false, by decide +kernel⟩
  | bl b => exact ⟨_, .bl b, by decide +kernel, by decide +kernel, ⟨false, by decide +kernel⟩, true, by decide +kernel⟩
  | int b => exact ⟨_, .int b, by decide +kernel, by decide +kernel, ⟨false, by decide +kernel⟩, false, by decide +kernel⟩
  | str b => exact ⟨_, .str b, by decide +kernel, by decide +kernel, ⟨true, by decide +kernel⟩, false, by decide +kernel⟩
  | _ => exact h.elim
theorem iteNF {A B : Prop} {x : V} (hx : x = x) (h : B) : if (!decide (x = x)) = true then A else B := by
  rw [decide_eq_true hx]
  exact iteF h
theorem rd_isi {K : PySem.W.Frag} {σ : L2.St} {H : Hp} {Q : VK} {i : Nat} {v : V} {a c : String} {b : Bool} (hσ : σ[i]? = some (some v)) (ty : TyS K H v a) (kb : kitB a c = some b) (q : Q (.bl b) H) : tCB (rIsi K) (tCons (tVar i) (tCons (tC (.ty c)) tNil)) σ H Q :=
  ⟨v, hσ, v, .ty c, .type a, .type c, b, rfl, .ty c, ty.x, kit_ty kb, q⟩
theorem rd_isi2 {K : PySem.W.Frag} {σ : L2.St} {H : Hp} {Q : VK} {i : Nat} {v : V} {a : String} {b1 b2 : Bool} (hσ : σ[i]? = some (some v)) (ty : TyS K H v a) (k1 : kitB a "tuple" = some b1) (k2 : kitB a "list" = some b2)
    (q : ∀ H', Kept [] H H' → Q (.bl (b1 || b2)) H') : tCB (rIsiT K) (tCons (tVar i) (tCons (tTup (tCons (tC (.ty "tuple")) (tCons (tC (.ty "list")) tNil))) tNil)) σ H Q := by
  refine ⟨v, hσ, by show 2 ≤ sizeLine; decide, fun T nT => ?_⟩
  have k : Kept [] H (upd H T (.tup [.ty "tuple", .ty "list"])) := (Kept.refl H).upd nT
  refine ⟨v, T, _, .type a, [.type "tuple", .type "list"], b1 || b2, rfl, upd_same, .cons (.ty _) (.cons (.ty _) .nil), (ty.kept k).x, ?_, q _ k⟩
  refine kitAny_cons (kit_ty k1) (fun e => ?_) fun e => by rw [e]; rfl
  rw [e]
  exact kitAny_cons (kit_ty k2) (fun e2 => by rw [e2]; exact kitAny_nil) fun e2 => by rw [e2]; rfl
section
variable {P : Program} {w : World} {K : PySem.W.Frag} {mg : Str → Option Value} {base : Heap} {f : Addr} {fd : FuncData}
theorem ok_lalike (F : FnP K "_law_alike" lAlike f fd) (gA : mg "_law_alike" = some (.ref f)) (bA : Binds K fd ["_law_found", "_law_due"] []) (B : Bl mg) : ∀ n : Nat, FnOk P w K mg base CX0 n f fd ["_law_found", "_law_due"] (spAlike K n) := by
  intro n
  induction n with
  | zero => exact ⟨fun vs H Q E h => (show False from h).elim, fun A outer s H args us vs Q E _ _ _ _ h => (show False from h).elim⟩
  | succ n ih =>
    have c__law_alike : Own P w K mg base "_law_alike" n f fd ["_law_found", "_law_due"] (spAlike K n) := ⟨ih, gA, F.kp, bA⟩
    refine F.ok scLA (fun vs H Q E h => ?_) (fun cdv A outer s H vs Q E hr h => ?_)
    · obtain ⟨x, y, rfl, _⟩ := h
      rfl
    · obtain ⟨x, y, rfl, hxy, k⟩ := h
      refine ⟨_, PSs.nox (pss_cons (ps_if (pt_val (pe_callB call_isiT (by rfl) B.isinstance_ (by decide +kernel) (pa_cons (pv 1) (pa_cons (pe_tup (pa_cons (pe_bltn (v := .ty "tuple") (by rfl) B.tuple_ (by decide +kernel) rfl) (pa_cons (pe_bltn (v := .ty "list") (by rfl) B.list_ (by decide +kernel) rfl) pa_nil))) pa_nil)))) (pss_cons (ps_if (PW.pt (pw_or (pt_cmpR op_ne (pe_callB call_isi (by rfl) B.isinstance_ (by decide +kernel) (pa_cons (pv 0) (pa_cons (pe_bltn (v := .ty "tuple") (by rfl) B.tuple_ (by decide +kernel) rfl) pa_nil))) (pe_callB call_isi (by rfl) B.isinstance_ (by decide +kernel) (pa_cons (pv 1) (pa_cons (pe_bltn (v := .ty "tuple") (by rfl) B.tuple_ (by decide +kernel) rfl) pa_nil))) (nomark _)) (pw_or1 (pt_not (pt_val (pe_callB call_isiT (by rfl) B.isinstance_ (by decide +kernel) (pa_cons (pv 0) (pa_cons (pe_tup (pa_cons (pe_bltn (v := .ty "tuple") (by rfl) B.tuple_ (by decide +kernel) rfl) (pa_cons (pe_bltn (v := .ty "list") (by rfl) B.list_ (by decide +kernel) rfl) pa_nil))) pa_nil)))))))) (pss_one (ps_ret pe_bl)) pss_nil)
      (pss_cons (ps_if (pt_cmpR op_ne (pe_callB call_len_seq (by rfl) B.len_ (by decide +kernel) (pa_cons (pv 0) pa_nil)) (pe_callB call_len_seq (by rfl) B.len_ (by decide +kernel) (pa_cons (pv 1) pa_nil)) (nomark _)) (pss_one (ps_ret pe_bl)) pss_nil)
      (pss_one (ps_ret (pe_cmpR (op_eqD hr.units) (pe_lc (own := [("_law_k", 3)]) rfl scLA.nd (pi_range1 (by rfl) B.range_ (pa_cons (pe_callB call_len_seq (by rfl) B.len_ (by decide +kernel) (pa_cons (pv 1) pa_nil)) pa_nil)) (blkOk_by (N := ["_law_found", "_law_due", "_law_same_kind", "_law_k"]) (sc := defScope lAlike) (by decide +kernel)) (fun _ _ _ _ _ => (pg_name (i := 3) scLA.nd rfl (Or.inl rfl))) (fun _ _ _ _ _ => (pts_one (pt_not (pt_val (pe_call c__law_alike.ok hr (by rfl) c__law_alike.g c__law_alike.kp c__law_alike.b .nil pass0 (pa_cons (pe_ix (show IxR _ (rIx K) from ix_seq) (pv 0) (pv 3) (fun _ _ => rfl)) (pa_cons (pe_ix (show IxR _ (rIx K) from ix_seq) (pv 1) (pv 3) (fun _ _ => rfl)) pa_nil))))))) (fun _ _ _ _ _ => (pv 3))) (pe_lst pa_nil) (nomark _)))))) pss_nil)
      (pss_cons (ps_if (PW.pt (pw_or (pt_cmpR op_isN (pv 1) pe_non (nomark _)) (pw_or1 (pt_cmpR op_isN (pv 0) pe_non (nomark _))))) (pss_one (ps_ret (pe_and (pe_cmpR op_isN (pv 1) pe_non (nomark _)) (pe_one (pe_cmpR op_isN (pv 0) pe_non (nomark _)))))) pss_nil)
      (pss_cons (ps_set (i := 2) scLA.nd rfl (.inl rfl) (pe_cmpR op_eq (pe_callB call_isi (by rfl) B.isinstance_ (by decide +kernel) (pa_cons (pv 1) (pa_cons (pe_bltn (v := .ty "str") (by rfl) B.str_ (by decide +kernel) rfl) pa_nil))) (pe_callB call_isi (by rfl) B.isinstance_ (by decide +kernel) (pa_cons (pv 0) (pa_cons (pe_bltn (v := .ty "str") (by rfl) B.str_ (by decide +kernel) rfl) pa_nil))) (nomark _)))
      (pss_one (ps_ret (pe_and (pv 2) (pe_and (pe_cmpR op_eq (pe_callB call_isi (by rfl) B.isinstance_ (by decide +kernel) (pa_cons (pv 1) (pa_cons (pe_bltn (v := .ty "bool") (by rfl) B.bool_ (by decide +kernel) rfl) pa_nil))) (pe_callB call_isi (by rfl) B.isinstance_ (by decide +kernel) (pa_cons (pv 0) (pa_cons (pe_bltn (v := .ty "bool") (by rfl) B.bool_ (by decide +kernel) rfl) pa_nil))) (nomark _)) (pe_one (pe_cmpR op_eq (pv 0) (pv 1) (nomark _)))))))))), ?_⟩
      have flat : ∀ (exy : x = y) (hf : Flat x), ∃ a b1 b2, TyS K H x a ∧ kitB a "tuple" = some false ∧ kitB a "list" = some false ∧ kitB a "str" = some b1 ∧ kitB a "bool" = some b2 := fun _ hf => by
        obtain ⟨a, h1, h2, h3, ⟨b1, h4⟩, b2, h5⟩ := hf.ty (K := K) (H := H)
        exact ⟨a, b1, b2, h1, h2, h3, h4, h5⟩
      have main : (x = y ∧ Flat x) ∨ ∃ m, n = m + 1 ∧ ∃ a b xs ys, x = .ref a ∧ y = .ref b ∧ ((SqT K H a xs ∧ SqT K H b ys) ∨ (H a = some (.lst xs) ∧ H b = some (.lst ys))) ∧ xs.length ≤ 1000000 ∧ Paired (At K H m) xs ys := by
        cases n with
        | zero => exact .inl hxy
        | succ m => exact hxy.imp id fun h => ⟨m, rfl, h⟩
      rcases main with ⟨exy, hf⟩ | ⟨m, rfl, a, b, xs, ys, rfl, rfl, hab, hl, r⟩
      · subst exy
        obtain ⟨a, b1, b2, ty, t1, t2, t3, t4⟩ := flat rfl hf
        refine rd_isi2 rfl ty t1 t2 fun H1 k1 => ⟨_, rfl, ?_⟩
        refine iteF ?_
        by_cases hx : x = .non
        · subst hx
          refine ⟨_, rfl, rfl, _, rfl, ?_⟩
          rw [decide_eq_true rfl]
          refine iteT (iteT ⟨_, rfl, rfl, _, rfl, ?_⟩)
          rw [decide_eq_true rfl]
          exact iteT ⟨_, rfl, rfl, k H1 k1⟩
        · refine ⟨_, rfl, rfl, _, rfl, ?_⟩
          rw [decide_eq_false hx]
          refine iteF ⟨_, rfl, rfl, _, rfl, ?_⟩
          rw [decide_eq_false hx]
          refine iteF ?_
          have ty1 := ty.kept k1
          refine op_of (rd_isi rfl ty1 t3 (rd_isi rfl ty1 t3 ⟨by cases b1 <;> rfl, ?_⟩))
          rw [decide_eq_true rfl]
          refine ⟨_, rfl, _, rfl, iteT ?_⟩
          refine op_of (rd_isi rfl ty1 t4 (rd_isi rfl ty1 t4 ⟨by cases b2 <;> rfl, ?_⟩))
          rw [decide_eq_true rfl]
          refine ⟨_, rfl, iteT ⟨_, rfl, _, rfl, ?_, ?_⟩⟩
          · cases x <;> first | rfl | exact hf.elim | exact (hx rfl).elim
          · rw [decide_eq_true rfl]
            exact k H1 k1
      · obtain ⟨ta, tya, tyb, ka, kb⟩ : ∃ ta, TyS K H (.ref a) ta ∧ TyS K H (.ref b) ta ∧ (∃ b1, kitB ta "tuple" = some b1 ∧ kitB ta "list" = some !b1) ∧ True := by
          rcases hab with ⟨h1, h2⟩ | ⟨h1, h2⟩
          · exact ⟨_, .tup h1, .tup h2, ⟨true, by decide +kernel, by decide +kernel⟩, trivial⟩
          · exact ⟨_, .lst h1, .lst h2, ⟨false, by decide +kernel, by decide +kernel⟩, trivial⟩
        obtain ⟨b1, ka1, ka2⟩ := ka
        have hb : (b1 || !b1) = true := by cases b1 <;> rfl
        refine rd_isi2 rfl tyb ka1 ka2 fun H1 k1 => ⟨_, rfl, ?_⟩
        rw [hb]
        refine iteT ?_
        refine op_of (rd_isi rfl (tya.kept k1) ka1 (rd_isi rfl (tyb.kept k1) ka1 ⟨by cases b1 <;> rfl, ⟨_, rfl, ?_⟩⟩))
        refine iteNF rfl ?_
        refine rd_isi2 rfl (tya.kept k1) ka1 ka2 fun H2 k2 => ⟨_, rfl, ?_⟩
        rw [hb]
        refine iteF ?_
        have hlen : xs.length = ys.length := r.length
        have k12 := k1.trans k2
        have sq : ∀ {H'}, Kept [] H H' → (SqL K H' a xs ∨ SqT K H' a xs) ∧ (SqL K H' b ys ∨ SqT K H' b ys) := fun k' => by
          rcases hab with ⟨h1, h2⟩ | ⟨h1, h2⟩
          · exact ⟨.inr (sqT_kept k' h1), .inr (sqT_kept k' h2)⟩
          · exact ⟨.inl (.inl (.of (k' _ _ h1 (by simp)))), .inl (.inl (.of (k' _ _ h2 (by simp))))⟩
        refine ⟨_, rfl, a, xs, rfl, (sq k12).1, ⟨_, rfl, b, ys, rfl, (sq k12).2, rfl, ⟨_, rfl, ?_⟩⟩⟩
        rw [hlen]
        refine iteNF rfl ?_
        refine ⟨_, rfl, b, ys, rfl, (sq k12).2, _, rfl, by omega, by omega, fun D nD => ?_⟩
        rw [Int.toNat_natCast]
        refine lc_range (lo := 0) (n := ys.length) (fun i H' => Kept [] H H' ∧ H' D = some (.lst [])) ⟨k12.upd nD, upd_same⟩ ?_ ?_
        · rintro i Ha hi ⟨ka, eD⟩
          refine ⟨rfl, ?_⟩
          have hi' : i < xs.length := by omega
          obtain ⟨y1, ey, hxy'⟩ := paired_at r (List.getElem?_eq_getElem hi')
          have ix : ∀ {c : Addr} {zs : List V} {v : V} {QQ : VK}, (SqL K Ha c zs ∨ SqT K Ha c zs) → zs[i]? = some v → QQ v Ha → rIx K (.ref c) (.int (0 + (i : Int))) Ha QQ := fun {c zs v QQ} h e q => by
            have e' : atI zs (0 + (i : Int)) = some v := at_of (by omega) e
            rcases h with h | h
            · exact .inl ⟨c, zs, _, v, rfl, rfl, h, e', q⟩
            · exact .inr (.inl ⟨c, zs, _, v, rfl, rfl, h, e', q⟩)
          refine ⟨_, rfl, _, rfl, ix (sq ka).1 (List.getElem?_eq_getElem hi') ⟨_, rfl, _, rfl, ix (sq ka).2 ey ?_⟩⟩
          refine ⟨_, _, rfl, hxy'.kept ka, fun H3 k3 => ⟨_, rfl, ?_⟩⟩
          exact iteF (B := Kept [] H H3 ∧ H3 D = some (.lst [])) ⟨ka.trans k3, k3 _ _ eD (by simp)⟩
        · rintro Ha ⟨ka, eD⟩
          refine ⟨by show 0 ≤ sizeLine; decide, fun q nq => ?_⟩
          refine ⟨.list [], .list [], .lst (.inl (.of (by rw [upd_ne (ne_of_none eD nq)]; exact eD))) .nil, .lst (.inl (.of upd_same)) .nil, rfl, rfl, ?_⟩
          exact k _ (ka.upd nq)
end
end Ah
end
section
set_option Elab.async false
set_option linter.all false
set_option maxRecDepth 100000
set_option maxHeartbeats 2000000
namespace Ah
open PySem PySem.Spec PyProof.Rows L2
open GxR (TabB TabG Tabbed)
open GxG
/-! ### deeds -/
/-- the module's dict DEEDS -/
structure TD (K : PySem.W.Frag) (w : World) (mg : Str → Option Value) (d : Addr) : Prop where
  at_ : mg "DEEDS" = some (.ref d)
  kd : ∃ es n, KDict K w d es n
  val : ∀ z n, deedsL.lookup z = some n → ∃ t, PySem.W.nsIn K d z = some (some (.int (n : Int) t))
  out : ∀ z, deedsL.lookup z = none → PySem.W.nsIn K d z = some none
def isDeedL : List V → Bool
  | .str h :: rest => (match deedsL.lookup h with
    | some n => decide (rest.length + 1 = n)
    | none => false)
  | _ => false
def DeedV (K : PySem.W.Frag) (H : Hp) (v : V) (b : Bool) : Prop := (((∃ z, v = .str z) ∨ v = .non ∨ (∃ i, v = .int i) ∨ ∃ a xs, v = .ref a ∧ H a = some (.lst xs)) ∧ b = false) ∨ ∃ a xs, v = .ref a ∧ SqT K H a xs ∧ xs.length ≤ 1000 ∧ (∀ h, xs.head? = some h → PlainV H h) ∧ b = isDeedL xs
def spDeed (K : PySem.W.Frag) : Sp := fun vs H Q _ => ∃ (v : V) (b : Bool), vs = [v] ∧ DeedV K H v b ∧ Q (.bl b) H
theorem scDd : FnScope ["deed"] ["deed"] (defScope sIsDeed) := ⟨rfl, rfl, rfl, by decide +kernel, rfl, by decide +kernel, by decide +kernel⟩
section
variable {P : Program} {w : World} {K : PySem.W.Frag} {mg : Str → Option Value} {base : Heap} {f d : Addr} {fd : FuncData}
theorem ok_deed (F : FnP K "is_deed" sIsDeed f fd) (W : TW K mg) (D : TD K w mg d) : FnOk P w K mg base CX0 1 f fd ["deed"] (spDeed K) := by
  refine F.ok scDd (fun vs H Q E h => ?_) (fun cdv A outer s H vs Q E hr h => ?_)
  · obtain ⟨v, b, rfl, _⟩ := h
    rfl
  · obtain ⟨v, b, rfl, hv, k⟩ := h
    obtain ⟨es, nn, kd⟩ := D.kd
    refine ⟨_, pss_cons (ps_if (PW.pt (pw_or (pt_not (pt_val (pe_callB call_isi (by rfl) W.isi (by decide +kernel) (pa_cons (pv 0) (pa_cons (pe_bltn (v := .ty "tuple") (by rfl) W.tup (by decide +kernel) rfl) pa_nil)))))
        (pw_or (pt_not (pt_truth (pv 0) (by intro _; rfl)))
        (pw_or1 (pt_not (pt_val (pe_callB call_isi (by rfl) W.isi (by decide +kernel) (pa_cons (pe_ix ix_tup (pv 0) pe_int (fun _ _ => rfl)) (pa_cons (pe_bltn (v := .ty "str") (by rfl) W.str (by decide +kernel) rfl) pa_nil)))))))))
        (pss_one (ps_ret pe_bl)) pss_nil)
      (pss_one (ps_ret (pe_and (pe_cmpR (op_in_kd kd) (pe_ix ix_tup (pv 0) pe_int (fun _ _ => rfl)) (pe_glob (v := .ref d) (by rfl) D.at_ rfl) (by rfl))
        (pe_one (pe_cmpR op_eq (pe_callB call_len_seq (by rfl) W.len (by decide +kernel) (pa_cons (pv 0) pa_nil))
          (pe_ix ix_kdict (pe_glob (v := .ref d) (by rfl) D.at_ rfl) (pe_ix ix_tup (pv 0) pe_int (fun _ _ => rfl)) (fun _ _ => rfl)) (nomark _)))))), ?_⟩
    rcases hv with ⟨hn, rfl⟩ | ⟨a, xs, rfl, hx, hl, hp, rfl⟩
    · rcases hn with ⟨z, rfl⟩ | rfl | ⟨i, rfl⟩ | ⟨a, xs, rfl, e⟩
      · exact ⟨_, rfl, _, _, _, _, false, rfl, ClsV.ty _, TyX.base (.str z), kit_ty (by decide +kernel), false, rfl, iteT (iteT k)⟩
      · exact ⟨_, rfl, _, _, _, _, false, rfl, ClsV.ty _, TyX.base .non, kit_ty (by decide +kernel), false, rfl, iteT (iteT k)⟩
      · exact ⟨_, rfl, _, _, _, _, false, rfl, ClsV.ty _, TyX.base (.int i), kit_ty (by decide +kernel), false, rfl, iteT (iteT k)⟩
      · exact ⟨_, rfl, _, _, _, _, false, rfl, ClsV.ty _, TyX.base (.lst e), kit_ty (by decide +kernel), false, rfl, iteT (iteT k)⟩
    · have sx : SqT K H a xs := hx
      refine ⟨_, rfl, _, _, _, _, true, rfl, ClsV.ty _, tyTup hx, kit_ty (by decide +kernel), true, rfl, ?_⟩
      refine iteF ⟨_, rfl, !xs.isEmpty, .inr (.inl ⟨xs, sx, rfl⟩), ?_⟩
      cases xs with
      | nil => exact iteT (iteT k)
      | cons h rest =>
        have ph := hp h rfl
        refine iteF ⟨_, rfl, a, _, 0, h, rfl, rfl, sx, at_of (j := 0) rfl rfl, ?_⟩
        rcases ph with ⟨z, rfl, hz⟩ | rfl | ⟨i, rfl⟩ | ⟨a', ys, rfl, e | e⟩
        · refine ⟨_, _, _, _, true, rfl, ClsV.ty _, TyX.base (.str z), kit_ty (by decide +kernel), true, rfl, ?_⟩
          refine iteF ?_
          refine ⟨_, rfl, a, _, 0, .str z, rfl, rfl, sx, at_of (j := 0) rfl rfl, ?_⟩
          cases hf : deedsL.lookup z with
          | none =>
            have e : isDeedL (.str z :: rest) = false := by
              show (match deedsL.lookup z with
                | some n => decide (rest.length + 1 = n)
                | none => false) = false
              rw [hf]
            rw [e] at k
            refine ⟨z, _, rfl, rfl, D.out z hf, _, rfl, ?_⟩
            exact iteF k
          | some n =>
            obtain ⟨t, e1⟩ := D.val z n hf
            have er : isDeedL (.str z :: rest) = decide (rest.length + 1 = n) := by
              show (match deedsL.lookup z with
                | some n => decide (rest.length + 1 = n)
                | none => false) = _
              rw [hf]
            rw [er] at k
            refine ⟨z, _, rfl, rfl, e1, _, rfl, ?_⟩
            refine iteT ?_
            refine ⟨_, rfl, a, _, rfl, .inr sx, ?_⟩
            refine ⟨_, rfl, a, _, 0, .str z, rfl, rfl, sx, at_of (j := 0) rfl rfl, d, z, .int n, rfl, rfl, ⟨es, nn, _, kd.at_, kd.lit, e1, ⟨_, rfl⟩⟩, ?_⟩
            refine ⟨rfl, ?_⟩
            have ed : decide (V.int (((V.str z :: rest).length : Nat) : Int) = V.int (n : Int)) = decide (rest.length + 1 = n) := by
              rw [List.length_cons]
              by_cases e : rest.length + 1 = n
              · rw [decide_eq_true e, e]
                exact decide_eq_true rfl
              · rw [decide_eq_false e]
                refine decide_eq_false fun q => e ?_
                have := V.int.inj q
                omega
            rw [ed]
            exact k
        · exact ⟨_, _, _, _, false, rfl, ClsV.ty _, TyX.base .non, kit_ty (by decide +kernel), false, rfl, iteT k⟩
        · exact ⟨_, _, _, _, false, rfl, ClsV.ty _, TyX.base (.int i), kit_ty (by decide +kernel), false, rfl, iteT k⟩
        · exact ⟨_, _, _, _, false, rfl, ClsV.ty _, TyX.base (.tup e), kit_ty (by decide +kernel), false, rfl, iteT k⟩
        · exact ⟨_, _, _, _, false, rfl, ClsV.ty _, TyX.base (.lst e), kit_ty (by decide +kernel), false, rfl, iteT k⟩
end
end Ah
end
section
set_option Elab.async false
set_option linter.all false
set_option maxRecDepth 100000
set_option maxHeartbeats 2000000
namespace Ah
open PySem PySem.Spec PyProof.Rows L2
open GxR (TabB TabG Tabbed)
open GxG
/-! ### check_deeds -/
theorem noT {H : Hp} : ∀ P ∈ ([] : List Addr), TabG H P := fun P h => nomatch h
theorem Kp.nil {H : Hp} : Kp [] H H := ⟨noT, fun _ _ e _ => e⟩
theorem Kp.at {H H' : Hp} {a : Addr} {o : HO} (k : Kp [] H H') (e : H a = some o) : H' a = some o := k.keep a o e fun h => nomatch h
theorem DeedV.kp {K : PySem.W.Frag} {H H' : Hp} {v : V} {b : Bool} (k : Kp [] H H') (h : DeedV K H v b) : DeedV K H' v b := by
  rcases h with ⟨hn, rfl⟩ | ⟨a, xs, rfl, hx, hl, hp, rfl⟩
  · refine .inl ⟨?_, rfl⟩
    rcases hn with h | h | h | ⟨a, xs, e, ha⟩
    · exact .inl h
    · exact .inr (.inl h)
    · exact .inr (.inr (.inl h))
    · exact .inr (.inr (.inr ⟨a, xs, e, k.at ha⟩))
  · exact .inr ⟨a, xs, rfl, Kp.sqT noT k hx, hl, fun h e => (hp h e).kp noT k, rfl⟩
/-- what is no list -/
def NotL (K : PySem.W.Frag) (H : Hp) (v : V) : Prop := (∃ z, v = .str z) ∨ v = .non ∨ (∃ i, v = .int i) ∨ ∃ a xs, v = .ref a ∧ SqT K H a xs
def wBad (E : XK) (C : Addr) (H : Hp) (j : Int) : Prop := ∀ H' d, Kp [] H H' → H' d = none → E (.ref C) (some d) (upd H' d (.xd [("number", .int j)]))
def spChD (K : PySem.W.Frag) (C : Addr) : Sp := fun vs H Q E => ∃ v, vs = [v] ∧ ((NotL K H v ∧ wBad E C H 0) ∨
  ∃ (l : Addr) (ds : List V) (good : V → Bool), v = .ref l ∧ H l = some (.lst ds) ∧ (∀ x ∈ ds, DeedV K H x (good x)) ∧ (ds.all good = true → ∀ H', Kp [] H H' → Q .non H') ∧
    ∀ (j : Nat) x, ds[j]? = some x → good x = false → (∀ (m : Nat) y, m < j → ds[m]? = some y → good y = true) → wBad E C H (j : Int))
theorem scCD : FnScope ["deeds", "number", "deed"] ["deeds"] (defScope sCheckDeeds) := ⟨rfl, rfl, rfl, by decide +kernel, rfl, by decide +kernel, by decide +kernel⟩
section
variable {P : Program} {w : World} {K : PySem.W.Frag} {mg : Str → Option Value} {base : Heap} {f fD fI C : Addr} {fd fdD fdI : FuncData} {psI : List Str}
theorem ok_checkdeeds (F : FnP K "check_deeds" sCheckDeeds f fd) (W : TW K mg) (hL : mg "list" = none) (gD : mg "is_deed" = some (.ref fD)) (FD : FnOk P w K mg base CX0 1 fD fdD ["deed"] (spDeed K)) (kD : PySem.W.keepIn K (.ref fD) = true) (bD : Binds K fdD ["deed"] [])
    (R : One K C fI "number") (FI : FnOk P w K mg base (L2.CX P w) 1 fI fdI psI (spErr1 C "number")) (bI : Binds K fdI psI []) (gB : mg "BadDeed" = some (.ref C)) : FnOk P w K mg base (L2.CX P w) 3 f fd ["deeds"] (spChD K C) := by
  refine F.ok scCD (fun vs H Q E h => ?_) (fun cdv A outer s H vs Q E hr h => ?_)
  · obtain ⟨v, rfl, _⟩ := h
    rfl
  · obtain ⟨v, rfl, h⟩ := h
    refine ⟨_, pss_cons (ps_if (pt_not (pt_val (pe_callB call_isi (by rfl) W.isi (by decide +kernel) (pa_cons (pv 0) (pa_cons (pe_bltn (v := .ty "list") (by rfl) hL (by decide +kernel) rfl) pa_nil)))))
        (pss_one (ps_raise1 rfl (takes_of rfl rfl rfl rfl) R FI hr bI (by rfl) gB pe_int)) pss_nil)
      (pss_one (ps_for (passes_of rfl) rfl (pi_enum (by rfl) W.enu (pa_cons (pv 0) pa_nil)) (pg_tup rfl (pgs_cons (pg_name (i := 1) scCD.nd rfl (.inl rfl)) (pgs_cons (pg_name (i := 2) scCD.nd rfl (.inl rfl)) pgs_nil)))
        (pss_one (ps_if (pt_not (pt_val (pe_call FD (hr.mono (by decide)) (by rfl) gD kD bD .nil pass0 (pa_cons (pv 2) pa_nil))))
          (pss_one (ps_raise1 rfl (takes_of rfl rfl rfl rfl) R FI hr bI (by rfl) gB (pv 1))) pss_nil)))), ?_⟩
    rcases h with ⟨hn, hw⟩ | ⟨l, ds, good, rfl, hl, hd, hgood, hbad⟩
    · rcases hn with ⟨z, rfl⟩ | rfl | ⟨i, rfl⟩ | ⟨a, xs, rfl, e⟩
      · exact ⟨_, rfl, _, _, _, _, false, rfl, ClsV.ty _, TyX.base (.str z), kit_ty (by decide +kernel), false, rfl, iteT (one_q fun d hd => hw H d .nil hd)⟩
      · exact ⟨_, rfl, _, _, _, _, false, rfl, ClsV.ty _, TyX.base .non, kit_ty (by decide +kernel), false, rfl, iteT (one_q fun d hd => hw H d .nil hd)⟩
      · exact ⟨_, rfl, _, _, _, _, false, rfl, ClsV.ty _, TyX.base (.int i), kit_ty (by decide +kernel), false, rfl, iteT (one_q fun d hd => hw H d .nil hd)⟩
      · exact ⟨_, rfl, _, _, _, _, false, rfl, ClsV.ty _, tyTup e, kit_ty (by decide +kernel), false, rfl, iteT (one_q fun d hd => hw H d .nil hd)⟩
    · refine ⟨_, rfl, _, _, _, _, true, rfl, ClsV.ty _, TyX.base (.lst hl), kit_ty (by decide +kernel), true, rfl, ?_⟩
      refine iteF ?_
      refine ⟨_, rfl, l, ds, rfl, SqL.of hl, for_it (walk_enum (K := K) (a := l) (xs := ds)) (fun i σ H' => (∃ v1 v2, σ = [some (.ref l), v1, v2]) ∧ Kp [] H H' ∧ ∀ (m : Nat) y, m < i → ds[m]? = some y → good y = true) ⟨⟨_, _, rfl⟩, .nil, fun m _ hm => absurd hm (Nat.not_lt_zero m)⟩ (fun i σ H' _ pv => SqL.of (pv.2.1.at hl)) ?_ ?_⟩
      · rintro i x σ Ha Hb hi ⟨⟨v1, v2, rfl⟩, kp, hg⟩ ⟨Tp, x1, x2, rfl, nT, rfl, e1, e2⟩
        cases e1
        have e2 : ds[i]? = some x2 := e2
        have kp1 : Kp [] H (L2.upd Ha Tp (.tup [.int (i : Nat), x2])) := kp.upd nT
        refine ⟨Tp, _, rfl, .inl (.of upd_same), rfl, ?_⟩
        have dx := (hd x2 (List.mem_of_getElem? e2)).kp kp1
        refine ⟨_, _, rfl, _, _, rfl, rfl, ?_⟩
        refine ⟨_, rfl, x2, good x2, rfl, dx, _, rfl, ?_⟩
        cases hgx : good x2 with
        | true =>
          refine iteF ⟨⟨_, _, rfl⟩, kp1, fun m y hm hy => ?_⟩
          by_cases e : m = i
          · rw [e, e2] at hy
            cases hy
            exact hgx
          · exact hg m y (by omega) hy
        | false =>
          refine iteT ⟨_, rfl, one_q fun d hd => ?_⟩
          exact hbad i x2 e2 hgx hg _ d kp1 hd
      · rintro σ H' ⟨_, kp, hg⟩
        exact hgood (List.all_eq_true.mpr fun x hx => by
          obtain ⟨m, hm, e⟩ := List.mem_iff_getElem.mp hx
          exact hg m x hm (by rw [List.getElem?_eq_getElem hm, e])) H' kp
end
end Ah
end
section
set_option Elab.async false
set_option linter.all false
set_option maxRecDepth 100000
set_option maxHeartbeats 2000000
namespace Ah
open PySem PySem.Spec PyProof.Rows L2
open GxR (TabB TabG Tabbed)
open GxG
/-! ### houses -/
abbrev MthP (K : PySem.W.Frag) (x q : Str) (st : Stmt) (f : Addr) (fd : FuncData) : Prop := FunD K x q (defArgs st) (defBody st) (defScope st) [] [] f fd
structure ClsH (K : PySem.W.Frag) (C : Addr) : Prop where
  c : Cls K C
  n1 : NoAttr K C "standing"
  n2 : NoAttr K C "asked"
  n3 : NoAttr K C "events"
  n4 : NoAttr K C "idle"
def fsH (rv ak ev : V) (b : Bool) : List (Str × V) := [("standing", rv), ("asked", ak), ("events", ev), ("idle", .bl b)]
structure HSt (H : Hp) (x dx C ak ev : Addr) (rv : V) (evs : List Str) (b : Bool) : Prop where
  ob : H x = some (.ins C dx (fsH rv (.ref ak) (.ref ev) b))
  ev : H ev = some (.lst (evs.map V.str))
  le : evs.length ≤ 100
theorem HSt.kept {H H' : Hp} {x dx C ak ev : Addr} {rv : V} {evs : List Str} {b : Bool} (S : HSt H x dx C ak ev rv evs b) (k : Kept [] H H') : HSt H' x dx C ak ev rv evs b := ⟨k _ _ S.ob (by simp), k _ _ S.ev (by simp), S.le⟩
def spHNo (C : Addr) (g : V → List Str → Bool → V) : Sp := fun vs H Q _ => ∃ (x dx ak ev : Addr) (rv : V) (evs : List Str) (b : Bool), vs = [.ref x] ∧ HSt H x dx C ak ev rv evs b ∧ Q (g rv evs b) H
def spHTold (C : Addr) : Sp := fun vs H Q _ => ∃ (x dx ak ev : Addr) (rv : V) (evs : List Str) (b : Bool), vs = [.ref x] ∧ HSt H x dx C ak ev rv evs b ∧ ∀ l, H l = none → Q (.ref l) (upd H l (.lst (evs.map V.str)))
def spHEv (C : Addr) (z : Str) (b1 : Bool) : Sp := fun vs H Q _ => ∃ (x dx ak ev : Addr) (rv : V) (evs : List Str) (b : Bool), vs = [.ref x] ∧ HSt H x dx C ak ev rv evs b ∧ evs.length < 100 ∧
  ∀ H', Kept [x, ev] H H' → HSt H' x dx C ak ev rv (evs ++ [z]) b1 → Q .non H'
theorem sc1 {st : Stmt} (h : FnScope ["self"] ["self"] (defScope st)) : FnScope ["self"] ["self"] (defScope st) := h
theorem scHT : FnScope ["self"] ["self"] (defScope sHouseText) := ⟨rfl, rfl, rfl, by decide +kernel, rfl, by decide +kernel, by decide +kernel⟩
theorem scHI : FnScope ["self"] ["self"] (defScope sHouseIsIdle) := ⟨rfl, rfl, rfl, by decide +kernel, rfl, by decide +kernel, by decide +kernel⟩
theorem scHTo : FnScope ["self"] ["self"] (defScope sHouseTold) := ⟨rfl, rfl, rfl, by decide +kernel, rfl, by decide +kernel, by decide +kernel⟩
theorem scHB : FnScope ["self"] ["self"] (defScope sHouseBegin) := ⟨rfl, rfl, rfl, by decide +kernel, rfl, by decide +kernel, by decide +kernel⟩
theorem scHE : FnScope ["self"] ["self"] (defScope sHouseEnd) := ⟨rfl, rfl, rfl, by decide +kernel, rfl, by decide +kernel, by decide +kernel⟩
section
variable {P : Program} {w : World} {K : PySem.W.Frag} {mg : Str → Option Value} {base : Heap} {f C : Addr} {fd : FuncData}
theorem ok_htext (F : MthP K "text" "House.text" sHouseText f fd) (CH : ClsH K C) : FnOk P w K mg base CX0 1 f fd ["self"] (spHNo C fun rv _ _ => rv) := by
  refine F.ok scHT (fun vs H Q E h => ?_) (fun cdv A outer s H vs Q E hr h => ?_)
  · obtain ⟨x, dx, ak, ev, rv, evs, b, rfl, _⟩ := h
    rfl
  · obtain ⟨x, dx, ak, ev, rv, evs, b, rfl, S, k⟩ := h
    refine ⟨_, PSs.nox (pss_one (ps_ret (pe_fld (pv 0) rfl))), ?_⟩
    exact ⟨_, rfl, x, C, dx, _, _, rfl, S.ob, CH.c, CH.n1, rfl, k⟩
theorem ok_hidle (F : MthP K "is_idle" "House.is_idle" sHouseIsIdle f fd) (CH : ClsH K C) : FnOk P w K mg base CX0 1 f fd ["self"] (spHNo C fun _ _ b => .bl b) := by
  refine F.ok scHI (fun vs H Q E h => ?_) (fun cdv A outer s H vs Q E hr h => ?_)
  · obtain ⟨x, dx, ak, ev, rv, evs, b, rfl, _⟩ := h
    rfl
  · obtain ⟨x, dx, ak, ev, rv, evs, b, rfl, S, k⟩ := h
    refine ⟨_, PSs.nox (pss_one (ps_ret (pe_fld (pv 0) rfl))), ?_⟩
    exact ⟨_, rfl, x, C, dx, _, _, rfl, S.ob, CH.c, CH.n4, rfl, k⟩
theorem ok_htold (F : MthP K "told" "House.told" sHouseTold f fd) (CH : ClsH K C) (hL : mg "list" = none) : FnOk P w K mg base CX0 1 f fd ["self"] (spHTold C) := by
  refine F.ok scHTo (fun vs H Q E h => ?_) (fun cdv A outer s H vs Q E hr h => ?_)
  · obtain ⟨x, dx, ak, ev, rv, evs, b, rfl, _⟩ := h
    rfl
  · obtain ⟨x, dx, ak, ev, rv, evs, b, rfl, S, k⟩ := h
    refine ⟨_, PSs.nox (pss_one (ps_ret (pe_callTy call_list_of (by rfl) hL (by decide +kernel) (pa_cons (pe_fld (pv 0) rfl) pa_nil)))), ?_⟩
    exact ⟨_, rfl, x, C, dx, _, _, rfl, S.ob, CH.c, CH.n3, rfl, ev, _, rfl, .inl (SqL.of S.ev), fun l hl => k l hl⟩
theorem ok_hbegin (F : MthP K "begin" "House.begin" sHouseBegin f fd) (CH : ClsH K C) : FnOk P w K mg base CX0 1 f fd ["self"] (spHEv C "begun" false) := by
  refine F.ok scHB (fun vs H Q E h => ?_) (fun cdv A outer s H vs Q E hr h => ?_)
  · obtain ⟨x, dx, ak, ev, rv, evs, b, rfl, _⟩ := h
    rfl
  · obtain ⟨x, dx, ak, ev, rv, evs, b, rfl, S, hl, k⟩ := h
    refine ⟨_, PSs.nox (pss_cons (ps_fld (pv 0) pe_bl rfl)
      (pss_one (ps_expr (pe_bm PySem.F.plainAttrs_list PySem.F.slot_list_append PySem.F.type_list_append mt_append (pe_fld (pv 0) rfl) (pa_cons pe_str pa_nil))))), ?_⟩
    refine ⟨_, rfl, x, C, dx, _, rfl, S.ob, CH.c, CH.n4, by show (4 : Nat) < 1000; decide, ?_⟩
    have ne : ev ≠ x := fun z => by
      have e := S.ev
      rw [z, S.ob] at e
      cases e
    refine ⟨_, rfl, x, C, dx, _, _, rfl, upd_same, CH.c, CH.n3, rfl, .inl ⟨rfl, _, SqL.of (by rw [upd_ne ne]; exact S.ev)⟩, ev, _, _, rfl, rfl, by rw [upd_ne ne]; exact S.ev, by rw [List.length_map, sizeLine_eq]; omega, ?_⟩
    refine k _ (fun b o e hb => ?_) ⟨?_, ?_, by simp; omega⟩
    · simp only [List.mem_cons, List.mem_nil_iff, or_false, not_or] at hb
      rw [upd_ne hb.2, upd_ne hb.1]
      exact e
    · rw [upd_ne (Ne.symm ne), upd_same]
      rfl
    · rw [upd_same, List.map_append]
      rfl
theorem ok_hend (F : MthP K "end" "House.end" sHouseEnd f fd) (CH : ClsH K C) : FnOk P w K mg base CX0 1 f fd ["self"] (spHEv C "ended" true) := by
  refine F.ok scHE (fun vs H Q E h => ?_) (fun cdv A outer s H vs Q E hr h => ?_)
  · obtain ⟨x, dx, ak, ev, rv, evs, b, rfl, _⟩ := h
    rfl
  · obtain ⟨x, dx, ak, ev, rv, evs, b, rfl, S, hl, k⟩ := h
    refine ⟨_, PSs.nox (pss_cons (ps_expr (pe_bm PySem.F.plainAttrs_list PySem.F.slot_list_append PySem.F.type_list_append mt_append (pe_fld (pv 0) rfl) (pa_cons pe_str pa_nil)))
      (pss_one (ps_fld (pv 0) pe_bl rfl))), ?_⟩
    have ne : ev ≠ x := fun z => by
      have e := S.ev
      rw [z, S.ob] at e
      cases e
    refine ⟨_, rfl, x, C, dx, _, _, rfl, S.ob, CH.c, CH.n3, rfl, .inl ⟨rfl, _, SqL.of S.ev⟩, ev, _, _, rfl, rfl, S.ev, by rw [List.length_map, sizeLine_eq]; omega, ?_⟩
    refine ⟨_, rfl, x, C, dx, _, rfl, by rw [upd_ne (Ne.symm ne)]; exact S.ob, CH.c, CH.n4, by show (4 : Nat) < 1000; decide, ?_⟩
    refine k _ (fun b o e hb => ?_) ⟨?_, ?_, by simp; omega⟩
    · simp only [List.mem_cons, List.mem_nil_iff, or_false, not_or] at hb
      rw [upd_ne hb.1, upd_ne hb.2]
      exact e
    · rw [upd_same]
      rfl
    · rw [upd_ne ne, upd_same, List.map_append]
      rfl
end
end Ah
end
section
set_option Elab.async false
set_option linter.all false
set_option maxRecDepth 100000
set_option maxHeartbeats 2000000
namespace Ah
open PySem PySem.Spec PyProof.Rows L2
open GxR (TabB TabG Tabbed)
open GxG
/-! ### slices and sums of tuples -/
theorem slA_v {K : PySem.W.Frag} {H : Hp} {a : Addr} {xs : List V} {lo hi : Option Int} {Q : VK} (h : H a = some (.tup xs)) (k : ∀ q H', Kept [] H H' → H' q = some (.tup (cutV xs lo hi)) → Q (.ref q) H') : rSlA K (.ref a) lo hi H Q := by
  refine ⟨a, xs, rfl, .inl (.of h), fun ⟨w1, w2⟩ => ?_, fun _ p np => k p _ ((Kept.refl H).upd np) upd_same⟩
  have e : cutV xs lo hi = xs := by
    unfold cutV
    rw [w1, w2, List.drop_zero, Nat.sub_zero, List.take_of_length_le (Nat.le_refl _)]
  refine k a H (Kept.refl H) ?_
  rw [e]
  exact h
theorem catA_v {K : PySem.W.Frag} {H : Hp} {q1 q2 : Addr} {xs ys : List V} {Q : VK} (h1 : H q1 = some (.tup xs)) (h2 : H q2 = some (.tup ys)) (hl : xs.length + ys.length ≤ 1000) (k : ∀ q' H', Kept [] H H' → H' q' = some (.tup (xs ++ ys)) → Q (.ref q') H') : rCatA K (.ref q1) (.ref q2) H Q := by
  refine ⟨q1, q2, xs, ys, rfl, rfl, .inl (.of h1), .inl (.of h2), Nat.le_trans hl (by decide), fun e => ?_, fun e1 e2 => ?_, fun e1 e2 p np => k p _ ((Kept.refl H).upd np) upd_same⟩
  · refine k q2 H (Kept.refl H) ?_
    rw [e, List.nil_append]
    exact h2
  · refine k q1 H (Kept.refl H) ?_
    rw [e2, List.append_nil]
    exact h1
theorem cutV_take {xs : List V} {n : Nat} (h : n ≤ xs.length) : cutV xs none (some (n : Int)) = xs.take n := by
  unfold cutV
  rw [HT.sIx_none, HT.sIx_nat]
  simp [Nat.min_eq_left h]
theorem cutV_drop {xs : List V} {n : Nat} (h : n ≤ xs.length) : cutV xs (some (n : Int)) none = xs.drop n := by
  unfold cutV
  rw [HT.sIx_none, HT.sIx_nat, Nat.min_eq_left h]
  rw [List.take_of_length_le]
  rw [List.length_drop]
  exact Nat.le_refl _
/-! ### a house, its text a tuple -/
structure HSx (H : Hp) (x dx C ak ev a : Addr) (xs : List V) (evs : List Str) (b : Bool) : Prop where
  S : HSt H x dx C ak ev (.ref a) evs b
  ask : H ak = some (.lst [])
  rows : H a = some (.tup xs)
/-- all stands but the tables and the house itself -/
structure KpX (T : List Addr) (x : Addr) (H H' : Hp) : Prop where
  tab : ∀ P ∈ T, TabG H' P
  keep : ∀ b o, H b = some o → b ∉ T → b ≠ x → H' b = some o
theorem KpX.of {T : List Addr} {x : Addr} {H H' : Hp} (ht : ∀ P ∈ T, TabG H P) (k : Kept [] H H') : KpX T x H H' := ⟨fun P hP => let ⟨qs, h2, h3⟩ := ht P hP; ⟨qs, k _ _ h2 (by simp), h3⟩, fun b o e _ _ => k b o e (by simp)⟩
theorem KpX.ofKp {T : List Addr} {x : Addr} {H H' : Hp} (k : Kp T H H') : KpX T x H H' := ⟨k.tab, fun b o e h _ => k.keep b o e h⟩
theorem KpX.trans {T : List Addr} {x : Addr} {H H1 H2 : Hp} (a : KpX T x H H1) (b : KpX T x H1 H2) : KpX T x H H2 := ⟨b.tab, fun p o e h n => b.keep p o (a.keep p o e h n) h n⟩
theorem KpX.put {T : List Addr} {x : Addr} {H H1 : Hp} {o : HO} (a : KpX T x H H1) (hx : ∀ ps, H1 x ≠ some (.tbl ps)) : KpX T x H (upd H1 x o) := ⟨fun P hP => by
    obtain ⟨qs, h2, h3⟩ := a.tab P hP
    exact ⟨qs, (upd_ne (fun z => hx qs (by rw [← z]; exact h2))).trans h2, h3⟩, fun b u e h n => (upd_ne n).trans (a.keep b u e h n)⟩
theorem KpX.obj {T : List Addr} {x a : Addr} {H H' : Hp} {o : HO} (k : KpX T x H H') (ht : ∀ P ∈ T, TabG H P) (e : H a = some o) (hx : a ≠ x) (n : ∀ ps, o ≠ .tbl ps := by intro ps q; cases q) : H' a = some o := k.keep a o e (fun hm => by
  obtain ⟨ps, e2, _⟩ := ht a hm
  rw [e] at e2
  exact n ps (Option.some.inj e2)) hx
theorem HSx.kp {T : List Addr} {H H' : Hp} {x dx C ak ev a : Addr} {xs : List V} {evs : List Str} {b : Bool} (h : HSx H x dx C ak ev a xs evs b) (ht : ∀ P ∈ T, TabG H P) (k : Kp T H H') : HSx H' x dx C ak ev a xs evs b := ⟨⟨k.obj ht h.S.ob, k.obj ht h.S.ev, h.S.le⟩, k.obj ht h.ask, k.obj ht h.rows⟩
theorem HSx.kept {H H' : Hp} {x dx C ak ev a : Addr} {xs : List V} {evs : List Str} {b : Bool} (h : HSx H x dx C ak ev a xs evs b) (k : Kept [] H H') : HSx H' x dx C ak ev a xs evs b := ⟨h.S.kept k, k _ _ h.ask (by simp), k _ _ h.rows (by simp)⟩
theorem HSx.set {H : Hp} {x dx C ak ev a a' : Addr} {xs ys : List V} {evs : List Str} {b : Bool} (h : HSx H x dx C ak ev a xs evs b) (h' : H a' = some (.tup ys)) : HSx (upd H x (.ins C dx (fsH (.ref a') (.ref ak) (.ref ev) b))) x dx C ak ev a' ys evs b :=
  have ne : ∀ {p : Addr} {o : HO}, H p = some o → (∀ fs, o ≠ .ins C dx fs) → p ≠ x := fun {p o} e n z => by
    rw [z, h.S.ob] at e
    exact n _ (Option.some.inj e).symm
  ⟨⟨upd_same, (upd_ne (ne h.S.ev (fun _ z => nomatch z))).trans h.S.ev, h.S.le⟩, (upd_ne (ne h.ask (fun _ z => nomatch z))).trans h.ask, (upd_ne (ne h' (fun _ z => nomatch z))).trans h'⟩
def spHKept (C : Addr) : Sp := fun vs H Q _ => ∃ (x dx ak ev a : Addr) (xs : List V) (evs : List Str) (b : Bool), vs = [.ref x] ∧ HSx H x dx C ak ev a xs evs b ∧ ∀ l, H l = none → Q (.ref l) (upd H l (.lst []))
def spHPut (K : PySem.W.Frag) (T : List Addr) (C CN CR : Addr) : Sp := fun vs H Q E => ∃ (x dx ak ev a : Addr) (xs : List V) (evs : List Str) (b : Bool) (nv rv : V) (rb : Bool), vs = [.ref x, nv, rv] ∧ HSx H x dx C ak ev a xs evs b ∧ xs.length ≤ 24 ∧ NumV nv ∧ RowV K H rv rb ∧ (∀ P ∈ T, TabG H P) ∧
  (isNumL ((xs.length : Int) + 1) nv = false → E (.ref CN) none H) ∧
  (isNumL ((xs.length : Int) + 1) nv = true → (rb = false ∨ xs.length = 24) → ∀ H' d, Kp T H H' → H' d = none → E (.ref CR) (some d) (upd H' d (.xd [("number", nv)]))) ∧
  ∀ n : Nat, nv = .int n → n ≤ xs.length → rb = true → xs.length < 24 → ∀ H' a', KpX T x H H' → HSx H' x dx C ak ev a' (xs.take n ++ rv :: xs.drop n) evs b → Q .non H'
def spHTell (K : PySem.W.Frag) (T : List Addr) (C CN CR : Addr) : Sp := fun vs H Q E => ∃ (x dx ak ev a : Addr) (xs : List V) (evs : List Str) (b : Bool) (nv rv : V) (rb : Bool), vs = [.ref x, nv, rv] ∧ HSx H x dx C ak ev a xs evs b ∧ xs.length ≤ 24 ∧ NumV nv ∧ RowV K H rv rb ∧ (∀ P ∈ T, TabG H P) ∧
  (isNumL (xs.length : Int) nv = false → E (.ref CN) none H) ∧
  (isNumL (xs.length : Int) nv = true → rb = false → ∀ H' d, Kp T H H' → H' d = none → E (.ref CR) (some d) (upd H' d (.xd [("number", nv)]))) ∧
  ∀ (n : Nat) (v : V), nv = .int n → xs[n]? = some v → rb = true → ∀ H' a', KpX T x H H' → HSx H' x dx C ak ev a' (xs.take n ++ rv :: xs.drop (n + 1)) evs b → Q v H'
def spHDrop (T : List Addr) (C CN : Addr) : Sp := fun vs H Q E => ∃ (x dx ak ev a : Addr) (xs : List V) (evs : List Str) (b : Bool) (nv : V), vs = [.ref x, nv] ∧ HSx H x dx C ak ev a xs evs b ∧ xs.length ≤ 24 ∧ NumV nv ∧ (∀ P ∈ T, TabG H P) ∧
  (isNumL (xs.length : Int) nv = false → E (.ref CN) none H) ∧
  ∀ (n : Nat) (v : V), nv = .int n → xs[n]? = some v → ∀ H' a', KpX T x H H' → HSx H' x dx C ak ev a' (xs.take n ++ xs.drop (n + 1)) evs b → Q v H'
theorem scHK : FnScope ["self"] ["self"] (defScope sHouseKept) := ⟨rfl, rfl, rfl, by decide +kernel, rfl, by decide +kernel, by decide +kernel⟩
theorem scHP : FnScope ["self", "number", "row"] ["self", "number", "row"] (defScope sHousePut) := ⟨rfl, rfl, rfl, by decide +kernel, rfl, by decide +kernel, by decide +kernel⟩
theorem scHD : FnScope ["self", "number", "row"] ["self", "number"] (defScope sHouseDrop) := ⟨rfl, rfl, rfl, by decide +kernel, rfl, by decide +kernel, by decide +kernel⟩
theorem scHTl : FnScope ["self", "number", "row", "other"] ["self", "number", "row"] (defScope sHouseTell) := ⟨rfl, rfl, rfl, by decide +kernel, rfl, by decide +kernel, by decide +kernel⟩
theorem num_of {m : Int} {v : V} (hv : NumV v) (h : isNumL m v = true) : ∃ n : Nat, v = .int n ∧ (n : Int) < m := by
  rcases hv with ⟨i, rfl⟩ | rfl | ⟨b, rfl⟩ | ⟨z, rfl⟩
  · have h : (decide (0 ≤ i) && decide (i < m)) = true := h
    simp at h
    exact ⟨i.toNat, by rw [Int.toNat_of_nonneg h.1], by omega⟩
  · cases h
  · cases h
  · cases h
section
variable {P : Program} {w : World} {K : PySem.W.Frag} {mg : Str → Option Value} {base : Heap} {f fC fR fI C CN CR : Addr} {fd fdC fdR fdI : FuncData} {T : List Addr} {psI : List Str}
theorem ok_hput (F : MthP K "put" "House.put" sHousePut f fd) (CH : ClsH K C) (hLen : mg "len" = none) (gC : mg "check_number" = some (.ref fC)) (FC : FnOk P w K mg base (L2.CX P w) 2 fC fdC ["number", "many"] (spChNum CN)) (kC : PySem.W.keepIn K (.ref fC) = true) (bC : Binds K fdC ["number", "many"] [])
    (gR : mg "is_row" = some (.ref fR)) (FR : FnOk P w K mg base CX0 5 fR fdR ["row"] (spRow K T)) (kR : PySem.W.keepIn K (.ref fR) = true) (bR : Binds K fdR ["row"] []) (hm : ∃ t, mg "MOST_ROWS" = some (.int 24 t))
    (R : One K CR fI "number") (FI : FnOk P w K mg base (L2.CX P w) 1 fI fdI psI (spErr1 CR "number")) (bI : Binds K fdI psI []) (gB : mg "BadRow" = some (.ref CR)) :
    FnOk P w K mg base (L2.CX P w) 6 f fd ["self", "number", "row"] (spHPut K T C CN CR) := by
  refine F.ok scHP (fun vs H Q E h => ?_) (fun cdv A outer s H vs Q E hr h => ?_)
  · obtain ⟨x, dx, ak, ev, a, xs, evs, b, nv, rv, rb, rfl, _⟩ := h
    rfl
  · obtain ⟨x, dx, ak, ev, a, xs, evs, b, nv, rv, rb, rfl, S, hl, hn, hrv, ht, k1, k2, k3⟩ := h
    obtain ⟨mt, hm⟩ := hm
    refine ⟨_, pss_cons (ps_expr (pe_call FC (hr.mono (by decide)) (by rfl) gC kC bC .nil (passes_call (takes_of rfl rfl rfl rfl) (fun _ _ _ _ h => h)) (pa_cons (pv 1) (pa_cons (pe_op op_add (pe_callB call_len_seq (by rfl) hLen (by decide +kernel) (pa_cons (pe_fld (pv 0) rfl) pa_nil)) pe_int) pa_nil))))
      (pss_cons (ps_if (PW.pt (pw_or (pt_not (pt_val (pe_call FR (hr.mono (by decide)) (by rfl) gR kR bR .nil pass0 (pa_cons (pv 2) pa_nil)))) (pw_or1 (pt_cmpR op_eq (pe_callB call_len_seq (by rfl) hLen (by decide +kernel) (pa_cons (pe_fld (pv 0) rfl) pa_nil)) (pe_glob (v := .int 24) (by rfl) hm ⟨_, rfl⟩) (nomark _)))))
        (pss_one (ps_raise1 rfl (takes_of rfl rfl rfl rfl) R FI (hr.mono (by decide)) bI (by rfl) gB (pv 1))) pss_nil)
      (pss_one (ps_fld (pv 0) (pe_tup (show PA _ _ (StX.tStar K _ _) from StX.pa_star (pe_slice (show SlR _ (rSlA K) from sl_tupA) (pe_fld (pv 0) rfl) po_none (po_some (pv 1))) (pa_cons (pv 2) (show PA _ _ (StX.tStar K _ _) from StX.pa_star (pe_slice (show SlR _ (rSlA K) from sl_tupA) (pe_fld (pv 0) rfl) (po_some (pv 1)) po_none) pa_nil)))) rfl))), ?_⟩
    refine ⟨_, rfl, _, rfl, x, C, dx, _, _, rfl, S.S.ob, CH.c, CH.n1, rfl, a, _, rfl, .inr (.inl (.of S.rows)), _, _, rfl, rfl, nv, _, rfl, hn, fun h1 => ?_, k1⟩
    obtain ⟨n, rfl, hn2⟩ := num_of hn h1
    refine ⟨_, rfl, rv, rb, rfl, hrv, ht, fun H1 kp1 => ?_⟩
    have S1 := S.kp ht kp1
    have raise : (rb = false ∨ xs.length = 24) → _ := fun hb => one_q (fld := "number") (y := .int (n : Int)) (C := CR) (Q := E) fun d hd => k2 h1 hb H1 d kp1 hd
    have go : rb = true → xs.length < 24 → _ := fun hb hl2 => k3 n rfl (by omega) hb hl2
    cases rb with
    | false =>
      refine ⟨_, rfl, iteT ⟨_, rfl, ?_⟩⟩
      exact raise (.inl rfl)
    | true =>
      refine ⟨_, rfl, iteF ?_⟩
      refine ⟨_, rfl, x, C, dx, _, _, rfl, S1.S.ob, CH.c, CH.n1, rfl, a, _, rfl, .inr (.inl (.of S1.rows)), rfl, _, rfl, ?_⟩
      have e24 : decide (V.int (xs.length : Int) = V.int 24) = decide (xs.length = 24) := by
        by_cases e : xs.length = 24
        · rw [decide_eq_true e, e]
          exact decide_eq_true rfl
        · rw [decide_eq_false e]
          refine decide_eq_false fun q => e ?_
          have := V.int.inj q
          omega
      rw [e24]
      cases h24 : decide (xs.length = 24) with
      | true => exact iteT ⟨_, rfl, raise (.inr (of_decide_eq_true h24))⟩
      | false =>
        have n24 : xs.length < 24 := by
          have := of_decide_eq_false h24
          omega
        refine iteF ?_
        refine ⟨_, rfl, x, C, dx, _, _, rfl, S1.S.ob, CH.c, CH.n1, rfl, _, rfl, n, rfl, slA_v S1.rows fun q1 H2 kk2 e2 => ?_⟩
        have S2 := S1.kept kk2
        refine ⟨q1, _, rfl, .inl (.inl (.of e2)), _, rfl, ?_⟩
        refine ⟨_, rfl, x, C, dx, _, _, rfl, S2.S.ob, CH.c, CH.n1, rfl, _, rfl, n, rfl, ?_⟩
        unfold tNoPart
        show rSlA K (.ref a) (some (n : Int)) none H2 _
        refine slA_v S2.rows fun q2 H3 kk3 e3 => ?_
        have S3 := S2.kept kk3
        rw [cutV_take (by omega)] at e2 ⊢
        rw [cutV_drop (by omega)] at e3
        refine ⟨q2, _, rfl, .inl (.inl (.of e3)), ?_⟩
        have hlen : (xs.take n ++ rv :: xs.drop n).length ≤ 25 := by
          rw [List.length_append, List.length_take, List.length_cons, List.length_drop]
          omega
        refine ⟨Nat.le_trans (show (xs.take n ++ rv :: (xs.drop n ++ [])).length ≤ 1000 by rw [List.append_nil]; omega) (by decide), fun a' na => ?_⟩
        have S4 := S3.kept ((Kept.refl H3).upd (o := .tup (xs.take n ++ rv :: (xs.drop n ++ []))) na)
        have e4 : upd H3 a' (.tup (xs.take n ++ rv :: (xs.drop n ++ []))) a' = some (.tup (xs.take n ++ rv :: xs.drop n)) := by rw [upd_same, List.append_nil]
        refine ⟨_, rfl, x, C, dx, _, rfl, S4.S.ob, CH.c, CH.n1, by show (4 : Nat) < 1000; decide, ?_⟩
        have kx : KpX T x H (upd H3 a' (.tup (xs.take n ++ rv :: (xs.drop n ++ [])))) := ((((KpX.ofKp kp1).trans (.of kp1.tab kk2)).trans (.of (KpX.of (x := x) kp1.tab kk2).tab kk3)).trans (.of ((KpX.of (x := x) kp1.tab kk2).trans (.of (KpX.of (x := x) kp1.tab kk2).tab kk3)).tab ((Kept.refl H3).upd na)))
        exact go rfl n24 _ a' (kx.put fun ps z => by rw [S4.S.ob] at z; cases z) (S4.set e4)
theorem ok_hdrop (F : MthP K "drop" "House.drop" sHouseDrop f fd) (CH : ClsH K C) (hLen : mg "len" = none) (gC : mg "check_number" = some (.ref fC)) (FC : FnOk P w K mg base (L2.CX P w) 2 fC fdC ["number", "many"] (spChNum CN)) (kC : PySem.W.keepIn K (.ref fC) = true) (bC : Binds K fdC ["number", "many"] []) :
    FnOk P w K mg base (L2.CX P w) 6 f fd ["self", "number"] (spHDrop T C CN) := by
  refine F.ok scHD (fun vs H Q E h => ?_) (fun cdv A outer s H vs Q E hr h => ?_)
  · obtain ⟨x, dx, ak, ev, a, xs, evs, b, nv, rfl, _⟩ := h
    rfl
  · obtain ⟨x, dx, ak, ev, a, xs, evs, b, nv, rfl, S, hl, hn, ht, k1, k3⟩ := h
    refine ⟨_, pss_cons (ps_expr (pe_call FC (hr.mono (by decide)) (by rfl) gC kC bC .nil (passes_call (takes_of rfl rfl rfl rfl) (fun _ _ _ _ h => h)) (pa_cons (pv 1) (pa_cons (pe_callB call_len_seq (by rfl) hLen (by decide +kernel) (pa_cons (pe_fld (pv 0) rfl) pa_nil)) pa_nil))))
      (pss_cons (ps_set (i := 2) scHD.nd rfl (.inl rfl) (pe_ix ix_tup (pe_fld (pv 0) rfl) (pv 1) (fun _ _ => rfl)))
      (pss_cons (ps_fld (pv 0) (pe_op (show OpR _ _ (rCatA K) from op_catA) (pe_slice (show SlR _ (rSlA K) from sl_tupA) (pe_fld (pv 0) rfl) po_none (po_some (pv 1))) (pe_slice (show SlR _ (rSlA K) from sl_tupA) (pe_fld (pv 0) rfl) (po_some (pe_op op_add (pv 1) pe_int)) po_none)) rfl)
      (pss_one (ps_ret (pv 2))))), ?_⟩
    refine ⟨_, rfl, _, rfl, x, C, dx, _, _, rfl, S.S.ob, CH.c, CH.n1, rfl, a, _, rfl, .inr (.inl (.of S.rows)), nv, _, rfl, hn, fun h1 => ?_, k1⟩
    obtain ⟨n, rfl, hn2⟩ := num_of hn h1
    obtain ⟨v, hv⟩ : ∃ v, xs[n]? = some v := ⟨xs[n]'(by omega), List.getElem?_eq_getElem (by omega)⟩
    refine ⟨_, rfl, x, C, dx, _, _, rfl, S.S.ob, CH.c, CH.n1, rfl, _, rfl, a, _, n, v, rfl, rfl, .inl (.of S.rows), atI_nat hv, ?_⟩
    refine ⟨_, rfl, x, C, dx, _, _, rfl, S.S.ob, CH.c, CH.n1, rfl, _, rfl, n, rfl, slA_v S.rows fun q1 H2 kk2 e2 => ?_⟩
    have S2 := S.kept kk2
    refine ⟨_, rfl, x, C, dx, _, _, rfl, S2.S.ob, CH.c, CH.n1, rfl, _, rfl, _, _, rfl, rfl, _, rfl, ?_⟩
    unfold tNoPart
    show rSlA K (.ref a) (some ((n : Int) + 1)) none H2 _
    rw [show ((n : Int) + 1) = ((n + 1 : Nat) : Int) by omega]
    refine slA_v S2.rows fun q2 H3 kk3 e3 => ?_
    rw [cutV_take (by omega)] at e2
    rw [cutV_drop (by omega)] at e3
    have S3 := S2.kept kk3
    refine catA_v (kk3 _ _ e2 (by simp)) e3 (by rw [List.length_take, List.length_drop]; omega) fun a' H4 kk4 e4 => ?_
    have S4 := S3.kept kk4
    refine ⟨_, rfl, x, C, dx, _, rfl, S4.S.ob, CH.c, CH.n1, by show (4 : Nat) < 1000; decide, ?_⟩
    refine ⟨_, rfl, ?_⟩
    exact k3 n v rfl hv _ a' ((KpX.of ht ((kk2.trans kk3).trans kk4)).put fun ps z => by rw [S4.S.ob] at z; cases z) (S4.set e4)
theorem ok_htell (F : MthP K "tell" "House.tell" sHouseTell f fd) (CH : ClsH K C) (hLen : mg "len" = none) (gC : mg "check_number" = some (.ref fC)) (FC : FnOk P w K mg base (L2.CX P w) 2 fC fdC ["number", "many"] (spChNum CN)) (kC : PySem.W.keepIn K (.ref fC) = true) (bC : Binds K fdC ["number", "many"] [])
    (gR : mg "is_row" = some (.ref fR)) (FR : FnOk P w K mg base CX0 5 fR fdR ["row"] (spRow K T)) (kR : PySem.W.keepIn K (.ref fR) = true) (bR : Binds K fdR ["row"] [])
    (R : One K CR fI "number") (FI : FnOk P w K mg base (L2.CX P w) 1 fI fdI psI (spErr1 CR "number")) (bI : Binds K fdI psI []) (gB : mg "BadRow" = some (.ref CR)) :
    FnOk P w K mg base (L2.CX P w) 6 f fd ["self", "number", "row"] (spHTell K T C CN CR) := by
  refine F.ok scHTl (fun vs H Q E h => ?_) (fun cdv A outer s H vs Q E hr h => ?_)
  · obtain ⟨x, dx, ak, ev, a, xs, evs, b, nv, rv, rb, rfl, _⟩ := h
    rfl
  · obtain ⟨x, dx, ak, ev, a, xs, evs, b, nv, rv, rb, rfl, S, hl, hn, hrv, ht, k1, k2, k3⟩ := h
    refine ⟨_, pss_cons (ps_expr (pe_call FC (hr.mono (by decide)) (by rfl) gC kC bC .nil (passes_call (takes_of rfl rfl rfl rfl) (fun _ _ _ _ h => h)) (pa_cons (pv 1) (pa_cons (pe_callB call_len_seq (by rfl) hLen (by decide +kernel) (pa_cons (pe_fld (pv 0) rfl) pa_nil)) pa_nil))))
      (pss_cons (ps_if (pt_not (pt_val (pe_call FR (hr.mono (by decide)) (by rfl) gR kR bR .nil pass0 (pa_cons (pv 2) pa_nil))))
        (pss_one (ps_raise1 rfl (takes_of rfl rfl rfl rfl) R FI (hr.mono (by decide)) bI (by rfl) gB (pv 1))) pss_nil)
      (pss_cons (ps_set (i := 3) scHTl.nd rfl (.inl rfl) (pe_ix ix_tup (pe_fld (pv 0) rfl) (pv 1) (fun _ _ => rfl)))
      (pss_cons (ps_fld (pv 0) (pe_tup (show PA _ _ (StX.tStar K _ _) from StX.pa_star (pe_slice (show SlR _ (rSlA K) from sl_tupA) (pe_fld (pv 0) rfl) po_none (po_some (pv 1))) (pa_cons (pv 2) (show PA _ _ (StX.tStar K _ _) from StX.pa_star (pe_slice (show SlR _ (rSlA K) from sl_tupA) (pe_fld (pv 0) rfl) (po_some (pe_op op_add (pv 1) pe_int)) po_none) pa_nil)))) rfl)
      (pss_one (ps_ret (pv 3)))))), ?_⟩
    refine ⟨_, rfl, _, rfl, x, C, dx, _, _, rfl, S.S.ob, CH.c, CH.n1, rfl, a, _, rfl, .inr (.inl (.of S.rows)), nv, _, rfl, hn, fun h1 => ?_, k1⟩
    obtain ⟨n, rfl, hn2⟩ := num_of hn h1
    obtain ⟨v, hv⟩ : ∃ v, xs[n]? = some v := ⟨xs[n]'(by omega), List.getElem?_eq_getElem (by omega)⟩
    refine ⟨_, rfl, rv, rb, rfl, hrv, ht, fun H1 kp1 => ?_⟩
    have S1 := S.kp ht kp1
    have raise : rb = false → _ := fun hb => one_q (fld := "number") (y := .int (n : Int)) (C := CR) (Q := E) fun d hd => k2 h1 hb H1 d kp1 hd
    have go : rb = true → _ := fun hb => k3 n v rfl hv hb
    cases rb with
    | false => exact ⟨_, rfl, iteT ⟨_, rfl, raise rfl⟩⟩
    | true =>
      refine ⟨_, rfl, iteF ?_⟩
      refine ⟨_, rfl, x, C, dx, _, _, rfl, S1.S.ob, CH.c, CH.n1, rfl, _, rfl, a, _, n, v, rfl, rfl, .inl (.of S1.rows), atI_nat hv, ?_⟩
      refine ⟨_, rfl, x, C, dx, _, _, rfl, S1.S.ob, CH.c, CH.n1, rfl, _, rfl, n, rfl, slA_v S1.rows fun q1 H2 kk2 e2 => ?_⟩
      have S2 := S1.kept kk2
      refine ⟨q1, _, rfl, .inl (.inl (.of e2)), _, rfl, ?_⟩
      refine ⟨_, rfl, x, C, dx, _, _, rfl, S2.S.ob, CH.c, CH.n1, rfl, _, rfl, _, _, rfl, rfl, _, rfl, ?_⟩
      unfold tNoPart
      show rSlA K (.ref a) (some ((n : Int) + 1)) none H2 _
      rw [show ((n : Int) + 1) = ((n + 1 : Nat) : Int) by omega]
      refine slA_v S2.rows fun q2 H3 kk3 e3 => ?_
      have S3 := S2.kept kk3
      rw [cutV_take (by omega)] at e2 ⊢
      rw [cutV_drop (by omega)] at e3
      refine ⟨q2, _, rfl, .inl (.inl (.of e3)), ?_⟩
      have hlen : (xs.take n ++ rv :: xs.drop (n + 1)).length ≤ 25 := by
        rw [List.length_append, List.length_take, List.length_cons, List.length_drop]
        omega
      refine ⟨Nat.le_trans (show (xs.take n ++ rv :: (xs.drop (n + 1) ++ [])).length ≤ 1000 by rw [List.append_nil]; omega) (by decide), fun a' na => ?_⟩
      have S4 := S3.kept ((Kept.refl H3).upd (o := .tup (xs.take n ++ rv :: (xs.drop (n + 1) ++ []))) na)
      have e4 : upd H3 a' (.tup (xs.take n ++ rv :: (xs.drop (n + 1) ++ []))) a' = some (.tup (xs.take n ++ rv :: xs.drop (n + 1))) := by rw [upd_same, List.append_nil]
      refine ⟨_, rfl, x, C, dx, _, rfl, S4.S.ob, CH.c, CH.n1, by show (4 : Nat) < 1000; decide, ?_⟩
      refine ⟨_, rfl, ?_⟩
      have kx : KpX T x H (upd H3 a' (.tup (xs.take n ++ rv :: (xs.drop (n + 1) ++ [])))) := (KpX.ofKp kp1).trans (.of kp1.tab ((kk2.trans kk3).trans ((Kept.refl H3).upd na)))
      exact go rfl _ a' (kx.put fun ps z => by rw [S4.S.ob] at z; cases z) (S4.set e4)
end
end Ah
end
section
set_option Elab.async false
set_option linter.all false
set_option maxRecDepth 100000
set_option maxHeartbeats 2000000
/-! except (X, Y): whose suite raises. -/
namespace L2H
open PySem PySem.Spec PyProof.Rows L2 HotX
theorem flyingZ_push {B h : Heap} {l : List Env} {a : Addr} {Z : Obj → Prop} (x : HandSPX.FlyingZ B l a Z h) (o : Obj) : HandSPX.FlyingZ B l a Z (h.push o) := by
  obtain ⟨k1, k2, k3, oe, vs, T, oT, ts, he, hz, hd, h1, hnT, hTe, hT, hdT, h3⟩ := x
  exact ⟨fun b u e => Heap.get?_push_of_some _ (k1 b u e), k2, k3.of_keeps fun b u hb hnf => ⟨u, Heap.get?_push_of_some _ hb, rfl⟩, oe, vs, T, oT, ts, Heap.get?_push_of_some _ he, hz, hd, h1, hnT, hTe, Heap.get?_push_of_some _ hT, hdT, h3⟩
/-- what the clause 'except (x, y)' wishes of an exception of the body: it is of one of the two -/
def wTwo (K : PySem.W.Frag) (c1 c2 : Value) (ts : Addr → Value → Option Addr → TS) (D : Ends) : WX := fun cls d σ H => PySem.W.exmAny K cls [c1, c2] = some true ∧ ∀ a, H a = none → ts a cls d D σ H
section
variable {X : Cx} {x y : Str} {c1 c2 : Value} {body suite : List Stmt} {b₀ : Stmt} {np nq tpos pos pos' : Pos} {kk : Nat} {tb : WX → TS} {ts : Addr → Value → Option Addr → TS} {Wout : WX}
theorem ps_try_two (hs : X.stack = X.env :: X.outer) (hf : X.env.frame = some X.env.locals) (hg1 : Gl X x) (hm1 : X.mg x = some c1) (hg2 : Gl X y) (hm2 : X.mg y = some c2) (hpa : ∀ hd : Option Value, PassesOwnAt (model X.prog X.w) (X.A.mark hd) X.A X.env X.xe) (tk : L2.Takes X Wout)
    (hb : ∀ (W : WX) (pn : List (Addr × Obj)) (xe : Value → Shared → Prop), L2N.Takes (X.tr pn xe) W → PassesOwn (model X.prog X.w) X.A X.env xe → PSs (X.tr pn xe) body (tb W))
    (hsu : ∀ (a : Addr) (oe : Obj) (cls : Value) (d : Option Addr) (pn : List (Addr × Obj)), L2N.Zn cls d oe → (∃ vs, oe.data = .fields vs) → L2.Takes (suiteX X a ((a, oe) :: pn)) Wout → HotC (suiteX X a ((a, oe) :: pn)) →
      PSs (suiteX X a ((a, oe) :: pn)) (b₀ :: suite) (ts a cls d))
    (hd1 : (x == ("__debug__" : Str)) = false := by decide) (hd2 : (y == ("__debug__" : Str)) = false := by decide) :
    PS X (.Try body [.ExceptHandler (some (.Tuple [.Name x np, .Name y nq] kk tpos)) none (b₀ :: suite) pos'] [] [] pos) (fun D σ H => tb (wTwo X.K c1 c2 ts D) D σ H) := by
  refine ⟨fun pins s σ H D I h => ?_⟩
  have ok := I.ok
  have hfr : X.A.frames = some (X.env :: X.outer) := by rw [ok.frames, hs]
  have notFr : ∀ {B h : Heap} {a : Addr} {o : Obj} {vs : Array Value}, h.FunFrames B (X.env :: X.outer) → h.get? a = some o → o.data = .fields vs → a ∉ frs (X.env :: X.outer) := fun {B h a o vs} ff e dd hm => by
    obtain ⟨_, o', e', hnf⟩ := ff.mem hm
    rw [e] at e'; cases e'
    exact hnf _ dd
  refine wpAny_Try_except ?_
  refine wpAny_mono ((hb (wTwo X.K c1 c2 ts D) (X.pn ++ pins) (fun e s₁ => wpAny (model X.prog X.w) X.A (noteFrame e X.env) (fun _ s₂ => wpAny (model X.prog X.w) X.A (setFlight e none) (fun _ s₃ =>
    wpAny (model X.prog X.w) X.A (handleBy e X.env [.ExceptHandler (some (.Tuple [.Name x np, .Name y nq] kk tpos)) none (b₀ :: suite) pos']) (SP X pins D) X.xe s₃) X.xe s₂) X.xe s₁) (fun u s' xx => ?_) PassesOwn.looking).run [] s σ H D (I.toTry _) h) (fun f s1 hsp => ?_) (fun e s1 he => he)
  · obtain ⟨a, B, sI, pins', σ', H', cls, d, rfl, J', nb, up, sky, na, os, ag, hb1, hyes⟩ := xx
    have J : Inv X pins σ' H' sI := J'.ofTry ok
    have sky' : Sky B (X.env :: X.outer) a (L2N.Zn cls d) X.env.locals s'.heap := by rw [← hs]; exact sky
    show wpAny (model X.prog X.w) X.A (noteFrame (.ref a) X.env) _ _ _
    refine L2N.Sky.land L2N.Zn.steady hfr hf sky' fun h3 fl3 up3 => ?_
    have J3 : Inv X pins σ' H' { s' with heap := h3 } := J.landed nb fl3.1 (up.trans up3) os ag
    obtain ⟨oe3, vs3, he3, hz3, hd3⟩ := fl3.there
    have nfr : a ∉ frs (X.env :: X.outer) := notFr fl3.2.2.1 he3 hd3
    have nL : a ≠ X.env.locals := fun z => nfr (List.mem_filterMap.mpr ⟨X.env, List.mem_cons_self, by rw [hf, z]⟩)
    have nF : a ∉ X.fs := fun hm => by
      obtain ⟨e, he, q⟩ := List.mem_filterMap.mp hm
      exact nfr (List.mem_filterMap.mpr ⟨e, List.mem_cons_of_mem _ he, q⟩)
    have S3 := J3.suite he3 hd3 na nL nF
    refine wpAny_handleBy_cons (codeAny_handlers_test ?_) (by intro q; cases q)
    refine Tuple_ (spliced_more (ld_glob (X := X.suite a ((a, oe3) :: (X.pn ++ pins))) S3 hg1 hm1 (spliced_more (ld_glob (X := X.suite a ((a, oe3) :: (X.pn ++ pins))) S3 hg2 hm2 (spliced_none ?_) hd2)) hd1))
    refine wpAny_newObj_type ?_
    have fl5 := flyingZ_push fl3 { cls := .type "tuple", dict := none, data := .seq [c1, c2].toArray }
    have he5 := Heap.get?_push_of_some (h := h3) { cls := .type "tuple", dict := none, data := .seq [c1, c2].toArray } he3
    have hp5 : (h3.push { cls := .type "tuple", dict := none, data := .seq [c1, c2].toArray }).get? h3.objs.size = some { cls := .type "tuple", dict := none, data := .seq [c1, c2].toArray } := Heap.get?_push_at rfl rfl
    have k5 : h3.UpToSlots (h3.push { cls := .type "tuple", dict := none, data := .seq [c1, c2].toArray }) := Heap.UpToSlots.of_keeps fun b o e => Heap.get?_push_of_some _ e
    have KI5 : X.K.In (h3.push { cls := .type "tuple", dict := none, data := .seq [c1, c2].toArray }) := PySem.W.Frag.In.keeps J3.kIn fun b o e => Heap.get?_push_of_some _ e
    have LT : PySem.W.Looks (model X.prog X.w) (h3.push { cls := .type "tuple", dict := none, data := .seq [c1, c2].toArray }) (typeOf (.ref a)) cls := fun A Q E s k q => wpAny_typeOf_ref (k _ _ he5) (by rw [hz3.1]; exact q)
    have LM := PySem.W.exm_tup2 (M := model X.prog X.w) KI5 LT hp5 hb1
    refine LM.here ?_
    refine codeAny_handlers_suite ?_
    refine HandSPX.lands_againZ fl5 fun h4 fl4 up4 => ?_
    have J4 : Inv X pins σ' H' { s' with heap := h4 } := J.landed nb fl4.1 (((up.trans up3).trans k5).trans up4) os ag
    obtain ⟨oe4, vs4, he4, hz4, hd4⟩ := fl4.there
    have S4 := J4.suite he4 hd4 na nL nF
    have tkS : L2.Takes (suiteX X a ((a, oe4) :: (X.pn ++ pins))) Wout := fun u2 s2 x2 => by
      obtain ⟨a2, B2, sI2, pn2, σ2, H2, cls2, d2, e2, I2, nb2, up2, sky2, na2, os2, ag2, w2⟩ := x2
      exact tk u2 s2 ⟨a2, B2, sI2, pins, σ2, H2, cls2, d2, e2, unsuiteX I2 ok, nb2, up2, sky2, na2, os2, ag2, w2⟩
    have hot : HotC (suiteX X a ((a, oe4) :: (X.pn ++ pins))) := ⟨(a, oe4), ⟨rfl, vs4, hd4, hz4.2.2 vs4 hd4⟩, List.mem_cons_self⟩
    refine wpAny_mono ((hsu a oe4 cls d (X.pn ++ pins) hz4 ⟨_, hd4⟩ tkS hot).run [] _ _ H' _ (suiteX_of S4) (hyes a na)) (fun f s6 hsp => ?_) (fun e6 s6 z => hpa (some (.ref a)) e6 s6 z)
    cases f with
    | next =>
      obtain ⟨σ6, H6, S6, q6⟩ := hsp
      exact ⟨_, _, unsuiteX S6 ok, q6⟩
    | brk =>
      obtain ⟨σ6, H6, S6, q6⟩ := hsp
      exact ⟨_, _, unsuiteX S6 ok, q6⟩
    | cont =>
      obtain ⟨σ6, H6, S6, q6⟩ := hsp
      exact ⟨_, _, unsuiteX S6 ok, q6⟩
    | ret u =>
      obtain ⟨v6, σ6, H6, S6, r6, q6⟩ := hsp
      exact ⟨_, _, _, unsuiteX S6 ok, r6, q6⟩
  · cases f with
    | next =>
      obtain ⟨σ', H', J', q⟩ := hsp
      exact wpAny_execs_nil ⟨σ', H', J'.ofTry ok, q⟩
    | brk =>
      obtain ⟨σ', H', J', q⟩ := hsp
      exact ⟨σ', H', J'.ofTry ok, q⟩
    | cont =>
      obtain ⟨σ', H', J', q⟩ := hsp
      exact ⟨σ', H', J'.ofTry ok, q⟩
    | ret u =>
      obtain ⟨v, σ', H', J', r, q⟩ := hsp
      exact ⟨v, σ', H', J'.ofTry ok, r, q⟩
end
end L2H
end
section
set_option Elab.async false
set_option linter.all false
set_option maxRecDepth 100000
set_option maxHeartbeats 2000000
/-! own exceptions: made where none is handled, with no context; with two fields, made in a suite. -/
namespace Ah
open PySem PySem.Spec PyProof.Rows L2
theorem mk_endN {X : Cx} {pins : List (Addr × Obj)} {σ : L2.St} {H1 H2 : Hp} {Q : XK} {hp hp2 h2 : Heap} {g1 g2 : Array GenState} {d1 d2 : Drawn} {t1 t2 : Nat} {os1 os2 : OsState} {a C d : Addr} {fs : List (Str × V)} (T : Raises X (.ref C)) (I1 : Inv X pins σ H1 ⟨hp, g1, d1, t1, os1⟩)
    (ha : hp.objs.size ≤ a) (k : ∀ b o, hp.get? b = some o → hp2.get? b = some o) (un : Un (frs X.stack) [] (upd H1 a (exo a C none)) H2 hp2 h2) (hok : HOk X.prog X.w H2 h2) (ho : os2 = os1) (hb : AllBare g2)
    (ea : H2 a = some (exo a C (some d))) (ed : H2 d = some (exd d fs)) (hd1 : H1 d = none) (q : Q (.ref C) (some d) (upd (del H2 a) d (.xd fs))) : L2N.MkP X pins σ Q (.ref a) ⟨h2, g2, d2, t2, os2⟩ := by
  obtain ⟨t0, G, J, kG, ge, hoe, na⟩ := mk_end0 (d2 := d2) (t2 := t2) I1 ha k un hok ho hb ea ed hd1
  exact ⟨a, _, _, ⟨G, g2, d2, t2, os2⟩, _, .ref C, some d, rfl, J, kG, ge, hoe, ⟨rfl, rfl, fun vs hv => by cases hv; rfl⟩, rfl, rfl, na, rfl, hb, T, q⟩
section
variable {X : Cx} {e : Expr} {es : List Expr} {ta : TA} {p pos : Pos}
theorem pmk_oexN {CX : CXT} {x : Str} {C fI : Addr} {k : Nat} {fd : FuncData} {ps : List Str} {sp : Sp} (T : OexC X.K C) (iC : PySem.W.findIn X.K (.ref C) "__init__" = some (some (.ref fI))) (tI : PySem.W.typeIn X.K (.ref fI) = some (.type "function"))
    (F1 : FnOk X.prog X.w X.K X.mg X.base CX k fI fd ps sp) (hr : Room (k + 1) X.A) (hb : L2.Binds X.K fd ps []) (hx : Passes CX X (fun _ _ _ => False)) (hg : Gl X x) (hm : X.mg x = some (.ref C)) (ha : PA X (e :: es) ta)
    (hdb : (x == ("__debug__" : Str)) = false := by decide) (he : starEach (e :: es) X.env = (false, eval e X.env) :: starEach es X.env := by rfl) (hpl : (backTo pos (starEach es X.env)).any (·.1) = false := by rfl) :
    L2N.PMk X (.Call (.Name x p) (e :: es) [] pos) (tMkO C sp [] ta) := by
  intro pins s σ H Q I h
  obtain ⟨nm, q, N, bs, bm, sn, sub, ab, col, dd, k0, k1, k2, k3, k5, hC, hbm⟩ := T.cls
  refine wpAny_Call_Name_kw (ld_glob I hg hm ?_ hdb)
  refine PySem.W.callWith_K (h₀ := X.base) I.ok.mod.kin T.kC (thn (ha.run pos pins s σ H _ I h) fun us s1 ⟨vs, H1, I1, r1, hz, q1⟩ => ⟨I1.kIn, ?_⟩) he hpl
  show wpAny _ _ (call (.ref C) us) _ _ _
  obtain ⟨hp, g, dr, tk, os⟩ := s1
  have hsz : hp.objs.size ≤ hp.objs.size + 1 := Nat.le_succ _
  have hn : H1 (hp.objs.size + 1) = none := I1.hok.fresh hsz
  have hq := q1 (hp.objs.size + 1) hn
  rw [List.append_nil] at hq
  have kk : ∀ b o, hp.get? b = some o → ((hp.push (PySem.W.kdv_tup us)).push (PySem.HandSPX.excO C hp.objs.size)).get? b = some o := fun b o e => Heap.get?_push_of_some _ (Heap.get?_push_of_some _ e)
  have hget : ((hp.push (PySem.W.kdv_tup us)).push (PySem.HandSPX.excO C hp.objs.size)).get? (hp.objs.size + 1) = some (PySem.HandSPX.excO C hp.objs.size) := by heap_get
  have I2 : Inv X pins σ (upd H1 (hp.objs.size + 1) (exo (hp.objs.size + 1) C none)) ⟨(hp.push (PySem.W.kdv_tup us)).push (PySem.HandSPX.excO C hp.objs.size), g, dr, tk, os⟩ :=
    I1.laid (t' := tk) (a := hp.objs.size + 1) (o := exo (hp.objs.size + 1) C none) (h' := (hp.push (PySem.W.kdv_tup us)).push (PySem.HandSPX.excO C hp.objs.size)) kk hsz (exo_ok hget)
  have r2 : Vals (V.ref (hp.objs.size + 1) :: vs) (Value.ref (hp.objs.size + 1) :: us) := .cons rfl r1
  have hl : (Value.ref (hp.objs.size + 1) :: us ++ []).length = ps.length := by
    have e := r2.length
    rw [F1.len _ _ _ _ hq] at e
    rw [List.append_nil]
    exact e.symm
  have hus : us.length ≤ sizeLine := by
    rw [← Paired.length r1, sizeLine_eq]
    omega
  have b2 := hb _ (Value.ref (hp.objs.size + 1) :: us) I2.kIn hl
  rw [List.append_nil] at b2
  refine wpAny_call (PySem.HandSPX.call_own F.excBase_ValueError (fun Y => PySem.HandSPX.refsVE_contains Y bm hbm) (I1.kIn _ _ hC) (PySem.W.looks_findIn I1.kIn iC) (fun self => PySem.W.bind_fn I1.kIn self tI) hus
    (codeAny_mono (F1.run _ X.stack _ _ ⟨Value.ref (hp.objs.size + 1) :: us, []⟩ (Value.ref (hp.objs.size + 1) :: us) _ _ (fun _ _ _ => False) (hr.make C us []) (I2.env0.make C us []) b2 r2 hq) fun r s' hq' => ?_))
  cases r with
  | error er => exact hx pins σ _ _ er s' I2 hq'
  | ok fl =>
    cases fl with
    | ret u =>
      obtain ⟨v, H2, os2, bare2, un2, hok2, rv, ev, d, fs, ea, ed, hd1, q2⟩ := hq'
      subst ev
      obtain ⟨h2, g2, d2, t2, os'⟩ := s'
      exact ⟨rv, mk_endN (raises_own T.exC T.tyC) I1 hsz kk un2 hok2 os2 bare2 ea ed hd1 q2⟩
    | next => exact False.elim hq'
    | brk => exact False.elim hq'
    | cont => exact False.elim hq'
end
section
variable {X : Cx} {C fI : Addr} {fld : Str} {W : WX} {e : Expr} {te : TE} {x : Str} {p pos pos' : Pos} {fd : FuncData} {ps : List Str}
/-- raise X(e), no context -/
theorem ps_raise1N (hc : X.calm = true) (tk : L2N.Takes X W) (R : One X.K C fI fld) (F1 : FnOk X.prog X.w X.K X.mg X.base (L2.CX X.prog X.w) 1 fI fd ps (spErr1 C fld)) (hr : Room 2 X.A) (hb : L2.Binds X.K fd ps []) (hg : Gl X x) (hm : X.mg x = some (.ref C)) (he : PE X e te)
    (hdb : (x == ("__debug__" : Str)) = false := by decide) (hst : starEach [e] X.env = (false, eval e X.env) :: starEach [] X.env := by rfl) (hpl : (backTo pos (starEach [] X.env)).any (·.1) = false := by rfl) :
    PS X (.Raise (some (.Call (.Name x p) [e] [] pos)) none pos') (fun _ σ H => tMkO C (spErr1 C fld) [] (tCons te tNil) σ H fun cls d H' => W cls d σ H') :=
  L2N.ps_raise hc tk (pmk_oexN (p := p) (pos := pos) R.T R.iC R.tI F1 hr hb passL hg hm (pa_cons he pa_nil hst) hdb hst hpl)
end
/-! ### two fields, in a suite -/
def cxSupH (CX : CXT) (P : Program) (w : World) (K : PySem.W.Frag) (mg : Str → Option Value) (base : Heap) (N : List Str) (qual : Str) (scope : Scope) (f : Addr) (cd : Value) (cc : Addr) (A : Around) (outer : List Env) (s : Shared) (H : Hp) (E : XK) (p : Addr × Obj) : Cx :=
  { cxSup CX P w K mg base N qual scope f cd cc A outer s H E with calm := false, pn := [p] }
section
variable {CX : CXT} {P : Program} {w : World} {K : PySem.W.Frag} {mg : Str → Option Value} {base : Heap} {f C : Addr} {N : List Str} {E : XK} {A : Around} {outer : List Env} {s : Shared} {H : Hp} {us : List Value} {vs : List V}
theorem inv_supH {p : Addr × Obj} {qual : Str} {scope : Scope} {cd : Value} {cc : Addr} {h1 : Heap} {tk : Nat} {o : Obj} {v0 : Option Value} (hpin : L2H.PinOk outer H s p) (e0 : Env0 P w K mg base A outer s H) (nd : N.Nodup) (hl : vs.length = N.length) (r : Vals vs us)
    (hkind : scope.kind = .function) (hloc : ∀ x ∈ N, scope.names.lookup x = some .local) (hcell : ∀ x ∈ scope.names, x.2 ≠ .cell) (hfree : ∀ x, scope.names.lookup x = some .free → x = "__class__")
    (hcc : K.lookup cc = some o) (ho : o.data = .cell v0)
    (hns : h1.Ns s.heap.objs.size (fun x => (N.zip us).reverse.lookup x)) (hk : ∀ b o, s.heap.get? b = some o → h1.get? b = some o) :
    Inv (cxSupH CX P w K mg base N qual scope f cd cc A outer s H E p) [] (L2.start N vs) H { s with heap := h1, toks := tk } := by
  have KB : ∀ b o, K.lookup b = some o → base.get? b = some o := fun b o q => e0.mod.kin _ _ q
  have lkc : ∀ {x : Str} {c : Addr}, (cxSupH CX P w K mg base N qual scope f cd cc A outer s H E p).env.cells.lookup x = some c → x = "__class__" ∧ c = cc := fun {x c} h => by
    have h : List.lookup x [(("__class__" : Str), cc)] = some c := h
    by_cases hx : x = "__class__"
    · subst hx
      simp [List.lookup] at h
      exact ⟨rfl, h.symm⟩
    · rw [List.lookup, beq_eq_false_iff_ne.mpr hx] at h
      cases h
  have noA : ∀ b : Addr, b ∉ (cxSupH CX P w K mg base N qual scope f cd cc A outer s H E p).ex := fun b z => absurd (show b ∈ ([] : List Addr) from z) (by simp)
  have hlu : N.length = us.length := by rw [← hl]; exact r.length
  have bcc := e0.bs _ _ (KB _ _ hcc)
  refine ⟨⟨e0.mod, hkind, rfl, rfl, Nat.le_refl _, fun y z c h1 h2 => (lkc h1).1.trans (lkc h2).1.symm, fun y hy => ?_, fun y c z _ => ?_, (fun z => Bool.noConfusion (show false = true from z)), Around.frames_deeper e0.frames, .inr ⟨rfl, rfl⟩, fun b z => absurd z (noA b), e0.bs, e0.bsz, fun b _ _ => noA b, fun b z => absurd z (noA b), e0.funs, e0.frf⟩,
    rfl, e0.bare, Un.kept hk, ⟨_, hns, fun i y v h1 h2 h3 => ?_⟩, fun y c h => ⟨v0, o, ?_, ho⟩, e0.hok.fresh (Nat.le_refl _), fun y c h => ?_, fun q hq => ?_, e0.hok.kept hk, ?_⟩
  · have hy : scope.names.lookup y = some .cell ∨ scope.names.lookup y = some .free := hy
    rcases hy with hy | hy
    · exact absurd rfl (hcell _ (PySem.mem_of_lookup hy))
    · refine ⟨cc, ?_⟩
      rw [hfree y hy]
      show List.lookup ("__class__" : Str) [(("__class__" : Str), cc)] = some cc
      simp [List.lookup]
  · cases (show false = true from z)
  · have hi : i < vs.length := by
      unfold L2.start at h2
      by_cases hi : i < vs.length
      · exact hi
      · rw [List.getElem?_append_right (by simpa using hi)] at h2
        rw [List.getElem?_replicate] at h2
        split at h2 <;> cases h2
    have ha : vs[i]? = some v := by
      unfold L2.start at h2
      rw [List.getElem?_append_left (by simpa using hi), List.getElem?_map] at h2
      cases e : vs[i]? with
      | none => rw [e] at h2; cases h2
      | some a => rw [e] at h2; cases h2; rfl
    obtain ⟨u, hu, rv⟩ := r.get ha
    exact ⟨u, rv, .inl ⟨hloc y (List.mem_of_getElem? h1), zip_look nd hlu h1 hu⟩⟩
  · rw [(lkc h).2]
    exact hk _ _ bcc.1
  · rw [(lkc h).2]
    exact bcc.2
  · have eq : q = p := by simpa using (show q ∈ [p] ++ ([] : List (Addr × Obj)) from hq)
    rw [eq]
    exact ⟨hk p.1 p.2 hpin.get, hpin.free, Nat.ne_of_lt (Heap.lt_size hpin.get), hpin.nofs, hpin.nocell⟩
  · unfold L2.start
    show _ = N.length
    rw [List.length_append, List.length_map, List.length_replicate]
    omega

theorem sup_fnH {k : Nat} {fd : FuncData} {slf : Str} {rest : List Stmt} {sp : Sp} (S : SupFn P K mg f C fd N slf rest) (T : OexC K C)
    (len : ∀ vs H Q E, sp vs H Q E → vs.length = N.length)
    (hbody : ∀ (qual : Str) (scope : Scope) (cd : Value) (cc : Addr) (A : Around) (outer : List Env) (s : Shared) (H : Hp) (vs : List V) (Q : VK) (E : XK) (p : Addr × Obj), (∀ x ∈ N, scope.names.lookup x = some .local) → sp vs H Q E →
      (∃ a vr, vs = .ref a :: vr ∧ H a = some (exo a C none)) ∧ ∃ t, PSs (cxSupH CX P w K mg base N qual scope f cd cc A outer s H E p) rest t ∧ t { nx := fun _ H' => Q .non H', rt := Q } (L2.start N vs) H) :
    L2H.FnH P w K mg base CX (k + 1) f fd N sp := by
  refine ⟨len, fun A outer s H args us vs Q E p hr hot hpin e0 hb r hsp => ?_⟩
  obtain ⟨oc, od, name, qual, params, scope, dV, kV, doc, pm, ct, an, cda, cc, osl, p0, p1, p2, p3, p4, p5, txt, kk, ar, ccl, cl, cdd, cld, ccs, csl, xs, file, tf, pl, rfl, lk, hcd, hhd, har, hcda, hxs, hfile, hcc, hkind, hco, hgen, hcell, hloc, hfree, hsup, hcls, hin, hsw, hev, hst, hpl⟩ := S.ex
  have hl := len _ _ _ _ hsp
  have hlu : N.length = us.length := by rw [← hl]; exact r.length
  have KX : K.In s.heap := e0.mod.kin.keeps fun b o e => (e0.bs b o e).1
  have lim : s.heap.NoLimit := e0.mod.nolimit.keeps fun b o e => (e0.bs b o e).1
  refine PySem.ks_codeAny_call_defAt hr.depth (KX _ _ lk) rfl lim (PySem.W.codeRec_of KX hcd) rfl hb hcell (fun x hx => hloc _ (List.of_mem_zip (show (x.1, x.2) ∈ N.zip us from hx)).1) (fun h1 hns hk => ?_) hco hgen hkind
  have I : Inv (cxSupH CX P w K mg base N qual scope f (.ref cda) cc A outer s H E p) [] (L2.start N vs) H { s with heap := h1, toks := s.toks + (N.zip us).length } :=
    inv_supH hpin e0 S.nd hl r hkind hloc hcell hfree hcc rfl hns hk
  obtain ⟨⟨a, vr, rfl, ea⟩, t, ht, hq⟩ := hbody qual scope (.ref cda) cc A outer s H vs Q E p hloc hsp
  obtain ⟨t1, hat⟩ := exo_at I.hok ea
  have hat : h1.get? a = some ({ cls := .ref C, dict := none, data := .fields #[.ref t1, .none, .none, .none, .bool false, .none] } : Obj) := hat
  obtain ⟨nm, q, Nm, bs, bm, sn, sub, ab, col, dd, k0, k1, k2, k3, k5, hC, hbm⟩ := T.cls
  have K1 : K.In h1 := KX.keeps hk
  have hcl : PySem.W.clsIn K C = some { name := nm, bases := bs, mro := .ref C :: bm, ns := Nm, qualname := q, hasDict := true, slotNames := sn, subclasses := sub, abstract := ab, collection := col, hasDel := false } := by unfold PySem.W.clsIn; rw [hC] <;> rfl
  have us0 : ∃ ur, us = .ref a :: ur := by
    cases r with
    | @cons _ u0 _ ur ra rw' =>
      obtain rfl : u0 = Value.ref a := ra
      exact ⟨ur, rfl⟩
  have hself : (N.zip us).reverse.lookup ar.arg = some (.ref a) := by
    obtain ⟨ur, e⟩ := us0
    rw [har]
    exact zip_look S.nd hlu S.hd (by rw [e]; rfl)
  have hlself : scope.names.lookup ar.arg = some .local := by rw [har]; exact hloc _ (List.mem_of_getElem? S.hd)
  show _root_.PySem.wpAt (model P w) (A.deeper (PySem.W.ksEnv qual scope s.heap.objs.size f (.ref cda) cc)) (.func _ (PySem.W.ksEnv qual scope s.heap.objs.size f (.ref cda) cc)) (execs _ (PySem.W.ksEnv qual scope s.heap.objs.size f (.ref cda) cc)) _ _ _
  refine PySem.ks_wpAt_execs_cons (PySem.ks_wpAt_Expr_any (PySem.ks_wpAt_MethodCall (PySem.ks_wpAt_super_base (env := PySem.W.ksEnv qual scope s.heap.objs.size f (.ref cda) cc) hsup hcls (by decide) rfl (K1 _ _ lk) rfl hhd rfl (K1 _ _ hcda) rfl hxs hfile S.top ?_) (hev _)) (hin _) (hsw _))
  obtain ⟨mb, hm1, hm2⟩ := I.mod.blt
  refine PySem.W.ks_loadName_global hkind hsup (Calls.loadGlobal_builtin (env := PySem.W.ksEnv qual scope s.heap.objs.size f (.ref cda) cc) (I.mod.glob.keeps I.bk) S.sup (hm1.keeps I.bk) ((hm2 "super" (by decide)).trans PyProof.Rows.Boot.«super») ⟨rfl, ?_⟩)
  refine wpAny_loadName_free hkind hcls rfl ⟨_, K1 _ _ hcc, rfl⟩ ?_
  refine wpAny_loadName_local hkind hlself hns hself ?_
  refine PySem.ks_wpAny_isType_cls (K1 _ _ hC) rfl ⟨rfl, ?_⟩
  refine PySem.ks_wpAny_call_super (K1 _ _ hC) rfl hat rfl (fun c e => by cases e) (PySem.W.looks_mroIn K1 S.own) (fun h2 e2 k2 => ?_)
  have K2 : K.In h2 := K1.keeps k2
  have hat2 := k2 _ _ hat
  have I2 : PySem.W.InstAt h2 a { cls := .ref C, dict := none, data := .fields #[.ref t1, .none, .none, .none, .bool false, .none] } C none := ⟨hat2, rfl, rfl, trivial⟩
  have hal := S.meth
  unfold PySem.W.ks_superIn at hal
  rw [hcl] at hal
  refine PySem.W.kxs_getMethod PySem.W.kxs_ValueError e2 (PySem.W.looks_opaque K2 S.opq) (l₀ := .ref C :: bm) (fun A Q E s k q => wpAny_bind ((PySem.W.looks_clsIn K2 hcl) A _ E s k (wpAny_pure q))) rfl K2 hal (I2.type.andThen (PySem.W.looks_subIn K2 S.val)) (PySem.W.ks_ne K2 I2 hcl) (by decide) ?_
  have k3 : ∀ b o, h1.get? b = some o → (h2.push (PySem.W.kxs_mw "ValueError.__init__" a)).get? b = some o := fun b o q => Heap.get?_push_of_some _ (k2 b o q)
  have e3 : (h2.push (PySem.W.kxs_mw "ValueError.__init__" a)).get? h2.objs.size = some (PySem.W.kxs_mw "ValueError.__init__" a) := Heap.get?_push_at rfl rfl
  generalize h2.push (PySem.W.kxs_mw "ValueError.__init__" a) = h3 at k3 e3 ⊢
  generalize h2.objs.size = u at e3 ⊢
  have I3 : Inv (cxSupH CX P w K mg base N qual scope f (.ref cda) cc A outer s H E p) [] (L2.start N (.ref a :: vr)) H { s with heap := h3, toks := s.toks + (N.zip us).length + 1 } := I.kept k3
  dsimp only
  rw [hst]
  refine PySem.W.kxs_callWith (i := "ValueError.__init__") (x := a) (by show (false || (backTo p4 (starEach [] (PySem.W.ksEnv qual scope s.heap.objs.size f (.ref cda) cc))).any (·.1)) = false; rw [hpl]; rfl) (Calls.evalArgs_plain ?_)
  refine Calls.spliced_cons (Calls.Constant_str (k := kk) (pos := p3) (Calls.spliced_nil ⟨e3, ?_⟩))
  refine wpAny_call (codeAny_of_tree ?_)
  show wpAny _ (A.deeper (PySem.W.ksEnv qual scope s.heap.objs.size f (.ref cda) cc)).in1 (callAny (.ref u) ⟨[.str txt _], []⟩) _ _ _
  simp only [callAny]
  refine wpAny_bind (wpAny_load e3 ?_)
  simp only [PySem.W.kxs_mw, show (Value.type "method-wrapper" == Value.type "method" || Value.type "method-wrapper" == Value.type "builtin_function_or_method" || Value.type "method-wrapper" == Value.type "method-wrapper") = true by decide, if_true]
  refine PySem.W.KFB.if_so (by decide) ?_
  refine wpAny_bind (PySem.W.check_bound_init F.excBase_ValueError.toExcCallFacts (K1.keeps k3 _ _ hC) (k3 _ _ hat) rfl ?_)
  refine wpAny_bind (wpAny_pure (wpAny_pure ?_))
  refine ⟨plainId_quiet F.excBase_ValueError.init.plain _, codeAny_builtin F.excBase_ValueError.initEntry ?_⟩
  refine PySem.W.exc_init_tree (cls := .ref C) (t0 := t1) (dv := none) (c2 := .none) (c3 := .none) (b4 := .bool false) (k3 _ _ hat) (by rw [sizeLine_eq]; show 1 ≤ 16777216; decide) fun h5 k5 e5 _ => ?_
  have I5 : Inv (cxSupH CX P w K mg base N qual scope f (.ref cda) cc A outer s H E p) [] (L2.start N (.ref a :: vr)) (upd H a (exo a C none)) { s with heap := h5, toks := s.toks + (N.zip us).length + 1 + 1 } :=
    (I3.tok (s.toks + (N.zip us).length + 1 + 1)).write (x := a) (e := a) (o := exo a C none) (by rw [ea]; exact True.intro) (.inl rfl) k5 ⟨_, e5⟩ (exo_ok e5)
  have eu : upd H a (exo a C none) = H := by
    funext b
    by_cases hb : b = a
    · rw [hb, upd_same, ea]
    · rw [upd_ne hb]
  rw [eu] at I5
  refine wpAt_of_wpAny (wpAny_mono (ht.run [] _ (L2.start N (.ref a :: vr)) H _ I5 hq) (fun fl s' hs => ?_) fun e s' hs => hs)
  have fin : ∀ {σ' : L2.St} {H' : Hp} {v : V} {u : Value}, Inv (cxSupH CX P w K mg base N qual scope f (.ref cda) cc A outer s H E p) [] σ' H' s' → RelV v u → Q v H' → CE outer P w H s Q u s' :=
    fun {σ' H' v u} J rv q => ⟨v, H', J.os, J.bare, J.base, J.hok, rv, q⟩
  cases fl with
  | ret u =>
    obtain ⟨v, σ', H', J, rv, q⟩ := hs
    exact fin J rv q
  | next =>
    obtain ⟨σ', H', J, q⟩ := hs
    exact fin (v := V.non) (u := Value.none) J rfl q
  | brk =>
    obtain ⟨_, _, _, q⟩ := hs
    exact False.elim q
  | cont =>
    obtain ⟨_, _, _, q⟩ := hs
    exact False.elim q
end
def spErr2 (C : Addr) (f1 f2 : Str) : Sp := fun vs H Q _ => ∃ a y z, vs = [.ref a, y, z] ∧ H a = some (exo a C none) ∧ ∀ dx, H dx = none → dx ≠ a → Q .non (upd (upd (upd H dx (exd dx [(f1, y)])) a (exo a C (some dx))) dx (exd dx [(f2, z), (f1, y)]))
section
variable {CX : CXT} {P : Program} {w : World} {K : PySem.W.Frag} {mg : Str → Option Value} {base : Heap} {f C : Addr}
theorem sup_twoH {fd : FuncData} {slf a1 a2 f1 f2 : Str} {p6 p7 p8 p9 q6 q7 q8 q9 : Pos} (S : SupFn P K mg f C fd [slf, a1, a2] slf [.Assign [.Attribute (.Name slf p6) f1 p7] (.Name a1 p8) p9, .Assign [.Attribute (.Name slf q6) f2 q7] (.Name a2 q8) q9]) (T : OexC K C)
    (hno : PySem.W.findIn K (.ref C) f1 = some none) (hno2 : PySem.W.findIn K (.ref C) f2 = some none)
    (hd1 : (slf == ("__debug__" : Str)) = false) (hd2 : (slf == ("__classdict__" : Str)) = false) (hd3 : (a1 == ("__debug__" : Str)) = false) (hd4 : (a1 == ("__classdict__" : Str)) = false) (hd5 : (a2 == ("__debug__" : Str)) = false) (hd6 : (a2 == ("__classdict__" : Str)) = false) :
    L2H.FnH P w K mg base CX 1 f fd [slf, a1, a2] (spErr2 C f1 f2) := by
  refine sup_fnH S T (fun vs H Q E h => by obtain ⟨a, y, z, rfl, _⟩ := h; rfl) (fun qual scope cd cc A outer s H vs Q E p hv h => ?_)
  obtain ⟨a, y, z, rfl, ea, q⟩ := h
  refine ⟨⟨a, _, rfl, ea⟩, _, pss_cons (ps_ost (pe_var (i := 0) rfl (.inl (hv _ (by simp))) hd1 hd2) (pe_var (i := 1) rfl (.inl (hv _ (by simp))) hd3 hd4) (by rfl))
    (pss_one (ps_ost (pe_var (i := 0) rfl (.inl (hv _ (by simp))) hd1 hd2) (pe_var (i := 2) rfl (.inl (hv _ (by simp))) hd5 hd6) (by rfl))), ?_⟩
  refine ⟨y, rfl, .ref a, rfl, a, C, rfl, T, hno, .inl ⟨ea, fun dx hn hne => ?_⟩⟩
  exact ⟨z, rfl, .ref a, rfl, a, C, rfl, T, hno2, .inr ⟨dx, [(f1, y)], upd_same, (upd_ne hne).trans upd_same, by show (1 : Nat) ≤ 900; decide, q dx hn hne⟩⟩
end
structure Two (K : PySem.W.Frag) (C fI : Addr) (f1 f2 : Str) : Prop where
  T : OexC K C
  iC : PySem.W.findIn K (.ref C) "__init__" = some (some (.ref fI))
  tI : PySem.W.typeIn K (.ref fI) = some (.type "function")
theorem two_q {H1 : Hp} {C : Addr} {f1 f2 : Str} {y z : V} {Q : XK} (h : ∀ d, H1 d = none → Q (.ref C) (some d) (upd H1 d (.xd [(f2, z), (f1, y)]))) :
    [y, z].length ≤ 1000 ∧ ∀ a, H1 a = none → spErr2 C f1 f2 (.ref a :: ([y, z] ++ [])) (upd H1 a (exo a C none))
      (fun v H2 => v = .non ∧ ∃ (d : Addr) (fs : List (Str × V)), H2 a = some (exo a C (some d)) ∧ H2 d = some (exd d fs) ∧ H1 d = none ∧ Q (.ref C) (some d) (upd (del H2 a) d (.xd fs))) (fun _ _ _ => False) := by
  refine ⟨by simp, fun a na => ⟨a, y, z, rfl, upd_same, fun dx hn hne => ⟨rfl, dx, [(f2, z), (f1, y)], ?_, upd_same, ?_, ?_⟩⟩⟩
  · rw [upd_ne (Ne.symm hne), upd_same]
  · rw [upd_ne hne] at hn
    exact hn
  · have e : upd (del (upd (upd (upd (upd H1 a (exo a C none)) dx (exd dx [(f1, y)])) a (exo a C (some dx))) dx (exd dx [(f2, z), (f1, y)])) a) dx (.xd [(f2, z), (f1, y)]) = upd H1 dx (.xd [(f2, z), (f1, y)]) := by
      funext b
      by_cases hb : b = dx
      · rw [hb, upd_same, upd_same]
      · rw [upd_ne hb, upd_ne hb]
        by_cases ha : b = a
        · rw [ha, del_same, na]
        · rw [del_ne ha, upd_ne hb, upd_ne ha, upd_ne hb, upd_ne ha]
    rw [e]
    rw [upd_ne hne] at hn
    exact h dx hn
section
variable {X : Cx} {C fI : Addr} {f1 f2 : Str} {W : WX} {e1 e2 : Expr} {t1 t2 : TE} {x : Str} {p pos pos' : Pos} {fd : FuncData} {ps : List Str}
/-- raise X(e1, e2) in a suite -/
theorem ps_raise2H (hc : L2H.HotC X) (tk : L2.Takes X W) (R : Two X.K C fI f1 f2) (F1 : L2H.FnH X.prog X.w X.K X.mg X.base (L2.CX X.prog X.w) 1 fI fd ps (spErr2 C f1 f2)) (hr : L2H.RoomH 2 X.A) (hb : L2.Binds X.K fd ps []) (hg : Gl X x) (hm : X.mg x = some (.ref C)) (he1 : PE X e1 t1) (he2 : PE X e2 t2)
    (hdb : (x == ("__debug__" : Str)) = false := by decide) (hst : starEach [e1, e2] X.env = (false, eval e1 X.env) :: starEach [e2] X.env := by rfl) (hst2 : starEach [e2] X.env = (false, eval e2 X.env) :: starEach [] X.env := by rfl) (hpl : (backTo pos (starEach [e2] X.env)).any (·.1) = false := by rfl) :
    PS X (.Raise (some (.Call (.Name x p) [e1, e2] [] pos)) none pos') (fun _ σ H => tMkO C (spErr2 C f1 f2) [] (tCons t1 (tCons t2 tNil)) σ H fun cls d H' => W cls d σ H') :=
  L2H.ps_raiseH hc tk (L2H.PMk5.pmk (L2H.pmk5_oexH (p := p) (pos := pos) R.T R.iC R.tI F1 hr hc hb passL hg hm (pa_cons he1 (pa_cons he2 pa_nil hst2) hst) hdb hst hpl))
end
/-! ### a method without arguments, in a suite -/
section
variable {X : Cx} {CX : CXT} {k : Nat} {f C : Addr} {fd : FuncData} {ps : List Str} {sp : Sp} {E : L2.St → XK} {m : Str} {pos apos : Pos} {o : Expr} {ta : TE}
theorem pe_meth0H {pl : Sem Bool} (he : PE X o ta) (c : Cls X.K C) (hm : Meth X.K C m f) (F : L2H.FnH X.prog X.w X.K X.mg X.base CX k f fd ps sp) (hr : L2H.RoomH k X.A) (hc : L2H.HotC X) (hb : L2.Binds X.K fd ps []) (hx : ∀ σ, PassesAt CX X σ (E σ))
    (ht : eval (.Call (.Attribute o m apos) [] [] pos) X.env = (do
      let ov ← eval o X.env
      standAt apos.atName
      let (f, first) ← holding [ov] (getMethod ov m pl)
      callWith pos f first (backTo pos (starEach [] X.env)) (backToKw pos (keywordEach [] X.env))) := by rfl) :
    PE X (.Call (.Attribute o m apos) [] [] pos) (L2H.tMethH C m sp E ta tNil) := by
  refine ⟨fun pins s σ H Q I h => ?_⟩
  refine PySem.W.methodCall_KW (pl := pl) (thn (he.run pins s σ H _ I h) fun u s1 ⟨x, H1, I1, rx, a, dx, fs, ex, ea, l, q⟩ => ?_) ht
  subst ex
  obtain rfl : u = Value.ref a := rx
  refine getmeth_ok I1 ea c hm l ?_
  exact PySem.W.callWith_K0 (first := [.ref a]) I1.kIn hm.kp (L2H.run_fnH (us := [.ref a]) (vs := [.ref a]) F hr hc hb (hx σ) I1 (.cons rfl .nil) q)
end
end Ah
end
section
set_option Elab.async false
set_option linter.all false
set_option maxRecDepth 100000
set_option maxHeartbeats 2000000
namespace Ah
open PySem PySem.Spec PyProof.Rows L2
open GxR (TabB TabG Tabbed)
open GxG
/-! ### the house's deeds, their exceptions without a context -/
section
variable {P : Program} {w : World} {K : PySem.W.Frag} {mg : Str → Option Value} {base : Heap} {f fN C : Addr} {fd fdN : FuncData}
theorem ok_chnumN (F : FnP K "check_number" sCheckNumber f fd) (gN : mg "is_number" = some (.ref fN)) (FN : FnOk P w K mg base CX0 1 fN fdN ["number", "many"] spNum) (kN : PySem.W.keepIn K (.ref fN) = true) (bN : Binds K fdN ["number", "many"] [])
    (gC : mg "NoRow" = some (.ref C)) (xC : PySem.W.excIn K C He.veBase "ValueError.__new__" = true) (kC : PySem.W.keepIn K (.ref C) = true) (bC : PySem.W.subIn K (.ref C) (.type "BaseException") = some true) (tC' : PySem.W.typeIn K (.ref C) = some (.type "type")) :
    FnOk P w K mg base (L2N.CX P w) 2 f fd ["number", "many"] (spChNum C) := by
  refine F.ok scChN (fun vs H Q E h => ?_) (fun cdv A outer s H vs Q E hr h => ?_)
  · obtain ⟨v, m, rfl, _⟩ := h
    rfl
  · obtain ⟨v, m, rfl, hv, k1, k2⟩ := h
    refine ⟨_, pss_one (ps_if (pt_not (pt_val (pe_call FN (hr.mono (by decide)) (by rfl) gN kN bN .nil pass0 (pa_cons (pv 0) (pa_cons (pv 1) pa_nil)))))
      (pss_one (L2N.ps_raise rfl (L2N.takes_of rfl rfl rfl rfl) (L2N.pmk_own PySem.F.excBase_ValueError xC gC kC (raises_own bC tC') rfl))) pss_nil), ?_⟩
    refine ⟨_, rfl, _, rfl, v, m, rfl, hv, _, rfl, ?_⟩
    cases hb : isNumL m v with
    | true => exact iteF (k1 hb)
    | false => exact iteT (k2 hb)
end
section
variable {P : Program} {w : World} {K : PySem.W.Frag} {mg : Str → Option Value} {base : Heap} {f fC fR fI C CN CR : Addr} {fd fdC fdR fdI : FuncData} {T : List Addr} {psI : List Str}
theorem ok_hputN (F : MthP K "put" "House.put" sHousePut f fd) (CH : ClsH K C) (hLen : mg "len" = none) (gC : mg "check_number" = some (.ref fC)) (FC : FnOk P w K mg base (L2N.CX P w) 2 fC fdC ["number", "many"] (spChNum CN)) (kC : PySem.W.keepIn K (.ref fC) = true) (bC : Binds K fdC ["number", "many"] [])
    (gR : mg "is_row" = some (.ref fR)) (FR : FnOk P w K mg base CX0 5 fR fdR ["row"] (spRow K T)) (kR : PySem.W.keepIn K (.ref fR) = true) (bR : Binds K fdR ["row"] []) (hm : ∃ t, mg "MOST_ROWS" = some (.int 24 t))
    (R : One K CR fI "number") (FI : FnOk P w K mg base (L2.CX P w) 1 fI fdI psI (spErr1 CR "number")) (bI : Binds K fdI psI []) (gB : mg "BadRow" = some (.ref CR)) :
    FnOk P w K mg base (L2N.CX P w) 6 f fd ["self", "number", "row"] (spHPut K T C CN CR) := by
  refine F.ok scHP (fun vs H Q E h => ?_) (fun cdv A outer s H vs Q E hr h => ?_)
  · obtain ⟨x, dx, ak, ev, a, xs, evs, b, nv, rv, rb, rfl, _⟩ := h
    rfl
  · obtain ⟨x, dx, ak, ev, a, xs, evs, b, nv, rv, rb, rfl, S, hl, hn, hrv, ht, k1, k2, k3⟩ := h
    obtain ⟨mt, hm⟩ := hm
    refine ⟨_, pss_cons (ps_expr (pe_call FC (hr.mono (by decide)) (by rfl) gC kC bC .nil (L2N.passes_call (L2N.takes_of rfl rfl rfl rfl) (fun _ _ _ _ h => h)) (pa_cons (pv 1) (pa_cons (pe_op op_add (pe_callB call_len_seq (by rfl) hLen (by decide +kernel) (pa_cons (pe_fld (pv 0) rfl) pa_nil)) pe_int) pa_nil))))
      (pss_cons (ps_if (PW.pt (pw_or (pt_not (pt_val (pe_call FR (hr.mono (by decide)) (by rfl) gR kR bR .nil pass0 (pa_cons (pv 2) pa_nil)))) (pw_or1 (pt_cmpR op_eq (pe_callB call_len_seq (by rfl) hLen (by decide +kernel) (pa_cons (pe_fld (pv 0) rfl) pa_nil)) (pe_glob (v := .int 24) (by rfl) hm ⟨_, rfl⟩) (nomark _)))))
        (pss_one (ps_raise1N rfl (L2N.takes_of rfl rfl rfl rfl) R FI (hr.mono (by decide)) bI (by rfl) gB (pv 1))) pss_nil)
      (pss_one (ps_fld (pv 0) (pe_tup (show PA _ _ (StX.tStar K _ _) from StX.pa_star (pe_slice (show SlR _ (rSlA K) from sl_tupA) (pe_fld (pv 0) rfl) po_none (po_some (pv 1))) (pa_cons (pv 2) (show PA _ _ (StX.tStar K _ _) from StX.pa_star (pe_slice (show SlR _ (rSlA K) from sl_tupA) (pe_fld (pv 0) rfl) (po_some (pv 1)) po_none) pa_nil)))) rfl))), ?_⟩
    refine ⟨_, rfl, _, rfl, x, C, dx, _, _, rfl, S.S.ob, CH.c, CH.n1, rfl, a, _, rfl, .inr (.inl (.of S.rows)), _, _, rfl, rfl, nv, _, rfl, hn, fun h1 => ?_, k1⟩
    obtain ⟨n, rfl, hn2⟩ := num_of hn h1
    refine ⟨_, rfl, rv, rb, rfl, hrv, ht, fun H1 kp1 => ?_⟩
    have S1 := S.kp ht kp1
    have raise : (rb = false ∨ xs.length = 24) → _ := fun hb => one_q (fld := "number") (y := .int (n : Int)) (C := CR) (Q := E) fun d hd => k2 h1 hb H1 d kp1 hd
    have go : rb = true → xs.length < 24 → _ := fun hb hl2 => k3 n rfl (by omega) hb hl2
    cases rb with
    | false =>
      refine ⟨_, rfl, iteT ⟨_, rfl, ?_⟩⟩
      exact raise (.inl rfl)
    | true =>
      refine ⟨_, rfl, iteF ?_⟩
      refine ⟨_, rfl, x, C, dx, _, _, rfl, S1.S.ob, CH.c, CH.n1, rfl, a, _, rfl, .inr (.inl (.of S1.rows)), rfl, _, rfl, ?_⟩
      have e24 : decide (V.int (xs.length : Int) = V.int 24) = decide (xs.length = 24) := by
        by_cases e : xs.length = 24
        · rw [decide_eq_true e, e]
          exact decide_eq_true rfl
        · rw [decide_eq_false e]
          refine decide_eq_false fun q => e ?_
          have := V.int.inj q
          omega
      rw [e24]
      cases h24 : decide (xs.length = 24) with
      | true => exact iteT ⟨_, rfl, raise (.inr (of_decide_eq_true h24))⟩
      | false =>
        have n24 : xs.length < 24 := by
          have := of_decide_eq_false h24
          omega
        refine iteF ?_
        refine ⟨_, rfl, x, C, dx, _, _, rfl, S1.S.ob, CH.c, CH.n1, rfl, _, rfl, n, rfl, slA_v S1.rows fun q1 H2 kk2 e2 => ?_⟩
        have S2 := S1.kept kk2
        refine ⟨q1, _, rfl, .inl (.inl (.of e2)), _, rfl, ?_⟩
        refine ⟨_, rfl, x, C, dx, _, _, rfl, S2.S.ob, CH.c, CH.n1, rfl, _, rfl, n, rfl, ?_⟩
        unfold tNoPart
        show rSlA K (.ref a) (some (n : Int)) none H2 _
        refine slA_v S2.rows fun q2 H3 kk3 e3 => ?_
        have S3 := S2.kept kk3
        rw [cutV_take (by omega)] at e2 ⊢
        rw [cutV_drop (by omega)] at e3
        refine ⟨q2, _, rfl, .inl (.inl (.of e3)), ?_⟩
        have hlen : (xs.take n ++ rv :: xs.drop n).length ≤ 25 := by
          rw [List.length_append, List.length_take, List.length_cons, List.length_drop]
          omega
        refine ⟨Nat.le_trans (show (xs.take n ++ rv :: (xs.drop n ++ [])).length ≤ 1000 by rw [List.append_nil]; omega) (by decide), fun a' na => ?_⟩
        have S4 := S3.kept ((Kept.refl H3).upd (o := .tup (xs.take n ++ rv :: (xs.drop n ++ []))) na)
        have e4 : upd H3 a' (.tup (xs.take n ++ rv :: (xs.drop n ++ []))) a' = some (.tup (xs.take n ++ rv :: xs.drop n)) := by rw [upd_same, List.append_nil]
        refine ⟨_, rfl, x, C, dx, _, rfl, S4.S.ob, CH.c, CH.n1, by show (4 : Nat) < 1000; decide, ?_⟩
        have kx : KpX T x H (upd H3 a' (.tup (xs.take n ++ rv :: (xs.drop n ++ [])))) := ((((KpX.ofKp kp1).trans (.of kp1.tab kk2)).trans (.of (KpX.of (x := x) kp1.tab kk2).tab kk3)).trans (.of ((KpX.of (x := x) kp1.tab kk2).trans (.of (KpX.of (x := x) kp1.tab kk2).tab kk3)).tab ((Kept.refl H3).upd na)))
        exact go rfl n24 _ a' (kx.put fun ps z => by rw [S4.S.ob] at z; cases z) (S4.set e4)
theorem ok_hdropN (F : MthP K "drop" "House.drop" sHouseDrop f fd) (CH : ClsH K C) (hLen : mg "len" = none) (gC : mg "check_number" = some (.ref fC)) (FC : FnOk P w K mg base (L2N.CX P w) 2 fC fdC ["number", "many"] (spChNum CN)) (kC : PySem.W.keepIn K (.ref fC) = true) (bC : Binds K fdC ["number", "many"] []) :
    FnOk P w K mg base (L2N.CX P w) 6 f fd ["self", "number"] (spHDrop T C CN) := by
  refine F.ok scHD (fun vs H Q E h => ?_) (fun cdv A outer s H vs Q E hr h => ?_)
  · obtain ⟨x, dx, ak, ev, a, xs, evs, b, nv, rfl, _⟩ := h
    rfl
  · obtain ⟨x, dx, ak, ev, a, xs, evs, b, nv, rfl, S, hl, hn, ht, k1, k3⟩ := h
    refine ⟨_, pss_cons (ps_expr (pe_call FC (hr.mono (by decide)) (by rfl) gC kC bC .nil (L2N.passes_call (L2N.takes_of rfl rfl rfl rfl) (fun _ _ _ _ h => h)) (pa_cons (pv 1) (pa_cons (pe_callB call_len_seq (by rfl) hLen (by decide +kernel) (pa_cons (pe_fld (pv 0) rfl) pa_nil)) pa_nil))))
      (pss_cons (ps_set (i := 2) scHD.nd rfl (.inl rfl) (pe_ix ix_tup (pe_fld (pv 0) rfl) (pv 1) (fun _ _ => rfl)))
      (pss_cons (ps_fld (pv 0) (pe_op (show OpR _ _ (rCatA K) from op_catA) (pe_slice (show SlR _ (rSlA K) from sl_tupA) (pe_fld (pv 0) rfl) po_none (po_some (pv 1))) (pe_slice (show SlR _ (rSlA K) from sl_tupA) (pe_fld (pv 0) rfl) (po_some (pe_op op_add (pv 1) pe_int)) po_none)) rfl)
      (pss_one (ps_ret (pv 2))))), ?_⟩
    refine ⟨_, rfl, _, rfl, x, C, dx, _, _, rfl, S.S.ob, CH.c, CH.n1, rfl, a, _, rfl, .inr (.inl (.of S.rows)), nv, _, rfl, hn, fun h1 => ?_, k1⟩
    obtain ⟨n, rfl, hn2⟩ := num_of hn h1
    obtain ⟨v, hv⟩ : ∃ v, xs[n]? = some v := ⟨xs[n]'(by omega), List.getElem?_eq_getElem (by omega)⟩
    refine ⟨_, rfl, x, C, dx, _, _, rfl, S.S.ob, CH.c, CH.n1, rfl, _, rfl, a, _, n, v, rfl, rfl, .inl (.of S.rows), atI_nat hv, ?_⟩
    refine ⟨_, rfl, x, C, dx, _, _, rfl, S.S.ob, CH.c, CH.n1, rfl, _, rfl, n, rfl, slA_v S.rows fun q1 H2 kk2 e2 => ?_⟩
    have S2 := S.kept kk2
    refine ⟨_, rfl, x, C, dx, _, _, rfl, S2.S.ob, CH.c, CH.n1, rfl, _, rfl, _, _, rfl, rfl, _, rfl, ?_⟩
    unfold tNoPart
    show rSlA K (.ref a) (some ((n : Int) + 1)) none H2 _
    rw [show ((n : Int) + 1) = ((n + 1 : Nat) : Int) by omega]
    refine slA_v S2.rows fun q2 H3 kk3 e3 => ?_
    rw [cutV_take (by omega)] at e2
    rw [cutV_drop (by omega)] at e3
    have S3 := S2.kept kk3
    refine catA_v (kk3 _ _ e2 (by simp)) e3 (by rw [List.length_take, List.length_drop]; omega) fun a' H4 kk4 e4 => ?_
    have S4 := S3.kept kk4
    refine ⟨_, rfl, x, C, dx, _, rfl, S4.S.ob, CH.c, CH.n1, by show (4 : Nat) < 1000; decide, ?_⟩
    refine ⟨_, rfl, ?_⟩
    exact k3 n v rfl hv _ a' ((KpX.of ht ((kk2.trans kk3).trans kk4)).put fun ps z => by rw [S4.S.ob] at z; cases z) (S4.set e4)
theorem ok_htellN (F : MthP K "tell" "House.tell" sHouseTell f fd) (CH : ClsH K C) (hLen : mg "len" = none) (gC : mg "check_number" = some (.ref fC)) (FC : FnOk P w K mg base (L2N.CX P w) 2 fC fdC ["number", "many"] (spChNum CN)) (kC : PySem.W.keepIn K (.ref fC) = true) (bC : Binds K fdC ["number", "many"] [])
    (gR : mg "is_row" = some (.ref fR)) (FR : FnOk P w K mg base CX0 5 fR fdR ["row"] (spRow K T)) (kR : PySem.W.keepIn K (.ref fR) = true) (bR : Binds K fdR ["row"] [])
    (R : One K CR fI "number") (FI : FnOk P w K mg base (L2.CX P w) 1 fI fdI psI (spErr1 CR "number")) (bI : Binds K fdI psI []) (gB : mg "BadRow" = some (.ref CR)) :
    FnOk P w K mg base (L2N.CX P w) 6 f fd ["self", "number", "row"] (spHTell K T C CN CR) := by
  refine F.ok scHTl (fun vs H Q E h => ?_) (fun cdv A outer s H vs Q E hr h => ?_)
  · obtain ⟨x, dx, ak, ev, a, xs, evs, b, nv, rv, rb, rfl, _⟩ := h
    rfl
  · obtain ⟨x, dx, ak, ev, a, xs, evs, b, nv, rv, rb, rfl, S, hl, hn, hrv, ht, k1, k2, k3⟩ := h
    refine ⟨_, pss_cons (ps_expr (pe_call FC (hr.mono (by decide)) (by rfl) gC kC bC .nil (L2N.passes_call (L2N.takes_of rfl rfl rfl rfl) (fun _ _ _ _ h => h)) (pa_cons (pv 1) (pa_cons (pe_callB call_len_seq (by rfl) hLen (by decide +kernel) (pa_cons (pe_fld (pv 0) rfl) pa_nil)) pa_nil))))
      (pss_cons (ps_if (pt_not (pt_val (pe_call FR (hr.mono (by decide)) (by rfl) gR kR bR .nil pass0 (pa_cons (pv 2) pa_nil))))
        (pss_one (ps_raise1N rfl (L2N.takes_of rfl rfl rfl rfl) R FI (hr.mono (by decide)) bI (by rfl) gB (pv 1))) pss_nil)
      (pss_cons (ps_set (i := 3) scHTl.nd rfl (.inl rfl) (pe_ix ix_tup (pe_fld (pv 0) rfl) (pv 1) (fun _ _ => rfl)))
      (pss_cons (ps_fld (pv 0) (pe_tup (show PA _ _ (StX.tStar K _ _) from StX.pa_star (pe_slice (show SlR _ (rSlA K) from sl_tupA) (pe_fld (pv 0) rfl) po_none (po_some (pv 1))) (pa_cons (pv 2) (show PA _ _ (StX.tStar K _ _) from StX.pa_star (pe_slice (show SlR _ (rSlA K) from sl_tupA) (pe_fld (pv 0) rfl) (po_some (pe_op op_add (pv 1) pe_int)) po_none) pa_nil)))) rfl)
      (pss_one (ps_ret (pv 3)))))), ?_⟩
    refine ⟨_, rfl, _, rfl, x, C, dx, _, _, rfl, S.S.ob, CH.c, CH.n1, rfl, a, _, rfl, .inr (.inl (.of S.rows)), nv, _, rfl, hn, fun h1 => ?_, k1⟩
    obtain ⟨n, rfl, hn2⟩ := num_of hn h1
    obtain ⟨v, hv⟩ : ∃ v, xs[n]? = some v := ⟨xs[n]'(by omega), List.getElem?_eq_getElem (by omega)⟩
    refine ⟨_, rfl, rv, rb, rfl, hrv, ht, fun H1 kp1 => ?_⟩
    have S1 := S.kp ht kp1
    have raise : rb = false → _ := fun hb => one_q (fld := "number") (y := .int (n : Int)) (C := CR) (Q := E) fun d hd => k2 h1 hb H1 d kp1 hd
    have go : rb = true → _ := fun hb => k3 n v rfl hv hb
    cases rb with
    | false => exact ⟨_, rfl, iteT ⟨_, rfl, raise rfl⟩⟩
    | true =>
      refine ⟨_, rfl, iteF ?_⟩
      refine ⟨_, rfl, x, C, dx, _, _, rfl, S1.S.ob, CH.c, CH.n1, rfl, _, rfl, a, _, n, v, rfl, rfl, .inl (.of S1.rows), atI_nat hv, ?_⟩
      refine ⟨_, rfl, x, C, dx, _, _, rfl, S1.S.ob, CH.c, CH.n1, rfl, _, rfl, n, rfl, slA_v S1.rows fun q1 H2 kk2 e2 => ?_⟩
      have S2 := S1.kept kk2
      refine ⟨q1, _, rfl, .inl (.inl (.of e2)), _, rfl, ?_⟩
      refine ⟨_, rfl, x, C, dx, _, _, rfl, S2.S.ob, CH.c, CH.n1, rfl, _, rfl, _, _, rfl, rfl, _, rfl, ?_⟩
      unfold tNoPart
      show rSlA K (.ref a) (some ((n : Int) + 1)) none H2 _
      rw [show ((n : Int) + 1) = ((n + 1 : Nat) : Int) by omega]
      refine slA_v S2.rows fun q2 H3 kk3 e3 => ?_
      have S3 := S2.kept kk3
      rw [cutV_take (by omega)] at e2 ⊢
      rw [cutV_drop (by omega)] at e3
      refine ⟨q2, _, rfl, .inl (.inl (.of e3)), ?_⟩
      have hlen : (xs.take n ++ rv :: xs.drop (n + 1)).length ≤ 25 := by
        rw [List.length_append, List.length_take, List.length_cons, List.length_drop]
        omega
      refine ⟨Nat.le_trans (show (xs.take n ++ rv :: (xs.drop (n + 1) ++ [])).length ≤ 1000 by rw [List.append_nil]; omega) (by decide), fun a' na => ?_⟩
      have S4 := S3.kept ((Kept.refl H3).upd (o := .tup (xs.take n ++ rv :: (xs.drop (n + 1) ++ []))) na)
      have e4 : upd H3 a' (.tup (xs.take n ++ rv :: (xs.drop (n + 1) ++ []))) a' = some (.tup (xs.take n ++ rv :: xs.drop (n + 1))) := by rw [upd_same, List.append_nil]
      refine ⟨_, rfl, x, C, dx, _, rfl, S4.S.ob, CH.c, CH.n1, by show (4 : Nat) < 1000; decide, ?_⟩
      refine ⟨_, rfl, ?_⟩
      have kx : KpX T x H (upd H3 a' (.tup (xs.take n ++ rv :: (xs.drop (n + 1) ++ [])))) := (KpX.ofKp kp1).trans (.of kp1.tab ((kk2.trans kk3).trans ((Kept.refl H3).upd na)))
      exact go rfl _ a' (kx.put fun ps z => by rw [S4.S.ob] at z; cases z) (S4.set e4)
end
end Ah
end
section
set_option Elab.async false
set_option linter.all false
set_option maxRecDepth 100000
set_option maxHeartbeats 2000000
namespace Ah
open PySem PySem.Spec PyProof.Rows L2
open GxR (TabB TabG Tabbed)
open GxG
/-! ### House.__init__, all its fields -/
def spHI2 (K : PySem.W.Frag) (T : List Addr) (C : Addr) : Sp := fun vs H Q _ => ∃ (x dx a : Addr) (rs : List V), vs = [.ref x, .ref a] ∧ H x = some (.ins C dx []) ∧ H a = some (.tup rs) ∧ rs.length ≤ 24 ∧ (∀ r ∈ rs, RowV K H r true) ∧ (∀ P ∈ T, TabG H P) ∧
  ∀ H' ak ev, KpX T x H H' → H ak = none → H ev = none → ak ≠ ev → HSx H' x dx C ak ev a rs [] true → Q .non H'
theorem scHI3 : FnScope ["self", "rows"] ["self", "rows"] (defScope sHouseInit) := ⟨rfl, rfl, rfl, by decide +kernel, rfl, by decide +kernel, by decide +kernel⟩
section
variable {P : Program} {w : World} {K : PySem.W.Frag} {mg : Str → Option Value} {base : Heap} {f fC C : Addr} {fd fdC : FuncData} {T : List Addr}
theorem ok_hinit2 (F : MthP K "__init__" "House.__init__" sHouseInit f fd) (CH : ClsH K C) (gC : mg "check_text" = some (.ref fC)) (FC : FnOk P w K mg base CX0 6 fC fdC ["rows"] (spCheck0 K T)) (kC : PySem.W.keepIn K (.ref fC) = true) (bC : Binds K fdC ["rows"] []) :
    FnOk P w K mg base CX0 7 f fd ["self", "rows"] (spHI2 K T C) := by
  refine F.ok scHI3 (fun vs H Q E h => ?_) (fun cdv A outer s H vs Q E hr h => ?_)
  · obtain ⟨x, dx, a, rs, rfl, _⟩ := h
    rfl
  · obtain ⟨x, dx, a, rs, rfl, hx, ha, hl, hrs, ht, k⟩ := h
    refine ⟨_, PSs.nox (pss_cons (ps_expr (pe_call FC hr (by rfl) gC kC bC .nil pass0 (pa_cons (pv 1) pa_nil)))
      (pss_cons (ps_fld (pv 0) (pv 1) rfl) (pss_cons (ps_fld (pv 0) (pe_lst pa_nil) rfl) (pss_cons (ps_fld (pv 0) (pe_lst pa_nil) rfl) (pss_one (ps_fld (pv 0) pe_bl rfl)))))), ?_⟩
    refine ⟨_, rfl, a, rs, rfl, ha, hl, hrs, ht, fun H1 k1 => ?_⟩
    have x1 : H1 x = some (.ins C dx []) := k1.obj ht hx
    refine ⟨_, rfl, _, rfl, x, C, dx, _, rfl, x1, CH.c, CH.n1, by decide, ?_⟩
    refine ⟨by decide, fun ak nk => ?_⟩
    have nk1 : ak ≠ x := fun z => by rw [z, upd_same] at nk; cases nk
    rw [upd_ne nk1] at nk
    refine ⟨_, rfl, x, C, dx, _, rfl, by rw [upd_ne (Ne.symm nk1)]; exact upd_same, CH.c, CH.n2, by show (1 : Nat) < 1000; decide, ?_⟩
    refine ⟨by decide, fun ev ne => ?_⟩
    have ne1 : ev ≠ x := fun z => by rw [z, upd_same] at ne; cases ne
    rw [upd_ne ne1] at ne
    have ne2 : ev ≠ ak := fun z => by rw [z, upd_same] at ne; cases ne
    rw [upd_ne ne2, upd_ne ne1] at ne
    refine ⟨_, rfl, x, C, dx, _, rfl, by rw [upd_ne (Ne.symm ne1)]; exact upd_same, CH.c, CH.n3, by show (2 : Nat) < 1000; decide, ?_⟩
    refine ⟨_, rfl, x, C, dx, _, rfl, upd_same, CH.c, CH.n4, by show (3 : Nat) < 1000; decide, ?_⟩
    have old : ∀ b : Addr, b ≠ x → b ≠ ak → b ≠ ev → upd (upd (upd (upd (upd (upd H1 x (.ins C dx (putF "standing" (V.ref a) []))) ak (.lst [])) x (.ins C dx (putF "asked" (V.ref ak) (putF "standing" (V.ref a) [])))) ev (.lst [])) x (.ins C dx (putF "events" (V.ref ev) (putF "asked" (V.ref ak) (putF "standing" (V.ref a) []))))) x (.ins C dx (putF "idle" (V.bl true) (putF "events" (V.ref ev) (putF "asked" (V.ref ak) (putF "standing" (V.ref a) []))))) b = H1 b := fun b h1 h2 h3 => by
      rw [upd_ne h1, upd_ne h1, upd_ne h3, upd_ne h1, upd_ne h2, upd_ne h1]
    have none0 : ∀ {b : Addr}, H1 b = none → H b = none := fun {b} n => by
      cases e : H b with
      | none => rfl
      | some o =>
        by_cases hb : b ∈ T
        · obtain ⟨ps, e1, _⟩ := k1.tab b hb
          rw [e1] at n
          cases n
        · rw [k1.keep b o e hb] at n
          cases n
    refine k _ ak ev ⟨fun P hP => ?_, fun b o e hb hbx => ?_⟩ (none0 nk) (none0 ne) (Ne.symm ne2) ⟨⟨?_, ?_, by simp⟩, ?_, ?_⟩
    · obtain ⟨ps, e1, e2⟩ := k1.tab P hP
      refine ⟨ps, ?_, e2⟩
      rw [old P (fun z => by rw [z, x1] at e1; cases e1) (ne_of_none e1 nk) (ne_of_none e1 ne)]
      exact e1
    · have e1 := k1.keep b o e hb
      rw [old b hbx (ne_of_none e1 nk) (ne_of_none e1 ne)]
      exact e1
    · rw [upd_same]
      rfl
    · rw [upd_ne ne1, upd_ne ne1, upd_same]
      rfl
    · rw [upd_ne nk1, upd_ne nk1, upd_ne (Ne.symm ne2), upd_ne nk1, upd_same]
    · have e1 := k1.obj ht ha
      rw [old a (fun z => by rw [z, x1] at e1; cases e1) (ne_of_none e1 nk) (ne_of_none e1 ne)]
      exact e1
end
end Ah
end
section
set_option Elab.async false
set_option linter.all false
set_option maxRecDepth 100000
set_option maxHeartbeats 2000000
namespace Ah
open PySem PySem.Spec PyProof.Rows L2
open GxR (TabB TabG Tabbed)
/-! ### the law's deeds -/
/-- a deed's row: a row of few words, or one of two that are none -/
def DRow (H : Hp) (rv : V) (rb : Bool) : Prop := ∃ (r : Addr) (ws : List Str), rv = .ref r ∧ H r = some (.tup (ws.map V.str)) ∧ ((rb = true ∧ ∃ q : Rw, q.few ∧ ws = q.ws) ∨ (rb = false ∧ (ws = [("is" : Str), "Ann", "cat"] ∨ ws = [("on" : Str)])))
theorem DRow.kept {M : List Addr} {H H' : Hp} {rv : V} {rb : Bool} (h : DRow H rv rb) (k : Kept M H H') (hM : ∀ b ∈ M, ∃ xs, H b = some (.lst xs)) : DRow H' rv rb := by
  obtain ⟨r, ws, e, h, q⟩ := h
  refine ⟨r, ws, e, k _ _ h (fun hm => ?_), q⟩
  obtain ⟨xs, z⟩ := hM r hm
  rw [h] at z
  cases z
inductive Dk where
  | put (rv : V) (rb : Bool)
  | drop
  | tell (rv : V) (rb : Bool)
def Dk.ws (n : Nat) : Dk → List V
  | .put rv _ => [.str "put", .int (n : Int), rv]
  | .drop => [.str "drop", .int (n : Int)]
  | .tell rv _ => [.str "tell", .int (n : Int), rv]
def Dk.ok (H : Hp) : Dk → Prop
  | .put rv rb => DRow H rv rb
  | .drop => True
  | .tell rv rb => DRow H rv rb
theorem Dk.ok.kept {M : List Addr} {H H' : Hp} {k : Dk} (h : k.ok H) (kk : Kept M H H') (hM : ∀ b ∈ M, ∃ xs, H b = some (.lst xs)) : k.ok H' := by
  cases k with
  | put rv rb => exact DRow.kept (show DRow H rv rb from h) kk hM
  | drop => trivial
  | tell rv rb => exact DRow.kept (show DRow H rv rb from h) kk hM
def spLDeed (K : PySem.W.Frag) : Sp := fun vs H Q _ => ∃ (p a : Addr) (ns : List Int) (many : Nat), vs = [.ref p, .int (many : Int)] ∧ StAt K H p a ns ∧ many ≤ 1000 ∧
  ∀ (d : Addr) (n : Nat) (k : Dk) (H' : Hp), StAt K H' p a ns → Kept [p] H H' → H' d = some (.tup (k.ws n)) → k.ok H' → n < many + 2 → Q (.ref d) H'
theorem scLD : FnScope ["_law_row_here", "_law_many", "_law_way", "_law_number"] ["_law_row_here", "_law_many"] (defScope lDeed) := ⟨rfl, rfl, rfl, by decide +kernel, rfl, by decide +kernel, by decide +kernel⟩
section
variable {P : Program} {w : World} {K : PySem.W.Frag} {mg : Str → Option Value} {base : Heap} {f fT fO : Addr} {fd fdT fdO : FuncData}
theorem stAt_ob {H : Hp} {p a : Addr} {ns : List Int} (S : StAt K H p a ns) : ∀ b ∈ [p], ∃ xs, H b = some (.lst xs) := fun b hb => by
  rw [List.mem_singleton.mp hb]
  obtain ⟨i, r, m, h, _⟩ := S
  exact ⟨_, h⟩
theorem ok_ldeed (F : FnP K "_law_deed" lDeed f fd) (c__law_taken : Own P w K mg base "_law_taken" 1 fT fdT ["_law_row_here", "_law_many"] (spTaken K)) (c__law_one : Own P w K mg base "_law_one" 2 fO fdO ["_law_row_here"] (spOne K)) :
    FnOk P w K mg base CX0 3 f fd ["_law_row_here", "_law_many"] (spLDeed K) := by
  refine F.ok scLD (fun vs H Q E h => ?_) (fun cdv A outer s H vs Q E hr h => ?_)
  · obtain ⟨p, a, ns, many, rfl, _⟩ := h
    rfl
  · obtain ⟨p, a, ns, many, rfl, S, hm, k⟩ := h
    refine ⟨_, PSs.nox (pss_cons (ps_par (by rfl) scLD.nd (i := 2) (j := 3) rfl rfl (by decide) rfl rfl (pa_cons (pe_call c__law_taken.ok (hr.mono (by decide)) (by rfl) c__law_taken.g c__law_taken.kp c__law_taken.b .nil pass0 (pa_cons (pv 0) (pa_cons pe_int pa_nil))) (pa_cons (pe_call c__law_taken.ok (hr.mono (by decide)) (by rfl) c__law_taken.g c__law_taken.kp c__law_taken.b .nil pass0 (pa_cons (pv 0) (pa_cons (pe_op op_add (pv 1) pe_int) pa_nil))) pa_nil)) (by rfl))
      (pss_cons (ps_if (pt_cmpR op_lt (pv 2) pe_int (nomark _)) (pss_one (ps_ret (pe_tup (pa_cons pe_str (pa_cons (pv 3) (pa_cons (pe_ifExp (pt_cmpR op_gt (pe_call c__law_taken.ok (hr.mono (by decide)) (by rfl) c__law_taken.g c__law_taken.kp c__law_taken.b .nil pass0 (pa_cons (pv 0) (pa_cons pe_int pa_nil))) pe_int (nomark _)) (pe_call c__law_one.ok hr (by rfl) c__law_one.g c__law_one.kp c__law_one.b .nil pass0 (pa_cons (pv 0) pa_nil)) (pe_tup (pa_cons pe_str (pa_cons pe_str (pa_cons pe_str pa_nil))))) pa_nil)))))) pss_nil)
      (pss_cons (ps_if (pt_cmpR op_eq (pv 2) pe_int (nomark _)) (pss_one (ps_ret (pe_tup (pa_cons pe_str (pa_cons (pv 3) pa_nil))))) pss_nil)
      (pss_one (ps_ret (pe_tup (pa_cons pe_str (pa_cons (pv 3) (pa_cons (pe_ifExp (pt_cmpR op_gt (pe_call c__law_taken.ok (hr.mono (by decide)) (by rfl) c__law_taken.g c__law_taken.kp c__law_taken.b .nil pass0 (pa_cons (pv 0) (pa_cons pe_int pa_nil))) pe_int (nomark _)) (pe_call c__law_one.ok hr (by rfl) c__law_one.g c__law_one.kp c__law_one.b .nil pass0 (pa_cons (pv 0) pa_nil)) (pe_tup (pa_cons pe_str pa_nil))) pa_nil))))))))), ?_⟩
    refine ⟨_, rfl, p, a, ns, 5, rfl, S, by omega, by omega, fun way H1 w0 w1 S1 k1 => ?_⟩
    refine ⟨_, rfl, _, rfl, _, _, rfl, rfl, p, a, ns, (many : Int) + 2, rfl, S1, by omega, by omega, fun num H2 n0 n1 S2 k2 => ?_⟩
    obtain ⟨n, rfl⟩ : ∃ n : Nat, num = (n : Int) := ⟨num.toNat, by omega⟩
    have kk2 := k1.trans k2
    refine ⟨_, _, rfl, ?_⟩
    refine ⟨_, rfl, _, _, rfl, rfl, _, rfl, ?_⟩
    by_cases hw : way < 2
    · rw [decide_eq_true hw]
      refine iteT ⟨_, rfl, _, rfl, p, a, ns, 8, rfl, S2, by omega, by omega, fun c H3 c0 c1 S3 k3 => ?_⟩
      have kk3 := kk2.trans k3
      refine ⟨_, _, rfl, rfl, _, rfl, ?_⟩
      by_cases hc : 0 < c
      · rw [decide_eq_true hc]
        refine iteT ⟨_, rfl, p, a, ns, rfl, S3, fun q r H4 hr4 S4 k4 e4 => ?_⟩
        refine ⟨by show (3 : Nat) ≤ sizeLine; decide, fun d nd => k d n (.put (.ref q) true) _ (S4.upd nd) ((kk3.trans k4).upd nd) upd_same ⟨q, r.ws, rfl, (upd_ne (ne_of_none e4 nd)).trans e4, .inl ⟨rfl, r, hr4, rfl⟩⟩ (by omega)⟩
      · rw [decide_eq_false hc]
        refine iteF ⟨by show (3 : Nat) ≤ sizeLine; decide, fun q nq => ?_⟩
        have S4 := S3.upd (o := .tup [.str "is", .str "Ann", .str "cat"]) nq
        refine ⟨by show (3 : Nat) ≤ sizeLine; decide, fun d nd => k d n (.put (.ref q) false) _ (S4.upd nd) ((kk3.upd nq).upd nd) upd_same ⟨q, [("is" : Str), ("Ann" : Str), ("cat" : Str)], rfl, (upd_ne (ne_of_none upd_same nd)).trans upd_same, .inr ⟨rfl, .inl rfl⟩⟩ (by omega)⟩
    · rw [decide_eq_false hw]
      refine iteF ?_
      refine ⟨_, rfl, rfl, _, rfl, ?_⟩
      by_cases h2 : V.int way = V.int 2
      · rw [decide_eq_true h2]
        refine iteT ⟨_, rfl, by show (2 : Nat) ≤ sizeLine; decide, fun d nd => k d n .drop _ (S2.upd nd) (kk2.upd nd) upd_same trivial (by omega)⟩
      rw [decide_eq_false h2]
      refine iteF ⟨_, rfl, _, rfl, p, a, ns, 8, rfl, S2, by omega, by omega, fun c H3 c0 c1 S3 k3 => ?_⟩
      have kk3 := kk2.trans k3
      refine ⟨_, _, rfl, rfl, _, rfl, ?_⟩
      by_cases hc : 0 < c
      · rw [decide_eq_true hc]
        refine iteT ⟨_, rfl, p, a, ns, rfl, S3, fun q r H4 hr4 S4 k4 e4 => ?_⟩
        refine ⟨by show (3 : Nat) ≤ sizeLine; decide, fun d nd => k d n (.tell (.ref q) true) _ (S4.upd nd) ((kk3.trans k4).upd nd) upd_same ⟨q, r.ws, rfl, (upd_ne (ne_of_none e4 nd)).trans e4, .inl ⟨rfl, r, hr4, rfl⟩⟩ (by omega)⟩
      · rw [decide_eq_false hc]
        refine iteF ⟨by show (1 : Nat) ≤ sizeLine; decide, fun q nq => ?_⟩
        have S4 := S3.upd (o := .tup [.str "on"]) nq
        refine ⟨by show (3 : Nat) ≤ sizeLine; decide, fun d nd => k d n (.tell (.ref q) false) _ (S4.upd nd) ((kk3.upd nq).upd nd) upd_same ⟨q, [("on" : Str)], rfl, (upd_ne (ne_of_none upd_same nd)).trans upd_same, .inr ⟨rfl, .inr rfl⟩⟩ (by omega)⟩
end
end Ah
end
section
set_option Elab.async false
set_option linter.all false
set_option maxRecDepth 100000
set_option maxHeartbeats 2000000
namespace Ah
open PySem PySem.Spec PyProof.Rows L2
open GxR (TabB TabG Tabbed)
/-! ### x in a tuple of data of any depth -/
def rInDT (K : PySem.W.Frag) : R2 := fun x y H Q => ∃ d ds, Dp K H x d ∧ Dp K H y (.tuple ds) ∧ SeqAt.shaped d = true ∧ SeqAt.shaped (.tuple ds) = true ∧ Q (.bl (ds.any fun z => PyData.eqv z d)) H
theorem op_inDT {X : Cx} (hu : X.A.units + 65 < cLine) : OpR X (compareOp .In) (rInDT X.K) := by
  intro pins s σ H x y v u Q I rx ry h
  obtain ⟨d, ds, hd, he, sd, se, q⟩ := h
  obtain ⟨as, r1⟩ := Dp.reads I d x v hd rx
  obtain ⟨bs, r2⟩ := Dp.reads I (.tuple ds) y u he ry
  exact SeqAt.in_tuple_reads r2 r1 (SeqAt.canLay_of_shaped se) (SeqAt.canLay_of_shaped sd) (room_in_shaped sd hu) ⟨.bl _, H, I, rfl, q⟩
theorem room65 {k : Nat} {A : Around} (r : Room k A) : A.units + 65 < cLine := by
  have := r.un
  omega
/-! ### what a deed is due -/
def dueD (xs : List V) (n : Nat) : Dk → (Str × V) × List V
  | .put rv rb => if xs.length < n then (("norow", .non), xs) else if rb = false ∨ xs.length = 24 then (("row", .int n), xs) else (("", .non), xs.take n ++ rv :: xs.drop n)
  | .drop => match xs[n]? with
    | none => (("norow", .non), xs)
    | some v => (("", v), xs.take n ++ xs.drop (n + 1))
  | .tell rv rb => match xs[n]? with
    | none => (("norow", .non), xs)
    | some v => if rb = true then (("", v), xs.take n ++ rv :: xs.drop (n + 1)) else (("row", .int n), xs)
def dT (ws : List Str) : PyData := .tuple (ws.map PyData.str)
abbrev dOdd : List PyData := [dT ["is", "Ann", "cat"], dT ["on"]]
def fewRows : List (List Str) := namesL.flatMap fun n => kindsL.flatMap fun k => kindsL.flatMap fun l => namesL.flatMap fun m => tiesL.flatMap fun t => tiesL.flatMap fun s => [Rw.is n k, Rw.isnt n k, Rw.has n t m, Rw.hasnt n t m, Rw.all k l, Rw.no k l, Rw.each k t m, Rw.who t k l, Rw.turned t s, Rw.on t, Rw.fr t k, Rw.to t k, Rw.under t s].map Rw.ws
theorem odd_few {r : Rw} (h : r.few) : SeqAt.shaped (dT r.ws) = true ∧ (dOdd.any fun z => PyData.eqv z (dT r.ws)) = false := by
  have nk : ∀ n ∈ namesL, ∀ k ∈ kindsL, ∀ l ∈ kindsL, ∀ m ∈ namesL, ∀ t ∈ tiesL, ∀ s ∈ tiesL, ∀ x ∈ [Rw.is n k, Rw.isnt n k, Rw.has n t m, Rw.hasnt n t m, Rw.all k l, Rw.no k l, Rw.each k t m, Rw.who t k l, Rw.turned t s, Rw.on t, Rw.fr t k, Rw.to t k, Rw.under t s],
      (SeqAt.shaped (dT x.ws) && !dOdd.any fun z => PyData.eqv z (dT x.ws)) = true := by decide +kernel
  have fin : (SeqAt.shaped (dT r.ws) && !dOdd.any fun z => PyData.eqv z (dT r.ws)) = true := by
    have n0 : ("ann" : Str) ∈ namesL := by decide
    have k0 : ("cat" : Str) ∈ kindsL := by decide
    have t0 : ("likes" : Str) ∈ tiesL := by decide
    cases r <;> simp only [Rw.few] at h
    · exact nk _ h.1 _ h.2 _ k0 _ n0 _ t0 _ t0 _ (by simp)
    · exact nk _ h.1 _ h.2 _ k0 _ n0 _ t0 _ t0 _ (by simp)
    · exact nk _ h.1 _ k0 _ k0 _ h.2.2 _ h.2.1 _ t0 _ (by simp)
    · exact nk _ h.1 _ k0 _ k0 _ h.2.2 _ h.2.1 _ t0 _ (by simp)
    · exact nk _ n0 _ h.1 _ h.2 _ n0 _ t0 _ t0 _ (by simp)
    · exact nk _ n0 _ h.1 _ h.2 _ n0 _ t0 _ t0 _ (by simp)
    · exact nk _ n0 _ h.1 _ k0 _ h.2.2 _ h.2.1 _ t0 _ (by simp)
    · exact nk _ n0 _ h.2.1 _ h.2.2 _ n0 _ h.1 _ t0 _ (by simp)
    · exact nk _ n0 _ k0 _ k0 _ n0 _ h.1 _ h.2 _ (by simp)
    · exact nk _ n0 _ k0 _ k0 _ n0 _ h _ t0 _ (by simp)
    · exact nk _ n0 _ h.2 _ k0 _ n0 _ h.1 _ t0 _ (by simp)
    · exact nk _ n0 _ h.2 _ k0 _ n0 _ h.1 _ t0 _ (by simp)
    · exact nk _ n0 _ k0 _ k0 _ n0 _ h.1 _ h.2 _ (by simp)
  obtain ⟨a, b⟩ := Bool.and_eq_true_iff.mp fin
  exact ⟨a, by simpa using b⟩
theorem odd_row {H : Hp} {rv : V} {rb : Bool} {K : PySem.W.Frag} (h : DRow H rv rb) : ∃ d, Dp K H rv d ∧ SeqAt.shaped d = true ∧ (dOdd.any fun z => PyData.eqv z d) = !rb := by
  obtain ⟨r, ws, rfl, e, h⟩ := h
  refine ⟨dT ws, .tup (.inl (.of e)) ?_, ?_⟩
  · have go : ∀ ws : List Str, DpAll K H (ws.map V.str) (ws.map PyData.str) := fun ws => by
      induction ws with
      | nil => exact .nil
      | cons w ws ih => exact .cons (.str _) ih
    exact go ws
  · rcases h with ⟨rfl, q, hq, rfl⟩ | ⟨rfl, rfl | rfl⟩
    · exact odd_few hq
    · exact ⟨by decide +kernel, by decide +kernel⟩
    · exact ⟨by decide +kernel, by decide +kernel⟩
theorem odd_row' {H H' : Hp} {rv : V} {rb : Bool} {K : PySem.W.Frag} (h : DRow H rv rb) (k : Kept [] H H') : ∃ d, Dp K H' rv d ∧ SeqAt.shaped d = true ∧ (dOdd.any fun z => PyData.eqv z d) = !rb := odd_row (h.kept k (fun b hb => nomatch hb))
theorem dp_odd {H : Hp} {K : PySem.W.Frag} {t1 t2 t3 : Addr} (h1 : H t1 = some (.tup [.str "is", .str "Ann", .str "cat"])) (h2 : H t2 = some (.tup [.str "on"])) (h3 : H t3 = some (.tup [.ref t1, .ref t2])) : Dp K H (.ref t3) (.tuple dOdd) :=
  .tup (.inl (.of h3)) (.cons (.tup (.inl (.of h1)) (.cons (.str _) (.cons (.str _) (.cons (.str _) .nil)))) (.cons (.tup (.inl (.of h2)) (.cons (.str _) .nil)) .nil))
def spLDone (K : PySem.W.Frag) : Sp := fun vs H Q _ => ∃ (wl d a : Addr) (xs : List V) (n : Nat) (k : Dk), vs = [.ref wl, .ref d] ∧ H wl = some (.lst [.ref a]) ∧ H a = some (.tup xs) ∧ xs.length ≤ 24 ∧ H d = some (.tup (k.ws n)) ∧ k.ok H ∧
  ∀ p a' H', Kept [wl] H H' → H' wl = some (.lst [.ref a']) → H' a' = some (.tup (dueD xs n k).2) → H' p = some (.tup [.str (dueD xs n k).1.1, (dueD xs n k).1.2]) → Q (.ref p) H'
theorem scLDn : FnScope ["_law_w", "_law_deed_here", "_law_rows"] ["_law_w", "_law_deed_here"] (defScope lDone) := ⟨rfl, rfl, rfl, by decide +kernel, rfl, by decide +kernel, by decide +kernel⟩
section
variable {P : Program} {w : World} {K : PySem.W.Frag} {mg : Str → Option Value} {base : Heap} {f : Addr} {fd : FuncData}
theorem ok_ldone (F : FnP K "_law_done" lDone f fd) (B : Bl mg) (zInt : mg "int" = none) : FnOk P w K mg base CX0 1 f fd ["_law_w", "_law_deed_here"] (spLDone K) := by
  refine F.ok scLDn (fun vs H Q E h => ?_) (fun cdv A outer s H vs Q E hr h => ?_)
  · obtain ⟨wl, d, a, xs, n, k, rfl, _⟩ := h
    rfl
  · obtain ⟨wl, d, a, xs, n, k, rfl, hw, ha, hl, hd, hk, q⟩ := h
    refine ⟨_, PSs.nox (pss_cons (ps_set (i := 2) scLDn.nd rfl (.inl rfl) (pe_ix ix_list (pv 0) pe_int (fun _ _ => rfl)))
      (pss_cons (ps_if (pt_cmpR op_gt (pe_ix ix_tup (pv 1) pe_int (fun _ _ => rfl)) (pe_op op_sub (pe_callB call_len_seq (by rfl) B.len_ (by decide +kernel) (pa_cons (pv 2) pa_nil)) (pe_callTy call_int1 (by rfl) zInt (by decide +kernel) (pa_cons (pe_cmpR op_ne (pe_ix ix_tup (pv 1) pe_int (fun _ _ => rfl)) pe_str (nomark _)) pa_nil))) (nomark _)) (pss_one (ps_ret (pe_tup (pa_cons pe_str (pa_cons pe_non pa_nil))))) pss_nil)
      (pss_cons (ps_if (pt_cmpR op_eq (pe_ix ix_tup (pv 1) pe_int (fun _ _ => rfl)) pe_str (nomark _)) (pss_cons (ps_asg (pe_op (show OpR _ _ (rCatA K) from op_catA) (pe_slice (show SlR _ (rSlA K) from sl_tupA) (pv 2) po_none (po_some (pe_ix ix_tup (pv 1) pe_int (fun _ _ => rfl)))) (pe_slice (show SlR _ (rSlA K) from sl_tupA) (pv 2) (po_some (pe_op op_add (pe_ix ix_tup (pv 1) pe_int (fun _ _ => rfl)) pe_int)) po_none)) (pg_sub (pv 0) pe_int set_list))
      (pss_one (ps_ret (pe_tup (pa_cons pe_str (pa_cons (pe_ix ix_tup (pv 2) (pe_ix ix_tup (pv 1) pe_int (fun _ _ => rfl)) (fun _ _ => rfl)) pa_nil)))))) pss_nil)
      (pss_cons (ps_if (PW.pt (pw_or (pt_cmpR (op_inDT (room65 hr)) (pe_ix ix_tup (pv 1) pe_int (fun _ _ => rfl)) (pe_tup (pa_cons (pe_tup (pa_cons pe_str (pa_cons pe_str (pa_cons pe_str pa_nil)))) (pa_cons (pe_tup (pa_cons pe_str pa_nil)) pa_nil))) (by rfl)) (pw_or1 (PW.pt (pw_and (pt_cmpR op_eq (pe_ix ix_tup (pv 1) pe_int (fun _ _ => rfl)) pe_str (nomark _)) (pw_and1 (pt_cmpR op_eq (pe_callB call_len_seq (by rfl) B.len_ (by decide +kernel) (pa_cons (pv 2) pa_nil)) pe_int (nomark _)))))))) (pss_one (ps_ret (pe_tup (pa_cons pe_str (pa_cons (pe_ix ix_tup (pv 1) pe_int (fun _ _ => rfl)) pa_nil))))) pss_nil)
      (pss_cons (ps_if (pt_cmpR op_eq (pe_ix ix_tup (pv 1) pe_int (fun _ _ => rfl)) pe_str (nomark _)) (pss_cons (ps_asg (pe_op (show OpR _ _ (rCatA K) from op_catA) (pe_op (show OpR _ _ (rCatA K) from op_catA) (pe_slice (show SlR _ (rSlA K) from sl_tupA) (pv 2) po_none (po_some (pe_ix ix_tup (pv 1) pe_int (fun _ _ => rfl)))) (pe_tup (pa_cons (pe_ix ix_tup (pv 1) pe_int (fun _ _ => rfl)) pa_nil))) (pe_slice (show SlR _ (rSlA K) from sl_tupA) (pv 2) (po_some (pe_ix ix_tup (pv 1) pe_int (fun _ _ => rfl))) po_none)) (pg_sub (pv 0) pe_int set_list))
      (pss_one (ps_ret (pe_tup (pa_cons pe_str (pa_cons pe_non pa_nil)))))) pss_nil)
      (pss_cons (ps_asg (pe_op (show OpR _ _ (rCatA K) from op_catA) (pe_op (show OpR _ _ (rCatA K) from op_catA) (pe_slice (show SlR _ (rSlA K) from sl_tupA) (pv 2) po_none (po_some (pe_ix ix_tup (pv 1) pe_int (fun _ _ => rfl)))) (pe_tup (pa_cons (pe_ix ix_tup (pv 1) pe_int (fun _ _ => rfl)) pa_nil))) (pe_slice (show SlR _ (rSlA K) from sl_tupA) (pv 2) (po_some (pe_op op_add (pe_ix ix_tup (pv 1) pe_int (fun _ _ => rfl)) pe_int)) po_none)) (pg_sub (pv 0) pe_int set_list))
      (pss_one (ps_ret (pe_tup (pa_cons pe_str (pa_cons (pe_ix ix_tup (pv 2) (pe_ix ix_tup (pv 1) pe_int (fun _ _ => rfl)) (fun _ _ => rfl)) pa_nil))))))))))), ?_⟩
    refine ⟨_, rfl, wl, _, 0, .ref a, rfl, rfl, SqL.of hw, at_of (j := 0) rfl rfl, ?_⟩
    cases k with
    | put rv rb =>
      have hd : H d = some (.tup [.str "put", .int (n : Int), rv]) := hd
      have hk : DRow H rv rb := hk
      refine ⟨_, rfl, d, _, 1, .int (n : Int), rfl, rfl, .inl (.of hd), at_of (j := 1) rfl rfl, ?_⟩
      refine ⟨_, rfl, a, _, rfl, .inr (.inl (.of ha)), _, rfl, d, _, 0, .str "put", rfl, rfl, .inl (.of hd), at_of (j := 0) rfl rfl, ?_⟩
      refine ⟨rfl, .inr ⟨_, rfl, _, _, rfl, rfl, _, _, rfl, rfl, _, rfl, ?_⟩⟩
      have e1 : decide (((xs.length : Int) - if (!decide (V.str ("put" : Str) = V.str "put")) = true then (1 : Int) else 0) < (n : Int)) = decide (xs.length < n) := by simp
      rw [e1]
      by_cases hn : xs.length < n
      · rw [decide_eq_true hn]
        have due : dueD xs n (.put rv rb) = ((("norow" : Str), V.non), xs) := if_pos hn
        rw [due] at q
        refine iteT ⟨by show (2 : Nat) ≤ sizeLine; decide, fun p np => q p a _ ((Kept.refl H).upd np) ((upd_ne (ne_of_none hw np)).trans hw) ((upd_ne (ne_of_none ha np)).trans ha) upd_same⟩
      rw [decide_eq_false hn]
      refine iteF ⟨_, rfl, d, _, 0, .str "put", rfl, rfl, .inl (.of hd), at_of (j := 0) rfl rfl, rfl, _, rfl, iteF ?_⟩ 
      refine ⟨_, rfl, d, _, 2, rv, rfl, rfl, .inl (.of hd), at_of (j := 2) rfl rfl, by show (3 : Nat) ≤ sizeLine; decide, fun t1 n1 => ⟨by show (1 : Nat) ≤ sizeLine; decide, fun t2 n2 => ⟨by show (2 : Nat) ≤ sizeLine; decide, fun t3 n3 => ?_⟩⟩⟩
      have K3 := (((Kept.refl (M := []) H).upd (o := .tup [.str "is", .str "Ann", .str "cat"]) n1).upd (o := .tup [.str "on"]) n2).upd (o := .tup [.ref t1, .ref t2]) n3
      obtain ⟨dv, dp, sd, ed⟩ := odd_row' (K := K) hk K3
      refine ⟨dv, dOdd, dp, dp_odd ((((Kept.refl (M := []) _).upd n2).upd n3) _ _ upd_same (by simp)) (((Kept.refl (M := []) _).upd n3) _ _ upd_same (by simp)) upd_same, sd, by decide +kernel, ?_⟩
      rw [ed]
      refine ⟨_, rfl, ?_⟩
      have hd3 := K3 _ _ hd (by simp)
      have hw3 := K3 _ _ hw (by simp)
      have ha3 := K3 _ _ ha (by simp)
      generalize upd (upd (upd H t1 (.tup [.str "is", .str "Ann", .str "cat"])) t2 (.tup [.str "on"])) t3 (.tup [.ref t1, .ref t2]) = H3 at K3 hd3 hw3 ha3 ⊢
      clear dp
      cases rb with
      | false =>
        have due : dueD xs n (.put rv false) = ((("row" : Str), V.int n), xs) := by
          unfold dueD
          dsimp only
          rw [if_neg hn, if_pos (.inl rfl)]
        rw [due] at q
        refine iteT (iteT ⟨_, rfl, d, _, 1, .int (n : Int), rfl, rfl, .inl (.of hd3), at_of (j := 1) rfl rfl, by show (2 : Nat) ≤ sizeLine; decide, fun p np => q p a _ ((fun b o e _ => (K3.upd np) b o e (by simp))) ((upd_ne (ne_of_none hw3 np)).trans hw3) ((upd_ne (ne_of_none ha3 np)).trans ha3) upd_same⟩)
      | true =>
        refine iteF ⟨_, rfl, d, _, 0, .str "put", rfl, rfl, .inl (.of hd3), at_of (j := 0) rfl rfl, rfl, _, rfl, iteT ⟨_, rfl, a, _, rfl, .inr (.inl (.of ha3)), rfl, _, rfl, ?_⟩⟩ 
        have e24 : decide (V.int (xs.length : Int) = V.int 24) = decide (xs.length = 24) := by
          by_cases e : xs.length = 24
          · rw [decide_eq_true e, e]
            exact decide_eq_true rfl
          · rw [decide_eq_false e]
            refine decide_eq_false fun q => e ?_
            have := V.int.inj q
            omega
        rw [e24]
        by_cases h24 : xs.length = 24
        · rw [decide_eq_true h24]
          have due : dueD xs n (.put rv true) = ((("row" : Str), V.int n), xs) := by
            unfold dueD
            dsimp only
            rw [if_neg hn, if_pos (.inr h24)]
          rw [due] at q
          refine iteT ⟨_, rfl, d, _, 1, .int (n : Int), rfl, rfl, .inl (.of hd3), at_of (j := 1) rfl rfl, by show (2 : Nat) ≤ sizeLine; decide, fun p np => q p a _ ((fun b o e _ => (K3.upd np) b o e (by simp))) ((upd_ne (ne_of_none hw3 np)).trans hw3) ((upd_ne (ne_of_none ha3 np)).trans ha3) upd_same⟩
        rw [decide_eq_false h24]
        have due : dueD xs n (.put rv true) = ((("" : Str), V.non), xs.take n ++ rv :: xs.drop n) := by
          unfold dueD
          dsimp only
          rw [if_neg hn, if_neg (fun z => z.elim (fun z => nomatch z) h24)]
        rw [due] at q
        refine iteF ⟨_, rfl, d, _, 0, .str "put", rfl, rfl, .inl (.of hd3), at_of (j := 0) rfl rfl, rfl, _, rfl, iteT ?_⟩ 
        refine ⟨_, rfl, _, rfl, d, _, 1, .int (n : Int), rfl, rfl, .inl (.of hd3), at_of (j := 1) rfl rfl, n, rfl, slA_v ha3 fun q1 H4 k4 e4 => ?_⟩
        have hd4 := k4 _ _ hd3 (by simp)
        have hw4 := k4 _ _ hw3 (by simp)
        have ha4 := k4 _ _ ha3 (by simp)
        rw [cutV_take (by omega)] at e4
        refine ⟨_, rfl, d, _, 2, rv, rfl, rfl, .inl (.of hd4), at_of (j := 2) rfl rfl, by show (1 : Nat) ≤ sizeLine; decide, fun tt ntt => ?_⟩
        have k5 := (Kept.refl (M := []) H4).upd (o := .tup [rv]) ntt
        refine catA_v (k5 _ _ e4 (by simp)) upd_same (by rw [List.length_take]; show _ + 1 ≤ 1000; omega) fun q2 H6 k6 e6 => ?_
        have k46 := k5.trans k6
        have hd6 := k46 _ _ hd4 (by simp)
        have hw6 := k46 _ _ hw4 (by simp)
        have ha6 := k46 _ _ ha4 (by simp)
        refine ⟨_, rfl, _, rfl, d, _, 1, .int (n : Int), rfl, rfl, .inl (.of hd6), at_of (j := 1) rfl rfl, n, rfl, ?_⟩
        unfold tNoPart
        show rSlA K (.ref a) (some (n : Int)) none H6 _
        refine slA_v ha6 fun q3 H7 k7 e7 => ?_
        rw [cutV_drop (by omega)] at e7
        refine catA_v (k7 _ _ e6 (by simp)) e7 (by simp only [List.length_append, List.length_take, List.length_drop, List.length_cons, List.length_nil]; omega) fun a' H8 k8 e8 => ?_
        have kA : Kept [] H H8 := K3.trans (k4.trans (k46.trans (k7.trans k8)))
        have hd8 := kA _ _ hd (by simp)
        have hw8 := kA _ _ hw (by simp)
        have ha8 := kA _ _ ha (by simp)
        have e8 : H8 a' = some (.tup (xs.take n ++ rv :: xs.drop n)) := by rw [e8, List.append_assoc]; rfl
        refine ⟨_, rfl, wl, _, 0, 0, rfl, rfl, hw8, rfl, ?_⟩
        have nw : ∀ {p : Addr} {ys : List V}, H8 p = some (.tup ys) → p ≠ wl := fun {p ys} e z => by
          rw [z, hw8] at e
          cases e
        have kB : Kept [wl] H (upd H8 wl (.lst [.ref a'])) := fun b o e hb => (upd_ne (by simpa using hb)).trans (kA b o e (by simp))
        have hdB := (upd_ne (o := .lst [.ref a']) (nw hd8)).trans hd8
        have haB := (upd_ne (o := .lst [.ref a']) (nw ha8)).trans ha8
        have eB := (upd_ne (o := .lst [.ref a']) (nw e8)).trans e8
        refine ⟨by show (2 : Nat) ≤ sizeLine; decide, fun p np => q p a' _ (kB.upd np) ((upd_ne (ne_of_none upd_same np)).trans upd_same) ((upd_ne (ne_of_none eB np)).trans eB) upd_same⟩
    | drop =>
      have hd : H d = some (.tup [.str "drop", .int (n : Int)]) := hd
      refine ⟨_, rfl, d, _, 1, .int (n : Int), rfl, rfl, .inl (.of hd), at_of (j := 1) rfl rfl, ?_⟩
      refine ⟨_, rfl, a, _, rfl, .inr (.inl (.of ha)), _, rfl, d, _, 0, .str "drop", rfl, rfl, .inl (.of hd), at_of (j := 0) rfl rfl, ?_⟩
      refine ⟨rfl, .inr ⟨_, rfl, _, _, rfl, rfl, _, _, rfl, rfl, _, rfl, ?_⟩⟩
      have e1 : decide (((xs.length : Int) - if (!decide (V.str ("drop" : Str) = V.str "put")) = true then (1 : Int) else 0) < (n : Int)) = decide (xs.length ≤ n) := by
        rw [show decide (V.str ("drop" : Str) = V.str "put") = false by decide]
        exact decide_eq_decide.mpr (by simp; omega)
      rw [e1]
      by_cases hn : xs.length ≤ n
      · rw [decide_eq_true hn]
        have due : dueD xs n .drop = ((("norow" : Str), V.non), xs) := by
          unfold dueD
          dsimp only
          rw [List.getElem?_eq_none hn]
        rw [due] at q
        refine iteT ⟨by show (2 : Nat) ≤ sizeLine; decide, fun p np => q p a _ ((Kept.refl H).upd np) ((upd_ne (ne_of_none hw np)).trans hw) ((upd_ne (ne_of_none ha np)).trans ha) upd_same⟩
      rw [decide_eq_false hn]
      obtain ⟨v, hv⟩ : ∃ v, xs[n]? = some v := ⟨xs[n]'(by omega), List.getElem?_eq_getElem (by omega)⟩
      have due : dueD xs n .drop = ((("" : Str), v), xs.take n ++ xs.drop (n + 1)) := by
        unfold dueD
        dsimp only
        rw [hv]
      rw [due] at q
      refine iteF ⟨_, rfl, d, _, 0, .str "drop", rfl, rfl, .inl (.of hd), at_of (j := 0) rfl rfl, rfl, _, rfl, iteT ?_⟩ 
      have K3 : Kept [] H H := Kept.refl H
      have hd3 := hd
      have hw3 := hw
      have ha3 := ha
      · skip
        refine ⟨_, rfl, _, rfl, d, _, 1, .int (n : Int), rfl, rfl, .inl (.of hd3), at_of (j := 1) rfl rfl, n, rfl, slA_v ha3 fun q1 H4 k4 e4 => ?_⟩
        have hd4 := k4 _ _ hd3 (by simp)
        have hw4 := k4 _ _ hw3 (by simp)
        have ha4 := k4 _ _ ha3 (by simp)
        rw [cutV_take (by omega)] at e4
        refine ⟨_, rfl, _, rfl, d, _, 1, .int (n : Int), rfl, rfl, .inl (.of hd4), at_of (j := 1) rfl rfl, _, _, rfl, rfl, _, rfl, ?_⟩
        unfold tNoPart
        show rSlA K (.ref a) (some ((n : Int) + 1)) none H4 _
        rw [show ((n : Int) + 1) = ((n + 1 : Nat) : Int) by omega]
        refine slA_v ha4 fun q3 H7 k7 e7 => ?_
        rw [cutV_drop (by omega)] at e7
        refine catA_v (k7 _ _ e4 (by simp)) e7 (by simp only [List.length_append, List.length_take, List.length_drop, List.length_cons, List.length_nil]; omega) fun a' H8 k8 e8 => ?_
        have kA : Kept [] H H8 := K3.trans (k4.trans (k7.trans k8))
        have hd8 := kA _ _ hd (by simp)
        have hw8 := kA _ _ hw (by simp)
        have ha8 := kA _ _ ha (by simp)
        have e8 : H8 a' = some (.tup (xs.take n ++ xs.drop (n + 1))) := by exact e8
        refine ⟨_, rfl, wl, _, 0, 0, rfl, rfl, hw8, rfl, ?_⟩
        have nw : ∀ {p : Addr} {ys : List V}, H8 p = some (.tup ys) → p ≠ wl := fun {p ys} e z => by
          rw [z, hw8] at e
          cases e
        have kB : Kept [wl] H (upd H8 wl (.lst [.ref a'])) := fun b o e hb => (upd_ne (by simpa using hb)).trans (kA b o e (by simp))
        have hdB := (upd_ne (o := .lst [.ref a']) (nw hd8)).trans hd8
        have haB := (upd_ne (o := .lst [.ref a']) (nw ha8)).trans ha8
        have eB := (upd_ne (o := .lst [.ref a']) (nw e8)).trans e8
        refine ⟨_, rfl, _, rfl, d, _, 1, .int (n : Int), rfl, rfl, .inl (.of hdB), at_of (j := 1) rfl rfl, a, _, n, v, rfl, rfl, .inl (.of haB), atI_nat hv, by show (2 : Nat) ≤ sizeLine; decide, fun p np => q p a' _ (kB.upd np) ((upd_ne (ne_of_none upd_same np)).trans upd_same) ((upd_ne (ne_of_none eB np)).trans eB) upd_same⟩
    | tell rv rb =>
      have hd : H d = some (.tup [.str "tell", .int (n : Int), rv]) := hd
      have hk : DRow H rv rb := hk
      refine ⟨_, rfl, d, _, 1, .int (n : Int), rfl, rfl, .inl (.of hd), at_of (j := 1) rfl rfl, ?_⟩
      refine ⟨_, rfl, a, _, rfl, .inr (.inl (.of ha)), _, rfl, d, _, 0, .str "tell", rfl, rfl, .inl (.of hd), at_of (j := 0) rfl rfl, ?_⟩
      refine ⟨rfl, .inr ⟨_, rfl, _, _, rfl, rfl, _, _, rfl, rfl, _, rfl, ?_⟩⟩
      have e1 : decide (((xs.length : Int) - if (!decide (V.str ("tell" : Str) = V.str "put")) = true then (1 : Int) else 0) < (n : Int)) = decide (xs.length ≤ n) := by
        rw [show decide (V.str ("tell" : Str) = V.str "put") = false by decide]
        exact decide_eq_decide.mpr (by simp; omega)
      rw [e1]
      by_cases hn : xs.length ≤ n
      · rw [decide_eq_true hn]
        have due : dueD xs n (.tell rv rb) = ((("norow" : Str), V.non), xs) := by
          unfold dueD
          dsimp only
          rw [List.getElem?_eq_none hn]
        rw [due] at q
        refine iteT ⟨by show (2 : Nat) ≤ sizeLine; decide, fun p np => q p a _ ((Kept.refl H).upd np) ((upd_ne (ne_of_none hw np)).trans hw) ((upd_ne (ne_of_none ha np)).trans ha) upd_same⟩
      rw [decide_eq_false hn]
      obtain ⟨v, hv⟩ : ∃ v, xs[n]? = some v := ⟨xs[n]'(by omega), List.getElem?_eq_getElem (by omega)⟩
      refine iteF ⟨_, rfl, d, _, 0, .str "tell", rfl, rfl, .inl (.of hd), at_of (j := 0) rfl rfl, rfl, _, rfl, iteF ?_⟩ 
      refine ⟨_, rfl, d, _, 2, rv, rfl, rfl, .inl (.of hd), at_of (j := 2) rfl rfl, by show (3 : Nat) ≤ sizeLine; decide, fun t1 n1 => ⟨by show (1 : Nat) ≤ sizeLine; decide, fun t2 n2 => ⟨by show (2 : Nat) ≤ sizeLine; decide, fun t3 n3 => ?_⟩⟩⟩
      have K3 := (((Kept.refl (M := []) H).upd (o := .tup [.str "is", .str "Ann", .str "cat"]) n1).upd (o := .tup [.str "on"]) n2).upd (o := .tup [.ref t1, .ref t2]) n3
      obtain ⟨dv, dp, sd, ed⟩ := odd_row' (K := K) hk K3
      refine ⟨dv, dOdd, dp, dp_odd ((((Kept.refl (M := []) _).upd n2).upd n3) _ _ upd_same (by simp)) (((Kept.refl (M := []) _).upd n3) _ _ upd_same (by simp)) upd_same, sd, by decide +kernel, ?_⟩
      rw [ed]
      refine ⟨_, rfl, ?_⟩
      have hd3 := K3 _ _ hd (by simp)
      have hw3 := K3 _ _ hw (by simp)
      have ha3 := K3 _ _ ha (by simp)
      generalize upd (upd (upd H t1 (.tup [.str "is", .str "Ann", .str "cat"])) t2 (.tup [.str "on"])) t3 (.tup [.ref t1, .ref t2]) = H3 at K3 hd3 hw3 ha3 ⊢
      clear dp
      cases rb with
      | false =>
        have due : dueD xs n (.tell rv false) = ((("row" : Str), V.int n), xs) := by
          unfold dueD
          dsimp only
          rw [hv]
          rfl
        rw [due] at q
        refine iteT (iteT ⟨_, rfl, d, _, 1, .int (n : Int), rfl, rfl, .inl (.of hd3), at_of (j := 1) rfl rfl, by show (2 : Nat) ≤ sizeLine; decide, fun p np => q p a _ ((fun b o e _ => (K3.upd np) b o e (by simp))) ((upd_ne (ne_of_none hw3 np)).trans hw3) ((upd_ne (ne_of_none ha3 np)).trans ha3) upd_same⟩)
      | true =>
        refine iteF ⟨_, rfl, d, _, 0, .str "tell", rfl, rfl, .inl (.of hd3), at_of (j := 0) rfl rfl, rfl, _, rfl, iteF (iteF ?_)⟩ 
        have due : dueD xs n (.tell rv true) = ((("" : Str), v), xs.take n ++ rv :: xs.drop (n + 1)) := by
          unfold dueD
          dsimp only
          rw [hv]
          rfl
        rw [due] at q
        refine ⟨_, rfl, d, _, 0, .str "tell", rfl, rfl, .inl (.of hd3), at_of (j := 0) rfl rfl, rfl, _, rfl, iteF ?_⟩ 
        refine ⟨_, rfl, _, rfl, d, _, 1, .int (n : Int), rfl, rfl, .inl (.of hd3), at_of (j := 1) rfl rfl, n, rfl, slA_v ha3 fun q1 H4 k4 e4 => ?_⟩
        have hd4 := k4 _ _ hd3 (by simp)
        have hw4 := k4 _ _ hw3 (by simp)
        have ha4 := k4 _ _ ha3 (by simp)
        rw [cutV_take (by omega)] at e4
        refine ⟨_, rfl, d, _, 2, rv, rfl, rfl, .inl (.of hd4), at_of (j := 2) rfl rfl, by show (1 : Nat) ≤ sizeLine; decide, fun tt ntt => ?_⟩
        have k5 := (Kept.refl (M := []) H4).upd (o := .tup [rv]) ntt
        refine catA_v (k5 _ _ e4 (by simp)) upd_same (by rw [List.length_take]; show _ + 1 ≤ 1000; omega) fun q2 H6 k6 e6 => ?_
        have k46 := k5.trans k6
        have hd6 := k46 _ _ hd4 (by simp)
        have hw6 := k46 _ _ hw4 (by simp)
        have ha6 := k46 _ _ ha4 (by simp)
        refine ⟨_, rfl, _, rfl, d, _, 1, .int (n : Int), rfl, rfl, .inl (.of hd6), at_of (j := 1) rfl rfl, _, _, rfl, rfl, _, rfl, ?_⟩
        unfold tNoPart
        show rSlA K (.ref a) (some ((n : Int) + 1)) none H6 _
        rw [show ((n : Int) + 1) = ((n + 1 : Nat) : Int) by omega]
        refine slA_v ha6 fun q3 H7 k7 e7 => ?_
        rw [cutV_drop (by omega)] at e7
        refine catA_v (k7 _ _ e6 (by simp)) e7 (by simp only [List.length_append, List.length_take, List.length_drop, List.length_cons, List.length_nil]; omega) fun a' H8 k8 e8 => ?_
        have kA : Kept [] H H8 := K3.trans (k4.trans (k46.trans (k7.trans k8)))
        have hd8 := kA _ _ hd (by simp)
        have hw8 := kA _ _ hw (by simp)
        have ha8 := kA _ _ ha (by simp)
        have e8 : H8 a' = some (.tup (xs.take n ++ rv :: xs.drop (n + 1))) := by rw [e8, List.append_assoc]; rfl
        refine ⟨_, rfl, wl, _, 0, 0, rfl, rfl, hw8, rfl, ?_⟩
        have nw : ∀ {p : Addr} {ys : List V}, H8 p = some (.tup ys) → p ≠ wl := fun {p ys} e z => by
          rw [z, hw8] at e
          cases e
        have kB : Kept [wl] H (upd H8 wl (.lst [.ref a'])) := fun b o e hb => (upd_ne (by simpa using hb)).trans (kA b o e (by simp))
        have hdB := (upd_ne (o := .lst [.ref a']) (nw hd8)).trans hd8
        have haB := (upd_ne (o := .lst [.ref a']) (nw ha8)).trans ha8
        have eB := (upd_ne (o := .lst [.ref a']) (nw e8)).trans e8
        refine ⟨_, rfl, _, rfl, d, _, 1, .int (n : Int), rfl, rfl, .inl (.of hdB), at_of (j := 1) rfl rfl, a, _, n, v, rfl, rfl, .inl (.of haB), atI_nat hv, by show (2 : Nat) ≤ sizeLine; decide, fun p np => q p a' _ (kB.upd np) ((upd_ne (ne_of_none upd_same np)).trans upd_same) ((upd_ne (ne_of_none eB np)).trans eB) upd_same⟩
end
end Ah
end
section
set_option Elab.async false
set_option linter.all false
set_option maxRecDepth 100000
set_option maxHeartbeats 2000000
namespace Ah
open PySem PySem.Spec PyProof.Rows L2 LamX
/-! ### xs.count(y), flat items -/
def rCntF (K : PySem.W.Frag) : V → List V → Hp → VK → Prop := fun x xs H Q => ∃ (p : Addr) (ys : List V) (y : V), x = .ref p ∧ xs = [y] ∧ SqL K H p ys ∧ flatV y = true ∧ ys.all flatV = true ∧ Q (.int ((ys.countP fun z => eqV z y : Nat) : Int)) H
theorem countU {y : V} : ∀ {xs : List V} {us : List Value}, Vals xs us → xs.all flatV = true → us.countP (eqU y) = xs.countP fun z => eqV z y
  | _, _, .nil, _ => rfl
  | x :: xs, u :: us, .cons r t, f => by
    rw [List.all_cons, Bool.and_eq_true] at f
    rw [List.countP_cons, List.countP_cons, countU t f.2, eqU_of r f.1]
theorem mt_lcountF {X : Cx} : MtR X "list.count" (rCntF X.K) := by
  intro pins s σ H x xs v us Q I rx rxs h
  obtain ⟨p, ys, y, rfl, rfl, hs, fy, fys, q⟩ := h
  cases rx
  obtain ⟨u, rfl, ru⟩ := vals1 rxs
  obtain ⟨its, rv, ⟨⟨cls, dd, data, sl⟩, n, ho, hc, hdn, hd⟩, hlen⟩ := I.list hs
  simp only at hc hd
  subst hc hd
  refine call_meets PySem.F.slot_list_count ⟨_, ho, rfl⟩ PySem.F.entry_list_count (PySem.F.args_list_count_2 _ _)
    (SeqAt.list_countAt p its.toArray n dd sl u (eqU y)) ⟨ho, fun u' hu' => mem_eqAt ru fy rv fys u' (by simpa using hu'), ?_⟩
  refine ⟨.int ((ys.countP fun z => eqV z y : Nat) : Int), H, I.tok _, ⟨s.toks, ?_⟩, q⟩
  show Value.int ((its.toArray.toList.countP (eqU y) : Nat) : Int) s.toks = Value.int ((ys.countP fun z => eqV z y : Nat) : Int) s.toks
  rw [show its.toArray.toList.countP (eqU y) = ys.countP fun z => eqV z y from countU rv fys]
/-! ### _law_word -/
abbrev NW : List Str := ["_law_work", "_law_found", "e", "_law_kinds", "_law_names", "_law_name"]
theorem scW2 : FnScope NW ["_law_work"] (defScope lWord) := ⟨rfl, rfl, rfl, by decide +kernel, rfl, by decide +kernel, by decide +kernel⟩
def suiteW : List Stmt := match defBody lWord with
  | _ :: .Try _ [.ExceptHandler _ _ b _] _ _ _ :: _ => b
  | _ => []
end Ah
end
section
set_option Elab.async false
set_option linter.all false
set_option maxRecDepth 100000
set_option maxHeartbeats 2000000
namespace Ah
open PySem PySem.Spec PyProof.Rows L2 LamX
/-! ### _law_word, for all classes but Halted and BadText -/
def nameG : Nat → Str
  | 0 => "row"
  | 1 => "saying"
  | 2 => "count"
  | 3 => "steps"
  | 4 => "norow"
  | 5 => "nofollow"
  | 6 => "deed"
  | 7 => "halted"
  | _ => "text"
/-- whether the class bears a number -/
def numW : Nat → Bool
  | 0 => true
  | 3 => true
  | 6 => true
  | _ => false
structure WordG (K : PySem.W.Frag) (mg : Str → Option Value) (CA : Addr) (c : Nat → Addr) : Prop where
  ca : mg "AnswerError" = some (.ref CA)
  m0 : mg "BadRow" = some (.ref (c 0))
  m1 : mg "BadSaying" = some (.ref (c 1))
  m2 : mg "BadCount" = some (.ref (c 2))
  m3 : mg "BadSteps" = some (.ref (c 3))
  m4 : mg "NoRow" = some (.ref (c 4))
  m5 : mg "NoFollow" = some (.ref (c 5))
  m6 : mg "BadDeed" = some (.ref (c 6))
  m7 : mg "Halted" = some (.ref (c 7))
  m8 : mg "BadText" = some (.ref (c 8))
  isi : mg "isinstance" = none
  ve : mg "ValueError" = none
  kit : ∀ i j, i < 9 → j < 9 → PySem.W.kitOne K (.ref (c i)) (.ref (c j)) = some (decide (i = j))
  kitV : ∀ i, i < 9 → PySem.W.kitOne K (.ref (c i)) (.type "ValueError") = some true
  exm : ∀ i, i < 9 → PySem.W.exmOne K (.ref (c i)) (.ref CA) = some true
  xc : ∀ i, i < 9 → ExcC K (c i)
  xf : ∀ i, i < 7 → numW i = true → XfC K (c i) ∧ PySem.W.findIn K (.ref (c i)) "number" = some none
/-- an exception of the i-th class: its dict, what is told of it -/
def ErrAt (H : Hp) (i : Nat) (d : Option Addr) (v : V) : Prop := (numW i = true ∧ ∃ (dd : Addr) (j : Int), d = some dd ∧ H dd = some (.xd [("number", .int j)]) ∧ v = .int j) ∨ (numW i = false ∧ d = none ∧ v = .non)
def XD (d : Option Addr) (H : Hp) : Prop := ∀ dd, d = some dd → ∃ fs, H dd = some (.xd fs)
theorem XD.upd {d : Option Addr} {H : Hp} {l : Addr} {o : HO} (h : XD d H) (n : H l = none) : XD d (upd H l o) := fun dd e => let ⟨fs, q⟩ := h dd e; ⟨fs, (upd_ne (ne_of_none q n)).trans q⟩
theorem XD.kept {d : Option Addr} {H H' : Hp} (h : XD d H) (k : Kept [] H H') : XD d H' := fun dd e => let ⟨fs, q⟩ := h dd e; ⟨fs, k _ _ q (by simp)⟩
theorem ErrAt.xd {H : Hp} {i : Nat} {d : Option Addr} {v : V} (h : ErrAt H i d v) : XD d H := fun dd e => by
  rcases h with ⟨_, d2, j, e2, h2, _⟩ | ⟨_, e2, _⟩
  · rw [e2] at e
    cases e
    exact ⟨_, h2⟩
  · rw [e2] at e
    cases e
def tsG (c : Nat → Addr) (i : Nat) (a : Addr) (cls : Value) (d : Option Addr) : TS := fun D σ H => ∃ (v f lf : V), cls = .ref (c i) ∧ ErrAt H i d v ∧ σ = [some f, some lf, some (.ref a), none, none, none] ∧
  ∀ H' p, Kept [] H H' → H' p = none → D.rt (.ref p) (upd H' p (.tup [.str (nameG i), v]))
theorem pe_when {X : Cx} {e : Expr} {t : TE} {P : Prop} (h : P → PE X e t) : PE X e (fun σ H Q => P ∧ t σ H Q) := ⟨fun pins s σ H Q I ⟨p, r⟩ => (h p).run pins s σ H Q I r⟩
abbrev kindsG (i : Nat) : List V := [.bl (decide (i = 0)), .bl (decide (i = 1)), .bl (decide (i = 2)), .bl (decide (i = 3))] ++ [.bl (decide (i = 4)), .bl (decide (i = 5)), .bl (decide (i = 6)), .bl (decide (i = 7))] ++ [.bl (decide (i = 8))]
theorem kinds1 : ∀ i, i < 9 → (kindsG i).countP (fun z => eqV z (.bl true)) = 1 := by decide
theorem kinds2 : ∀ i, i < 9 → (kindsG i)[i]? = some (.bl true) := by
  intro i h
  match i, h with
  | 0, _ => rfl
  | 1, _ => rfl
  | 2, _ => rfl
  | 3, _ => rfl
  | 4, _ => rfl
  | 5, _ => rfl
  | 6, _ => rfl
  | 7, _ => rfl
  | 8, _ => rfl
theorem kinds3 : ∀ i, i < 9 → ∀ m, m < i → ((kindsG i)[m]?).all (fun z => !eqV z (.bl true)) = true := by decide
abbrev namesG : List V := [.str "row", .str "saying", .str "count", .str "steps", .str "norow", .str "nofollow", .str "deed", .str "halted", .str "text"]
theorem names2 : ∀ i, i < 9 → namesG[i]? = some (.str (nameG i)) := by
  intro i h
  match i, h with
  | 0, _ => rfl
  | 1, _ => rfl
  | 2, _ => rfl
  | 3, _ => rfl
  | 4, _ => rfl
  | 5, _ => rfl
  | 6, _ => rfl
  | 7, _ => rfl
  | 8, _ => rfl
theorem names3 {i : Nat} (h : i < 7) : decide (V.str (nameG i) = V.str "halted") = false ∧ decide (V.str (nameG i) = V.str "text") = false := by
  match i, h with
  | 0, _ => exact ⟨by decide, by decide⟩
  | 1, _ => exact ⟨by decide, by decide⟩
  | 2, _ => exact ⟨by decide, by decide⟩
  | 3, _ => exact ⟨by decide, by decide⟩
  | 4, _ => exact ⟨by decide, by decide⟩
  | 5, _ => exact ⟨by decide, by decide⟩
  | 6, _ => exact ⟨by decide, by decide⟩
theorem names4 : ∀ i, i < 7 → inV (.str (nameG i)) [V.str "row", V.str "steps", V.str "deed"] = numW i := by
  intro i h
  match i, h with
  | 0, _ => rfl
  | 1, _ => rfl
  | 2, _ => rfl
  | 3, _ => rfl
  | 4, _ => rfl
  | 5, _ => rfl
  | 6, _ => rfl
section
variable {K : PySem.W.Frag} {P : Program} {w : World} {mg : Str → Option Value} {base : Heap} {CA : Addr} {c : Nat → Addr} {g : Addr} {cdg : Value} {A : Around} {outer : List Env} {s00 : Shared} {H0 : Hp}
theorem suite_wordG (W : WordG K mg CA c) {i : Nat} (hi : i < 7) (a : Addr) (oe : Obj) (cls : Value) (d : Option Addr) (pn : List (Addr × Obj)) (hz : Zc cls d oe) (hf : ∃ vs, oe.data = .fields vs) :
    PSs (((cxOf C8.CX0 P w K mg base NW "_law_word" (defScope lWord) g cdg A outer s00 H0 C8.E0).nox).suite a ((a, oe) :: pn)) suiteW (tsG c i a cls d) := by
  refine ⟨fun pins s σ H D I h => ?_⟩
  obtain ⟨v, f, lf, rfl, he, rfl, k⟩ := h
  have hdd := he.xd
  have hi9 : i < 9 := by omega
  have XC := W.xc i hi9
  obtain ⟨t, T, q⟩ : ∃ t, PSs (((cxOf C8.CX0 P w K mg base NW "_law_word" (defScope lWord) g cdg A outer s00 H0 C8.E0).nox).suite a ((a, oe) :: pn)) suiteW t ∧ t D [some f, some lf, some (.ref a), none, none, none] H := by
    refine ⟨_, pss_cons
      (ps_set (i := 3) scW2.nd rfl (.inl rfl) (pe_lst (pa_cons (pe_callB (call_isD XC hz hf) (by rfl) W.isi (by decide +kernel) (pa_cons (pv 2) (pa_cons (pe_glob (v := .ref (c 0)) (by rfl) W.m0 rfl) pa_nil)))
        (pa_cons (pe_callB (call_isD XC hz hf) (by rfl) W.isi (by decide +kernel) (pa_cons (pv 2) (pa_cons (pe_glob (v := .ref (c 1)) (by rfl) W.m1 rfl) pa_nil)))
        (pa_cons (pe_callB (call_isD XC hz hf) (by rfl) W.isi (by decide +kernel) (pa_cons (pv 2) (pa_cons (pe_glob (v := .ref (c 2)) (by rfl) W.m2 rfl) pa_nil)))
        (pa_cons (pe_callB (call_isD XC hz hf) (by rfl) W.isi (by decide +kernel) (pa_cons (pv 2) (pa_cons (pe_glob (v := .ref (c 3)) (by rfl) W.m3 rfl) pa_nil))) pa_nil))))))
    (pss_cons (ps_set (i := 3) scW2.nd rfl (.inl rfl) (pe_op op_cat (pv 3) (pe_lst (pa_cons (pe_callB (call_isD XC hz hf) (by rfl) W.isi (by decide +kernel) (pa_cons (pv 2) (pa_cons (pe_glob (v := .ref (c 4)) (by rfl) W.m4 rfl) pa_nil)))
        (pa_cons (pe_callB (call_isD XC hz hf) (by rfl) W.isi (by decide +kernel) (pa_cons (pv 2) (pa_cons (pe_glob (v := .ref (c 5)) (by rfl) W.m5 rfl) pa_nil)))
        (pa_cons (pe_callB (call_isD XC hz hf) (by rfl) W.isi (by decide +kernel) (pa_cons (pv 2) (pa_cons (pe_glob (v := .ref (c 6)) (by rfl) W.m6 rfl) pa_nil)))
        (pa_cons (pe_callB (call_isD XC hz hf) (by rfl) W.isi (by decide +kernel) (pa_cons (pv 2) (pa_cons (pe_glob (v := .ref (c 7)) (by rfl) W.m7 rfl) pa_nil))) pa_nil)))))))
    (pss_cons (ps_expr (pe_bm PySem.F.plainAttrs_list PySem.F.slot_list_append PySem.F.type_list_append mt_append (pv 3) (pa_cons (pe_callB (call_isD XC hz hf) (by rfl) W.isi (by decide +kernel) (pa_cons (pv 2) (pa_cons (pe_glob (v := .ref (c 8)) (by rfl) W.m8 rfl) pa_nil))) pa_nil)))
    (pss_cons (ps_set (i := 4) scW2.nd rfl (.inl rfl) (pe_lst (pa_cons pe_str (pa_cons pe_str (pa_cons pe_str (pa_cons pe_str (pa_cons pe_str (pa_cons pe_str (pa_cons pe_str (pa_cons pe_str (pa_cons pe_str pa_nil)))))))))))
    (pss_cons (ps_if (PW.pt (pw_or (pt_cmpR op_ne (pe_bm PySem.F.plainAttrs_list PySem.F.slot_list_count PySem.F.type_list_count mt_lcountF (pv 3) (pa_cons pe_bl pa_nil)) pe_int (nomark _))
        (pw_or1 (pt_not (pt_val (pe_callB (call_isD XC hz hf) (by rfl) W.isi (by decide +kernel) (pa_cons (pv 2) (pa_cons (pe_bltn (v := .ty "ValueError") (by rfl) W.ve (by decide +kernel) rfl) pa_nil))))))))
        (pss_one ps_never) pss_nil)
    (pss_cons (ps_set (i := 5) scW2.nd rfl (.inl rfl) (pe_ix ix_list (pv 4) (pe_bm PySem.F.plainAttrs_list PySem.F.slot_list_index PySem.F.type_list_index mt_index (pv 3) (pa_cons pe_bl pa_nil)) (fun _ _ => rfl)))
    (pss_cons (ps_if (pt_cmpR op_eq (pv 5) pe_str (nomark _)) (pss_one ps_never) pss_nil)
    (pss_cons (ps_if (pt_cmpR op_eq (pv 5) pe_str (nomark _)) (pss_one ps_never) pss_nil)
    (pss_one (ps_ret (pe_ifExp (pt_cmpR op_in_seq (pv 5) (pe_tup (pa_cons pe_str (pa_cons pe_str (pa_cons pe_str pa_nil)))) (by rfl)) (pe_tup (pa_cons (pv 5) (pa_cons (pe_when (fun hn : numW i = true => pe_xf (W.xf i hi hn).1 (W.xf i hi hn).2 hz hf (pv 2))) pa_nil))) (pe_tup (pa_cons (pv 5) (pa_cons pe_non pa_nil))))))))))))), ?_⟩
    refine ⟨_, rfl, _, _, _, rfl, fun u h => h, W.kit i 0 hi9 (by decide), hdd, _, rfl, _, _, _, rfl, fun u h => h, W.kit i 1 hi9 (by decide), hdd, _, rfl, _, _, _, rfl, fun u h => h, W.kit i 2 hi9 (by decide), hdd, _, rfl, _, _, _, rfl, fun u h => h, W.kit i 3 hi9 (by decide), hdd, by show (4 : Nat) ≤ sizeLine; rw [sizeLine_eq]; decide, fun l1 n1 => ?_⟩
    have d1 := XD.upd (o := .lst [.bl (decide (i = 0)), .bl (decide (i = 1)), .bl (decide (i = 2)), .bl (decide (i = 3))]) hdd n1
    refine ⟨_, rfl, _, rfl, _, _, _, rfl, fun u h => h, W.kit i 4 hi9 (by decide), d1, _, rfl, _, _, _, rfl, fun u h => h, W.kit i 5 hi9 (by decide), d1, _, rfl, _, _, _, rfl, fun u h => h, W.kit i 6 hi9 (by decide), d1, _, rfl, _, _, _, rfl, fun u h => h, W.kit i 7 hi9 (by decide), d1, by show (4 : Nat) ≤ sizeLine; rw [sizeLine_eq]; decide, fun l2 n2 => ?_⟩
    have n21 : l1 ≠ l2 := fun z => by rw [← z, upd_same] at n2; cases n2
    refine ⟨l1, l2, _, _, rfl, rfl, by rw [upd_ne n21]; exact upd_same, upd_same, by show (4 : Nat) + 4 ≤ sizeLine; rw [sizeLine_eq]; decide, fun l3 n3 => ?_⟩
    have d2 := XD.upd (o := .lst [.bl (decide (i = 4)), .bl (decide (i = 5)), .bl (decide (i = 6)), .bl (decide (i = 7))]) d1 n2
    refine ⟨_, rfl, .inl ⟨rfl, _, SqL.of upd_same⟩, _, rfl, _, _, _, rfl, fun u h => h, W.kit i 8 hi9 (by decide), (XD.upd d2 n3), l3, _, _, rfl, rfl, upd_same, by show (8 : Nat) < sizeLine; rw [sizeLine_eq]; decide, ?_⟩
    refine ⟨by show (9 : Nat) ≤ sizeLine; rw [sizeLine_eq]; decide, fun l4 n4 => ?_⟩
    have n43 : l3 ≠ l4 := fun z => by rw [← z, upd_same] at n4; cases n4
    have n30 : H l3 = none := by
      cases e : H l3 with
      | none => rfl
      | some o => exact nomatch n3.symm.trans ((((Kept.refl (M := []) H).upd n1).upd n2) l3 o e (by simp))
    have K5 : Kept [] H (upd (upd (upd (upd (upd H l1 (.lst [.bl (decide (i = 0)), .bl (decide (i = 1)), .bl (decide (i = 2)), .bl (decide (i = 3))])) l2 (.lst [.bl (decide (i = 4)), .bl (decide (i = 5)), .bl (decide (i = 6)), .bl (decide (i = 7))])) l3 (.lst ([.bl (decide (i = 0)), .bl (decide (i = 1)), .bl (decide (i = 2)), .bl (decide (i = 3))] ++ [.bl (decide (i = 4)), .bl (decide (i = 5)), .bl (decide (i = 6)), .bl (decide (i = 7))]))) l3 (.lst ([.bl (decide (i = 0)), .bl (decide (i = 1)), .bl (decide (i = 2)), .bl (decide (i = 3))] ++ [.bl (decide (i = 4)), .bl (decide (i = 5)), .bl (decide (i = 6)), .bl (decide (i = 7))] ++ [.bl (decide (i = 8))]))) l4 (.lst [.str "row", .str "saying", .str "count", .str "steps", .str "norow", .str "nofollow", .str "deed", .str "halted", .str "text"])) := by
      refine Kept.upd (fun b o e hb => ?_) n4
      rw [upd_ne (ne_of_none e n30)]
      exact ((((Kept.refl (M := []) H).upd n1).upd n2).upd n3) b o e hb
    have e3 : SqL K (upd (upd (upd (upd (upd H l1 (.lst [.bl (decide (i = 0)), .bl (decide (i = 1)), .bl (decide (i = 2)), .bl (decide (i = 3))])) l2 (.lst [.bl (decide (i = 4)), .bl (decide (i = 5)), .bl (decide (i = 6)), .bl (decide (i = 7))])) l3 (.lst ([.bl (decide (i = 0)), .bl (decide (i = 1)), .bl (decide (i = 2)), .bl (decide (i = 3))] ++ [.bl (decide (i = 4)), .bl (decide (i = 5)), .bl (decide (i = 6)), .bl (decide (i = 7))]))) l3 (.lst ([.bl (decide (i = 0)), .bl (decide (i = 1)), .bl (decide (i = 2)), .bl (decide (i = 3))] ++ [.bl (decide (i = 4)), .bl (decide (i = 5)), .bl (decide (i = 6)), .bl (decide (i = 7))] ++ [.bl (decide (i = 8))]))) l4 (.lst [.str "row", .str "saying", .str "count", .str "steps", .str "norow", .str "nofollow", .str "deed", .str "halted", .str "text"])) l3 ([.bl (decide (i = 0)), .bl (decide (i = 1)), .bl (decide (i = 2)), .bl (decide (i = 3))] ++ [.bl (decide (i = 4)), .bl (decide (i = 5)), .bl (decide (i = 6)), .bl (decide (i = 7))] ++ [.bl (decide (i = 8))]) := SqL.of ((upd_ne n43).trans upd_same)
    have e4 : SqL K (upd (upd (upd (upd (upd H l1 (.lst [.bl (decide (i = 0)), .bl (decide (i = 1)), .bl (decide (i = 2)), .bl (decide (i = 3))])) l2 (.lst [.bl (decide (i = 4)), .bl (decide (i = 5)), .bl (decide (i = 6)), .bl (decide (i = 7))])) l3 (.lst ([.bl (decide (i = 0)), .bl (decide (i = 1)), .bl (decide (i = 2)), .bl (decide (i = 3))] ++ [.bl (decide (i = 4)), .bl (decide (i = 5)), .bl (decide (i = 6)), .bl (decide (i = 7))]))) l3 (.lst ([.bl (decide (i = 0)), .bl (decide (i = 1)), .bl (decide (i = 2)), .bl (decide (i = 3))] ++ [.bl (decide (i = 4)), .bl (decide (i = 5)), .bl (decide (i = 6)), .bl (decide (i = 7))] ++ [.bl (decide (i = 8))]))) l4 (.lst [.str "row", .str "saying", .str "count", .str "steps", .str "norow", .str "nofollow", .str "deed", .str "halted", .str "text"])) l4 [.str "row", .str "saying", .str "count", .str "steps", .str "norow", .str "nofollow", .str "deed", .str "halted", .str "text"] := SqL.of upd_same
    generalize upd (upd (upd (upd (upd H l1 (.lst [.bl (decide (i = 0)), .bl (decide (i = 1)), .bl (decide (i = 2)), .bl (decide (i = 3))])) l2 (.lst [.bl (decide (i = 4)), .bl (decide (i = 5)), .bl (decide (i = 6)), .bl (decide (i = 7))])) l3 (.lst ([.bl (decide (i = 0)), .bl (decide (i = 1)), .bl (decide (i = 2)), .bl (decide (i = 3))] ++ [.bl (decide (i = 4)), .bl (decide (i = 5)), .bl (decide (i = 6)), .bl (decide (i = 7))]))) l3 (.lst ([.bl (decide (i = 0)), .bl (decide (i = 1)), .bl (decide (i = 2)), .bl (decide (i = 3))] ++ [.bl (decide (i = 4)), .bl (decide (i = 5)), .bl (decide (i = 6)), .bl (decide (i = 7))] ++ [.bl (decide (i = 8))]))) l4 (.lst [.str "row", .str "saying", .str "count", .str "steps", .str "norow", .str "nofollow", .str "deed", .str "halted", .str "text"]) = H5 at K5 e3 e4 ⊢
    have d5 := XD.kept hdd K5
    have hi9 : i < 9 := by omega
    refine ⟨_, rfl, .inl ⟨rfl, _, e3⟩, l3, _, .bl true, rfl, rfl, e3, rfl, rfl, rfl, _, rfl, ?_⟩
    have c1 : List.countP (fun z => eqV z (.bl true)) (kindsG i) = 1 := kinds1 i hi9
    rw [c1]
    refine iteF ⟨_, rfl, _, _, _, rfl, fun u h => h, W.kitV i hi9, d5, _, rfl, iteF ?_⟩
    refine ⟨_, rfl, _, rfl, .inl ⟨rfl, _, e3⟩, l3, _, .bl true, i, .bl true, rfl, rfl, e3, rfl, rfl, kinds2 i hi9, rfl, (fun m z' hm hz => ?_), l4, _, i, .str (nameG i), rfl, rfl, e4, at_of rfl (names2 i hi9), ?_⟩
    · have q2 := kinds3 i hi9 m hm
      rw [hz] at q2
      simpa using q2
    refine ⟨_, rfl, rfl, _, rfl, ?_⟩
    rw [(names3 hi).1]
    refine iteF ⟨_, rfl, rfl, _, rfl, ?_⟩
    rw [(names3 hi).2]
    refine iteF ⟨_, rfl, by show (3 : Nat) ≤ sizeLine; rw [sizeLine_eq]; decide, fun p np => ?_⟩
    rcases he with ⟨hn, dd, j, rfl, hdd0, rfl⟩ | ⟨hn, rfl, rfl⟩
    · have d6 := K5 _ _ hdd0 (by simp)
      have hin : inV (.str (nameG i)) [V.str "row", V.str "steps", V.str "deed"] = true := (names4 i hi).trans hn
      refine ⟨p, _, rfl, .inr (SqT.of upd_same), rfl, rfl, _, rfl, ?_⟩
      rw [if_neg Bool.false_ne_true, hin]
      refine iteT ⟨_, rfl, hn, _, rfl, rfl, rfl, dd, _, .int j, rfl, (upd_ne (ne_of_none d6 np)).trans d6, rfl, by show (2 : Nat) ≤ sizeLine; rw [sizeLine_eq]; decide, fun p2 np2 => ?_⟩
      exact k _ p2 (K5.upd np) np2
    · have hin : inV (.str (nameG i)) [V.str "row", V.str "steps", V.str "deed"] = false := (names4 i hi).trans hn
      refine ⟨p, _, rfl, .inr (SqT.of upd_same), rfl, rfl, _, rfl, ?_⟩
      rw [if_neg Bool.false_ne_true, hin]
      refine iteF ⟨_, rfl, by show (2 : Nat) ≤ sizeLine; rw [sizeLine_eq]; decide, fun p2 np2 => ?_⟩
      exact k _ p2 (K5.upd np) np2
  exact T.run pins _ _ H D I q
end
end Ah
end
section
set_option Elab.async false
set_option linter.all false
set_option maxRecDepth 100000
set_option maxHeartbeats 2000000
namespace Ah
open PySem PySem.Spec PyProof.Rows L2
open GxR (TabB TabG Tabbed)
open GxG
/-! ### House.__init__, House.batch -/
def spHI (K : PySem.W.Frag) (T : List Addr) (C : Addr) : Sp := fun vs H Q _ => ∃ (x dx a : Addr) (rs : List V), vs = [.ref x, .ref a] ∧ H x = some (.ins C dx []) ∧ H a = some (.tup rs) ∧ rs.length ≤ 24 ∧ (∀ r ∈ rs, RowV K H r true) ∧ (∀ P ∈ T, TabG H P) ∧
  ∀ H' ak ev, (∀ b o, H b = some o → b ∉ T → b ≠ x → H' b = some o) → (∀ P ∈ T, TabG H' P) → H ak = none → H ev = none → HSt H' x dx C ak ev (.ref a) [] true → Q .non H'
theorem scHI2 : FnScope ["self", "rows"] ["self", "rows"] (defScope sHouseInit) := ⟨rfl, rfl, rfl, by decide +kernel, rfl, by decide +kernel, by decide +kernel⟩
theorem scHBa : FnScope ["self", "deeds", "keep", "ahead", "answers", "number", "deed"] ["self", "deeds", "keep"] (defScope sHouseBatch) := ⟨rfl, rfl, rfl, by decide +kernel, rfl, by decide +kernel, by decide +kernel⟩
def spBatch (K : PySem.W.Frag) (C Cb : Addr) : Sp := fun vs H Q E => ∃ (x dx ak ev : Addr) (rv : V) (evs : List Str) (b : Bool) (v kv : V), vs = [.ref x, v, kv] ∧ HSt H x dx C ak ev rv evs b ∧
  ((∀ Q' : VK, spChD K Cb [v] H Q' E) ∨ ∃ l : Addr, v = .ref l ∧ H l = some (.lst []) ∧ l ≠ ev ∧ evs.length < 99 ∧
    ∀ H' out, Kept [x, ev] H H' → H out = none → H' out = some (.lst []) → HSt H' x dx C ak ev rv (evs ++ [("begun" : Str), ("ended" : Str)]) true → Q (.ref out) H')
section
variable {P : Program} {w : World} {K : PySem.W.Frag} {mg : Str → Option Value} {base : Heap} {f fC fB fE C Cb : Addr} {fd fdC fdB fdE : FuncData} {T : List Addr}
theorem ok_hinit (F : MthP K "__init__" "House.__init__" sHouseInit f fd) (CH : ClsH K C) (gC : mg "check_text" = some (.ref fC)) (FC : FnOk P w K mg base CX0 6 fC fdC ["rows"] (spCheck0 K T)) (kC : PySem.W.keepIn K (.ref fC) = true) (bC : Binds K fdC ["rows"] []) :
    FnOk P w K mg base CX0 7 f fd ["self", "rows"] (spHI K T C) := by
  refine F.ok scHI2 (fun vs H Q E h => ?_) (fun cdv A outer s H vs Q E hr h => ?_)
  · obtain ⟨x, dx, a, rs, rfl, _⟩ := h
    rfl
  · obtain ⟨x, dx, a, rs, rfl, hx, ha, hl, hrs, ht, k⟩ := h
    refine ⟨_, PSs.nox (pss_cons (ps_expr (pe_call FC hr (by rfl) gC kC bC .nil pass0 (pa_cons (pv 1) pa_nil)))
      (pss_cons (ps_fld (pv 0) (pv 1) rfl) (pss_cons (ps_fld (pv 0) (pe_lst pa_nil) rfl) (pss_cons (ps_fld (pv 0) (pe_lst pa_nil) rfl) (pss_one (ps_fld (pv 0) pe_bl rfl)))))), ?_⟩
    refine ⟨_, rfl, a, rs, rfl, ha, hl, hrs, ht, fun H1 k1 => ?_⟩
    have x1 : H1 x = some (.ins C dx []) := k1.obj ht hx
    refine ⟨_, rfl, _, rfl, x, C, dx, _, rfl, x1, CH.c, CH.n1, by decide, ?_⟩
    refine ⟨by decide, fun ak nk => ?_⟩
    have nk1 : ak ≠ x := fun z => by rw [z, upd_same] at nk; cases nk
    rw [upd_ne nk1] at nk
    refine ⟨_, rfl, x, C, dx, _, rfl, by rw [upd_ne (Ne.symm nk1)]; exact upd_same, CH.c, CH.n2, by show (1 : Nat) < 1000; decide, ?_⟩
    refine ⟨by decide, fun ev ne => ?_⟩
    have ne1 : ev ≠ x := fun z => by rw [z, upd_same] at ne; cases ne
    rw [upd_ne ne1] at ne
    have ne2 : ev ≠ ak := fun z => by rw [z, upd_same] at ne; cases ne
    rw [upd_ne ne2, upd_ne ne1] at ne
    refine ⟨_, rfl, x, C, dx, _, rfl, by rw [upd_ne (Ne.symm ne1)]; exact upd_same, CH.c, CH.n3, by show (2 : Nat) < 1000; decide, ?_⟩
    refine ⟨_, rfl, x, C, dx, _, rfl, upd_same, CH.c, CH.n4, by show (3 : Nat) < 1000; decide, ?_⟩
    have old : ∀ b : Addr, b ≠ x → b ≠ ak → b ≠ ev → upd (upd (upd (upd (upd (upd H1 x (.ins C dx (putF "standing" (V.ref a) []))) ak (.lst [])) x (.ins C dx (putF "asked" (V.ref ak) (putF "standing" (V.ref a) [])))) ev (.lst [])) x (.ins C dx (putF "events" (V.ref ev) (putF "asked" (V.ref ak) (putF "standing" (V.ref a) []))))) x (.ins C dx (putF "idle" (V.bl true) (putF "events" (V.ref ev) (putF "asked" (V.ref ak) (putF "standing" (V.ref a) []))))) b = H1 b := fun b h1 h2 h3 => by
      rw [upd_ne h1, upd_ne h1, upd_ne h3, upd_ne h1, upd_ne h2, upd_ne h1]
    have none0 : ∀ {b : Addr}, H1 b = none → H b = none := fun {b} n => by
      cases e : H b with
      | none => rfl
      | some o =>
        by_cases hb : b ∈ T
        · obtain ⟨ps, e1, _⟩ := k1.tab b hb
          rw [e1] at n
          cases n
        · rw [k1.keep b o e hb] at n
          cases n
    refine k _ ak ev (fun b o e hb hbx => ?_) (fun P hP => ?_) (none0 nk) (none0 ne) ⟨?_, ?_, by simp⟩
    · have e1 := k1.keep b o e hb
      rw [old b hbx (ne_of_none e1 nk) (ne_of_none e1 ne)]
      exact e1
    · obtain ⟨ps, e1, e2⟩ := k1.tab P hP
      refine ⟨ps, ?_, e2⟩
      rw [old P (fun z => by rw [z, x1] at e1; cases e1) (ne_of_none e1 nk) (ne_of_none e1 ne)]
      exact e1
    · rw [upd_same]
      rfl
    · rw [upd_ne ne1, upd_ne ne1, upd_same]
      rfl
theorem ok_hbatch (F : FunD K "batch" "House.batch" (defArgs sHouseBatch) (defBody sHouseBatch) (defScope sHouseBatch) [] [("keep", .bl true)] f fd) (CH : ClsH K C) (W : TW K mg)
    (gC : mg "check_deeds" = some (.ref fC)) (FC : FnOk P w K mg base (L2.CX P w) 3 fC fdC ["deeds"] (spChD K Cb)) (kC : PySem.W.keepIn K (.ref fC) = true) (bC : Binds K fdC ["deeds"] [])
    (mB : Meth K C "begin" fB) (FB : FnOk P w K mg base CX0 1 fB fdB ["self"] (spHEv C "begun" false)) (bB : Binds K fdB ["self"] [])
    (mE : Meth K C "end" fE) (FE : FnOk P w K mg base CX0 1 fE fdE ["self"] (spHEv C "ended" true)) (bE : Binds K fdE ["self"] []) :
    FnOk P w K mg base (L2.CX P w) 4 f fd ["self", "deeds", "keep"] (spBatch K C Cb) := by
  refine F.ok scHBa (fun vs H Q E h => ?_) (fun cdv A outer s H vs Q E hr h => ?_)
  · obtain ⟨x, dx, ak, ev, rv, evs, b, v, kv, rfl, _⟩ := h
    rfl
  · obtain ⟨x, dx, ak, ev, rv, evs, b, v, kv, rfl, S, h⟩ := h
    refine ⟨_, pss_cons (ps_expr (pe_call FC hr (by rfl) gC kC bC .nil (passes_call (takes_of rfl rfl rfl rfl) (fun _ _ _ _ h => h)) (pa_cons (pv 1) pa_nil)))
      (pss_cons (ps_set (i := 3) scHBa.nd rfl (.inl rfl) (pe_fld (pv 0) rfl)) (pss_cons (ps_set (i := 4) scHBa.nd rfl (.inl rfl) (pe_lst pa_nil))
      (pss_cons (ps_expr (pe_meth0 (pv 0) CH.c mB FB (hr.mono (by decide)) bB .nil pass0))
      (pss_cons (ps_for (passes_of rfl) rfl (pi_enum (by rfl) W.enu (pa_cons (pv 1) pa_nil)) (pg_tup rfl (pgs_cons (pg_name (i := 5) scHBa.nd rfl (.inl rfl)) (pgs_cons (pg_name (i := 6) scHBa.nd rfl (.inl rfl)) pgs_nil)))
        (pss_one ps_never))
      (pss_cons (ps_expr (pe_meth0 (pv 0) CH.c mE FE (hr.mono (by decide)) bE .nil pass0)) (pss_one (ps_ret (pv 4)))))))), ?_⟩
    rcases h with h | ⟨l, rfl, hl, hle, hlen, k⟩
    · refine ⟨_, rfl, ?_⟩
      dsimp only
      unfold tNil
      dsimp only
      rw [List.append_nil]
      exact h _
    · refine ⟨_, rfl, _, rfl, .inr ⟨l, [], fun _ => true, rfl, hl, (fun x hx => nomatch hx), fun _ H1 k1 => ?_, fun j x e => by simp at e⟩⟩
      have K1 : Kept [] H H1 := fun b o e _ => k1.at e
      have S1 := S.kept K1
      refine ⟨_, rfl, x, C, dx, _, _, rfl, S1.ob, CH.c, CH.n1, rfl, ?_⟩
      refine ⟨by decide, fun out nout => ?_⟩
      have K2 : Kept [] H1 (upd H1 out (.lst [])) := (Kept.refl H1).upd nout
      have S2 := S1.kept K2
      refine ⟨_, rfl, x, dx, _, rfl, S2.ob, rfl, x, dx, ak, ev, rv, evs, b, rfl, S2, by omega, fun H3 k3 S3 => ?_⟩
      have nx : x ≠ out := ne_of_none S1.ob nout
      have ne : ev ≠ out := ne_of_none S1.ev nout
      have nlx : l ≠ x := fun z => by
        rw [z, S.ob] at hl
        cases hl
      have lo : l ≠ out := ne_of_none (K1 _ _ hl (by simp)) nout
      have hl3 : H3 l = some (.lst []) := k3 _ _ (K2 _ _ (K1 _ _ hl (by simp)) (by simp)) (by simp [nlx, hle])
      have ho3 : H3 out = some (.lst []) := k3 _ _ upd_same (by simp [Ne.symm nx, Ne.symm ne])
      refine ⟨_, rfl, l, [], rfl, SqL.of hl3, for_it (walk_enum (K := K) (a := l) (xs := [])) (fun i σ H' => σ = [some (.ref x), some (.ref l), some kv, some rv, some (.ref out), none, none] ∧ H' = H3) ⟨rfl, rfl⟩ (fun i σ H' _ pv => by rw [pv.2]; exact SqL.of hl3) (fun i y σ Ha Hb hi => absurd hi (Nat.not_lt_zero i)) ?_⟩
      rintro σ H' ⟨rfl, rfl⟩
      refine ⟨_, rfl, x, dx, _, rfl, S3.ob, rfl, x, dx, ak, ev, rv, _, _, rfl, S3, by simp; omega, fun H4 k4 S4 => ?_⟩
      refine ⟨_, rfl, ?_⟩
      refine k H4 out (fun b o e hb => ?_) ?_ (k4 _ _ ho3 (by simp [Ne.symm nx, Ne.symm ne])) ?_
      · exact k4 _ _ (k3 _ _ (K2 _ _ (K1 _ _ e (by simp)) (by simp)) hb) hb
      · cases e : H out with
        | none => rfl
        | some o =>
          rw [K1 _ _ e (by simp)] at nout
          cases nout
      · rw [List.append_assoc] at S4
        exact S4
end
end Ah
end
section
set_option Elab.async false
set_option linter.all false
set_option maxRecDepth 100000
set_option maxHeartbeats 2000000
namespace Ah
open PySem PySem.Spec PyProof.Rows L2
/-! ### a lambda with a default: its object bears the tuple of it -/
abbrev lamFd (q : Str) (params : Arguments) (body : Expr) (scope : Scope) (cl : List (Str × Addr)) (pm cdv ct dV : Value) : FuncData := { PySem.W.kla_fn "<lambda>" q params body scope cl pm cdv ct with defaults := dV }
abbrev lamOb (q : Str) (params : Arguments) (body : Expr) (scope : Scope) (cl : List (Str × Addr)) (pm cdv ct dV : Value) : Obj := { cls := .type "function", data := .func (lamFd q params body scope cl pm cdv ct dV) }
section
variable {M : Model} {A : Around} {E : Value → Shared → Prop} {s : Shared} {q : Str} {params : Arguments} {body : Expr} {scope : Scope} {env : Env} {c P : Addr} {ps : Array Value} {pos : Pos} {n : Nat} {mg : Str → Option Value} {clos : List (Str × Addr)} {Q : Value → Shared → Prop} {dV : Value}
/-- the closure's tuple, if there is one, is laid; the rest follows in any heap that keeps what was -/
theorem lamd_tail (hcl : closureFor scope env = pure clos)
    (h : ∀ ctv h', (∀ b o, s.heap.get? b = some o → h'.get? b = some o) → s.heap.objs.size ≤ h'.objs.size →
      wpAny M A (functionCode env pos n "<lambda>" q params scope (.expr body)) (fun cv s1 => wpAny M A (builtinsFor env.globals env.builtins) (fun bv s2 => wpAny M A (nsGet env.globals "__name__") (fun nv s3 =>
        Q (.ref s3.heap.objs.size) { s3 with heap := s3.heap.push { cls := .type "function", data := .func { name := "<lambda>", qualname := q, params := params, body := .expr body, scope := scope, globals := env.globals, closure := clos, closureTuple := ctv, code := cv, builtins := bv, defaults := dV, kwdefaults := .none, annotations := none, pyModule := nv.getD .none, doc := .none } } }) E s2) E s1) E { s with heap := h' }) :
    wpAny M A (makeTail "<lambda>" q params (.expr body) scope env dV .none none pos n) Q E s := by
  unfold makeTail
  rw [hcl]
  refine wpAny_bind (wpAny_pure ?_)
  cases clos with
  | nil =>
    simp only [List.isEmpty_nil, if_true]
    refine wpAny_bind (wpAny_pure (wpAny_bind (wpAny_mono (h .none s.heap (fun _ _ e => e) (Nat.le_refl _)) (fun cv s1 h1 => wpAny_bind (wpAny_mono h1 (fun bv s2 h2 => wpAny_bind (wpAny_mono h2 (fun nv s3 h3 => ?_) fun _ _ x => x)) fun _ _ x => x)) fun _ _ x => x)))
    exact wpAny_bind (wpAny_pure (wpAny_newObj_type h3 (by size_fits)))
  | cons p r =>
    simp only [List.isEmpty_cons, Bool.false_eq_true, if_false]
    refine wpAny_bind (wpAny_newTextTuple ?_)
    refine (wpAny_bind (wpAny_mono (h (.ref s.heap.objs.size) _ (fun b o e => Heap.get?_push_of_some _ e) (by rw [Heap.size_push]; omega)) (fun cv s1 h1 => wpAny_bind (wpAny_mono h1 (fun bv s2 h2 => wpAny_bind (wpAny_mono h2 (fun nv s3 h3 => ?_) fun _ _ x => x)) fun _ _ x => x)) fun _ _ x => x))
    exact wpAny_bind (wpAny_pure (wpAny_newObj_type h3 (by size_fits)))
end
section
variable {X : Cx} {pins : List (Addr × Obj)} {σ : L2.St} {H : Hp} {s : Shared}
open LamX in
theorem lam_makeD {T : List (Addr × Str)} {c P : Addr} {params : Arguments} {body : Expr} {scope : Scope} {pos p0 : Pos} {k : Int} {j : Nat} {E : Value → Shared → Prop} {Q : Value → Shared → Prop} (I : L2.Inv X pins σ H s) (TB : LamX.TabB X.base X.mg c P) (hcode : X.env.code = .ref c)
    (hm : (P, X.env.qual ++ "<lambda>") ∈ T) (hu : ∀ p ∈ T, p.1 = P → p.2 = X.env.qual ++ "<lambda>") (hT : LamX.Tabs T H) (hdef : defaultsOf params X.env = ([eval (.Constant (.int k) j p0) X.env], [])) (hfree : ∀ y ∈ scope.names, y.2 = .free → ∃ c, X.env.cells.lookup y.1 = some c)
    (h : ∀ (f t c' : Addr) (tk : Tok) (pm ctv : Value) (H1 : Hp) (s' : Shared), L2.Inv X pins σ H1 s' → LamX.ExtN H H1 → LamX.Tabs T H1 →
      s'.heap.get? f = some (lamOb (X.env.qual ++ "<lambda>") params body scope (cloFrom X.env.cells scope.names []) pm (.ref c') ctv (.ref t)) → s'.heap.get? t = some { cls := .type "tuple", data := .seq [Value.int k tk].toArray } →
      H1 f = none → H1 t = none → f ∉ frs X.stack → t ∉ frs X.stack → H1 c' = some (LamX.CodeO c' (X.env.qual ++ "<lambda>")) → Q (.ref f) s') :
    wpAny (model X.prog X.w) X.A (eval (.Lambda params body scope pos) X.env) Q E s := by
  obtain ⟨ps, hP, ht, ha⟩ := hT _ hm
  rw [arm_eval_Lambda, hdef]
  show wpAny _ _ (do let dv ← evalAll [eval (.Constant (.int k) j p0) X.env]; let kdv ← holding dv (evalAllOpt []); makeFunction "<lambda>" (X.env.qual ++ "<lambda>") params (.expr body) scope X.env dv kdv [] pos pos.line) Q E s
  refine wpAny_bind (wpAny_bind (wpAny_Constant_int (wpAny_bind (wpAny_holding (wpAny_pure (wpAny_pure ?_))))))
  refine wpAny_bind (wpAny_holding (wpAny_pure ?_))
  rw [makeFunction_eq]
  simp only [List.zip_nil_right, List.filterMap_nil, List.isEmpty_nil, List.isEmpty_cons, Bool.false_eq_true, if_false, if_true, pure_bind]
  refine wpAny_bind (wpAny_newTextTuple ?_)
  refine lamd_tail (closure_ok hfree) fun ctv h1 k1 l1 => ?_
  have k0 : ∀ b o, s.heap.get? b = some o → h1.get? b = some o := fun b o e => k1 b o (Heap.get?_push_of_some _ e)
  have e0 : h1.get? s.heap.objs.size = some { cls := .type "tuple", data := .seq [Value.int k s.toks].toArray } := k1 _ _ (Heap.get?_push_at rfl rfl)
  have l0 : s.heap.objs.size < h1.objs.size := by
    have z := l1
    dsimp only at z
    rw [Heap.size_push] at z
    exact z
  have bP : s.heap.BuiltinsAt X.mg P := TB.bm.keeps I.bk
  have hP' : s.heap.get? P = some { cls := .none, data := .fields ps } := I.hok P _ hP
  have nofr : ∀ f, s.heap.objs.size ≤ f → f ∉ frs X.stack := fun f hf z => by
    rcases List.mem_cons.mp (I.stkSub _ z) with e | e
    · have h1 := I.lt
      rw [← e] at h1
      exact Nat.lt_irrefl _ (Nat.lt_of_lt_of_le h1 hf)
    · exact I.nofs hf e
  have nt : H s.heap.objs.size = none := I.hok.fresh (Nat.le_refl _)
  have htP : s.heap.objs.size ≠ P := Nat.ne_of_gt (Heap.lt_size hP')
  obtain ⟨bm, ob, hbm, hne0, hneG, hneP, hbo, hcls, hdict, hdata⟩ := bP
  have hG := (I.mod.glob.keeps I.bk).keeps k0
  have hC := (TB.code.keeps I.bk).keeps k0
  rw [I.ok.glob]
  cases hc : codeAmong pos ps.toList with
  | none =>
    refine PySem.wpAny_functionCodeX hcode (hC.code (k0 _ _ hP') ht) (hC.tab (k0 _ _ hP')) hc fun c' h' tk hx hge hlt _ hrec htb _ => ?_
    obtain ⟨c2, oc, vs, t, e2, hoc, hd, hv⟩ := hrec
    cases e2
    have kx : ∀ b o, b ≠ P → s.heap.get? b = some o → h'.get? b = some o := fun b o hb e => hx b o hb (k0 b o e)
    have hG' := hG.extBut hx TB.gP
    refine wpAny_builtinsFor hG' hbm hne0 (kx _ _ hneP hbo) hcls hdict hdata ?_
    refine wpAny_nsGet hG' ?_
    have hsz : s.heap.objs.size ≤ h'.objs.size := Nat.le_of_lt (Nat.lt_of_lt_of_le l0 (Nat.le_trans hge (Nat.le_of_lt hlt)))
    have hcs : s.heap.objs.size ≤ c' := Nat.le_of_lt (Nat.lt_of_lt_of_le l0 hge)
    have nC : H c' = none := I.hok.fresh hcs
    have I1 := LamX.inv_table (q := X.env.qual ++ "<lambda>") (t' := tk) (more := #[rawInt pos.line, rawInt pos.col, .ref c']) (h' := h'.push (lamOb (X.env.qual ++ "<lambda>") params body scope (cloFrom X.env.cells scope.names []) ((X.mg "__name__").getD .none) (.ref c') ctv (.ref s.heap.objs.size))) I hP
      (fun b o hb e => Heap.get?_push_of_some _ (kx b o hb e)) (Heap.get?_push_of_some _ htb.2) hcs ⟨oc, vs, t, Heap.get?_push_of_some _ hoc, hd, hv⟩
    have hE : LamX.ExtN H (L2.upd (L2.upd H P (.tbl (ps ++ #[rawInt pos.line, rawInt pos.col, .ref c']))) c' (LamX.CodeO c' (X.env.qual ++ "<lambda>"))) := fun b o e n => by
      rw [upd_ne (ne_of_none e nC), upd_ne (fun z => n ps (Option.some.inj (e.symm.trans (by rw [z]; exact hP))))]
      exact e
    have eL : (ps ++ #[rawInt pos.line, rawInt pos.col, .ref c']).toList = ps.toList ++ [rawInt pos.line, rawInt pos.col, .ref c'] := by simp
    have htc : s.heap.objs.size ≠ c' := Nat.ne_of_lt (Nat.lt_of_lt_of_le l0 hge)
    have et : h'.get? s.heap.objs.size = some { cls := .type "tuple", data := .seq [Value.int k s.toks].toArray } := hx _ _ htP e0
    refine h h'.objs.size s.heap.objs.size c' s.toks ((X.mg "__name__").getD .none) ctv _ _ I1 hE (fun p hp => ?_) (Heap.get?_push_size _ rfl) (Heap.get?_push_of_some _ et) ?_ ?_ (nofr _ hsz) (nofr _ (Nat.le_refl _)) upd_same
    · by_cases hb : p.1 = P
      · rw [hu p hp hb, hb]
        refine ⟨_, by rw [upd_ne (ne_of_none hP nC), upd_same], by rw [eL]; exact PySem.TriplesOk_snoc _ _ _ _ ht, fun p' cv hcv => ?_⟩
        rw [eL] at hcv
        rcases LamX.among_app _ ht hcv with z | z
        · obtain ⟨c0, e1, e2⟩ := ha p' cv z
          exact ⟨c0, e1, hE _ _ e2 LamX.codeO_ne⟩
        · exact ⟨c', z, upd_same⟩
      · obtain ⟨ps', a1, a2, a3⟩ := hT p hp
        refine ⟨ps', by rw [upd_ne (ne_of_none a1 nC), upd_ne hb]; exact a1, a2, fun p' cv hcv => ?_⟩
        obtain ⟨c0, e1, e2⟩ := a3 p' cv hcv
        exact ⟨c0, e1, hE _ _ e2 LamX.codeO_ne⟩
    · have n1 : h'.objs.size ≠ c' := Nat.ne_of_gt hlt
      have n2 : h'.objs.size ≠ P := Nat.ne_of_gt (Nat.lt_of_lt_of_le (Heap.lt_size hP') hsz)
      rw [upd_ne n1, upd_ne n2]
      exact I.hok.fresh hsz
    · rw [upd_ne htc, upd_ne htP]
      exact nt
  | some cv =>
    obtain ⟨c', e, hco⟩ := ha pos cv hc
    subst e
    refine wpAny_functionCode_hit hcode (hC.code (k0 _ _ hP') ht) hc ?_
    refine wpAny_builtinsFor hG hbm hne0 (k0 _ _ hbo) hcls hdict hdata ?_
    refine wpAny_nsGet hG ?_
    have kk : ∀ o' b o, s.heap.get? b = some o → (h1.push o').get? b = some o := fun o' b o e => Heap.get?_push_of_some _ (k0 b o e)
    refine h h1.objs.size s.heap.objs.size c' s.toks ((X.mg "__name__").getD .none) ctv H _ (I.kept (kk _)) (LamX.ExtN.refl H) hT (Heap.get?_push_size _ rfl) (Heap.get?_push_of_some _ e0) (I.hok.fresh (Nat.le_of_lt l0)) nt (nofr _ (Nat.le_of_lt l0)) (nofr _ (Nat.le_refl _)) hco
end
end Ah
end
section
set_option Elab.async false
set_option linter.all false
set_option maxRecDepth 100000
set_option maxHeartbeats 2000000
namespace Ah
open PySem PySem.Spec PyProof.Rows L2 LamX
/-! ### such a lambda called, what it lets out wished for at the caller's slots -/
/-- its own names are none of the maker's slots -/
structure LamSD (N : List Str) (sc scope : Scope) : Prop where
  kind : scope.kind = .function
  co : scope.isCoroutine = false
  gen : scope.isGenerator = false
  own : ∀ y ∈ scope.names, y.2 ≠ .cell
  loc : ∀ y ∈ scope.names, y.2 = .local → y.1 ∉ N
  free : ∀ y ∈ scope.names, y.2 = .free → sc.names.lookup y.1 = some .cell ∨ sc.names.lookup y.1 = some .free
def lamSDB (N : List Str) (sc scope : Scope) : Bool :=
  decide (scope.kind = .function) && !scope.isCoroutine && !scope.isGenerator && scope.names.all fun y => !decide (y.2 = .cell) && (!decide (y.2 = .local) || !N.contains y.1) && (!decide (y.2 = .free) || decide (sc.names.lookup y.1 = some .cell) || decide (sc.names.lookup y.1 = some .free))
theorem lamSD_by {N : List Str} {sc scope : Scope} (h : lamSDB N sc scope = true) : LamSD N sc scope := by
  unfold lamSDB at h
  simp only [Bool.and_eq_true, Bool.or_eq_true, Bool.not_eq_true', decide_eq_true_eq, decide_eq_false_iff_not, List.all_eq_true] at h
  obtain ⟨⟨⟨h1, h2⟩, h3⟩, h4⟩ := h
  refine ⟨h1, h2, h3, fun y hy => (h4 y hy).1.1, fun y hy e hm => ?_, fun y hy e => ?_⟩
  · rcases (h4 y hy).1.2 with z | z
    · exact z e
    · rw [List.contains_iff_mem.mpr hm] at z
      cases z
  · rcases (h4 y hy).2 with (z | z) | z
    · exact absurd e z
    · exact .inl z
    · exact .inr z
theorem LamSD.has {X : Cx} {N : List Str} {scope : Scope} (L : LamSD N X.env.scope scope) (ok : X.Ok) : ∀ y ∈ scope.names, y.2 = .free → ∃ c, X.env.cells.lookup y.1 = some c := fun y hy e => by
  rcases L.free y hy e with k | k
  · exact ok.has _ (.inl k)
  · exact ok.has _ (.inr k)
section
variable {X : Cx} {pins : List (Addr × Obj)} {σ : L2.St} {H HZ : Hp} {s s1 : Shared}
theorem lam_startD {A : Around} {outer : List Env} {E : XK} {scope : Scope} {f c' : Addr} {h₁ : Heap} {tk : Nat} {m : Str → Option Value} (I : L2.Inv X pins σ H s) (L : LamSD X.N X.env.scope scope) (e0 : Env0 X.prog X.w X.K X.mg X.base A outer s1 HZ) (hd : A.handled = none)
    (un : Un (frs X.stack) [] H HZ s.heap s1.heap) (hns : h₁.Ns s1.heap.objs.size m) (kp : ∀ b o, s1.heap.get? b = some o → h₁.get? b = some o) :
    L2.Inv (lamCx X A outer s1 HZ E scope f c') [] σ HZ { s1 with heap := h₁, toks := tk } := by
  have hfree := L.has I.ok
  have cm : ∀ {y c}, (cloFrom X.env.cells scope.names []).lookup y = some c → X.env.cells.lookup y = some c := fun {y c} e => by
    rcases cloFrom_mem (PySem.mem_of_lookup e) with hm | ⟨h1, h2⟩
    · cases hm
    · obtain ⟨c1, hc⟩ := hfree _ h1 rfl
      have hc : X.env.cells.lookup y = some c1 := hc
      rw [hc] at h2
      rw [h2]
      exact hc
  have look : ∀ {y}, scope.names.lookup y = some .free → ∃ c, (cloFrom X.env.cells scope.names []).lookup y = some c := fun {y} hl =>
    mem_lookup (cloFrom_has (cells := X.env.cells) (acc := []) (PySem.mem_of_lookup hl))
  have cellK : ∀ {c : Addr} {v : Option Value}, H c = none → s.heap.IsCell c v → h₁.IsCell c v := fun {c v} n ⟨o, ho, hd⟩ => by
    obtain ⟨sl, q⟩ := un.any ho n (by simp)
    exact ⟨_, kp _ _ q, hd⟩
  have noA : ∀ b : Addr, b ∉ (lamCx X A outer s1 HZ E scope f c').ex := fun b z => absurd (show b ∈ ([] : List Addr) from z) (by simp)
  refine ⟨⟨e0.mod, L.kind, rfl, rfl, Nat.le_refl _, fun y z c e1 e2 => I.ok.inj y z c (cm e1) (cm e2), fun y hy => ?_, fun y c z _ => absurd (show false = true from z) Bool.false_ne_true, fun _ => hd, Around.frames_deeper e0.frames, .inr ⟨rfl, rfl⟩, fun b z => absurd z (noA b), e0.bs, e0.bsz, fun b _ _ => noA b,
      fun b z => absurd z (noA b), e0.funs, e0.frf⟩,
    rfl, e0.bare, Un.kept kp, ⟨_, hns, fun i y v e1 e2 e3 => ?_⟩, fun y c e => ?_, e0.hok.fresh (Nat.le_refl _), fun y c e => ?_, fun q hq => absurd (show q ∈ ([] : List (Addr × Obj)) ++ [] from hq) (by simp), e0.hok.kept kp, I.len⟩
  · have hy : scope.names.lookup y = some .cell ∨ scope.names.lookup y = some .free := hy
    rcases hy with hy | hy
    · exact absurd rfl (L.own _ (PySem.mem_of_lookup hy))
    · exact look hy
  · have e3 : Vis scope y := e3
    rcases e3 with k | k | k
    · exact absurd (List.mem_of_getElem? (show X.N[i]? = some y from e1)) (L.loc _ (PySem.mem_of_lookup k) rfl)
    · exact absurd rfl (L.own _ (PySem.mem_of_lookup k))
    · obtain ⟨m, hn, hl⟩ := I.loc
      have hvis : Vis X.env.scope y := (L.free _ (PySem.mem_of_lookup k) rfl).elim (fun k => .inr (.inl k)) (fun k => .inr (.inr k))
      obtain ⟨w', r, q⟩ := hl i y v e1 e2 hvis
      obtain ⟨c2, h2⟩ := look k
      refine ⟨w', r, .inr ⟨.inr k, c2, h2, ?_⟩⟩
      have c1 := cm h2
      rcases q with ⟨k', _⟩ | ⟨_, c3, e', z⟩
      · have k' : X.env.scope.names.lookup y = some .local := k'
        rcases L.free _ (PySem.mem_of_lookup k) rfl with k2 | k2 <;> rw [show X.env.scope.names.lookup y = _ from k2] at k' <;> cases k'
      · rw [c1] at e'
        cases e'
        exact cellK (I.freeC y _ c1) z
  · obtain ⟨w', z⟩ := I.cell y c (cm e)
    exact ⟨w', cellK (I.freeC y c (cm e)) z⟩
  · obtain ⟨v, o, ho, hd⟩ := I.cell y c (cm e)
    exact un.free c o ho (I.freeC y c (cm e)) (by simp)
/-- x(), in the def that got the lambda -/
theorem pe_actS {CXg : CXT} {Eg : XK} {Ng : List Str} {qg : Str} {sg : Scope} {g f c' : Addr} {cdg pm ctv dV : Value} {params : Arguments} {body : Expr} {scope : Scope} {k i : Nat} {a : Str} {pn : List (Addr × Obj)} {xe : Value → Shared → Prop} {W : WX} {E : XK} {tb : TE} {p1 p2 : Pos} {binds : List (Str × Value)} {σ0 : L2.St}
    (I : L2.Inv X pins σ H s) (L : LamSD X.N X.env.scope scope) (hf : s.heap.get? f = some (lamOb (X.env.qual ++ "<lambda>") params body scope (cloFrom X.env.cells scope.names []) pm (.ref c') ctv dV)) (hfn : H f = none) (hfr : f ∉ frs X.stack)
    (hbind : ∀ s1 : Shared, (∀ b o, s.heap.get? b = some o → H b = none → b ∉ frs X.stack → s1.heap.get? b = some o) → BindsTo s1 (lamFd (X.env.qual ++ "<lambda>") params body scope (cloFrom X.env.cells scope.names []) pm (.ref c') ctv dV) ⟨[], []⟩ binds) (hloc : ∀ y ∈ binds, scope.names.lookup y.1 = some .local)
    (tk : Takes ((cxOf CXg X.prog X.w X.K X.mg X.base Ng qg sg g cdg X.A X.stack s H Eg).tr pn xe) W) (hW : ∀ cls d H', E cls d H' → W cls d σ0 H') (hr : Room (k + 1) (X.A.deeper (envOfC qg sg s.heap.objs.size g cdg)))
    (hbody : ∀ (A : Around) (outer : List Env) (s : Shared) (H : Hp), Room k (A.deeper (lamEnv X scope s.heap.objs.size f c')) → PE (lamCx X A outer s H E scope f c') body tb)
    (hN : Ng[i]? = some a) (hv : Vis sg a) (hd : (a == ("__debug__" : Str)) = false) (hcd : (a == ("__classdict__" : Str)) = false) :
    PE ((cxOf CXg X.prog X.w X.K X.mg X.base Ng qg sg g cdg X.A X.stack s H Eg).tr pn xe) (.Call (.Name a p1) [] [] p2)
      (fun σZ HZ Q => σZ = σ0 ∧ σZ[i]? = some (some (.ref f)) ∧ HZ c' = some (CodeO c' (X.env.qual ++ "<lambda>")) ∧ tb σ HZ Q) := by
  refine ⟨fun pinsZ sZ σZ HZ Q IZ h => ?_⟩
  obtain ⟨e0, hs, hc, ht⟩ := h
  subst e0
  refine wpAny_Call_Name_kw (thn ((pe_var (pos := p1) (i := i) hN hv hd hcd).run pinsZ sZ σZ HZ (fun v H1 => v = .ref f ∧ H1 = HZ) IZ ⟨.ref f, hs, rfl, rfl⟩) fun u s1 ⟨v, H1, I1, r1, q1⟩ => ?_)
  obtain ⟨ev, eH⟩ := q1
  subst ev
  rw [eH] at I1
  obtain rfl : u = Value.ref f := r1
  have kb : ∀ b o, s.heap.get? b = some o → H b = none → b ∉ frs X.stack → s1.heap.get? b = some o := fun b o e n nf => I1.base.keep b o e n nf (fun z => nomatch (show b ∈ ([] : List Addr) from z))
  have of1 := kb f _ hf hfn hfr
  refine PySem.W.callWith_F0 ⟨_, _, _, _, of1⟩ ?_
  have un : Un (frs X.stack) [] H HZ s.heap s1.heap := I1.base
  obtain ⟨⟨oc, vs, t, hoc, hdc, hvc⟩, _, _⟩ := I1.hok c' _ hc
  have rc : codeAny (model X.prog X.w) (X.A.deeper (envOfC qg sg s.heap.objs.size g cdg)) (.call (.ref f) ⟨[], []⟩) (CR (L2.CX X.prog X.w) (envOfC qg sg s.heap.objs.size g cdg :: X.stack) X.prog X.w HZ s1 Q E) s1 := by
    refine PySem.W.kla_callFunE hr.depth of1 rfl L.co L.gen rfl ⟨c', oc, vs, t, rfl, hoc, hdc, hvc⟩ ?_
    refine hbind s1 kb _ _ _ _ (wpAny_newFunctionEnv L.own hloc (fun h₁ hns hsb => ⟨I1.nolimit.fresh _ hsb, ?_⟩) L.kind)
    show codeAny _ _ (.expr body (lamEnv X scope s1.heap.objs.size f c')) _ _
    have kp : ∀ b o, s1.heap.get? b = some o → h₁.get? b = some o := fun b o e => hsb.extBut b o (Nat.ne_of_lt (Heap.lt_size e)) (Heap.get?_push_of_some _ e)
    have J : L2.Inv (lamCx X (X.A.deeper (envOfC qg sg s.heap.objs.size g cdg)) (envOfC qg sg s.heap.objs.size g cdg :: X.stack) s1 HZ E scope f c') [] σ HZ { s1 with heap := h₁, toks := s1.toks + binds.length } :=
      lam_startD I L I1.env0 hr.hd un hns kp
    refine PySem.W.kla_codeExpr (wpAny_mono ((hbody _ _ s1 HZ (hr.deeper _)).run [] _ _ HZ Q J ht) (fun v s' hq => ?_) fun e s' hq => hq)
    obtain ⟨w', H', J', rv, q⟩ := hq
    exact ⟨w', H', J'.os, J'.bare, J'.base, J'.hok, rv, q⟩
  refine wpAny_call (codeAny_mono rc fun r s' hq => ?_)
  cases r with
  | error e => exact tk e s' (XE.of_call I1 (fun cls d H' h => hW cls d H' h) hq)
  | ok fl =>
    cases fl with
    | ret u => exact I1.after hq
    | next => exact False.elim hq
    | brk => exact False.elim hq
    | cont => exact False.elim hq
end
end Ah
end
section
set_option Elab.async false
set_option linter.all false
set_option maxRecDepth 100000
set_option maxHeartbeats 2000000
namespace Ah
open PySem PySem.Spec PyProof.Rows L2 LamX
/-! ### x(lambda: ..), x(lambda a=0: ..) -/
/-- how a lambda is made, whatever its defaults -/
def LamMk (X : Cx) (T : List (Addr × Str)) (params : Arguments) (body : Expr) (scope : Scope) (pos : Pos) : Prop :=
  ∀ (pins : List (Addr × Obj)) (σ : L2.St) (H : Hp) (s : Shared) (E : Value → Shared → Prop) (Q : Value → Shared → Prop), L2.Inv X pins σ H s → Tabs T H →
    (∀ (f c' : Addr) (pm ctv dV : Value) (H1 : Hp) (s' : Shared) (binds : List (Str × Value)), L2.Inv X pins σ H1 s' → ExtN H H1 → Tabs T H1 →
      s'.heap.get? f = some (lamOb (X.env.qual ++ "<lambda>") params body scope (cloFrom X.env.cells scope.names []) pm (.ref c') ctv dV) → H1 f = none → f ∉ frs X.stack → H1 c' = some (CodeO c' (X.env.qual ++ "<lambda>")) →
      (∀ s1 : Shared, (∀ b o, s'.heap.get? b = some o → H1 b = none → b ∉ frs X.stack → s1.heap.get? b = some o) → BindsTo s1 (lamFd (X.env.qual ++ "<lambda>") params body scope (cloFrom X.env.cells scope.names []) pm (.ref c') ctv dV) ⟨[], []⟩ binds) →
      (∀ y ∈ binds, scope.names.lookup y.1 = some .local) → Q (.ref f) s') →
    wpAny (model X.prog X.w) X.A (eval (.Lambda params body scope pos) X.env) Q E s
section
variable {X : Cx} {T : List (Addr × Str)} {c P : Addr} {params : Arguments} {body : Expr} {scope : Scope} {pos p0 : Pos} {k : Int} {j : Nat} {n : Str}
theorem lamMk0 (TB : TabB X.base X.mg c P) (hcode : X.env.code = .ref c) (hm : (P, X.env.qual ++ "<lambda>") ∈ T) (hu : ∀ p ∈ T, p.1 = P → p.2 = X.env.qual ++ "<lambda>") (L : LamSD X.N X.env.scope scope) (hdef : defaultsOf params X.env = ([], []))
    (hbind : ∀ (q : Str) (cl : List (Str × Addr)) (pm cv ctv : Value), bindArgs (PySem.W.kla_fn "<lambda>" q params body scope cl pm cv ctv) ⟨[], []⟩ = pure []) : LamMk X T params body scope pos := by
  intro pins σ H s E Q I hT h
  refine lam_make2 I TB hcode hm hu hT hdef (L.has I.ok) fun f c' pm ctv H1 s' I1 eN T1 hf hfn hfr hco => ?_
  exact h f c' pm ctv .none H1 s' [] I1 eN T1 hf hfn hfr hco (fun s1 _ => .of_eq (hbind _ _ _ _ _)) (fun y hy => nomatch hy)
theorem lamMkD (TB : TabB X.base X.mg c P) (hcode : X.env.code = .ref c) (hm : (P, X.env.qual ++ "<lambda>") ∈ T) (hu : ∀ p ∈ T, p.1 = P → p.2 = X.env.qual ++ "<lambda>") (L : LamSD X.N X.env.scope scope) (hdef : defaultsOf params X.env = ([eval (.Constant (.int k) j p0) X.env], []))
    (hbind : ∀ (q : Str) (cl : List (Str × Addr)) (pm cv ctv : Value) (t : Addr), ∃ kk : Option (Array Value) → Sem (List (Str × Value)), bindArgs (lamFd q params body scope cl pm cv ctv (.ref t)) ⟨[], []⟩ = seqItems? (.ref t) >>= kk ∧ ∀ v, kk (some [v].toArray) = pure [(n, v)])
    (hn : scope.names.lookup n = some .local) : LamMk X T params body scope pos := by
  intro pins σ H s E Q I hT h
  refine lam_makeD I TB hcode hm hu hT hdef (L.has I.ok) fun f t c' tk pm ctv H1 s' I1 eN T1 hf ht hfn htn hfr htr hco => ?_
  refine h f c' pm ctv (.ref t) H1 s' [(n, .int k tk)] I1 eN T1 hf hfn hfr hco (fun s1 kb => ?_) (fun y hy => ?_)
  · obtain ⟨kk, e1, e2⟩ := hbind (X.env.qual ++ "<lambda>") (cloFrom X.env.cells scope.names []) pm (.ref c') ctv t
    intro M A E Q q
    rw [e1]
    refine wpAny_bind (wpAny_seqItems (kb t _ ht htn htr) rfl ?_)
    rw [e2]
    exact wpAny_pure q
  · rw [List.mem_singleton.mp hy]
    exact hn
end
/-- the def that calls what it got; what is let out is wished for at its slots -/
def GivesS (X : Cx) (Ng : List Str) (x : Str) (sg : Scope) (g : Addr) (cdg : Value) (bg : List Stmt) (a : Str) (q : Str) (TT : (XK → Hp → VK → Prop) → Hp → VK → Prop) : Prop :=
  ∀ (f c' : Addr) (s : Shared) (H : Hp) (Q : VK) (tl : XK → Hp → VK → Prop),
    (∀ (W : WX) (pn : List (Addr × Obj)) (xe : Value → Shared → Prop) (E : XK) (p1 p2 : Pos) (σ0 : L2.St), Takes ((cxOf C8.CX0 X.prog X.w X.K X.mg X.base Ng x sg g cdg X.A X.stack s H C8.E0).tr pn xe) W → (∀ cls d H', E cls d H' → W cls d σ0 H') →
      PE ((cxOf C8.CX0 X.prog X.w X.K X.mg X.base Ng x sg g cdg X.A X.stack s H C8.E0).tr pn xe) (.Call (.Name a p1) [] [] p2) (fun σZ HZ Q => σZ = σ0 ∧ σZ[0]? = some (some (.ref f)) ∧ HZ c' = some (CodeO c' q) ∧ tl E HZ Q)) →
    H c' = some (CodeO c' q) → TT tl H Q →
    ∃ t, PSs (cxOf C8.CX0 X.prog X.w X.K X.mg X.base Ng x sg g cdg X.A X.stack s H C8.E0).nox bg t ∧ t { nx := fun _ H' => Q .non H', rt := Q } (L2.start Ng [.ref f]) H
section
variable {X : Cx}
theorem pe_lamS {T : List (Addr × Str)} {TT : (XK → Hp → VK → Prop) → Hp → VK → Prop} {x a : Str} {g : Addr} {k : Nat} {pg : Arguments} {bg : List Stmt} {sg : Scope} {dV kV doc pm cdv ct oc : Value} {an od : Option Addr} {osl : Array (Option Value)} {Ng : List Str}
    {params : Arguments} {body : Expr} {scope : Scope} {t : XK → TE} {p lpos pos : Pos} (hg : Gl X x) (hm : X.mg x = some (.ref g)) (hk : PySem.W.keepIn X.K (.ref g) = true)
    (lk : X.K.lookup g = some ⟨oc, od, .func (PySem.W.fnOf x x pg bg sg dV kV doc pm an cdv ct), osl⟩) (hcg : PySem.W.codeIn X.K cdv x = true) (hb : L2.Binds X.K (PySem.W.fnOf x x pg bg sg dV kV doc pm an cdv ct) [a] []) (Sg : FnScope Ng [a] sg) (hNg : Ng[0]? = some a) (hva : Vis sg a)
    (hG : GivesS X Ng x sg g cdv bg a (X.env.qual ++ "<lambda>") TT) (hr : Room (k + 2) X.A) (L : LamSD X.N X.env.scope scope) (mk : LamMk X T params body scope lpos)
    (hbody : ∀ (A : Around) (outer : List Env) (s : Shared) (H : Hp) (E : XK) (f c' : Addr), Room k (A.deeper (lamEnv X scope s.heap.objs.size f c')) → PE (lamCx X A outer s H E scope f c') body (t E))
    (hdb : (x == ("__debug__" : Str)) = false := by decide) (hd : (a == ("__debug__" : Str)) = false := by decide) (hcd : (a == ("__classdict__" : Str)) = false := by decide) :
    PE X (.Call (.Name x p) [.Lambda params body scope lpos] [] pos) (tLam T TT t) := by
  refine ⟨fun pins s σ H Q I h => ?_⟩
  obtain ⟨hT, h⟩ := h
  refine wpAny_Call_Name_kw (ld_glob I hg hm ?_ hdb)
  refine PySem.W.callWith_K (h₀ := X.base) I.ok.mod.kin hk ?_ (by rfl) (by rfl)
  show wpAny _ _ (spliced ((false, eval (.Lambda params body scope lpos) X.env) :: backTo pos (starEach [] X.env))) _ _ s
  refine Calls.spliced_cons (mk pins σ H s _ _ I hT fun f c' pm' ctv dV' H1 s' binds I1 eN T1 hf hfn hfr hco hbd hlc => ?_)
  refine Calls.spliced_nil ⟨I1.kIn, ?_⟩
  have rc : codeAny (model X.prog X.w) X.A (.call (.ref g) ⟨[.ref f], []⟩) (CR C8.CX0 X.stack X.prog X.w H1 s' Q C8.E0) s' := by
    refine run_ofS (N := Ng) (ps := [a]) (us := [.ref f]) (vs := [.ref f]) lk hcg Sg hr I1.env0 (hb s' [.ref f] I1.kIn rfl) (.cons rfl .nil) rfl fun hr' => ?_
    obtain ⟨t', ht', hq'⟩ := hG f c' s' H1 Q (fun E H' Q' => t E σ H' Q') (fun W pn xe E p1 p2 σ0 tk hW => pe_actS (i := 0) I1 L hf hfn hfr hbd hlc tk hW hr' (fun A outer s H hr2 => hbody A outer s H E f c' hr2) hNg hva hd hcd) hco (h H1 eN T1)
    exact ⟨t', ht'.nox, hq'⟩
  refine wpAny_call (codeAny_mono rc fun r s2 hq => ?_)
  cases r with
  | error e => exact (show False from hq).elim
  | ok fl =>
    cases fl with
    | ret u => exact I1.after hq
    | next => exact False.elim hq
    | brk => exact False.elim hq
    | cont => exact False.elim hq
end
end Ah
end
section
set_option Elab.async false
set_option linter.all false
set_option maxRecDepth 100000
set_option maxHeartbeats 2000000
/-! a list comprehension whose parts may look at the state that it starts from -/
namespace Ah
open PySem PySem.Spec PyProof.Rows L2
section
variable {X : Cx}
/-- .. the parts' readings are asked for only where the def's own state holds -/
theorem lcI_core {pins : List (Addr × Obj)} {sA : Shared} {σ : L2.St} {HA : Hp} {Q : VK} {el tgt itr : Expr} {fs : List Expr} {scp : Scope} {own : List (Str × Nat)} {pA pB : Pos} {rI : TI} {rG : TG} {rT : TT} {rE : TE} {use : Option (Value → Sem Unit)} {Qf : Value → Shared → Prop}
    (calm : X.calm = true) (nd : X.N.Nodup) (IA : L2.Inv X pins σ HA sA) (dI : PI X tgt itr rI) (bok : BlkOk X.N X.env.scope scp own)
    (dG : ∀ (u : Shared) (G : Hp) (C : Addr) (cl : List (Str × Addr)) (fp : List Addr), L2.Inv X pins σ G u → (∀ b ∈ fp, ∀ x c, X.env.cells.lookup x = some c → c ≠ b) → PG (X.blk u G scp (compEnvC scp cl C X.env) fp) tgt rG)
    (dT : ∀ (u : Shared) (G : Hp) (C : Addr) (cl : List (Str × Addr)) (fp : List Addr), L2.Inv X pins σ G u → (∀ b ∈ fp, ∀ x c, X.env.cells.lookup x = some c → c ≠ b) → PTs (X.blk u G scp (compEnvC scp cl C X.env) fp) fs rT)
    (dE : ∀ (u : Shared) (G : Hp) (C : Addr) (cl : List (Str × Addr)) (fp : List Addr), L2.Inv X pins σ G u → (∀ b ∈ fp, ∀ x c, X.env.cells.lookup x = some c → c ≠ b) → PE (X.blk u G scp (compEnvC scp cl C X.env) fp) el rE) (fold : ∀ x, foldedSetIterable itr X.env x = pure x)
    (rd : tLc rI rG rT rE (own.map (·.2)) σ HA Q)
    (back : ∀ D C u m G, L2.Inv X pins σ G u → Q (.ref D) G → u.heap.Ns C m → FpOk X pins G C → compPost (model X.prog X.w) X.A X.xe use Qf (.ref D) C (.ok .next) u) :
    wpAny (model X.prog X.w) X.A (comprehension (.ListComp el [⟨tgt, itr, fs, 0⟩] scp pA) scp X.env pB (newList []) false (eval itr X.env) use) Qf X.xe sA := by
  have hasC : ∀ z ∈ scp.names, z.2 = .free → ∃ k, X.env.cells.lookup z.1 = some k := fun z hz e => (bok.free z hz e).elim (fun q => IA.ok.has _ (.inl q)) (fun q => IA.ok.has _ (.inr q))
  refine wpAny_comprehension_free (use := use) rfl fold (closure_ok hasC) bok.kind (fun z hz e => (bok.uniq z hz).trans (congrArg some e))
    (thn (dI.run pins sA σ HA _ IA rd) fun v0 u1 r1 => thn r1 fun v1 u2 r2 => ?_)
  obtain ⟨ita, fp, tn, J, H2, ev, I2, T, at2, ok2, q⟩ := r2
  subst ev
  refine wpAny_newObj_type (newEnv_comp ?_) (by show 0 ≤ sizeLine; decide)
  generalize eD : u2.heap.objs.size = D
  have nD : H2 D = none := I2.hok.fresh (Nat.le_of_eq eD)
  obtain ⟨W, ⟨mm, ww⟩, step0⟩ := q D nD
  generalize eu3 : ({ u2 with heap := u2.heap.push { cls := .type "list", data := .seq ([] : List Value).toArray } } : Shared) = u3
  have hu3 : u3.heap = u2.heap.push { cls := .type "list", data := .seq ([] : List Value).toArray } := by rw [← eu3]
  have I3 : L2.Inv X pins σ (upd H2 D (.lst [])) u3 := by
    rw [← eu3]
    refine I2.laid (t' := u2.toks) (fun b o e => Heap.get?_push_of_some _ e) (Nat.le_of_eq eD) ⟨Nat.zero_le _, [], 0, .nil, ?_⟩
    rw [← eD]
    exact Heap.get?_push_size _ rfl
  have lts : ∀ b ∈ fp, b < u2.heap.objs.size := fun b hb => let ⟨_, e, _⟩ := T.obj _ _ at2 b hb; Heap.lt_size e
  have ok3 : ∀ b ∈ fp, FpOk X pins (upd H2 D (.lst [])) b ∧ b < u3.heap.objs.size := fun b hb => by
    have lt := lts b hb
    have nb : b ≠ D := by rw [← eD]; exact Nat.ne_of_lt lt
    exact ⟨⟨(upd_ne nb).trans (ok2 b hb).1, (ok2 b hb).2⟩, by rw [hu3, Heap.size_push]; exact Nat.lt_succ_of_lt lt⟩
  have at3 : tn 0 u3.heap := T.keep _ _ _ at2 fun b _ o e => by rw [hu3]; exact Heap.get?_push_of_some _ e
  have I4 := block_start I3 bok nd ok3
  have hfp3 : ∀ b ∈ fp, ∀ x c, X.env.cells.lookup x = some c → c ≠ b := fun b hb => (ok3 b hb).1.2.2.2.2.1
  have pg := dG u3 (upd H2 D (.lst [])) u3.heap.objs.size (cellsFrom (u3.heap.objs.size + 1) scp.names (cloFrom X.env.cells scp.names [])) fp I3 hfp3
  have pt := dT u3 (upd H2 D (.lst [])) u3.heap.objs.size (cellsFrom (u3.heap.objs.size + 1) scp.names (cloFrom X.env.cells scp.names [])) fp I3 hfp3
  have pe := dE u3 (upd H2 D (.lst [])) u3.heap.objs.size (cellsFrom (u3.heap.objs.size + 1) scp.names (cloFrom X.env.cells scp.names [])) fp I3 hfp3
  show codeAny _ _ (.compStart (.ListComp el [⟨tgt, itr, fs, 0⟩] scp pA) 0 (.ref ita) (.ref D) (compEnvC scp (cellsFrom (u3.heap.objs.size + 1) scp.names (cloFrom X.env.cells scp.names [])) u3.heap.objs.size X.env)) (compPost (model X.prog X.w) X.A X.xe use Qf (.ref D) u3.heap.objs.size) { u3 with heap := pushCells (u3.heap.push { cls := .type "dict", data := .dict #[] }) scp.names }
  have nfp : ∀ b ∈ fp, (upd H2 D (.lst [])) b = none := fun b hb => (ok3 b hb).1.1
  generalize ee : compEnvC scp (cellsFrom (u3.heap.objs.size + 1) scp.names (cloFrom X.env.cells scp.names [])) u3.heap.objs.size X.env = en at I4 pg pt pe ⊢
  have enL : en.locals = u3.heap.objs.size := by subst ee; rfl
  generalize eH3 : upd H2 D (.lst []) = H3 at I3 I4 pg pt pe ww nfp ok3
  generalize eu4 : ({ u3 with heap := pushCells (u3.heap.push { cls := .type "dict", data := .dict #[] }) scp.names } : Shared) = u4 at I4 ⊢
  have at4 : tn 0 u4.heap := T.keep _ _ _ at3 fun b _ o e => by rw [← eu4]; exact pushCells_keeps _ _ _ _ (Heap.get?_push_of_some _ e)
  have fpo : ∀ {τ : L2.St} {G : Hp} {u : Shared}, L2.Inv (X.blk u3 H3 scp en fp) [] τ G u → (∀ b ∈ fp, G b = none) → ∀ b ∈ fp, FpOk (X.blk u3 H3 scp en fp) [] G b := fun {τ G u} J' hn b hb =>
    ⟨hn b hb, (J'.ok.exf b hb).1, J'.ok.exfs b hb, .inl hb, fun x c e => (J'.ok.exf b hb).2 x c e, fun p hp => absurd (show p ∈ ([] : List (Addr × Obj)) ++ [] from hp) (by simp)⟩
  have run : codeAny (model X.prog X.w) X.A (.compLoop (.ListComp el [⟨tgt, itr, fs, 0⟩] scp pA) 0 (.ref ita) (.ref D) en) (compPost (model X.prog X.w) X.A X.xe use Qf (.ref D) u3.heap.objs.size) u4 := by
    refine compLoop_any (fun n u => ∃ i G, L2.Inv (X.blk u3 H3 scp en fp) [] (wipe σ (own.map (·.2))) G u ∧ tn i u.heap ∧ (∀ b ∈ fp, G b = none) ∧ W i n G) ?_ mm ⟨0, H3, I4, at4, nfp, ww⟩
    rintro n u5 ⟨i, H5, I5, at5, n5, w5⟩
    rcases step0 i n H5 w5 with ⟨halt, qq⟩ | ⟨more, Nx, hNx, st⟩
    · refine thnF (T.done (X.blk u3 H3 scp en fp) rfl rfl rfl calm i [] u5 _ H5 (fun _ _ => False) I5 (fpo I5 n5) at5 halt) fun r u6 ⟨er, I6⟩ => ?_
      subst er
      have nC : H5 u3.heap.objs.size = none := by
        have z : H5 en.locals = none := I6.free
        rwa [enL] at z
      have I7 : L2.Inv X pins σ H5 u6 := I3.call' (ch := fp) I6.os I6.base I6.hok I6.bare fun b hb => ⟨(ok3 b hb).1.2.2.2.1, (ok3 b hb).1.2.1, (ok3 b hb).1.2.2.2.2.1, (ok3 b hb).1.2.2.2.2.2⟩
      obtain ⟨m, hn, _⟩ := I6.loc
      have hn : u6.heap.Ns u3.heap.objs.size m := by
        have z : u6.heap.Ns en.locals m := hn
        rwa [enL] at z
      exact back D u3.heap.objs.size u6 m H5 I7 qq hn (I3.fpOk (Nat.le_refl _) nC)
    · refine thnF (T.item (X.blk u3 H3 scp en fp) rfl rfl rfl calm i [] u5 _ H5 (fun _ _ => False) I5 (fpo I5 n5) at5 more) fun r u6 ⟨x0, er, h6⟩ => ?_
      subst er
      refine thnF h6 fun _ u7 ⟨x, H7, I7, r7, y7, at7, n7⟩ => ?_
      refine thnF (pg.run _ u7 _ H7 x x0 _ (I7.pinned (fpo I7 n7) (T.obj _ _ at7)) r7 (st x H7 y7)) fun _ u8 ⟨σ8, H8, I8, e8, q8⟩ => ?_
      refine thnF (pt.run _ u8 σ8 H8 _ I8 q8) fun b u9 ⟨H9, I9, q9⟩ => ?_
      have fin : ∀ {u : Shared} {G : Hp}, L2.Inv (X.blk u3 H3 scp en fp) ([] ++ pinsAt fp u7.heap) σ8 G u → Nx G → ∃ m, m < n ∧ ∃ i G, L2.Inv (X.blk u3 H3 scp en fp) [] (wipe σ (own.map (·.2))) G u ∧ tn i u.heap ∧ (∀ b ∈ fp, G b = none) ∧ W i m G := fun {u G} J' nx => by
        obtain ⟨m2, lt2, w2⟩ := hNx G nx
        have pinned : ∀ b ∈ fp, ∀ o, u7.heap.get? b = some o → u.heap.get? b = some o ∧ G b = none := fun b hb o e =>
          let z := J'.pin (b, o) (List.mem_append_right _ (List.mem_append_right _ (mem_pinsAt hb e)))
          ⟨z.1, z.2.1⟩
        have same : (wipe σ (own.map (·.2))).length = σ8.length := by rw [← e8, wipe_length]
        refine ⟨m2, lt2, i + 1, G, (J'.unpinned (pins := [])).weak same (fun j v e => ?_), T.keep _ _ _ at7 fun b hb o e => (pinned b hb o e).1, fun b hb => ?_, w2⟩
        · rw [← e8] at e
          exact (wipe_some e).1
        · obtain ⟨o, e, _⟩ := T.obj _ _ at7 b hb
          exact (pinned b hb o e).2
      cases b with
      | false =>
        simp only [Bool.false_eq_true, if_false] at q9 ⊢
        exact fin I9 q9
      | true =>
        simp only [if_true] at q9 ⊢
        refine thnF (pe.run _ u9 σ8 H9 _ I9 q9) fun z u10 ⟨yv, H10, I10, r10, acc, hacc, lacc, nx⟩ => ?_
        exact app_ok (X := X.blk u3 H3 scp en fp) I10 hacc lacc r10 fun u11 I11 => fin I11 nx
  exact codeAny_compStart_list run (T.self X.A 0 _ _ _ at4 run)
theorem pe_lcI {el tgt itr : Expr} {fs : List Expr} {scp : Scope} {own : List (Str × Nat)} {pA : Pos} {rI : TI} {rG : TG} {rT : L2.St → TT} {rE : L2.St → TE} (calm : X.calm = true) (nd : X.N.Nodup) (dI : PI X tgt itr rI) (bok : BlkOk X.N X.env.scope scp own)
    (dG : ∀ (pins : List (Addr × Obj)) (σ : L2.St) (u : Shared) (G : Hp) (C : Addr) (cl : List (Str × Addr)) (fp : List Addr), L2.Inv X pins σ G u → (∀ b ∈ fp, ∀ x c, X.env.cells.lookup x = some c → c ≠ b) → PG (X.blk u G scp (compEnvC scp cl C X.env) fp) tgt rG)
    (dT : ∀ (pins : List (Addr × Obj)) (σ : L2.St) (u : Shared) (G : Hp) (C : Addr) (cl : List (Str × Addr)) (fp : List Addr), L2.Inv X pins σ G u → (∀ b ∈ fp, ∀ x c, X.env.cells.lookup x = some c → c ≠ b) → PTs (X.blk u G scp (compEnvC scp cl C X.env) fp) fs (rT σ))
    (dE : ∀ (pins : List (Addr × Obj)) (σ : L2.St) (u : Shared) (G : Hp) (C : Addr) (cl : List (Str × Addr)) (fp : List Addr), L2.Inv X pins σ G u → (∀ b ∈ fp, ∀ x c, X.env.cells.lookup x = some c → c ≠ b) → PE (X.blk u G scp (compEnvC scp cl C X.env) fp) el (rE σ)) (fold : ∀ x, foldedSetIterable itr X.env x = pure x := by intro _; rfl) :
    PE X (.ListComp el [⟨tgt, itr, fs, 0⟩] scp pA) (fun σ H Q => tLc rI rG (rT σ) (rE σ) (own.map (·.2)) σ H Q) := by
  refine ⟨fun pins s σ H Q I h => ?_⟩
  rw [eval_ListComp]
  refine lcI_core calm nd I dI bok (dG pins σ) (dT pins σ) (dE pins σ) fold h fun D C u m G J q hn f => ⟨m, hn, fun h'' sb => ?_⟩
  obtain ⟨_, f1, f2, f3, f4, f5⟩ := f
  exact ⟨.ref D, G, J.turned (t' := u.toks) (fun b o hb e => (sb.2 b hb).trans e) (by assumption) f1 f3 f4 f5, rfl, q⟩
end
end Ah
end
section
set_option Elab.async false
set_option linter.all false
set_option maxRecDepth 100000
set_option maxHeartbeats 2000000
/-! a lambda that is kept: its object tracked -/
namespace Ah
open PySem PySem.Spec PyProof.Rows L2 LamX
section
variable {X : Cx} {pins : List (Addr × Obj)} {σ : L2.St} {H H1 : Hp} {s s1 : Shared}
/-- an object that came behind s is tracked from now on -/
theorem inv_track {a : Addr} {o : HO} (I : L2.Inv X pins σ H s) (J : L2.Inv X pins σ H1 s1) (ha : s.heap.objs.size ≤ a) (hn : H1 a = none) (new : ObjOk X.prog X.w (upd H1 a o) s1.heap a o) : L2.Inv X pins σ (upd H1 a o) s1 := by
  have lt : ∀ {b : Addr} {u : Obj}, s.heap.get? b = some u → b ≠ a := fun {b u} e z => by
    rw [z] at e
    exact absurd (Nat.lt_of_lt_of_le (Heap.lt_size e) ha) (Nat.lt_irrefl _)
  have lt0 : ∀ {b : Addr} {u : Obj}, X.s_0.heap.get? b = some u → b ≠ a := fun {b u} e z => by
    rw [z] at e
    exact absurd (Nat.lt_of_lt_of_le (Nat.lt_of_lt_of_le (Heap.lt_size e) I.sz) ha) (Nat.lt_irrefl _)
  refine ⟨J.ok, J.os, J.bare, ⟨J.base.keep, J.base.slot, fun b u e n x => ?_, J.base.there, fun b xs e => ?_, fun b u v e => ?_, fun b ps e => ?_⟩, J.loc, J.cell, ?_, fun x c e => ?_, fun p hp => ?_, fun b u e => ?_, J.len⟩
  · rw [upd_ne (lt0 e)]
    exact J.base.free b u e n x
  · have q := J.base.tups b xs e
    rw [upd_ne (ne_of_none q hn)]
    exact q
  · have q := J.base.frzs b u v e
    rw [upd_ne (ne_of_none q hn)]
    exact q
  · obtain ⟨more, q⟩ := J.base.tbls b ps e
    exact ⟨more, by rw [upd_ne (ne_of_none q hn)]; exact q⟩
  · rw [upd_ne (Nat.ne_of_lt (Nat.lt_of_lt_of_le I.lt ha))]
    exact J.free
  · obtain ⟨v, q⟩ := I.cell x c e
    obtain ⟨o', ho, _⟩ := q
    rw [upd_ne (lt ho)]
    exact J.freeC x c e
  · obtain ⟨q1, q2, q3⟩ := J.pin p hp
    refine ⟨q1, ?_, q3⟩
    rw [upd_ne (lt (I.pin p hp).1)]
    exact q2
  · by_cases hb : b = a
    · rw [hb, upd_same] at e
      cases e
      rw [hb]
      exact new
    · rw [upd_ne hb] at e
      exact (J.hok b u e).stay (fun _ _ _ q => q) (fun c q => by rw [upd_ne (ne_of_none q hn)]; exact q) fun c xs q => by rw [upd_ne (ne_of_none q hn)]; exact q
end
def dvV : Option Addr → Value
  | none => .none
  | some t => .ref t
def LamO (q : Str) (params : Arguments) (body : Expr) (scope : Scope) (clo : List (Str × Addr)) (f c' : Addr) (dv : Option Addr) : HO := .ext fun h => ∃ pm ctv, h.get? f = some (lamOb q params body scope clo pm (.ref c') ctv (dvV dv))
/-- the lambda at f; tup: whether it bears a default -/
def LamAt (H : Hp) (q : Str) (params : Arguments) (body : Expr) (scope : Scope) (clo : List (Str × Addr)) (tup : Bool) (f : Addr) : Prop :=
  ∃ (c' : Addr) (dv : Option Addr), H f = some (LamO q params body scope clo f c' dv) ∧ H c' = some (CodeO c' q) ∧ tup = dv.isSome ∧ ∀ t, dv = some t → ∃ k, H t = some (.tup [.int k])
theorem lamO_ne {q : Str} {params : Arguments} {body : Expr} {scope : Scope} {clo : List (Str × Addr)} {f c' : Addr} {dv : Option Addr} (ps : Array Value) : LamO q params body scope clo f c' dv ≠ .tbl ps := fun z => by
  unfold LamO at z
  cases z
theorem LamAt.keep {H H' : Hp} {q : Str} {params : Arguments} {body : Expr} {scope : Scope} {clo : List (Str × Addr)} {tup : Bool} {f : Addr} (h : LamAt H q params body scope clo tup f) (k : ∀ b o, H b = some o → (∀ ps, o ≠ .tbl ps) → (∀ xs, o ≠ .lst xs) → H' b = some o) : LamAt H' q params body scope clo tup f := by
  obtain ⟨c', dv, h1, h2, h3, h4⟩ := h
  refine ⟨c', dv, k _ _ h1 lamO_ne (fun xs z => by unfold LamO at z; cases z), k _ _ h2 codeO_ne (fun xs z => by unfold CodeO at z; cases z), h3, fun t e => ?_⟩
  obtain ⟨kk, e2⟩ := h4 t e
  exact ⟨kk, k _ _ e2 (fun _ z => nomatch z) (fun _ z => nomatch z)⟩
section
variable {X : Cx} {pins : List (Addr × Obj)} {σ : L2.St} {H : Hp} {s : Shared}
/-- behind the default: the function itself -/
theorem lam_core {T : List (Addr × Str)} {c P : Addr} {params : Arguments} {body : Expr} {scope : Scope} {pos : Pos} {n : Nat} {E : Value → Shared → Prop} {Q : Value → Shared → Prop} {dv : Option Addr} (I : L2.Inv X pins σ H s) (TB : LamX.TabB X.base X.mg c P) (hcode : X.env.code = .ref c)
    (hm : (P, X.env.qual ++ "<lambda>") ∈ T) (hu : ∀ p ∈ T, p.1 = P → p.2 = X.env.qual ++ "<lambda>") (hT : LamX.Tabs T H) (hfree : ∀ y ∈ scope.names, y.2 = .free → ∃ c, X.env.cells.lookup y.1 = some c)
    (h : ∀ (f c' : Addr) (H1 : Hp) (s' : Shared), L2.Inv X pins σ H1 s' → (∀ b o, H b = some o → b ≠ P → H1 b = some o) → LamX.Tabs T H1 → H f = none → H1 f = some (LamO (X.env.qual ++ "<lambda>") params body scope (cloFrom X.env.cells scope.names []) f c' dv) → H1 c' = some (LamX.CodeO c' (X.env.qual ++ "<lambda>")) → Q (.ref f) s') :
    wpAny (model X.prog X.w) X.A (makeTail "<lambda>" (X.env.qual ++ "<lambda>") params (.expr body) scope X.env (dvV dv) .none none pos n) Q E s := by
  obtain ⟨ps, hP, ht, ha⟩ := hT _ hm
  refine lamd_tail (closure_ok hfree) fun ctv h1 k1 l1 => ?_
  have bP : s.heap.BuiltinsAt X.mg P := TB.bm.keeps I.bk
  have hP' : s.heap.get? P = some { cls := .none, data := .fields ps } := I.hok P _ hP
  obtain ⟨bm, ob, hbm, hne0, hneG, hneP, hbo, hcls, hdict, hdata⟩ := bP
  have hG := (I.mod.glob.keeps I.bk).keeps k1
  have hC := (TB.code.keeps I.bk).keeps k1
  rw [I.ok.glob]
  have fin : ∀ {c' : Addr} {H2 : Hp} {h2 : Heap} {tk : Nat} {pm : Value}, L2.Inv X pins σ H2 { s with heap := h2, toks := tk } → s.heap.objs.size ≤ h2.objs.size → H2 c' = some (LamX.CodeO c' (X.env.qual ++ "<lambda>")) → (∀ b o, H b = some o → b ≠ P → H2 b = some o) → LamX.Tabs T H2 →
      Q (.ref h2.objs.size) { s with heap := h2.push (lamOb (X.env.qual ++ "<lambda>") params body scope (cloFrom X.env.cells scope.names []) pm (.ref c') ctv (dvV dv)), toks := tk } := fun {c' H2 h2 tk pm} J hs hco hE hTb => by
    have nf : H2 h2.objs.size = none := J.hok.fresh (Nat.le_refl _)
    have new : ObjOk X.prog X.w (upd H2 h2.objs.size (LamO (X.env.qual ++ "<lambda>") params body scope (cloFrom X.env.cells scope.names []) h2.objs.size c' dv)) (h2.push (lamOb (X.env.qual ++ "<lambda>") params body scope (cloFrom X.env.cells scope.names []) pm (.ref c') ctv (dvV dv))) h2.objs.size
        (LamO (X.env.qual ++ "<lambda>") params body scope (cloFrom X.env.cells scope.names []) h2.objs.size c' dv) := ⟨⟨pm, ctv, Heap.get?_push_size _ rfl⟩, ⟨_, Heap.get?_push_size _ rfl⟩, fun g1 g2 ⟨p1, p2, e⟩ k => ⟨p1, p2, k _ e⟩⟩
    have J2 := J.laid (h' := h2.push (lamOb (X.env.qual ++ "<lambda>") params body scope (cloFrom X.env.cells scope.names []) pm (.ref c') ctv (dvV dv))) (t' := tk) (fun b o e => Heap.get?_push_of_some _ e) (Nat.le_refl _) new
    refine h h2.objs.size c' _ _ J2 (fun b o e n => by rw [upd_ne (ne_of_none (hE b o e n) nf)]; exact hE b o e n) (hTb.ext fun b o e => by rw [upd_ne (ne_of_none e nf)]; exact e) (I.hok.fresh hs) upd_same ?_
    rw [upd_ne (ne_of_none hco nf)]
    exact hco
  cases hc : codeAmong pos ps.toList with
  | none =>
    refine PySem.wpAny_functionCodeX hcode (hC.code (k1 _ _ hP') ht) (hC.tab (k1 _ _ hP')) hc fun c' h' tk hx hge hlt _ hrec htb _ => ?_
    obtain ⟨c2, oc, vs, t, e2, hoc, hd, hv⟩ := hrec
    cases e2
    have kx : ∀ b o, b ≠ P → s.heap.get? b = some o → h'.get? b = some o := fun b o hb e => hx b o hb (k1 b o e)
    have hG' := hG.extBut hx TB.gP
    refine wpAny_builtinsFor hG' hbm hne0 (kx _ _ hneP hbo) hcls hdict hdata ?_
    refine wpAny_nsGet hG' ?_
    have l1 : s.heap.objs.size ≤ h1.objs.size := l1
    have hcs : s.heap.objs.size ≤ c' := Nat.le_trans l1 hge
    have hsz : s.heap.objs.size ≤ h'.objs.size := Nat.le_of_lt (Nat.lt_of_le_of_lt hcs hlt)
    have nC : H c' = none := I.hok.fresh hcs
    have I1 := LamX.inv_table (q := X.env.qual ++ "<lambda>") (t' := tk) (more := #[rawInt pos.line, rawInt pos.col, .ref c']) (h' := h') I hP kx htb.2 hcs ⟨oc, vs, t, hoc, hd, hv⟩
    have hE : LamX.ExtN H (L2.upd (L2.upd H P (.tbl (ps ++ #[rawInt pos.line, rawInt pos.col, .ref c']))) c' (LamX.CodeO c' (X.env.qual ++ "<lambda>"))) := fun b o e n => by
      rw [upd_ne (ne_of_none e nC), upd_ne (fun z => n ps (Option.some.inj (e.symm.trans (by rw [z]; exact hP))))]
      exact e
    have eL : (ps ++ #[rawInt pos.line, rawInt pos.col, .ref c']).toList = ps.toList ++ [rawInt pos.line, rawInt pos.col, .ref c'] := by simp
    refine fin I1 hsz upd_same (fun b o e n => by rw [upd_ne (ne_of_none e nC), upd_ne n]; exact e) (fun p hp => ?_)
    by_cases hb : p.1 = P
    · rw [hu p hp hb, hb]
      refine ⟨_, by rw [upd_ne (ne_of_none hP nC), upd_same], by rw [eL]; exact PySem.TriplesOk_snoc _ _ _ _ ht, fun p' cv hcv => ?_⟩
      rw [eL] at hcv
      rcases LamX.among_app _ ht hcv with z | z
      · obtain ⟨c0, e1, e2⟩ := ha p' cv z
        exact ⟨c0, e1, hE _ _ e2 LamX.codeO_ne⟩
      · exact ⟨c', z, upd_same⟩
    · obtain ⟨ps', a1, a2, a3⟩ := hT p hp
      refine ⟨ps', by rw [upd_ne (ne_of_none a1 nC), upd_ne hb]; exact a1, a2, fun p' cv hcv => ?_⟩
      obtain ⟨c0, e1, e2⟩ := a3 p' cv hcv
      exact ⟨c0, e1, hE _ _ e2 LamX.codeO_ne⟩
  | some cv =>
    obtain ⟨c', e, hco⟩ := ha pos cv hc
    subst e
    refine wpAny_functionCode_hit hcode (hC.code (k1 _ _ hP') ht) hc ?_
    refine wpAny_builtinsFor hG hbm hne0 (k1 _ _ hbo) hcls hdict hdata ?_
    refine wpAny_nsGet hG ?_
    exact fin (I.kept (h' := h1) (t' := s.toks) k1) l1 hco (fun _ _ e _ => e) hT
/-- what a kept lambda's making asks -/
def tLamK (P : Addr) (q : Str) (params : Arguments) (body : Expr) (scope : Scope) (cells : List (Str × Addr)) (tup : Bool) : TE := fun _ H Q => TabS H P q ∧ ∀ (H1 : Hp) (f : Addr), (∀ b o, H b = some o → b ≠ P → H1 b = some o) → TabS H1 P q → H f = none → LamAt H1 q params body scope (cloFrom cells scope.names []) tup f → Q (.ref f) H1
theorem pe_lamK0 {c P : Addr} {params : Arguments} {body : Expr} {scope : Scope} {pos : Pos} (TB : LamX.TabB X.base X.mg c P) (hcode : X.env.code = .ref c) 
    (hcell : ∀ y ∈ scope.names, y.2 = .free → X.env.scope.names.lookup y.1 = some .cell ∨ X.env.scope.names.lookup y.1 = some .free) (hdef : defaultsOf params X.env = ([], [])) : PE X (.Lambda params body scope pos) (tLamK P (X.env.qual ++ "<lambda>") params body scope X.env.cells false) := by
  refine ⟨fun pins s σ H Q I h => ?_⟩
  obtain ⟨hT0, h⟩ := h
  have hT : LamX.Tabs [(P, X.env.qual ++ "<lambda>")] H := fun p hp => by
    rw [List.mem_singleton.mp hp]
    exact hT0
  have hm : (P, X.env.qual ++ "<lambda>") ∈ [(P, X.env.qual ++ "<lambda>")] := List.mem_singleton.mpr rfl
  have hu : ∀ p ∈ [(P, X.env.qual ++ "<lambda>")], p.1 = P → p.2 = X.env.qual ++ "<lambda>" := fun p hp _ => by rw [List.mem_singleton.mp hp]
  have hfree : ∀ y ∈ scope.names, y.2 = .free → ∃ c, X.env.cells.lookup y.1 = some c := fun y hy e => (hcell y hy e).elim (fun k => I.ok.has _ (.inl k)) (fun k => I.ok.has _ (.inr k))
  rw [arm_eval_Lambda, hdef]
  show wpAny _ _ (do let dv ← evalAll []; let kdv ← holding dv (evalAllOpt []); makeFunction "<lambda>" (X.env.qual ++ "<lambda>") params (.expr body) scope X.env dv kdv [] pos pos.line) _ _ s
  refine wpAny_bind (wpAny_pure ?_)
  refine wpAny_bind (wpAny_holding (wpAny_pure ?_))
  rw [makeFunction_eq]
  simp only [List.zip_nil_right, List.filterMap_nil, List.isEmpty_nil, if_true, pure_bind]
  refine lam_core (dv := none) I TB hcode hm hu hT hfree fun f c' H1 s' I1 eN T1 nf hf hc => ⟨.ref f, H1, I1, rfl, h H1 f eN (T1 _ hm) nf ⟨c', none, hf, hc, rfl, fun t e => nomatch e⟩⟩
theorem pe_lamKD {c P : Addr} {params : Arguments} {body : Expr} {scope : Scope} {pos p0 : Pos} {k : Int} {j : Nat} (TB : LamX.TabB X.base X.mg c P) (hcode : X.env.code = .ref c) 
    (hcell : ∀ y ∈ scope.names, y.2 = .free → X.env.scope.names.lookup y.1 = some .cell ∨ X.env.scope.names.lookup y.1 = some .free) (hdef : defaultsOf params X.env = ([eval (.Constant (.int k) j p0) X.env], [])) : PE X (.Lambda params body scope pos) (tLamK P (X.env.qual ++ "<lambda>") params body scope X.env.cells true) := by
  refine ⟨fun pins s σ H Q I h => ?_⟩
  obtain ⟨hT0, h⟩ := h
  have hT : LamX.Tabs [(P, X.env.qual ++ "<lambda>")] H := fun p hp => by
    rw [List.mem_singleton.mp hp]
    exact hT0
  have hm : (P, X.env.qual ++ "<lambda>") ∈ [(P, X.env.qual ++ "<lambda>")] := List.mem_singleton.mpr rfl
  have hu : ∀ p ∈ [(P, X.env.qual ++ "<lambda>")], p.1 = P → p.2 = X.env.qual ++ "<lambda>" := fun p hp _ => by rw [List.mem_singleton.mp hp]
  have hfree : ∀ y ∈ scope.names, y.2 = .free → ∃ c, X.env.cells.lookup y.1 = some c := fun y hy e => (hcell y hy e).elim (fun k => I.ok.has _ (.inl k)) (fun k => I.ok.has _ (.inr k))
  rw [arm_eval_Lambda, hdef]
  show wpAny _ _ (do let dv ← evalAll [eval (.Constant (.int k) j p0) X.env]; let kdv ← holding dv (evalAllOpt []); makeFunction "<lambda>" (X.env.qual ++ "<lambda>") params (.expr body) scope X.env dv kdv [] pos pos.line) _ _ s
  refine wpAny_bind (wpAny_bind (wpAny_Constant_int (wpAny_bind (wpAny_holding (wpAny_pure (wpAny_pure ?_))))))
  refine wpAny_bind (wpAny_holding (wpAny_pure ?_))
  rw [makeFunction_eq]
  simp only [List.zip_nil_right, List.filterMap_nil, List.isEmpty_nil, List.isEmpty_cons, Bool.false_eq_true, if_false, if_true, pure_bind]
  refine wpAny_bind (wpAny_newTextTuple ?_)
  have nt : H s.heap.objs.size = none := I.hok.fresh (Nat.le_refl _)
  have It : L2.Inv X pins σ (upd H s.heap.objs.size (.tup [.int k])) { s with heap := s.heap.push { cls := .type "tuple", data := .seq [Value.int k s.toks].toArray }, toks := s.toks + 1 } :=
    I.laid (fun b o e => Heap.get?_push_of_some _ e) (Nat.le_refl _) ⟨by show (1 : Nat) ≤ sizeLine; decide, [Value.int k s.toks], .cons ⟨s.toks, rfl⟩ .nil, ⟨_, Heap.get?_push_size _ rfl, rfl, ⟨_, rfl⟩⟩⟩
  have TT2 : LamX.Tabs [(P, X.env.qual ++ "<lambda>")] (upd H s.heap.objs.size (.tup [.int k])) := hT.ext fun b o e => by rw [upd_ne (ne_of_none e nt)]; exact e
  refine lam_core (dv := some s.heap.objs.size) It TB hcode hm hu TT2 hfree fun f c' H1 s' I1 eN T1 nf hf hc => ⟨.ref f, H1, I1, rfl, h H1 f (fun b o e n => eN b o (by rw [upd_ne (ne_of_none e nt)]; exact e) n) (T1 _ hm) ?_ ⟨c', some s.heap.objs.size, hf, hc, rfl, fun t e => ⟨k, ?_⟩⟩⟩
  · cases e : H f with
    | none => rfl
    | some o =>
      rw [upd_ne (ne_of_none e nt), e] at nf
      cases nf
  · cases e
    refine eN _ _ upd_same fun z => ?_
    obtain ⟨ps, hP, _⟩ := hT0
    rw [← z, nt] at hP
    cases hP
end
end Ah
end
section
set_option Elab.async false
set_option linter.all false
set_option maxRecDepth 100000
set_option maxHeartbeats 2000000
/-! a kept lambda handed to a def that calls it -/
namespace Ah
open PySem PySem.Spec PyProof.Rows L2 LamX
section
variable {X : Cx} {pins : List (Addr × Obj)} {σ : L2.St} {G HZ : Hp} {u s1 : Shared}
theorem lam_startT {A : Around} {outer : List Env} {E : XK} {scope : Scope} {f c' : Addr} {h₁ : Heap} {tk : Nat} {m : Str → Option Value} (J : L2.Inv X pins σ G u) (L : LamSD X.N X.env.scope scope) (e0 : Env0 X.prog X.w X.K X.mg X.base A outer s1 HZ) (hd : A.handled = none)
    (cT : ∀ x c v, X.env.cells.lookup x = some c → u.heap.IsCell c v → s1.heap.IsCell c v ∧ HZ c = none) (hns : h₁.Ns s1.heap.objs.size m) (kp : ∀ b o, s1.heap.get? b = some o → h₁.get? b = some o) :
    L2.Inv (lamCx X A outer s1 HZ E scope f c') [] σ HZ { s1 with heap := h₁, toks := tk } := by
  have hfree := L.has J.ok
  have cm : ∀ {y c}, (cloFrom X.env.cells scope.names []).lookup y = some c → X.env.cells.lookup y = some c := fun {y c} e => by
    rcases cloFrom_mem (PySem.mem_of_lookup e) with hm | ⟨h1, h2⟩
    · cases hm
    · obtain ⟨c1, hc⟩ := hfree _ h1 rfl
      have hc : X.env.cells.lookup y = some c1 := hc
      rw [hc] at h2
      rw [h2]
      exact hc
  have look : ∀ {y}, scope.names.lookup y = some .free → ∃ c, (cloFrom X.env.cells scope.names []).lookup y = some c := fun {y} hl =>
    mem_lookup (cloFrom_has (cells := X.env.cells) (acc := []) (PySem.mem_of_lookup hl))
  have cellK : ∀ {y : Str} {c : Addr} {v : Option Value}, X.env.cells.lookup y = some c → u.heap.IsCell c v → h₁.IsCell c v := fun {y c v} n z => by
    obtain ⟨o, ho, hdd⟩ := (cT y c v n z).1
    exact ⟨o, kp _ _ ho, hdd⟩
  have noA : ∀ b : Addr, b ∉ (lamCx X A outer s1 HZ E scope f c').ex := fun b z => absurd (show b ∈ ([] : List Addr) from z) (by simp)
  refine ⟨⟨e0.mod, L.kind, rfl, rfl, Nat.le_refl _, fun y z c e1 e2 => J.ok.inj y z c (cm e1) (cm e2), fun y hy => ?_, fun y c z _ => absurd (show false = true from z) Bool.false_ne_true, fun _ => hd, Around.frames_deeper e0.frames, .inr ⟨rfl, rfl⟩, fun b z => absurd z (noA b), e0.bs, e0.bsz, fun b _ _ => noA b,
      fun b z => absurd z (noA b), e0.funs, e0.frf⟩,
    rfl, e0.bare, Un.kept kp, ⟨_, hns, fun i y v e1 e2 e3 => ?_⟩, fun y c e => ?_, e0.hok.fresh (Nat.le_refl _), fun y c e => ?_, fun q hq => absurd (show q ∈ ([] : List (Addr × Obj)) ++ [] from hq) (by simp), e0.hok.kept kp, J.len⟩
  · have hy : scope.names.lookup y = some .cell ∨ scope.names.lookup y = some .free := hy
    rcases hy with hy | hy
    · exact absurd rfl (L.own _ (PySem.mem_of_lookup hy))
    · exact look hy
  · have e3 : Vis scope y := e3
    rcases e3 with k | k | k
    · exact absurd (List.mem_of_getElem? (show X.N[i]? = some y from e1)) (L.loc _ (PySem.mem_of_lookup k) rfl)
    · exact absurd rfl (L.own _ (PySem.mem_of_lookup k))
    · obtain ⟨m, hn, hl⟩ := J.loc
      have hvis : Vis X.env.scope y := (L.free _ (PySem.mem_of_lookup k) rfl).elim (fun k => .inr (.inl k)) (fun k => .inr (.inr k))
      obtain ⟨w', r, q⟩ := hl i y v e1 e2 hvis
      obtain ⟨c2, h2⟩ := look k
      refine ⟨w', r, .inr ⟨.inr k, c2, h2, ?_⟩⟩
      have c1 := cm h2
      rcases q with ⟨k', _⟩ | ⟨_, c3, e', z⟩
      · have k' : X.env.scope.names.lookup y = some .local := k'
        rcases L.free _ (PySem.mem_of_lookup k) rfl with k2 | k2 <;> rw [show X.env.scope.names.lookup y = _ from k2] at k' <;> cases k'
      · rw [c1] at e'
        cases e'
        exact cellK c1 z
  · obtain ⟨w', z⟩ := J.cell y c (cm e)
    exact ⟨w', cellK (cm e) z⟩
  · obtain ⟨v, z⟩ := J.cell y c (cm e)
    exact (cT y c v (cm e) z).2
/-- how a lambda of such a form takes no arguments -/
structure LamB (params : Arguments) (body : Expr) (scope : Scope) (tup : Bool) : Prop where
  b0 : tup = false → ∀ (q : Str) (cl : List (Str × Addr)) (pm cv ctv : Value), bindArgs (lamFd q params body scope cl pm cv ctv .none) ⟨[], []⟩ = pure []
  bD : tup = true → ∃ n, scope.names.lookup n = some .local ∧ ∀ (q : Str) (cl : List (Str × Addr)) (pm cv ctv : Value) (t : Addr), ∃ kk : Option (Array Value) → Sem (List (Str × Value)), bindArgs (lamFd q params body scope cl pm cv ctv (.ref t)) ⟨[], []⟩ = seqItems? (.ref t) >>= kk ∧ ∀ v, kk (some [v].toArray) = pure [(n, v)]
theorem LamB.binds {params : Arguments} {body : Expr} {scope : Scope} {tup : Bool} (b : LamB params body scope tup) {P : Program} {w : World} {H : Hp} {s : Shared} (hok : HOk P w H s.heap) {dv : Option Addr} (e : tup = dv.isSome) (ht : ∀ t, dv = some t → ∃ k, H t = some (.tup [.int k])) (q : Str) (cl : List (Str × Addr)) (pm cv ctv : Value) :
    ∃ binds, BindsTo s (lamFd q params body scope cl pm cv ctv (dvV dv)) ⟨[], []⟩ binds ∧ ∀ y ∈ binds, scope.names.lookup y.1 = some .local := by
  cases dv with
  | none => exact ⟨[], .of_eq (b.b0 e q cl pm cv ctv), fun y hy => nomatch hy⟩
  | some t =>
    obtain ⟨n, hn, hb⟩ := b.bD e
    obtain ⟨kk, e1, e2⟩ := hb q cl pm cv ctv t
    obtain ⟨k, et⟩ := ht t rfl
    obtain ⟨_, its, rv, ob, eo, hc, m, hdt⟩ := hok t _ et
    cases rv with
    | @cons _ u1 _ _ r1 r2 =>
      cases r2
      refine ⟨[(n, u1)], ?_, fun y hy => ?_⟩
      · intro M A E Q q2
        show wpAny M A (bindArgs (lamFd q params body scope cl pm cv ctv (.ref t)) ⟨[], []⟩) Q E s
        rw [e1]
        refine wpAny_bind (wpAny_seqItems eo hdt ?_)
        rw [e2]
        exact wpAny_pure q2
      · rw [List.mem_singleton.mp hy]
        exact hn
/-- x(), in the def that got the kept lambda -/
theorem pe_actT {CXg : CXT} {Eg : XK} {Ng : List Str} {qg : Str} {sg : Scope} {g f : Addr} {cdg : Value} {params : Arguments} {body : Expr} {scope : Scope} {tup : Bool} {k i : Nat} {a : Str} {pn : List (Addr × Obj)} {xe : Value → Shared → Prop} {W : WX} {E : XK} {tb : TE} {p1 p2 : Pos} {σ0 : L2.St} {s8 : Shared} {H8 : Hp}
    (J : L2.Inv X pins σ G u) (L : LamSD X.N X.env.scope scope) (hbind : LamB params body scope tup)
    (cT : ∀ x c v, X.env.cells.lookup x = some c → u.heap.IsCell c v → s8.heap.IsCell c v ∧ H8 c = none)
    (tk : Takes ((cxOf CXg X.prog X.w X.K X.mg X.base Ng qg sg g cdg X.A X.stack s8 H8 Eg).tr pn xe) W) (hW : ∀ cls d H', E cls d H' → W cls d σ0 H') (hr : Room (k + 1) (X.A.deeper (envOfC qg sg s8.heap.objs.size g cdg)))
    (hbody : ∀ (A : Around) (outer : List Env) (s : Shared) (H : Hp) (c' : Addr), Room k (A.deeper (lamEnv X scope s.heap.objs.size f c')) → PE (lamCx X A outer s H E scope f c') body tb)
    (hN : Ng[i]? = some a) (hv : Vis sg a) (hd : (a == ("__debug__" : Str)) = false) (hcd : (a == ("__classdict__" : Str)) = false) :
    PE ((cxOf CXg X.prog X.w X.K X.mg X.base Ng qg sg g cdg X.A X.stack s8 H8 Eg).tr pn xe) (.Call (.Name a p1) [] [] p2)
      (fun σZ HZ Q => σZ = σ0 ∧ σZ[i]? = some (some (.ref f)) ∧ LamAt HZ (X.env.qual ++ "<lambda>") params body scope (cloFrom X.env.cells scope.names []) tup f ∧ tb σ HZ Q) := by
  refine ⟨fun pinsZ sZ σZ HZ Q IZ h => ?_⟩
  obtain ⟨e0, hs, hc, ht⟩ := h
  subst e0
  refine wpAny_Call_Name_kw (thn ((pe_var (pos := p1) (i := i) hN hv hd hcd).run pinsZ sZ σZ HZ (fun v H1 => v = .ref f ∧ H1 = HZ) IZ ⟨.ref f, hs, rfl, rfl⟩) fun u' s1 ⟨v, H1, I1, r1, q1⟩ => ?_)
  obtain ⟨ev, eH⟩ := q1
  subst ev
  rw [eH] at I1
  obtain rfl : u' = Value.ref f := r1
  obtain ⟨c', dv, hf, hco, htup, hdt⟩ := hc
  obtain ⟨⟨pm, ctv, of1⟩, _, _⟩ := I1.hok f _ hf
  obtain ⟨⟨oc, vs, t, hoc, hdc, hvc⟩, _, _⟩ := I1.hok c' _ hco
  obtain ⟨binds, hbd, hloc⟩ := hbind.binds I1.hok htup hdt (X.env.qual ++ "<lambda>") (cloFrom X.env.cells scope.names []) pm (.ref c') ctv
  refine PySem.W.callWith_F0 ⟨_, _, _, _, of1⟩ ?_
  have cT1 : ∀ x c v, X.env.cells.lookup x = some c → u.heap.IsCell c v → s1.heap.IsCell c v ∧ HZ c = none := fun x c v hx hz => by
    obtain ⟨⟨o, ho, hdo⟩, n8⟩ := cT x c v hx hz
    have un : Un (frs X.stack) [] H8 HZ s8.heap s1.heap := I1.base
    obtain ⟨sl, q⟩ := un.any ho n8 (by simp)
    exact ⟨⟨_, q, hdo⟩, un.free c o ho n8 (by simp)⟩
  have rc : codeAny (model X.prog X.w) (X.A.deeper (envOfC qg sg s8.heap.objs.size g cdg)) (.call (.ref f) ⟨[], []⟩) (CR (L2.CX X.prog X.w) (envOfC qg sg s8.heap.objs.size g cdg :: X.stack) X.prog X.w HZ s1 Q E) s1 := by
    refine PySem.W.kla_callFunE hr.depth of1 rfl L.co L.gen rfl ⟨c', oc, vs, t, rfl, hoc, hdc, hvc⟩ ?_
    refine hbd _ _ _ _ (wpAny_newFunctionEnv L.own hloc (fun h₁ hns hsb => ⟨I1.nolimit.fresh _ hsb, ?_⟩) L.kind)
    show codeAny _ _ (.expr body (lamEnv X scope s1.heap.objs.size f c')) _ _
    have kp : ∀ b o, s1.heap.get? b = some o → h₁.get? b = some o := fun b o e => hsb.extBut b o (Nat.ne_of_lt (Heap.lt_size e)) (Heap.get?_push_of_some _ e)
    have J2 : L2.Inv (lamCx X (X.A.deeper (envOfC qg sg s8.heap.objs.size g cdg)) (envOfC qg sg s8.heap.objs.size g cdg :: X.stack) s1 HZ E scope f c') [] σ HZ { s1 with heap := h₁, toks := s1.toks + binds.length } :=
      lam_startT J L I1.env0 hr.hd cT1 hns kp
    refine PySem.W.kla_codeExpr (wpAny_mono ((hbody _ _ s1 HZ c' (hr.deeper _)).run [] _ _ HZ Q J2 ht) (fun v s' hq => ?_) fun e s' hq => hq)
    obtain ⟨w', H', J', rv, q⟩ := hq
    exact ⟨w', H', J'.os, J'.bare, J'.base, J'.hok, rv, q⟩
  refine wpAny_call (codeAny_mono rc fun r s' hq => ?_)
  cases r with
  | error e => exact tk e s' (XE.of_call I1 (fun cls d H' h => hW cls d H' h) hq)
  | ok fl =>
    cases fl with
    | ret u => exact I1.after hq
    | next => exact False.elim hq
    | brk => exact False.elim hq
    | cont => exact False.elim hq
end
/-- the def that calls what it got; D: what it leaves as it is -/
def GivesP (P : Program) (w : World) (K : PySem.W.Frag) (mg : Str → Option Value) (base : Heap) (Ng : List Str) (x : Str) (sg : Scope) (g : Addr) (cdg : Value) (bg : List Stmt) (a : Str) (TT : (XK → Hp → VK → Prop) → Hp → VK → Prop) : Prop :=
  ∀ (A : Around) (stack : List Env) (f : Addr) (s : Shared) (H : Hp) (Q : VK) (tl : XK → Hp → VK → Prop) (D : Hp → Prop), (∀ H1 H2, Kept [] H1 H2 → D H1 → D H2) →
    (∀ (W : WX) (pn : List (Addr × Obj)) (xe : Value → Shared → Prop) (E : XK) (p1 p2 : Pos) (σ0 : L2.St), Takes ((cxOf C8.CX0 P w K mg base Ng x sg g cdg A stack s H C8.E0).tr pn xe) W → (∀ cls d H', E cls d H' → W cls d σ0 H') →
      PE ((cxOf C8.CX0 P w K mg base Ng x sg g cdg A stack s H C8.E0).tr pn xe) (.Call (.Name a p1) [] [] p2) (fun σZ HZ Q => σZ = σ0 ∧ σZ[0]? = some (some (.ref f)) ∧ D HZ ∧ tl E HZ Q)) →
    D H → TT tl H Q →
    ∃ t, PSs (cxOf C8.CX0 P w K mg base Ng x sg g cdg A stack s H C8.E0).nox bg t ∧ t { nx := fun _ H' => Q .non H', rt := Q } (L2.start Ng [.ref f]) H
/-- a lambda that may be handed over -/
structure LamE where
  params : Arguments
  body : Expr
  scope : Scope
  tup : Bool
  t : XK → TE
structure LamOk (X : Cx) (k : Nat) (d : LamE) : Prop where
  sd : LamSD X.N X.env.scope d.scope
  b : LamB d.params d.body d.scope d.tup
  body : ∀ (A : Around) (outer : List Env) (s : Shared) (H : Hp) (E : XK) (f c' : Addr), Room k (A.deeper (lamEnv X d.scope s.heap.objs.size f c')) → PE (lamCx X A outer s H E d.scope f c') d.body (d.t E)
/-- x(e), e telling one of the lambdas; the reading looks at the slots where they were made -/
def tWordL (Ls : List LamE) (q : Str) (cells : List (Str × Addr)) (TT : (XK → Hp → VK → Prop) → Hp → VK → Prop) (σ : L2.St) (te : TE) : TE := fun σ8 H8 Q => tCons te tNil σ8 H8 fun vs H9 => ∃ (f : Addr) (d : LamE), vs = [.ref f] ∧ d ∈ Ls ∧ LamAt H9 q d.params d.body d.scope (cloFrom cells d.scope.names []) d.tup f ∧ TT (fun E H' Q' => d.t E σ H' Q') H9 Q
section
variable {X : Cx}
theorem word_run {TT : (XK → Hp → VK → Prop) → Hp → VK → Prop} {x a : Str} {g : Addr} {k : Nat} {pg : Arguments} {bg : List Stmt} {sg : Scope} {dV kV doc pm cdv ct oc : Value} {an od : Option Addr} {osl : Array (Option Value)} {Ng : List Str} {Ls : List LamE}
    (lk : X.K.lookup g = some ⟨oc, od, .func (PySem.W.fnOf x x pg bg sg dV kV doc pm an cdv ct), osl⟩) (hcg : PySem.W.codeIn X.K cdv x = true) (hb : L2.Binds X.K (PySem.W.fnOf x x pg bg sg dV kV doc pm an cdv ct) [a] []) (Sg : FnScope Ng [a] sg) (hNg : Ng[0]? = some a) (hva : Vis sg a)
    (hG : GivesP X.prog X.w X.K X.mg X.base Ng x sg g cdv bg a TT) (hr : Room (k + 2) X.A) (hL : ∀ d ∈ Ls, LamOk X k d) (hd : (a == ("__debug__" : Str)) = false) (hcd : (a == ("__classdict__" : Str)) = false)
    {pins : List (Addr × Obj)} {σ : L2.St} {G H9 : Hp} {u s9 : Shared} {Q : VK} (J : L2.Inv X pins σ G u) (e0 : Env0 X.prog X.w X.K X.mg X.base X.A X.stack s9 H9) (kin : X.K.In s9.heap) (cT : ∀ x c v, X.env.cells.lookup x = some c → u.heap.IsCell c v → s9.heap.IsCell c v ∧ H9 c = none)
    {f : Addr} {d : LamE} (hdm : d ∈ Ls) (ha : LamAt H9 (X.env.qual ++ "<lambda>") d.params d.body d.scope (cloFrom X.env.cells d.scope.names []) d.tup f) (ht : TT (fun E H' Q' => d.t E σ H' Q') H9 Q) :
    codeAny (model X.prog X.w) X.A (.call (.ref g) ⟨[.ref f], []⟩) (CR C8.CX0 X.stack X.prog X.w H9 s9 Q C8.E0) s9 := by
  refine run_ofS (N := Ng) (ps := [a]) (us := [.ref f]) (vs := [.ref f]) lk hcg Sg hr e0 (hb s9 [.ref f] kin rfl) (.cons rfl .nil) rfl fun hr' => ?_
  have L := hL d hdm
  obtain ⟨t', ht', hq'⟩ := hG X.A X.stack f s9 H9 Q (fun E H' Q' => d.t E σ H' Q') (fun HZ => LamAt HZ (X.env.qual ++ "<lambda>") d.params d.body d.scope (cloFrom X.env.cells d.scope.names []) d.tup f) (fun H1 H2 kk h => h.keep fun b o e _ _ => kk b o e (by simp))
    (fun W pn xe E p1 p2 σ0 tk hW => pe_actT (i := 0) J L.sd L.b cT tk hW hr' (fun A outer s H c' hr2 => L.body A outer s H E f c' hr2) hNg hva hd hcd) ha ht
  exact ⟨t', ht'.nox, hq'⟩
/-- in the block of a comprehension -/
theorem pe_wordB {TT : (XK → Hp → VK → Prop) → Hp → VK → Prop} {x a : Str} {g : Addr} {k : Nat} {pg : Arguments} {bg : List Stmt} {sg : Scope} {dV kV doc pm cdv ct oc : Value} {an od : Option Addr} {osl : Array (Option Value)} {Ng : List Str} {Ls : List LamE} {e : Expr} {te : TE} {p pos : Pos}
    {pins : List (Addr × Obj)} {σ : L2.St} {G : Hp} {u : Shared} {scp : Scope} {en : Env} {fp : List Addr} (J : L2.Inv X pins σ G u) (hfp : ∀ b ∈ fp, ∀ x c, X.env.cells.lookup x = some c → c ≠ b)
    (hg : Gl (X.blk u G scp en fp) x) (hm : X.mg x = some (.ref g)) (hk : PySem.W.keepIn X.K (.ref g) = true)
    (lk : X.K.lookup g = some ⟨oc, od, .func (PySem.W.fnOf x x pg bg sg dV kV doc pm an cdv ct), osl⟩) (hcg : PySem.W.codeIn X.K cdv x = true) (hb : L2.Binds X.K (PySem.W.fnOf x x pg bg sg dV kV doc pm an cdv ct) [a] []) (Sg : FnScope Ng [a] sg) (hNg : Ng[0]? = some a) (hva : Vis sg a)
    (hG : GivesP X.prog X.w X.K X.mg X.base Ng x sg g cdv bg a TT) (hr : Room (k + 2) X.A) (hL : ∀ d ∈ Ls, LamOk X k d) (he : PE (X.blk u G scp en fp) e te)
    (hdb : (x == ("__debug__" : Str)) = false := by decide) (hd : (a == ("__debug__" : Str)) = false := by decide) (hcd : (a == ("__classdict__" : Str)) = false := by decide)
    (hst : starEach [e] en = (false, eval e en) :: starEach [] en := by rfl) (hpl : (backTo pos (starEach [] en)).any (·.1) = false := by rfl) :
    PE (X.blk u G scp en fp) (.Call (.Name x p) [e] [] pos) (tWordL Ls (X.env.qual ++ "<lambda>") X.env.cells TT σ te) := by
  refine ⟨fun pins8 s σ8 H8 Q I h => ?_⟩
  refine wpAny_Call_Name_kw (ld_glob (X := X.blk u G scp en fp) I hg hm ?_ hdb)
  refine PySem.W.callWith_K (h₀ := X.base) J.ok.mod.kin hk (thn ((pa_cons he pa_nil hst).run pos pins8 s σ8 H8 _ I h) fun us s9 ⟨vs, H9, I9, r, f, d, e1, hdm, ha, ht⟩ => ⟨I9.kIn, ?_⟩) hst hpl
  subst e1
  obtain ⟨uu, rfl, r1⟩ := vals1 r
  obtain rfl : uu = Value.ref f := r1
  have cT : ∀ x c v, X.env.cells.lookup x = some c → u.heap.IsCell c v → s9.heap.IsCell c v ∧ H9 c = none := fun x c v hx hz => by
    obtain ⟨o, ho, hdo⟩ := hz
    have n0 := J.freeC x c hx
    have nf : c ∉ fp := fun z => hfp c z x c hx rfl
    have un : Un (frs X.stack) fp G H9 u.heap s9.heap := I9.base
    obtain ⟨sl, q⟩ := un.any ho n0 nf
    exact ⟨⟨_, q, hdo⟩, un.free c o ho n0 nf⟩
  have rc := word_run lk hcg hb Sg hNg hva hG hr hL hd hcd J I9.env0 I9.kIn cT hdm ha ht
  refine wpAny_call (codeAny_mono rc fun r s2 hq => ?_)
  cases r with
  | error e => exact (show False from hq).elim
  | ok fl =>
    cases fl with
    | ret u => exact I9.after hq
    | next => exact False.elim hq
    | brk => exact False.elim hq
    | cont => exact False.elim hq
/-- in the def itself -/
theorem pe_wordX {TT : (XK → Hp → VK → Prop) → Hp → VK → Prop} {x a : Str} {g : Addr} {k : Nat} {pg : Arguments} {bg : List Stmt} {sg : Scope} {dV kV doc pm cdv ct oc : Value} {an od : Option Addr} {osl : Array (Option Value)} {Ng : List Str} {Ls : List LamE} {e : Expr} {te : TE} {p pos : Pos}
    (hg : Gl X x) (hm : X.mg x = some (.ref g)) (hk : PySem.W.keepIn X.K (.ref g) = true)
    (lk : X.K.lookup g = some ⟨oc, od, .func (PySem.W.fnOf x x pg bg sg dV kV doc pm an cdv ct), osl⟩) (hcg : PySem.W.codeIn X.K cdv x = true) (hb : L2.Binds X.K (PySem.W.fnOf x x pg bg sg dV kV doc pm an cdv ct) [a] []) (Sg : FnScope Ng [a] sg) (hNg : Ng[0]? = some a) (hva : Vis sg a)
    (hG : GivesP X.prog X.w X.K X.mg X.base Ng x sg g cdv bg a TT) (hr : Room (k + 2) X.A) (hL : ∀ d ∈ Ls, LamOk X k d) (he : PE X e te)
    (hdb : (x == ("__debug__" : Str)) = false := by decide) (hd : (a == ("__debug__" : Str)) = false := by decide) (hcd : (a == ("__classdict__" : Str)) = false := by decide)
    (hst : starEach [e] X.env = (false, eval e X.env) :: starEach [] X.env := by rfl) (hpl : (backTo pos (starEach [] X.env)).any (·.1) = false := by rfl) :
    PE X (.Call (.Name x p) [e] [] pos) (fun σ => tWordL Ls (X.env.qual ++ "<lambda>") X.env.cells TT σ te σ) := by
  refine ⟨fun pins8 s σ8 H8 Q I h => ?_⟩
  refine wpAny_Call_Name_kw (ld_glob I hg hm ?_ hdb)
  refine PySem.W.callWith_K (h₀ := X.base) I.ok.mod.kin hk (thn ((pa_cons he pa_nil hst).run pos pins8 s σ8 H8 _ I h) fun us s9 ⟨vs, H9, I9, r, f, d, e1, hdm, ha, ht⟩ => ⟨I9.kIn, ?_⟩) hst hpl
  subst e1
  obtain ⟨uu, rfl, r1⟩ := vals1 r
  obtain rfl : uu = Value.ref f := r1
  have rc := word_run lk hcg hb Sg hNg hva hG hr hL hd hcd I9 I9.env0 I9.kIn (fun x c v hx hz => ⟨hz, I9.freeC x c hx⟩) hdm ha ht
  refine wpAny_call (codeAny_mono rc fun r s2 hq => ?_)
  cases r with
  | error e => exact (show False from hq).elim
  | ok fl =>
    cases fl with
    | ret u => exact I9.after hq
    | next => exact False.elim hq
    | brk => exact False.elim hq
    | cont => exact False.elim hq
/-- x(lambda ..) -/
theorem pe_word1 {TT : (XK → Hp → VK → Prop) → Hp → VK → Prop} {x a : Str} {g P : Addr} {k : Nat} {pg : Arguments} {bg : List Stmt} {sg : Scope} {dV kV doc pm cdv ct oc : Value} {an od : Option Addr} {osl : Array (Option Value)} {Ng : List Str} {params : Arguments} {body : Expr} {scope : Scope} {tup : Bool} {t : XK → TE} {lpos p pos : Pos}
    (hg : Gl X x) (hm : X.mg x = some (.ref g)) (hk : PySem.W.keepIn X.K (.ref g) = true)
    (lk : X.K.lookup g = some ⟨oc, od, .func (PySem.W.fnOf x x pg bg sg dV kV doc pm an cdv ct), osl⟩) (hcg : PySem.W.codeIn X.K cdv x = true) (hb : L2.Binds X.K (PySem.W.fnOf x x pg bg sg dV kV doc pm an cdv ct) [a] []) (Sg : FnScope Ng [a] sg) (hNg : Ng[0]? = some a) (hva : Vis sg a)
    (hG : GivesP X.prog X.w X.K X.mg X.base Ng x sg g cdv bg a TT) (hr : Room (k + 2) X.A) (mk : PE X (.Lambda params body scope lpos) (tLamK P (X.env.qual ++ "<lambda>") params body scope X.env.cells tup)) (L : LamSD X.N X.env.scope scope) (B : LamB params body scope tup)
    (hbody : ∀ (A : Around) (outer : List Env) (s : Shared) (H : Hp) (E : XK) (f c' : Addr), Room k (A.deeper (lamEnv X scope s.heap.objs.size f c')) → PE (lamCx X A outer s H E scope f c') body (t E))
    (hdb : (x == ("__debug__" : Str)) = false := by decide) (hd : (a == ("__debug__" : Str)) = false := by decide) (hcd : (a == ("__classdict__" : Str)) = false := by decide)
    (hst : starEach [.Lambda params body scope lpos] X.env = (false, eval (.Lambda params body scope lpos) X.env) :: starEach [] X.env := by rfl) (hpl : (backTo pos (starEach [] X.env)).any (·.1) = false := by rfl) :
    PE X (.Call (.Name x p) [.Lambda params body scope lpos] [] pos) (fun σ H Q => TabS H P (X.env.qual ++ "<lambda>") ∧ ∀ H1, (∀ b o, H b = some o → b ≠ P → H1 b = some o) → TabS H1 P (X.env.qual ++ "<lambda>") → TT (fun E H' Q' => t E σ H' Q') H1 Q) :=
  ⟨fun pins s σ H Q I ⟨hT, h⟩ => (pe_wordX (Ls := [⟨params, body, scope, tup, t⟩]) hg hm hk lk hcg hb Sg hNg hva hG hr (fun d hd => by rw [List.mem_singleton.mp hd]; exact ⟨L, B, hbody⟩) mk hdb hd hcd hst hpl).run pins s σ H Q I
    (show tCons _ tNil σ H _ from ⟨hT, fun H1 f eN T1 nf la => ⟨f, _, rfl, List.mem_singleton.mpr rfl, la, h H1 eN T1⟩⟩)⟩
end
end Ah
end
section
set_option Elab.async false
set_option linter.all false
set_option maxRecDepth 100000
set_option maxHeartbeats 2000000
namespace Ah
open PySem PySem.Spec PyProof.Rows L2 LamX
theorem pe_mono {X : Cx} {e : Expr} {t : TE} (h : PE X e t) : PE X e (fun σ H Q => ∃ Q0 : VK, (∀ v H', Q0 v H' → Q v H') ∧ t σ H Q0) :=
  ⟨fun pins s σ H Q I ⟨Q0, hm, ht⟩ => wpAny_mono (h.run pins s σ H Q0 I ht) (fun v s' ⟨x, H', I', r, q⟩ => ⟨x, H', I', r, hm _ _ q⟩) fun _ _ z => z⟩
def bodyW : List Stmt := match defBody lWord with
  | _ :: .Try b _ _ _ _ :: _ => b
  | _ => []
end Ah
end
section
set_option Elab.async false
set_option linter.all false
set_option maxRecDepth 100000
set_option maxHeartbeats 2000000
namespace Ah
open PySem PySem.Spec PyProof.Rows L2 LamX
/-- what is wished of an exception, whatever its class -/
def EWG (c : Nat → Addr) (Q : VK) : XK := fun cls d H1 => ∃ (i : Nat) (v : V), i < 7 ∧ cls = .ref (c i) ∧ ErrAt H1 i d v ∧ ∀ H' p, Kept [] H1 H' → H' p = none → Q (.ref p) (upd H' p (.tup [.str (nameG i), v]))
def TWG (c : Nat → Addr) : (XK → Hp → VK → Prop) → Hp → VK → Prop := fun tl H Q => ∀ lf, H lf = none → tl (EWG c Q) (upd H lf (.lst [])) (fun v H1 => H1 lf = some (.lst []) ∧ ∀ p, upd H1 lf (.lst [v]) p = none → Q (.ref p) (upd (upd H1 lf (.lst [v])) p (.tup [.str "", v])))
/-- the suite for any class -/
def tsGA (c : Nat → Addr) (a : Addr) (cls : Value) (d : Option Addr) : TS := fun D σ H => ∃ i, i < 7 ∧ tsG c i a cls d D σ H
section
variable {P : Program} {w : World} {K : PySem.W.Frag} {mg : Str → Option Value} {base : Heap}
theorem word_givesG {CA : Addr} {c : Nat → Addr} {g : Addr} {cdg : Value} (W : WordG K mg CA c) : GivesP P w K mg base NW "_law_word" (defScope lWord) g cdg (defBody lWord) "_law_work" (TWG c) := by
  intro A stack f s H Q tl G hG act hc h
  refine ⟨_, pss_cons (ps_set (i := 1) scW2.nd rfl (.inl rfl) (pe_lst pa_nil)) (pss_cons (ps_try_as (X := (cxOf C8.CX0 P w K mg base NW "_law_word" (defScope lWord) g cdg A stack s H C8.E0).nox) (i := 2) (n := "e") (c := .ref CA)
      (tb := fun W D σ H => ∃ (Ech : XK) (lf : Addr) (Q0 : VK), (∀ cls d H', Ech cls d H' → W cls d σ H') ∧ σ = [some (.ref f), some (.ref lf), none, none, none, none] ∧ G H ∧ H lf = some (.lst []) ∧ (∀ v H1, Q0 v H1 → H1 lf = some (.lst []) ∧ D.nx σ (upd H1 lf (.lst [v]))) ∧ tl Ech H Q0)
      (ts := tsGA c) rfl rfl scW2.nd rfl rfl ⟨by rfl, rfl, .inl W.ca⟩ L2.takes0 (fun Wx pn xe tk _ => ?_) (fun a oe cls d pn hz hf => ⟨fun pins s2 σ2 H2 D2 I2 ⟨i, hi, r⟩ => (suite_wordG W hi a oe cls d pn hz hf).run pins s2 σ2 H2 D2 I2 r⟩))
    (pss_one (ps_ret (pe_tup (pa_cons pe_str (pa_cons (pe_ix ix_list (pv 1) pe_int (fun _ _ => rfl)) pa_nil)))))), ?_⟩
  · refine ⟨fun pins s' σ H' D I h' => ?_⟩
    obtain ⟨Ech, lf, Q0, hW, rfl, h1, hlf, h0, h2⟩ := h'
    obtain ⟨t, T, r⟩ : ∃ t, PSs ((cxOf C8.CX0 P w K mg base NW "_law_word" (defScope lWord) g cdg A stack s H C8.E0).tr pn xe) bodyW t ∧ t D [some (.ref f), some (.ref lf), none, none, none, none] H' := by
      refine ⟨_, pss_one (ps_expr (pe_bm PySem.F.plainAttrs_list PySem.F.slot_list_append PySem.F.type_list_append mt_append (pv 1) (pa_cons (pe_mono (act Wx pn xe Ech _ _ [some (.ref f), some (.ref lf), none, none, none, none] tk hW)) pa_nil))), ?_⟩
      refine ⟨_, rfl, .inl ⟨rfl, _, SqL.of hlf⟩, Q0, (fun v H1 hv0 => ?_), rfl, rfl, h1, h2⟩
      have hv := h0 v H1 hv0
      exact ⟨lf, _, _, rfl, rfl, hv.1, by show (0 : Nat) < sizeLine; rw [sizeLine_eq]; decide, hv.2⟩
    exact T.run pins s' _ H' D I r
  · refine ⟨by show (0 : Nat) ≤ sizeLine; decide, fun lf nlf => ?_⟩
    refine ⟨EWG c Q, lf, _, fun cls d H1 hE => ?_, rfl, hG _ _ ((Kept.refl H).upd nlf) hc, upd_same, (fun v H1 hv => ⟨hv.1, ?_⟩), h lf nlf⟩
    · obtain ⟨i, v, hi, rfl, he, k⟩ := hE
      exact ⟨true, W.exm i (by omega), fun _ a na => ⟨i, hi, v, _, _, rfl, he, rfl, k⟩, fun z => nomatch z⟩
    · exact ⟨_, rfl, lf, _, 0, v, rfl, rfl, SqL.of upd_same, at_of (j := 0) rfl rfl, by show (2 : Nat) ≤ sizeLine; rw [sizeLine_eq]; decide, hv.2⟩
end
end Ah
end
section
set_option Elab.async false
set_option linter.all false
set_option maxRecDepth 100000
set_option maxHeartbeats 2000000
namespace Ah
open PySem PySem.Spec PyProof.Rows L2 LamX
open GxR (TabG)
/-! ### what a house tells of a deed -/
theorem few_row {r : Rw} (h : r.few) : isRowL (r.ws.map V.str) = true ∧ ∀ z ∈ r.ws, z.length ≤ 100 := by
  have nk : ∀ n ∈ namesL, ∀ k ∈ kindsL, ∀ l ∈ kindsL, ∀ m ∈ namesL, ∀ t ∈ tiesL, ∀ s ∈ tiesL, ∀ x ∈ [Rw.is n k, Rw.isnt n k, Rw.has n t m, Rw.hasnt n t m, Rw.all k l, Rw.no k l, Rw.each k t m, Rw.who t k l, Rw.turned t s, Rw.on t, Rw.fr t k, Rw.to t k, Rw.under t s],
      (isRowL (x.ws.map V.str) && x.ws.all fun z => decide (z.length ≤ 100)) = true := by decide +kernel
  have fin : (isRowL (r.ws.map V.str) && r.ws.all fun z => decide (z.length ≤ 100)) = true := by
    have n0 : ("ann" : Str) ∈ namesL := by decide
    have k0 : ("cat" : Str) ∈ kindsL := by decide
    have t0 : ("likes" : Str) ∈ tiesL := by decide
    cases r <;> simp only [Rw.few] at h
    · exact nk _ h.1 _ h.2 _ k0 _ n0 _ t0 _ t0 _ (by simp)
    · exact nk _ h.1 _ h.2 _ k0 _ n0 _ t0 _ t0 _ (by simp)
    · exact nk _ h.1 _ k0 _ k0 _ h.2.2 _ h.2.1 _ t0 _ (by simp)
    · exact nk _ h.1 _ k0 _ k0 _ h.2.2 _ h.2.1 _ t0 _ (by simp)
    · exact nk _ n0 _ h.1 _ h.2 _ n0 _ t0 _ t0 _ (by simp)
    · exact nk _ n0 _ h.1 _ h.2 _ n0 _ t0 _ t0 _ (by simp)
    · exact nk _ n0 _ h.1 _ k0 _ h.2.2 _ h.2.1 _ t0 _ (by simp)
    · exact nk _ n0 _ h.2.1 _ h.2.2 _ n0 _ h.1 _ t0 _ (by simp)
    · exact nk _ n0 _ k0 _ k0 _ n0 _ h.1 _ h.2 _ (by simp)
    · exact nk _ n0 _ k0 _ k0 _ n0 _ h _ t0 _ (by simp)
    · exact nk _ n0 _ h.2 _ k0 _ n0 _ h.1 _ t0 _ (by simp)
    · exact nk _ n0 _ h.2 _ k0 _ n0 _ h.1 _ t0 _ (by simp)
    · exact nk _ n0 _ k0 _ k0 _ n0 _ h.1 _ h.2 _ (by simp)
  obtain ⟨a, b⟩ := Bool.and_eq_true_iff.mp fin
  exact ⟨a, fun z hz => of_decide_eq_true (List.all_eq_true.mp b z hz)⟩
theorem DRow.rowV {K : PySem.W.Frag} {H : Hp} {rv : V} {rb : Bool} (h : DRow H rv rb) : RowV K H rv rb := by
  obtain ⟨r, ws, rfl, e, h⟩ := h
  have key : ws.length ≤ 1000 ∧ (∀ z ∈ ws, z.length ≤ 100) ∧ rb = isRowL (ws.map V.str) := by
    rcases h with ⟨rfl, q, hq, rfl⟩ | ⟨rfl, rfl | rfl⟩
    · have fr := few_row hq
      exact ⟨Nat.le_trans (show q.ws.length ≤ 10 by cases q <;> simp [Rw.ws]) (by decide), fr.2, fr.1.symm⟩
    · exact ⟨by decide, by decide, by decide +kernel⟩
    · exact ⟨by decide, by decide, by decide +kernel⟩
  refine .inr ⟨r, _, rfl, .inl (.of e), by rw [List.length_map]; exact key.1, fun x hx => ?_, key.2.2⟩
  obtain ⟨z, hz, rfl⟩ := List.mem_map.mp hx
  exact .inl ⟨z, rfl, Nat.le_trans (key.2.1 z hz) (by decide)⟩
/-- all stands but the tables of T and of P3, and the house -/
structure KpT (T : List Addr) (P3 : Addr) (q3 : Str) (x : Addr) (H H' : Hp) : Prop where
  tab : ∀ P ∈ T, TabG H' P
  tl : TabS H' P3 q3
  keep : ∀ b o, H b = some o → b ∉ T → b ≠ P3 → b ≠ x → H' b = some o
theorem KpT.trans {T : List Addr} {P3 : Addr} {q3 : Str} {x : Addr} {H H1 H2 : Hp} (a : KpT T P3 q3 x H H1) (b : KpT T P3 q3 x H1 H2) : KpT T P3 q3 x H H2 := ⟨b.tab, b.tl, fun p o e h n m => b.keep p o (a.keep p o e h n m) h n m⟩
theorem tabS_by {H H' : Hp} {P1 : Addr} {qn : Str} (t : LamX.TabS H P1 qn) (hk : ∀ b o, H b = some o → (b = P1 ∨ ∃ q, o = LamX.CodeO b q) → H' b = some o) : LamX.TabS H' P1 qn := by
  obtain ⟨ps, h1, h2, h3⟩ := t
  refine ⟨ps, hk _ _ h1 (.inl rfl), h2, fun pos cv hc => ?_⟩
  obtain ⟨c, e1, e2⟩ := h3 pos cv hc
  exact ⟨c, e1, hk _ _ e2 (.inr ⟨_, rfl⟩)⟩
theorem codeO_tbl {c : Addr} {q : Str} (ps : Array Value) : LamX.CodeO c q ≠ .tbl ps := fun z => by unfold LamX.CodeO at z; cases z
theorem codeO_ins {c : Addr} {q : Str} {C dx : Addr} {fs : List (Str × V)} : LamX.CodeO c q ≠ .ins C dx fs := fun z => by unfold LamX.CodeO at z; cases z
theorem codeO_lst {c : Addr} {q : Str} {xs : List V} : LamX.CodeO c q ≠ .lst xs := fun z => by unfold LamX.CodeO at z; cases z
theorem tab_not {T : List Addr} {H : Hp} {b : Addr} {o : HO} (ht : ∀ P ∈ T, TabG H P) (e : H b = some o) (n : ∀ ps, o ≠ .tbl ps) : b ∉ T := fun hm => by
  obtain ⟨ps, e2, _⟩ := ht b hm
  rw [e] at e2
  exact n ps (Option.some.inj e2)
theorem KpT.ofX {T : List Addr} {P3 : Addr} {q3 : Str} {x C dx : Addr} {fs : List (Str × V)} {H H' : Hp} (ht : ∀ P ∈ T, TabG H P) (t3 : TabS H P3 q3) (n3 : P3 ∉ T) (hx : H x = some (.ins C dx fs)) (k : KpX T x H H') : KpT T P3 q3 x H H' :=
  ⟨k.tab, tabS_by t3 fun b o e hb => k.keep b o e (by
      rcases hb with rfl | ⟨q, rfl⟩
      · exact n3
      · exact tab_not ht e codeO_tbl) (fun z => by
      rcases hb with rfl | ⟨q, rfl⟩
      · obtain ⟨ps, e2, _⟩ := t3
        rw [z, hx] at e2
        cases e2
      · rw [z, hx] at e
        exact codeO_ins (Option.some.inj e).symm), fun b o e h _ m => k.keep b o e h m⟩
theorem KpT.of0 {T : List Addr} {P3 : Addr} {q3 : Str} {x : Addr} {H H' : Hp} (ht : ∀ P ∈ T, TabG H P) (t3 : TabS H P3 q3) (k : Kept [] H H') : KpT T P3 q3 x H H' :=
  ⟨fun P hP => let ⟨qs, h2, h3⟩ := ht P hP; ⟨qs, k _ _ h2 (by simp), h3⟩, tabS_by t3 fun b o e _ => k b o e (by simp), fun b o e _ _ _ => k b o e (by simp)⟩
theorem KpT.ofL {T : List Addr} {P3 : Addr} {q3 : Str} {x : Addr} {H H' : Hp} (ht : ∀ P ∈ T, TabG H P) (n3 : P3 ∉ T) (e : ∀ b o, H b = some o → b ≠ P3 → H' b = some o) (t3 : TabS H' P3 q3) : KpT T P3 q3 x H H' :=
  ⟨fun P hP => let ⟨qs, h2, h3⟩ := ht P hP; ⟨qs, e _ _ h2 (fun z => n3 (z ▸ hP)), h3⟩, t3, fun b o h _ n _ => e b o h n⟩
/-- a list that was not there is written -/
theorem KpT.put {T : List Addr} {P3 : Addr} {q3 : Str} {x l : Addr} {H H' : Hp} {o : HO} (k : KpT T P3 q3 x H H') (ht : ∀ P ∈ T, TabG H P) (t3 : TabS H P3 q3) (n : H l = none) (e : ∃ xs, H' l = some (.lst xs)) : KpT T P3 q3 x H (upd H' l o) :=
  ⟨fun P hP => by
    obtain ⟨qs, h2, h3⟩ := k.tab P hP
    obtain ⟨qs0, h20, _⟩ := ht P hP
    exact ⟨qs, (upd_ne (ne_of_none h20 n)).trans h2, h3⟩, tabS_by k.tl fun b o e2 hb => by
      obtain ⟨xs, e⟩ := e
      refine (upd_ne fun z => ?_).trans e2
      rw [z, e] at e2
      rcases hb with rfl | ⟨q, rfl⟩
      · obtain ⟨ps, e3, _⟩ := k.tl
        rw [z, e] at e3
        cases e3
      · exact codeO_lst (Option.some.inj e2).symm, fun b u e1 h1 h2 h3 => (upd_ne (ne_of_none e1 n)).trans (k.keep b u e1 h1 h2 h3)⟩
theorem HSx.kpt {T : List Addr} {P3 : Addr} {q3 : Str} {H H' : Hp} {x dx C ak ev a : Addr} {xs : List V} {evs : List Str} {b : Bool} (h : HSx H x dx C ak ev a xs evs b) (ht : ∀ P ∈ T, TabG H P) (t3 : TabS H P3 q3) (e : ∀ b o, H b = some o → b ∉ T → b ≠ P3 → H' b = some o) : HSx H' x dx C ak ev a xs evs b :=
  have g : ∀ {b : Addr} {o : HO}, H b = some o → (∀ ps, o ≠ .tbl ps) → H' b = some o := fun {b o} q n => e b o q (tab_not ht q n) (fun z => by
    obtain ⟨ps, e2, _⟩ := t3
    rw [← z, q] at e2
    exact n ps (Option.some.inj e2))
  ⟨⟨g h.S.ob (fun _ z => nomatch z), g h.S.ev (fun _ z => nomatch z), h.S.le⟩, g h.ask (fun _ z => nomatch z), g h.rows (fun _ z => nomatch z)⟩
end Ah
end
section
set_option Elab.async false
set_option linter.all false
set_option maxRecDepth 100000
set_option maxHeartbeats 2000000
namespace Ah
open PySem PySem.Spec PyProof.Rows L2
open GxR (TabB TabG Tabbed)
/-! ### a method that may raise, wished for at the caller's slots -/
theorem pe_methE {X : Cx} {CX : CXT} {k : Nat} {f C : Addr} {fd : FuncData} {ps : List Str} {sp : Sp} {E : L2.St → XK} {m : Str} {pos apos : Pos} {o e : Expr} {es : List Expr} {ta : TE} {t : TA} {pl : Sem Bool} (he : PE X o ta) (c : Cls X.K C) (hm : Meth X.K C m f) (F : FnOk X.prog X.w X.K X.mg X.base CX k f fd ps sp) (hr : Room k X.A) (hb : L2.Binds X.K fd ps []) (hx : ∀ σ, PassesAt CX X σ (E σ)) (ha : PA X (e :: es) t)
    (hst : starEach (e :: es) X.env = (false, eval e X.env) :: starEach es X.env := by rfl) (hpl : (backTo pos (starEach es X.env)).any (·.1) = false := by rfl)
    (ht : eval (.Call (.Attribute o m apos) (e :: es) [] pos) X.env = (do
      let ov ← eval o X.env
      standAt apos.atName
      let (f, first) ← holding [ov] (getMethod ov m pl)
      callWith pos f first (backTo pos (starEach (e :: es) X.env)) (backToKw pos (keywordEach [] X.env))) := by rfl) :
    PE X (.Call (.Attribute o m apos) (e :: es) [] pos) (L2H.tMethH C m sp E ta t) := by
  refine ⟨fun pins s σ H Q I h => ?_⟩
  refine PySem.W.methodCall_KW (pl := pl) (thn (he.run pins s σ H _ I h) fun u s1 ⟨x, H1, I1, rx, a, dx, fs, ex, ea, l, q⟩ => ?_) ht
  subst ex
  obtain rfl : u = Value.ref a := rx
  refine getmeth_ok I1 ea c hm l ?_
  refine PySem.W.callWith_K (first := [.ref a]) (h₀ := X.base) I.ok.mod.kin hm.kp (thn (ha.run pos pins s1 σ H1 _ I1 q) fun us s2 ⟨vs, H2, I2, r, q2⟩ => ⟨I2.kIn, ?_⟩) hst hpl
  exact run_fnS (us := .ref a :: us) (vs := .ref a :: vs) F hr hb (hx σ) I2 (.cons rfl r) q2
/-! ### House.end in a suite -/
section
variable {P : Program} {w : World} {K : PySem.W.Frag} {mg : Str → Option Value} {base : Heap} {f C : Addr} {fd : FuncData}
theorem ok_hendH (F : MthP K "end" "House.end" sHouseEnd f fd) (CH : ClsH K C) : L2H.FnH P w K mg base CX0 1 f fd ["self"] (spHEv C "ended" true) := by
  obtain ⟨oc, od, dV, kV, doc, pm, an, cdv, ct, osl, rfl, lk, hcd, hD, hK⟩ := F.ex
  refine L2H.fn_ofH lk hcd scHE (fun vs H Q E h => ?_) (fun A outer s H vs Q E p hot hr h => ?_)
  · obtain ⟨x, dx, ak, ev, rv, evs, b, rfl, _⟩ := h
    rfl
  · obtain ⟨x, dx, ak, ev, rv, evs, b, rfl, S, hl, k⟩ := h
    refine ⟨_, PSs.nox (pss_cons (ps_expr (pe_bm PySem.F.plainAttrs_list PySem.F.slot_list_append PySem.F.type_list_append mt_append (pe_fld (pv 0) rfl) (pa_cons pe_str pa_nil)))
      (pss_one (ps_fld (pv 0) pe_bl rfl))), ?_⟩
    have ne : ev ≠ x := fun z => by
      have e := S.ev
      rw [z, S.ob] at e
      cases e
    refine ⟨_, rfl, x, C, dx, _, _, rfl, S.ob, CH.c, CH.n3, rfl, .inl ⟨rfl, _, SqL.of S.ev⟩, ev, _, _, rfl, rfl, S.ev, by rw [List.length_map, sizeLine_eq]; omega, ?_⟩
    refine ⟨_, rfl, x, C, dx, _, rfl, by rw [upd_ne (Ne.symm ne)]; exact S.ob, CH.c, CH.n4, by show (4 : Nat) < 1000; decide, ?_⟩
    refine k _ (fun b o e hb => ?_) ⟨?_, ?_, by simp; omega⟩
    · simp only [List.mem_cons, List.mem_nil_iff, or_false, not_or] at hb
      rw [upd_ne hb.1, upd_ne hb.2]
      exact e
    · rw [upd_same]
      rfl
    · rw [upd_ne ne, upd_same, List.map_append]
      rfl
end
/-! ### House.do -/
def Dk.word : Dk → Str
  | .put _ _ => "put"
  | .drop => "drop"
  | .tell _ _ => "tell"
/-- all stands but the tables, the house itself and its book -/
structure KpE (T : List Addr) (x ev : Addr) (H H' : Hp) : Prop where
  tab : ∀ P ∈ T, TabG H' P
  keep : ∀ b o, H b = some o → b ∉ T → b ≠ x → b ≠ ev → H' b = some o
theorem KpE.of {T : List Addr} {x ev : Addr} {H H' : Hp} (ht : ∀ P ∈ T, TabG H P) (k : Kept [x, ev] H H') (hx : ∀ ps, H x ≠ some (.tbl ps)) (he : ∀ ps, H ev ≠ some (.tbl ps)) : KpE T x ev H H' := ⟨fun P hP => by
    obtain ⟨qs, h2, h3⟩ := ht P hP
    refine ⟨qs, k _ _ h2 (fun hm => ?_), h3⟩
    rcases List.mem_cons.mp hm with z | z
    · exact hx qs (by rw [← z]; exact h2)
    · exact he qs (by rw [← List.mem_singleton.mp z]; exact h2), fun b o e _ n1 n2 => k b o e (by simp [n1, n2])⟩
theorem KpE.ofX {T : List Addr} {x ev : Addr} {H H' : Hp} (k : KpX T x H H') : KpE T x ev H H' := ⟨k.tab, fun b o e h n _ => k.keep b o e h n⟩
theorem KpE.trans {T : List Addr} {x ev : Addr} {H H1 H2 : Hp} (a : KpE T x ev H H1) (b : KpE T x ev H1 H2) : KpE T x ev H H2 := ⟨b.tab, fun p o e h n m => b.keep p o (a.keep p o e h n m) h n m⟩
theorem KpE.k0 {T : List Addr} {x ev : Addr} {H H1 H2 : Hp} (a : KpE T x ev H H1) (b : Kept [] H1 H2) : KpE T x ev H H2 := a.trans (.ofX (KpX.of a.tab b))
theorem KpE.obj {T : List Addr} {x ev a : Addr} {H H' : Hp} {o : HO} (k : KpE T x ev H H') (ht : ∀ P ∈ T, TabG H P) (e : H a = some o) (hx : a ≠ x) (he : a ≠ ev) (n : ∀ ps, o ≠ .tbl ps := by intro ps q; cases q) : H' a = some o := k.keep a o e (fun hm => by
  obtain ⟨ps, e2, _⟩ := ht a hm
  rw [e] at e2
  exact n ps (Option.some.inj e2)) hx he
theorem HSx.note {H : Hp} {x dx C ak ev a : Addr} {xs : List V} {evs : List Str} {b : Bool} {z : Str} (h : HSx H x dx C ak ev a xs evs b) (ne : ak ≠ ev) (hl : evs.length < 100) : HSx (upd H ev (.lst (evs.map V.str ++ [V.str z]))) x dx C ak ev a xs (evs ++ [z]) b :=
  ⟨⟨(upd_ne fun z => by
    have e := h.S.ob
    rw [z, h.S.ev] at e
    cases e).trans h.S.ob, upd_same.trans (by rw [List.map_append]; rfl), by rw [List.length_append, List.length_singleton]; omega⟩, (upd_ne ne).trans h.ask, (upd_ne fun z => by
    have e := h.rows
    rw [z, h.S.ev] at e
    cases e).trans h.rows⟩
def spHDo (K : PySem.W.Frag) (T : List Addr) (C CN CR : Addr) : Sp := fun vs H Q E => ∃ (x dx ak ev a d : Addr) (xs : List V) (evs : List Str) (b : Bool) (n : Nat) (k : Dk), vs = [.ref x, .ref d] ∧ HSx H x dx C ak ev a xs evs b ∧ ak ≠ ev ∧ xs.length ≤ 24 ∧ evs.length < 100 ∧ H d = some (.tup (k.ws n)) ∧ k.ok H ∧ (∀ P ∈ T, TabG H P) ∧
  ((dueD xs n k).1.1 = "norow" → E (.ref CN) none H) ∧ ((dueD xs n k).1.1 = "row" → ∀ H' dd, Kp T H H' → H' dd = none → E (.ref CR) (some dd) (upd H' dd (.xd [("number", .int (n : Int))]))) ∧
  ((dueD xs n k).1.1 = "" → ∀ H' a', KpE T x ev H H' → HSx H' x dx C ak ev a' (dueD xs n k).2 (evs ++ [k.word]) b → Q (dueD xs n k).1.2 H')
theorem scHDo : FnScope ["self", "deed", "word", "answer"] ["self", "deed"] (defScope sHouseDo) := ⟨rfl, rfl, rfl, by decide +kernel, rfl, by decide +kernel, by decide +kernel⟩
section
variable {P : Program} {w : World} {K : PySem.W.Frag} {mg : Str → Option Value} {base : Heap} {f fPu fDr fTe C CN CR : Addr} {fd fdPu fdDr fdTe : FuncData} {T : List Addr}
theorem ok_hdo (F : MthP K "do" "House.do" sHouseDo f fd) (CH : ClsH K C)
    (mPu : Meth K C "put" fPu) (FPu : FnOk P w K mg base (L2N.CX P w) 6 fPu fdPu ["self", "number", "row"] (spHPut K T C CN CR)) (bPu : L2.Binds K fdPu ["self", "number", "row"] [])
    (mDr : Meth K C "drop" fDr) (FDr : FnOk P w K mg base (L2N.CX P w) 6 fDr fdDr ["self", "number"] (spHDrop T C CN)) (bDr : L2.Binds K fdDr ["self", "number"] [])
    (mTe : Meth K C "tell" fTe) (FTe : FnOk P w K mg base (L2N.CX P w) 6 fTe fdTe ["self", "number", "row"] (spHTell K T C CN CR)) (bTe : L2.Binds K fdTe ["self", "number", "row"] []) :
    FnOk P w K mg base (L2N.CX P w) 7 f fd ["self", "deed"] (spHDo K T C CN CR) := by
  refine F.ok scHDo (fun vs H Q E h => ?_) (fun cdv A outer s H vs Q E hr h => ?_)
  · obtain ⟨x, dx, ak, ev, a, d, xs, evs, b, n, k, rfl, _⟩ := h
    rfl
  · obtain ⟨x, dx, ak, ev, a, d, xs, evs, b, n, k, rfl, S, nae, hl, hle, hd, hk, ht, q1, q2, q3⟩ := h
    refine ⟨_, pss_cons (ps_set (i := 2) scHDo.nd rfl (.inl rfl) (pe_ix (show IxR _ (rIxT K) from ix_tup) (pv 1) pe_int (fun _ _ => rfl)))
      (pss_cons (ps_if (pt_cmpR op_eq (pv 2) pe_str (nomark _)) (pss_one (ps_set (i := 3) scHDo.nd rfl (.inl rfl) (pe_meth (pv 0) CH.c mPu FPu hr bPu .nil (L2N.passes_call (L2N.takes_of rfl rfl rfl rfl) (fun _ _ _ _ h => h)) (pa_cons (pe_ix (show IxR _ (rIxT K) from ix_tup) (pv 1) pe_int (fun _ _ => rfl)) (pa_cons (pe_ix (show IxR _ (rIxT K) from ix_tup) (pv 1) pe_int (fun _ _ => rfl)) pa_nil)))))
        (pss_one (ps_if (pt_cmpR op_eq (pv 2) pe_str (nomark _)) (pss_one (ps_set (i := 3) scHDo.nd rfl (.inl rfl) (pe_meth (pv 0) CH.c mDr FDr hr bDr .nil (L2N.passes_call (L2N.takes_of rfl rfl rfl rfl) (fun _ _ _ _ h => h)) (pa_cons (pe_ix (show IxR _ (rIxT K) from ix_tup) (pv 1) pe_int (fun _ _ => rfl)) pa_nil))))
          (pss_one (ps_set (i := 3) scHDo.nd rfl (.inl rfl) (pe_meth (pv 0) CH.c mTe FTe hr bTe .nil (L2N.passes_call (L2N.takes_of rfl rfl rfl rfl) (fun _ _ _ _ h => h)) (pa_cons (pe_ix (show IxR _ (rIxT K) from ix_tup) (pv 1) pe_int (fun _ _ => rfl)) (pa_cons (pe_ix (show IxR _ (rIxT K) from ix_tup) (pv 1) pe_int (fun _ _ => rfl)) pa_nil))))))))
      (pss_cons (ps_expr (pe_bm PySem.F.plainAttrs_list PySem.F.slot_list_append PySem.F.type_list_append mt_append (pe_fld (pv 0) rfl) (pa_cons (pv 2) pa_nil)))
      (pss_one (ps_ret (pv 3))))), ?_⟩
    -- behind the deed
    have fin : ∀ (v : V) (H3 : Hp) (a' : Addr), KpX T x H H3 → HSx H3 x dx C ak ev a' (dueD xs n k).2 evs b → (dueD xs n k).1 = (("" : Str), v) → (evs.map V.str).length < sizeLine ∧ Q v (upd H3 ev (.lst (evs.map V.str ++ [V.str k.word]))) := fun v H3 a' k3 S3 e3 => by
      refine ⟨by rw [List.length_map, sizeLine_eq]; omega, ?_⟩
      have S4 := S3.note (z := k.word) nae hle
      have := q3 (by rw [e3]) _ a' ((KpE.ofX (ev := ev) k3).trans (KpE.of k3.tab (fun b o e hb => (upd_ne fun z => by rw [z] at hb; simp at hb).trans e) (fun ps z => by rw [S3.S.ob] at z; cases z) (fun ps z => by rw [S3.S.ev] at z; cases z))) S4
      rw [e3] at this
      exact this
    cases k with
    | put rv rb =>
      have hd : H d = some (.tup [.str "put", .int (n : Int), rv]) := hd
      have hk : DRow H rv rb := hk
      refine ⟨_, rfl, d, _, 0, .str "put", rfl, rfl, SqT.of hd, at_of (j := 0) rfl rfl, ?_⟩
      refine ⟨_, rfl, rfl, _, rfl, iteT ?_⟩
      refine ⟨_, rfl, x, dx, _, rfl, S.S.ob, rfl, _, rfl, d, _, 1, .int n, rfl, rfl, SqT.of hd, at_of (j := 1) rfl rfl, _, rfl, d, _, 2, rv, rfl, rfl, SqT.of hd, at_of (j := 2) rfl rfl, x, dx, ak, ev, a, xs, evs, b, .int n, rv, rb, rfl, S, hl, .inl ⟨_, rfl⟩, hk.rowV, ht, fun h1 => ?_, fun h1 h2 H3 dd k3 nd => ?_, fun m hm hv hb h24 H3 a' k3 S3 => ?_⟩
      · have hn : xs.length < n := by
          have z : (decide ((0 : Int) ≤ n) && decide ((n : Int) < (xs.length : Int) + 1)) = false := h1
          simp at z
          omega
        exact q1 (by rw [show dueD xs n (.put rv rb) = ((("norow" : Str), V.non), xs) from if_pos hn])
      · have hn : ¬ xs.length < n := by
          have z : (decide ((0 : Int) ≤ n) && decide ((n : Int) < (xs.length : Int) + 1)) = true := h1
          simp at z
          omega
        have due : dueD xs n (.put rv rb) = ((("row" : Str), V.int n), xs) := by
          unfold dueD
          dsimp only
          rw [if_neg hn, if_pos h2]
        exact q2 (by rw [due]) H3 dd k3 nd
      · have em : m = n := by
          have := V.int.inj hm
          omega
        subst em
        have due : dueD xs m (.put rv rb) = ((("" : Str), V.non), xs.take m ++ rv :: xs.drop m) := by
          unfold dueD
          dsimp only
          rw [if_neg (by omega), if_neg (fun z => z.elim (fun z => by rw [hb] at z; cases z) (by omega))]
        obtain ⟨e7, e8⟩ := fin .non H3 a' k3 (by rw [due]; exact S3) (by rw [due])
        exact ⟨_, rfl, x, C, dx, _, _, rfl, S3.S.ob, CH.c, CH.n3, rfl, .inl ⟨rfl, _, SqL.of S3.S.ev⟩, _, rfl, ev, _, _, rfl, rfl, S3.S.ev, e7, _, rfl, e8⟩
    | drop =>
      have hd : H d = some (.tup [.str "drop", .int (n : Int)]) := hd
      refine ⟨_, rfl, d, _, 0, .str "drop", rfl, rfl, SqT.of hd, at_of (j := 0) rfl rfl, ?_⟩
      refine ⟨_, rfl, rfl, _, rfl, iteF ⟨_, rfl, rfl, _, rfl, iteT ?_⟩⟩
      refine ⟨_, rfl, x, dx, _, rfl, S.S.ob, rfl, _, rfl, d, _, 1, .int n, rfl, rfl, SqT.of hd, at_of (j := 1) rfl rfl, x, dx, ak, ev, a, xs, evs, b, .int n, rfl, S, hl, .inl ⟨_, rfl⟩, ht, fun h1 => ?_, fun m v hm hv H3 a' k3 S3 => ?_⟩
      · have hn : xs.length ≤ n := by
          have z : (decide ((0 : Int) ≤ n) && decide ((n : Int) < (xs.length : Int))) = false := h1
          simp at z
          omega
        have due : dueD xs n .drop = ((("norow" : Str), V.non), xs) := by
          unfold dueD
          rw [List.getElem?_eq_none hn]
        exact q1 (by rw [due])
      · have em : m = n := by
          have := V.int.inj hm
          omega
        subst em
        have due : dueD xs m .drop = ((("" : Str), v), xs.take m ++ xs.drop (m + 1)) := by
          unfold dueD
          rw [hv]
        obtain ⟨e7, e8⟩ := fin v H3 a' k3 (by rw [due]; exact S3) (by rw [due])
        exact ⟨_, rfl, x, C, dx, _, _, rfl, S3.S.ob, CH.c, CH.n3, rfl, .inl ⟨rfl, _, SqL.of S3.S.ev⟩, _, rfl, ev, _, _, rfl, rfl, S3.S.ev, e7, _, rfl, e8⟩
    | tell rv rb =>
      have hd : H d = some (.tup [.str "tell", .int (n : Int), rv]) := hd
      have hk : DRow H rv rb := hk
      refine ⟨_, rfl, d, _, 0, .str "tell", rfl, rfl, SqT.of hd, at_of (j := 0) rfl rfl, ?_⟩
      refine ⟨_, rfl, rfl, _, rfl, iteF ⟨_, rfl, rfl, _, rfl, iteF ?_⟩⟩
      refine ⟨_, rfl, x, dx, _, rfl, S.S.ob, rfl, _, rfl, d, _, 1, .int n, rfl, rfl, SqT.of hd, at_of (j := 1) rfl rfl, _, rfl, d, _, 2, rv, rfl, rfl, SqT.of hd, at_of (j := 2) rfl rfl, x, dx, ak, ev, a, xs, evs, b, .int n, rv, rb, rfl, S, hl, .inl ⟨_, rfl⟩, hk.rowV, ht, fun h1 => ?_, fun h1 h2 H3 dd k3 nd => ?_, fun m v hm hv hb H3 a' k3 S3 => ?_⟩
      · have hn : xs.length ≤ n := by
          have z : (decide ((0 : Int) ≤ n) && decide ((n : Int) < (xs.length : Int))) = false := h1
          simp at z
          omega
        have due : dueD xs n (.tell rv rb) = ((("norow" : Str), V.non), xs) := by
          unfold dueD
          dsimp only
          rw [List.getElem?_eq_none hn]
        exact q1 (by rw [due])
      · have hn : n < xs.length := by
          have z : (decide ((0 : Int) ≤ n) && decide ((n : Int) < (xs.length : Int))) = true := h1
          simp at z
          omega
        have due : dueD xs n (.tell rv rb) = ((("row" : Str), V.int n), xs) := by
          unfold dueD
          dsimp only
          rw [List.getElem?_eq_getElem hn, h2]
          rfl
        exact q2 (by rw [due]) H3 dd k3 nd
      · have em : m = n := by
          have := V.int.inj hm
          omega
        subst em
        have due : dueD xs m (.tell rv rb) = ((("" : Str), v), xs.take m ++ rv :: xs.drop (m + 1)) := by
          unfold dueD
          dsimp only
          rw [hv, hb]
          rfl
        obtain ⟨e7, e8⟩ := fin v H3 a' k3 (by rw [due]; exact S3) (by rw [due])
        exact ⟨_, rfl, x, C, dx, _, _, rfl, S3.S.ob, CH.c, CH.n3, rfl, .inl ⟨rfl, _, SqL.of S3.S.ev⟩, _, rfl, ev, _, _, rfl, rfl, S3.S.ev, e7, _, rfl, e8⟩
end
end Ah
end
section
set_option Elab.async false
set_option linter.all false
set_option maxRecDepth 100000
set_option maxHeartbeats 4000000
namespace Ah
open PySem PySem.Spec PyProof.Rows L2 LamX
open GxR (TabG)
/-! ### the law of houses, deed by deed -/
def RowRef (H : Hp) (v : V) : Prop := ∃ (r : Addr) (q : Rw), v = .ref r ∧ q.few ∧ H r = some (.tup (q.ws.map V.str))
theorem due_val {xs : List V} {n : Nat} {k : Dk} : (dueD xs n k).1.2 = .non ∨ (∃ i, (dueD xs n k).1.2 = .int i) ∨ (dueD xs n k).1.2 ∈ xs := by
  cases k with
  | put rv rb =>
    unfold dueD
    dsimp only
    split
    · exact .inl rfl
    · split
      · exact .inr (.inl ⟨_, rfl⟩)
      · exact .inl rfl
  | drop =>
    unfold dueD
    dsimp only
    cases e : xs[n]? with
    | none => exact .inl rfl
    | some v => exact .inr (.inr (List.mem_of_getElem? e))
  | tell rv rb =>
    unfold dueD
    dsimp only
    cases e : xs[n]? with
    | none => exact .inl rfl
    | some v =>
      dsimp only
      split
      · exact .inr (.inr (List.mem_of_getElem? e))
      · exact .inr (.inl ⟨_, rfl⟩)
theorem due_rows {H : Hp} {xs : List V} {n : Nat} {k : Dk} (hk : k.ok H) (hx : ∀ v ∈ xs, RowRef H v) (hl : xs.length ≤ 24) : (∀ v ∈ (dueD xs n k).2, RowRef H v) ∧ (dueD xs n k).2.length ≤ 24 := by
  have new : ∀ {rv : V} {rb : Bool}, DRow H rv rb → rb = true → RowRef H rv := fun {rv rb} ⟨r, ws, e, er, z⟩ hb => by
    rcases z with ⟨_, q, hq, rfl⟩ | ⟨z, _⟩
    · exact ⟨r, q, e, hq, er⟩
    · rw [hb] at z
      cases z
  have tk : ∀ m, ∀ v ∈ xs.take m, RowRef H v := fun m v hv => hx v (List.mem_of_mem_take hv)
  have dr : ∀ m, ∀ v ∈ xs.drop m, RowRef H v := fun m v hv => hx v (List.mem_of_mem_drop hv)
  cases k with
  | put rv rb =>
    unfold dueD
    dsimp only
    split
    · exact ⟨hx, hl⟩
    · split
      · exact ⟨hx, hl⟩
      · rename_i h1 h2
        have hb : rb = true := by
          cases rb with
          | true => rfl
          | false => exact absurd (.inl rfl) h2
        have h24 : xs.length ≠ 24 := fun z => h2 (.inr z)
        refine ⟨fun v hv => ?_, ?_⟩
        · rcases List.mem_append.mp hv with h | h
          · exact tk _ v h
          · rcases List.mem_cons.mp h with rfl | h
            · exact new (show DRow H v rb from hk) hb
            · exact dr _ v h
        · rw [List.length_append, List.length_take, List.length_cons, List.length_drop]
          omega
  | drop =>
    unfold dueD
    dsimp only
    cases e : xs[n]? with
    | none => exact ⟨hx, hl⟩
    | some v =>
      refine ⟨fun v hv => ?_, ?_⟩
      · rcases List.mem_append.mp hv with h | h
        · exact tk _ v h
        · exact dr _ v h
      · show (xs.take n ++ xs.drop (n + 1)).length ≤ 24
        rw [List.length_append, List.length_take, List.length_drop]
        omega
  | tell rv rb =>
    unfold dueD
    dsimp only
    cases e : xs[n]? with
    | none => exact ⟨hx, hl⟩
    | some v =>
      have hn : n < xs.length := (List.getElem?_eq_some_iff.mp e).1
      dsimp only
      split
      · rename_i hb
        refine ⟨fun v hv => ?_, ?_⟩
        · rcases List.mem_append.mp hv with h | h
          · exact tk _ v h
          · rcases List.mem_cons.mp h with rfl | h
            · exact new (show DRow H v rb from hk) hb
            · exact dr _ v h
        · show (xs.take n ++ rv :: xs.drop (n + 1)).length ≤ 24
          rw [List.length_append, List.length_take, List.length_cons, List.length_drop]
          omega
      · exact ⟨hx, hl⟩
theorem RowRef.keep {H H' : Hp} {v : V} (h : RowRef H v) (k : ∀ b xs, H b = some (.tup xs) → H' b = some (.tup xs)) : RowRef H' v := let ⟨r, q, e, hq, er⟩ := h; ⟨r, q, e, hq, k _ _ er⟩
theorem at_refl {K : PySem.W.Frag} {H : Hp} {n : Nat} : ∀ {xs : List V}, (∀ x ∈ xs, At K H n x x) → Paired (At K H n) xs xs
  | [], _ => .nil
  | x :: xs, h => .cons (h x (by simp)) (at_refl fun y hy => h y (List.mem_cons_of_mem _ hy))
theorem at_row {K : PySem.W.Frag} {H : Hp} {v : V} (h : RowRef H v) : At K H 1 v v := by
  obtain ⟨r, q, rfl, hq, er⟩ := h
  refine .inr ⟨r, r, _, _, rfl, rfl, .inl ⟨.inl (.of er), .inl (.of er)⟩, ?_, at_refl fun z hz => ?_⟩
  · rw [List.length_map]
    exact Nat.le_trans (show q.ws.length ≤ 10 by cases q <;> simp [Rw.ws]) (by decide)
  · obtain ⟨y, _, rfl⟩ := List.mem_map.mp hz
    exact ⟨rfl, trivial⟩
theorem at_rows {K : PySem.W.Frag} {H : Hp} {a b : Addr} {xs : List V} (ha : H a = some (.tup xs)) (hb : H b = some (.tup xs)) (hl : xs.length ≤ 24) (h : ∀ v ∈ xs, RowRef H v) : At K H 2 (.ref a) (.ref b) :=
  .inr ⟨a, b, _, _, rfl, rfl, .inl ⟨.inl (.of ha), .inl (.of hb)⟩, Nat.le_trans hl (by decide), at_refl fun v hv => at_row (h v hv)⟩
theorem at_told {K : PySem.W.Frag} {H : Hp} {p q : Addr} {z : Str} {v : V} (hp : H p = some (.tup [.str z, v])) (hq : H q = some (.tup [.str z, v])) (hv : v = .non ∨ (∃ i, v = .int i) ∨ RowRef H v) : At K H 2 (.ref p) (.ref q) := by
  refine .inr ⟨p, q, _, _, rfl, rfl, .inl ⟨.inl (.of hp), .inl (.of hq)⟩, by show (2 : Nat) ≤ 1000000; decide, .cons (.inl ⟨rfl, trivial⟩) (.cons ?_ .nil)⟩
  rcases hv with rfl | ⟨i, rfl⟩ | h
  · exact .inl ⟨rfl, trivial⟩
  · exact .inl ⟨rfl, trivial⟩
  · exact at_row h
end Ah
end
section
set_option Elab.async false
set_option linter.all false
set_option maxRecDepth 100000
set_option maxHeartbeats 2000000
namespace Ah
open PySem PySem.Spec PyProof.Rows L2
open GxR (TabB TabG Tabbed)
/-! ### a batch -/
def stB (s : List V × List V) (q : Nat × Dk) : List V × List V := (s.1 ++ [(dueD s.2 q.1 q.2).1.2], (dueD s.2 q.1 q.2).2)
def ranB (xs : List V) (ds : List (Nat × Dk)) : List V × List V := ds.foldl stB ([], xs)
theorem ranB_snoc (xs : List V) (ds : List (Nat × Dk)) (q : Nat × Dk) : ranB xs (ds ++ [q]) = stB (ranB xs ds) q := by
  unfold ranB
  rw [List.foldl_append]
  rfl
theorem ranB_take {xs : List V} {ds : List (Nat × Dk)} {i : Nat} {q : Nat × Dk} (h : ds[i]? = some q) : ranB xs (ds.take (i + 1)) = stB (ranB xs (ds.take i)) q := by
  rw [List.take_add_one, h]
  exact ranB_snoc _ _ _
def okB (xs : List V) (ds : List (Nat × Dk)) (i : Nat) : Prop := ∀ q, ds[i]? = some q → (dueD (ranB xs (ds.take i)).2 q.1 q.2).1.1 = ""
def wordsB (ds : List (Nat × Dk)) : List Str := ds.map fun q => q.2.word
theorem due_name (xs : List V) (n : Nat) (k : Dk) : (dueD xs n k).1.1 = "" ∨ (dueD xs n k).1.1 = "norow" ∨ (dueD xs n k).1.1 = "row" := by
  cases k with
  | put rv rb =>
    unfold dueD
    dsimp only
    split
    · exact .inr (.inl rfl)
    · split
      · exact .inr (.inr rfl)
      · exact .inl rfl
  | drop =>
    unfold dueD
    dsimp only
    split
    · exact .inr (.inl rfl)
    · exact .inl rfl
  | tell rv rb =>
    unfold dueD
    dsimp only
    split
    · exact .inr (.inl rfl)
    · split
      · exact .inl rfl
      · exact .inr (.inr rfl)
theorem due_len {xs : List V} {n : Nat} {k : Dk} (hl : xs.length ≤ 24) : (dueD xs n k).2.length ≤ 24 := by
  cases k with
  | put rv rb =>
    unfold dueD
    dsimp only
    split
    · exact hl
    · split
      · exact hl
      · rename_i h1 h2
        have h24 : xs.length ≠ 24 := fun z => h2 (.inr z)
        rw [List.length_append, List.length_take, List.length_cons, List.length_drop]
        omega
  | drop =>
    unfold dueD
    dsimp only
    cases e : xs[n]? with
    | none => exact hl
    | some v =>
      show (xs.take n ++ xs.drop (n + 1)).length ≤ 24
      rw [List.length_append, List.length_take, List.length_drop]
      omega
  | tell rv rb =>
    unfold dueD
    dsimp only
    cases e : xs[n]? with
    | none => exact hl
    | some v =>
      have hn : n < xs.length := (List.getElem?_eq_some_iff.mp e).1
      dsimp only
      split
      · show (xs.take n ++ rv :: xs.drop (n + 1)).length ≤ 24
        rw [List.length_append, List.length_take, List.length_cons, List.length_drop]
        omega
      · exact hl
/-- the deeds as they stand -/
def DeedAt (H : Hp) (p : Addr) (q : Nat × Dk) : Prop := H p = some (.tup (q.2.ws q.1)) ∧ q.2.ok H
theorem DeedAt.keep {H H' : Hp} {p : Addr} {q : Nat × Dk} (k : ∀ b xs, H b = some (.tup xs) → H' b = some (.tup xs)) (h : DeedAt H p q) : DeedAt H' p q := by
  refine ⟨k _ _ h.1, ?_⟩
  have g : ∀ {rv : V} {rb : Bool}, DRow H rv rb → DRow H' rv rb := fun ⟨r, ws, e, er, z⟩ => ⟨r, ws, e, k _ _ er, z⟩
  obtain ⟨n, d⟩ := q
  cases d with
  | put rv rb => exact g (show DRow H rv rb from h.2)
  | drop => trivial
  | tell rv rb => exact g (show DRow H rv rb from h.2)
theorem KpE.tup {T : List Addr} {x ev C dx : Addr} {fs : List (Str × V)} {es : List V} {H H' : Hp} (k : KpE T x ev H H') (ht : ∀ P ∈ T, TabG H P) (hx : H x = some (.ins C dx fs)) (he : H ev = some (.lst es)) : ∀ b xs, H b = some (.tup xs) → H' b = some (.tup xs) := fun b xs e => k.obj ht e (fun z => by rw [z, hx] at e; cases e) (fun z => by rw [z, he] at e; cases e)
theorem deed_v {K : PySem.W.Frag} {H : Hp} {p : Addr} {q : Nat × Dk} (h : DeedAt H p q) : DeedV K H (.ref p) true := by
  obtain ⟨n, d⟩ := q
  refine .inr ⟨p, _, rfl, SqT.of h.1, ?_, fun z hz => ?_, ?_⟩
  · cases d with
    | put rv rb => show (3 : Nat) ≤ 1000; decide
    | drop => show (2 : Nat) ≤ 1000; decide
    | tell rv rb => show (3 : Nat) ≤ 1000; decide
  · have : ∃ s : Str, z = .str s ∧ s.length ≤ sizeLine := by
      cases d with
      | put rv rb => cases hz; exact ⟨_, rfl, by decide +kernel⟩
      | drop => cases hz; exact ⟨_, rfl, by decide +kernel⟩
      | tell rv rb => cases hz; exact ⟨_, rfl, by decide +kernel⟩
    obtain ⟨s, rfl, hs⟩ := this
    exact .inl ⟨s, rfl, hs⟩
  · cases d with
    | put rv rb => show true = (match deedsL.lookup ("put" : Str) with | some n => decide (3 = n) | none => false); decide +kernel
    | drop => show true = (match deedsL.lookup ("drop" : Str) with | some n => decide (2 = n) | none => false); decide +kernel
    | tell rv rb => show true = (match deedsL.lookup ("tell" : Str) with | some n => decide (3 = n) | none => false); decide +kernel
theorem noneK {H H1 : Hp} {b : Addr} (k : Kept [] H H1) (n : H1 b = none) : H b = none := by
  cases e : H b with
  | none => rfl
  | some o => rw [k _ _ e (by simp)] at n; cases n
theorem HSx.ax {H : Hp} {x dx C ak ev a : Addr} {xs : List V} {evs : List Str} {b : Bool} (S : HSx H x dx C ak ev a xs evs b) : a ∉ [x, ev] := by
  have n1 : a ≠ x := fun z => by
    have e := S.rows
    rw [z, S.S.ob] at e
    cases e
  have n2 : a ≠ ev := fun z => by
    have e := S.rows
    rw [z, S.S.ev] at e
    cases e
  simp [n1, n2]
theorem pss_of {X : Cx} {b : List Stmt} {t : TS} (h : ∀ D σ H, t D σ H → ∃ t', PSs X b t' ∧ t' D σ H) : PSs X b t := ⟨fun pins s σ H D I q => let ⟨_, T, r⟩ := h D σ H q; T.run pins s σ H D I r⟩
theorem do_mono {K : PySem.W.Frag} {T : List Addr} {C CN CR : Addr} {vs : List V} {H : Hp} {Q Q' : VK} {E : XK} (h : spHDo K T C CN CR vs H Q E) (m : ∀ v H', Q v H' → Q' v H') : spHDo K T C CN CR vs H Q' E :=
  let ⟨x, dx, ak, ev, a, d, xs, evs, b, n, k, e, S, n1, h1, h2, h3, h4, h5, q1, q2, q3⟩ := h
  ⟨x, dx, ak, ev, a, d, xs, evs, b, n, k, e, S, n1, h1, h2, h3, h4, h5, q1, q2, fun z H' a' k1 k2 => m _ _ (q3 z H' a' k1 k2)⟩
/-- one deed of a batch -/
def tbB (K : PySem.W.Frag) (T : List Addr) (C CN CR : Addr) : WX → TS := fun W D σ H => ∃ (x dx d out : Addr) (fs : List (Str × V)) (l kp a n : Option V) (xs : List V), σ = [some (.ref x), l, kp, a, some (.ref out), n, some (.ref d)] ∧ H x = some (.ins C dx fs) ∧ fs.lookup ("do" : Str) = none ∧ H out = some (.lst xs) ∧
  spHDo K T C CN CR [.ref x, .ref d] H (fun v H1 => ∃ acc, H1 out = some (.lst acc) ∧ acc.length < sizeLine ∧ D.nx σ (upd H1 out (.lst (acc ++ [v])))) (fun cls dd H1 => W cls dd σ H1)
/-- behind a deed that was refused -/
def tsB (C CHa : Addr) (Wout : WX) : TS := fun _ σ H => ∃ (x dx ak ev : Addr) (rv av : V) (evs : List Str) (b kp : Bool) (i : Int) (l so sd : Option V), σ = [some (.ref x), l, some (.bl kp), some av, so, some (.int i), sd] ∧ HSt H x dx C ak ev rv evs b ∧ evs.length < 100 ∧
  ∀ H1, Kept [x, ev] H H1 → HSt H1 x dx C ak ev rv (evs ++ [("ended" : Str)]) true →
    (kp = true → ∀ d, H1 d = none → Wout (.ref CHa) (some d) σ (upd H1 d (.xd [("done", .int i), ("number", .int i)]))) ∧
    (kp = false → ∀ d, upd H1 x (.ins C dx (fsH av (.ref ak) (.ref ev) true)) d = none → Wout (.ref CHa) (some d) σ (upd (upd H1 x (.ins C dx (fsH av (.ref ak) (.ref ev) true))) d (.xd [("done", .int 0), ("number", .int i)])))
def spBatchK (K : PySem.W.Frag) (T : List Addr) (C CHa : Addr) : Sp := fun vs H Q E => ∃ (x dx ak ev a l : Addr) (xs : List V) (evs : List Str) (b kp : Bool) (ps : List Addr) (ds : List (Nat × Dk)) (m : Nat), vs = [.ref x, .ref l, .bl kp] ∧ HSx H x dx C ak ev a xs evs b ∧ ak ≠ ev ∧ l ≠ ev ∧ xs.length ≤ 24 ∧ evs.length + ds.length + 2 ≤ 100 ∧
  H l = some (.lst (ps.map V.ref)) ∧ Paired (DeedAt H) ps ds ∧ (∀ P ∈ T, TabG H P) ∧ m ≤ ds.length ∧ (∀ i, i < m → okB xs ds i) ∧
  ((m = ds.length ∧ ∀ H' out a', KpE T x ev H H' → H out = none → H' out = some (.lst (ranB xs ds).1) → HSx H' x dx C ak ev a' (ranB xs ds).2 (evs ++ [("begun" : Str)] ++ wordsB ds ++ [("ended" : Str)]) true → Q (.ref out) H') ∨
   ∃ q, ds[m]? = some q ∧ (dueD (ranB xs (ds.take m)).2 q.1 q.2).1.1 ≠ "" ∧ ∀ H' d a', KpE T x ev H H' → H' d = none → HSx H' x dx C ak ev a' (if kp = true then (ranB xs (ds.take m)).2 else xs) (evs ++ [("begun" : Str)] ++ wordsB (ds.take m) ++ [("ended" : Str)]) true →
     E (.ref CHa) (some d) (upd H' d (.xd [("done", .int (if kp = true then (m : Int) else 0)), ("number", .int (m : Int))])))
section
variable {P : Program} {w : World} {K : PySem.W.Frag} {mg : Str → Option Value} {base : Heap} {f fC fB fE fDo fHa C Cb CN CR CHa : Addr} {fd fdC fdB fdE fdDo fdHa : FuncData} {T : List Addr}
theorem ok_hbatchK (F : FunD K "batch" "House.batch" (defArgs sHouseBatch) (defBody sHouseBatch) (defScope sHouseBatch) [] [("keep", .bl true)] f fd) (CH : ClsH K C) (W : TW K mg)
    (gC : mg "check_deeds" = some (.ref fC)) (FC : FnOk P w K mg base (L2.CX P w) 3 fC fdC ["deeds"] (spChD K Cb)) (kC : PySem.W.keepIn K (.ref fC) = true) (bC : Binds K fdC ["deeds"] [])
    (mB : Meth K C "begin" fB) (FB : FnOk P w K mg base CX0 1 fB fdB ["self"] (spHEv C "begun" false)) (bB : Binds K fdB ["self"] [])
    (mE : Meth K C "end" fE) (FE : FnOk P w K mg base CX0 1 fE fdE ["self"] (spHEv C "ended" true)) (FEH : L2H.FnH P w K mg base CX0 1 fE fdE ["self"] (spHEv C "ended" true)) (bE : Binds K fdE ["self"] [])
    (mD : Meth K C "do" fDo) (FD : FnOk P w K mg base (L2N.CX P w) 7 fDo fdDo ["self", "deed"] (spHDo K T C CN CR)) (bD : Binds K fdDo ["self", "deed"] [])
    (gN : mg "NoRow" = some (.ref CN)) (gR : mg "BadRow" = some (.ref CR)) (x1 : PySem.W.exmAny K (.ref CN) [.ref CN, .ref CR] = some true) (x2 : PySem.W.exmAny K (.ref CR) [.ref CN, .ref CR] = some true)
    (R : Two K CHa fHa "number" "done") (FH : L2H.FnH P w K mg base (L2.CX P w) 1 fHa fdHa ["self", "number", "done"] (spErr2 CHa "number" "done")) (bH : Binds K fdHa ["self", "number", "done"] []) (gH : mg "Halted" = some (.ref CHa)) :
    FnOk P w K mg base (L2.CX P w) 8 f fd ["self", "deeds", "keep"] (spBatchK K T C CHa) := by
  refine F.ok scHBa (fun vs H Q E h => ?_) (fun cdv A outer s H vs Q E hr h => ?_)
  · obtain ⟨x, dx, ak, ev, a, l, xs, evs, b, kp, ps, ds, m, rfl, _⟩ := h
    rfl
  · obtain ⟨x, dx, ak, ev, a, l, xs, evs, b, kp, ps, ds, m, rfl, S, nae, nle, hlx, hle, hl, hds, ht, hm, hok, hq⟩ := h
    refine ⟨_, pss_cons (ps_expr (pe_call FC (hr.mono (by decide)) (by rfl) gC kC bC .nil (passes_call (takes_of rfl rfl rfl rfl) (fun _ _ _ _ h => h)) (pa_cons (pv 1) pa_nil)))
      (pss_cons (ps_set (i := 3) scHBa.nd rfl (.inl rfl) (pe_fld (pv 0) rfl)) (pss_cons (ps_set (i := 4) scHBa.nd rfl (.inl rfl) (pe_lst pa_nil))
      (pss_cons (ps_expr (pe_meth0 (pv 0) CH.c mB FB (hr.mono (by decide)) bB .nil pass0))
      (pss_cons (ps_for (passes_of rfl) rfl (pi_enum (by rfl) W.enu (pa_cons (pv 1) pa_nil)) (pg_tup rfl (pgs_cons (pg_name (i := 5) scHBa.nd rfl (.inl rfl)) (pgs_cons (pg_name (i := 6) scHBa.nd rfl (.inl rfl)) pgs_nil)))
        (pss_one (L2H.ps_try_two (tb := tbB K T C CN CR) (ts := fun _ _ _ => tsB C CHa (fun cls d _ H' => E cls d H')) (Wout := fun cls d _ H' => E cls d H') rfl rfl (by rfl) gN (by rfl) gR (L2H.passesAt_of rfl) (takes_of rfl rfl rfl rfl) (fun Wx pn xe tkW _ => ?hb) (fun a oe cls d pn hz hfv tkS hot => ?hs))))
      (pss_cons (ps_expr (pe_meth0 (pv 0) CH.c mE FE (hr.mono (by decide)) bE .nil pass0)) (pss_one (ps_ret (pv 4)))))))), ?_⟩
    case hb =>
      refine pss_of fun D σ H1 h => ?_
      obtain ⟨x, dx, d, out, fs, l, kp, a, n, xs, rfl, hx, hlk, ho, hd⟩ := h
      refine ⟨_, pss_one (ps_expr (pe_bm PySem.F.plainAttrs_list PySem.F.slot_list_append PySem.F.type_list_append mt_append (pv 4) (pa_cons (pe_methE (pv 0) CH.c mD FD hr bD (L2N.passAt tkW) (pa_cons (pv 6) pa_nil)) pa_nil))), ?_⟩
      refine ⟨_, rfl, .inl ⟨rfl, _, SqL.of ho⟩, _, rfl, x, dx, _, rfl, hx, hlk, _, rfl, ?_⟩
      unfold tNil
      exact do_mono hd fun v H2 ⟨acc, e1, e2, e3⟩ => ⟨out, acc, v, rfl, rfl, e1, e2, e3⟩
    case hs =>
      refine pss_of fun D σ H1 h => ?_
      obtain ⟨x, dx, ak, ev, rv, av, evs, b, kp, i, l, so, sd, rfl, S, hle, q⟩ := h
      refine ⟨_, pss_cons (ps_expr (pe_meth0H (E := fun _ _ _ _ => False) (pv 0) CH.c mE FEH (L2H.roomH_mark (hr.mono (by decide)) _) hot bE (fun _ _ _ _ _ _ _ h => h.elim)))
        (pss_cons (ps_if (pt_cmpR op_isBl (pv 2) pe_bl (nomark _)) (pss_one (ps_raise2H hot tkS R FH (L2H.roomH_mark (hr.mono (by decide)) _) bH (by rfl) gH (pv 5) (pv 5))) pss_nil)
        (pss_cons (ps_fld (pv 0) (pv 3) rfl) (pss_one (ps_raise2H hot tkS R FH (L2H.roomH_mark (hr.mono (by decide)) _) bH (by rfl) gH (pv 5) pe_int)))), ?_⟩
      refine ⟨_, rfl, x, dx, _, rfl, S.ob, rfl, x, dx, ak, ev, rv, evs, b, rfl, S, hle, fun H3 k3 S3 => ?_⟩
      obtain ⟨q1, q2⟩ := q H3 k3 S3
      refine ⟨_, rfl, kp, true, rfl, rfl, _, rfl, ?_⟩
      cases kp with
      | true => exact iteT ⟨_, rfl, _, rfl, two_q fun d hd => q1 rfl d hd⟩
      | false =>
        refine iteF ⟨_, rfl, _, rfl, x, C, dx, _, rfl, S3.ob, CH.c, CH.n1, by show (4 : Nat) < 1000; decide, ?_⟩
        exact ⟨_, rfl, two_q fun d hd => q2 rfl d hd⟩
    have hlen : ps.length = ds.length := hds.length
    have akx : ak ≠ x := fun z => by
      have e := S.ask
      rw [z, S.S.ob] at e
      cases e
    have lx : l ≠ x := fun z => by
      rw [z, S.S.ob] at hl
      cases hl
    refine ⟨_, rfl, _, rfl, .inr ⟨l, ps.map V.ref, fun _ => true, rfl, hl, fun v hv => ?_, fun _ H1 k1 => ?_, fun j v e h => nomatch h⟩⟩
    · obtain ⟨p, hp, rfl⟩ := List.mem_map.mp hv
      obtain ⟨i, hi⟩ := List.mem_iff_getElem?.mp hp
      obtain ⟨q, _, hq⟩ := paired_at hds hi
      exact deed_v hq
    have K1 : Kept [] H H1 := fun b o e _ => k1.at e
    have S1 := S.kept K1
    refine ⟨_, rfl, x, C, dx, _, _, rfl, S1.S.ob, CH.c, CH.n1, rfl, ?_⟩
    refine ⟨by decide, fun out nout => ?_⟩
    have K2 := K1.upd (o := .lst []) nout
    have S2 := S1.kept ((Kept.refl H1).upd (o := .lst []) nout)
    have ho0 : H out = none := noneK K1 nout
    have ox : out ≠ x := fun z => by rw [z, S.S.ob] at ho0; cases ho0
    have oe : out ≠ ev := fun z => by rw [z, S.S.ev] at ho0; cases ho0
    refine ⟨_, rfl, x, dx, _, rfl, S2.S.ob, rfl, x, dx, ak, ev, .ref a, evs, b, rfl, S2.S, by omega, fun H3 k3 S3 => ?_⟩
    have ht2 := (KpX.of (x := x) ht K2).tab
    have E3 : KpE T x ev H H3 := (KpE.ofX (ev := ev) (KpX.of ht K2)).trans (KpE.of ht2 k3 (fun ps z => by rw [S2.S.ob] at z; cases z) (fun ps z => by rw [S2.S.ev] at z; cases z))
    have X3 : HSx H3 x dx C ak ev a xs (evs ++ [("begun" : Str)]) false := ⟨S3, k3 _ _ S2.ask (by simp [akx, nae]), k3 _ _ S2.rows S2.ax⟩
    have hl3 : ∀ {H' : Hp}, KpE T x ev H H' → H' l = some (.lst (ps.map V.ref)) := fun k => k.obj ht hl lx nle
    have ha3 : ∀ {H' : Hp}, KpE T x ev H H' → H' a = some (.tup xs) := fun k => k.tup ht S.S.ob S.S.ev _ _ S.rows
    refine ⟨_, rfl, l, ps.map V.ref, rfl, SqL.of (hl3 E3), for_it (tb := fun D σ H' => tbB K T C CN CR (L2H.wTwo K (.ref CN) (.ref CR) (fun _ _ _ => tsB C CHa (fun cls d _ H' => E cls d H')) D) D σ H') (walk_enum (K := K) (a := l) (xs := ps.map V.ref)) (fun i σ H' => ∃ v5 v6 a', i ≤ m ∧ σ = [some (.ref x), some (.ref l), some (.bl kp), some (.ref a), some (.ref out), v5, v6] ∧ KpE T x ev H H' ∧ H' out = some (.lst (ranB xs (ds.take i)).1) ∧
        HSx H' x dx C ak ev a' (ranB xs (ds.take i)).2 (evs ++ [("begun" : Str)] ++ wordsB (ds.take i)) false ∧ (ranB xs (ds.take i)).2.length ≤ 24)
      ⟨none, none, a, Nat.zero_le _, rfl, E3, k3 _ _ upd_same (by simp [ox, oe]), by rw [show wordsB (ds.take 0) = [] from rfl, List.append_nil]; exact X3, hlx⟩ (fun i σ H' _ ⟨_, _, _, _, _, k, _⟩ => SqL.of (hl3 k)) ?_ ?_⟩
    · rintro i y σ Ha Hb hi ⟨v5, v6, a', him, rfl, kE, eo, SS, l24⟩ ⟨Tp, y1, y2, rfl, nT, rfl, e1, e2⟩
      cases e1
      have e2 : (ps.map V.ref)[i]? = some y2 := e2
      obtain ⟨p, hp, rfl⟩ : ∃ p, ps[i]? = some p ∧ y2 = .ref p := by
        rw [List.getElem?_map] at e2
        cases e : ps[i]? with
        | none => rw [e] at e2; cases e2
        | some p => rw [e] at e2; exact ⟨p, rfl, (Option.some.inj e2).symm⟩
      obtain ⟨q, eq, hq0⟩ := paired_at hds hp
      have hid : i < ds.length := (List.getElem?_eq_some_iff.mp eq).1
      have kt := (Kept.refl (M := []) Ha).upd (o := .tup [.int (i : Nat), .ref p]) nT
      have kT := kE.k0 kt
      have ST := SS.kept kt
      have lw : (wordsB (ds.take i)).length = i := by
        unfold wordsB
        rw [List.length_map, List.length_take]
        omega
      have lev : (evs ++ [("begun" : Str)] ++ wordsB (ds.take i)).length < 99 := by
        rw [List.length_append, List.length_append, lw, List.length_singleton]
        omega
      refine ⟨Tp, _, rfl, .inl (.of upd_same), rfl, ?_⟩
      refine ⟨_, _, rfl, _, _, rfl, rfl, ?_⟩
      -- what was refused
      have bad : ∀ (D : Ends) Hx, KpE T x ev H Hx → HSx Hx x dx C ak ev a' (ranB xs (ds.take i)).2 (evs ++ [("begun" : Str)] ++ wordsB (ds.take i)) false → (dueD (ranB xs (ds.take i)).2 q.1 q.2).1.1 ≠ "" →
          tsB C CHa (fun cls d _ H' => E cls d H') D [some (.ref x), some (.ref l), some (.bl kp), some (.ref a), some (.ref out), some (.int (i : Nat)), some (.ref p)] Hx := fun D Hx kx Sx nm => by
        have em : i = m := by
          by_cases z : i < m
          · exact absurd (hok i z q eq) nm
          · omega
        rcases hq with ⟨z, _⟩ | ⟨q', eq', _, hE⟩
        · omega
        subst em
        refine ⟨x, dx, ak, ev, .ref a', .ref a, _, false, kp, (i : Int), _, _, _, rfl, Sx.S, by omega, fun H5 k5 S5 => ?_⟩
        have E5 : KpE T x ev H H5 := kx.trans (KpE.of kx.tab k5 (fun ps z => by rw [Sx.S.ob] at z; cases z) (fun ps z => by rw [Sx.S.ev] at z; cases z))
        have X5 : HSx H5 x dx C ak ev a' (ranB xs (ds.take i)).2 (evs ++ [("begun" : Str)] ++ wordsB (ds.take i) ++ [("ended" : Str)]) true := ⟨S5, k5 _ _ Sx.ask (by simp [akx, nae]), k5 _ _ Sx.rows Sx.ax⟩
        refine ⟨fun hk d hd => ?_, fun hk d hd => ?_⟩
        · subst hk
          exact hE H5 d a' E5 hd X5
        · subst hk
          refine hE _ d a (E5.trans (KpE.ofX ((KpX.of E5.tab (Kept.refl H5)).put fun ps z => by rw [X5.S.ob] at z; cases z))) hd ?_
          exact X5.set (ha3 E5)
      have dk := hq0.keep (kT.tup ht S.S.ob S.S.ev)
      refine ⟨x, dx, p, out, _, _, _, _, _, _, rfl, ST.S.ob, rfl, kt _ _ eo (by simp), x, dx, ak, ev, a', p, _, _, false, q.1, q.2, rfl, ST, nae, l24, by omega, dk.1, dk.2, kT.tab, fun nm => ?_, fun nm H5 dd k5 nd => ?_, fun nm H5 a5 k5 S5 => ?_⟩
      · refine ⟨x1, fun _ _ => ?_⟩
        exact bad _ _ kT ST (by rw [nm]; decide)
      · refine ⟨x2, fun _ _ => ?_⟩
        have kd := (Kept.refl (M := []) H5).upd (o := .xd [("number", .int (q.1 : Int))]) nd
        exact bad _ _ ((kT.trans (.ofX (.ofKp k5))).k0 kd) ((ST.kp kT.tab k5).kept kd) (by rw [nm]; decide)
      · have im : i < m := by
          by_cases z : i < m
          · exact z
          · have em : i = m := by omega
            rcases hq with ⟨z, _⟩ | ⟨q', eq', hn, _⟩
            · omega
            · rw [← em, eq] at eq'
              cases eq'
              rw [← em] at hn
              exact absurd nm hn
        have E5 := kT.trans k5
        have eo5 := k5.obj kT.tab (kt _ _ eo (by simp)) ox oe
        refine ⟨_, eo5, ?_, ?_⟩
        · have : ∀ ys : List (Nat × Dk), (ranB xs ys).1.length = ys.length := fun ys => by
            have gen : ∀ (ys : List (Nat × Dk)) (s : List V × List V), (ys.foldl stB s).1.length = s.1.length + ys.length := fun ys => by
              induction ys with
              | nil => intro s; rfl
              | cons y ys ih =>
                intro s
                rw [List.foldl_cons, ih, List.length_cons]
                show (s.1 ++ [_]).length + ys.length = _
                rw [List.length_append, List.length_singleton]
                omega
            exact (gen ys _).trans (Nat.zero_add _)
          rw [this, List.length_take]
          exact Nat.lt_of_lt_of_le (show min i ds.length < 1000 by omega) (by decide)
        · have old : ∀ {b : Addr} {o : HO}, H5 b = some o → (∀ ys, o ≠ .lst ys) → b ≠ out := fun {b o} e n z => by
            rw [z, eo5] at e
            exact n _ (Option.some.inj e).symm
          have kou : KpE T x ev H (upd H5 out (.lst ((ranB xs (ds.take i)).1 ++ [(dueD (ranB xs (ds.take i)).2 q.1 q.2).1.2]))) := ⟨fun P hP => by
            obtain ⟨qs, h2, h3⟩ := k5.tab P hP
            exact ⟨qs, (upd_ne (old h2 fun _ z => nomatch z)).trans h2, h3⟩, fun b o e n1 n2 n3 => (upd_ne fun z => by rw [z, ho0] at e; cases e).trans (E5.keep b o e n1 n2 n3)⟩
          have ako : ak ≠ out := fun z => by
            have e := S.ask
            rw [z, ho0] at e
            cases e
          have evo : ev ≠ out := fun z => by
            have e := S.S.ev
            rw [z, ho0] at e
            cases e
          have ew : evs ++ [("begun" : Str)] ++ wordsB (ds.take i) ++ [q.2.word] = evs ++ [("begun" : Str)] ++ wordsB (ds.take (i + 1)) := by
            unfold wordsB
            rw [List.take_add_one, eq, List.map_append, List.append_assoc]
            rfl
          have er := ranB_take (xs := xs) eq
          refine ⟨_, _, a5, im, rfl, kou, ?_, ?_, ?_⟩
          · rw [er]
            exact upd_same
          · rw [er, ← ew]
            exact ⟨⟨(upd_ne (old S5.S.ob fun _ z => nomatch z)).trans S5.S.ob, (upd_ne evo).trans S5.S.ev, S5.S.le⟩, (upd_ne ako).trans S5.ask, (upd_ne (old S5.rows fun _ z => nomatch z)).trans S5.rows⟩
          · rw [er]
            exact due_len l24
    · rintro σ H5 ⟨v5, v6, a', him, rfl, kE, eo, SS, l24⟩
      have em : m = ds.length := by
        rw [List.length_map, hlen] at him
        omega
      rw [List.length_map, hlen, List.take_length] at eo SS
      have lw : (wordsB ds).length = ds.length := by
        unfold wordsB
        rw [List.length_map]
      rcases hq with ⟨_, k⟩ | ⟨q', eq', _⟩
      · refine ⟨_, rfl, x, dx, _, rfl, SS.S.ob, rfl, x, dx, ak, ev, .ref a', _, false, rfl, SS.S, by rw [List.length_append, List.length_append, lw, List.length_singleton]; omega, fun H6 k6 S6 => ?_⟩
        refine ⟨_, rfl, k H6 out a' (kE.trans (KpE.of kE.tab k6 (fun ps z => by rw [SS.S.ob] at z; cases z) (fun ps z => by rw [SS.S.ev] at z; cases z))) ho0 (k6 _ _ eo (by simp [ox, oe])) ⟨S6, k6 _ _ SS.ask (by simp [akx, nae]), k6 _ _ SS.rows SS.ax⟩⟩
      · have := (List.getElem?_eq_some_iff.mp eq').1
        omega
end
end Ah
end
section
set_option Elab.async false
set_option linter.all false
set_option maxRecDepth 100000
set_option maxHeartbeats 2000000
namespace Ah
open PySem PySem.Spec PyProof.Rows L2 LamX
/-! ### _law_word, what is Halted -/
def ts7 (c : Nat → Addr) (a : Addr) (cls : Value) (d : Option Addr) : TS := fun D σ H => ∃ (y z : V) (dd : Addr) (f lf : V), cls = .ref (c 7) ∧ d = some dd ∧ H dd = some (.xd [("done", z), ("number", y)]) ∧ σ = [some f, some lf, some (.ref a), none, none, none] ∧
  ∀ H' p t, Kept [] H H' → H' t = some (.tup [y, z]) → H' p = none → D.rt (.ref p) (upd H' p (.tup [.str "halted", .ref t]))
section
variable {K : PySem.W.Frag} {P : Program} {w : World} {mg : Str → Option Value} {base : Heap} {CA : Addr} {c : Nat → Addr} {g : Addr} {cdg : Value} {A : Around} {outer : List Env} {s00 : Shared} {H0 : Hp}
theorem suite_word7 (W : WordG K mg CA c) (x7 : XfC K (c 7)) (no1 : PySem.W.findIn K (.ref (c 7)) "number" = some none) (no2 : PySem.W.findIn K (.ref (c 7)) "done" = some none) {i : Nat} (hi : i = 7) (a : Addr) (oe : Obj) (cls : Value) (d : Option Addr) (pn : List (Addr × Obj)) (hz : Zc cls d oe) (hf : ∃ vs, oe.data = .fields vs) :
    PSs (((cxOf C8.CX0 P w K mg base NW "_law_word" (defScope lWord) g cdg A outer s00 H0 C8.E0).nox).suite a ((a, oe) :: pn)) suiteW (ts7 c a cls d) := by
  refine ⟨fun pins s σ H D I h => ?_⟩
  obtain ⟨y, z, dd, f, lf, ecl, rfl, hd0, rfl, k⟩ := h
  have ecl : cls = .ref (c i) := by rw [hi]; exact ecl
  subst ecl
  have hdd : XD (some dd) H := fun d2 e => by cases e; exact ⟨_, hd0⟩
  have hi9 : i < 9 := by omega
  have XC := W.xc i hi9
  obtain ⟨t, T, q⟩ : ∃ t, PSs (((cxOf C8.CX0 P w K mg base NW "_law_word" (defScope lWord) g cdg A outer s00 H0 C8.E0).nox).suite a ((a, oe) :: pn)) suiteW t ∧ t D [some f, some lf, some (.ref a), none, none, none] H := by
    refine ⟨_, pss_cons
      (ps_set (i := 3) scW2.nd rfl (.inl rfl) (pe_lst (pa_cons (pe_callB (call_isD XC hz hf) (by rfl) W.isi (by decide +kernel) (pa_cons (pv 2) (pa_cons (pe_glob (v := .ref (c 0)) (by rfl) W.m0 rfl) pa_nil)))
        (pa_cons (pe_callB (call_isD XC hz hf) (by rfl) W.isi (by decide +kernel) (pa_cons (pv 2) (pa_cons (pe_glob (v := .ref (c 1)) (by rfl) W.m1 rfl) pa_nil)))
        (pa_cons (pe_callB (call_isD XC hz hf) (by rfl) W.isi (by decide +kernel) (pa_cons (pv 2) (pa_cons (pe_glob (v := .ref (c 2)) (by rfl) W.m2 rfl) pa_nil)))
        (pa_cons (pe_callB (call_isD XC hz hf) (by rfl) W.isi (by decide +kernel) (pa_cons (pv 2) (pa_cons (pe_glob (v := .ref (c 3)) (by rfl) W.m3 rfl) pa_nil))) pa_nil))))))
    (pss_cons (ps_set (i := 3) scW2.nd rfl (.inl rfl) (pe_op op_cat (pv 3) (pe_lst (pa_cons (pe_callB (call_isD XC hz hf) (by rfl) W.isi (by decide +kernel) (pa_cons (pv 2) (pa_cons (pe_glob (v := .ref (c 4)) (by rfl) W.m4 rfl) pa_nil)))
        (pa_cons (pe_callB (call_isD XC hz hf) (by rfl) W.isi (by decide +kernel) (pa_cons (pv 2) (pa_cons (pe_glob (v := .ref (c 5)) (by rfl) W.m5 rfl) pa_nil)))
        (pa_cons (pe_callB (call_isD XC hz hf) (by rfl) W.isi (by decide +kernel) (pa_cons (pv 2) (pa_cons (pe_glob (v := .ref (c 6)) (by rfl) W.m6 rfl) pa_nil)))
        (pa_cons (pe_callB (call_isD XC hz hf) (by rfl) W.isi (by decide +kernel) (pa_cons (pv 2) (pa_cons (pe_glob (v := .ref (c 7)) (by rfl) W.m7 rfl) pa_nil))) pa_nil)))))))
    (pss_cons (ps_expr (pe_bm PySem.F.plainAttrs_list PySem.F.slot_list_append PySem.F.type_list_append mt_append (pv 3) (pa_cons (pe_callB (call_isD XC hz hf) (by rfl) W.isi (by decide +kernel) (pa_cons (pv 2) (pa_cons (pe_glob (v := .ref (c 8)) (by rfl) W.m8 rfl) pa_nil))) pa_nil)))
    (pss_cons (ps_set (i := 4) scW2.nd rfl (.inl rfl) (pe_lst (pa_cons pe_str (pa_cons pe_str (pa_cons pe_str (pa_cons pe_str (pa_cons pe_str (pa_cons pe_str (pa_cons pe_str (pa_cons pe_str (pa_cons pe_str pa_nil)))))))))))
    (pss_cons (ps_if (PW.pt (pw_or (pt_cmpR op_ne (pe_bm PySem.F.plainAttrs_list PySem.F.slot_list_count PySem.F.type_list_count mt_lcountF (pv 3) (pa_cons pe_bl pa_nil)) pe_int (nomark _))
        (pw_or1 (pt_not (pt_val (pe_callB (call_isD XC hz hf) (by rfl) W.isi (by decide +kernel) (pa_cons (pv 2) (pa_cons (pe_bltn (v := .ty "ValueError") (by rfl) W.ve (by decide +kernel) rfl) pa_nil))))))))
        (pss_one ps_never) pss_nil)
    (pss_cons (ps_set (i := 5) scW2.nd rfl (.inl rfl) (pe_ix ix_list (pv 4) (pe_bm PySem.F.plainAttrs_list PySem.F.slot_list_index PySem.F.type_list_index mt_index (pv 3) (pa_cons pe_bl pa_nil)) (fun _ _ => rfl)))
    (pss_cons (ps_if (pt_cmpR op_eq (pv 5) pe_str (nomark _)) (pss_one (ps_ret (pe_tup (pa_cons (pv 5) (pa_cons (pe_tup (pa_cons (pe_xf x7 no1 (show Zc (.ref (c 7)) (some dd) oe from hi ▸ hz) hf (pv 2)) (pa_cons (pe_xf x7 no2 (show Zc (.ref (c 7)) (some dd) oe from hi ▸ hz) hf (pv 2)) pa_nil))) pa_nil))))) pss_nil)
    (pss_cons ps_never (pss_one ps_never)))))))), ?_⟩
    refine ⟨_, rfl, _, _, _, rfl, fun u h => h, W.kit i 0 hi9 (by decide), hdd, _, rfl, _, _, _, rfl, fun u h => h, W.kit i 1 hi9 (by decide), hdd, _, rfl, _, _, _, rfl, fun u h => h, W.kit i 2 hi9 (by decide), hdd, _, rfl, _, _, _, rfl, fun u h => h, W.kit i 3 hi9 (by decide), hdd, by show (4 : Nat) ≤ sizeLine; rw [sizeLine_eq]; decide, fun l1 n1 => ?_⟩
    have d1 := XD.upd (o := .lst [.bl (decide (i = 0)), .bl (decide (i = 1)), .bl (decide (i = 2)), .bl (decide (i = 3))]) hdd n1
    refine ⟨_, rfl, _, rfl, _, _, _, rfl, fun u h => h, W.kit i 4 hi9 (by decide), d1, _, rfl, _, _, _, rfl, fun u h => h, W.kit i 5 hi9 (by decide), d1, _, rfl, _, _, _, rfl, fun u h => h, W.kit i 6 hi9 (by decide), d1, _, rfl, _, _, _, rfl, fun u h => h, W.kit i 7 hi9 (by decide), d1, by show (4 : Nat) ≤ sizeLine; rw [sizeLine_eq]; decide, fun l2 n2 => ?_⟩
    have n21 : l1 ≠ l2 := fun z => by rw [← z, upd_same] at n2; cases n2
    refine ⟨l1, l2, _, _, rfl, rfl, by rw [upd_ne n21]; exact upd_same, upd_same, by show (4 : Nat) + 4 ≤ sizeLine; rw [sizeLine_eq]; decide, fun l3 n3 => ?_⟩
    have d2 := XD.upd (o := .lst [.bl (decide (i = 4)), .bl (decide (i = 5)), .bl (decide (i = 6)), .bl (decide (i = 7))]) d1 n2
    refine ⟨_, rfl, .inl ⟨rfl, _, SqL.of upd_same⟩, _, rfl, _, _, _, rfl, fun u h => h, W.kit i 8 hi9 (by decide), (XD.upd d2 n3), l3, _, _, rfl, rfl, upd_same, by show (8 : Nat) < sizeLine; rw [sizeLine_eq]; decide, ?_⟩
    refine ⟨by show (9 : Nat) ≤ sizeLine; rw [sizeLine_eq]; decide, fun l4 n4 => ?_⟩
    have n43 : l3 ≠ l4 := fun z => by rw [← z, upd_same] at n4; cases n4
    have n30 : H l3 = none := by
      cases e : H l3 with
      | none => rfl
      | some o => exact nomatch n3.symm.trans ((((Kept.refl (M := []) H).upd n1).upd n2) l3 o e (by simp))
    have K5 : Kept [] H (upd (upd (upd (upd (upd H l1 (.lst [.bl (decide (i = 0)), .bl (decide (i = 1)), .bl (decide (i = 2)), .bl (decide (i = 3))])) l2 (.lst [.bl (decide (i = 4)), .bl (decide (i = 5)), .bl (decide (i = 6)), .bl (decide (i = 7))])) l3 (.lst ([.bl (decide (i = 0)), .bl (decide (i = 1)), .bl (decide (i = 2)), .bl (decide (i = 3))] ++ [.bl (decide (i = 4)), .bl (decide (i = 5)), .bl (decide (i = 6)), .bl (decide (i = 7))]))) l3 (.lst ([.bl (decide (i = 0)), .bl (decide (i = 1)), .bl (decide (i = 2)), .bl (decide (i = 3))] ++ [.bl (decide (i = 4)), .bl (decide (i = 5)), .bl (decide (i = 6)), .bl (decide (i = 7))] ++ [.bl (decide (i = 8))]))) l4 (.lst [.str "row", .str "saying", .str "count", .str "steps", .str "norow", .str "nofollow", .str "deed", .str "halted", .str "text"])) := by
      refine Kept.upd (fun b o e hb => ?_) n4
      rw [upd_ne (ne_of_none e n30)]
      exact ((((Kept.refl (M := []) H).upd n1).upd n2).upd n3) b o e hb
    have e3 : SqL K (upd (upd (upd (upd (upd H l1 (.lst [.bl (decide (i = 0)), .bl (decide (i = 1)), .bl (decide (i = 2)), .bl (decide (i = 3))])) l2 (.lst [.bl (decide (i = 4)), .bl (decide (i = 5)), .bl (decide (i = 6)), .bl (decide (i = 7))])) l3 (.lst ([.bl (decide (i = 0)), .bl (decide (i = 1)), .bl (decide (i = 2)), .bl (decide (i = 3))] ++ [.bl (decide (i = 4)), .bl (decide (i = 5)), .bl (decide (i = 6)), .bl (decide (i = 7))]))) l3 (.lst ([.bl (decide (i = 0)), .bl (decide (i = 1)), .bl (decide (i = 2)), .bl (decide (i = 3))] ++ [.bl (decide (i = 4)), .bl (decide (i = 5)), .bl (decide (i = 6)), .bl (decide (i = 7))] ++ [.bl (decide (i = 8))]))) l4 (.lst [.str "row", .str "saying", .str "count", .str "steps", .str "norow", .str "nofollow", .str "deed", .str "halted", .str "text"])) l3 ([.bl (decide (i = 0)), .bl (decide (i = 1)), .bl (decide (i = 2)), .bl (decide (i = 3))] ++ [.bl (decide (i = 4)), .bl (decide (i = 5)), .bl (decide (i = 6)), .bl (decide (i = 7))] ++ [.bl (decide (i = 8))]) := SqL.of ((upd_ne n43).trans upd_same)
    have e4 : SqL K (upd (upd (upd (upd (upd H l1 (.lst [.bl (decide (i = 0)), .bl (decide (i = 1)), .bl (decide (i = 2)), .bl (decide (i = 3))])) l2 (.lst [.bl (decide (i = 4)), .bl (decide (i = 5)), .bl (decide (i = 6)), .bl (decide (i = 7))])) l3 (.lst ([.bl (decide (i = 0)), .bl (decide (i = 1)), .bl (decide (i = 2)), .bl (decide (i = 3))] ++ [.bl (decide (i = 4)), .bl (decide (i = 5)), .bl (decide (i = 6)), .bl (decide (i = 7))]))) l3 (.lst ([.bl (decide (i = 0)), .bl (decide (i = 1)), .bl (decide (i = 2)), .bl (decide (i = 3))] ++ [.bl (decide (i = 4)), .bl (decide (i = 5)), .bl (decide (i = 6)), .bl (decide (i = 7))] ++ [.bl (decide (i = 8))]))) l4 (.lst [.str "row", .str "saying", .str "count", .str "steps", .str "norow", .str "nofollow", .str "deed", .str "halted", .str "text"])) l4 [.str "row", .str "saying", .str "count", .str "steps", .str "norow", .str "nofollow", .str "deed", .str "halted", .str "text"] := SqL.of upd_same
    generalize upd (upd (upd (upd (upd H l1 (.lst [.bl (decide (i = 0)), .bl (decide (i = 1)), .bl (decide (i = 2)), .bl (decide (i = 3))])) l2 (.lst [.bl (decide (i = 4)), .bl (decide (i = 5)), .bl (decide (i = 6)), .bl (decide (i = 7))])) l3 (.lst ([.bl (decide (i = 0)), .bl (decide (i = 1)), .bl (decide (i = 2)), .bl (decide (i = 3))] ++ [.bl (decide (i = 4)), .bl (decide (i = 5)), .bl (decide (i = 6)), .bl (decide (i = 7))]))) l3 (.lst ([.bl (decide (i = 0)), .bl (decide (i = 1)), .bl (decide (i = 2)), .bl (decide (i = 3))] ++ [.bl (decide (i = 4)), .bl (decide (i = 5)), .bl (decide (i = 6)), .bl (decide (i = 7))] ++ [.bl (decide (i = 8))]))) l4 (.lst [.str "row", .str "saying", .str "count", .str "steps", .str "norow", .str "nofollow", .str "deed", .str "halted", .str "text"]) = H5 at K5 e3 e4 ⊢
    have d5 := XD.kept hdd K5
    have hi9 : i < 9 := by omega
    refine ⟨_, rfl, .inl ⟨rfl, _, e3⟩, l3, _, .bl true, rfl, rfl, e3, rfl, rfl, rfl, _, rfl, ?_⟩
    have c1 : List.countP (fun z => eqV z (.bl true)) (kindsG i) = 1 := kinds1 i hi9
    rw [c1]
    refine iteF ⟨_, rfl, _, _, _, rfl, fun u h => h, W.kitV i hi9, d5, _, rfl, iteF ?_⟩
    refine ⟨_, rfl, _, rfl, .inl ⟨rfl, _, e3⟩, l3, _, .bl true, i, .bl true, rfl, rfl, e3, rfl, rfl, kinds2 i hi9, rfl, (fun m z' hm hz => ?_), l4, _, i, .str (nameG i), rfl, rfl, e4, at_of rfl (names2 i hi9), ?_⟩
    · have q2 := kinds3 i hi9 m hm
      rw [hz] at q2
      simpa using q2
    refine ⟨_, rfl, rfl, _, rfl, ?_⟩
    rw [show decide (V.str (nameG i) = V.str "halted") = true by rw [hi]; decide]
    have d6 := K5 _ _ hd0 (by simp)
    refine iteT ⟨_, rfl, _, rfl, rfl, rfl, dd, _, y, rfl, d6, rfl, _, rfl, rfl, rfl, dd, _, z, rfl, d6, rfl, by show (2 : Nat) ≤ sizeLine; rw [sizeLine_eq]; decide, fun t nt => ⟨by show (2 : Nat) ≤ sizeLine; rw [sizeLine_eq]; decide, fun p2 np2 => ?_⟩⟩
    have := k _ p2 t (K5.upd nt) upd_same np2
    rw [hi]
    exact this
  exact T.run pins _ _ H D I q
end
/-- what is wished of an exception: it is Halted -/
def EW7 (c : Nat → Addr) (Q : VK) : XK := fun cls d H1 => ∃ (y z : V) (dd : Addr), cls = .ref (c 7) ∧ d = some dd ∧ H1 dd = some (.xd [("done", z), ("number", y)]) ∧ ∀ H' p t, Kept [] H1 H' → H' t = some (.tup [y, z]) → H' p = none → Q (.ref p) (upd H' p (.tup [.str "halted", .ref t]))
def TW7 (c : Nat → Addr) : (XK → Hp → VK → Prop) → Hp → VK → Prop := fun tl H Q => ∀ lf, H lf = none → tl (EW7 c Q) (upd H lf (.lst [])) (fun v H1 => H1 lf = some (.lst []) ∧ ∀ p, upd H1 lf (.lst [v]) p = none → Q (.ref p) (upd (upd H1 lf (.lst [v])) p (.tup [.str "", v])))
section
variable {P : Program} {w : World} {K : PySem.W.Frag} {mg : Str → Option Value} {base : Heap}
theorem word_gives7 {CA : Addr} {c : Nat → Addr} {g : Addr} {cdg : Value} (W : WordG K mg CA c) (x7 : XfC K (c 7)) (no1 : PySem.W.findIn K (.ref (c 7)) "number" = some none) (no2 : PySem.W.findIn K (.ref (c 7)) "done" = some none) : GivesP P w K mg base NW "_law_word" (defScope lWord) g cdg (defBody lWord) "_law_work" (TW7 c) := by
  intro A stack f s H Q tl G hG act hc h
  refine ⟨_, pss_cons (ps_set (i := 1) scW2.nd rfl (.inl rfl) (pe_lst pa_nil)) (pss_cons (ps_try_as (X := (cxOf C8.CX0 P w K mg base NW "_law_word" (defScope lWord) g cdg A stack s H C8.E0).nox) (i := 2) (n := "e") (c := .ref CA)
      (tb := fun W D σ H => ∃ (Ech : XK) (lf : Addr) (Q0 : VK), (∀ cls d H', Ech cls d H' → W cls d σ H') ∧ σ = [some (.ref f), some (.ref lf), none, none, none, none] ∧ G H ∧ H lf = some (.lst []) ∧ (∀ v H1, Q0 v H1 → H1 lf = some (.lst []) ∧ D.nx σ (upd H1 lf (.lst [v]))) ∧ tl Ech H Q0)
      (ts := ts7 c) rfl rfl scW2.nd rfl rfl ⟨by rfl, rfl, .inl W.ca⟩ L2.takes0 (fun Wx pn xe tk _ => ?_) (fun a oe cls d pn hz hf => suite_word7 W x7 no1 no2 rfl a oe cls d pn hz hf))
    (pss_one (ps_ret (pe_tup (pa_cons pe_str (pa_cons (pe_ix ix_list (pv 1) pe_int (fun _ _ => rfl)) pa_nil)))))), ?_⟩
  · refine ⟨fun pins s' σ H' D I h' => ?_⟩
    obtain ⟨Ech, lf, Q0, hW, rfl, h1, hlf, h0, h2⟩ := h'
    obtain ⟨t, T, r⟩ : ∃ t, PSs ((cxOf C8.CX0 P w K mg base NW "_law_word" (defScope lWord) g cdg A stack s H C8.E0).tr pn xe) bodyW t ∧ t D [some (.ref f), some (.ref lf), none, none, none, none] H' := by
      refine ⟨_, pss_one (ps_expr (pe_bm PySem.F.plainAttrs_list PySem.F.slot_list_append PySem.F.type_list_append mt_append (pv 1) (pa_cons (pe_mono (act Wx pn xe Ech _ _ [some (.ref f), some (.ref lf), none, none, none, none] tk hW)) pa_nil))), ?_⟩
      refine ⟨_, rfl, .inl ⟨rfl, _, SqL.of hlf⟩, Q0, (fun v H1 hv0 => ?_), rfl, rfl, h1, h2⟩
      have hv := h0 v H1 hv0
      exact ⟨lf, _, _, rfl, rfl, hv.1, by show (0 : Nat) < sizeLine; rw [sizeLine_eq]; decide, hv.2⟩
    exact T.run pins s' _ H' D I r
  · refine ⟨by show (0 : Nat) ≤ sizeLine; decide, fun lf nlf => ?_⟩
    refine ⟨EW7 c Q, lf, _, fun cls d H1 hE => ?_, rfl, hG _ _ ((Kept.refl H).upd nlf) hc, upd_same, (fun v H1 hv => ⟨hv.1, ?_⟩), h lf nlf⟩
    · obtain ⟨y, z, dd, rfl, rfl, he, k⟩ := hE
      exact ⟨true, W.exm 7 (by decide), fun _ a na => ⟨y, z, dd, _, _, rfl, rfl, he, rfl, k⟩, fun z => nomatch z⟩
    · exact ⟨_, rfl, lf, _, 0, v, rfl, rfl, SqL.of upd_same, at_of (j := 0) rfl rfl, by show (2 : Nat) ≤ sizeLine; rw [sizeLine_eq]; decide, hv.2⟩
end
end Ah
end
section
set_option Elab.async false
set_option linter.all false
set_option maxRecDepth 100000
set_option maxHeartbeats 2000000
namespace Ah
open PySem PySem.Spec PyProof.Rows L2
/-! ### o.m(e, .., k = v, ..) -/
def tMethN (C : Addr) (m : Str) (n j : Nat) (sp : Sp) (gV : List V → List V → List V) (E : XK) (ta : TE) (t tk : TA) : TE := fun σ H Q => ta σ H fun x H1 => ∃ a dx fs, x = .ref a ∧ H1 a = some (.ins C dx fs) ∧ fs.lookup m = none ∧
  t σ H1 fun vs H2 => tk σ H2 fun zs H3 => (V.ref a :: vs).length = n ∧ zs.length = j ∧ sp (gV (.ref a :: vs) zs) H3 Q E
theorem pe_methN {X : Cx} {CX : CXT} {k n : Nat} {C f : Addr} {fd : FuncData} {ps ks : List Str} {sp : Sp} {E : XK} {m : Str} {apos pos : Pos} {o e : Expr} {es : List Expr} {kws : List Keyword} {ta : TE} {t tk : TA} {g : List Value → List Value → List Value} {gV : List V → List V → List V} {pl : Sem Bool}
    (he : PE X o ta) (c : Cls X.K C) (hm : Meth X.K C m f) (F : FnOk X.prog X.w X.K X.mg X.base CX k f fd ps sp) (hr : Room k X.A) (hb : KBn X.K fd ps n ks g gV) (hx : Passes CX X E) (ha : PA X (e :: es) t) (hkw : PK X kws tk)
    (hall : (backToKw pos (keywordEach kws X.env)).all (·.1.isSome) = true := by rfl) (hks : (backToKw pos (keywordEach kws X.env)).filterMap (·.1) = ks := by rfl)
    (hst : starEach (e :: es) X.env = (false, eval e X.env) :: starEach es X.env := by rfl) (hpl : ((backTo pos (starEach (e :: es) X.env)).any (·.1) || (backToKw pos (keywordEach kws X.env)).any (·.1.isNone)) = false := by rfl)
    (ht : eval (.Call (.Attribute o m apos) (e :: es) kws pos) X.env = (do
      let ov ← eval o X.env
      standAt apos.atName
      let (f, first) ← holding [ov] (getMethod ov m pl)
      callWith pos f first (backTo pos (starEach (e :: es) X.env)) (backToKw pos (keywordEach kws X.env))) := by rfl) :
    PE X (.Call (.Attribute o m apos) (e :: es) kws pos) (tMethN C m n ks.length sp gV E ta t tk) := by
  refine ⟨fun pins s σ H Q I h => ?_⟩
  refine PySem.W.methodCall_KW (pl := pl) (thn (he.run pins s σ H _ I h) fun u s1 ⟨x, H1, I1, rx, a, dx, fs, ex, ea, l, q⟩ => ?_) ht
  subst ex
  obtain rfl : u = Value.ref a := rx
  refine getmeth_ok I1 ea c hm l ?_
  refine PySem.W.callWith_KW (first := [.ref a]) (h₀ := X.base) I.ok.mod.kin hm.kp hall (thn (ha.run pos pins s1 σ H1 _ I1 q) fun us s2 ⟨vs, H2, I2, r, q2⟩ => ?_) hpl hst
  refine thn (hkw.run pos pins s2 σ H2 _ I2 q2) fun ws s3 ⟨zs, H3, I3, rz, l1, l2, q3⟩ => ⟨I3.kIn, ?_⟩
  rw [hks]
  exact run_fnN (us := .ref a :: us) (vs := .ref a :: vs) F hr hb hx I3 (.cons rfl r) rz l1 l2 q3
/-! ### batch's two bindings -/
section
variable {K : PySem.W.Frag} {f : Addr} {fd : FuncData}
abbrev BatchF (K : PySem.W.Frag) (f : Addr) (fd : FuncData) : Prop := FunD K "batch" "House.batch" (defArgs sHouseBatch) (defBody sHouseBatch) (defScope sHouseBatch) [] [("keep", .bl true)] f fd
theorem batch_b0 (F : BatchF K f fd) : ∃ ds, Vals [V.bl true] ds ∧ L2.Binds K fd ["self", "deeds", "keep"] ds := by
  refine F.binds0 2 (by simp) rfl (fun D doc pm an cdv ct us ks l1 l2 => ?_)
  match us, l1, ks, l2 with
  | [a, b], _, [c], _ => exact ⟨_, _, _, _, _, _, rfl, rfl, rfl⟩
theorem batch_bk (F : BatchF K f fd) : KBn K fd ["self", "deeds", "keep"] 2 ["keep"] (fun us ws => us ++ ws) (fun vs zs => vs ++ zs) := by
  obtain ⟨oc, od, dV, kV, doc, pm, an, cdv, ct, osl, rfl, lk, hcd, hD, hK⟩ := F.ex
  rcases hD with ⟨_, rfl⟩ | ⟨e, _⟩
  rotate_left
  · exact absurd rfl e
  refine ⟨fun s us ws X l1 l2 => ?_, fun r rz => r.append rz⟩
  match us, l1, ws, l2 with
  | [a, b], _, [c], _ => exact .of_eq rfl
end
end Ah
end
section
set_option Elab.async false
set_option linter.all false
set_option maxRecDepth 100000
set_option maxHeartbeats 4000000
namespace Ah
open PySem PySem.Spec PyProof.Rows L2 LamX
open GxR (TabG)
/-! ### the law of batches -/
abbrev qLaw : Str := ("law" : Str) ++ ".<locals>." ++ "<lambda>"
abbrev lawN : List Str := ["_law_script", "_law_row_here", "_law_w", "_law_house", "_law_lines", "_law_turn", "_law_ahead", "_law_deeds", "_law_due", "_law_end", "_law_k", "_law_found", "_law_stays", "_law_many", "_law_told", "_law_deed_here"]
theorem scLaw : FnScope lawN ["_law_script"] (defScope lLaw) := ⟨rfl, rfl, rfl, by decide +kernel, rfl, by decide +kernel, by decide +kernel⟩
def lamOf : Stmt → List Expr
  | .Assign _ (.Call (.Name _ _) [.Lambda p b s q] _ _) _ => [.Lambda p b s q]
  | _ => []
def lamsOf : Stmt → List Expr
  | .If _ a b _ => a.flatMap lamOf ++ b.flatMap lamOf
  | _ => []
def forB : List Stmt := (defBody lLaw).flatMap fun st => match st with
  | .For _ _ b _ _ => b
  | _ => []
def worksL : List Expr := forB.flatMap lamsOf
def lamP (i : Nat) : Arguments := match worksL[i]? with
  | some (.Lambda p _ _ _) => p
  | _ => defArgs lLaw
def lamB (i : Nat) : Expr := match worksL[i]? with
  | some (.Lambda _ b _ _) => b
  | _ => .Name "none" ⟨0, 0, 0, 0⟩
def lamS (i : Nat) : Scope := match worksL[i]? with
  | some (.Lambda _ _ s _) => s
  | _ => defScope lLaw
theorem lamS_ok0 : lamSDB lawN (defScope lLaw) (lamS 0) = true := by decide +kernel
theorem lamS_ok1 : lamSDB lawN (defScope lLaw) (lamS 1) = true := by decide +kernel
def spLaw (K : PySem.W.Frag) (T : List Addr) (P2 : Addr) : Sp := fun vs H Q _ => ∃ (a : Addr) (ns : List Int), vs = [.ref a] ∧ SqL K H a (ns.map V.int) ∧ ns.length ≤ 63 ∧ (∀ P ∈ T, GxR.TabG H P) ∧ LamX.TabS H P2 qLaw ∧ ∀ H', Q (.bl true) H'
theorem StAt.k0 {K : PySem.W.Frag} {H H' : Hp} {p sc : Addr} {ns : List Int} (S : StAt K H p sc ns) (k : Kept [] H H') : StAt K H' p sc ns := by
  obtain ⟨i, r, m, h, h1, h2, h3⟩ := S
  refine ⟨i, r, m, k _ _ h (by simp), h1, h2, ?_⟩
  rcases h3 with (h3 | ⟨ob, h3⟩) | h3
  · exact .inl (.inl (k _ _ h3 (by simp)))
  · exact .inl (.inr ⟨ob, k _ _ h3 (by simp)⟩)
  · exact .inr h3
theorem Kp.of2 {T : List Addr} {H H' : Hp} (ht : ∀ P ∈ T, TabG H P) (k : Kept [] H H') : Kp T H H' := ⟨fun P hP => let ⟨qs, h2, h3⟩ := ht P hP; ⟨qs, k _ _ h2 (by simp), h3⟩, fun b o e _ => k b o e (by simp)⟩
/-- not the script's place, or the script is the program's own -/
def NS (K : PySem.W.Frag) (sc : Addr) (ns : List Int) (l : Addr) : Prop := l ≠ sc ∨ ∀ H, SqL K H sc (ns.map V.int)
theorem ns_new {K : PySem.W.Frag} {H : Hp} {p sc l : Addr} {ns : List Int} (S : StAt K H p sc ns) (n : H l = none) : NS K sc ns l := by
  obtain ⟨i, r, m, e, h1, h2, h3⟩ := S
  rcases h3 with (h3 | ⟨ob, h3⟩) | h3
  · exact .inl fun z => by rw [z, h3] at n; cases n
  · exact .inl fun z => by rw [z, h3] at n; cases n
  · exact .inr fun _ => .inr h3
structure LS (K : PySem.W.Frag) (T : List Addr) (P2 p sc : Addr) (ns : List Int) (H : Hp) : Prop where
  S : StAt K H p sc ns
  ht : ∀ P ∈ T, TabG H P
  t2 : TabS H P2 qLaw
section
variable {K : PySem.W.Frag} {T : List Addr} {P2 p sc : Addr} {ns : List Int} {H H' : Hp}
theorem LS.k0 (L : LS K T P2 p sc ns H) (k : Kept [] H H') : LS K T P2 p sc ns H' :=
  ⟨L.S.k0 k, (Kp.of2 L.ht k).tab, tabS_by L.t2 fun b o e _ => k b o e (by simp)⟩
theorem LS.draw (L : LS K T P2 p sc ns H) (S : StAt K H' p sc ns) (k : Kept [p] H H') : LS K T P2 p sc ns H' := by
  obtain ⟨xs, ep⟩ := L.S.ob
  have np : ∀ {b : Addr} {o : HO}, H b = some o → (∀ xs, o ≠ .lst xs) → b ∉ [p] := fun {b o} e n hm => by
    rw [List.mem_singleton.mp hm, ep] at e
    exact n _ (Option.some.inj e).symm
  refine ⟨S, fun P hP => ?_, tabS_by L.t2 fun b o e hb => k b o e (np e fun xs z => ?_)⟩
  · obtain ⟨qs, h2, h3⟩ := L.ht P hP
    exact ⟨qs, k _ _ h2 (np h2 fun _ z => nomatch z), h3⟩
  · rcases hb with rfl | ⟨q, rfl⟩
    · obtain ⟨ps, e2, _⟩ := L.t2
      rw [e, z] at e2
      cases e2
    · exact codeO_lst z
theorem LS.lam (L : LS K T P2 p sc ns H) (nT2 : P2 ∉ T) (k : ∀ b o, H b = some o → b ≠ P2 → H' b = some o) (t2' : TabS H' P2 qLaw) : LS K T P2 p sc ns H' := by
  have r : ∀ b o, H b = some o → (∀ ps, o ≠ .tbl ps) → H' b = some o := fun b o e m => k b o e fun z => by
    obtain ⟨ps, e2, _⟩ := L.t2
    rw [← z, e] at e2
    exact m ps (Option.some.inj e2)
  obtain ⟨i, r', m, h, h1, h2, h3⟩ := L.S
  refine ⟨⟨i, r', m, r _ _ h (fun _ q => nomatch q), h1, h2, ?_⟩, fun P' hP => ?_, t2'⟩
  · rcases h3 with (h3 | ⟨ob, h3⟩) | h3
    · exact .inl (.inl (r _ _ h3 (fun _ q => nomatch q)))
    · exact .inl (.inr ⟨ob, r _ _ h3 (fun _ q => nomatch q)⟩)
    · exact .inr h3
  · obtain ⟨qs, e1, e2⟩ := L.ht P' hP
    exact ⟨qs, k _ _ e1 (fun z => nT2 (z ▸ hP)), e2⟩
theorem tabS_kp {P1 : Addr} {q : Str} (hT : LamX.TabS H P1 q) (n : P1 ∉ T) (ht : ∀ P ∈ T, TabG H P) (k : Kp T H H') : LamX.TabS H' P1 q := by
  obtain ⟨ps, e, tri, all⟩ := hT
  refine ⟨ps, k.keep _ _ e n, tri, fun p cv h => ?_⟩
  obtain ⟨c, e1, e2⟩ := all p cv h
  exact ⟨c, e1, k.obj ht e2 (fun ps z => LamX.codeO_ne ps z)⟩
theorem LS.kp (L : LS K T P2 p sc ns H) (nT2 : P2 ∉ T) (k : Kp T H H') : LS K T P2 p sc ns H' := by
  obtain ⟨i, r, m, h, h1, h2, h3⟩ := L.S
  refine ⟨⟨i, r, m, k.obj L.ht h, h1, h2, ?_⟩, k.tab, tabS_kp L.t2 nT2 L.ht k⟩
  rcases h3 with (h3 | ⟨ob, h3⟩) | h3
  · exact .inl (.inl (k.obj L.ht h3))
  · exact .inl (.inr ⟨ob, k.obj L.ht h3⟩)
  · exact .inr h3
/-- a list that is neither the draws' nor the script is written -/
theorem LS.put (L : LS K T P2 p sc ns H) {l : Addr} {os xs : List V} (h : H l = some (.lst os)) (hp : l ≠ p) (hs : NS K sc ns l) : LS K T P2 p sc ns (L2.upd H l (.lst xs)) := by
  have nl : ∀ {b : Addr} {o : HO}, H b = some o → (∀ xs, o ≠ .lst xs) → b ≠ l := fun {b o} e n z => by
    rw [z, h] at e
    exact n _ (Option.some.inj e).symm
  obtain ⟨i, r, m, e, h1, h2, h3⟩ := L.S
  refine ⟨⟨i, r, m, (upd_ne (Ne.symm hp)).trans e, h1, h2, ?_⟩, fun P hP => ?_, tabS_by L.t2 fun b o e hb => (upd_ne (nl e fun xs z => ?_)).trans e⟩
  · rcases hs with hs | hs
    · rcases h3 with (h3 | ⟨ob, h3⟩) | h3
      · exact .inl (.inl ((upd_ne (Ne.symm hs)).trans h3))
      · exact .inl (.inr ⟨ob, (upd_ne (Ne.symm hs)).trans h3⟩)
      · exact .inr h3
    · exact hs _
  · obtain ⟨qs, e1, e2⟩ := L.ht P hP
    exact ⟨qs, (upd_ne (nl e1 fun _ z => nomatch z)).trans e1, e2⟩
  · rcases hb with rfl | ⟨q, rfl⟩
    · obtain ⟨ps, e2, _⟩ := L.t2
      rw [e, z] at e2
      cases e2
    · exact codeO_lst z
end
/-! ### what is kept -/
/-- all stands but M's and the tables -/
def Rm (M : List Addr) (H H' : Hp) : Prop := ∀ b o, H b = some o → b ∉ M → (∀ ps, o ≠ .tbl ps) → H' b = some o
theorem Rm.trans {M : List Addr} {H H1 H2 : Hp} (a : Rm M H H1) (b : Rm M H1 H2) : Rm M H H2 := fun c o e n m => b c o (a c o e n m) n m
theorem Rm.kept {M : List Addr} {H H' : Hp} (k : Kept M H H') : Rm M H H' := fun b o e n _ => k b o e n
theorem Rm.k0 {M : List Addr} {H H' : Hp} (k : Kept [] H H') : Rm M H H' := fun b o e _ _ => k b o e (by simp)
theorem Rm.tab {M : List Addr} {P : Addr} {q : Str} {H H' : Hp} (t : TabS H P q) (k : ∀ b o, H b = some o → b ≠ P → H' b = some o) : Rm M H H' := fun b o e _ m => k b o e fun z => by
  obtain ⟨ps, e2, _⟩ := t
  rw [← z, e] at e2
  exact m ps (Option.some.inj e2)
theorem Rm.put {H : Hp} {l : Addr} {o : HO} : Rm [l] H (L2.upd H l o) := fun b u e n _ => (upd_ne (by simpa using n)).trans e
def Lsts (M : List Addr) (H : Hp) : Prop := ∀ b ∈ M, ∃ ys, H b = some (.lst ys)
theorem Lsts.one {H : Hp} {l : Addr} {ys : List V} (e : H l = some (.lst ys)) : Lsts [l] H := fun b hb => by rw [List.mem_singleton.mp hb]; exact ⟨_, e⟩
theorem Lsts.none {H : Hp} : Lsts [] H := fun b hb => nomatch hb
theorem Rm.tup {M : List Addr} {H H' : Hp} (r : Rm M H H') (hM : Lsts M H) : ∀ b xs, H b = some (.tup xs) → H' b = some (.tup xs) := fun b xs e => r b _ e (fun hm => by
  obtain ⟨ys, h⟩ := hM b hm
  rw [e] at h
  cases h) (fun _ z => nomatch z)
theorem HSx.rm {M : List Addr} {H H' : Hp} {x dx C ak ev a : Addr} {xs : List V} {evs : List Str} {b : Bool} (S : HSx H x dx C ak ev a xs evs b) (r : Rm M H H') (hM : Lsts M H) (na : ak ∉ M) (ne : ev ∉ M) : HSx H' x dx C ak ev a xs evs b :=
  ⟨⟨r _ _ S.S.ob (fun hm => by
    obtain ⟨ys, h⟩ := hM _ hm
    rw [S.S.ob] at h
    cases h) (fun _ z => nomatch z), r _ _ S.S.ev ne (fun _ z => nomatch z), S.S.le⟩, r _ _ S.ask na (fun _ z => nomatch z), r.tup hM _ _ S.rows⟩
/-- apart from each other -/
structure Dis (p ak ev wl ll dl du : Addr) : Prop where
  pa : p ≠ ak
  pe : p ≠ ev
  pw : p ≠ wl
  pl : p ≠ ll
  pd : p ≠ dl
  pu : p ≠ du
  ae : ak ≠ ev
  aw : ak ≠ wl
  al : ak ≠ ll
  ad : ak ≠ dl
  au : ak ≠ du
  ew : ev ≠ wl
  el : ev ≠ ll
  ed : ev ≠ dl
  eu : ev ≠ du
  wl_ : wl ≠ ll
  wd : wl ≠ dl
  wu : wl ≠ du
  ld : ll ≠ dl
  lu : ll ≠ du
  du_ : dl ≠ du
theorem okB_app {xs : List V} {ds : List (Nat × Dk)} {q : Nat × Dk} {i : Nat} (h : i < ds.length) : okB xs (ds ++ [q]) i ↔ okB xs ds i := by
  unfold okB
  rw [List.getElem?_append_left h, List.take_append_of_le_length (Nat.le_of_lt h)]
theorem ran_rows {H : Hp} {ps : List Addr} {ds : List (Nat × Dk)} {xs : List V} (pr : Paired (DeedAt H) ps ds) (hx : ∀ v ∈ xs, RowRef H v) (hl : xs.length ≤ 24) : ∀ i, (∀ v ∈ (ranB xs (ds.take i)).2, RowRef H v) ∧ (ranB xs (ds.take i)).2.length ≤ 24 ∧ ∀ v ∈ (ranB xs (ds.take i)).1, v = .non ∨ (∃ j, v = .int j) ∨ RowRef H v
  | 0 => ⟨hx, hl, fun v hv => by rw [List.take_zero] at hv; cases hv⟩
  | i + 1 => by
    obtain ⟨h1, h2, h3⟩ := ran_rows pr hx hl i
    by_cases hi : i < ds.length
    · have e : ds[i]? = some ds[i] := List.getElem?_eq_getElem hi
      rw [ranB_take e]
      have hp : i < ps.length := by rw [pr.length]; exact hi
      obtain ⟨q, eq, hq⟩ := paired_at pr (List.getElem?_eq_getElem hp)
      rw [e] at eq
      cases eq
      obtain ⟨d1, d2⟩ := due_rows (n := ds[i].1) hq.2 h1 h2
      refine ⟨d1, d2, fun v hv => ?_⟩
      rcases List.mem_append.mp hv with h | h
      · exact h3 v h
      · rw [List.mem_singleton.mp h]
        rcases due_val (xs := (ranB xs (ds.take i)).2) (n := ds[i].1) (k := ds[i].2) with h | h | h
        · exact .inl h
        · exact .inr (.inl h)
        · exact .inr (.inr (h1 _ h))
    · rw [List.take_of_length_le (by omega)]
      rw [List.take_of_length_le (by omega)] at h1 h2 h3
      exact ⟨h1, h2, h3⟩
theorem due_same {xs : List V} {n : Nat} {k : Dk} (h : (dueD xs n k).1.1 ≠ "") : (dueD xs n k).2 = xs := by
  cases k with
  | put rv rb =>
    unfold dueD at h ⊢
    dsimp only at h ⊢
    split
    · rfl
    · rename_i h1
      rw [if_neg h1] at h
      split
      · rfl
      · rename_i h2
        rw [if_neg h2] at h
        exact absurd rfl h
  | drop =>
    unfold dueD at h ⊢
    dsimp only at h ⊢
    cases e : xs[n]? with
    | none => rfl
    | some v => rw [e] at h; exact absurd rfl h
  | tell rv rb =>
    unfold dueD at h ⊢
    dsimp only at h ⊢
    cases e : xs[n]? with
    | none => rfl
    | some v =>
      rw [e] at h
      dsimp only at h ⊢
      split
      · rename_i hb
        rw [if_pos hb] at h
        exact absurd rfl h
      · rfl
/-- where the deeds end -/
def EndAt (xs : List V) (ds : List (Nat × Dk)) (us rows : List V) : Option Nat → Prop
  | none => (∀ i, i < ds.length → okB xs ds i) ∧ us = (ranB xs ds).1 ∧ rows = (ranB xs ds).2
  | some i => i < ds.length ∧ (∀ j, j < i → okB xs ds j) ∧ (∃ q, ds[i]? = some q ∧ (dueD (ranB xs (ds.take i)).2 q.1 q.2).1.1 ≠ "") ∧ rows = (ranB xs (ds.take i)).2
def endV : Option Nat → V
  | none => .non
  | some i => .int (i : Int)
/-- while the deeds are drawn -/
structure IS (K : PySem.W.Frag) (T : List Addr) (P2 CH p sc : Addr) (ns : List Int) (x dx ak ev a b0 wl ll dl du : Addr) (xs : List V) (evs : List Str) (b : Addr) (rows us : List V) (ps : List Addr) (ds : List (Nat × Dk)) (H : Hp) : Prop where
  L : LS K T P2 p sc ns H
  HS : HSx H x dx CH ak ev a xs evs true
  hw : H wl = some (.lst [.ref b])
  hb : H b = some (.tup rows)
  h0 : H b0 = some (.tup xs)
  hl : H ll = some (.lst (evs.map V.str))
  hd : H dl = some (.lst (ps.map V.ref))
  pr : Paired (DeedAt H) ps ds
  hu : H du = some (.lst us)
  rows_ : ∀ v ∈ xs, RowRef H v
  len : xs.length ≤ 24
  D : Dis p ak ev wl ll dl du
  nw : NS K sc ns wl
  nd : NS K sc ns dl
  nu : NS K sc ns du
  ne : NS K sc ns ev
section
variable {K : PySem.W.Frag} {T : List Addr} {P2 CH p sc : Addr} {ns : List Int} {x dx ak ev a b0 wl ll dl du : Addr} {xs : List V} {evs : List Str} {b : Addr} {rows us : List V} {ps : List Addr} {ds : List (Nat × Dk)} {H H' : Hp} {M : List Addr}
theorem IS.mv (I : IS K T P2 CH p sc ns x dx ak ev a b0 wl ll dl du xs evs b rows us ps ds H) (L' : LS K T P2 p sc ns H') (r : Rm M H H') (hM : Lsts M H) (n1 : ak ∉ M) (n2 : ev ∉ M) (n3 : wl ∉ M) (n4 : ll ∉ M) (n5 : dl ∉ M) (n6 : du ∉ M) : IS K T P2 CH p sc ns x dx ak ev a b0 wl ll dl du xs evs b rows us ps ds H' :=
  ⟨L', I.HS.rm r hM n1 n2, r _ _ I.hw n3 (fun _ z => nomatch z), r.tup hM _ _ I.hb, r.tup hM _ _ I.h0, r _ _ I.hl n4 (fun _ z => nomatch z), r _ _ I.hd n5 (fun _ z => nomatch z), Paired.mapP I.pr fun _ _ h => h.keep (r.tup hM), r _ _ I.hu n6 (fun _ z => nomatch z), fun v hv => (I.rows_ v hv).keep (r.tup hM), I.len, I.D, I.nw, I.nd, I.nu, I.ne⟩
theorem IS.k0 (I : IS K T P2 CH p sc ns x dx ak ev a b0 wl ll dl du xs evs b rows us ps ds H) (k : Kept [] H H') : IS K T P2 CH p sc ns x dx ak ev a b0 wl ll dl du xs evs b rows us ps ds H' :=
  I.mv (I.L.k0 k) (.k0 k) Lsts.none (by simp) (by simp) (by simp) (by simp) (by simp) (by simp)
theorem IS.draw (I : IS K T P2 CH p sc ns x dx ak ev a b0 wl ll dl du xs evs b rows us ps ds H) (S' : StAt K H' p sc ns) (k : Kept [p] H H') : IS K T P2 CH p sc ns x dx ak ev a b0 wl ll dl du xs evs b rows us ps ds H' :=
  I.mv (I.L.draw S' k) (.kept k) (fun b hb => by rw [List.mem_singleton.mp hb]; exact I.L.S.ob) (by simpa using Ne.symm I.D.pa) (by simpa using Ne.symm I.D.pe) (by simpa using Ne.symm I.D.pw) (by simpa using Ne.symm I.D.pl) (by simpa using Ne.symm I.D.pd) (by simpa using Ne.symm I.D.pu)
/-- a deed is put to the others -/
theorem IS.deed (I : IS K T P2 CH p sc ns x dx ak ev a b0 wl ll dl du xs evs b rows us ps ds H) {d : Addr} {q : Nat × Dk} (hd : DeedAt H d q) : IS K T P2 CH p sc ns x dx ak ev a b0 wl ll dl du xs evs b rows us (ps ++ [d]) (ds ++ [q]) (L2.upd H dl (.lst (ps.map V.ref ++ [.ref d]))) := by
  have r : Rm [dl] H (L2.upd H dl (.lst (ps.map V.ref ++ [.ref d]))) := Rm.put
  have hM : Lsts [dl] H := .one I.hd
  have L' := I.L.put (xs := ps.map V.ref ++ [.ref d]) I.hd (Ne.symm I.D.pd) I.nd
  have one : ∀ {z : Addr}, z ≠ dl → z ∉ [dl] := fun h => by simpa using h
  refine ⟨L', I.HS.rm r hM (one I.D.ad) (one I.D.ed), r _ _ I.hw (one I.D.wd) (fun _ z => nomatch z), r.tup hM _ _ I.hb, r.tup hM _ _ I.h0, r _ _ I.hl (one I.D.ld) (fun _ z => nomatch z), upd_same.trans (by rw [List.map_append]; rfl), ?_, r _ _ I.hu (one (Ne.symm I.D.du_)) (fun _ z => nomatch z), fun v hv => (I.rows_ v hv).keep (r.tup hM), I.len, I.D, I.nw, I.nd, I.nu, I.ne⟩
  exact paired_app (Paired.mapP I.pr fun _ _ h => h.keep (r.tup hM)) (.cons (hd.keep (r.tup hM)) .nil)
/-- the law has done it -/
theorem IS.done (I : IS K T P2 CH p sc ns x dx ak ev a b0 wl ll dl du xs evs b rows us ps ds H) {b' : Addr} {rows' : List V} (k : Kept [wl] H H') (hw' : H' wl = some (.lst [.ref b'])) (hb' : H' b' = some (.tup rows')) : IS K T P2 CH p sc ns x dx ak ev a b0 wl ll dl du xs evs b' rows' us ps ds H' := by
  have r : Rm [wl] H H' := .kept k
  have hM : Lsts [wl] H := .one I.hw
  have one : ∀ {z : Addr}, z ≠ wl → z ∉ [wl] := fun h => by simpa using h
  have L' : LS K T P2 p sc ns H' := by
    have e : H' = L2.upd H' wl (.lst [.ref b']) := by
      funext z
      by_cases hz : z = wl
      · rw [hz, upd_same, hw']
      · rw [upd_ne hz]
    obtain ⟨i, r', m, h, h1, h2, h3⟩ := I.L.S
    refine ⟨⟨i, r', m, k _ _ h (one I.D.pw), h1, h2, ?_⟩, fun P hP => ?_, tabS_by I.L.t2 fun z o e hb => k z o e fun hm => ?_⟩
    · rcases I.nw with hn | hn
      · have n2 : sc ∉ [wl] := one (Ne.symm hn)
        rcases h3 with (h3 | ⟨ob, h3⟩) | h3
        · exact .inl (.inl (k _ _ h3 n2))
        · exact .inl (.inr ⟨ob, k _ _ h3 n2⟩)
        · exact .inr h3
      · exact hn _
    · obtain ⟨qs, e1, e2⟩ := I.L.ht P hP
      refine ⟨qs, k _ _ e1 fun hm => ?_, e2⟩
      rw [List.mem_singleton.mp hm, I.hw] at e1
      cases e1
    · rw [List.mem_singleton.mp hm, I.hw] at e
      rcases hb with z1 | ⟨q, rfl⟩
      · obtain ⟨ps, e2, _⟩ := I.L.t2
        rw [← z1, List.mem_singleton.mp hm, I.hw] at e2
        cases e2
      · exact codeO_lst (Option.some.inj e).symm
  exact ⟨L', I.HS.rm r hM (one I.D.aw) (one I.D.ew), hw', hb', r.tup hM _ _ I.h0, r _ _ I.hl (one (Ne.symm I.D.wl_)) (fun _ z => nomatch z), r _ _ I.hd (one (Ne.symm I.D.wd)) (fun _ z => nomatch z), Paired.mapP I.pr fun _ _ h => h.keep (r.tup hM), r _ _ I.hu (one (Ne.symm I.D.wu)) (fun _ z => nomatch z), fun v hv => (I.rows_ v hv).keep (r.tup hM), I.len, I.D, I.nw, I.nd, I.nu, I.ne⟩
/-- what is due is put to the rest -/
theorem IS.due (I : IS K T P2 CH p sc ns x dx ak ev a b0 wl ll dl du xs evs b rows us ps ds H) (v : V) : IS K T P2 CH p sc ns x dx ak ev a b0 wl ll dl du xs evs b rows (us ++ [v]) ps ds (L2.upd H du (.lst (us ++ [v]))) := by
  have r : Rm [du] H (L2.upd H du (.lst (us ++ [v]))) := Rm.put
  have hM : Lsts [du] H := .one I.hu
  have L' := I.L.put (xs := us ++ [v]) I.hu (Ne.symm I.D.pu) I.nu
  have one : ∀ {z : Addr}, z ≠ du → z ∉ [du] := fun h => by simpa using h
  exact ⟨L', I.HS.rm r hM (one I.D.au) (one I.D.eu), r _ _ I.hw (one I.D.wu) (fun _ z => nomatch z), r.tup hM _ _ I.hb, r.tup hM _ _ I.h0, r _ _ I.hl (one I.D.lu) (fun _ z => nomatch z), r _ _ I.hd (one I.D.du_) (fun _ z => nomatch z), Paired.mapP I.pr fun _ _ h => h.keep (r.tup hM), upd_same, fun v hv => (I.rows_ v hv).keep (r.tup hM), I.len, I.D, I.nw, I.nd, I.nu, I.ne⟩
end
theorem ran_len (xs : List V) (ds : List (Nat × Dk)) : (ranB xs ds).1.length = ds.length := by
  have gen : ∀ (ys : List (Nat × Dk)) (s : List V × List V), (ys.foldl stB s).1.length = s.1.length + ys.length := fun ys => by
    induction ys with
    | nil => intro s; rfl
    | cons y ys ih =>
      intro s
      rw [List.foldl_cons, ih, List.length_cons]
      show (s.1 ++ [_]).length + ys.length = _
      rw [List.length_append, List.length_singleton]
      omega
  exact (gen ds _).trans (Nat.zero_add _)
theorem end_rows {xs : List V} {ds : List (Nat × Dk)} {us rows : List V} {e : Option Nat} (h : EndAt xs ds us rows e) : ∃ i, rows = (ranB xs (ds.take i)).2 := by
  cases e with
  | none => exact ⟨ds.length, by rw [List.take_length]; exact h.2.2⟩
  | some i => exact ⟨i, h.2.2.2⟩
theorem end_ok {xs : List V} {ds : List (Nat × Dk)} {us rows : List V} {q : Nat × Dk} (h : EndAt xs ds us rows none) (hq : (dueD rows q.1 q.2).1.1 = "") : EndAt xs (ds ++ [q]) (us ++ [(dueD rows q.1 q.2).1.2]) (dueD rows q.1 q.2).2 none := by
  obtain ⟨h1, rfl, rfl⟩ := h
  refine ⟨fun i hi => ?_, ?_, ?_⟩
  · by_cases z : i < ds.length
    · exact (okB_app z).mpr (h1 i z)
    · rw [List.length_append, List.length_singleton] at hi
      have e : i = ds.length := by omega
      subst e
      intro q' eq
      rw [List.getElem?_append_right (Nat.le_refl _), Nat.sub_self] at eq
      cases eq
      rw [List.take_left]
      exact hq
  · rw [ranB_snoc]
    rfl
  · rw [ranB_snoc]
    rfl
theorem end_bad {xs : List V} {ds : List (Nat × Dk)} {us us' rows : List V} {q : Nat × Dk} (h : EndAt xs ds us rows none) (hq : (dueD rows q.1 q.2).1.1 ≠ "") : EndAt xs (ds ++ [q]) us' (dueD rows q.1 q.2).2 (some ds.length) := by
  obtain ⟨h1, rfl, rfl⟩ := h
  refine ⟨by rw [List.length_append, List.length_singleton]; omega, fun j hj => (okB_app hj).mpr (h1 j hj), ⟨q, ?_, ?_⟩, ?_⟩
  · rw [List.getElem?_append_right (Nat.le_refl _), Nat.sub_self]
    rfl
  · rw [List.take_left]
    exact hq
  · rw [List.take_left]
    exact due_same hq
theorem end_more {xs : List V} {ds : List (Nat × Dk)} {us us' rows : List V} {q : Nat × Dk} {i : Nat} (h : EndAt xs ds us rows (some i)) : EndAt xs (ds ++ [q]) us' rows (some i) := by
  obtain ⟨h0, h1, ⟨q', h2, h3⟩, h4⟩ := h
  refine ⟨by rw [List.length_append]; omega, fun j hj => (okB_app (by omega)).mpr (h1 j hj), ⟨q', ?_, ?_⟩, ?_⟩
  · rw [List.getElem?_append_left h0]
    exact h2
  · rw [List.take_append_of_le_length (Nat.le_of_lt h0)]
    exact h3
  · rw [List.take_append_of_le_length (Nat.le_of_lt h0)]
    exact h4
/-- ahead of a turn -/
structure WS (K : PySem.W.Frag) (T : List Addr) (P2 CH p sc : Addr) (ns : List Int) (x dx ak ev a b wl ll : Addr) (xs : List V) (evs : List Str) (H : Hp) : Prop where
  L : LS K T P2 p sc ns H
  HS : HSx H x dx CH ak ev a xs evs true
  hw : H wl = some (.lst [.ref b])
  hb : H b = some (.tup xs)
  hl : H ll = some (.lst (evs.map V.str))
  rows_ : ∀ v ∈ xs, RowRef H v
  len : xs.length ≤ 24
  pa : p ≠ ak
  pe : p ≠ ev
  pw : p ≠ wl
  pl : p ≠ ll
  ae : ak ≠ ev
  aw : ak ≠ wl
  al : ak ≠ ll
  ew : ev ≠ wl
  el : ev ≠ ll
  wl_ : wl ≠ ll
  nw : NS K sc ns wl
  ne : NS K sc ns ev
theorem fr_p {K : PySem.W.Frag} {H H' : Hp} {p sc t : Addr} {ns : List Int} (S : StAt K H p sc ns) (k : Kept [] H H') (n : H' t = none) : t ≠ p := fun z => by
  obtain ⟨xs, e⟩ := S.ob
  rw [z, k _ _ e (by simp)] at n
  cases n
theorem noM0 {H : Hp} : ∀ b ∈ ([] : List Addr), ∃ xs, H b = some (.lst xs) := fun b hb => absurd hb (by simp)
theorem rows_refs {H : Hp} {ps : List Addr} {rs : List Rw} (r : Paired (fun a r => H a = some (.tup ((Rw.ws r).map V.str))) ps rs) (hf : ∀ r ∈ rs, r.few) : ∀ v ∈ ps.map V.ref, RowRef H v := fun v hv => by
  obtain ⟨a, ha, rfl⟩ := List.mem_map.mp hv
  obtain ⟨i, hi⟩ := List.mem_iff_getElem?.mp ha
  obtain ⟨r', er, hr1⟩ := paired_at r hi
  exact ⟨a, r', rfl, hf _ (List.mem_of_getElem? er), hr1⟩
theorem RowRef.rowV {K : PySem.W.Frag} {H : Hp} {v : V} (h : RowRef H v) : RowV K H v true := by
  obtain ⟨r, q, e, hq, er⟩ := h
  exact DRow.rowV ⟨r, q.ws, e, er, .inl ⟨rfl, q, hq, rfl⟩⟩
theorem Rm.kpe {T : List Addr} {x ev : Addr} {H H' : Hp} (ht : ∀ P ∈ T, TabG H P) (k : KpE T x ev H H') : Rm [x, ev] H H' := fun b o e n m => k.keep b o e (tab_not ht e m) (fun z => n (by simp [z])) (fun z => n (by simp [z]))
theorem Rm.far {M : List Addr} {H H1 : Hp} {lf : Addr} {o : HO} (r : Rm M H H1) (n : H lf = none) : Rm M H (L2.upd H1 lf o) := fun b u e nb m => (upd_ne fun z => by rw [z, n] at e; cases e).trans (r b u e nb m)
theorem Rm.sub {M N : List Addr} {H H' : Hp} (r : Rm M H H') (h : ∀ b ∈ M, b ∈ N) : Rm N H H' := fun b o e n m => r b o e (fun z => n (h b z)) m
theorem LS.kpe {K : PySem.W.Frag} {T : List Addr} {P2 p sc x ev C dx : Addr} {ns : List Int} {fs : List (Str × V)} {es : List V} {H H' : Hp} (L : LS K T P2 p sc ns H) (nT2 : P2 ∉ T) (hx : H x = some (.ins C dx fs)) (he : H ev = some (.lst es)) (pe : p ≠ ev) (ne : NS K sc ns ev) (k : KpE T x ev H H') : LS K T P2 p sc ns H' := by
  have nx : ∀ {b : Addr} {o : HO}, H b = some o → (∀ C dx fs, o ≠ .ins C dx fs) → b ≠ x := fun {b o} e n z => by
    rw [z, hx] at e
    exact n _ _ _ (Option.some.inj e).symm
  have nev : ∀ {b : Addr} {o : HO}, H b = some o → (∀ ys, o ≠ .lst ys) → b ≠ ev := fun {b o} e n z => by
    rw [z, he] at e
    exact n _ (Option.some.inj e).symm
  have nt : ∀ {b : Addr} {o : HO}, H b = some o → (∀ ps, o ≠ .tbl ps) → b ∉ T := fun e n => tab_not L.ht e n
  obtain ⟨i, r, m, h, h1, h2, h3⟩ := L.S
  refine ⟨⟨i, r, m, k.keep _ _ h (nt h (fun _ z => nomatch z)) (nx h (fun _ _ _ z => nomatch z)) pe, h1, h2, ?_⟩, k.tab, tabS_by L.t2 fun b o e hb => ?_⟩
  · rcases ne with hn | hn
    · rcases h3 with (h3 | ⟨ob, h3⟩) | h3
      · exact .inl (.inl (k.keep _ _ h3 (nt h3 (fun _ z => nomatch z)) (nx h3 (fun _ _ _ z => nomatch z)) (Ne.symm hn)))
      · exact .inl (.inr ⟨ob, k.keep _ _ h3 (nt h3 (fun _ z => nomatch z)) (nx h3 (fun _ _ _ z => nomatch z)) (Ne.symm hn)⟩)
      · exact .inr h3
    · exact hn _
  · rcases hb with rfl | ⟨q, rfl⟩
    · obtain ⟨ps, e2, _⟩ := id L.t2
      exact k.keep _ _ e nT2 (nx e (fun _ _ _ z => by rw [z] at e; rw [e2] at e; cases e)) (nev e (fun _ z => by rw [z] at e; rw [e2] at e; cases e))
    · exact k.keep _ _ e (nt e codeO_tbl) (nx e (fun _ _ _ => codeO_ins)) (nev e (fun _ => codeO_lst))
/-- the rows as they are to stand -/
def rowsF (xs rows : List V) : Option Nat → Bool → List V
  | some _, false => xs
  | _, _ => rows
def mE (ds : List (Nat × Dk)) (e : Option Nat) : Nat := e.getD ds.length
def evsF (evs : List Str) (ds : List (Nat × Dk)) (e : Option Nat) : List Str := evs ++ [("begun" : Str)] ++ wordsB (ds.take (mE ds e)) ++ [("ended" : Str)]
/-- behind a batch -/
structure AS (K : PySem.W.Frag) (T : List Addr) (P2 CH p sc : Addr) (ns : List Int) (x dx ak ev a wl ll dl du : Addr) (xs : List V) (evs evs' : List Str) (b : Addr) (R us : List V) (ps : List Addr) (ds : List (Nat × Dk)) (H : Hp) : Prop where
  L : LS K T P2 p sc ns H
  HS : HSx H x dx CH ak ev a R evs' true
  hw : H wl = some (.lst [.ref b])
  hb : H b = some (.tup R)
  hl : H ll = some (.lst (evs.map V.str))
  hd : H dl = some (.lst (ps.map V.ref))
  pr : Paired (DeedAt H) ps ds
  hu : H du = some (.lst us)
  rows_ : ∀ v ∈ xs, RowRef H v
/-- what the batch told -/
def FoundAt (H : Hp) (us : List V) (stays : Bool) (f : Addr) : Option Nat → Prop
  | none => ∃ out, H f = some (.tup [.str "", .ref out]) ∧ H out = some (.lst us)
  | some i => ∃ t, H f = some (.tup [.str "halted", .ref t]) ∧ H t = some (.tup [.int (i : Int), .int (if stays = true then (i : Int) else 0)])
section
variable {K : PySem.W.Frag} {T : List Addr} {P2 CH p sc : Addr} {ns : List Int} {x dx ak ev a a' b0 wl ll dl du : Addr} {xs : List V} {evs evs' : List Str} {b : Addr} {R rows us : List V} {ps : List Addr} {ds : List (Nat × Dk)} {H H' : Hp} {M : List Addr}
theorem IS.as (I : IS K T P2 CH p sc ns x dx ak ev a b0 wl ll dl du xs evs b R us ps ds H) (L' : LS K T P2 p sc ns H') (r : Rm [x, ev] H H') (S' : HSx H' x dx CH ak ev a' R evs' true) : AS K T P2 CH p sc ns x dx ak ev a' wl ll dl du xs evs evs' b R us ps ds H' := by
  have nx : ∀ {b : Addr} {o : HO}, H b = some o → (∀ C dx fs, o ≠ .ins C dx fs) → b ≠ ev → b ∉ [x, ev] := fun {b o} e n n2 => by
    have n1 : b ≠ x := fun z => by
      rw [z, I.HS.S.ob] at e
      exact n _ _ _ (Option.some.inj e).symm
    simp [n1, n2]
  have tup : ∀ b xs, H b = some (.tup xs) → H' b = some (.tup xs) := fun b xs e => r _ _ e (nx e (fun _ _ _ z => nomatch z) (fun z => by
    rw [z, I.HS.S.ev] at e
    cases e)) (fun _ z => nomatch z)
  exact ⟨L', S', r _ _ I.hw (nx I.hw (fun _ _ _ z => nomatch z) (Ne.symm I.D.ew)) (fun _ z => nomatch z), tup _ _ I.hb, r _ _ I.hl (nx I.hl (fun _ _ _ z => nomatch z) (Ne.symm I.D.el)) (fun _ z => nomatch z), r _ _ I.hd (nx I.hd (fun _ _ _ z => nomatch z) (Ne.symm I.D.ed)) (fun _ z => nomatch z),
    Paired.mapP I.pr fun _ _ h => h.keep tup, r _ _ I.hu (nx I.hu (fun _ _ _ z => nomatch z) (Ne.symm I.D.eu)) (fun _ z => nomatch z), fun v hv => (I.rows_ v hv).keep tup⟩
theorem AS.k0 (I : AS K T P2 CH p sc ns x dx ak ev a wl ll dl du xs evs evs' b R us ps ds H) (k : Kept [] H H') : AS K T P2 CH p sc ns x dx ak ev a wl ll dl du xs evs evs' b R us ps ds H' :=
  ⟨I.L.k0 k, I.HS.kept k, k _ _ I.hw (by simp), k _ _ I.hb (by simp), k _ _ I.hl (by simp), k _ _ I.hd (by simp), Paired.mapP I.pr fun _ _ h => h.keep fun _ _ e => k _ _ e (by simp), k _ _ I.hu (by simp), fun v hv => (I.rows_ v hv).keep fun _ _ e => k _ _ e (by simp)⟩
theorem FoundAt.k0 {stays : Bool} {f : Addr} {e : Option Nat} (h : FoundAt H us stays f e) (k : Kept [] H H') : FoundAt H' us stays f e := by
  cases e with
  | none => exact let ⟨out, h1, h2⟩ := h; ⟨out, k _ _ h1 (by simp), k _ _ h2 (by simp)⟩
  | some i => exact let ⟨t, h1, h2⟩ := h; ⟨t, k _ _ h1 (by simp), k _ _ h2 (by simp)⟩
/-- another list of the rows -/
theorem IS.w {wl' : Addr} (I : IS K T P2 CH p sc ns x dx ak ev a b0 wl ll dl du xs evs b rows us ps ds H) (n : H wl' = none) : IS K T P2 CH p sc ns x dx ak ev a b0 wl' ll dl du xs evs b0 xs us ps ds (L2.upd H wl' (.lst [.ref b0])) := by
  have k := (Kept.refl (M := []) H).upd (o := .lst [.ref b0]) n
  have J := I.k0 k
  have f : ∀ {z : Addr} {o : HO}, H z = some o → z ≠ wl' := fun e => ne_of_none e n
  obtain ⟨zs, ep⟩ := I.L.S.ob
  exact ⟨J.L, J.HS, upd_same, J.h0, J.h0, J.hl, J.hd, J.pr, J.hu, J.rows_, J.len, ⟨I.D.pa, I.D.pe, f ep, I.D.pl, I.D.pd, I.D.pu, I.D.ae, f I.HS.ask, I.D.al, I.D.ad, I.D.au, f I.HS.S.ev, I.D.el, I.D.ed, I.D.eu, Ne.symm (f I.hl), Ne.symm (f I.hd), Ne.symm (f I.hu), I.D.ld, I.D.lu, I.D.du_⟩, ns_new I.L.S n, I.nd, I.nu, I.ne⟩
end
theorem bat_mono {K : PySem.W.Frag} {T : List Addr} {C CHa : Addr} {vs : List V} {H : Hp} {Q Q' : VK} {E E' : XK} (h : spBatchK K T C CHa vs H Q E) (m : ∀ v H', Q v H' → Q' v H') (n : ∀ c d H', E c d H' → E' c d H') : spBatchK K T C CHa vs H Q' E' :=
  let ⟨x, dx, ak, ev, a, l, xs, evs, b, kp, ps, ds, k, h1, h2, h3, h4, h5, h6, h7, h8, h9, h10, h11, h12⟩ := h
  ⟨x, dx, ak, ev, a, l, xs, evs, b, kp, ps, ds, k, h1, h2, h3, h4, h5, h6, h7, h8, h9, h10, h11, h12.elim (fun ⟨z, f⟩ => .inl ⟨z, fun H' out a' k1 k2 k3 k4 => m _ _ (f H' out a' k1 k2 k3 k4)⟩) (fun ⟨q, e1, e2, f⟩ => .inr ⟨q, e1, e2, fun H' d a' k1 k2 k3 => n _ _ _ (f H' d a' k1 k2 k3)⟩)⟩
theorem ew_mono {cE : Nat → Addr} {Q Q' : VK} {c : Value} {d : Option Addr} {H : Hp} (h : EW7 cE Q c d H) (m : ∀ v H', Q v H' → Q' v H') : EW7 cE Q' c d H :=
  let ⟨y, z, dd, h1, h2, h3, h4⟩ := h
  ⟨y, z, dd, h1, h2, h3, fun H' p t k1 k2 k3 => m _ _ (h4 H' p t k1 k2 k3)⟩
theorem ws0 (q : Nat × Dk) : (q.2.ws q.1)[0]? = some (.str q.2.word) := by
  obtain ⟨n, k⟩ := q
  cases k <;> rfl
theorem mE_le {xs us rows : List V} {ds : List (Nat × Dk)} {e : Option Nat} (h : EndAt xs ds us rows e) : mE ds e ≤ ds.length := by
  cases e with
  | none => exact Nat.le_refl _
  | some i => exact Nat.le_of_lt h.1
theorem evsF_len {evs : List Str} {xs us rows : List V} {ds : List (Nat × Dk)} {e : Option Nat} (h : EndAt xs ds us rows e) : (evsF evs ds e).length = evs.length + 2 + mE ds e := by
  have := mE_le h
  unfold evsF wordsB
  rw [List.length_append, List.length_append, List.length_append, List.length_map, List.length_take, List.length_singleton, List.length_singleton]
  omega
theorem evsF_map (evs : List Str) (ds : List (Nat × Dk)) (e : Option Nat) : evs.map V.str ++ [V.str "begun"] ++ (wordsB (ds.take (mE ds e))).map V.str ++ [V.str "ended"] = (evsF evs ds e).map V.str := by
  unfold evsF
  rw [List.map_append, List.map_append, List.map_append]
  rfl
theorem at_strs {K : PySem.W.Frag} {H : Hp} (zs : List Str) {n : Nat} : Paired (At K H (n + 1)) (zs.map V.str) (zs.map V.str) := at_refl fun v hv => by
  obtain ⟨z, _, rfl⟩ := List.mem_map.mp hv
  exact .inl ⟨rfl, trivial⟩
section
variable {P : Program} {w : World} {K : PySem.W.Frag} {mg : Str → Option Value} {base : Heap} {f c P2 f1 f2 f3 f5 f6 f9 gW CA CH fHI fBa fTx fTo fId : Addr} {fd fd1 fd2 fd3 fd5 fd6 fd9 fdW fdHI fdBa fdTx fdTo fdId : FuncData} {T : List Addr} {cE : Nat → Addr} {dsB : List Value}
theorem ok_law (F : FnP K "law" lLaw f fd) (hc : fd.code = .ref c) (TB : TabB base mg c P2) (nT2 : P2 ∉ T) (B : Bl mg) (zInt : mg "int" = none) (cRow : Own P w K mg base "_law_row" 1 f1 fd1 ["_law_script"] (spLRow K)) (cText : Own P w K mg base "_law_text" 3 f2 fd2 ["_law_row_here", "_law_many"] (spText K))
    (cTaken : Own P w K mg base "_law_taken" 1 f3 fd3 ["_law_row_here", "_law_many"] (spTaken K)) (cDeed : Own P w K mg base "_law_deed" 3 f5 fd5 ["_law_row_here", "_law_many"] (spLDeed K)) (cDone : Own P w K mg base "_law_done" 1 f6 fd6 ["_law_w", "_law_deed_here"] (spLDone K))
    (cAlike : Own P w K mg base "_law_alike" 4 f9 fd9 ["_law_found", "_law_due"] (spAlike K 4))
    (FW : FnP K "_law_word" lWord gW fdW) (gWm : mg "_law_word" = some (.ref gW)) (kW : PySem.W.keepIn K (.ref gW) = true) (bW : L2.Binds K fdW ["_law_work"] []) (WF : WordG K mg CA cE) (x7 : XfC K (cE 7)) (no1 : PySem.W.findIn K (.ref (cE 7)) "number" = some none) (no2 : PySem.W.findIn K (.ref (cE 7)) "done" = some none)
    (CHc : ClsH K CH) (M : Mk K CH fHI) (gH : mg "House" = some (.ref CH)) (FHI : FnOk P w K mg base CX0 7 fHI fdHI ["self", "rows"] (spHI2 K T CH)) (bHI : L2.Binds K fdHI ["self", "rows"] [])
    (mBa : Meth K CH "batch" fBa) (FBa : FnOk P w K mg base (L2.CX P w) 8 fBa fdBa ["self", "deeds", "keep"] (spBatchK K T CH (cE 7))) (FBd : BatchF K fBa fdBa) (vB : Vals [V.bl true] dsB) (bBa : L2.Binds K fdBa ["self", "deeds", "keep"] dsB)
    (mTx : Meth K CH "text" fTx) (FTx : FnOk P w K mg base CX0 1 fTx fdTx ["self"] (spHNo CH fun rv _ _ => rv)) (bTx : L2.Binds K fdTx ["self"] [])
    (mTo : Meth K CH "told" fTo) (FTo : FnOk P w K mg base CX0 1 fTo fdTo ["self"] (spHTold CH)) (bTo : L2.Binds K fdTo ["self"] [])
    (mId : Meth K CH "is_idle" fId) (FId : FnOk P w K mg base CX0 1 fId fdId ["self"] (spHNo CH fun _ _ b => .bl b)) (bId : L2.Binds K fdId ["self"] []) :
    FnOk P w K mg base CX0 14 f fd ["_law_script"] (spLaw K T P2) := by
  obtain ⟨woc, wod, wdV, wkV, wdoc, wpm, wan, wcdv, wct, wosl, rfl, wlk, wcd, _, _⟩ := FW.ex
  refine okC F hc scLaw (fun vs H Q E h => ?_) (fun A outer s H vs Q E hr h => ?_)
  · obtain ⟨a, ns, rfl, _⟩ := h
    rfl
  · obtain ⟨sc, ns, rfl, hs, hl, ht, t2, k⟩ := h
    refine ⟨_, PSs.nox (pss_cons (ps_set (i := 1) scLaw.nd rfl (.inl rfl) (pe_call cRow.ok (hr.mono (by decide)) (by rfl) cRow.g cRow.kp cRow.b .nil pass0 (pa_cons (pv 0) pa_nil)))
      (pss_cons (ps_set (i := 2) scLaw.nd rfl (.inl rfl) (pe_lst (pa_cons (pe_call cText.ok (hr.mono (by decide)) (by rfl) cText.g cText.kp cText.b .nil pass0 (pa_cons (pv 1) (pa_cons pe_int pa_nil))) pa_nil)))
      (Evl.pss_cut (ps_asg (pe_tup (pa_cons (pe_make M FHI (hr.mono (by decide)) (by rfl) gH bHI .nil pass0 (pa_cons (pe_ix (show IxR _ (rIxL K) from ix_list) (pv 2) pe_int (fun _ _ => rfl)) pa_nil)) (pa_cons (pe_lst pa_nil) pa_nil))) (pg_tup rfl (pgs_cons (pg_name (i := 3) scLaw.nd rfl (.inr rfl)) (pgs_cons (pg_name (i := 4) scLaw.nd rfl (.inl rfl)) pgs_nil))))
      (Evl.pss_cut (ps_for PassesOwn.never rfl (pi_range1 (by rfl) B.range_ (pa_cons pe_int pa_nil)) (pg_name (i := 5) scLaw.nd rfl (.inl rfl))
      (Evl.pss_cut (ps_asg (pe_tup (pa_cons (pe_ix (show IxR _ (rIxL K) from ix_list) (pv 2) pe_int (fun _ _ => rfl)) (pa_cons (pe_lst pa_nil) (pa_cons (pe_lst pa_nil) (pa_cons pe_non pa_nil))))) (pg_tup rfl (pgs_cons (pg_name (i := 6) scLaw.nd rfl (.inl rfl)) (pgs_cons (pg_name (i := 7) scLaw.nd rfl (.inr rfl)) (pgs_cons (pg_name (i := 8) scLaw.nd rfl (.inl rfl)) (pgs_cons (pg_name (i := 9) scLaw.nd rfl (.inl rfl)) pgs_nil))))))
      (Evl.pss_cut (ps_for PassesOwn.never rfl (pi_range1 (by rfl) B.range_ (pa_cons (pe_call cTaken.ok (hr.mono (by decide)) (by rfl) cTaken.g cTaken.kp cTaken.b .nil pass0 (pa_cons (pv 1) (pa_cons pe_int pa_nil))) pa_nil)) (pg_name (i := 10) scLaw.nd rfl (.inl rfl))
      (pss_cons (ps_expr (pe_bm PySem.F.plainAttrs_list PySem.F.slot_list_append PySem.F.type_list_append mt_append (pv 7) (pa_cons (pe_call cDeed.ok (hr.mono (by decide)) (by rfl) cDeed.g cDeed.kp cDeed.b .nil pass0 (pa_cons (pv 1) (pa_cons (pe_callB call_len_seq (by rfl) B.len_ (by decide +kernel) (pa_cons (pe_ix (show IxR _ (rIxL K) from ix_list) (pv 2) pe_int (fun _ _ => rfl)) pa_nil)) pa_nil))) pa_nil)))
      (pss_one (ps_if (pt_cmpR op_isN (pv 9) pe_non (nomark _)) (pss_cons (ps_set (i := 11) scLaw.nd rfl (.inl rfl) (pe_call cDone.ok (hr.mono (by decide)) (by rfl) cDone.g cDone.kp cDone.b .nil pass0 (pa_cons (pv 2) (pa_cons (pe_ix (show IxR _ (rIxL K) from ix_list) (pv 7) (pv 10) (fun _ _ => rfl)) pa_nil))))
      (pss_cons (ps_expr (pe_bm PySem.F.plainAttrs_list PySem.F.slot_list_append PySem.F.type_list_append mt_append (pv 8) (pa_cons (pe_ix (show IxR _ (rIxT K) from ix_tup) (pv 11) pe_int (fun _ _ => rfl)) pa_nil)))
      (pss_one (ps_set (i := 9) scLaw.nd rfl (.inl rfl) (pe_ifExp (pt_cmpR op_ne (pe_ix (show IxR _ (rIxT K) from ix_tup) (pv 11) pe_int (fun _ _ => rfl)) pe_str (nomark _)) (pv 10) pe_non))))) pss_nil))))
      (Evl.pss_cut (ps_set (i := 12) scLaw.nd rfl (.inr rfl) (pe_cmpR op_eq (pe_call cTaken.ok (hr.mono (by decide)) (by rfl) cTaken.g cTaken.kp cTaken.b .nil pass0 (pa_cons (pv 1) (pa_cons pe_int pa_nil))) pe_int (nomark _)))
      (Evl.pss_cut (ps_set (i := 13) scLaw.nd rfl (.inl rfl) (pe_ifExp (pt_cmpR op_isN (pv 9) pe_non (nomark _)) (pe_callB call_len_seq (by rfl) B.len_ (by decide +kernel) (pa_cons (pv 7) pa_nil)) (pv 9)))
      (Evl.pss_cut (ps_set (i := 2) scLaw.nd rfl (.inl rfl) (pe_ifExp (PW.pt (pw_and (pt_cmpR op_notN (pv 9) pe_non (nomark _)) (pw_and1 (pt_not (pt_val (pv 12)))))) (pe_lst (pa_cons (pv 6) pa_nil)) (pv 2)))
      (Evl.pss_cut (ps_if (PW.pt (pw_and (pt_val (pv 12)) (pw_and1 (pt_cmpR op_eq (pe_call cTaken.ok (hr.mono (by decide)) (by rfl) cTaken.g cTaken.kp cTaken.b .nil pass0 (pa_cons (pv 1) (pa_cons pe_int pa_nil))) pe_int (nomark _))))) (pss_one (ps_set (i := 14) scLaw.nd rfl (.inl rfl) (pe_word1 (P := P2) (k := 10) (by rfl) gWm kW wlk wcd bW scW2 rfl (.inl rfl) (word_gives7 WF x7 no1 no2) (hr.mono (by decide)) (pe_lamK0 TB rfl (lamSD_by (N := lawN) lamS_ok0).free rfl) (lamSD_by (N := lawN) lamS_ok0) ⟨fun _ _ _ _ _ _ => rfl, fun z => nomatch z⟩ (fun A1 outer1 s1 H1 E1 f1' c1' hr' => (pe_meth (X := (lamCx (cxOf CX0 P w K mg base lawN "law" (defScope lLaw) f (.ref c) A outer s H E).nox A1 outer1 s1 H1 E1 (lamS 0) f1' c1')) (pv 3) CHc.c mBa FBa (hr'.mono (by decide)) bBa vB (passes_call (takes_of rfl rfl rfl rfl) (fun _ _ _ _ h => h)) (pa_cons (pv 7) pa_nil)))))) (pss_one (ps_set (i := 14) scLaw.nd rfl (.inl rfl) (pe_word1 (P := P2) (k := 10) (by rfl) gWm kW wlk wcd bW scW2 rfl (.inl rfl) (word_gives7 WF x7 no1 no2) (hr.mono (by decide)) (pe_lamKD TB rfl (lamSD_by (N := lawN) lamS_ok1).free rfl) (lamSD_by (N := lawN) lamS_ok1) ⟨(fun z => nomatch z), fun _ => ⟨_, rfl, fun _ _ _ _ _ _ => ⟨_, rfl, fun _ => rfl⟩⟩⟩ (fun A1 outer1 s1 H1 E1 f1' c1' hr' => (pe_methN (X := (lamCx (cxOf CX0 P w K mg base lawN "law" (defScope lLaw) f (.ref c) A outer s H E).nox A1 outer1 s1 H1 E1 (lamS 1) f1' c1')) (pv 3) CHc.c mBa FBa (hr'.mono (by decide)) (batch_bk FBd) (passes_call (takes_of rfl rfl rfl rfl) (fun _ _ _ _ h => h)) (pa_cons (pv 7) pa_nil) (pk_cons (pv 12) pk_nil)))))))
      (Evl.pss_cut (ps_set (i := 4) scLaw.nd rfl (.inl rfl) (pe_op op_cat (pe_op op_cat (pe_op op_cat (pv 4) (pe_lst (pa_cons pe_str pa_nil))) (pe_lc (own := [("_law_deed_here", 15)]) (g := gName 15) rfl scLaw.nd (pi_list (pe_slice (show SlR _ (rSlL K) from sl_list) (pv 7) po_none (po_some (pv 13)))) (blkOk_by (N := lawN) (sc := defScope lLaw) (by decide +kernel)) (fun _ _ _ _ _ => (pg_name (i := 15) scLaw.nd rfl (Or.inl rfl))) (fun _ _ _ _ _ => pts_nil) (fun _ _ _ _ _ => (pe_ix (show IxR _ (rIxT K) from ix_tup) (pv 15) pe_int (fun _ _ => rfl))))) (pe_lst (pa_cons pe_str pa_nil))))
      (Evl.pss_cut (ps_if (pt_not (pt_val (pe_call cAlike.ok (hr.mono (by decide)) (by rfl) cAlike.g cAlike.kp cAlike.b .nil pass0 (pa_cons (pv 14) (pa_cons (pe_ifExp (pt_cmpR op_isN (pv 9) pe_non (nomark _)) (pe_tup (pa_cons pe_str (pa_cons (pv 8) pa_nil))) (pe_tup (pa_cons pe_str (pa_cons (pe_tup (pa_cons (pv 9) (pa_cons (pe_op op_mul (pv 9) (pe_callTy call_int1 (by rfl) zInt (by decide +kernel) (pa_cons (pv 12) pa_nil))) pa_nil))) pa_nil)))) pa_nil))))) (pss_one (ps_ret pe_bl)) pss_nil)
      (Evl.pss_cut (ps_if (PW.pt (pw_or (pt_not (pt_val (pe_call cAlike.ok (hr.mono (by decide)) (by rfl) cAlike.g cAlike.kp cAlike.b .nil pass0 (pa_cons (pe_lst (pa_cons (pe_meth0 (pv 3) CHc.c mTx FTx (hr.mono (by decide)) bTx .nil pass0) (pa_cons (pe_meth0 (pv 3) CHc.c mTo FTo (hr.mono (by decide)) bTo .nil pass0) pa_nil))) (pa_cons (pe_lst (pa_cons (pe_ix (show IxR _ (rIxL K) from ix_list) (pv 2) pe_int (fun _ _ => rfl)) (pa_cons (pv 4) pa_nil))) pa_nil))))) (pw_or1 (pt_not (pt_val (pe_meth0 (pv 3) CHc.c mId FId (hr.mono (by decide)) bId .nil pass0)))))) (pss_one (ps_ret pe_bl)) pss_nil)
      (pss_one (ps_expr (pe_bm PySem.F.plainAttrs_list PySem.F.slot_list_append PySem.F.type_list_append mt_append (pe_meth0 (pv 3) CHc.c mTo FTo (hr.mono (by decide)) bTo .nil pass0) (pa_cons pe_str pa_nil))))))))))))))
      (pss_one (ps_ret pe_bl)))))), ?_⟩
    refine ⟨_, rfl, sc, ns, rfl, hs, hl, fun p m np => ?_⟩
    have kA : Kept [] H (L2.upd H p (.lst [.ref sc, .int 0, .int 0, .int m])) := (Kept.refl H).upd np
    have S0 : StAt K (L2.upd H p (.lst [.ref sc, .int 0, .int 0, .int m])) p sc ns := by
      refine ⟨0, 0, m, upd_same, Int.le_refl _, Int.le_refl _, ?_⟩
      rcases hs with (h | ⟨o, h⟩) | h
      · exact .inl (.inl (kA _ _ h (by simp)))
      · exact .inl (.inr ⟨o, kA _ _ h (by simp)⟩)
      · exact .inr h
    have L0 : LS K T P2 p sc ns (L2.upd H p (.lst [.ref sc, .int 0, .int 0, .int m])) := ⟨S0, (Kp.of2 ht kA).tab, tabS_by t2 fun b o e _ => kA b o e (by simp)⟩
    -- the text
    refine ⟨_, rfl, p, sc, ns, 10, rfl, S0, by omega, by omega, fun q rs H2 few len S2 k2 tx => ?_⟩
    obtain ⟨ps, hq, hps⟩ := id tx
    refine ⟨by show (1 : Nat) ≤ sizeLine; decide, fun wl nwl => ?_⟩
    have kk : Kept [] H2 (L2.upd H2 wl (.lst [.ref q])) := (Kept.refl H2).upd nwl
    have LL := (L0.draw S2 k2).k0 kk
    have nww := ns_new S2 nwl
    have pww := Ne.symm (fr_p S2 (Kept.refl _) nwl)
    have hl24 : (ps.map V.ref).length ≤ 24 := by rw [List.length_map, hps.length]; omega
    have hq3 := kk _ _ hq (by simp)
    have rw3 : ∀ v ∈ ps.map V.ref, RowRef (L2.upd H2 wl (.lst [.ref q])) v := fun v hv => (rows_refs hps few v hv).keep fun b xs e => kk _ _ e (by simp)
    have hw3 : L2.upd H2 wl (.lst [.ref q]) wl = some (.lst [.ref q]) := upd_same
    clear S0 kA hs ht t2 L0 S2 k2 tx hq hps np nwl few len kk
    generalize L2.upd H2 wl (.lst [.ref q]) = H3 at LL hq3 rw3 hw3 ⊢
    generalize ps.map V.ref = ys0 at rw3 hl24 hq3 ⊢
    clear H2 ps rs m
    -- the house
    refine ⟨fun σ H' => ∃ x dx ak ev a b wl ll xs evs, σ = [some (.ref sc), some (.ref p), some (.ref wl), some (.ref x), some (.ref ll), none, none, none, none, none, none, none, none, none, none, none] ∧ WS K T P2 CH p sc ns x dx ak ev a b wl ll xs evs H' ∧ evs.length ≤ 0, ?_, ?_⟩
    · refine ⟨_, rfl, wl, _, 0, .ref q, rfl, rfl, SqL.of hw3, at_of (j := 0) rfl rfl, ?_⟩
      intro x dx nx ndx dxx
      have kx : Kept [] H3 (L2.upd (L2.upd H3 dx (.own x)) x (.ins CH dx [])) := ((Kept.refl H3).upd ndx).upd (by rw [upd_ne (Ne.symm dxx)]; exact nx)
      refine ⟨x, dx, q, _, rfl, upd_same, kx _ _ hq3 (by simp), hl24, fun v hv => ((rw3 v hv).keep fun _ _ e => kx _ _ e (by simp)).rowV, (LL.k0 kx).ht, fun H5 ak ev k5 nak nev nae HS => ⟨rfl, ?_⟩⟩
      have Lx := LL.k0 kx
      have notx : ∀ {b : Addr} {o : HO}, H3 b = some o → b ≠ x := fun {b o} e z => by
        rw [z, nx] at e
        cases e
      have g : ∀ {b : Addr} {o : HO}, H3 b = some o → (∀ ps, o ≠ .tbl ps) → H5 b = some o := fun {b o} e n => k5.keep b o (kx b o e (by simp)) (tab_not Lx.ht (kx b o e (by simp)) n) (notx e)
      have old : ∀ {b : Addr} {o : HO} {z : Addr}, H3 b = some o → (L2.upd (L2.upd H3 dx (.own x)) x (.ins CH dx [])) z = none → z ≠ b := fun {b o z} e n y => by
        rw [y, kx b o e (by simp)] at n
        cases n
      obtain ⟨zs, ep⟩ := LL.S.ob
      have S5 : StAt K H5 p sc ns := by
        obtain ⟨i, r, m2, h, h1, h2, h3⟩ := LL.S
        refine ⟨i, r, m2, g h (fun _ z => nomatch z), h1, h2, ?_⟩
        rcases h3 with (h3 | ⟨ob, h3⟩) | h3
        · exact .inl (.inl (g h3 (fun _ z => nomatch z)))
        · exact .inl (.inr ⟨ob, g h3 (fun _ z => nomatch z)⟩)
        · exact .inr h3
      have L5 : LS K T P2 p sc ns H5 := ⟨S5, k5.tab, tabS_by LL.t2 fun b o e hb => k5.keep b o (kx b o e (by simp)) (by
        rcases hb with rfl | ⟨q, rfl⟩
        · exact nT2
        · exact tab_not Lx.ht (kx _ _ e (by simp)) codeO_tbl) (notx e)⟩
      refine ⟨Nat.zero_le _, fun ll nll => ⟨by show (2 : Nat) ≤ sizeLine; decide, fun pp npp => ⟨pp, _, rfl, SqT.of upd_same, rfl, _, _, rfl, _, _, rfl, rfl, x, dx, ak, ev, q, q, wl, ll, ys0, [], rfl, ?_, Nat.le_refl _⟩⟩⟩
      have kp := ((Kept.refl (M := []) H5).upd (o := .lst []) nll).upd (o := .tup [.ref x, .ref ll]) npp
      have hl5 := ((Kept.refl (M := []) (L2.upd H5 ll (.lst []))).upd (o := .tup [.ref x, .ref ll]) npp) _ _ upd_same (by simp)
      have nel : ∀ {b : Addr} {o : HO}, H5 b = some o → b ≠ ll := fun e => ne_of_none e nll
      exact ⟨L5.k0 kp, HS.kept kp, kp _ _ (g hw3 (fun _ z => nomatch z)) (by simp), kp _ _ (g hq3 (fun _ z => nomatch z)) (by simp), hl5, fun v hv => (rw3 v hv).keep fun b xs e => kp _ _ (g e (fun _ z => nomatch z)) (by simp), hl24,
        Ne.symm (old ep nak), Ne.symm (old ep nev), pww, nel (g ep (fun _ z => nomatch z)), nae, old hw3 nak, nel HS.ask, old hw3 nev, nel HS.S.ev, nel (g hw3 (fun _ z => nomatch z)), nww, ns_new Lx.S nev⟩
    clear LL hq3 rw3 hw3 nww pww hl24 ys0
    rintro σ H3 ⟨x, dx, ak, ev, a, b, wl, ll, xs, evs, rfl, W, hev⟩
    -- the turns
    refine ⟨fun σ H' => True, ?_, ?_⟩
    · refine ⟨4, rfl, by omega, by omega, for_it (walk_range (lo := 0) (n := 4)) (fun t σ H' => ∃ a b wl ll xs evs v5 v6 v7 v8 v9 v10 v11 v12 v13 v14 v15, σ = [some (.ref sc), some (.ref p), some (.ref wl), some (.ref x), some (.ref ll), v5, v6, v7, v8, v9, v10, v11, v12, v13, v14, v15] ∧ WS K T P2 CH p sc ns x dx ak ev a b wl ll xs evs H' ∧ evs.length ≤ 7 * t) ⟨a, b, wl, ll, xs, evs, none, none, none, none, none, none, none, none, none, none, none, rfl, W, hev⟩ (fun _ _ _ _ _ => trivial) ?_ (fun σ H' h => trivial)⟩
      clear W a b wl ll xs evs hev k
      rintro t0 y0 σ Hy Hb ht0 ⟨a, b, wl, ll, xs, evs, v5, v6, v7, v8, v9, v10, v11, v12, v13, v14, v15, rfl, W, hev⟩ ⟨rfl, rfl⟩
      -- what it begins with
      refine ⟨fun σ H' => ∃ dl du v5 v10 v11 v12 v13 v14 v15, σ = [some (.ref sc), some (.ref p), some (.ref wl), some (.ref x), some (.ref ll), v5, some (.ref b), some (.ref dl), some (.ref du), some .non, v10, v11, v12, v13, v14, v15] ∧ IS K T P2 CH p sc ns x dx ak ev a b wl ll dl du xs evs b xs [] [] [] H', ?_, ?_⟩
      · refine ⟨_, rfl, wl, _, 0, .ref b, rfl, rfl, SqL.of W.hw, at_of (j := 0) rfl rfl, Nat.zero_le _, fun dl nd => ⟨Nat.zero_le _, fun du nu => ⟨by show (4 : Nat) ≤ sizeLine; decide, fun pp npp => ⟨pp, _, rfl, SqT.of upd_same, rfl, _, _, rfl, _, _, rfl, _, _, rfl, _, _, rfl, rfl, dl, du, _, _, _, _, _, _, _, rfl, ?_⟩⟩⟩⟩
        have k1 := (Kept.refl (M := []) Hb).upd (o := .lst []) nd
        have j3 := (Kept.refl (M := []) _).upd (o := .tup [.ref b, .ref dl, .ref du, .non]) npp
        have j2 := ((Kept.refl (M := []) _).upd (o := .lst []) nu).trans j3
        have kk := k1.trans j2
        have n1 : ∀ {z : Addr} {o : HO}, Hb z = some o → z ≠ dl := fun e => ne_of_none e nd
        have n2 : ∀ {z : Addr} {o : HO}, Hb z = some o → z ≠ du := fun e => ne_of_none (k1 _ _ e (by simp)) nu
        obtain ⟨zs, ep⟩ := W.L.S.ob
        exact ⟨W.L.k0 kk, W.HS.kept kk, kk _ _ W.hw (by simp), kk _ _ W.hb (by simp), kk _ _ W.hb (by simp), kk _ _ W.hl (by simp), j2 _ _ upd_same (by simp), .nil, j3 _ _ upd_same (by simp), fun v hv => (W.rows_ v hv).keep fun _ _ e => kk _ _ e (by simp), W.len,
          ⟨W.pa, W.pe, W.pw, W.pl, n1 ep, n2 ep, W.ae, W.aw, W.al, n1 W.HS.ask, n2 W.HS.ask, W.ew, W.el, n1 W.HS.S.ev, n2 W.HS.S.ev, W.wl_, n1 W.hw, n2 W.hw, n1 W.hl, n2 W.hl, ne_of_none upd_same nu⟩,
          W.nw, ns_new W.L.S nd, ns_new (W.L.k0 k1).S nu, W.ne⟩
      clear W v5 v6 v7 v8 v9 v10 v11 v12 v13 v14 v15
      rintro σ H3 ⟨dl, du, v5, v10, v11, v12, v13, v14, v15, rfl, I⟩
      -- the deeds
      refine ⟨fun σ H' => ∃ b' rows us ps ds e v5 v10 v11 v12 v13 v14 v15, σ = [some (.ref sc), some (.ref p), some (.ref wl), some (.ref x), some (.ref ll), v5, some (.ref b), some (.ref dl), some (.ref du), some (endV e), v10, v11, v12, v13, v14, v15] ∧ IS K T P2 CH p sc ns x dx ak ev a b wl ll dl du xs evs b' rows us ps ds H' ∧ EndAt xs ds us rows e ∧ ds.length ≤ 5, ?_, ?_⟩
      · refine ⟨_, rfl, p, sc, ns, 6, rfl, I.L.S, by omega, by omega, fun z H4 z0 z1 S4 k4 => ⟨z, rfl, by omega, by omega, ?_⟩⟩
        refine for_it (walk_range (lo := 0) (n := z.toNat)) (fun j σ H' => ∃ b' rows us ps ds e v10 v11, σ = [some (.ref sc), some (.ref p), some (.ref wl), some (.ref x), some (.ref ll), v5, some (.ref b), some (.ref dl), some (.ref du), some (endV e), v10, v11, v12, v13, v14, v15] ∧ IS K T P2 CH p sc ns x dx ak ev a b wl ll dl du xs evs b' rows us ps ds H' ∧ EndAt xs ds us rows e ∧ ds.length = j) ⟨b, xs, [], [], [], none, v10, v11, rfl, I.draw S4 k4, ⟨fun i hi => absurd hi (Nat.not_lt_zero i), rfl, rfl⟩, rfl⟩ (fun _ _ _ _ _ => trivial) ?_ (fun σ H' h => ?_)
        rotate_left
        · obtain ⟨b', rows, us, ps, ds, e, v10, v11, es, I, En, hj⟩ := h
          exact ⟨b', rows, us, ps, ds, e, _, _, _, _, _, _, _, es, I, En, by omega⟩
        clear I S4 k4 v10 v11
        rintro j y σ Ha Hb hj ⟨b', rows, us, ps, ds, e, v10, v11, rfl, I, En, hlen⟩ ⟨rfl, ey⟩
        obtain rfl : y = .int (j : Int) := by rw [ey]; show V.int (0 + (j : Int)) = _; rw [Int.zero_add]
        obtain ⟨ri, hri⟩ := end_rows En
        have rl : rows.length ≤ 24 := by rw [hri]; exact (ran_rows I.pr I.rows_ I.len ri).2.1
        have lps : ps.length = j := by rw [I.pr.length]; exact hlen
        -- one is drawn
        refine ⟨_, rfl, .inl ⟨rfl, _, SqL.of I.hd⟩, _, rfl, _, rfl, wl, _, 0, .ref b', rfl, rfl, SqL.of I.hw, at_of (j := 0) rfl rfl, b', rows, rfl, .inr (.inl (.of I.hb)), p, sc, ns, rows.length, rfl, I.L.S, by omega, fun d n k H1 S1 k1 e1 hk1 hn => ?_⟩
        have I1 := I.draw S1 k1
        refine ⟨dl, _, .ref d, rfl, rfl, I1.hd, by rw [List.length_map, sizeLine_eq]; omega, ?_⟩
        have I2 := I1.deed (q := (n, k)) ⟨e1, hk1⟩
        have at2 : (ps ++ [d])[j]? = some d := by rw [List.getElem?_append_right (by omega), lps, Nat.sub_self]; rfl
        refine ⟨_, rfl, rfl, _, rfl, ?_⟩
        cases e with
        | some i =>
          refine iteF ⟨b', rows, us, ps ++ [d], ds ++ [(n, k)], some i, _, _, rfl, I2, end_more En, by rw [List.length_append, hlen]; rfl⟩
        | none =>
          obtain ⟨q0, eq0, dd⟩ := paired_at I2.pr at2
          have eq1 : (ds ++ [(n, k)])[j]? = some (n, k) := by rw [List.getElem?_append_right (by omega), hlen, Nat.sub_self]; rfl
          rw [eq1] at eq0
          cases eq0
          refine iteT ⟨_, rfl, _, rfl, _, rfl, dl, _, (j : Int), .ref d, rfl, rfl, SqL.of I2.hd, atI_nat (by rw [List.getElem?_map, at2]; rfl), wl, d, b', rows, n, k, rfl, I2.hw, I2.hb, rl, dd.1, dd.2, fun p2 b2 H5 k5 hw5 hb5 e5 => ?_⟩
          have I5 := I2.done k5 hw5 hb5
          refine ⟨_, rfl, .inl ⟨rfl, _, SqL.of I5.hu⟩, _, rfl, p2, _, 1, _, rfl, rfl, SqT.of e5, at_of (j := 1) rfl rfl, du, us, _, rfl, rfl, I5.hu, ?_, ?_⟩
          · rw [En.2.1, sizeLine_eq]
            have : (ranB xs ds).1.length = ds.length := ran_len xs ds
            omega
          have I6 := I5.due (dueD rows n k).1.2
          have e6 := (Rm.put (H := H5) (l := du) (o := .lst (us ++ [(dueD rows n k).1.2]))).tup (Lsts.one I5.hu) _ _ e5
          refine ⟨_, rfl, p2, _, 0, _, rfl, rfl, SqT.of e6, at_of (j := 0) rfl rfl, rfl, _, rfl, ?_⟩
          by_cases hz : (dueD rows n k).1.1 = ""
          · rw [show decide (V.str (dueD rows n k).1.1 = V.str "") = true from decide_eq_true (by rw [hz])]
            exact iteF ⟨b2, _, _, ps ++ [d], ds ++ [(n, k)], none, _, _, rfl, I6, end_ok En hz, by rw [List.length_append, hlen]; rfl⟩
          · rw [show decide (V.str (dueD rows n k).1.1 = V.str "") = false from decide_eq_false fun z => hz (V.str.inj z)]
            exact iteT ⟨_, rfl, b2, _, _, ps ++ [d], ds ++ [(n, k)], some ds.length, some (.int (j : Int)), some (.ref p2), (by rw [hlen]; rfl), I6, end_bad En hz, by rw [List.length_append, hlen]; rfl⟩
      clear I v5 v10 v11 v12 v13 v14 v15
      rintro σ H3 ⟨b', rows, us, ps, ds, e, v5, v10, v11, v12, v13, v14, v15, rfl, I, En, hds⟩
      obtain ⟨ri, hri⟩ := end_rows En
      -- whether they stay
      refine ⟨fun σ H' => ∃ stays : Bool, σ = [some (.ref sc), some (.ref p), some (.ref wl), some (.ref x), some (.ref ll), v5, some (.ref b), some (.ref dl), some (.ref du), some (endV e), v10, v11, some (.bl stays), v13, v14, v15] ∧ IS K T P2 CH p sc ns x dx ak ev a b wl ll dl du xs evs b' rows us ps ds H', ?_, ?_⟩
      · exact ⟨_, rfl, p, sc, ns, 2, rfl, I.L.S, by omega, by omega, fun z H4 z0 z1 S4 k4 => ⟨rfl, _, rfl, I.draw S4 k4⟩⟩
      clear I v12
      rintro σ H3 ⟨stays, rfl, I⟩
      have lps : ps.length = ds.length := I.pr.length
      -- how many were done
      refine ⟨fun σ H' => σ = [some (.ref sc), some (.ref p), some (.ref wl), some (.ref x), some (.ref ll), v5, some (.ref b), some (.ref dl), some (.ref du), some (endV e), v10, v11, some (.bl stays), some (.int (mE ds e : Int)), v14, v15] ∧ IS K T P2 CH p sc ns x dx ak ev a b wl ll dl du xs evs b' rows us ps ds H', ?_, ?_⟩
      · refine ⟨_, rfl, rfl, _, rfl, ?_⟩
        cases e with
        | none =>
          refine iteT ⟨_, rfl, dl, _, rfl, .inl (SqL.of I.hd), ?_, I⟩
          rw [List.length_map, lps]
          rfl
        | some i => exact iteF ⟨_, rfl, rfl, I⟩
      clear I v13
      rintro σ H3 ⟨rfl, I⟩
      -- the rows
      refine ⟨fun σ H' => ∃ wl bb R, σ = [some (.ref sc), some (.ref p), some (.ref wl), some (.ref x), some (.ref ll), v5, some (.ref b), some (.ref dl), some (.ref du), some (endV e), v10, v11, some (.bl stays), some (.int (mE ds e : Int)), v14, v15] ∧ IS K T P2 CH p sc ns x dx ak ev a b wl ll dl du xs evs bb R us ps ds H' ∧ R = rowsF xs rows e stays, ?_, ?_⟩
      · refine ⟨_, rfl, rfl, _, rfl, ?_⟩
        cases e with
        | none => exact iteF (iteF ⟨_, rfl, wl, b', rows, rfl, I, rfl⟩)
        | some i =>
          refine iteT ⟨_, rfl, stays, rfl, ?_⟩
          cases stays with
          | true => exact iteF ⟨_, rfl, wl, b', rows, rfl, I, rfl⟩
          | false => exact iteT ⟨_, rfl, by show (1 : Nat) ≤ sizeLine; decide, fun wl' nw => ⟨wl', b, xs, rfl, I.w nw, rfl⟩⟩
      clear I wl b'
      rintro σ H3 ⟨wl, bb, R, rfl, I, hR⟩
      have hRi : ∃ i, R = (ranB xs (ds.take i)).2 := by
        rw [hR]
        cases e with
        | none => exact ⟨ri, hri⟩
        | some i =>
          cases stays with
          | true => exact ⟨ri, hri⟩
          | false => exact ⟨0, rfl⟩
      obtain ⟨Ri, hRi⟩ := hRi
      -- what the house tells
      refine ⟨fun σ H' => ∃ fo a', σ = [some (.ref sc), some (.ref p), some (.ref wl), some (.ref x), some (.ref ll), v5, some (.ref b), some (.ref dl), some (.ref du), some (endV e), v10, v11, some (.bl stays), some (.int (mE ds e : Int)), some (.ref fo), v15] ∧ AS K T P2 CH p sc ns x dx ak ev a' wl ll dl du xs evs (evsF evs ds e) bb R us ps ds H' ∧ FoundAt H' us stays fo e, ?_, ?_⟩
      · have core : ∀ {Hc : Hp}, IS K T P2 CH p sc ns x dx ak ev a b wl ll dl du xs evs bb R us ps ds Hc → ∀ (Q : VK), (∀ fo a' H', AS K T P2 CH p sc ns x dx ak ev a' wl ll dl du xs evs (evsF evs ds e) bb R us ps ds H' → FoundAt H' us stays fo e → Q (.ref fo) H') → ∀ (H1 : Hp) (lf : Addr), (∀ b o, Hc b = some o → b ≠ P2 → H1 b = some o) → TabS H1 P2 qLaw → H1 lf = none →
            (L2.upd H1 lf (.lst [])) x = some (.ins CH dx (fsH (.ref a) (.ref ak) (.ref ev) true)) ∧ spBatchK K T CH (cE 7) [.ref x, .ref dl, .bl stays] (L2.upd H1 lf (.lst [])) (fun v H1 => H1 lf = some (.lst []) ∧ ∀ p, L2.upd H1 lf (.lst [v]) p = none → Q (.ref p) (L2.upd (L2.upd H1 lf (.lst [v])) p (.tup [.str "", v]))) (EW7 cE Q) := by
          intro Hc J Q q H1 lf e1 t1 nlf
          have L1 := J.L.lam nT2 e1 t1
          have kf := (Kept.refl (M := []) H1).upd (o := .lst []) nlf
          have r1 : Rm [] Hc H1 := Rm.tab J.L.t2 e1
          have J1 := (J.mv L1 r1 Lsts.none (by simp) (by simp) (by simp) (by simp) (by simp) (by simp))
          have J2 := J1.k0 kf
          have nHc : Hc lf = none := by
            cases h : Hc lf with
            | none => rfl
            | some o =>
              by_cases z : lf = P2
              · obtain ⟨ps, e2, _⟩ := t1
                rw [← z, nlf] at e2
                cases e2
              · rw [e1 lf o h z] at nlf
                cases nlf
          have lfx : lf ≠ x := fun z => by
            have := J.HS.S.ob
            rw [← z, nHc] at this
            cases this
          have lfe : lf ≠ ev := fun z => by
            have := J.HS.S.ev
            rw [← z, nHc] at this
            cases this
          have lfp : lf ≠ p := fun z => by
            obtain ⟨zs, ep⟩ := J.L.S.ob
            rw [← z, nHc] at ep
            cases ep
          have r2 : Rm [x, ev] Hc (L2.upd H1 lf (.lst [])) := (Rm.trans (r1.sub (fun _ h => nomatch h)) (.k0 kf))
          refine ⟨J2.HS.S.ob, x, dx, ak, ev, a, dl, xs, evs, true, stays, ps, ds, mE ds e, rfl, J2.HS, J2.D.ae, Ne.symm J2.D.ed, J2.len, by omega, J2.hd, J2.pr, J2.L.ht, ?_, ?_, ?_⟩
          · cases e with
            | none => exact Nat.le_refl _
            | some i => exact Nat.le_of_lt En.1
          · cases e with
            | none => exact En.1
            | some i => exact En.2.1
          · cases e with
            | none =>
              refine .inl ⟨rfl, fun H4 out a' k4 no ho HS4 => ?_⟩
              have hlf4 := k4.obj J2.L.ht (show (L2.upd H1 lf (.lst [])) lf = some (.lst []) from upd_same) lfx lfe
              refine ⟨hlf4, fun fo nfo => ?_⟩
              have M4 := J2.L.kpe nT2 J2.HS.S.ob J2.HS.S.ev J2.D.pe J2.ne k4
              have k5 := (Kept.refl (M := []) _).upd (o := .tup [.str "", .ref out]) nfo
              have M5 := (M4.put (xs := [.ref out]) hlf4 lfp (ns_new J1.L.S nlf)).k0 k5
              have r4 : Rm [x, ev] Hc H4 := r2.trans (.kpe J2.L.ht k4)
              have r5 : Rm [x, ev] Hc _ := (r4.far (o := .lst [.ref out]) nHc).trans (.k0 k5)
              have oldl : ∀ {z : Addr} {o : HO}, H4 z = some o → z ≠ lf → (L2.upd (L2.upd H4 lf (.lst [.ref out])) fo (.tup [.str "", .ref out])) z = some o := fun e n => k5 _ _ ((upd_ne n).trans e) (by simp)
              have outlf : out ≠ lf := fun z => by rw [z, upd_same] at no; cases no
              have nlf4 : ∀ {z : Addr} {o : HO}, Hc z = some o → z ≠ lf := fun e z => by rw [z, nHc] at e; cases e
              have HS5 : HSx (L2.upd (L2.upd H4 lf (.lst [.ref out])) fo (.tup [.str "", .ref out])) x dx CH ak ev a' R (evsF evs ds none) true := by
                rw [show evsF evs ds none = evs ++ [("begun" : Str)] ++ wordsB ds ++ [("ended" : Str)] by unfold evsF mE; rw [show (none : Option Nat).getD ds.length = ds.length from rfl, List.take_length]]
                rw [hR, show rowsF xs rows none stays = (ranB xs ds).2 from En.2.2]
                exact ⟨⟨oldl HS4.S.ob (Ne.symm lfx), oldl HS4.S.ev (Ne.symm lfe), HS4.S.le⟩, oldl HS4.ask (nlf4 J.HS.ask), oldl HS4.rows (fun z => by
                  have := HS4.rows
                  rw [z, hlf4] at this
                  cases this)⟩
              refine q fo a' _ (J.as M5 r5 HS5) ⟨out, upd_same, ?_⟩
              rw [En.2.1]
              exact oldl ho outlf
            | some i =>
              obtain ⟨_, _, ⟨qq, eqq, hqq⟩, hrr⟩ := En
              refine .inr ⟨qq, eqq, hqq, fun H4 d a' k4 nd HS4 => ?_⟩
              refine ⟨_, _, d, rfl, rfl, upd_same, fun H5 fo t k5 ht5 nfo => ?_⟩
              have kd := (Kept.refl (M := []) H4).upd (o := .xd [("done", .int (if stays = true then ((mE ds (some i) : Nat) : Int) else 0)), ("number", .int ((mE ds (some i) : Nat) : Int))]) nd
              have k6 := (kd.trans k5).upd (o := .tup [.str "halted", .ref t]) nfo
              have M4 := J2.L.kpe nT2 J2.HS.S.ob J2.HS.S.ev J2.D.pe J2.ne k4
              have M6 := M4.k0 k6
              have r6 : Rm [x, ev] Hc _ := (r2.trans (.kpe J2.L.ht k4)).trans (.k0 k6)
              have HS6 := HS4.kept k6
              have eR : R = (if stays = true then (ranB xs (ds.take (mE ds (some i)))).2 else xs) := by
                rw [hR]
                cases stays with
                | true => exact hrr
                | false => rfl
              rw [← eR] at HS6
              exact q fo a' _ (J.as M6 r6 HS6) ⟨t, upd_same, ((Kept.refl (M := []) H5).upd (o := .tup [.str "halted", .ref t]) nfo) _ _ ht5 (by simp)⟩
        refine ⟨_, rfl, stays, rfl, ?_⟩
        cases stays with
        | true =>
          refine iteT ⟨_, rfl, p, sc, ns, 2, rfl, I.L.S, by omega, by omega, fun z H4 z0 z1 S4 k4 => ⟨rfl, _, rfl, ?_⟩⟩
          have I4 := I.draw S4 k4
          by_cases hz : V.int z = V.int 0
          · rw [decide_eq_true hz]
            refine iteT ⟨I4.L.t2, fun H1 e1 t1 lf nlf => ?_⟩
            refine ⟨_, rfl, x, dx, _, rfl, (core I4 (fun _ _ => True) (fun _ _ _ _ _ => trivial) H1 lf e1 t1 nlf).1, rfl, _, rfl, ?_⟩
            unfold tNil
            refine bat_mono (core I4 (fun v H' => ∃ fo a', v = .ref fo ∧ AS K T P2 CH p sc ns x dx ak ev a' wl ll dl du xs evs (evsF evs ds e) bb R us ps ds H' ∧ FoundAt H' us true fo e) (fun fo a' H' A F => ⟨fo, a', rfl, A, F⟩) H1 lf e1 t1 nlf).2 ?_ ?_
            · rintro v H' ⟨h1, h2⟩
              refine ⟨h1, fun p np => ?_⟩
              obtain ⟨fo, a', e0, A, F⟩ := h2 p np
              cases e0
              exact ⟨_, a', rfl, A, F⟩
            · intro c d H' h
              refine ew_mono h ?_
              rintro v H' ⟨fo, a', rfl, A, F⟩
              exact ⟨fo, a', rfl, A, F⟩
          · rw [decide_eq_false hz]
            refine iteF ⟨I4.L.t2, fun H1 e1 t1 lf nlf => ?_⟩
            refine ⟨_, rfl, x, dx, _, rfl, (core I4 (fun _ _ => True) (fun _ _ _ _ _ => trivial) H1 lf e1 t1 nlf).1, rfl, _, rfl, _, rfl, rfl, rfl, ?_⟩
            refine bat_mono (core I4 (fun v H' => ∃ fo a', v = .ref fo ∧ AS K T P2 CH p sc ns x dx ak ev a' wl ll dl du xs evs (evsF evs ds e) bb R us ps ds H' ∧ FoundAt H' us true fo e) (fun fo a' H' A F => ⟨fo, a', rfl, A, F⟩) H1 lf e1 t1 nlf).2 ?_ ?_
            · rintro v H' ⟨h1, h2⟩
              refine ⟨h1, fun p np => ?_⟩
              obtain ⟨fo, a', e0, A, F⟩ := h2 p np
              cases e0
              exact ⟨_, a', rfl, A, F⟩
            · intro c d H' h
              refine ew_mono h ?_
              rintro v H' ⟨fo, a', rfl, A, F⟩
              exact ⟨fo, a', rfl, A, F⟩
        | false =>
          refine iteF (iteF ⟨I.L.t2, fun H1 e1 t1 lf nlf => ?_⟩)
          refine ⟨_, rfl, x, dx, _, rfl, (core I (fun _ _ => True) (fun _ _ _ _ _ => trivial) H1 lf e1 t1 nlf).1, rfl, _, rfl, _, rfl, rfl, rfl, ?_⟩
          refine bat_mono (core I (fun v H' => ∃ fo a', v = .ref fo ∧ AS K T P2 CH p sc ns x dx ak ev a' wl ll dl du xs evs (evsF evs ds e) bb R us ps ds H' ∧ FoundAt H' us false fo e) (fun fo a' H' A F => ⟨fo, a', rfl, A, F⟩) H1 lf e1 t1 nlf).2 ?_ ?_
          · rintro v H' ⟨h1, h2⟩
            refine ⟨h1, fun p np => ?_⟩
            obtain ⟨fo, a', e0, A, F⟩ := h2 p np
            cases e0
            exact ⟨_, a', rfl, A, F⟩
          · intro c d H' h
            refine ew_mono h ?_
            rintro v H' ⟨fo, a', rfl, A, F⟩
            exact ⟨fo, a', rfl, A, F⟩
      have D := I.D
      have hne := I.ne
      have hnw := I.nw
      have hlen := I.len
      clear I v14
      rintro σ H3 ⟨fo, a', rfl, A, Fo⟩
      have hmE := mE_le En
      -- the lines
      refine ⟨fun σ H' => ∃ lm v15, σ = [some (.ref sc), some (.ref p), some (.ref wl), some (.ref x), some (.ref lm), v5, some (.ref b), some (.ref dl), some (.ref du), some (endV e), v10, v11, some (.bl stays), some (.int (mE ds e : Int)), some (.ref fo), v15] ∧ AS K T P2 CH p sc ns x dx ak ev a' wl ll dl du xs evs (evsF evs ds e) bb R us ps ds H' ∧ FoundAt H' us stays fo e ∧ H' lm = some (.lst ((evsF evs ds e).map V.str)) ∧ p ≠ lm ∧ ak ≠ lm ∧ ev ≠ lm ∧ wl ≠ lm, ?_, ?_⟩
      · refine ⟨_, rfl, by show (1 : Nat) ≤ sizeLine; decide, fun q1 n1 => ?_⟩
        have k1 := (Kept.refl (M := []) H3).upd (o := .lst [.str "begun"]) n1
        refine ⟨ll, q1, _, [.str "begun"], rfl, rfl, k1 _ _ A.hl (by simp), upd_same, Nat.le_trans (show (evs.map V.str).length + 1 ≤ 1000 by rw [List.length_map]; omega) (by decide), fun q2 n2 => ?_⟩
        have k2 := k1.upd (o := .lst (evs.map V.str ++ [.str "begun"])) n2
        refine ⟨_, rfl, _, rfl, (mE ds e : Int), rfl, dl, _, rfl, SqL.of (k2 _ _ A.hd (by simp)), fun q3 n3 => ?_⟩
        rw [cutV_take (by rw [List.length_map, lps]; exact hmE)]
        have k3 := k2.upd (o := .lst ((ps.map V.ref).take (mE ds e))) n3
        have j3 := (Kept.refl (M := []) _).upd (o := .lst ((ps.map V.ref).take (mE ds e))) n3
        refine ⟨q3, rfl, ⟨_, .inl (.of upd_same)⟩, fun D nD => ?_⟩
        have llen : ((ps.map V.ref).take (mE ds e)).length = mE ds e := by rw [List.length_take, List.length_map, lps]; omega
        refine lc_it (walk_list (K := K) (a := q3) (xs := (ps.map V.ref).take (mE ds e))) (fun i Ha => Kept [] (L2.upd (L2.upd (L2.upd H3 q1 (.lst [.str "begun"])) q2 (.lst (evs.map V.str ++ [.str "begun"]))) q3 (.lst ((ps.map V.ref).take (mE ds e)))) Ha ∧ Ha D = some (.lst ((wordsB (ds.take i)).map V.str)))
          ⟨(Kept.refl _).upd nD, upd_same⟩ (fun i Ha _ pv => SqL.of (pv.1 _ _ upd_same (by simp))) ?_ ?_
        · rintro i y Ha0 Ha hi ⟨kk, eD⟩ ⟨rfl, ey⟩
          rw [llen] at hi
          rw [List.getElem?_take_of_lt hi, List.getElem?_map] at ey
          obtain ⟨pp, hpp, rfl⟩ : ∃ pp, ps[i]? = some pp ∧ y = .ref pp := by
            cases e : ps[i]? with
            | none => rw [e] at ey; cases ey
            | some pp => rw [e] at ey; exact ⟨pp, rfl, (Option.some.inj ey).symm⟩
          obtain ⟨q, eq, hq⟩ := paired_at A.pr hpp
          refine ⟨rfl, yes_if ⟨_, rfl, pp, _, 0, .str q.2.word, rfl, rfl, SqT.of (kk _ _ (k3 _ _ hq.1 (by simp)) (by simp)), at_of (j := 0) rfl (ws0 q), _, eD, ?_, Kept.far (Kept.refl _) nD kk, ?_⟩⟩
          · unfold wordsB
            rw [List.length_map, List.length_map, List.length_take]
            exact Nat.lt_of_le_of_lt (show min i ds.length ≤ 1000 by omega) (by decide)
          · rw [upd_same]
            unfold wordsB
            rw [List.take_add_one, eq, List.map_append, List.map_append]
            rfl
        · rintro Ha ⟨kk, eD⟩
          rw [llen] at eD
          have kA := k3.trans kk
          have eq2 : Ha q2 = some (.lst (evs.map V.str ++ [.str "begun"])) := kk _ _ (j3 _ _ upd_same (by simp)) (by simp)
          refine ⟨q2, D, _, _, rfl, rfl, eq2, eD, ?_, fun q4 n4 => ⟨by show (1 : Nat) ≤ sizeLine; decide, fun q5 n5 => ?_⟩⟩
          · unfold wordsB
            rw [List.length_append, List.length_map, List.length_map, List.length_map, List.length_take, List.length_singleton]
            exact Nat.le_trans (show evs.length + 1 + min (mE ds e) ds.length ≤ 1000 by omega) (by decide)
          have k4 := kA.upd (o := .lst (evs.map V.str ++ [.str "begun"] ++ (wordsB (ds.take (mE ds e))).map V.str)) n4
          have k5 := k4.upd (o := .lst [.str "ended"]) n5
          refine ⟨q4, q5, _, [.str "ended"], rfl, rfl, ((Kept.refl (M := []) _).upd n5) _ _ upd_same (by simp), upd_same, ?_, fun lm n6 => ?_⟩
          · unfold wordsB
            rw [List.length_append, List.length_append, List.length_map, List.length_map, List.length_map, List.length_take, List.length_singleton, List.length_singleton]
            exact Nat.le_trans (show evs.length + 1 + min (mE ds e) ds.length + 1 ≤ 1000 by omega) (by decide)
          have k6 := k5.upd (o := .lst (evs.map V.str ++ [.str "begun"] ++ (wordsB (ds.take (mE ds e))).map V.str ++ [.str "ended"])) n6
          have old : ∀ {z : Addr} {o : HO}, H3 z = some o → z ≠ lm := fun e => ne_of_none (k5 _ _ e (by simp)) n6
          obtain ⟨zs, ep⟩ := A.L.S.ob
          exact ⟨lm, _, rfl, A.k0 k6, Fo.k0 k6, upd_same.trans (by rw [evsF_map]), old ep, old A.HS.ask, old A.HS.S.ev, old A.hw⟩
      clear A Fo
      clear v15
      rintro σ H3 ⟨lm, v15, rfl, A, Fo, hlm, m1, m2, m3, m4⟩
      have rr := ran_rows A.pr A.rows_ hlen
      have hRR : (∀ v ∈ R, RowRef H3 v) ∧ R.length ≤ 24 := by
        rw [hRi]
        exact ⟨(rr Ri).1, (rr Ri).2.1⟩
      -- as it was due
      refine ⟨fun σ H' => σ = [some (.ref sc), some (.ref p), some (.ref wl), some (.ref x), some (.ref lm), v5, some (.ref b), some (.ref dl), some (.ref du), some (endV e), v10, v11, some (.bl stays), some (.int (mE ds e : Int)), some (.ref fo), v15] ∧ AS K T P2 CH p sc ns x dx ak ev a' wl ll dl du xs evs (evsF evs ds e) bb R us ps ds H' ∧ H' lm = some (.lst ((evsF evs ds e).map V.str)), ?_, ?_⟩
      · refine ⟨_, rfl, _, rfl, rfl, _, rfl, ?_⟩
        cases e with
        | none =>
          obtain ⟨out, hf, ho⟩ := Fo
          refine iteT ⟨_, rfl, by show (2 : Nat) ≤ sizeLine; decide, fun d nd => ?_⟩
          have kd := (Kept.refl (M := []) H3).upd (o := .tup [.str "", .ref du]) nd
          have hus : ∀ v ∈ us, v = .non ∨ (∃ j, v = .int j) ∨ RowRef (L2.upd H3 d (.tup [.str "", .ref du])) v := fun v hv => by
            rw [En.2.1] at hv
            have := (rr ds.length).2.2 v (by rw [List.take_length]; exact hv)
            rcases this with h | h | h
            · exact .inl h
            · exact .inr (.inl h)
            · exact .inr (.inr (h.keep fun _ _ e => kd _ _ e (by simp)))
          have hul : us.length ≤ 1000000 := by
            rw [En.2.1, ran_len]
            omega
          refine ⟨.ref fo, .ref d, rfl, ?_, fun H' k => ⟨_, rfl, iteF ⟨rfl, (A.k0 kd).k0 k, k _ _ (kd _ _ hlm (by simp)) (by simp)⟩⟩⟩
          exact .inr ⟨fo, d, _, _, rfl, rfl, .inl ⟨SqT.of (kd _ _ hf (by simp)), SqT.of upd_same⟩, by show (2 : Nat) ≤ 1000000; decide, .cons (.inl ⟨rfl, trivial⟩) (.cons (.inr ⟨out, du, us, us, rfl, rfl, .inr ⟨kd _ _ ho (by simp), kd _ _ A.hu (by simp)⟩, hul, at_refl fun v hv => by
            rcases hus v hv with rfl | ⟨j, rfl⟩ | h
            · exact .inl ⟨rfl, trivial⟩
            · exact .inl ⟨rfl, trivial⟩
            · exact at_row h⟩) .nil)⟩
        | some i =>
          obtain ⟨t, hf, ht2⟩ := Fo
          have hi5 : i < ds.length := En.1
          refine iteF ⟨_, rfl, _, rfl, _, rfl, .inr ⟨stays, rfl, (i : Int), (if stays then 1 else 0), rfl, rfl, .inl ⟨by omega, by omega⟩, by show (2 : Nat) ≤ sizeLine; decide, fun t2 nt2 => ⟨by show (2 : Nat) ≤ sizeLine; decide, fun d nd => ?_⟩⟩⟩
          have ev_ : (i : Int) * (if stays then 1 else 0) = (if stays = true then (i : Int) else 0) := by
            cases stays with
            | true => exact Int.mul_one _
            | false => exact Int.mul_zero _
          have k1 := (Kept.refl (M := []) H3).upd (o := .tup [.int (i : Int), .int ((i : Int) * (if stays then 1 else 0))]) nt2
          have kd := k1.upd (o := .tup [.str "halted", .ref t2]) nd
          have h2 := ((Kept.refl (M := []) _).upd (o := .tup [.str "halted", .ref t2]) nd) _ _ (show (L2.upd H3 t2 (.tup [.int (i : Int), .int ((i : Int) * (if stays then 1 else 0))])) t2 = _ from upd_same) (by simp)
          rw [ev_] at h2
          refine ⟨.ref fo, .ref d, rfl, ?_, fun H' k => ⟨_, rfl, iteF ⟨rfl, (A.k0 kd).k0 k, k _ _ (kd _ _ hlm (by simp)) (by simp)⟩⟩⟩
          exact .inr ⟨fo, d, _, _, rfl, rfl, .inl ⟨SqT.of (kd _ _ hf (by simp)), SqT.of upd_same⟩, by show (2 : Nat) ≤ 1000000; decide, .cons (.inl ⟨rfl, trivial⟩) (.cons (.inr ⟨t, t2, _, _, rfl, rfl, .inl ⟨SqT.of (kd _ _ ht2 (by simp)), SqT.of h2⟩, by show (2 : Nat) ≤ 1000000; decide, .cons (.inl ⟨rfl, trivial⟩) (.cons (.inl ⟨rfl, trivial⟩) .nil)⟩) .nil)⟩
      clear A Fo hlm rr hRR
      rintro σ H3 ⟨rfl, A, hlm⟩
      have hRR : (∀ v ∈ R, RowRef H3 v) ∧ R.length ≤ 24 := by
        have rr := ran_rows A.pr A.rows_ hlen
        rw [hRi]
        exact ⟨(rr Ri).1, (rr Ri).2.1⟩
      have hel : (evsF evs ds e).length ≤ 7 * (t0 + 1) := by
        rw [evsF_len En]
        omega
      -- the house stands so
      refine ⟨fun σ H' => σ = [some (.ref sc), some (.ref p), some (.ref wl), some (.ref x), some (.ref lm), v5, some (.ref b), some (.ref dl), some (.ref du), some (endV e), v10, v11, some (.bl stays), some (.int (mE ds e : Int)), some (.ref fo), v15] ∧ AS K T P2 CH p sc ns x dx ak ev a' wl ll dl du xs evs (evsF evs ds e) bb R us ps ds H' ∧ (∀ v ∈ R, RowRef H' v) ∧ H' lm = some (.lst ((evsF evs ds e).map V.str)), ?_, ?_⟩
      · refine ⟨_, rfl, x, dx, _, rfl, A.HS.S.ob, rfl, x, dx, ak, ev, _, _, true, rfl, A.HS.S, ?_⟩
        refine ⟨_, rfl, x, dx, _, rfl, A.HS.S.ob, rfl, x, dx, ak, ev, _, _, true, rfl, A.HS.S, fun l1 n1 => ⟨by show (2 : Nat) ≤ sizeLine; decide, fun l2 n2 => ?_⟩⟩
        have k1 := (Kept.refl (M := []) H3).upd (o := .lst ((evsF evs ds e).map V.str)) n1
        have j2 := (Kept.refl (M := []) _).upd (o := .lst [.ref a', .ref l1]) n2
        have k2 := k1.trans j2
        refine ⟨_, rfl, wl, _, 0, .ref bb, rfl, rfl, SqL.of (k2 _ _ A.hw (by simp)), at_of (j := 0) rfl rfl, _, rfl, by show (2 : Nat) ≤ sizeLine; decide, fun l3 n3 => ?_⟩
        have j3 := (Kept.refl (M := []) _).upd (o := .lst [.ref bb, .ref lm]) n3
        have k3 := k2.trans j3
        have A3 := A.k0 k3
        refine ⟨.ref l2, .ref l3, rfl, ?_, fun H' k => ?_⟩
        · exact .inr ⟨l2, l3, _, _, rfl, rfl, .inr ⟨j3 _ _ upd_same (by simp), upd_same⟩, by show (2 : Nat) ≤ 1000000; decide, .cons (at_rows A3.HS.rows A3.hb hRR.2 fun v hv => (hRR.1 v hv).keep fun _ _ e => k3 _ _ e (by simp)) (.cons (.inr ⟨l1, lm, _, _, rfl, rfl, .inr ⟨(j2.trans j3) _ _ upd_same (by simp), k3 _ _ hlm (by simp)⟩, by rw [List.length_map]; omega, at_strs _⟩) .nil)⟩
        · have k4 := k3.trans k
          have A4 := A.k0 k4
          refine ⟨_, rfl, iteF ⟨_, rfl, x, dx, _, rfl, A4.HS.S.ob, rfl, x, dx, ak, ev, _, _, true, rfl, A4.HS.S, _, rfl, iteF ⟨rfl, A4, fun v hv => (hRR.1 v hv).keep fun _ _ e => k4 _ _ e (by simp), k4 _ _ hlm (by simp)⟩⟩⟩
      clear A hlm
      rintro σ H3 ⟨rfl, A, hR3, hlm⟩
      -- what was told may be changed
      refine ⟨_, rfl, x, dx, _, rfl, A.HS.S.ob, rfl, x, dx, ak, ev, _, _, true, rfl, A.HS.S, fun l1 n1 => ?_⟩
      refine ⟨.inl ⟨rfl, _, SqL.of upd_same⟩, l1, _, .str "", rfl, rfl, upd_same, ?_, ?_⟩
      · rw [List.length_map]
        exact Nat.lt_of_le_of_lt (show (evsF evs ds e).length ≤ 1000 by omega) (by decide)
      have k1 : Kept [] H3 (L2.upd (L2.upd H3 l1 (.lst ((evsF evs ds e).map V.str))) l1 (.lst ((evsF evs ds e).map V.str ++ [.str ""]))) := Kept.far (Kept.refl H3) n1 ((Kept.refl H3).upd n1)
      have A1 := A.k0 k1
      exact ⟨a', bb, wl, lm, R, evsF evs ds e, _, _, _, _, _, _, _, _, _, _, _, rfl, ⟨A1.L, A1.HS, A1.hw, A1.hb, k1 _ _ hlm (by simp), fun v hv => (hR3 v hv).keep fun _ _ e => k1 _ _ e (by simp), hRR.2, D.pa, D.pe, D.pw, m1, D.ae, D.aw, m2, D.ew, m3, m4, hnw, hne⟩, hel⟩
    · rintro σ H' _
      exact k _
end
end Ah
end
section
set_option Elab.async false
set_option linter.all false
set_option maxRecDepth 100000
set_option maxHeartbeats 400000
namespace Ah
open PySem PySem.Spec PyProof.Rows L2
/-- the def by its statement st -/
theorem sup_of {P : Program} {K : PySem.W.Frag} {mg : Str → Option Value} {qual : Str} {fI C : Addr} {st : Stmt} {N : List Str} {slf : Str} {rest : List Stmt} {p0 p1 p2 p3 p4 p5 : Pos} {txt : Str} {kk : Nat} {ar : Arg}
    (hf : fnY K fI = valY qual st) (hb : supB K P.main.file qual fI C = true) (hbody : defBody st = .Expr (.Call (.Attribute (.Call (.Name "super" p0) [] [] p1) "__init__" p2) [.Constant (.str txt) kk p3] [] p4) p5 :: rest)
    (har : ((defArgs st).posonlyargs ++ (defArgs st).args).head? = some ar) (hsl : ar.arg = slf) (nd : N.Nodup) (hd : N[0]? = some slf) (sup : mg "super" = none) (top : (P.main.scope.names.lookup ("super" : Str)).isSome = false)
    (h1 : (defScope st).kind = .function ∧ (defScope st).isCoroutine = false ∧ (defScope st).isGenerator = false ∧ (∀ x ∈ (defScope st).names, x.2 ≠ .cell) ∧ (∀ x ∈ N, (defScope st).names.lookup x = some .local) ∧ (∀ x, (defScope st).names.lookup x = some .free → x = "__class__") ∧ (defScope st).names.lookup ("super" : Str) = some .globalImplicit ∧ (defScope st).names.lookup ("__class__" : Str) = some .free)
    (hin : ∀ (L : Addr) (cda cc : Addr), interactive (PySem.W.ksEnv qual (defScope st) L fI (.ref cda) cc) = false)
    (hsw : ∀ (L : Addr) (cda cc : Addr), swapsWith (.Call (.Attribute (.Call (.Name "super" p0) [] [] p1) "__init__" p2) [.Constant (.str txt) kk p3] [] p4) none p5.line (PySem.W.ksEnv qual (defScope st) L fI (.ref cda) cc) = pure false)
    (hev : ∃ pl : Addr → Addr → Addr → Sem Bool, ∀ (L : Addr) (cda cc : Addr), eval (.Call (.Attribute (.Call (.Name "super" p0) [] [] p1) "__init__" p2) [.Constant (.str txt) kk p3] [] p4) (PySem.W.ksEnv qual (defScope st) L fI (.ref cda) cc) = (do
      let ov ← attributeBase (.Call (.Name "super" p0) [] [] p1) "__init__" (PySem.W.ksEnv qual (defScope st) L fI (.ref cda) cc) (eval (.Call (.Name "super" p0) [] [] p1) (PySem.W.ksEnv qual (defScope st) L fI (.ref cda) cc))
      standAt p2.atName
      let (g, first) ← holding [ov] (getMethod ov "__init__" (pl cda cc L))
      callWith p4 g first (backTo p4 (starEach [.Constant (.str txt) kk p3] (PySem.W.ksEnv qual (defScope st) L fI (.ref cda) cc))) []))
    (hst : ∀ (L : Addr) (cda cc : Addr), starEach [.Constant (.str txt) kk p3] (PySem.W.ksEnv qual (defScope st) L fI (.ref cda) cc) = (false, eval (.Constant (.str txt) kk p3) (PySem.W.ksEnv qual (defScope st) L fI (.ref cda) cc)) :: starEach [] (PySem.W.ksEnv qual (defScope st) L fI (.ref cda) cc))
    (hpl : ∀ (L : Addr) (cda cc : Addr), (backTo p4 (starEach [] (PySem.W.ksEnv qual (defScope st) L fI (.ref cda) cc))).any (·.1) = false)
    (hbind : ∀ (kV doc pm ct : Value) (an : Option Addr) (cdv : Value) (cc : Addr) (us : List Value), us.length = N.length → bindArgs (PySem.W.ksFn "__init__" qual (defArgs st) (defBody st) (defScope st) .none kV doc pm an cdv ct cc) ⟨us, []⟩ = pure (N.zip us)) :
    ∃ fd, SupFn P K mg fI C fd N slf rest ∧ L2.Binds K fd N [] := by
  obtain ⟨b1, b2⟩ := band hb
  obtain ⟨b3, b4⟩ := band b2
  obtain ⟨b5, b6⟩ := band b4
  obtain ⟨b7, b8⟩ := band b6
  unfold fnY valY at hf
  cases q : K.lookup fI with
  | none =>
    rw [q] at hf
    cases hf
  | some o =>
    obtain ⟨oc, od, dt, osl⟩ := o
    rw [q] at hf b1
    cases dt with
    | func fd =>
      obtain ⟨n1, n2, n3, n4, n5, n6, n7, n8, n9, n10, n11, n12, n13, n14, n15⟩ := fd
      have e2 : (some (n1, n2, n3, n4, n5, n6, n7.map (·.1), n15) : FnY) = some (("__init__" : Str), qual, defArgs st, FuncBody.stmts (defBody st), defScope st, mainGlobals, [("__class__" : Str)], builtinsNs) := hf
      simp only [Option.some.injEq, Prod.mk.injEq] at e2
      obtain ⟨z1, z2, z3, z4, z5, z6, z7, z8⟩ := e2
      subst z1 z2 z3 z4 z5 z6 z8
      obtain ⟨c1, c2⟩ := band b1
      obtain ⟨c0, c1⟩ := band c1
      have c0 : n8 = .none := of_decide_eq_true c0
      subst c0
      obtain ⟨c3, c4⟩ := band c2
      obtain ⟨cda, e1⟩ : ∃ cda, n13 = .ref cda := by
        cases n13 with
        | ref cda => exact ⟨cda, rfl⟩
        | _ => cases c3
      subst e1
      obtain ⟨cc, e3⟩ : ∃ cc, n7 = [(("__class__" : Str), cc)] := by
        match n7, z7 with
        | [(x, cc)], z7 =>
          have e : x = ("__class__" : Str) := (List.cons.inj z7).1
          exact ⟨cc, by rw [e]⟩
      subst e3
      have c3 : (match K.lookup cda with
          | some ⟨_, _, .fields vs, _⟩ => (match (vs : Array Value)[2]? with
            | some (Value.str f _) => P.main.file == f
            | _ => false)
          | _ => false) = true := c3
      have c4 : (match K.lookup cc with
          | some ⟨_, _, .cell (some (.ref c)), _⟩ => decide (c = C)
          | _ => false) = true := c4
      obtain ⟨ccl, cdd, vs, ccs, file, tf, e4, e5, e6⟩ : ∃ ccl cdd vs ccs file tf, K.lookup cda = some ⟨ccl, cdd, .fields vs, ccs⟩ ∧ vs[2]? = some (.str file tf) ∧ (P.main.file == file) = true := by
        cases r : K.lookup cda with
        | none => rw [r] at c3; cases c3
        | some o =>
          obtain ⟨o1, o2, o3, o4⟩ := o
          rw [r] at c3
          cases o3 with
          | fields vs =>
            have c3 : (match (vs : Array Value)[2]? with
              | some (Value.str f _) => P.main.file == f
              | _ => false) = true := c3
            cases r2 : vs[2]? with
            | none => rw [r2] at c3; cases c3
            | some v =>
              rw [r2] at c3
              cases v with
              | str file tf => exact ⟨o1, o2, vs, o4, file, tf, rfl, r2, c3⟩
              | _ => cases c3
          | _ => cases c3
      obtain ⟨cl, cld, csl, e7⟩ : ∃ cl cld csl, K.lookup cc = some ⟨cl, cld, .cell (some (.ref C)), csl⟩ := by
        cases r : K.lookup cc with
        | none => rw [r] at c4; cases c4
        | some o =>
          obtain ⟨o1, o2, o3, o4⟩ := o
          rw [r] at c4
          cases o3 with
          | cell v =>
            cases v with
            | none => cases c4
            | some u =>
              cases u with
              | ref c =>
                have e : c = C := of_decide_eq_true c4
                rw [e]
                exact ⟨o1, o2, o4, rfl⟩
              | _ => cases c4
          | _ => cases c4
      obtain ⟨pl, hev⟩ := hev
      obtain ⟨s1, s2, s3, s4, s5, s6, s7, s8⟩ := h1
      rw [hbody] at q hbind
      have ex : SupFn P K mg fI C (PySem.W.ksFn "__init__" n2 (defArgs st) (.Expr (.Call (.Attribute (.Call (.Name "super" p0) [] [] p1) "__init__" p2) [.Constant (.str txt) kk p3] [] p4) p5 :: rest) (defScope st) .none n9 n10 n11 n12 (.ref cda) n14 cc) N slf rest := by
        refine ⟨⟨oc, od, "__init__", n2, defArgs st, defScope st, .none, n9, n10, n11, n14, n12, cda, cc, osl, p0, p1, p2, p3, p4, p5, txt, kk, ar, ccl, cl, cdd, cld, ccs, csl, vs, file, tf, pl cda cc, rfl, ?_⟩, nd, hd, sup, top, of_decide_eq_true b3, of_decide_eq_true b5, of_decide_eq_true b7, of_decide_eq_true b8⟩
        refine ⟨q, c1, har, hsl, e4, e5, e6, e7, s1, s2, s3, s4, s5, s6, s7, s8, ?_⟩
        exact ⟨fun L => hin L cda cc, fun L => hsw L cda cc, fun L => hev L cda cc, fun L => hst L cda cc, fun L => hpl L cda cc⟩
      exact ⟨_, ex, .all fun us hl => hbind _ _ _ _ _ _ _ us hl⟩
    | _ => cases b1
end Ah
end
section
set_option Elab.async false
set_option linter.all false
set_option maxRecDepth 100000
set_option maxHeartbeats 2000000
namespace Ah
open PySem PySem.Spec PyProof.Rows L2
theorem num_cases {i : Nat} (hi : i < 7) (h : numW i = true) : i = 0 ∨ i = 3 ∨ i = 6 := by
  match i, hi with
  | 0, _ => exact .inl rfl
  | 1, _ => cases h
  | 2, _ => cases h
  | 3, _ => exact .inr (.inl rfl)
  | 4, _ => cases h
  | 5, _ => cases h
  | 6, _ => exact .inr (.inr rfl)
abbrev PROG17 : Program := PySem.Challenge.pw_answerhouse_k17_batches
/-- BadRow.__init__ -/
theorem row_init {K : PySem.W.Frag} {mg : Str → Option Value} {w : World} {base : Heap} {fI C : Addr} (hf : fnY K fI = valY "BadRow.__init__" sBadrowInit) (hb : supB K PROG17.main.file "BadRow.__init__" fI C = true) (sup : mg "super" = none)
    (T : OexC K C) (hno : PySem.W.findIn K (.ref C) "number" = some none) :
    ∃ fd, FnOk PROG17 w K mg base (L2.CX PROG17 w) 1 fI fd ["self", "number"] (spErr1 C "number") ∧ L2.Binds K fd ["self", "number"] [] := by
  obtain ⟨fd, S, b⟩ := sup_of (P := PROG17) (mg := mg) (N := ["self", "number"]) (slf := "self") hf hb rfl rfl rfl (by decide) rfl sup (by decide +kernel)
    ⟨rfl, rfl, rfl, by decide +kernel, by decide +kernel, fun x h => by
      have e := PySem.mem_of_lookup h
      revert e
      have q : ∀ p ∈ (defScope sBadrowInit).names, p.2 = NameKind.free → p.1 = ("__class__" : Str) := by decide +kernel
      exact fun e => q _ e rfl, rfl, rfl⟩
    (fun _ _ _ => rfl) (fun _ _ _ => rfl) ⟨_, fun _ _ _ => rfl⟩ (fun _ _ _ => rfl) (fun _ _ _ => rfl)
    (fun kV doc pm ct an cdv cc us hl => by
      match us, hl with
      | [a, b], _ => rfl)
  exact ⟨fd, sup_one S T hno (by decide) (by decide) (by decide) (by decide), b⟩
/-- BadDeed.__init__ -/
theorem deed_init {K : PySem.W.Frag} {mg : Str → Option Value} {w : World} {base : Heap} {fI C : Addr} (hf : fnY K fI = valY "BadDeed.__init__" sBaddeedInit) (hb : supB K PROG17.main.file "BadDeed.__init__" fI C = true) (sup : mg "super" = none)
    (T : OexC K C) (hno : PySem.W.findIn K (.ref C) "number" = some none) :
    ∃ fd, FnOk PROG17 w K mg base (L2.CX PROG17 w) 1 fI fd ["self", "number"] (spErr1 C "number") ∧ L2.Binds K fd ["self", "number"] [] := by
  obtain ⟨fd, S, b⟩ := sup_of (P := PROG17) (mg := mg) (N := ["self", "number"]) (slf := "self") hf hb rfl rfl rfl (by decide) rfl sup (by decide +kernel)
    ⟨rfl, rfl, rfl, by decide +kernel, by decide +kernel, fun x h => by
      have e := PySem.mem_of_lookup h
      revert e
      have q : ∀ p ∈ (defScope sBaddeedInit).names, p.2 = NameKind.free → p.1 = ("__class__" : Str) := by decide +kernel
      exact fun e => q _ e rfl, rfl, rfl⟩
    (fun _ _ _ => rfl) (fun _ _ _ => rfl) ⟨_, fun _ _ _ => rfl⟩ (fun _ _ _ => rfl) (fun _ _ _ => rfl)
    (fun kV doc pm ct an cdv cc us hl => by
      match us, hl with
      | [a, b], _ => rfl)
  exact ⟨fd, sup_one S T hno (by decide) (by decide) (by decide) (by decide), b⟩
/-- Halted.__init__ -/
theorem halt_init {K : PySem.W.Frag} {mg : Str → Option Value} {w : World} {base : Heap} {fI C : Addr} (hf : fnY K fI = valY "Halted.__init__" sHaltedInit) (hb : supB K PROG17.main.file "Halted.__init__" fI C = true) (sup : mg "super" = none)
    (T : OexC K C) (hno : PySem.W.findIn K (.ref C) "number" = some none) (hno2 : PySem.W.findIn K (.ref C) "done" = some none) :
    ∃ fd, L2H.FnH PROG17 w K mg base (L2.CX PROG17 w) 1 fI fd ["self", "number", "done"] (spErr2 C "number" "done") ∧ L2.Binds K fd ["self", "number", "done"] [] := by
  obtain ⟨fd, S, b⟩ := sup_of (P := PROG17) (mg := mg) (N := ["self", "number", "done"]) (slf := "self") hf hb rfl rfl rfl (by decide) rfl sup (by decide +kernel)
    ⟨rfl, rfl, rfl, by decide +kernel, by decide +kernel, fun x h => by
      have e := PySem.mem_of_lookup h
      revert e
      have q : ∀ p ∈ (defScope sHaltedInit).names, p.2 = NameKind.free → p.1 = ("__class__" : Str) := by decide +kernel
      exact fun e => q _ e rfl, rfl, rfl⟩
    (fun _ _ _ => rfl) (fun _ _ _ => rfl) ⟨_, fun _ _ _ => rfl⟩ (fun _ _ _ => rfl) (fun _ _ _ => rfl)
    (fun kV doc pm ct an cdv cc us hl => by
      match us, hl with
      | [a, b, c], _ => rfl)
  exact ⟨fd, sup_twoH S T hno hno2 (by decide) (by decide) (by decide) (by decide) (by decide) (by decide), b⟩
end Ah
end
section
set_option Elab.async false
set_option linter.all false
set_option maxRecDepth 100000
set_option maxHeartbeats 4000000
namespace Ah
open PySem PySem.Spec PyProof.Rows L2
open GxR (TabB TabG Tabbed)
theorem forms_ok {K : PySem.W.Frag} (h : formsB K = true) {z : Str} {ps : List Str} (e : formsL.lookup z = some ps) : ∃ a, PySem.W.nsIn K (He.ga K "FORMS") z = some (some (.ref a)) ∧ ∀ H, SqT K H a (ps.map V.str) := by
  have m := lookup_in e
  have h2 := List.all_eq_true.mp h _ m
  have h3 : (match PySem.W.nsIn K (He.ga K "FORMS") z with
    | some (some (.ref a)) => tupK K a ps
    | _ => false) = true := h2
  cases q : PySem.W.nsIn K (He.ga K "FORMS") z with
  | none =>
    rw [q] at h3
    cases h3
  | some r =>
    rw [q] at h3
    cases r with
    | none => cases h3
    | some u =>
      cases u with
      | ref a => exact ⟨a, rfl, tupK_ok h3⟩
      | _ => cases h3
theorem mapK_len {α β : Type} {f : α → β} {l : List α} {m : List β} (h : l.map f = m) (i : Nat) {a : α} (ha : l[i]? = some a) : m[i]? = some (f a) := by
  rw [← h, List.getElem?_map, ha] <;> rfl
theorem facts {w : World} {K : PySem.W.Frag} {h : Heap} {mg : Str → Option Value} {f : Addr} (X : K.In h) (G : h.Ns mainGlobals mg) (hfa : mg ("law" : Str) = some (.ref f)) (c : He.SaysX fa fn ts tf exB w h K) (cv : sup17 K = val17) :
    LamX.LawAtS PySem.Challenge.rw_answerhouse_k17_batches w K CX0 14 63 "_law_script" mg f h := by
  have d := c.t.d
  obtain ⟨fd0, F0⟩ : ∃ fd, FnP K "is_word" sIsWord (He.ga K "is_word") fd := d.def_ 0 (d := dF "is_word" sIsWord) rfl
  obtain ⟨fd1, F1⟩ : ∃ fd, FnP K "is_row" sIsRow (He.ga K "is_row") fd := d.def_ 1 (d := dF "is_row" sIsRow) rfl
  obtain ⟨fd2, F2⟩ : ∃ fd, FnP K "is_number" sIsNumber (He.ga K "is_number") fd := d.def_ 2 (d := dF "is_number" sIsNumber) rfl
  obtain ⟨fd3, F3⟩ : ∃ fd, FnP K "check_text" sCheck (He.ga K "check_text") fd := d.def_ 3 (d := dF "check_text" sCheck) rfl
  obtain ⟨fd4, F4⟩ : ∃ fd, FnP K "check_number" sCheckNumber (He.ga K "check_number") fd := d.def_ 4 (d := dF "check_number" sCheckNumber) rfl
  obtain ⟨fd5, F5⟩ : ∃ fd, FnP K "is_deed" sIsDeed (He.ga K "is_deed") fd := d.def_ 5 (d := dF "is_deed" sIsDeed) rfl
  obtain ⟨fd6, F6⟩ : ∃ fd, FnP K "check_deeds" sCheckDeeds (He.ga K "check_deeds") fd := d.def_ 6 (d := dF "check_deeds" sCheckDeeds) rfl
  obtain ⟨fd7, F7⟩ : ∃ fd, MthP K "__init__" "House.__init__" sHouseInit (He.ma K (He.ga K "House") "__init__") fd := d.def_ 7 (d := dM "House" "__init__" "House.__init__" sHouseInit) rfl
  obtain ⟨fd8, F8⟩ : ∃ fd, MthP K "text" "House.text" sHouseText (He.ma K (He.ga K "House") "text") fd := d.def_ 8 (d := dM "House" "text" "House.text" sHouseText) rfl
  obtain ⟨fd9, F9⟩ : ∃ fd, MthP K "put" "House.put" sHousePut (He.ma K (He.ga K "House") "put") fd := d.def_ 9 (d := dM "House" "put" "House.put" sHousePut) rfl
  obtain ⟨fd10, F10⟩ : ∃ fd, MthP K "drop" "House.drop" sHouseDrop (He.ma K (He.ga K "House") "drop") fd := d.def_ 10 (d := dM "House" "drop" "House.drop" sHouseDrop) rfl
  obtain ⟨fd11, F11⟩ : ∃ fd, MthP K "tell" "House.tell" sHouseTell (He.ma K (He.ga K "House") "tell") fd := d.def_ 11 (d := dM "House" "tell" "House.tell" sHouseTell) rfl
  obtain ⟨fd12, F12⟩ : ∃ fd, BatchF K (He.ma K (He.ga K "House") "batch") fd := d.def_ 12 (d := dBatch) rfl
  obtain ⟨fd13, F13⟩ : ∃ fd, MthP K "begin" "House.begin" sHouseBegin (He.ma K (He.ga K "House") "begin") fd := d.def_ 13 (d := dM "House" "begin" "House.begin" sHouseBegin) rfl
  obtain ⟨fd14, F14⟩ : ∃ fd, MthP K "end" "House.end" sHouseEnd (He.ma K (He.ga K "House") "end") fd := d.def_ 14 (d := dM "House" "end" "House.end" sHouseEnd) rfl
  obtain ⟨fd15, F15⟩ : ∃ fd, MthP K "do" "House.do" sHouseDo (He.ma K (He.ga K "House") "do") fd := d.def_ 15 (d := dM "House" "do" "House.do" sHouseDo) rfl
  obtain ⟨fd16, F16⟩ : ∃ fd, MthP K "told" "House.told" sHouseTold (He.ma K (He.ga K "House") "told") fd := d.def_ 16 (d := dM "House" "told" "House.told" sHouseTold) rfl
  obtain ⟨fd17, F17⟩ : ∃ fd, MthP K "is_idle" "House.is_idle" sHouseIsIdle (He.ma K (He.ga K "House") "is_idle") fd := d.def_ 17 (d := dM "House" "is_idle" "House.is_idle" sHouseIsIdle) rfl
  obtain ⟨fd18, F18⟩ : ∃ fd, FnP K "_law_row" lRow (He.ga K "_law_row") fd := d.def_ 18 (d := dF "_law_row" lRow) rfl
  obtain ⟨fd19, F19⟩ : ∃ fd, FnP K "_law_taken" lTaken (He.ga K "_law_taken") fd := d.def_ 19 (d := dF "_law_taken" lTaken) rfl
  obtain ⟨fd20, F20⟩ : ∃ fd, FnP K "_law_one" lOne (He.ga K "_law_one") fd := d.def_ 20 (d := dF "_law_one" lOne) rfl
  obtain ⟨fd21, F21⟩ : ∃ fd, FnP K "_law_text" lText (He.ga K "_law_text") fd := d.def_ 21 (d := dF "_law_text" lText) rfl
  obtain ⟨fd22, F22⟩ : ∃ fd, FnP K "_law_deed" lDeed (He.ga K "_law_deed") fd := d.def_ 22 (d := dF "_law_deed" lDeed) rfl
  obtain ⟨fd23, F23⟩ : ∃ fd, FnP K "_law_done" lDone (He.ga K "_law_done") fd := d.def_ 23 (d := dF "_law_done" lDone) rfl
  obtain ⟨fd24, F24⟩ : ∃ fd, FnP K "_law_word" lWord (He.ga K "_law_word") fd := d.def_ 24 (d := dF "_law_word" lWord) rfl
  obtain ⟨fd25, F25⟩ : ∃ fd, FnP K "_law_alike" lAlike (He.ga K "_law_alike") fd := d.def_ 25 (d := dF "_law_alike" lAlike) rfl
  obtain ⟨fd26, F26⟩ : ∃ fd, FnP K "law" lLaw (He.ga K "law") fd := d.def_ 26 (d := dF "law" lLaw) rfl
  have e := hfa.symm.trans (He.glo_ok X G (d.fact 15 (f := .glo "law") rfl))
  cases e
  have gl : ∀ (i : Nat) (x : Str), fa[i]? = some (.glo x) → mg x = some (.ref (He.ga K x)) := fun i x q => He.glo_ok X G (d.fact i q)
  have fr : ∀ (i : Nat) (x : Str), fa[i]? = some (.free x) → mg x = none := fun i x q => He.free_ok X G (d.fact i q)
  have z_isinstance := fr 16 "isinstance" rfl
  have z_len := fr 17 "len" rfl
  have z_tuple := fr 18 "tuple" rfl
  have z_list := fr 19 "list" rfl
  have z_str := fr 20 "str" rfl
  have z_bool := fr 21 "bool" rfl
  have z_range := fr 22 "range" rfl
  have z_enumerate := fr 23 "enumerate" rfl
  have z_sorted := fr 24 "sorted" rfl
  have z_zip := fr 25 "zip" rfl
  have z_dict := fr 26 "dict" rfl
  have z_all := fr 27 "all" rfl
  have z_super := fr 28 "super" rfl
  have z_ValueError := fr 29 "ValueError" rfl
  have z_int := fr 30 "int" rfl
  have g_FORMS := gl 31 "FORMS" rfl
  have g_BARRED := gl 32 "BARRED" rfl
  have g_DEEDS := gl 33 "DEEDS" rfl
  have g_House := gl 34 "House" rfl
  have g_AnswerError := gl 35 "AnswerError" rfl
  have g_BadRow := gl 36 "BadRow" rfl
  have g_BadSaying := gl 37 "BadSaying" rfl
  have g_BadCount := gl 38 "BadCount" rfl
  have g_BadSteps := gl 39 "BadSteps" rfl
  have g_NoRow := gl 40 "NoRow" rfl
  have g_NoFollow := gl 41 "NoFollow" rfl
  have g_BadDeed := gl 42 "BadDeed" rfl
  have g_Halted := gl 43 "Halted" rfl
  have g_BadText := gl 44 "BadText" rfl
  obtain ⟨hex, hex2⟩ := He.ba (show (formsB K && (tupK K (He.ga K "BARRED") barred && (deedsB K && (tabsB K && (rwB K && (bdB K && (haB K && (exmB K && wordB K (He.ga K "AnswerError"))))))))) = true from c.more)
  obtain ⟨hbar, hex3⟩ := He.ba hex2
  obtain ⟨hdee, hex4⟩ := He.ba hex3
  obtain ⟨htb, hex5⟩ := He.ba hex4
  obtain ⟨hrw, hex6⟩ := He.ba hex5
  obtain ⟨hbd, hex7⟩ := He.ba hex6
  obtain ⟨hha, hex8⟩ := He.ba hex7
  obtain ⟨hexm, hwo⟩ := He.ba hex8
  obtain ⟨n1, n2⟩ := He.ba htb
  have neq : ∀ {a b : Addr}, neT a b = true → a ≠ b := fun {a b} h z => by
    unfold neT at h
    rw [decide_eq_true z] at h
    cases h
  have B : Bl mg := ⟨z_isinstance, z_len, z_tuple, z_list, z_str, z_bool, z_range, z_enumerate, z_sorted, z_zip, z_dict, z_all⟩
  have W : TW K mg := ⟨z_isinstance, z_len, z_all, z_str, z_tuple, z_enumerate, He.int_ok X G (d.fact 45 (f := .int "LONGEST_WORD" 6) rfl), He.str_ok X G (d.fact 47 (f := .str "LETTERS" letters) rfl), He.ga K "BARRED", g_BARRED, tupK_ok hbar⟩
  have e2 : ts.map (fun t => He.dicW K (t.1 K)) = ts.map fun t => some (He.keysIn w.params t.2) := congrArg (fun z : He.AlT => z.2) c.t
  have e3 := List.cons.inj (show He.dicW K (He.ga K "FORMS") :: _ = some (He.keysIn w.params (formsL.map (·.1))) :: _ from e2)
  have hdic : He.dicW K (He.ga K "FORMS") = some (He.keysIn w.params (formsL.map (·.1))) := e3.1
  have hdicD : He.dicW K (He.ga K "DEEDS") = some (He.keysIn w.params (deedsL.map (·.1))) := (List.cons.inj (show He.dicW K (He.ga K "DEEDS") :: _ = some (He.keysIn w.params (deedsL.map (·.1))) :: _ from e3.2)).1
  have D : TF K w mg (He.ga K "FORMS") := ⟨g_FORMS, He.dicW_ok hdic, fun z ps hz => forms_ok hex hz, fun z hz => out_of hdic (lookup_none hz)⟩
  have DD : TD K w mg (He.ga K "DEEDS") := ⟨g_DEEDS, He.dicW_ok hdicD, fun z n hz => deedsB_ok hdee (lookup_in hz), fun z hz => out_of hdicD (lookup_none hz)⟩
  have hMost := He.int_ok X G (d.fact 46 (f := .int "MOST_ROWS" 24) rfl)
  have CHc : ClsH K (He.ga K "House") := ⟨He.cls_ok (d.fact 48 (f := .cls "House") rfl), He.noat_ok (d.fact 49 (f := .noat "House" "standing") rfl), He.noat_ok (d.fact 50 (f := .noat "House" "asked") rfl), He.noat_ok (d.fact 51 (f := .noat "House" "events") rfl), He.noat_ok (d.fact 52 (f := .noat "House" "idle") rfl)⟩
  have M := He.mkr_ok (d.fact 63 (f := .mkr "House") rfl)
  obtain ⟨xC, kC, bC, tC'⟩ := He.exc_ok (d.fact 64 (f := .exc "NoRow") rfl)
  have m_text := He.meth_ok (d.fact 53 (f := .meth "House" "text") rfl)
  have m_told := He.meth_ok (d.fact 54 (f := .meth "House" "told") rfl)
  have m_is_idle := He.meth_ok (d.fact 55 (f := .meth "House" "is_idle") rfl)
  have m_begin := He.meth_ok (d.fact 56 (f := .meth "House" "begin") rfl)
  have m_end := He.meth_ok (d.fact 57 (f := .meth "House" "end") rfl)
  have m_do := He.meth_ok (d.fact 58 (f := .meth "House" "do") rfl)
  have m_put := He.meth_ok (d.fact 59 (f := .meth "House" "put") rfl)
  have m_drop := He.meth_ok (d.fact 60 (f := .meth "House" "drop") rfl)
  have m_tell := He.meth_ok (d.fact 61 (f := .meth "House" "tell") rfl)
  have m_batch := He.meth_ok (d.fact 62 (f := .meth "House" "batch") rfl)
  obtain ⟨rw1, rwb⟩ := He.ba hrw
  obtain ⟨rw2, rwb⟩ := He.ba rwb
  obtain ⟨rw3, rwb⟩ := He.ba rwb
  obtain ⟨rw4, rwb⟩ := He.ba rwb
  obtain ⟨rw5, rw6⟩ := He.ba rwb
  obtain ⟨bd1, bdb⟩ := He.ba hbd
  obtain ⟨bd2, bdb⟩ := He.ba bdb
  obtain ⟨bd3, bdb⟩ := He.ba bdb
  obtain ⟨bd4, bdb⟩ := He.ba bdb
  obtain ⟨bd5, bd6⟩ := He.ba bdb
  obtain ⟨hha1, ha7⟩ := He.ba hha
  obtain ⟨ha1, hab⟩ := He.ba hha1
  obtain ⟨ha2, hab⟩ := He.ba hab
  obtain ⟨ha3, hab⟩ := He.ba hab
  obtain ⟨ha4, hab⟩ := He.ba hab
  obtain ⟨ha5, ha6⟩ := He.ba hab
  have R1 : One K (He.ga K "BadRow") (He.ma K (He.ga K "BadRow") "__init__") "number" := ⟨oexB_ok rw2, xfB_ok rw3, of_decide_eq_true rw4, of_decide_eq_true rw5, of_decide_eq_true rw6⟩
  have RD : One K (He.ga K "BadDeed") (He.ma K (He.ga K "BadDeed") "__init__") "number" := ⟨oexB_ok bd2, xfB_ok bd3, of_decide_eq_true bd4, of_decide_eq_true bd5, of_decide_eq_true bd6⟩
  have RH : Two K (He.ga K "Halted") (He.ma K (He.ga K "Halted") "__init__") "number" "done" := ⟨oexB_ok ha2, of_decide_eq_true ha4, of_decide_eq_true ha5⟩
  have xfH := xfB_ok ha3
  have hn1 : PySem.W.findIn K (.ref (He.ga K "Halted")) "number" = some none := of_decide_eq_true ha6
  have hn2 : PySem.W.findIn K (.ref (He.ga K "Halted")) "done" = some none := of_decide_eq_true ha7
  obtain ⟨xm1, xm2⟩ := He.ba hexm
  obtain ⟨k1, k2, k3, k4, k5⟩ := wordB_ok hwo
  have WF : WordG K mg (He.ga K "AnswerError") (cW K) := ⟨g_AnswerError, g_BadRow, g_BadSaying, g_BadCount, g_BadSteps, g_NoRow, g_NoFollow, g_BadDeed, g_Halted, g_BadText, z_isinstance, z_ValueError, k1, k2, k3, k4, fun i hi hn => k5 i (num_cases hi hn)⟩
  have hsup : fnY K (He.ma K (He.ga K "BadRow") "__init__") = valY "BadRow.__init__" sBadrowInit := (List.cons.inj cv).1
  have hsup2 : fnY K (He.ma K (He.ga K "BadDeed") "__init__") = valY "BadDeed.__init__" sBaddeedInit := (List.cons.inj (List.cons.inj cv).2).1
  have hsup3 : fnY K (He.ma K (He.ga K "Halted") "__init__") = valY "Halted.__init__" sHaltedInit := (List.cons.inj (List.cons.inj (List.cons.inj cv).2).2).1
  have bLaw := FunD.bindsA (ps := ["_law_script"]) F26 fun _ _ _ _ _ _ us hl => match us, hl with | [_], _ => rfl
  have code : ∀ {p : He.Defn} {x q : Str} {st : Stmt} {fd : FuncData}, FunD K x q (defArgs st) (defBody st) (defScope st) [] [] (He.fAd K p) fd → fd.code = .ref (He.cT K p).1 := by
    intro p x q st fd F
    obtain ⟨oc, od, dV, kV, doc, pm, an, cdv, ct, osl, rfl, lk, hcd, _, _⟩ := F.ex
    obtain ⟨c0, e0⟩ := He.codeIn_ref hcd
    have e1 := He.codeOf_eq (p := p) lk (show (PySem.W.fnOf x q (defArgs st) (defBody st) (defScope st) dV kV doc pm an cdv ct).code = .ref c0 from e0)
    show cdv = .ref (He.codeOf K p)
    rw [e1, e0]
  refine ⟨fd26, tf.map (He.cT K), spLaw K [(He.cT K ("is_word", none)).2, (He.cT K ("is_row", none)).2] (He.cT K ("law", none)).2, fun p hp => ?_, fun p hp => ?_, fun p hp => ?_, fun s u => bLaw s [u] rfl, fun H a ns hl _ hT hS => ⟨a, ns, rfl, hS, hl, fun P hP => ?_, ?_, fun _ => rfl⟩, fun base hK hN hTB => ?_⟩
  · obtain ⟨q, hq, rfl⟩ := List.mem_map.mp hp
    exact c.empty q hq
  · obtain ⟨q, hq, rfl⟩ := List.mem_map.mp hp
    exact c.out q hq
  · obtain ⟨q, hq, rfl⟩ := List.mem_map.mp hp
    exact PySem.W.codeHd_of_K X (c.hd q hq)
  · rcases List.mem_cons.mp hP with e | hP
    · exact ⟨#[], e ▸ (hT _ (List.mem_map_of_mem (f := He.cT K) (show (("is_word", none) : He.Defn) ∈ tf from (List.mem_cons_self)))), trivial⟩
    · exact ⟨#[], (List.mem_singleton.mp hP) ▸ (hT _ (List.mem_map_of_mem (f := He.cT K) (show (("is_row", none) : He.Defn) ∈ tf from (List.mem_cons_of_mem _ (List.mem_cons_self))))), trivial⟩
  · exact LamX.TabS.nil (hT _ (List.mem_map_of_mem (f := He.cT K) (show (("law", none) : He.Defn) ∈ tf from (List.mem_cons_of_mem _ (List.mem_cons_of_mem _ (List.mem_cons_self))))))
  · have tb : ∀ q ∈ tf, TabB base mg (He.cT K q).1 (He.cT K q).2 := fun q hq => by
      have z := hTB _ (List.mem_map_of_mem (f := He.cT K) hq)
      exact ⟨z.code, z.bm, z.gP⟩
    have inT : ∀ q ∈ tf, (He.cT K q).2 ∈ (tf.map (He.cT K)).map (·.2) := fun q hq => List.mem_map_of_mem (List.mem_map_of_mem hq)
    have m0 : (("is_word", none) : He.Defn) ∈ tf := (List.mem_cons_self)
    have m1 : (("is_row", none) : He.Defn) ∈ tf := (List.mem_cons_of_mem _ (List.mem_cons_self))
    have m2 : (("law", none) : He.Defn) ∈ tf := (List.mem_cons_of_mem _ (List.mem_cons_of_mem _ (List.mem_cons_self)))
    have tbL : ∀ q ∈ tf, LamX.TabB base mg (He.cT K q).1 (He.cT K q).2 := fun q hq => ⟨(tb q hq).code, (tb q hq).bm, (tb q hq).gP⟩
    have i9 : (He.cT K ("is_word", none)).2 ∈ [(He.cT K ("is_word", none)).2, (He.cT K ("is_row", none)).2] := List.mem_cons_self
    have i10 : (He.cT K ("is_row", none)).2 ∈ [(He.cT K ("is_word", none)).2, (He.cT K ("is_row", none)).2] := List.mem_cons_of_mem _ List.mem_cons_self
    have nLT : (He.cT K ("law", none)).2 ∉ [(He.cT K ("is_word", none)).2, (He.cT K ("is_row", none)).2] := fun z => by
      rcases List.mem_cons.mp z with z | z
      · exact neq n1 z
      · exact neq n2 (List.mem_singleton.mp z)
    generalize [(He.cT K ("is_word", none)).2, (He.cT K ("is_row", none)).2] = T at i9 i10 nLT ⊢
    obtain ⟨fdI, FI, bI⟩ := row_init (w := w) (base := base) hsup rw1 z_super R1.T R1.hno
    obtain ⟨fdID, FID, bID⟩ := deed_init (w := w) (base := base) hsup2 bd1 z_super RD.T RD.hno
    obtain ⟨fdIH, FIH, bIH⟩ := halt_init (w := w) (base := base) hsup3 ha1 z_super RH.T hn1 hn2
    have c9 := code (p := ("is_word", none)) F0
    have c10 := code (p := ("is_row", none)) F1
    have cL := code (p := ("law", none)) F26
    have t9 := tb _ m0
    have t10 := tb _ m1
    have tL := tbL _ m2
    have bW : L2.Binds K fd24 ["_law_work"] [] := F24.bindsN fun _ _ _ _ _ _ us hl => match us, hl with | [_], _ => rfl
    have b_0 : Binds K fd0 ["word"] [] := F0.bindsN fun _ _ _ _ _ _ us hl => match us, hl with | [_], _ => rfl
    have o_is_word : Own (PySem.Challenge.rw_answerhouse_k17_batches).prog w K mg base "is_word" 3 _ fd0 ["word"] (spWord T) := ⟨ok_word F0 c9 t9 i9 W, gl 0 "is_word" rfl, F0.kp, b_0⟩
    have b_1 : Binds K fd1 ["row"] [] := F1.bindsN fun _ _ _ _ _ _ us hl => match us, hl with | [_], _ => rfl
    have o_is_row : Own (PySem.Challenge.rw_answerhouse_k17_batches).prog w K mg base "is_row" 5 _ fd1 ["row"] (spRow K T) := ⟨ok_row F1 c10 t10 i10 W D o_is_word.g o_is_word.ok o_is_word.kp o_is_word.b, gl 1 "is_row" rfl, F1.kp, b_1⟩
    have b_3 : Binds K fd3 ["rows"] [] := F3.bindsN fun _ _ _ _ _ _ us hl => match us, hl with | [_], _ => rfl
    have o_check : Own (PySem.Challenge.rw_answerhouse_k17_batches).prog w K mg base "check_text" 6 _ fd3 ["rows"] (spCheck0 K T) := ⟨ok_check F3 W hMost o_is_row.g o_is_row.ok o_is_row.kp o_is_row.b, gl 3 "check_text" rfl, F3.kp, b_3⟩
    have b_2 : Binds K fd2 ["number", "many"] [] := F2.bindsN fun _ _ _ _ _ _ us hl => match us, hl with | [_, _], _ => rfl
    have o_isnum : Own (PySem.Challenge.rw_answerhouse_k17_batches).prog w K mg base "is_number" 1 _ fd2 ["number", "many"] spNum := ⟨ok_isnum F2 z_isinstance z_int z_bool, gl 2 "is_number" rfl, F2.kp, b_2⟩
    have b_5 : Binds K fd5 ["deed"] [] := F5.bindsN fun _ _ _ _ _ _ us hl => match us, hl with | [_], _ => rfl
    have o_isdeed : Own (PySem.Challenge.rw_answerhouse_k17_batches).prog w K mg base "is_deed" 1 _ fd5 ["deed"] (spDeed K) := ⟨ok_deed F5 W DD, gl 5 "is_deed" rfl, F5.kp, b_5⟩
    have b_8 : Binds K fd8 ["self"] [] := F8.bindsN fun _ _ _ _ _ _ us hl => match us, hl with | [_], _ => rfl
    have k_text : FnOk (PySem.Challenge.rw_answerhouse_k17_batches).prog w K mg base CX0 1 _ fd8 ["self"] (spHNo (He.ga K "House") fun rv _ _ => rv) := ok_htext F8 CHc
    have b_17 : Binds K fd17 ["self"] [] := F17.bindsN fun _ _ _ _ _ _ us hl => match us, hl with | [_], _ => rfl
    have k_idle : FnOk (PySem.Challenge.rw_answerhouse_k17_batches).prog w K mg base CX0 1 _ fd17 ["self"] (spHNo (He.ga K "House") fun _ _ b => .bl b) := ok_hidle F17 CHc
    have b_16 : Binds K fd16 ["self"] [] := F16.bindsN fun _ _ _ _ _ _ us hl => match us, hl with | [_], _ => rfl
    have k_told : FnOk (PySem.Challenge.rw_answerhouse_k17_batches).prog w K mg base CX0 1 _ fd16 ["self"] (spHTold (He.ga K "House")) := ok_htold F16 CHc z_list
    have b_13 : Binds K fd13 ["self"] [] := F13.bindsN fun _ _ _ _ _ _ us hl => match us, hl with | [_], _ => rfl
    have k_begin : FnOk (PySem.Challenge.rw_answerhouse_k17_batches).prog w K mg base CX0 1 _ fd13 ["self"] (spHEv (He.ga K "House") "begun" false) := ok_hbegin F13 CHc
    have b_14 : Binds K fd14 ["self"] [] := F14.bindsN fun _ _ _ _ _ _ us hl => match us, hl with | [_], _ => rfl
    have k_end : FnOk (PySem.Challenge.rw_answerhouse_k17_batches).prog w K mg base CX0 1 _ fd14 ["self"] (spHEv (He.ga K "House") "ended" true) := ok_hend F14 CHc
    have b_7 : Binds K fd7 ["self", "rows"] [] := F7.bindsN fun _ _ _ _ _ _ us hl => match us, hl with | [_, _], _ => rfl
    have k_init : FnOk (PySem.Challenge.rw_answerhouse_k17_batches).prog w K mg base CX0 7 _ fd7 ["self", "rows"] (spHI2 K T (He.ga K "House")) := ok_hinit2 F7 CHc o_check.g o_check.ok o_check.kp o_check.b
    have b_18 : Binds K fd18 ["_law_script"] [] := F18.bindsN fun _ _ _ _ _ _ us hl => match us, hl with | [_], _ => rfl
    have o_lrow : Own (PySem.Challenge.rw_answerhouse_k17_batches).prog w K mg base "_law_row" 1 _ fd18 ["_law_script"] (spLRow K) := ⟨ok_lrow F18, gl 7 "_law_row" rfl, F18.kp, b_18⟩
    have b_19 : Binds K fd19 ["_law_row_here", "_law_many"] [] := F19.bindsN fun _ _ _ _ _ _ us hl => match us, hl with | [_, _], _ => rfl
    have o_ltaken : Own (PySem.Challenge.rw_answerhouse_k17_batches).prog w K mg base "_law_taken" 1 _ fd19 ["_law_row_here", "_law_many"] (spTaken K) := ⟨ok_ltaken F19 z_len, gl 8 "_law_taken" rfl, F19.kp, b_19⟩
    have b_20 : Binds K fd20 ["_law_row_here"] [] := F20.bindsN fun _ _ _ _ _ _ us hl => match us, hl with | [_], _ => rfl
    have o_lone : Own (PySem.Challenge.rw_answerhouse_k17_batches).prog w K mg base "_law_one" 2 _ fd20 ["_law_row_here"] (spOne K) := ⟨ok_lone F20 o_ltaken.g o_ltaken.ok o_ltaken.kp o_ltaken.b, gl 9 "_law_one" rfl, F20.kp, b_20⟩
    have b_21 : Binds K fd21 ["_law_row_here", "_law_many"] [] := F21.bindsN fun _ _ _ _ _ _ us hl => match us, hl with | [_, _], _ => rfl
    have o_ltext : Own (PySem.Challenge.rw_answerhouse_k17_batches).prog w K mg base "_law_text" 3 _ fd21 ["_law_row_here", "_law_many"] (spText K) := ⟨ok_ltext F21 o_ltaken.g o_ltaken.ok o_ltaken.kp o_ltaken.b o_lone.g o_lone.ok o_lone.kp o_lone.b z_tuple z_range, gl 10 "_law_text" rfl, F21.kp, b_21⟩
    have b_22 : Binds K fd22 ["_law_row_here", "_law_many"] [] := F22.bindsN fun _ _ _ _ _ _ us hl => match us, hl with | [_, _], _ => rfl
    have o_deed : Own (PySem.Challenge.rw_answerhouse_k17_batches).prog w K mg base "_law_deed" 3 _ fd22 ["_law_row_here", "_law_many"] (spLDeed K) := ⟨ok_ldeed F22 o_ltaken o_lone, gl 11 "_law_deed" rfl, F22.kp, b_22⟩
    have b_23 : Binds K fd23 ["_law_w", "_law_deed_here"] [] := F23.bindsN fun _ _ _ _ _ _ us hl => match us, hl with | [_, _], _ => rfl
    have o_done : Own (PySem.Challenge.rw_answerhouse_k17_batches).prog w K mg base "_law_done" 1 _ fd23 ["_law_w", "_law_deed_here"] (spLDone K) := ⟨ok_ldone F23 B z_int, gl 12 "_law_done" rfl, F23.kp, b_23⟩
    have b_25 : Binds K fd25 ["_law_found", "_law_due"] [] := F25.bindsN fun _ _ _ _ _ _ us hl => match us, hl with | [_, _], _ => rfl
    have o_alike4 : Own (PySem.Challenge.rw_answerhouse_k17_batches).prog w K mg base "_law_alike" 4 _ fd25 ["_law_found", "_law_due"] (spAlike K 4) := ⟨ok_lalike F25 (gl 14 "_law_alike" rfl) b_25 B 4, gl 14 "_law_alike" rfl, F25.kp, b_25⟩
    exact (by
      have o_chn : FnOk (PySem.Challenge.rw_answerhouse_k17_batches).prog w K mg base (L2N.CX (PySem.Challenge.rw_answerhouse_k17_batches).prog w) 2 _ fd4 ["number", "many"] (spChNum (cW K 4)) := ok_chnumN F4 o_isnum.g o_isnum.ok o_isnum.kp o_isnum.b g_NoRow xC kC bC tC'
      have bD_chn : L2.Binds K fd4 ["number", "many"] [] := ((F4).bindsN fun _ _ _ _ _ _ us hl => match us, hl with | [_, _], _ => rfl)
      have k_put : FnOk (PySem.Challenge.rw_answerhouse_k17_batches).prog w K mg base (L2N.CX (PySem.Challenge.rw_answerhouse_k17_batches).prog w) 6 _ fd9 ["self", "number", "row"] (spHPut K T (He.ga K "House") (cW K 4) (cW K 0)) := ok_hputN F9 CHc z_len (gl 4 "check_number" rfl) o_chn (F4).kp bD_chn o_is_row.g o_is_row.ok o_is_row.kp o_is_row.b hMost R1 FI bI g_BadRow
      have k_drop : FnOk (PySem.Challenge.rw_answerhouse_k17_batches).prog w K mg base (L2N.CX (PySem.Challenge.rw_answerhouse_k17_batches).prog w) 6 _ fd10 ["self", "number"] (spHDrop T (He.ga K "House") (cW K 4)) := ok_hdropN F10 CHc z_len (gl 4 "check_number" rfl) o_chn (F4).kp bD_chn
      have k_tell : FnOk (PySem.Challenge.rw_answerhouse_k17_batches).prog w K mg base (L2N.CX (PySem.Challenge.rw_answerhouse_k17_batches).prog w) 6 _ fd11 ["self", "number", "row"] (spHTell K T (He.ga K "House") (cW K 4) (cW K 0)) := ok_htellN F11 CHc z_len (gl 4 "check_number" rfl) o_chn (F4).kp bD_chn o_is_row.g o_is_row.ok o_is_row.kp o_is_row.b R1 FI bI g_BadRow
      have bD_put : L2.Binds K fd9 ["self", "number", "row"] [] := ((F9).bindsN fun _ _ _ _ _ _ us hl => match us, hl with | [_, _, _], _ => rfl)
      have bD_drop : L2.Binds K fd10 ["self", "number"] [] := ((F10).bindsN fun _ _ _ _ _ _ us hl => match us, hl with | [_, _], _ => rfl)
      have bD_tell : L2.Binds K fd11 ["self", "number", "row"] [] := ((F11).bindsN fun _ _ _ _ _ _ us hl => match us, hl with | [_, _, _], _ => rfl)
      have k_do : FnOk (PySem.Challenge.rw_answerhouse_k17_batches).prog w K mg base (L2N.CX (PySem.Challenge.rw_answerhouse_k17_batches).prog w) 7 _ fd15 ["self", "deed"] (spHDo K T (He.ga K "House") (cW K 4) (cW K 0)) := ok_hdo F15 CHc m_put k_put bD_put m_drop k_drop bD_drop m_tell k_tell bD_tell
      have bD_do : L2.Binds K fd15 ["self", "deed"] [] := ((F15).bindsN fun _ _ _ _ _ _ us hl => match us, hl with | [_, _], _ => rfl)
      have o_chd : FnOk (PySem.Challenge.rw_answerhouse_k17_batches).prog w K mg base (L2.CX (PySem.Challenge.rw_answerhouse_k17_batches).prog w) 3 _ fd6 ["deeds"] (spChD K (He.ga K "BadDeed")) := ok_checkdeeds F6 W z_list o_isdeed.g o_isdeed.ok o_isdeed.kp o_isdeed.b RD FID bID g_BadDeed
      have bD_chd : L2.Binds K fd6 ["deeds"] [] := ((F6).bindsN fun _ _ _ _ _ _ us hl => match us, hl with | [_], _ => rfl)
      have k_batch : FnOk (PySem.Challenge.rw_answerhouse_k17_batches).prog w K mg base (L2.CX (PySem.Challenge.rw_answerhouse_k17_batches).prog w) 8 _ fd12 ["self", "deeds", "keep"] (spBatchK K T (He.ga K "House") (cW K 7)) := ok_hbatchK F12 CHc W (gl 6 "check_deeds" rfl) o_chd (F6).kp bD_chd m_begin k_begin b_13 m_end k_end (ok_hendH F14 CHc) b_14 m_do k_do bD_do g_NoRow g_BadRow (of_decide_eq_true xm1) (of_decide_eq_true xm2) RH FIH bIH g_Halted
      obtain ⟨dsB, vB, bBa⟩ := batch_b0 F12
      exact ok_law F26 cL tL nLT B z_int o_lrow o_ltext o_ltaken o_deed o_done o_alike4 F24 (gl 13 "_law_word" rfl) (F24).kp bW WF xfH hn1 hn2 CHc M g_House k_init b_7 m_batch k_batch F12 vB bBa m_text k_text b_8 m_told k_told b_16 m_is_idle k_idle b_17)
end Ah
end
section
open PySem PySem.W PySem.Calls PyProof.Rows
set_option Elab.async false
set_option maxRecDepth 100000
set_option maxHeartbeats 0
theorem PySem.Challenge.cw_answerhouse_k17_batches_holds : PySem.Challenge.rw_answerhouse_k17_batches.Holds := by
  w_on; o_law
  refine HandSHeadRun.head_any (r := OpenLaw.row PySem.Challenge.rw_answerhouse_k17_batches) (q := view (OpenLaw.row PySem.Challenge.rw_answerhouse_k17_batches).prog [59]) (H := Ah.hk) (ob := Ah.ob) (M := 7000) (loose := Ah.loose) (d := HandSHeadRun.topDef (OpenLaw.row PySem.Challenge.rw_answerhouse_k17_batches).prog 59) (kwd := []) Ah.ob_eq
    (by kernel_rfl) (fun s => by kernel_rfl) Ah.run (by kernel_rfl) (by kernel_rfl) (by kernel_rfl) (by rfl) (by first | assumption | decide +kernel) (by decide +kernel) ⟨rfl, rfl, rfl, rfl, rfl, by decide +kernel⟩ ?hw ?hc
  case hw => w_witness2
  case hc =>
    refine LamX.walk_ofTsE (l := PySem.Challenge.rw_answerhouse_k17_batches) (n := 63) (k := 14) (x := "_law_script") (CX := fun _ => L2.CX0) rfl (by decide) (by kernel_rfl) ⟨rfl, by decide, by decide⟩ ?F (fun _ _ _ _ _ z => z)
    intro w mg fa h Y G hmg0
    obtain ⟨K, KX, c, cv⟩ := Y
    have hmg : mg ("law" : PySem.Str) = some (.ref fa) := by
      have e : (HandSHeadRun.topDef (OpenLaw.row PySem.Challenge.rw_answerhouse_k17_batches).prog 59).name = ("law" : PySem.Str) := by kernel_rfl
      rw [← e]
      exact hmg0
    exact ⟨K, KX, Ah.facts KX G hmg c cv⟩
end
