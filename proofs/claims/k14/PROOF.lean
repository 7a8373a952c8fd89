import PyProof.Rows.All
import Wide.All
import OpenK.AllK
import Wide.FinOn
import HandS.ForMost
import HandS.AnyAll
import HandS.GenList
import HandS.Walk
import KE.GoesEnum
import HandS.IsInst
import HandS.Defaults
import HandS.HeadHook4
import HandS.HeadWalk
import HandS.ExcInit
import HandS.ExcField
import HandS.ExcIs
import HandS.Head2
import HandS.HeadEnd
import HandS.Zip
import HandS.SetTxt0
import HandS.SetBool
import PyProof.DictMoreH
import KE.KDictCopyH
import KE.KDictKeyed
import HandS.Conv
import KE.SortData
import HandS.Deep
import HandS.WordsExc
import KE.KExcSuper
import KE.KSuper
import KE.KExcIs
import HandS.DictComp
import HandS.Star
import HandS.Strs
import HandS.Set
import HandS.Lambda
import HandS.WordsList
import HandS.Evl
import HandS.TupAny
import HandS.EndTab
import PySem.Challenge.RW_answerhouse_k14_steps_read
section
set_option Elab.async false
set_option linter.all false
set_option maxRecDepth 100000
set_option maxHeartbeats 2000000
/-! all(elt for x in iter) where elt may call defs: the generator's block as a context of its own. -/
namespace GxG
open PySem PySem.Spec PyProof.Rows L2 GenW
open GxR (TabB TabG Tabbed inv_tab sh_eta)

/-- the generator expression's own scope: one name of its own, nothing captured, no cells -/
structure GenS (env : Env) (scope : Scope) (x : Str) : Prop where
  kind : scope.kind = .function
  co : scope.isCoroutine = false
  nocf : ∀ y ∈ scope.names, y.2 ≠ .cell ∧ y.2 ≠ .free
  dot : scope.names.lookup (".0" : Str) = some NameKind.local
  loc : scope.names.lookup x = some .local
  clo : cloFrom env.cells scope.names [] = []

/-- the generator has been made: the state sB ahead of its frame, and s5 behind it -/
structure Made (X : Cx) (pins : List (Addr × Obj)) (σ : L2.St) (P : Addr) (H1 H2 : Hp) (tg : Expr) (c0 : Expr) (scope : Scope) (J : It) (it : Addr) (fp : List Addr) (tn : Nat → Heap → Prop) (code : Value) (sB s5 : Shared) : Prop where
  tab : Tabbed P H1 H2
  inv : Inv X pins σ H2 sB
  turn : Turn X.prog X.w X.K tg J fp it tn
  tn0 : tn 0 sB.heap
  fpo : ∀ b ∈ fp, FpOk X pins H2 b ∧ b < sB.heap.objs.size
  os : s5.os = sB.os
  bare : AllBare s5.gens
  keep : ∀ b o, sB.heap.get? b = some o → s5.heap.get? b = some o
  ns : s5.heap.Ns sB.heap.objs.size (fun y => if y = (".0" : Str) then some (.ref it) else none)
  gen : ∃ go nm qn, s5.heap.get? (sB.heap.objs.size + 1) = some go ∧ go.cls = .type "generator" ∧ go.data = .fields #[.int sB.gens.size 0, nm, qn] ∧ go.slots = #[]
  gs : s5.gens[sB.gens.size]? = some (.fresh (.compStart c0 0 (.ref it) .none (genEnv scope [] sB.heap.objs.size code builtinsNs X.env)))

section
variable {X : Cx} {pins : List (Addr × Obj)} {σ : L2.St} {H : Hp} {s : Shared}
theorem gen_it {c P : Addr} {elt iter tg : Expr} {x : Str} {gpos : Pos} {scope : Scope} {wi : TI} {k : Nat} {Q' : Value → Shared → Prop} {R : It → Hp → Prop}
    (hr : Room k X.A) (TB : TabB X.base X.mg c P) (hcode : X.env.code = .ref c) (S : GenS X.env scope x) (hi : PI X tg iter wi)
    (hs : ∀ v, genFold iter X.env v = pure v) (I : Inv X pins σ H s) (h : wi σ H fun J H1 => TabG H1 P ∧ R J H1)
    (hQ : ∀ J H1 H2 it fp tn code sB s5, R J H1 → Made X pins σ P H1 H2 tg (.GeneratorExp elt [⟨tg, iter, [], 0⟩] scope gpos) scope J it fp tn code sB s5 → Q' (.ref (sB.heap.objs.size + 1)) s5) :
    wpAny (model X.prog X.w) X.A (eval (.GeneratorExp elt [⟨tg, iter, [], 0⟩] scope gpos) X.env) Q' X.xe s := by
  refine wpAny_GeneratorExp_make (cl := []) S.co (by rw [← S.clo]; exact closure_ok fun y hy e => absurd e (S.nocf y hy).2) (fun y hy => (S.nocf y hy).1) S.dot S.kind (by have := hr.dp; omega) ?_ hs
  refine thn (hi.run pins s σ H _ I h) fun xv s1 h1 => thn h1 fun itv s2 h2 => ?_
  obtain ⟨it, fp, tn, J, H1, rfl, I1, T, st1, f1, ⟨ps, hP, ht⟩, hR⟩ := h2
  have hPs : s2.heap.get? P = some { cls := .none, data := .fields ps } := I1.hok P _ hP
  have cd : PySem.W.CodeHd s2.heap c P := TB.code.keeps fun b u e => I1.bk b u e
  refine ⟨I1.nolimit, ?_⟩
  have fpl : ∀ b ∈ fp, b < s2.heap.objs.size := fun b hb => let ⟨o, e, _⟩ := T.obj _ _ st1 b hb; Heap.lt_size e
  have fpP : ∀ b ∈ fp, b ≠ P := fun b hb z => by
    have := (f1 b hb).1
    rw [z, hP] at this
    cases this
  have cont : ∀ (code : Value) (h3 : Heap) (tk : Nat) (more : Array Value), Heap.ExtBut P s2.heap h3 → s2.heap.objs.size ≤ h3.objs.size → h3.get? P = some { cls := .none, data := .fields (ps ++ more) } → TriplesOk (ps ++ more).toList →
      wpAny (model X.prog X.w) X.A (builtinsFor X.env.globals X.env.builtins) (fun bi s₄ => ∀ h', h'.Ns s₄.heap.objs.size (fun y => if y = (".0" : Str) then some (.ref it) else none) → Heap.SameBut s₄.heap.objs.size (s₄.heap.push { cls := .type "frame", data := .dict #[] }) h' →
          Q' (.ref h'.objs.size) { s₄ with
            gens := s₄.gens.push (.fresh (.compStart (.GeneratorExp elt [⟨tg, iter, [], 0⟩] scope gpos) 0 (.ref it) .none (genEnv scope [] s₄.heap.objs.size code bi X.env))),
            toks := s₄.toks + 1 + 1 + 1,
            heap := h'.push { cls := .type "generator", data := .fields #[.int s₄.gens.size 0, .str "<genexpr>" (s₄.toks + 1), .str (X.env.qual ++ "<genexpr>") (s₄.toks + 1 + 1)] } }) X.xe { s2 with heap := h3, toks := tk } := by
    intro code h3 tk more hx hsz hP3 ht3
    obtain ⟨bm, ob, e1, e2, e3, e4, e5, e6, e7, e8⟩ := TB.bm
    refine wpAny_builtinsFor (m := X.mg) (by rw [I1.ok.glob]; exact (I1.mod.glob.keeps I1.bk).extBut hx TB.gP) e1 e2 (hx _ _ e4 (I1.bk _ _ e5)) e6 e7 e8 ?_
    intro h' hn' hs'
    have J3 : Inv X pins σ (upd H1 P (.tbl (ps ++ more))) { s2 with heap := h3, toks := tk } :=
      inv_tab (more := more) (h' := h3) (g' := s2.gens) (d' := s2.drawn) (t' := tk) I1 hP (fun b u hb e => hx b u hb e) hP3 I1.bare
    have hsz' : h'.objs.size = h3.objs.size + 1 := by rw [hs'.1, Heap.size_push]
    have keep' : ∀ b o, h3.get? b = some o → h'.get? b = some o := fun b o e => hs'.extBut b o (Nat.ne_of_lt (Heap.lt_size e)) (Heap.get?_push_of_some _ e)
    have e9 : Value.ref h'.objs.size = Value.ref (h3.objs.size + 1) := by rw [hsz']
    rw [e9]
    refine hQ J H1 (upd H1 P (.tbl (ps ++ more))) it fp tn code { s2 with heap := h3, toks := tk } _ hR
      ⟨⟨⟨_, upd_same, ht3⟩, fun b hb => upd_ne hb⟩, J3, T, T.keep _ _ _ st1 fun b hb o e => hx b o (fpP b hb) e, fun b hb => ⟨?_, Nat.lt_of_lt_of_le (fpl b hb) hsz⟩, rfl, I1.bare.push rfl, fun b o e => Heap.get?_push_of_some _ (keep' b o e), hn'.push _, ?_, Array.getElem?_push_size ..⟩
    · obtain ⟨q0, q1⟩ := f1 b hb
      exact ⟨by rw [upd_ne (fpP b hb)]; exact q0, q1⟩
    · have hg := Heap.get?_push_size (h := h') (o := { cls := .type "generator", data := .fields #[.int s2.gens.size 0, .str "<genexpr>" (tk + 1), .str (X.env.qual ++ "<genexpr>") (tk + 1 + 1)] }) rfl
      rw [hsz'] at hg
      exact ⟨_, _, _, hg, rfl, rfl, rfl⟩
  cases hf : codeAmong gpos ps.toList with
  | none =>
    refine wpAny_genexprCodeX hcode (cd.code hPs ht) (cd.tab hPs) hf fun c' h' tk hx hge hlt hco' _ htab' _ => ?_
    obtain ⟨o1, vs, f1', tf, fl, tg', inF, tx, tt, op, _, _, _, _, _, _, _, _, _, htr, _⟩ := hco'
    exact cont _ h' tk _ hx (Nat.le_trans hge (Nat.le_of_lt hlt)) htab'.2 htr
  | some cv =>
    refine wpAny_genexprCode_hit hcode (cd.code hPs ht) hf ?_
    have e0 : ps ++ (#[] : Array Value) = ps := by simp
    exact cont cv s2.heap s2.toks #[] (Heap.ExtBut.refl _ _) (Nat.le_refl _) (by rw [e0]; exact hPs) (by rw [e0]; exact ht)
end
end GxG
end
section
set_option Elab.async false
set_option linter.all false
set_option maxRecDepth 100000
set_option maxHeartbeats 2000000
namespace GxG
open PySem PySem.Spec PyProof.Rows L2 GenW
open GxR (TabB TabG Tabbed inv_tab sh_eta)
abbrev gEnv (X : Cx) (sB : Shared) (scope : Scope) (code : Value) : Env := genEnv scope [] sB.heap.objs.size code builtinsNs X.env
/-- the generator's block -/
def gcx (X : Cx) (A : Around) (sB : Shared) (H : Hp) (x : Str) (scope : Scope) (code : Value) (fp : List Addr) (pn : List (Addr × Obj)) : Cx :=
  { X with A := A.deeper (gEnv X sB scope code), N := [x], s_0 := sB, H_0 := H, env := gEnv X sB scope code, outer := X.stack, stack := gEnv X sB scope code :: X.stack, ex := fp, fn := fun _ => true, calm := true, pn := pn, xe := fun _ _ => False }
theorem over_gen {A : Around} {elt tg iter : Expr} {ifs : List Expr} {scope : Scope} {pos : Pos} {it acc : Value} {env : Env} :
    A.over (.compLoop (.GeneratorExp elt [⟨tg, iter, ifs, 0⟩] scope pos) 0 it acc env) [] = A.deeper env := by
  obtain ⟨hd, d, fr, gs, u⟩ := A
  simp [Around.over, Around.deeper, marksOver, frameCount, unitsOf, envsOf, guardsOf, pushEnvs, pushGuards, Code.envs, Code.env?, Code.isFrame, Code.guards, Code.isGuard, Code.weight, Code.frames, Code.isCreation, Code.isCaller, Code.cUnits]
theorem over_gen0 {A : Around} {elt tg iter : Expr} {ifs : List Expr} {scope : Scope} {pos : Pos} {it acc : Value} {env : Env} :
    A.over (.compStart (.GeneratorExp elt [⟨tg, iter, ifs, 0⟩] scope pos) 0 it acc env) [] = A.deeper env := by
  obtain ⟨hd, d, fr, gs, u⟩ := A
  simp [Around.over, Around.deeper, marksOver, frameCount, unitsOf, envsOf, guardsOf, pushEnvs, pushGuards, Code.envs, Code.env?, Code.isFrame, Code.guards, Code.isGuard, Code.weight, Code.frames, Code.isCreation, Code.isCaller, Code.cUnits]
end GxG
namespace GxG
open PySem PySem.Spec PyProof.Rows L2 GenW
open GxR (TabB TabG Tabbed inv_tab sh_eta)
section
variable {X : Cx} {pins : List (Addr × Obj)} {σ : L2.St} {P : Addr} {H1 H2 : Hp} {tg c0 : Expr} {scope : Scope} {J : It} {it : Addr} {fp : List Addr} {tn : Nat → Heap → Prop} {code : Value} {sB s5 : Shared} {A : Around} {x : Str} {pn : List (Addr × Obj)}
theorem gcx_ok (M : Made X pins σ P H1 H2 tg c0 scope J it fp tn code sB s5) (S : GenS X.env scope x) (hA : A.frames = some X.stack) (hh : A.handled = none) : (gcx X A sB H2 x scope code fp pn).Ok := by
  have I := M.inv
  have noc : ∀ (y : Str) (c : Addr), (gEnv X sB scope code).cells.lookup y = some c → False := fun y c e => by
    have e' : ([] : List (Str × Addr)).lookup y = some c := e
    cases e'
  refine ⟨I.ok.mod, S.kind, I.ok.glob, rfl, Nat.le_refl _, fun y z c e => (noc y c e).elim, fun y hy => ?_, fun y c _ e => (noc y c e).elim, fun _ => hh, ?_, .inr ⟨rfl, rfl⟩, fun b hb => ⟨Nat.ne_of_lt (M.fpo b hb).2, fun y c e => (noc y c e).elim⟩, I.bs, Nat.le_trans I.ok.bsz I.sz, fun b o e hb => ?_, fun b hb z => ?_, I.stack, I.stkFree⟩
  · have key : ∀ k, scope.names.lookup y = some k → k = .cell ∨ k = .free → False := fun k hk hk' => by
      have q := S.nocf (y, k) (PySem.mem_of_lookup hk)
      rcases hk' with z | z
      · exact q.1 z
      · exact q.2 z
    rcases hy with hy | hy
    · exact (key _ hy (.inl rfl)).elim
    · exact (key _ hy (.inr rfl)).elim
  · show (A.frames.map _) = some (gEnv X sB scope code :: X.stack)
    rw [hA] <;> rfl
  · rcases (M.fpo b hb).1.2.2.2.1 with z | z
    · exact I.ok.noex b o e z
    · exact absurd (Nat.lt_of_lt_of_le (Heap.lt_size e) (Nat.le_trans I.ok.bsz z)) (Nat.lt_irrefl _)
  · rcases List.mem_cons.mp (I.stkSub b z) with z | z
    · exact (M.fpo b hb).1.2.1 z
    · exact (M.fpo b hb).1.2.2.1 z
theorem inv_gen {go : Obj} {nm qn : Value} (M : Made X pins σ P H1 H2 tg c0 scope J it fp tn code sB s5) (S : GenS X.env scope x) (hA : A.frames = some X.stack) (hh : A.handled = none)
    (hg : s5.heap.get? (sB.heap.objs.size + 1) = some go) (hd : go.data = .fields #[.int sB.gens.size 0, nm, qn]) : Inv (gcx X A sB H2 x scope code fp [(sB.heap.objs.size + 1, go)]) [] [none] H2 s5 := by
  have I := M.inv
  refine ⟨gcx_ok M S hA hh, M.os, M.bare, Un.kept M.keep, ⟨_, M.ns, fun i y v e1 e2 e3 => ?_⟩, fun y c e => ?_, I.hok.fresh (Nat.le_refl _), fun y c e => ?_, fun p hp => ?_, I.hok.kept M.keep, rfl⟩
  · cases i with
    | zero => cases e2
    | succ i => cases e2
  · have e' : ([] : List (Str × Addr)).lookup y = some c := e
    cases e'
  · have e' : ([] : List (Str × Addr)).lookup y = some c := e
    cases e'
  · rcases List.mem_append.mp hp with z | z
    · rw [List.mem_singleton.mp z]
      refine ⟨hg, I.hok.fresh (Nat.le_succ _), Nat.succ_ne_self _, fun hm => ?_, fun v q => by rw [hd] at q; cases q⟩
      have q := I.stkSub _ hm
      rcases List.mem_cons.mp q with z2 | z2
      · have h1 : X.env.locals < sB.heap.objs.size := I.lt
        have h2 : sB.heap.objs.size + 1 = X.env.locals := z2
        rw [← h2] at h1
        exact absurd h1 (Nat.not_lt_of_le (Nat.le_succ _))
      · exact I.nofs (Nat.le_succ _) z2
    · cases z
/-- what a state with the same heap inherits -/
theorem inv_same {Y : Cx} {pins : List (Addr × Obj)} {σ : L2.St} {H : Hp} {s s' : Shared} (I : Inv Y pins σ H s) (ho : s'.os = s.os) (hg : AllBare s'.gens) (hk : ∀ b o, s.heap.get? b = some o → s'.heap.get? b = some o) : Inv Y pins σ H s' :=
  I.call' (ch := []) ho (Un.kept hk) (I.hok.kept hk) hg fun b hb => absurd hb (by simp)
/-- back in the def -/
theorem inv_back {σ' : L2.St} {pins' : List (Addr × Obj)} {H' : Hp} {s' : Shared} (M : Made X pins σ P H1 H2 tg c0 scope J it fp tn code sB s5) (I' : Inv (gcx X A sB H2 x scope code fp pn) pins' σ' H' s') : Inv X pins σ H' s' :=
  M.inv.call' (ch := fp) I'.os I'.base I'.hok I'.bare fun b hb => ⟨(M.fpo b hb).1.2.2.2.1, (M.fpo b hb).1.2.1, (M.fpo b hb).1.2.2.2.2.1, (M.fpo b hb).1.2.2.2.2.2⟩
end
end GxG
end
section
set_option Elab.async false
set_option linter.all false
set_option maxRecDepth 100000
set_option maxHeartbeats 2000000
namespace GxG
open PySem PySem.Spec PyProof.Rows L2 GenW
open GxR (TabB TabG Tabbed inv_tab sh_eta)
/-- what the generator keeps to: the end, an item -/
def GEnd (B : Cx) (QT : Hp → Prop) : GenEnd := fun _ _ r s1 => ((r = .ok (.ret .none) ∨ r = .ok .next) ∧ ∃ H', Inv B [] [none] H' s1 ∧ QT H') ∨ ∃ e, r = .error e ∧ False
def GItem (B : Cx) (QF : Hp → Prop) : Protocol := fun _ _ v s1 kap => ∃ c H' σ' pins', v = .bool c ∧ Inv B pins' σ' H' s1 ∧ (c = false → QF H') ∧ (c = true → ∀ s', s'.heap = s1.heap → s'.os = s1.os → AllBare s'.gens → kap (.send .none) s')
/-- the walk's invariant and its turns -/
def GTurns (J : It) (g : TG) (te : TE) (W : Nat → Nat → Hp → Prop) (QT QF : Hp → Prop) : Prop :=
  ∀ i m H, W i m H → (J.stop i H ∧ QT H) ∨ (J.go i H ∧ ∃ Nx : Hp → Prop, (∀ H', Nx H' → ∃ m', m' < m ∧ W (i + 1) m' H') ∧ ∀ y H', J.yld i H y H' → g y [none] H' fun σ2 H2 => te σ2 H2 fun z H3 => ∃ c, z = .bl c ∧ if c = true then Nx H3 else QF H3)
section
variable {X : Cx} {pins : List (Addr × Obj)} {σ : L2.St} {P : Addr} {H1 H2 : Hp} {elt tg iter : Expr} {scope : Scope} {gpos : Pos} {J : It} {it : Addr} {fp : List Addr} {tn : Nat → Heap → Prop} {code : Value} {sB s5 : Shared} {A : Around} {x : Str} {pn : List (Addr × Obj)}
theorem seg_loop {g : TG} {te : TE} {W : Nat → Nat → Hp → Prop} {QT QF : Hp → Prop} (hco : scope.isCoroutine = false) (T : Turn X.prog X.w X.K tg J fp it tn)
    (hg : PG (gcx X A sB H2 x scope code fp pn) tg g) (he : PE (gcx X A sB H2 x scope code fp pn) elt te) (turn : GTurns J g te W QT QF) :
    ∀ (m n i : Nat) (s₀ s : Shared) (H : Hp), m < n → W i m H → Inv (gcx X A sB H2 x scope code fp pn) [] [none] H s → tn i s.heap → (∀ b ∈ fp, FpOk (gcx X A sB H2 x scope code fp pn) [] H b) →
      Seg (model X.prog X.w) A (GEnd (gcx X A sB H2 x scope code fp pn) QT) (GItem (gcx X A sB H2 x scope code fp pn) QF) n s₀
        (.compLoop (.GeneratorExp elt [⟨tg, iter, [], 0⟩] scope gpos) 0 (.ref it) .none (gEnv X sB scope code))
        ((model X.prog X.w).den (.compLoop (.GeneratorExp elt [⟨tg, iter, [], 0⟩] scope gpos) 0 (.ref it) .none (gEnv X sB scope code))) [] s := by
  intro m
  induction m using Nat.strongRecOn with
  | ind m ih =>
    intro n i s₀ s H hn hW I hst hfp
    obtain ⟨n, rfl⟩ : ∃ q, n = q + 1 := ⟨n - 1, by omega⟩
    show Seg _ A _ _ _ s₀ _ ((compTurn (.GeneratorExp elt [⟨tg, iter, [], 0⟩] scope gpos) 0 (.ref it) .none (gEnv X sB scope code)).onRaise (leaving (gEnv X sB scope code))) [] s
    rw [compTurn_gen, Sem.onRaise_eq_wrap]
    refine seg_bind_wrap (wpAny_standAt ?_)
    rcases turn i m H hW with ⟨stop, q⟩ | ⟨go, Nx, hNx, step⟩
    · refine seg_bind_wrap ?_
      rw [over_gen]
      refine thnF (T.done (gcx X A sB H2 x scope code fp pn) rfl rfl rfl rfl i [] s [none] H (fun _ _ => False) I hfp hst stop) fun r s1 ⟨hr, I1⟩ => ?_
      subst hr
      exact seg_end (.ok .next) (.inl ⟨.inr rfl, H, I1, q⟩)
    · refine seg_bind_wrap ?_
      rw [over_gen]
      refine thnF (T.item (gcx X A sB H2 x scope code fp pn) rfl rfl rfl rfl i [] s [none] H (fun _ _ => False) I hfp hst go) fun r s1 ⟨u, hr, h1⟩ => ?_
      subst hr
      dsimp only
      refine seg_bind_wrap ?_
      rw [over_gen]
      refine thnF h1 fun _ s2 ⟨y, H', I2, r2, y2, st2, n2⟩ => ?_
      have f2 : ∀ b ∈ fp, FpOk (gcx X A sB H2 x scope code fp pn) [] H' b := fun b hb => ⟨n2 b hb, (hfp b hb).2⟩
      have I2' := I2.pinned f2 (T.obj _ _ st2)
      refine seg_bind_wrap ?_
      rw [over_gen]
      refine thnF (hg.run _ s2 _ H' y u _ I2' r2 (step y H' y2)) fun _ s3 ⟨σ3, H3, I3, q3⟩ => ?_
      simp only [List.forIn_nil]
      refine seg_bind_wrap (wpAny_pure ?_)
      simp only [if_true]
      have hy : ∀ v, yieldOut (gEnv X sB scope code) v = yieldValue v := fun v => by
        have e : (gEnv X sB scope code).scope.isCoroutine = false := hco
        simp only [yieldOut, e, Bool.false_eq_true, if_false]
      simp only [hy]
      rw [Sem.bind_eq_wrap', Sem.bind_eq_wrap', Sem.wrap_wrap, Sem.wrap_wrap]
      refine seg_wrap ?_
      rw [over_gen]
      refine thnF (he.run _ s3 σ3 H3 _ I3 q3) fun v s4 ⟨z, H4, I4, r4, c, ez, q4⟩ => ?_
      subst ez
      cases (show v = Value.bool c from r4)
      refine seg_at (seg_yield rfl rfl rfl ⟨c, H4, _, _, rfl, I4, fun e => ?_, fun e s'' eh eo eb => ?_⟩)
      · subst e
        exact q4
      · subst e
        obtain ⟨m', hm', hW'⟩ := hNx H4 q4
        have pin' : ∀ b ∈ fp, ∀ o, s2.heap.get? b = some o → s4.heap.get? b = some o ∧ H4 b = none := fun b hb o e =>
          let z := I4.pin (b, o) (List.mem_append_right _ (List.mem_append_right _ (mem_pinsAt hb e)))
          ⟨z.1, z.2.1⟩
        have I5 : Inv (gcx X A sB H2 x scope code fp pn) [] [none] H4 s'' := inv_same ((I4.unpinned (pins := [])).weak (by rw [I4.len]; rfl) (fun j v e => by
          cases j with
          | zero => cases e
          | succ j => cases e)) eo eb fun b o e => by rw [eh]; exact e
        refine seg_again rfl (ih m' hm' n (i + 1) s'' s'' H4 (by omega) hW' I5 (T.keep _ _ _ st2 fun b hb o e => by rw [eh]; exact (pin' b hb o e).1) fun b hb => ⟨?_, (hfp b hb).2⟩)
        obtain ⟨o, e, _⟩ := T.obj _ _ st2 b hb
        exact (pin' b hb o e).2
end
end GxG
end
section
set_option Elab.async false
set_option linter.all false
set_option maxRecDepth 100000
set_option maxHeartbeats 2000000
namespace GxG
open PySem PySem.Spec PyProof.Rows L2 GenW
open GxR (TabB TabG Tabbed inv_tab sh_eta)
section
variable {A : Around} {R : Result → Shared → Prop} {B : Cx} {QT QF : Hp → Prop} {a : Addr} {g : Nat} {go : Obj} {nm qn : Value}
theorem drain_all (hh : A.handled = none) (hd : A.depth < recursionLimit) (hpn : (a, go) ∈ B.pn) (hgo : go.cls = .type "generator" ∧ go.data = .fields #[.int g 0, nm, qn] ∧ go.slots = #[])
    (hT : ∀ H' s1 s', Inv B [] [none] H' s1 → QT H' → s'.os = s1.os → AllBare s'.gens → (∀ b o, s1.heap.get? b = some o → s'.heap.get? b = some o) → R (.ok (.ret (.bool true))) s')
    (hF : ∀ H' σ' pins' s1 s', Inv B pins' σ' H' s1 → QF H' → s'.os = s1.os → AllBare s'.gens → (∀ b o, s1.heap.get? b = some o → s'.heap.get? b = some o) → R (.ok (.ret (.bool false))) s') :
    ∀ (n : Nat) (s : Shared), s.heap.IsGen a g → s.heap.NoLimit →
      (∃ gs, s.gens[g]? = some gs ∧ gs.Goes (model B.prog B.w) A.in1.in1 (GEnd B QT) (GItem B QF) n (.send .none) (s.setGen g .running)) →
      codeAny (model B.prog B.w) A (.builtin "all.loop" ⟨[.ref a], []⟩) R s := by
  have goes : ∀ {gs : GenState} {A' : Around} {n : Nat} {r : Resume} {s : Shared}, gs.Goes (model B.prog B.w) A' (GEnd B QT) (GItem B QF) n r s →
      gs.Goes (model B.prog B.w) A' (fun n s₀ r s1 => ((r = .ok (.ret .none) ∨ r = .ok .next) ∧ (∃ H', Inv B [] [none] H' s1 ∧ QT H')) ∨ ∃ e, r = .error e ∧ False) (GItem B QF) n r s := fun h => h
  have isg : ∀ {pins' σ' H' s'}, Inv B pins' σ' H' s' → s'.heap.IsGen a g := fun {pins' σ' H' s'} I =>
    ⟨go, nm, qn, (I.pin (a, go) (List.mem_append_left _ hpn)).1, hgo.1, hgo.2.1, hgo.2.2⟩
  intro n
  induction n with
  | zero =>
    intro s hg hl ⟨gs, hgs, hgo'⟩
    refine codeAny_builtin F.entry_all_loop ?_
    rw [Around.under_plainId F.plain_all_loop _]
    show wpAny _ A.in1 (pyNext (.ref a) >>= _) _ _ s
    refine wpAny_bind (next_genG (A := A.in1) (Er := fun _ _ => False) hh hl hd hg hgs (goes hgo') (fun v s₁ gs' hbare hv => ?_) (fun s₁ hp h' hk => ?_) fun e s₁ he => he.elim)
    · obtain ⟨c, H', σ', pins', rfl, I', q1, q2⟩ := hv
      refine wpAny_bind (wpAny_holding (wpAny_truthy_bool ?_))
      refine wpAny_bind (wpAny_letGo ?_)
      cases c with
      | true => exact False.elim (q2 rfl s₁ rfl rfl I'.bare)
      | false =>
        simp only [Bool.false_eq_true, if_false]
        exact wpAny_bind (wpAny_rule (wpAny_pure (hF H' σ' pins' s₁ _ I' (q1 rfl) rfl (allBare_setGen I'.bare hbare) fun b o e => e)))
    · obtain ⟨H', I', q⟩ := hp
      exact wpAny_bind (wpAny_rule (wpAny_pure (hT H' s₁ _ I' q rfl (allBare_setGen I'.bare rfl) hk)))
  | succ n ih =>
    intro s hg hl ⟨gs, hgs, hgo'⟩
    have hgl : g < s.gens.size := (Array.getElem?_eq_some_iff.mp hgs).1
    refine codeAny_builtin F.entry_all_loop ?_
    rw [Around.under_plainId F.plain_all_loop _]
    show wpAny _ A.in1 (pyNext (.ref a) >>= _) _ _ s
    refine wpAny_bind (wpAny_gsz (n := g + 1) hgl (next_genG (A := A.in1) (Er := fun _ _ => False) hh hl hd hg hgs (goes hgo') (fun v s₁ gs' hbare hv => ?_) (fun s₁ hp h' hk => ?_) fun e s₁ he => he.elim))
    · intro hsz
      obtain ⟨c, H', σ', pins', rfl, I', q1, q2⟩ := hv
      refine wpAny_bind (wpAny_holding (wpAny_truthy_bool ?_))
      refine wpAny_bind (wpAny_letGo ?_)
      cases c with
      | true =>
        simp only [if_true]
        have hsz1 : g < s₁.gens.size := by
          have q : (s₁.setGen g gs').gens.size = s₁.gens.size := setGen_size _ _ _
          have hsz' : g + 1 ≤ (s₁.setGen g gs').gens.size := hsz
          omega
        refine wpAny_pure ⟨plainId_quiet F.plain_all_loop _, ih (s₁.setGen g gs') (show s₁.heap.IsGen a g from isg I') (show s₁.heap.NoLimit from I'.nolimit) ⟨gs', setGen_at hsz1, ?_⟩⟩
        exact q2 rfl _ rfl rfl (allBare_setGen (s := s₁.setGen g gs') (allBare_setGen I'.bare hbare) rfl)
      | false =>
        simp only [Bool.false_eq_true, if_false]
        exact wpAny_bind (wpAny_rule (wpAny_pure (hF H' σ' pins' s₁ _ I' (q1 rfl) rfl (allBare_setGen I'.bare hbare) fun b o e => e)))
    · intro hsz
      obtain ⟨H', I', q⟩ := hp
      exact wpAny_bind (wpAny_rule (wpAny_pure (hT H' s₁ _ I' q rfl (allBare_setGen I'.bare rfl) hk)))
end
/-- all(elt for tg in iter): the walk's invariant W by turn and measure; behind it the def's table may have grown -/
def tAllG (P : Addr) (wi : TI) (g : TG) (te : TE) : TE := fun σ H Q => wi σ H fun J H1 => TabG H1 P ∧ ∀ H2, Tabbed P H1 H2 → ∃ W : Nat → Nat → Hp → Prop, (∃ m, W 0 m H2) ∧ GTurns J g te W (Q (.bl true)) (Q (.bl false))
section
variable {X : Cx}
theorem pe_allG {c P : Addr} {elt iter tg : Expr} {x : Str} {p pos gpos : Pos} {scope : Scope} {wi : TI} {g : TG} {te : TE} {k : Nat}
    (hr : Room (k + 1) X.A) (hg : Gl X "all") (hm : X.mg "all" = none) (TB : TabB X.base X.mg c P) (hcode : X.env.code = .ref c) (S : GenS X.env scope x) (hi : PI X tg iter wi)
    (hpg : ∀ (A : Around) (sB : Shared) (H : Hp) (code : Value) (fp : List Addr) (pn : List (Addr × Obj)), PG (gcx X A sB H x scope code fp pn) tg g)
    (hel : ∀ (A : Around) (sB : Shared) (H : Hp) (code : Value) (fp : List Addr) (pn : List (Addr × Obj)), Room k (gcx X A sB H x scope code fp pn).A → PE (gcx X A sB H x scope code fp pn) elt te)
    (hs : ∀ v, genFold iter X.env v = pure v := by intro _; rfl)
    (he : starEach [.GeneratorExp elt [⟨tg, iter, [], 0⟩] scope gpos] X.env = (false, eval (.GeneratorExp elt [⟨tg, iter, [], 0⟩] scope gpos) X.env) :: starEach [] X.env := by rfl) :
    PE X (.Call (.Name "all" p) [.GeneratorExp elt [⟨tg, iter, [], 0⟩] scope gpos] [] pos) (tAllG P wi g te) := by
  refine ⟨fun pins s σ H Q I h => ?_⟩
  refine wpAny_Call_Name_kw (ld_blt I hg hm (by decide +kernel : bootBuiltins "all" = some (.builtin "all")) ?_)
  refine PyProof.Rows.callWith_builtin1 ?_ he (by rfl)
  rw [he]
  show wpAny _ _ (spliced ((false, eval (.GeneratorExp elt [⟨tg, iter, [], 0⟩] scope gpos) X.env) :: backTo pos (starEach [] X.env))) _ _ s
  refine Calls.spliced_cons (gen_it (R := fun J H1 => ∀ H2, Tabbed P H1 H2 → ∃ W : Nat → Nat → Hp → Prop, (∃ m, W 0 m H2) ∧ GTurns J g te W (Q (.bl true)) (Q (.bl false))) hr TB hcode S hi hs I h fun J H1 H2 it fp tn code sB s5 hR M => ?_)
  refine Calls.spliced_nil ?_
  obtain ⟨W, ⟨m0, w0⟩, turn⟩ := hR H2 M.tab
  obtain ⟨go, nm, qn, hgo, hc, hd, hsl⟩ := M.gen
  have hh : X.A.handled = none := hr.hd
  have hA : X.A.in1.in1.frames = some X.stack := I.ok.frames
  have I5 := inv_gen (A := X.A.in1.in1) M S hA hh hgo hd
  have hroom : Room k (gcx X X.A.in1.in1 sB H2 x scope code fp [(sB.heap.objs.size + 1, go)]).A := by
    refine ⟨hh, ?_, ?_⟩
    · have := hr.dp
      show X.A.depth + 1 + 3 * k + 5 < _
      omega
    · have := hr.un
      show X.A.units + 1 + 1 + 3 + 16 * k + 200 < _
      omega
  have hgl : sB.gens.size < s5.gens.size := (Array.getElem?_eq_some_iff.mp M.gs).1
  refine call_function_tree F.kind_all F.plain_all F.entry_all (F.args_all1 _) ?_
  unfold Builtin.«all»
  refine wpAny_bind (m := oneArg "all" _) (wpAny_pure ?_)
  refine wpAny_bind (wpAny_pyIter_gen (g := sB.gens.size) ⟨go, nm, qn, hgo, hc, hd, hsl⟩ ?_)
  refine wpAny_pure ⟨plainId_quiet F.plain_all_loop _, ?_⟩
  refine drain_all (B := gcx X X.A.in1.in1 sB H2 x scope code fp [(sB.heap.objs.size + 1, go)]) (QT := Q (.bl true)) (QF := Q (.bl false)) (g := sB.gens.size) hh hr.depth (List.mem_singleton.mpr rfl) ⟨hc, hd, hsl⟩
    (fun H' s1 s' I' q ho hb hk => ⟨.bl true, H', inv_back M (inv_same I' ho hb hk), rfl, q⟩) (fun H' σ' pins' s1 s' I' q ho hb hk => ⟨.bl false, H', inv_back M (inv_same I' ho hb hk), rfl, q⟩)
    (m0 + 1) s5 ⟨go, nm, qn, hgo, hc, hd, hsl⟩ I5.nolimit ⟨_, M.gs, rfl, ?_⟩
  -- the generator starts
  have I6 : Inv (gcx X X.A.in1.in1 sB H2 x scope code fp [(sB.heap.objs.size + 1, go)]) [] [none] H2 (s5.setGen sB.gens.size .running) := inv_same I5 rfl (allBare_setGen M.bare rfl) fun b o e => e
  have f6 : ∀ b ∈ fp, FpOk (gcx X X.A.in1.in1 sB H2 x scope code fp [(sB.heap.objs.size + 1, go)]) [] H2 b := fun b hb => by
    refine ⟨(M.fpo b hb).1.1, Nat.ne_of_lt (M.fpo b hb).2, fun z => I5.ok.exfs b hb z, .inl hb, fun y c e => ?_, fun p hp => ?_⟩
    · have e' : ([] : List (Str × Addr)).lookup y = some c := e
      cases e'
    · rw [List.mem_singleton.mp hp]
      exact Nat.ne_of_gt (Nat.lt_succ_of_lt (M.fpo b hb).2)
  have tn6 : tn 0 (s5.setGen sB.gens.size .running).heap := M.turn.keep _ _ _ M.tn0 fun b _ o e => M.keep b o e
  have loop := seg_loop (A := X.A.in1.in1) (elt := elt) (iter := iter) (gpos := gpos) (g := g) (te := te) (W := W) (QT := Q (.bl true)) (QF := Q (.bl false)) S.co M.turn (hpg _ sB H2 code fp [(sB.heap.objs.size + 1, go)]) (hel _ sB H2 code fp [(sB.heap.objs.size + 1, go)] hroom) turn
    m0 (m0 + 1) 0 (s5.setGen sB.gens.size .running) (s5.setGen sB.gens.size .running) H2 (Nat.lt_succ_self _) w0 I6 tn6 f6
  show Seg _ _ _ _ _ _ _ ((compStart (.GeneratorExp elt [⟨tg, iter, [], 0⟩] scope gpos) 0 (.ref it) .none (gEnv X sB scope code)).onRaise (leaving (gEnv X sB scope code))) [] _
  unfold compStart
  rw [Sem.onRaise_eq_wrap]
  show Seg _ _ _ _ _ _ _ ((ask >>= _).wrap _ _ _ _) [] _
  refine seg_bind_wrap (wpAny_askSetting ?_)
  split
  · exact seg_again rfl loop
  · refine seg_bind_wrap (wpAny_rule ?_)
    show Seg _ _ _ _ _ _ _ ((standAt iter.pos >>= _).wrap _ _ _ _) [] _
    refine seg_bind_wrap (wpAny_standAt (seg_bind_wrap ?_))
    exact M.turn.self _ 0 _ _ _ tn6 (seg_again rfl loop)
end
end GxG
end
section
set_option Elab.async false
set_option linter.all false
set_option maxRecDepth 100000
namespace GxG
open PySem PySem.Spec PyProof.Rows L2 GenW
theorem nd1 (x : Str) : [x].Nodup := by simp
/-- the turns of all(..) over a walk -/
theorem ga_it {J : It} {n : Nat} {G : Hp → Prop} {Y : Nat → Hp → V → Hp → Prop} (w : Walk J n G Y) {g : TG} {te : TE} {H0 : Hp} {QT QF : Hp → Prop} (Pv : Nat → Hp → Prop) (h0 : Pv 0 H0) (hG : ∀ i H, i ≤ n → Pv i H → G H)
    (hs : ∀ i y H H', i < n → Pv i H → Y i H y H' → g y [none] H' fun σ2 H2 => te σ2 H2 fun z H3 => ∃ c, z = .bl c ∧ if c = true then Pv (i + 1) H3 else QF H3) (hd : ∀ H, Pv n H → QT H) :
    ∃ W : Nat → Nat → Hp → Prop, (∃ m, W 0 m H0) ∧ GTurns J g te W QT QF := by
  refine ⟨fun i m H => m = n - i ∧ i ≤ n ∧ Pv i H, ⟨n, by simp, Nat.zero_le _, h0⟩, ?_⟩
  rintro i m H ⟨rfl, hi, p⟩
  have q := hG i H hi p
  by_cases hlt : i < n
  · exact .inr ⟨w.goes i H hlt q, Pv (i + 1), fun H' p' => ⟨n - (i + 1), by omega, rfl, hlt, p'⟩, fun y H' yy => hs i y H H' hlt p (w.yields i H y H' hlt q yy)⟩
  · have e : i = n := by omega
    subst e
    exact .inl ⟨w.stops H q, hd H p⟩
/-- all of a list, by its first parts -/
theorem all_take {α : Type} {l : List α} {p : α → Bool} {i : Nat} {c : α} (h : (l.take i).all p = true) (hc : l[i]? = some c) : (p c = true → (l.take (i + 1)).all p = true) ∧ (p c = false → l.all p = false) := by
  have e : l.take (i + 1) = l.take i ++ [c] := by rw [List.take_add_one, hc] <;> rfl
  refine ⟨fun z => by rw [e, List.all_append, h]; simp [z], fun z => ?_⟩
  cases q : l.all p with
  | false => rfl
  | true =>
    have := List.all_eq_true.mp q c (List.mem_of_getElem? hc)
    rw [z] at this
    cases this
end GxG
end
section
set_option Elab.async false
set_option linter.all false
set_option maxRecDepth 100000
set_option maxHeartbeats 2000000
/-! enumerate(t), t a tuple, in a for -/
namespace EnT
open PySem PySem.Spec PyProof.Rows L2
theorem meets_new {t : Addr} (items : Array Value) :
    Meets (Builtin.«enumerate.__new__» ⟨[.type "enumerate", .ref t], []⟩) (fun _ R s => s.heap.IsTuple t items ∧
      R (.ok (.ret (.ref (s.heap.push { cls := .type "tuple_iterator", data := .fields #[.ref t, .int 0 0] }).objs.size)))
        { s with heap := (s.heap.push { cls := .type "tuple_iterator", data := .fields #[.ref t, .int 0 0] }).push { cls := .type "enumerate", data := .fields #[.none, .bool false, .ref s.heap.objs.size, rawInt 0, .none, .none] } }) :=
  .of_wp fun prog w A R s h => by
    obtain ⟨hp, g, d, tk, os⟩ := s; obtain ⟨h1, h⟩ := h
    have hsub := sub_enumerate
    have q1 : ∀ {A' : Around} {E : Value → Shared → Prop} {Q : Value → Shared → Prop}, Q (.ref hp.objs.size) ⟨hp.push { cls := .type "tuple_iterator", data := .fields #[.ref t, .int 0 0] }, g, d, tk, os⟩ → wpAny (model prog w) A' (pyIter (.ref t)) Q E ⟨hp, g, d, tk, os⟩ :=
      fun q => (begins_tuple t items).iter prog w _ _ ⟨hp, g, d, tk, os⟩ _ h1 q
    wp_walk using q1
    refine wpAny_stack_any fun st => wpAny_pure ?_
    split
    · rename_i c _ _ _ _ _
      cases (c == Value.type "enumerate")
      · wp_walk using q1
        exact ⟨_, rfl, h⟩
      · wp_walk using q1
        exact ⟨_, rfl, h⟩
    · wp_walk using q1
      exact ⟨_, rfl, h⟩
section
variable {prog : Program} {w : World} {A : Around} {E : Value → Shared → Prop} {s : Shared}
theorem call_enum {t : Addr} {items : Array Value} {Q : Value → Shared → Prop} (h1 : s.heap.IsTuple t items)
    (h : ∀ h', IsEnum h' (s.heap.objs.size + 1) s.heap.objs.size 0 .none → h'.IsTupleIter s.heap.objs.size t 0 →
      (∀ b o, s.heap.get? b = some o → h'.get? b = some o) → Q (.ref (s.heap.objs.size + 1)) { s with heap := h' }) :
    wpAny (model prog w) A (call (.type "enumerate") [.ref t]) Q E s := by
  refine callType_new F.called_enumerate (by decide) (F.typeCall_enumerate_1 _) (F.newCall_enumerate_1 _) (fun obj => F.args_object_init_2 obj _) F.entry_enumerate_new (meets_new items) ⟨h1, ?_⟩
  generalize hob : ({ cls := .type "tuple_iterator", data := .fields #[.ref t, .int 0 0] } : Obj) = ob
  have hfree : ob.isFreed = false := by rw [← hob]; rfl
  have hz : (s.heap.push ob).objs.size = s.heap.objs.size + 1 := Heap.size_push ..
  show _ ∧ _
  rw [hz]
  have he : IsEnum ((s.heap.push ob).push { cls := .type "enumerate", data := .fields #[.none, .bool false, .ref s.heap.objs.size, rawInt 0, .none, .none] }) (s.heap.objs.size + 1) s.heap.objs.size 0 .none := by
    have q := Heap.get?_push_size (s.heap.push ob) (o := { cls := .type "enumerate", data := .fields #[.none, .bool false, .ref s.heap.objs.size, rawInt 0, .none, .none] }) rfl
    rw [hz] at q
    exact q
  refine ⟨⟨_, he, rfl⟩, h _ he ⟨ob, Heap.get?_push_of_some _ (Heap.get?_push_size _ hfree), by subst hob; rfl, by subst hob; rfl⟩ fun b o x => Heap.get?_push_of_some _ (Heap.get?_push_of_some _ x)⟩
end
def IteT (K : PySem.W.Frag) (a : Addr) : It :=
  ⟨fun i H => ∃ (xs : List V) (x : V), SqT K H a xs ∧ xs[i]? = some x, fun i H v H' => ∃ T x, v = .ref T ∧ H T = none ∧ H' = upd H T (.tup [.int (i : Nat), x]) ∧ ∀ xs, SqT K H a xs → xs[i]? = some x, fun i H => ∃ xs : List V, SqT K H a xs ∧ xs.length ≤ i⟩
theorem turn_enumT {P : Program} {w : World} {K : PySem.W.Frag} {elts : List Expr} {kk : Nat} {tpos : Pos} (a e it : Addr) :
    Turn P w K (.Tuple elts kk tpos) (IteT K a) [e, it] e (fun i h => (∃ old, IsEnum h e it ((i : Nat) : Int) old) ∧ h.IsTupleIter it a i ∧ e ≠ it ∧ a ≠ it ∧ e ≠ a) where
  mem := by simp
  obj := fun i h st b hb => by
    obtain ⟨⟨old, he⟩, ⟨o, ho, hc, hd⟩, _⟩ := st
    have e' : b = e ∨ b = it := by simpa using hb
    rcases e' with z | z
    · rw [z]; exact ⟨_, he, fun v q => nomatch q⟩
    · rw [z]; exact ⟨o, ho, fun v q => by rw [hd] at q; cases q⟩
  keep := fun i h h' st k => let ⟨⟨old, he⟩, hi, hne⟩ := st; ⟨⟨old, k e (by simp) _ he⟩, hi.at fun o q => k it (by simp) o q, hne⟩
  item := by
    intro X hP hw hK hc i pins s σ H E I hf st hg
    subst hP hw hK
    obtain ⟨⟨old, he⟩, hit, hne, hai, hea⟩ := st
    obtain ⟨xs, x, hq, hx⟩ := hg
    obtain ⟨its, rv, p, hz⟩ := I.tuple hq
    obtain ⟨u, hu, ru⟩ := rv.get hx
    have hel : e < s.heap.objs.size := Heap.lt_size he
    have hil : it < s.heap.objs.size := by obtain ⟨_, q, _⟩ := hit; exact Heap.lt_size q
    have hsz0 : i < its.toArray.size := by
      have := (List.getElem?_eq_some_iff.mp hu).1
      simpa using this
    refine wpAny_pyNext_enum_itemD (Draws.tuple (A := X.A.in1) (I.ok.hd hc) it a hai its.toArray) he ⟨hit, p⟩ hsz0 hne (by simp [hne, hea]) fun y h' tk hy ho hst hT hsz hk => ?_
    obtain rfl : y = u := by
      rw [show its.toArray[i]? = some u by simpa using hu] at hy
      exact (Option.some.inj hy).symm
    refine ⟨_, rfl, wpAny_letOwnedTupleGo_enum (s := { s with heap := h', toks := tk + 1 }) ho fun h'' he' sb => ?_⟩
    have hT2 : h''.get? s.heap.objs.size = some { cls := .type "tuple", data := .seq #[.int i tk, y] } := (sb.2 _ (Nat.ne_of_gt hel)).trans hT
    have new : ObjOk X.prog X.w (upd H s.heap.objs.size (.tup [.int (i : Nat), x])) h'' s.heap.objs.size (.tup [.int (i : Nat), x]) :=
      ⟨by show 2 ≤ sizeLine; decide, [.int i tk, y], .cons ⟨_, rfl⟩ (.cons ru .nil), ⟨_, hT2, rfl, _, rfl⟩⟩
    have I1 : Inv X pins σ (upd H s.heap.objs.size (.tup [.int (i : Nat), x])) { s with heap := h'', toks := tk + 1 } :=
      I.turnedNew (ch := [e, it]) (fun b ob hb q => (sb.2 b (fun z => hb (by simp [z]))).trans (hk b ob (fun z => hb (by simp [z])) (fun z => hb (by simp [z])) q)) hf (Nat.le_refl _) new
    refine ⟨.ref s.heap.objs.size, _, I1, rfl, ⟨_, x, rfl, I.hok.fresh (Nat.le_refl _), rfl, fun ys hy => by rw [I.tuple_inj hy hq]; exact hx⟩, ⟨⟨y, ?_⟩, hst.1.at fun o q => (sb.2 it (Ne.symm hne)).trans q, hne, hai, hea⟩, fun b hb => ?_⟩
    · have e1 : ((i + 1 : Nat) : Int) = (i : Int) + 1 := by omega
      rw [e1]; exact he'
    · have hb' : b < s.heap.objs.size := by
        have e' : b = e ∨ b = it := by simpa using hb
        rcases e' with z | z
        · rw [z]; exact hel
        · rw [z]; exact hil
      rw [upd_ne (Nat.ne_of_lt hb')]
      exact (hf b hb).1
  done := by
    intro X hP hw hK hc i pins s σ H E I hf st hg
    subst hP hw hK
    obtain ⟨⟨old, he⟩, hit, hne, hai, hea⟩ := st
    obtain ⟨xs, hq, hx⟩ := hg
    obtain ⟨its, rv, p, hz⟩ := I.tuple hq
    obtain ⟨f0, f1, f2, f3, f4, f5⟩ := hf it (by simp)
    have hl := rv.length
    have hT : s.TypeIs (.ref e) "enumerate" := ⟨_, he, rfl⟩
    unfold pyNext
    refine wpAny_bind (wpAny_attempt (wpAny_callSpecial?_slot (name := Str.ofString "__next__") hT F.slot_enumerate_next (wpAny_call_entry F.slot_enumerate_next hT F.entry_enumerate_next ?_ (F.args_enumerate_next_1 _))))
    show wpAny _ _ (field (.ref e) 2 >>= _) _ _ _
    refine wpAny_bind (wpAny_field he rfl (x := .ref it) rfl ?_)
    refine wpAny_bind (wpAny_nextOf_tuple_end (I.ok.hd hc) hit p (by simp; omega) fun h' x he' hx' => ?_)
    obtain ⟨o, ho, hc⟩ := hx'
    refine wpAny_bind (wpAny_isInstance (T := "StopIteration") (b := true) ⟨o, ho, hc⟩ isSubtype_stop ?_)
    exact wpAny_pure ⟨rfl, I.turned (t' := s.toks) (fun b o hb q => he' b o hb q) f0 f1 f3 f4 f5⟩
  self := fun A i s Q E st h => let ⟨⟨_, he⟩, _⟩ := st; wpAny_pyIter_enum he h
def iEnumT (K : PySem.W.Frag) (ta : TA) : TI := fun σ H R => ta σ H fun vs H1 => ∃ a xs, vs = [.ref a] ∧ SqT K H1 a xs ∧ R (IteT K a) H1
theorem pi_enumT {X : Cx} {e : Expr} {ta : TA} {p pos tpos : Pos} {elts : List Expr} {kk : Nat} (hg : Gl X "enumerate") (hm : X.mg "enumerate" = none) (ha : PA X [e] ta) (hs : starEach [e] X.env = [(false, eval e X.env)] := by rfl) :
    PI X (.Tuple elts kk tpos) (.Call (.Name "enumerate" p) [e] [] pos) (iEnumT X.K ta) := by
  refine ⟨fun pins s σ H R I h => ?_⟩
  refine Call_ (ld_blt I hg hm boot_enumerate (PyProof.Rows.callWith_type1 (thn (ha.run pos pins s σ H _ I h) fun us s1 ⟨vs, H1, I1, r1, q1⟩ => ?_) hs rfl))
  obtain ⟨a, xs, ex, hq, q⟩ := q1
  subst ex
  cases r1 with
  | cons r rr =>
    cases rr
    cases r
    obtain ⟨its, rv, p', hz⟩ := I1.tuple hq
    have hal : a < s1.heap.objs.size := let ⟨_, h, _⟩ := p'; Heap.lt_size h
    refine call_enum (items := its.toArray) p' fun h' he hit hk => wpAny_pyIter_enum he ?_
    have I2 : Inv X pins σ H1 { s1 with heap := h' } := I1.kept (t' := s1.toks) hk
    refine ⟨s1.heap.objs.size + 1, [s1.heap.objs.size + 1, s1.heap.objs.size], _, _, H1, rfl, I2, turn_enumT a (s1.heap.objs.size + 1) s1.heap.objs.size, ⟨⟨.none, he⟩, hit, Nat.succ_ne_self _, Nat.ne_of_lt hal, Nat.ne_of_gt (Nat.lt_succ_of_lt hal)⟩, fun b hb => ?_, q⟩
    have e' : b = s1.heap.objs.size + 1 ∨ b = s1.heap.objs.size := by simpa using hb
    have hle : s1.heap.objs.size ≤ b := by
      rcases e' with z | z
      · rw [z]; exact Nat.le_add_right _ _
      · rw [z]; exact Nat.le_refl _
    exact I1.fpOk hle (I1.hok.fresh hle)
theorem walk_enumT {K : PySem.W.Frag} {a : Addr} {xs : List V} : Walk (IteT K a) xs.length (fun H => SqT K H a xs) (YPair (fun i => some (.int (i : Nat))) (fun i => xs[i]?)) := by
  refine ⟨fun i _ hi q => ⟨xs, xs[i], q, by simp [hi]⟩, fun _ q => ⟨xs, q, Nat.le_refl _⟩, fun i H v H' _ q y => ?_⟩
  obtain ⟨T, x, h1, h2, h3, h4⟩ := y
  exact ⟨T, .int (i : Nat), x, h1, h2, h3, rfl, h4 xs q⟩
end EnT
end
section
set_option Elab.async false
set_option linter.all false
set_option maxRecDepth 100000
set_option maxHeartbeats 2000000
namespace Ah
open PySem PySem.Spec PyProof.Rows L2
open GxR (TabB TabG Tabbed)
/-! ### the text by places -/
def top (i : Nat) : Stmt := PySem.Challenge.pw_answerhouse_k14_steps_read.main.body.getD i (.Pass ⟨0, 0, 0, 0⟩)
abbrev sLKind : Stmt := top 2
abbrev sLOn : Stmt := top 3
abbrev sLTie : Stmt := top 4
abbrev sLBy : Stmt := top 5
abbrev sBadrowInit : Stmt := inClass (top 8) 0
abbrev sBadstepsInit : Stmt := inClass (top 11) 0
abbrev sBaddeedInit : Stmt := inClass (top 14) 0
abbrev sHaltedInit : Stmt := inClass (top 15) 0
abbrev sBadtextInit : Stmt := inClass (top 16) 0
abbrev sIsWord : Stmt := top 23
abbrev sIsRow : Stmt := top 24
abbrev sIsSaying : Stmt := top 25
abbrev sIsNumber : Stmt := top 26
abbrev sCheck : Stmt := top 27
abbrev sToldOf : Stmt := top 28
abbrev sNamesOf : Stmt := top 29
abbrev sReadSteps : Stmt := top 32
abbrev sCheckSteps : Stmt := top 33
abbrev sCanBe : Stmt := top 34
abbrev sComesBy : Stmt := top 35
abbrev lRow : Stmt := top 37
abbrev lTaken : Stmt := top 38
abbrev lOne : Stmt := top 39
abbrev lText : Stmt := top 40
abbrev lLed : Stmt := top 41
abbrev lBoth : Stmt := top 42
abbrev lAlike : Stmt := top 43
abbrev lWord : Stmt := top 44
abbrev lSaying : Stmt := top 45
abbrev lOddStep : Stmt := top 46
abbrev lNearly : Stmt := top 47
abbrev lLaw : Stmt := top 48
abbrev FnP (K : PySem.W.Frag) (x : Str) (st : Stmt) (f : Addr) (fd : FuncData) : Prop := FunD K x x (defArgs st) (defBody st) (defScope st) [] [] f fd
/-- the rule for a def whose code object is known -/
theorem okC {P : Program} {w : World} {K : PySem.W.Frag} {mg : Str → Option Value} {base : Heap} {x qual : Str} {params : Arguments} {body : List Stmt} {scope : Scope} {dvs : List V} {kws : List (Str × V)} {f c : Addr} {fd : FuncData}
    {CX : CXT} {N ps : List Str} {k : Nat} {sp : Sp} (F : FunD K x qual params body scope dvs kws f fd) (hc : fd.code = .ref c) (S : FnScope N ps scope) (len : ∀ vs H Q E, sp vs H Q E → vs.length = ps.length)
    (hbody : ∀ (A : Around) (outer : List Env) (s : Shared) (H : Hp) (vs : List V) (Q : VK) (E : XK), Room k (A.deeper (envOfC qual scope s.heap.objs.size f (.ref c))) → sp vs H Q E →
      ∃ t, PSs (cxOf CX P w K mg base N qual scope f (.ref c) A outer s H E) body t ∧ t { nx := fun _ H' => Q .non H', rt := Q } (start N vs) H) : FnOk P w K mg base CX (k + 1) f fd ps sp := by
  obtain ⟨oc, od, dV, kV, doc, pm, an, cdv, ct, osl, rfl, lk, hcd, _, _⟩ := F.ex
  have e : cdv = .ref c := hc
  subst e
  exact fn_of lk hcd S len fun A outer s H vs Q E hr hsp => hbody A outer s H vs Q E hr hsp
/-! ### words -/
def letters : Str := "abcdefghijklmnopqrstuvwxyz"
def barred : List Str := ["is", "isnt", "has", "hasnt", "to", "all", "are", "no", "each", "who", "some", "turned", "goes", "on", "comes", "from", "leads", "also"]
def isWord (z : Str) : Bool := decide (1 ≤ z.length) && decide (z.length ≤ 6) && !(barred.contains z) && z.cps.toList.all fun c => decide (c ∈ letters.cps.toList)
structure TW (K : PySem.W.Frag) (mg : Str → Option Value) : Prop where
  isi : mg "isinstance" = none
  len : mg "len" = none
  all_ : mg "all" = none
  str : mg "str" = none
  tup : mg "tuple" = none
  enu : mg "enumerate" = none
  lw : ∃ t, mg "LONGEST_WORD" = some (.int 6 t)
  let_ : ∃ t, mg "LETTERS" = some (.str letters t)
  bar : ∃ a, mg "BARRED" = some (.ref a) ∧ ∀ H, SqT K H a (barred.map V.str)
/-- the tables may have grown, all else that was held is held -/
structure Kp (T : List Addr) (H H' : Hp) : Prop where
  tab : ∀ P ∈ T, TabG H' P
  keep : ∀ b o, H b = some o → b ∉ T → H' b = some o
end Ah
end
section
set_option Elab.async false
set_option linter.all false
set_option maxRecDepth 100000
set_option maxHeartbeats 2000000
namespace Ah
open PySem PySem.Spec PyProof.Rows L2
open GxR (TabB TabG Tabbed)
open GxG
/-- what may be looked at as a word -/
def PlainV (H : Hp) (v : V) : Prop := (∃ z, v = .str z ∧ z.length ≤ sizeLine) ∨ v = .non ∨ (∃ i, v = .int i) ∨ ∃ a xs, v = .ref a ∧ (H a = some (.tup xs) ∨ H a = some (.lst xs))
theorem PlainV.kp {T : List Addr} {H H' : Hp} {v : V} (ht : ∀ P ∈ T, TabG H P) (k : Kp T H H') (h : PlainV H v) : PlainV H' v := by
  have out : ∀ {a : Addr} {o : HO}, H a = some o → (∀ ps, o ≠ .tbl ps) → H' a = some o := fun {a o} e n => k.keep a o e fun hm => by
    obtain ⟨ps, e2, _⟩ := ht a hm
    rw [e] at e2
    exact n ps (Option.some.inj e2)
  rcases h with h | h | h | ⟨a, xs, rfl, e | e⟩
  · exact .inl h
  · exact .inr (.inl h)
  · exact .inr (.inr (.inl h))
  · exact .inr (.inr (.inr ⟨a, xs, rfl, .inl (out e fun ps q => by cases q)⟩))
  · exact .inr (.inr (.inr ⟨a, xs, rfl, .inr (out e fun ps q => by cases q)⟩))
def isWordV : V → Bool
  | .str z => isWord z
  | _ => false
def spWord (T : List Addr) : Sp := fun vs H Q _ => ∃ v : V, vs = [v] ∧ PlainV H v ∧ (∀ P ∈ T, TabG H P) ∧ ∀ H', Kp T H H' → Q (.bl (isWordV v)) H'
theorem scW : FnScope ["word"] ["word"] (defScope sIsWord) := ⟨rfl, rfl, rfl, by decide +kernel, rfl, by decide +kernel, by decide +kernel⟩
theorem inV_strs (z : Str) (l : List Str) : inV (V.str z) (l.map V.str) = l.contains z := by
  unfold inV
  induction l with
  | nil => rfl
  | cons a r ih =>
    rw [List.map_cons, List.any_cons, List.contains_cons, ih]
    congr 1
    show (a == z) = (z == a)
    exact Bool.beq_comm
section
variable {P : Program} {w : World} {K : PySem.W.Frag} {mg : Str → Option Value} {base : Heap} {f c P1 : Addr} {fd : FuncData} {T : List Addr}
theorem ok_word (F : FnP K "is_word" sIsWord f fd) (hc : fd.code = .ref c) (TB : TabB base mg c P1) (hT : P1 ∈ T) (W : TW K mg) : FnOk P w K mg base CX0 3 f fd ["word"] (spWord T) := by
  refine okC F hc scW (fun vs H Q E h => ?_) (fun A outer s H vs Q E hr h => ?_)
  · obtain ⟨v, rfl, _⟩ := h
    rfl
  · obtain ⟨v, rfl, hv, ht, k⟩ := h
    obtain ⟨lwt, lw⟩ := W.lw
    obtain ⟨ltt, lt⟩ := W.let_
    obtain ⟨ba, bg, bs⟩ := W.bar
    refine ⟨_, pss_cons (ps_if (PW.pt (pw_or (pt_not (pt_val (pe_callB call_isi (by rfl) W.isi (by decide +kernel) (pa_cons (pv 0) (pa_cons (pe_bltn (v := .ty "str") (by rfl) W.str (by decide +kernel) rfl) pa_nil)))))
        (pw_or (pt_not (pt_chain op_le op_le pe_int (pe_callB call_len_str (by rfl) W.len (by decide +kernel) (pa_cons (pv 0) pa_nil)) (pe_glob (v := .int 6) (by rfl) lw ⟨_, rfl⟩)))
        (pw_or1 (pt_cmpR op_in_seq (pv 0) (pe_glob (v := .ref ba) (by rfl) bg rfl) (by rfl))))))
        (pss_one (ps_ret pe_bl)) pss_nil)
      (pss_one (ps_ret (pe_allG (k := 1) (x := "letter") (P := P1) hr (by rfl) W.all_ TB rfl ⟨rfl, rfl, by decide +kernel, by decide +kernel, by decide +kernel, by rfl⟩ (pi_str (pv 0))
        (fun A sB H code fp pn => pg_name (i := 0) (nd1 _) rfl (Or.inl rfl))
        (fun A sB H code fp pn hr' => pe_cmpR op_in_sign (pv 0) (pe_glob (v := .str letters) (by rfl) lt ⟨_, rfl⟩) (by rfl))))), ?_⟩
    rcases hv with ⟨z, rfl, hz⟩ | hn
    · have fin : ∀ b, isWordV (V.str z) = b → Q (.bl b) H := fun b e => by
        rw [← e]
        exact k H ⟨ht, fun _ _ e _ => e⟩
      refine ⟨_, rfl, _, _, _, _, true, rfl, ClsV.ty _, TyX.base (.str z), kit_ty (by decide +kernel), true, rfl, ?_⟩
      refine iteF ?_
      refine ⟨_, rfl, z, rfl, hz, 1, _, rfl, rfl, _, rfl, ?_⟩
      by_cases h1 : (1 : Int) ≤ z.length
      · rw [decide_eq_true h1]
        refine iteT ⟨_, _, rfl, rfl, _, rfl, ?_⟩
        by_cases h6 : (z.length : Int) ≤ 6
        · rw [decide_eq_true h6]
          refine iteF ⟨_, rfl, ba, _, rfl, .inr (bs H), rfl, by decide +kernel, _, rfl, ?_⟩
          show (fun b H1 => _) (inV (V.str z) (List.map V.str barred)) H
          rw [inV_strs]
          cases hb : barred.contains z with
          | true => exact iteT (fin false (by show isWord z = false; unfold isWord; rw [hb]; simp))
          | false =>
            refine iteF ⟨_, rfl, z, rfl, ht P1 hT, fun H2 tb => ?_⟩
            have kp : Kp T H H2 := ⟨fun p hp => by
              by_cases e : p = P1
              · rw [e]; exact tb.1
              · obtain ⟨ps, h2, h3⟩ := ht p hp
                exact ⟨ps, (tb.2 p e).trans h2, h3⟩, fun b o e hb => (tb.2 b fun z => hb (by rw [z]; exact hT)).trans e⟩
            have fin2 : ∀ b, z.cps.toList.all (fun c => decide (c ∈ letters.cps.toList)) = b → Q (.bl b) H2 := fun b e => by
              have q := k H2 kp
              have e2 : isWordV (V.str z) = b := by
                show isWord z = b
                unfold isWord
                rw [hb, e, decide_eq_true (show 1 ≤ z.length by omega), decide_eq_true (show z.length ≤ 6 by omega)] <;> simp
              rw [e2] at q
              exact q
            refine ga_it (walk_str (z := z)) (fun i H' => H' = H2 ∧ (z.cps.toList.take i).all (fun c => decide (c ∈ letters.cps.toList)) = true) ⟨rfl, rfl⟩ (fun _ _ _ _ => trivial) (fun i y Ha Hb hi p yy => ?_) (fun H' p => ?_)
            · obtain ⟨rfl, p⟩ := p
              obtain ⟨rfl, cc, e, rfl⟩ := yy
              have e' : z.cps.toList[i]? = some cc := by rw [Array.getElem?_toList]; exact e
              obtain ⟨a1, a2⟩ := all_take p e'
              refine ⟨_, rfl, cc, letters, rfl, rfl, _, rfl, ?_⟩
              cases hd : decide (cc ∈ letters.cps.toList) with
              | true => exact iteT ⟨rfl, a1 hd⟩
              | false => exact iteF (fin2 false (a2 hd))
            · obtain ⟨rfl, p⟩ := p
              rw [List.take_of_length_le (by simp)] at p
              exact fin2 true p
        · rw [decide_eq_false h6]
          exact iteT (fin false (by simp [isWordV, isWord]; omega))
      · rw [decide_eq_false h1]
        refine iteF ⟨_, rfl, ?_⟩
        exact iteT (fin false (by simp [isWordV, isWord]; omega))
    · rcases hn with rfl | ⟨i, rfl⟩ | ⟨a, xs, rfl, e | e⟩
      · exact ⟨_, rfl, _, _, _, _, false, rfl, ClsV.ty _, TyX.base .non, kit_ty (by decide +kernel), false, rfl, iteT (iteT (k H ⟨ht, fun _ _ e _ => e⟩))⟩
      · exact ⟨_, rfl, _, _, _, _, false, rfl, ClsV.ty _, TyX.base (.int i), kit_ty (by decide +kernel), false, rfl, iteT (iteT (k H ⟨ht, fun _ _ e _ => e⟩))⟩
      · exact ⟨_, rfl, _, _, _, _, false, rfl, ClsV.ty _, TyX.base (.tup e), kit_ty (by decide +kernel), false, rfl, iteT (iteT (k H ⟨ht, fun _ _ e _ => e⟩))⟩
      · exact ⟨_, rfl, _, _, _, _, false, rfl, ClsV.ty _, TyX.base (.lst e), kit_ty (by decide +kernel), false, rfl, iteT (iteT (k H ⟨ht, fun _ _ e _ => e⟩))⟩
end
end Ah
end
section
set_option Elab.async false
set_option linter.all false
set_option maxRecDepth 100000
set_option maxHeartbeats 2000000
namespace Ah
open PySem PySem.Spec PyProof.Rows L2
open GxR (TabB TabG Tabbed)
open GxG
/-! ### rows -/
def formsL : List (Str × List Str) := [("is", ["name", "kind"]), ("isnt", ["name", "kind"]), ("has", ["name", "tie", "name"]), ("hasnt", ["name", "tie", "name"]), ("all", ["kind", "kind"]), ("no", ["kind", "kind"]),
  ("each", ["kind", "tie", "name"]), ("who", ["tie", "kind", "kind"]), ("turned", ["tie", "tie"]), ("on", ["tie"]), ("from", ["tie", "kind"]), ("to", ["tie", "kind"]), ("under", ["tie", "tie"])]
/-- the module's dict FORMS -/
structure TF (K : PySem.W.Frag) (w : World) (mg : Str → Option Value) (d : Addr) : Prop where
  at_ : mg "FORMS" = some (.ref d)
  kd : ∃ es n, KDict K w d es n
  val : ∀ z ps, formsL.lookup z = some ps → ∃ a, PySem.W.nsIn K d z = some (some (.ref a)) ∧ ∀ H, SqT K H a (ps.map V.str)
  out : ∀ z, formsL.lookup z = none → PySem.W.nsIn K d z = some none
def isRowL : List V → Bool
  | .str h :: rest => (match formsL.lookup h with
    | some ps => decide (rest.length = ps.length) && rest.all isWordV
    | none => false)
  | _ => false
/-- what may be looked at as a row, and the answer -/
theorem tyTup {K : PySem.W.Frag} {H : Hp} {a : Addr} {xs : List V} (h : SqT K H a xs) : TyX K H (.ref a) (.type "tuple") := by
  rcases h with (e | ⟨o, e⟩) | ⟨o, its, n, h1, h2, _⟩
  · exact .base (.tup e)
  · exact .fTuple e
  · exact .kTuple h1 h2
def RowV (K : PySem.W.Frag) (H : Hp) (v : V) (b : Bool) : Prop := (((∃ z, v = .str z) ∨ v = .non ∨ (∃ i, v = .int i) ∨ ∃ a xs, v = .ref a ∧ H a = some (.lst xs)) ∧ b = false) ∨ ∃ a xs, v = .ref a ∧ SqT K H a xs ∧ xs.length ≤ 1000 ∧ (∀ x ∈ xs, PlainV H x) ∧ b = isRowL xs
def spRow (K : PySem.W.Frag) (T : List Addr) : Sp := fun vs H Q _ => ∃ (v : V) (b : Bool), vs = [v] ∧ RowV K H v b ∧ (∀ P ∈ T, TabG H P) ∧ ∀ H', Kp T H H' → Q (.bl b) H'
theorem scR : FnScope ["row"] ["row"] (defScope sIsRow) := ⟨rfl, rfl, rfl, by decide +kernel, rfl, by decide +kernel, by decide +kernel⟩
theorem cut_tail (h : V) (rest : List V) : cutV (h :: rest) (some 1) none = rest := by
  have h1 : HT.sIx (h :: rest).length 0 (some 1) = 1 := by
    rw [show (1 : Int) = ((1 : Nat) : Int) from rfl, HT.sIx_nat, List.length_cons]
    omega
  unfold cutV
  rw [h1, HT.sIx_none]
  simp
theorem Kp.trans {T : List Addr} {H H1 H2 : Hp} (a : Kp T H H1) (b : Kp T H1 H2) : Kp T H H2 := ⟨b.tab, fun p o e n => b.keep p o (a.keep p o e n) n⟩
/-- what is no table is held -/
theorem Kp.obj {T : List Addr} {H H' : Hp} {a : Addr} {o : HO} (k : Kp T H H') (ht : ∀ P ∈ T, TabG H P) (e : H a = some o) (n : ∀ ps, o ≠ .tbl ps := by intro ps q; cases q) : H' a = some o := k.keep a o e fun hm => by
  obtain ⟨ps, e2, _⟩ := ht a hm
  rw [e] at e2
  exact n ps (Option.some.inj e2)
section
variable {P : Program} {w : World} {K : PySem.W.Frag} {mg : Str → Option Value} {base : Heap} {f c P1 fW d : Addr} {fd fdW : FuncData} {T : List Addr}
theorem ok_row (F : FnP K "is_row" sIsRow f fd) (hc : fd.code = .ref c) (TB : TabB base mg c P1) (hT : P1 ∈ T) (W : TW K mg) (D : TF K w mg d) (gW : mg "is_word" = some (.ref fW)) (FW : FnOk P w K mg base CX0 3 fW fdW ["word"] (spWord T))
    (kW : PySem.W.keepIn K (.ref fW) = true) (bW : Binds K fdW ["word"] []) : FnOk P w K mg base CX0 5 f fd ["row"] (spRow K T) := by
  refine okC F hc scR (fun vs H Q E h => ?_) (fun A outer s H vs Q E hr h => ?_)
  · obtain ⟨v, b, rfl, _⟩ := h
    rfl
  · obtain ⟨v, b, rfl, hv, ht, k⟩ := h
    obtain ⟨es, nn, kd⟩ := D.kd
    refine ⟨_, pss_cons (ps_if (PW.pt (pw_or (pt_not (pt_val (pe_callB call_isi (by rfl) W.isi (by decide +kernel) (pa_cons (pv 0) (pa_cons (pe_bltn (v := .ty "tuple") (by rfl) W.tup (by decide +kernel) rfl) pa_nil)))))
        (pw_or (pt_not (pt_truth (pv 0) (by intro _; rfl)))
        (pw_or (pt_not (pt_val (pe_callB call_isi (by rfl) W.isi (by decide +kernel) (pa_cons (pe_ix ix_tup (pv 0) pe_int (fun _ _ => rfl)) (pa_cons (pe_bltn (v := .ty "str") (by rfl) W.str (by decide +kernel) rfl) pa_nil)))))
        (pw_or1 (pt_cmpR (op_notIn_kd kd) (pe_ix ix_tup (pv 0) pe_int (fun _ _ => rfl)) (pe_glob (v := .ref d) (by rfl) D.at_ rfl) (by rfl)))))))
        (pss_one (ps_ret pe_bl)) pss_nil)
      (pss_one (ps_ret (pe_and (pe_cmpR op_eq (pe_callB call_len_seq (by rfl) W.len (by decide +kernel) (pa_cons (pv 0) pa_nil)) (pe_op op_add pe_int (pe_callB call_len_seq (by rfl) W.len (by decide +kernel) (pa_cons
          (pe_ix ix_kdict (pe_glob (v := .ref d) (by rfl) D.at_ rfl) (pe_ix ix_tup (pv 0) pe_int (fun _ _ => rfl)) (fun _ _ => rfl)) pa_nil))) (nomark _))
        (pe_one (pe_allG (k := 3) (x := "word") (P := P1) hr (by rfl) W.all_ TB rfl ⟨rfl, rfl, by decide +kernel, by decide +kernel, by decide +kernel, by rfl⟩ (pi_tup (pe_slice sl_tup (pv 0) (po_some pe_int) po_none))
          (fun A sB H code fp pn => pg_name (i := 0) (nd1 _) rfl (Or.inl rfl))
          (fun A sB H code fp pn hr' => pe_call FW hr' (by rfl) gW kW bW .nil pass0 (pa_cons (pv 0) pa_nil))))))), ?_⟩
    have kp0 : Kp T H H := ⟨ht, fun _ _ e _ => e⟩
    rcases hv with ⟨hn, rfl⟩ | ⟨a, xs, rfl, hx, hl, hp, rfl⟩
    · rcases hn with ⟨z, rfl⟩ | rfl | ⟨i, rfl⟩ | ⟨a, xs, rfl, e⟩
      · exact ⟨_, rfl, _, _, _, _, false, rfl, ClsV.ty _, TyX.base (.str z), kit_ty (by decide +kernel), false, rfl, iteT (iteT (k H kp0))⟩
      · exact ⟨_, rfl, _, _, _, _, false, rfl, ClsV.ty _, TyX.base .non, kit_ty (by decide +kernel), false, rfl, iteT (iteT (k H kp0))⟩
      · exact ⟨_, rfl, _, _, _, _, false, rfl, ClsV.ty _, TyX.base (.int i), kit_ty (by decide +kernel), false, rfl, iteT (iteT (k H kp0))⟩
      · exact ⟨_, rfl, _, _, _, _, false, rfl, ClsV.ty _, TyX.base (.lst e), kit_ty (by decide +kernel), false, rfl, iteT (iteT (k H kp0))⟩
    · have sx : SqT K H a xs := hx
      refine ⟨_, rfl, _, _, _, _, true, rfl, ClsV.ty _, tyTup hx, kit_ty (by decide +kernel), true, rfl, ?_⟩
      refine iteF ⟨_, rfl, !xs.isEmpty, .inr (.inl ⟨xs, sx, rfl⟩), ?_⟩
      cases xs with
      | nil => exact iteT (iteT (k H kp0))
      | cons h rest =>
        have ph := hp h List.mem_cons_self
        refine iteF ⟨_, rfl, a, _, 0, h, rfl, rfl, sx, at_of (j := 0) rfl rfl, ?_⟩
        rcases ph with ⟨z, rfl, hz⟩ | rfl | ⟨i, rfl⟩ | ⟨a', ys, rfl, e | e⟩
        · refine ⟨_, _, _, _, true, rfl, ClsV.ty _, TyX.base (.str z), kit_ty (by decide +kernel), true, rfl, ?_⟩
          refine iteF ⟨_, rfl, a, _, 0, .str z, rfl, rfl, sx, at_of (j := 0) rfl rfl, ?_⟩
          cases hf : formsL.lookup z with
          | none =>
            refine ⟨z, _, rfl, rfl, D.out z hf, _, rfl, ?_⟩
            refine iteT ?_
            have e : isRowL (.str z :: rest) = false := by
              show (match formsL.lookup z with
                | some ps => decide (rest.length = ps.length) && rest.all isWordV
                | none => false) = false
              rw [hf]
            have q := k H kp0
            rw [e] at q
            exact q
          | some ps =>
            obtain ⟨ap, e1, e2⟩ := D.val z ps hf
            have er : isRowL (.str z :: rest) = (decide (rest.length = ps.length) && rest.all isWordV) := by
              show (match formsL.lookup z with
                | some ps => decide (rest.length = ps.length) && rest.all isWordV
                | none => false) = _
              rw [hf]
            rw [er] at k
            refine ⟨z, _, rfl, rfl, e1, _, rfl, ?_⟩
            refine iteF ?_
            refine ⟨_, rfl, a, _, rfl, .inr sx, ?_⟩
            refine ⟨_, rfl, a, _, 0, .str z, rfl, rfl, sx, at_of (j := 0) rfl rfl, d, z, .ref ap, rfl, rfl, ⟨es, nn, _, kd.at_, kd.lit, e1, rfl⟩, ap, _, rfl, .inr (e2 H), _, _, rfl, rfl, rfl, _, rfl, ?_⟩
            have ed : decide (V.int (((V.str z :: rest).length : Nat) : Int) = V.int (1 + ((ps.map V.str).length : Int))) = decide (rest.length = ps.length) := by
              rw [List.length_cons, List.length_map]
              by_cases e : rest.length = ps.length
              · rw [decide_eq_true e, e]
                exact decide_eq_true (by congr 1; omega)
              · rw [decide_eq_false e]
                refine decide_eq_false fun q => e ?_
                have := V.int.inj q
                omega
            rw [ed]
            cases hl2 : decide (rest.length = ps.length) with
            | false =>
              refine iteF ?_
              have q := k H kp0
              rw [hl2] at q
              exact q
            | true =>
              rw [hl2, Bool.true_and] at k
              refine iteT ⟨_, rfl, 1, rfl, a, _, rfl, sx, fun q => ?_, fun p np => ⟨p, rfl, ⟨rest, .inl (.of ?_)⟩, ?_, fun H2 tb => ?_⟩⟩
              · have h1 : HT.sIx (V.str z :: rest).length 0 (some 1) = 1 := by
                  rw [show (1 : Int) = ((1 : Nat) : Int) from rfl, HT.sIx_nat, List.length_cons]
                  omega
                have h2 := q.1
                rw [h1] at h2
                cases h2
              · rw [cut_tail]; exact upd_same
              · obtain ⟨qs, h2, h3⟩ := ht P1 hT
                exact ⟨qs, by rw [upd_ne (ne_of_none h2 np)]; exact h2, h3⟩
              · rw [cut_tail] at tb
                have hpP : p ≠ P1 := fun e => by
                  obtain ⟨qs, h2, h3⟩ := ht P1 hT
                  rw [e, h2] at np
                  cases np
                have kp2 : Kp T H H2 := ⟨fun q hq => by
                  by_cases e : q = P1
                  · rw [e]; exact tb.1
                  · obtain ⟨qs, h2, h3⟩ := ht q hq
                    exact ⟨qs, by rw [tb.2 q e, upd_ne (ne_of_none h2 np)]; exact h2, h3⟩, fun b o e hb => by
                    rw [tb.2 b fun z => hb (by rw [z]; exact hT), upd_ne (ne_of_none e np)]
                    exact e⟩
                have hp2 : H2 p = some (.tup rest) := by rw [tb.2 p hpP, upd_same]
                refine ga_it (walk_tup (K := K) (a := p) (xs := rest)) (fun i H' => Kp T H2 H' ∧ (rest.take i).all isWordV = true) ⟨⟨kp2.tab, fun _ _ e _ => e⟩, rfl⟩ (fun i H' _ pv => ?_) (fun i y Ha Hb hi pv yy => ?_) (fun H' pv => ?_)
                · exact .inl (.of (pv.1.obj kp2.tab hp2))
                · obtain ⟨k1, p1⟩ := pv
                  obtain ⟨rfl, ey⟩ := yy
                  obtain ⟨a1, a2⟩ := all_take p1 ey
                  have py : PlainV Hb y := (hp y (List.mem_cons_of_mem _ (List.mem_of_getElem? ey))).kp ht (kp2.trans k1)
                  refine ⟨y, rfl, y, rfl, py, k1.tab, fun H3 k3 => ⟨_, rfl, ?_⟩⟩
                  cases hw : isWordV y with
                  | true => exact iteT ⟨k1.trans k3, a1 hw⟩
                  | false =>
                    have q := k H3 (kp2.trans (k1.trans k3))
                    rw [a2 hw] at q
                    exact iteF q
                · obtain ⟨k1, p1⟩ := pv
                  rw [List.take_of_length_le (Nat.le_refl _)] at p1
                  have q := k H' (kp2.trans k1)
                  rw [p1] at q
                  exact q
        · exact ⟨_, _, _, _, false, rfl, ClsV.ty _, TyX.base .non, kit_ty (by decide +kernel), false, rfl, iteT (iteT (k H kp0))⟩
        · exact ⟨_, _, _, _, false, rfl, ClsV.ty _, TyX.base (.int i), kit_ty (by decide +kernel), false, rfl, iteT (iteT (k H kp0))⟩
        · exact ⟨_, _, _, _, false, rfl, ClsV.ty _, TyX.base (.tup e), kit_ty (by decide +kernel), false, rfl, iteT (iteT (k H kp0))⟩
        · exact ⟨_, _, _, _, false, rfl, ClsV.ty _, TyX.base (.lst e), kit_ty (by decide +kernel), false, rfl, iteT (iteT (k H kp0))⟩
end
end Ah
end
section
set_option Elab.async false
set_option linter.all false
set_option maxRecDepth 100000
set_option maxHeartbeats 2000000
namespace Ah
open PySem PySem.Spec PyProof.Rows L2
/-! ### what the head tells of a def that closes over its class -/
abbrev FnY : Type := Option (Str × Str × Arguments × FuncBody × Scope × Addr × List Str × Addr)
def fnY (K : PySem.W.Frag) (a : Addr) : FnY := match K.lookup a with
  | some ⟨_, _, .func fd, _⟩ => some (fd.name, fd.qualname, fd.params, fd.body, fd.scope, fd.globals, fd.closure.map (·.1), fd.builtins)
  | _ => none
def valY (qual : Str) (st : Stmt) : FnY := some ("__init__", qual, defArgs st, .stmts (defBody st), defScope st, mainGlobals, [("__class__" : Str)], builtinsNs)
def supB (K : PySem.W.Frag) (file : Str) (qual : Str) (fI C : Addr) : Bool := (match K.lookup fI with
    | some ⟨_, _, .func fd, _⟩ => (decide (fd.defaults = .none) && PySem.W.codeIn K fd.code qual) && ((match fd.code with
        | .ref cda => (match K.lookup cda with
          | some ⟨_, _, .fields vs, _⟩ => (match (vs : Array Value)[2]? with
            | some (Value.str f _) => file == f
            | _ => false)
          | _ => false)
        | _ => false) && (match fd.closure with
        | [(_, cc)] => (match K.lookup cc with
          | some ⟨_, _, .cell (some (.ref c)), _⟩ => decide (c = C)
          | _ => false)
        | _ => false))
    | _ => false) &&
  (decide (PySem.W.nsIn K cStatics "thirdparty.any" = some none) && (decide (PySem.W.ks_superIn K C C "__init__" = some (some (.builtin "ValueError.__init__"))) &&
    (decide (PySem.W.subIn K (.ref C) (.type "ValueError") = some true) && decide (PySem.W.mroIn K C (.ref C) = some true))))
theorem band {a b : Bool} (h : (a && b) = true) : a = true ∧ b = true := Bool.and_eq_true_iff.mp h
/-- the module's dict DEEDS, as a list -/
def deedsL : List (Str × Nat) := [("put", 3), ("drop", 2), ("tell", 3)]
end Ah
end
section
set_option Elab.async false
set_option linter.all false
set_option maxRecDepth 100000
set_option maxHeartbeats 2000000
namespace Ah
open PySem PySem.Spec PyProof.Rows L2
/-! ### the classes' facts by a Bool -/
def oexB (K : PySem.W.Frag) (C : Addr) : Bool := (match K.lookup C with
  | some ⟨.type c, _, .cls cd, sl⟩ => decide (c = "type") && ((match cd.mro with
      | .ref C' :: bm => decide (C' = C) && PySem.HandSPX.refsVE bm
      | _ => false) && (cd.hasDict && (!cd.hasDel && (match sl.toList with
      | [_, _, _, _, some (.builtin n), _] => decide (n = "ValueError.__new__")
      | _ => false))))
  | _ => false) && (decide (PySem.W.findIn K (.ref C) "__setattr__" = some (some (.builtin "object.__setattr__"))) && (decide (PySem.W.subIn K (.ref C) (.type "BaseException") = some true) && (decide (PySem.W.typeIn K (.ref C) = some (.type "type")) && PySem.W.keepIn K (.ref C))))
theorem oexB_ok {K : PySem.W.Frag} {C : Addr} (h : oexB K C = true) : OexC K C := by
  obtain ⟨h1, h2⟩ := band h
  obtain ⟨h2, h3⟩ := band h2
  obtain ⟨h3, h4⟩ := band h3
  obtain ⟨h4, h5⟩ := band h4
  refine ⟨?_, of_decide_eq_true h2, of_decide_eq_true h3, of_decide_eq_true h4, h5⟩
  cases q : K.lookup C with
  | none => rw [q] at h1; cases h1
  | some o =>
    obtain ⟨oc, od, dt, sl⟩ := o
    rw [q] at h1
    cases oc with
    | type c =>
      cases dt with
      | cls cd =>
        have h1 : (decide (c = "type") && ((match cd.mro with
          | .ref C' :: bm => decide (C' = C) && PySem.HandSPX.refsVE bm
          | _ => false) && (cd.hasDict && (!cd.hasDel && (match sl.toList with
          | [_, _, _, _, some (.builtin n), _] => decide (n = "ValueError.__new__")
          | _ => false))))) = true := h1
        obtain ⟨a1, r1⟩ := band h1
        obtain ⟨a2, r2⟩ := band r1
        obtain ⟨a3, r3⟩ := band r2
        obtain ⟨a4, a5⟩ := band r3
        clear r1 r2 r3
        have a1 : c = "type" := of_decide_eq_true a1
        subst a1
        obtain ⟨nm, bs, mro, N, qn, hd, sn, sb, ab, col, del⟩ := cd
        dsimp only at a2 a3 a4
        have a4 : del = false := by simpa using a4
        subst a3 a4
        match mro, a2 with
        | .ref C' :: bm, a2 =>
          obtain ⟨b1, b2⟩ := band a2
          have b1 : C' = C := of_decide_eq_true b1
          subst b1
          obtain ⟨sl⟩ := sl
          match sl, a5 with
          | [k0, k1, k2, k3, some (.builtin n), k5], a5 =>
            have a5 : n = "ValueError.__new__" := of_decide_eq_true a5
            subst a5
            exact ⟨nm, qn, N, bs, bm, sn, sb, ab, col, od, k0, k1, k2, k3, k5, rfl, b2⟩
      | _ => cases h1
    | _ => cases dt <;> cases h1
def xcB (K : PySem.W.Frag) (D : Addr) : Bool := decide (PySem.W.findIn K (.ref D) "__getattribute__" = some (some (.builtin "BaseException.__getattribute__"))) && (decide (PySem.W.findIn K (.ref D) "__getattr__" = some none) && (decide (PySem.W.subIn K (.ref D) (.type "BaseException") = some true) && (PySem.W.hasDictIn K D &&
  (decide (PySem.W.findIn K (.ref D) "__class__" = some (some (.builtin "object.__class__"))) && (decide (PySem.W.specialIn K (.builtin "object.__class__") "__get__" = some (some (.builtin "getset_descriptor.__get__"))) && (decide (PySem.W.takesIn K (.builtin "object.__class__") = some true) && decide (PySem.W.mroIn K D (.type "object") = some true)))))))
theorem xcB_ok {K : PySem.W.Frag} {D : Addr} (h : xcB K D = true) : ExcC K D := by
  obtain ⟨h1, h⟩ := band h
  obtain ⟨h2, h⟩ := band h
  obtain ⟨h3, h⟩ := band h
  obtain ⟨h4, h⟩ := band h
  obtain ⟨h5, h⟩ := band h
  obtain ⟨h6, h⟩ := band h
  obtain ⟨h7, h8⟩ := band h
  exact ⟨of_decide_eq_true h1, of_decide_eq_true h2, of_decide_eq_true h3, h4, of_decide_eq_true h5, of_decide_eq_true h6, of_decide_eq_true h7, of_decide_eq_true h8⟩
/-- the nine classes -/
def nine : List Str := ["BadRow", "BadSaying", "BadCount", "BadSteps", "NoRow", "NoFollow", "BadDeed", "Halted", "BadText"]
def cW (K : PySem.W.Frag) (i : Nat) : Addr := He.ga K (nine.getD i "")
def wordB (K : PySem.W.Frag) (CA : Addr) : Bool := (List.range 9).all (fun i => (List.range 9).all fun j => decide (PySem.W.kitOne K (.ref (cW K i)) (.ref (cW K j)) = some (decide (i = j)))) &&
  ((List.range 9).all (fun i => decide (PySem.W.kitOne K (.ref (cW K i)) (.type "ValueError") = some true) && (decide (PySem.W.exmOne K (.ref (cW K i)) (.ref CA) = some true) && xcB K (cW K i))) &&
  [0, 3, 6].all fun i => xfB K (cW K i) && decide (PySem.W.findIn K (.ref (cW K i)) "number" = some none))
theorem wordB_ok {K : PySem.W.Frag} {CA : Addr} (h : wordB K CA = true) : (∀ i j, i < 9 → j < 9 → PySem.W.kitOne K (.ref (cW K i)) (.ref (cW K j)) = some (decide (i = j))) ∧ (∀ i, i < 9 → PySem.W.kitOne K (.ref (cW K i)) (.type "ValueError") = some true) ∧
    (∀ i, i < 9 → PySem.W.exmOne K (.ref (cW K i)) (.ref CA) = some true) ∧ (∀ i, i < 9 → ExcC K (cW K i)) ∧ ∀ i, i = 0 ∨ i = 3 ∨ i = 6 → XfC K (cW K i) ∧ PySem.W.findIn K (.ref (cW K i)) "number" = some none := by
  obtain ⟨h1, h⟩ := band h
  obtain ⟨h2, h3⟩ := band h
  have g2 : ∀ i, i < 9 → _ := fun i hi => band (List.all_eq_true.mp h2 i (List.mem_range.mpr hi))
  refine ⟨fun i j hi hj => of_decide_eq_true (List.all_eq_true.mp (List.all_eq_true.mp h1 i (List.mem_range.mpr hi)) j (List.mem_range.mpr hj)), fun i hi => of_decide_eq_true (g2 i hi).1, fun i hi => of_decide_eq_true (band (g2 i hi).2).1, fun i hi => xcB_ok (band (g2 i hi).2).2, fun i hi => ?_⟩
  obtain ⟨a, b⟩ := band (List.all_eq_true.mp h3 i (by simp; exact hi))
  exact ⟨xfB_ok a, of_decide_eq_true b⟩
def deedsB (K : PySem.W.Frag) : Bool := deedsL.all fun q => match PySem.W.nsIn K (He.ga K "DEEDS") q.1 with
  | some (some (.int i _)) => decide (i = (q.2 : Int))
  | _ => false
theorem deedsB_ok {K : PySem.W.Frag} (h : deedsB K = true) {z : Str} {n : Nat} (m : (z, n) ∈ deedsL) : ∃ t, PySem.W.nsIn K (He.ga K "DEEDS") z = some (some (.int (n : Int) t)) := by
  have h2 : (match PySem.W.nsIn K (He.ga K "DEEDS") z with
    | some (some (.int i _)) => decide (i = (n : Int))
    | _ => false) = true := List.all_eq_true.mp h _ m
  cases q : PySem.W.nsIn K (He.ga K "DEEDS") z with
  | none => rw [q] at h2; cases h2
  | some r =>
    rw [q] at h2
    cases r with
    | none => cases h2
    | some u =>
      cases u with
      | int i t =>
        have e : i = (n : Int) := of_decide_eq_true h2
        exact ⟨t, by rw [e]⟩
      | _ => cases h2
end Ah
end
section
set_option Elab.async false
set_option linter.all false
set_option maxRecDepth 100000
set_option maxHeartbeats 2000000
/-! the head's run in two halves, so that each takes less of the kernel's memory -/
namespace Ah
open PySem PySem.W PySem.Calls PyProof.Rows HandSHeadRun
theorem map_pair {α β γ δ : Type} {x : Option α} {f : α → β} {g : α → γ} {h : α → δ} {b : β} {c : γ} {d : δ} (h1 : x.map (fun s => (f s, g s)) = some (b, c)) (h2 : x.map h = some d) : x.map (fun s => (f s, g s, h s)) = some (b, c, d) := by
  cases x with
  | none => cases h1
  | some s =>
    have e1 : (f s, g s) = (b, c) := Option.some.inj h1
    have e2 : h s = d := Option.some.inj h2
    have e3 := Prod.mk.inj e1
    show some (f s, g s, h s) = some (b, c, d)
    rw [e3.1, e3.2, e2]
/-- what the library looks at -/
def RunA (r : OpenRow) (q : Program) (M : Nat) (loose : List PySem.Str) (w : World) : Prop :=
  ∀ os : OsState, (endF (stepQ (denQ tabQ) r.prog w) M r.prog w os).map (fun s => (looksF r.prog (boot_heap w.params) s.abs, seenQ q loose (importedModules r.prog.main.body) (fun s => xlAt q [] s && recOk r.toRowW.records s) s.abs)) = some (true, openGood q loose)
/-- what our own hook looks at -/
def RunC (r : OpenRow) {α : Type} (ob : SharedT → α) (val : α) (M : Nat) (w : World) : Prop :=
  ∀ os : OsState, (endF (stepQ (denQ tabQ) r.prog w) M r.prog w os).map ob = some val
theorem run_of {r : OpenRow} {q : Program} {H : Hook} {ob : SharedT → H.α} {M : Nat} {loose : List PySem.Str} {w : World} (a : RunA r q M loose w) (c : RunC r ob (H.val w) M w) : RunEq r q H ob M loose w := fun os => map_pair (a os) (c os)
end Ah
end
section
set_option Elab.async false
set_option linter.all false
set_option maxRecDepth 100000
set_option maxHeartbeats 2000000
namespace Ah
open PySem PySem.Spec PyProof.Rows L2
/-! ### the hook that reads the objects at given places alone, and tells of defs that close over their class -/
def frZ (g : Addr → Option Obj) (as : List Addr) : PySem.W.Frag := He.frT g as
abbrev AlZ : Type := He.AlX × List FnY
def obsZ (as : List Addr) (fa : List He.Fa) (fn : List He.DefD) (ts : List He.Tab) (tf : List He.Defn) (ex : PySem.W.Frag → Bool) (sup : PySem.W.Frag → List FnY) (g : Addr → Option Obj) : AlZ :=
  ((He.obsT fa fn ts (frZ g as), ex (frZ g as) && He.tabsB g tf (frZ g as)), sup (frZ g as))
theorem saysZ_of {as : List Addr} {fa : List He.Fa} {fn : List He.DefD} {ts : List He.Tab} {tf : List He.Defn} {ex : PySem.W.Frag → Bool} {w : World} {h : Heap} (e1 : He.obsT fa fn ts (frZ h.get? as) = He.valT fn ts w) (e2 : (ex (frZ h.get? as) && He.tabsB h.get? tf (frZ h.get? as)) = true) : He.SaysX fa fn ts tf ex w h (frZ h.get? as) := by
  obtain ⟨x1, x2⟩ := band e2
  have all : ∀ q ∈ tf, PySem.W.codeHdIn (frZ h.get? as) (He.cT (frZ h.get? as) q).1 (He.cT (frZ h.get? as) q).2 = true ∧ ∃ u, h.get? (He.cT (frZ h.get? as) q).2 = some u ∧ He.emptyTab u = true := by
    intro q hq
    have y := band (List.all_eq_true.mp x2 q hq)
    refine ⟨y.1, ?_⟩
    have y2 := y.2
    cases r : h.get? (He.cT (frZ h.get? as) q).2 with
    | none => rw [r] at y2; cases y2
    | some u => rw [r] at y2; exact ⟨u, rfl, y2⟩
  refine ⟨e1, x1, fun q hq => (all q hq).1, fun q hq => ?_, fun q hq => ?_⟩
  · obtain ⟨u, r, z⟩ := (all q hq).2
    exact He.frT_none r z
  · obtain ⟨u, r, z⟩ := (all q hq).2
    rw [r, He.emptyTab_eq z]
def hookZ (as : List Addr) (fa : List He.Fa) (fn : List He.DefD) (ts : List He.Tab) (tf : List He.Defn) (ex : PySem.W.Frag → Bool) (sup : PySem.W.Frag → List FnY) (val : List FnY) : PySem.W.Hook where
  α := AlZ
  obs := fun s => obsZ as fa fn ts tf ex sup s.heap.get?
  val := fun w => (He.valX fn ts w, val)
  says := fun w h => ∃ K : PySem.W.Frag, K.In h ∧ He.SaysX fa fn ts tf ex w h K ∧ sup K = val
  of := fun _ _ e => ⟨_, He.frT_in, saysZ_of (congrArg (fun z : AlZ => z.1.1) e) (congrArg (fun z : AlZ => z.1.2) e), congrArg (fun z : AlZ => z.2) e⟩
  keeps := fun _ _ _ ⟨K, hK, c, v⟩ k => ⟨K, PySem.W.Frag.In.keeps hK k, ⟨c.t, c.more, c.hd, c.out, fun p hp => k _ _ (c.empty p hp)⟩, v⟩
theorem obsZ_eq {as : List Addr} {fa : List He.Fa} {fn : List He.DefD} {ts : List He.Tab} {tf : List He.Defn} {ex : PySem.W.Frag → Bool} {sup : PySem.W.Frag → List FnY} {val : List FnY} {g : Addr → Option Obj} {s : Shared} (h : ∀ a, g a = s.heap.get? a) : obsZ as fa fn ts tf ex sup g = (hookZ as fa fn ts tf ex sup val).obs s := by
  have e : g = s.heap.get? := funext h
  rw [e] <;> rfl
end Ah
end
section
set_option Elab.async false
set_option linter.all false
set_option maxRecDepth 100000
set_option maxHeartbeats 0
namespace Ah
open PySem PySem.Spec PyProof.Rows L2
/-! ### the head -/
def dF (x : Str) (st : Stmt) : He.DefD := ⟨(x, none), x, x, defArgs st, defBody st, defScope st, [], []⟩
def dM (c x q : Str) (st : Stmt) : He.DefD := ⟨(c, some x), x, q, defArgs st, defBody st, defScope st, [], []⟩
def fn0 : List He.DefD := [dF "leads_from_kind" sLKind, dF "leads_on" sLOn, dF "leads_from_tie" sLTie, dF "leads_by" sLBy, dF "is_word" sIsWord, dF "is_row" sIsRow, dF "is_saying" sIsSaying, dF "is_number" sIsNumber, dF "check_text" sCheck, dF "told_of" sToldOf, dF "names_of" sNamesOf, dF "read_steps" sReadSteps, dF "check_steps" sCheckSteps, dF "can_be" sCanBe, dF "comes_by" sComesBy, dF "_law_row" lRow, dF "_law_taken" lTaken, dF "_law_one" lOne, dF "_law_text" lText, dF "_law_led" lLed]
def fn1 : List He.DefD := [dF "_law_both" lBoth, dF "_law_alike" lAlike, dF "_law_word" lWord, dF "_law_saying" lSaying, dF "_law_odd_step" lOddStep, dF "_law_nearly" lNearly, dF "law" lLaw]
def fn : List He.DefD := fn0 ++ fn1
def fa0 : List He.Fa := [.glo "leads_from_kind", .glo "leads_on", .glo "leads_from_tie", .glo "leads_by", .glo "is_word", .glo "is_row", .glo "is_saying", .glo "is_number", .glo "check_text", .glo "told_of", .glo "names_of", .glo "read_steps", .glo "check_steps", .glo "can_be", .glo "comes_by", .glo "_law_row", .glo "_law_taken", .glo "_law_one", .glo "_law_text", .glo "_law_led", .glo "_law_both", .glo "_law_alike", .glo "_law_word", .glo "_law_saying", .glo "_law_odd_step"]
def fa1 : List He.Fa := [.glo "_law_nearly", .glo "law", .free "isinstance", .free "len", .free "tuple", .free "list", .free "str", .free "bool", .free "range", .free "enumerate", .free "sorted", .free "zip", .free "dict", .free "all", .free "super", .free "ValueError", .free "int", .glo "FORMS", .glo "BARRED", .glo "CLASH", .glo "AnswerError", .glo "BadRow", .glo "BadSaying", .glo "BadCount", .glo "BadSteps"]
def fa2 : List He.Fa := [.glo "NoRow", .glo "NoFollow", .glo "BadDeed", .glo "Halted", .glo "BadText", .int "LONGEST_WORD" 6, .int "MOST_ROWS" 24, .str "LETTERS" letters, .int "MOST_STEPS" 200]
def fa : List He.Fa := fa0 ++ fa1 ++ fa2
abbrev R : PySem.W.OpenRow := PySem.W.OpenLaw.row PySem.Challenge.rw_answerhouse_k14_steps_read
def ts : List He.Tab := [(fun K => He.ga K "FORMS", formsL.map (·.1))]
def tf : List He.Defn := [("is_word", none), ("is_row", none), ("can_be", none), ("law", none)]
def tupK (K : PySem.W.Frag) (a : Addr) (ws : List Str) : Bool := match K.lookup a with
  | some ⟨.type c, _, .seq its _, _⟩ => decide (c = "tuple") && (decide (its.size ≤ 1000) && He.relAll (ws.map V.str) its.toList)
  | _ => false
def formsB (K : PySem.W.Frag) : Bool := formsL.all fun q => match PySem.W.nsIn K (He.ga K "FORMS") q.1 with
  | some (some (.ref a)) => tupK K a q.2
  | _ => false
def neT (a b : Addr) : Bool := !decide (a = b)
def tabsB (K : PySem.W.Frag) : Bool := neT (He.cT K ("law", none)).2 (He.cT K ("is_word", none)).2 && (neT (He.cT K ("law", none)).2 (He.cT K ("is_row", none)).2 && neT (He.cT K ("law", none)).2 (He.cT K ("can_be", none)).2)
def bdB (K : PySem.W.Frag) : Bool := supB K PySem.Challenge.pw_answerhouse_k14_steps_read.main.file "BadSteps.__init__" (He.ma K (He.ga K "BadSteps") "__init__") (He.ga K "BadSteps") && (oexB K (He.ga K "BadSteps") && (xfB K (He.ga K "BadSteps") && (decide (PySem.W.findIn K (.ref (He.ga K "BadSteps")) "__init__" = some (some (.ref (He.ma K (He.ga K "BadSteps") "__init__")))) && (decide (PySem.W.typeIn K (.ref (He.ma K (He.ga K "BadSteps") "__init__")) = some (.type "function")) && decide (PySem.W.findIn K (.ref (He.ga K "BadSteps")) "number" = some none)))))
def exB (K : PySem.W.Frag) : Bool := formsB K && (tupK K (He.ga K "BARRED") barred && (tupK K (He.ga K "CLASH") ["clash"] && (tabsB K && (bdB K && wordB K (He.ga K "AnswerError")))))
def sup14 (K : PySem.W.Frag) : List FnY := [fnY K (He.ma K (He.ga K "BadSteps") "__init__")]
def val14 : List FnY := [valY "BadSteps.__init__" sBadstepsInit]
def asL0 : List Addr := [2, 3, 227, 234, 241, 248, 255, 260, 267, 20, 25, 32, 39, 272, 279, 284, 291, 298, 305, 312, 317, 324, 331, 336, 343, 350, 357, 362, 367, 71, 83, 95, 116, 128, 140, 161, 182, 203, 49, 207]
def asL1 : List Addr := [206, 15, 226, 233, 240, 247, 254, 259, 266, 19, 24, 31, 38, 271, 278, 283, 290, 297, 304, 311, 316, 323, 330, 335, 342, 349, 356, 361, 366, 70, 82, 94, 115, 127, 139, 160, 181, 202, 48, 208]
def asL2 : List Addr := [209, 210, 211, 212, 213, 214, 215, 216, 217, 218, 219, 220, 221, 222, 223, 224, 225, 228, 229, 230, 231, 232, 235, 236, 237, 238, 239, 242, 243, 244, 245, 246, 249, 250, 251, 252, 253, 256, 257, 258]
def asL3 : List Addr := [261, 262, 263, 264, 265, 16, 17, 18, 21, 22, 23, 26, 27, 28, 29, 30, 33, 34, 35, 36, 37, 268, 269, 270, 273, 274, 275, 276, 277, 280, 281, 282, 285, 286, 287, 288, 289, 292, 293, 294]
def asL4 : List Addr := [295, 296, 299, 300, 301, 302, 303, 306, 307, 308, 309, 310, 313, 314, 315, 318, 319, 320, 321, 322, 325, 326, 327, 328, 329, 332, 333, 334, 337, 338, 339, 340, 341, 344, 345, 346, 347, 348, 351, 352]
def asL5 : List Addr := [353, 354, 355, 358, 359, 360, 363, 364, 365, 68, 69, 81, 93, 113, 114, 126, 138, 158, 159, 179, 180, 200, 201, 47, 50, 67, 56, 112, 101, 157, 146, 178, 167, 199, 188, 62, 63, 64, 65, 66]
def asL6 : List Addr := [107, 108, 109, 110, 111, 152, 153, 154, 155, 156, 173, 174, 175, 176, 177, 194, 195, 196, 197, 198]
def asL : List Addr := asL0 ++ asL1 ++ asL2 ++ asL3 ++ asL4 ++ asL5 ++ asL6
abbrev hk : PySem.W.Hook := hookZ asL fa fn ts tf exB sup14 val14
def ob (s : PySem.W.SharedT) : AlZ := obsZ asL fa fn ts tf exB sup14 (HandSHeadRun.getT s)
theorem ob_eq (s : PySem.W.SharedT) : ob s = hk.obs s.abs := obsZ_eq (HandSHeadRun.getT_eq s)
def loose0 : List Str := ["CLASH", "leads_from_kind", "leads_on", "leads_from_tie", "leads_by", "AnswerError", "BadRow", "BadSaying", "BadCount", "BadSteps", "NoRow", "NoFollow", "BadDeed", "Halted", "BadText", "MOST_ROWS", "LONGEST_WORD", "LETTERS", "BARRED", "FORMS", "is_word", "is_row", "is_saying", "is_number", "check_text", "told_of", "names_of", "MOST_STEPS", "read_steps", "check_steps"]
def loose1 : List Str := ["can_be", "comes_by", "_law_row", "_law_taken", "_law_one", "_law_text", "_law_led", "_law_both", "_law_alike", "_law_word", "_law_saying", "_law_odd_step", "_law_nearly"]
def loose : List Str := loose0 ++ loose1
theorem runA0 (w : World) : RunA R (PySem.W.view R.prog [48]) 7000 loose (w.withFollow "special-get-raises" false) := by
  intro os
  kernel_rfl
theorem runA1 (w : World) : RunA R (PySem.W.view R.prog [48]) 7000 loose (w.withFollow "special-get-raises" true) := by
  intro os
  kernel_rfl
theorem runC0 (w : World) : RunC R ob (hk.val (w.withFollow "special-get-raises" false)) 7000 (w.withFollow "special-get-raises" false) := by
  intro os
  kernel_rfl
theorem runC1 (w : World) : RunC R ob (hk.val (w.withFollow "special-get-raises" true)) 7000 (w.withFollow "special-get-raises" true) := by
  intro os
  kernel_rfl
theorem run2 (b : Bool) (w : World) : HandSHeadRun.RunEq R (PySem.W.view R.prog [48]) hk ob 7000 loose (w.withFollow "special-get-raises" b) := by
  cases b
  · exact run_of (runA0 w) (runC0 w)
  · exact run_of (runA1 w) (runC1 w)
theorem run (w : World) : HandSHeadRun.RunEq R (PySem.W.view R.prog [48]) hk ob 7000 loose w := by
  have h := run2 (w.params.followText "special-get-raises") w
  rwa [World.withFollow_self] at h
end Ah
end
section
set_option Elab.async false
set_option linter.all false
set_option maxRecDepth 100000
set_option maxHeartbeats 4000000
namespace Ah
open PySem PySem.Spec PyProof.Rows L2
open GxR (TabB TabG Tabbed)
/-! ### what the head tells, for the defs -/
theorem tupK_ok {K : PySem.W.Frag} {a : Addr} {ws : List Str} (h : tupK K a ws = true) (H : Hp) : SqT K H a (ws.map V.str) := by
  unfold tupK at h
  cases q : K.lookup a with
  | none =>
    rw [q] at h
    cases h
  | some o =>
    obtain ⟨oc, od, dt, osl⟩ := o
    rw [q] at h
    cases oc with
    | type c =>
      cases dt with
      | seq its n =>
        obtain ⟨h1, h2⟩ := He.ba h
        obtain ⟨h3, h4⟩ := He.ba h2
        have e : c = "tuple" := of_decide_eq_true h1
        have l : its.size ≤ 1000 := of_decide_eq_true h3
        exact .inr ⟨_, its, n, q, by rw [e], rfl, Nat.le_trans l (by decide), He.relAll_ok h4⟩
      | _ => cases h
    | _ => cases dt <;> cases h
theorem out_of {K : PySem.W.Frag} {P : Params} {a : Addr} {ks : List Str} (h : He.dicW K a = some (He.keysIn P ks)) {z : Str} (hz : z ∉ ks) : PySem.W.nsIn K a z = some none := by
  unfold He.dicW at h
  cases q : K.lookup a with
  | none =>
    rw [q] at h
    cases h
  | some o =>
    obtain ⟨oc, od, dt, osl⟩ := o
    rw [q] at h
    cases oc with
    | type c =>
      cases od with
      | none =>
        cases dt with
        | dict es n =>
          have h1 : (match decide (c = "dict") && (osl.isEmpty && !(a == sysModules)) with
            | true => some (es.toList.map He.keyOf)
            | false => none) = some (He.keysIn P ks) := h
          have h2 : es.toList.map He.keyOf = He.keysIn P ks := by
            cases y : decide (c = "dict") && (osl.isEmpty && !(a == sysModules)) with
            | false =>
              rw [y] at h1
              cases h1
            | true =>
              rw [y] at h1
              exact Option.some.inj h1
          have key : ∀ e ∈ es.toList, e.key.isStr z = false ∧ e.refKey = false := by
            intro e he
            have m : He.keyOf e ∈ He.keysIn P ks := by
              rw [← h2]
              exact List.mem_map_of_mem he
            obtain ⟨k, hk, ek⟩ := List.mem_map.mp m
            unfold He.keyOf at ek
            cases qk : e.key with
            | str x t =>
              rw [qk] at ek
              have ex : k = x := (Prod.mk.inj (Option.some.inj ek)).1
              refine ⟨?_, ?_⟩
              · rw [PySem.W.isStr_of]
                unfold Value.isStrOf
                cases y : (x == z) with
                | false => simpa using y
                | true =>
                  rw [ex, beq_iff_eq.mp y] at hk
                  exact absurd hk hz
              · unfold DictEntry.refKey
                rw [qk]
            | _ =>
              rw [qk] at ek
              cases ek
          unfold PySem.W.nsIn
          rw [q]
          show (match es.toList.find? (·.key.isStr z) with | some e => some (some e.val) | none => if es.toList.any (·.refKey) then none else some none) = some none
          rw [List.find?_eq_none.mpr fun e he => by rw [(key e he).1]; decide]
          show (if es.toList.any (·.refKey) then none else some none) = some none
          rw [if_neg]
          intro y
          obtain ⟨e, he, hr⟩ := List.any_eq_true.mp y
          rw [(key e he).2] at hr
          cases hr
        | _ => cases h
      | some d => cases dt <;> cases h
    | _ => cases od <;> cases dt <;> cases h
theorem lookup_none {β : Type} {z : Str} : ∀ {l : List (Str × β)}, l.lookup z = none → z ∉ l.map (·.1)
  | [], _ => by simp
  | (k, v) :: r, h => by
    have h2 : (match z == k with | true => some v | false => r.lookup z) = none := h
    cases q : (z == k) with
    | true =>
      rw [q] at h2
      cases h2
    | false =>
      rw [q] at h2
      have ne : z ≠ k := fun e => by rw [e, beq_self_eq_true] at q; cases q
      intro m
      rcases List.mem_cons.mp (show z ∈ k :: r.map (·.1) from m) with e | e
      · exact ne e
      · exact lookup_none h2 e
theorem lookup_in {β : Type} {z : Str} {b : β} : ∀ {l : List (Str × β)}, l.lookup z = some b → (z, b) ∈ l
  | [], h => by cases h
  | (k, v) :: r, h => by
    have h2 : (match z == k with | true => some v | false => r.lookup z) = some b := h
    cases q : (z == k) with
    | true =>
      rw [q] at h2
      rw [beq_iff_eq.mp q, Option.some.inj h2]
      exact List.mem_cons_self
    | false =>
      rw [q] at h2
      exact List.mem_cons_of_mem _ (lookup_in h2)
end Ah
end
section
set_option Elab.async false
set_option linter.all false
set_option maxRecDepth 100000
set_option maxHeartbeats 2000000
namespace Ah
open PySem PySem.Spec PyProof.Rows L2
open GxR (TabB TabG Tabbed)
open GxG EnT
/-! ### texts -/
def spCheck0 (K : PySem.W.Frag) (T : List Addr) : Sp := fun vs H Q _ => ∃ (a : Addr) (rs : List V), vs = [.ref a] ∧ H a = some (.tup rs) ∧ rs.length ≤ 24 ∧ (∀ r ∈ rs, RowV K H r true) ∧ (∀ P ∈ T, TabG H P) ∧ ∀ H', Kp T H H' → Q .non H'
theorem Kp.sqT {K : PySem.W.Frag} {T : List Addr} {H H' : Hp} {a : Addr} {xs : List V} (ht : ∀ P ∈ T, TabG H P) (k : Kp T H H') (h : SqT K H a xs) : SqT K H' a xs := by
  rcases h with (h | ⟨o, h⟩) | h
  · exact .inl (.inl (k.obj ht h))
  · exact .inl (.inr ⟨o, k.obj ht h⟩)
  · exact .inr h
theorem RowV.kp {K : PySem.W.Frag} {T : List Addr} {H H' : Hp} {v : V} {b : Bool} (ht : ∀ P ∈ T, TabG H P) (k : Kp T H H') (h : RowV K H v b) : RowV K H' v b := by
  rcases h with ⟨h, e⟩ | ⟨a, xs, e, h1, h2, h3, h4⟩
  · refine .inl ⟨?_, e⟩
    rcases h with h | h | h | ⟨a, xs, e, h⟩
    · exact .inl h
    · exact .inr (.inl h)
    · exact .inr (.inr (.inl h))
    · exact .inr (.inr (.inr ⟨a, xs, e, k.obj ht h⟩))
  · exact .inr ⟨a, xs, e, Kp.sqT ht k h1, h2, fun x hx => (h3 x hx).kp ht k, h4⟩
theorem scC : FnScope ["rows", "number", "row"] ["rows"] (defScope sCheck) := ⟨rfl, rfl, rfl, by decide +kernel, rfl, by decide +kernel, by decide +kernel⟩
theorem Kp.upd {T : List Addr} {H H1 : Hp} {p : Addr} {o : HO} (k : Kp T H H1) (n : H1 p = none) : Kp T H (upd H1 p o) := ⟨fun q hq => by
    obtain ⟨ps, e, h⟩ := k.tab q hq
    exact ⟨ps, by rw [upd_ne (ne_of_none e n)]; exact e, h⟩, fun b u e hb => by
    have q := k.keep b u e hb
    rw [upd_ne (ne_of_none q n)]
    exact q⟩
section
variable {P : Program} {w : World} {K : PySem.W.Frag} {mg : Str → Option Value} {base : Heap} {f fR : Addr} {fd fdR : FuncData} {T : List Addr}
theorem ok_check (F : FnP K "check_text" sCheck f fd) (W : TW K mg) (hm : ∃ t, mg "MOST_ROWS" = some (.int 24 t)) (gR : mg "is_row" = some (.ref fR)) (FR : FnOk P w K mg base CX0 5 fR fdR ["row"] (spRow K T))
    (kR : PySem.W.keepIn K (.ref fR) = true) (bR : Binds K fdR ["row"] []) : FnOk P w K mg base CX0 6 f fd ["rows"] (spCheck0 K T) := by
  refine F.ok scC (fun vs H Q E h => ?_) (fun cdv A outer s H vs Q E hr h => ?_)
  · obtain ⟨a, rs, rfl, _⟩ := h
    rfl
  · obtain ⟨a, rs, rfl, ha, hl, hrs, ht, k⟩ := h
    obtain ⟨mt, hm⟩ := hm
    have sa : SqT K H a rs := .inl (.of ha)
    refine ⟨_, PSs.nox (pss_cons (ps_if (pt_not (pt_val (pe_callB call_isi (by rfl) W.isi (by decide +kernel) (pa_cons (pv 0) (pa_cons (pe_bltn (v := .ty "tuple") (by rfl) W.tup (by decide +kernel) rfl) pa_nil))))) (pss_one ps_never) pss_nil)
      (pss_one (ps_for PassesOwn.never rfl (pi_enumT (by rfl) W.enu (pa_cons (pv 0) pa_nil)) (pg_tup rfl (pgs_cons (pg_name (i := 1) scC.nd rfl (.inl rfl)) (pgs_cons (pg_name (i := 2) scC.nd rfl (.inl rfl)) pgs_nil)))
        (pss_one (ps_if (PW.pt (pw_or (pt_cmpR op_eq (pv 1) (pe_glob (v := .int 24) (by rfl) hm ⟨_, rfl⟩) (nomark _)) (pw_or1 (pt_not (pt_val (pe_call FR hr (by rfl) gR kR bR .nil pass0 (pa_cons (pv 2) pa_nil))))))) (pss_one ps_never) pss_nil))))), ?_⟩
    refine ⟨_, rfl, _, _, _, _, true, rfl, ClsV.ty _, TyX.base (.tup ha), kit_ty (by decide +kernel), true, rfl, ?_⟩
    refine iteF ?_
    refine ⟨_, rfl, a, rs, rfl, sa, for_it (walk_enumT (K := K) (a := a) (xs := rs)) (fun i σ H' => (∃ v1 v2, σ = [some (.ref a), v1, v2]) ∧ Kp T H H') ⟨⟨_, _, rfl⟩, ht, fun _ _ e _ => e⟩ (fun i σ H' _ pv => .inl (.of (pv.2.obj ht ha))) ?_ ?_⟩
    · rintro i x σ Ha Hb hi ⟨⟨v1, v2, rfl⟩, kp⟩ ⟨Tp, x1, x2, rfl, nT, rfl, e1, e2⟩
      cases e1
      have kp1 : Kp T H (L2.upd Ha Tp (.tup [.int (i : Nat), x2])) := kp.upd nT
      refine ⟨Tp, _, rfl, .inl (.of upd_same), rfl, ?_⟩
      refine ⟨_, _, rfl, _, _, rfl, rfl, ?_⟩
      refine ⟨_, rfl, rfl, _, rfl, ?_⟩
      have hi24 : ¬ V.int ((i : Nat) : Int) = V.int 24 := fun e => by
        have := V.int.inj e
        omega
      rw [decide_eq_false hi24]
      refine iteF ⟨_, rfl, ?_⟩
      refine ⟨_, true, rfl, (hrs x2 (List.mem_of_getElem? e2)).kp ht kp1, kp1.tab, fun H2 k2 => ⟨_, rfl, iteF ⟨⟨_, _, rfl⟩, kp1.trans k2⟩⟩⟩
    · rintro σ H' ⟨_, kp⟩
      exact k H' kp
end
end Ah
end
section
set_option Elab.async false
set_option linter.all false
set_option maxRecDepth 100000
set_option maxHeartbeats 2000000
namespace Ah
open PySem PySem.Spec PyProof.Rows L2
/-! ### the law's draws -/
theorem scLR : FnScope ["_law_script", "_law_mixed", "_law_cell"] ["_law_script"] (defScope lRow) := ⟨rfl, rfl, rfl, by decide +kernel, rfl, by decide +kernel, by decide +kernel⟩
theorem scLT : FnScope ["_law_row_here", "_law_many", "_law_found", "_law_cell"] ["_law_row_here", "_law_many"] (defScope lTaken) := ⟨rfl, rfl, rfl, by decide +kernel, rfl, by decide +kernel, by decide +kernel⟩
def spLRow (K : PySem.W.Frag) : Sp := fun vs H Q _ => ∃ (a : Addr) (ns : List Int), vs = [.ref a] ∧ SqL K H a (ns.map V.int) ∧ ns.length ≤ 63 ∧ ∀ (p : Addr) (m : Int), H p = none → Q (.ref p) (upd H p (.lst [.ref a, .int 0, .int 0, .int m]))
/-- the draws' state: the script, the place, what is left, the mixed number -/
def StAt (K : PySem.W.Frag) (H : Hp) (p a : Addr) (ns : List Int) : Prop := ∃ i r m : Int, H p = some (.lst [.ref a, .int i, .int r, .int m]) ∧ 0 ≤ i ∧ 0 ≤ r ∧ SqL K H a (ns.map V.int)
/-- all that was held is held, but at M -/
def Kept (M : List Addr) (H H' : Hp) : Prop := ∀ b o, H b = some o → b ∉ M → H' b = some o
def spTaken (K : PySem.W.Frag) : Sp := fun vs H Q _ => ∃ (p a : Addr) (ns : List Int) (many : Int), vs = [.ref p, .int many] ∧ StAt K H p a ns ∧ 0 < many ∧ many < 1000000 ∧
  ∀ (n : Int) (H' : Hp), 0 ≤ n → n < many → StAt K H' p a ns → Kept [p] H H' → Q (.int n) H'
theorem seqL_upd {K : PySem.W.Frag} {H : Hp} {a p : Addr} {o : HO} {xs ys : List V} (hp : H p = some (.lst ys)) (h : SqL K H a xs) (n : ys ≠ xs) : SqL K (upd H p o) a xs := by
  rcases h with (h | ⟨ob, h⟩) | h
  · exact .inl (.inl (by rw [upd_ne (fun e => n (by rw [e, hp] at h; cases h; rfl))]; exact h))
  · exact .inl (.inr ⟨ob, by rw [upd_ne (fun e => by rw [e, hp] at h; cases h)]; exact h⟩)
  · exact .inr h
section
variable {P : Program} {w : World} {K : PySem.W.Frag} {mg : Str → Option Value} {base : Heap} {f : Addr} {fd : FuncData}
theorem ok_lrow (F : FnP K "_law_row" lRow f fd) : FnOk P w K mg base CX0 1 f fd ["_law_script"] (spLRow K) := by
  refine F.ok scLR (fun vs H Q E h => ?_) (fun cdv A outer s H vs Q E hr h => ?_)
  · obtain ⟨a, ns, rfl, _⟩ := h
    rfl
  · obtain ⟨a, ns, rfl, hs, hl, k⟩ := h
    refine ⟨_, PSs.nox (pss_cons (ps_set (i := 1) scLR.nd rfl (.inl rfl) pe_int) (pss_cons (ps_for PassesOwn.never rfl (pi_list (pv 0)) (pg_name (i := 2) scLR.nd rfl (.inl rfl))
        (pss_one (ps_set (i := 1) scLR.nd rfl (.inl rfl) (pe_op op_mod (pe_op op_add (pe_op op_add (pe_op op_mul (pv 1) pe_int) (pv 2)) pe_int) pe_int))))
      (pss_one (ps_ret (pe_lst (pa_cons (pv 0) (pa_cons pe_int (pa_cons pe_int (pa_cons (pv 1) pa_nil))))))))), ?_⟩
    refine ⟨_, rfl, a, rfl, ⟨_, hs⟩, for_list (K := K) (a := a) (xs := ns.map V.int) (fun i σ H' => (∃ (m : Int) (v : Option V), σ = [some (.ref a), some (.int m), v]) ∧ H' = H) ⟨⟨7, none, rfl⟩, rfl⟩ (fun i σ H' _ pv => by rw [pv.2]; exact hs) ?_ ?_⟩
    · rintro i x σ Ha hi ⟨⟨m, v, rfl⟩, rfl⟩
      obtain ⟨c, rfl⟩ : ∃ c, x = V.int c := by
        obtain ⟨c, _, e⟩ := List.mem_map.mp (List.mem_of_getElem? hi)
        exact ⟨c, e.symm⟩
      exact ⟨_, rfl, _, _, rfl, rfl, .inr ⟨by decide, by decide⟩, _, rfl, _, _, rfl, rfl, _, _, rfl, rfl, _, _, rfl, rfl, (by decide : (0 : Int) < 2147483647), ⟨_, _, rfl⟩, rfl⟩
    · rintro σ Ha ⟨⟨m, v, rfl⟩, rfl⟩
      exact ⟨_, rfl, _, rfl, (by show 4 ≤ sizeLine; decide), fun p np => k p m np⟩
theorem ok_ltaken (F : FnP K "_law_taken" lTaken f fd) (hlen : mg "len" = none) : FnOk P w K mg base CX0 1 f fd ["_law_row_here", "_law_many"] (spTaken K) := by
  refine F.ok scLT (fun vs H Q E h => ?_) (fun cdv A outer s H vs Q E hr h => ?_)
  · obtain ⟨p, a, ns, many, rfl, _⟩ := h
    rfl
  · obtain ⟨p, a, ns, many, rfl, ⟨i, r, m, hp, hi, hr0, hs⟩, hm, hm2, k⟩ := h
    have ne : ∀ z1 z2 z3 : Int, ([.ref a, .int z1, .int z2, .int z3] : List V) ≠ ns.map V.int := fun z1 z2 z3 e => by
      cases ns with
      | nil => cases e
      | cons q qs => cases e
    have k : ∀ (n i r m : Int), 0 ≤ n → n < many → 0 ≤ i → 0 ≤ r → Q (.int n) (upd H p (.lst [.ref a, .int i, .int r, .int m])) := fun n i' r' m' h1 h2 h3 h4 =>
      k n _ h1 h2 ⟨i', r', m', upd_same, h3, h4, seqL_upd hp hs (ne _ _ _)⟩ fun b o e hb => by rw [upd_ne (fun z => hb (by simp [z]))]; exact e
    have sp : SqL K H p [.ref a, .int i, .int r, .int m] := .inl (.of hp)
    have cd : CDiv 5 many := ⟨hm, by omega⟩
    have a0 : ∀ {xs : List V} {j : Nat} {v : V} {z : Int}, z = (j : Int) → xs[j]? = some v → atI xs z = some v := fun h1 h2 => at_of h1 h2
    refine ⟨_, PSs.nox (pss_cons (ps_if (pt_cmpR op_gt (pe_ix ix_list (pv 0) pe_int (fun _ _ => rfl)) pe_int (nomark _))
        (pss_cons (ps_set (i := 2) scLT.nd rfl (.inl rfl) (pe_op op_mod (pe_ix ix_list (pv 0) pe_int (fun _ _ => rfl)) (pv 1)))
        (pss_cons (ps_asg (pe_op op_fdiv (pe_ix ix_list (pv 0) pe_int (fun _ _ => rfl)) (pv 1)) (pg_sub (pv 0) pe_int set_list))
        (pss_one (ps_ret (pv 2))))) pss_nil)
      (pss_cons (ps_if (pt_cmpR op_lt (pe_ix ix_list (pv 0) pe_int (fun _ _ => rfl)) (pe_callB call_len_seq (by rfl) hlen PySem.boot_len (pa_cons (pe_ix ix_list (pv 0) pe_int (fun _ _ => rfl)) pa_nil)) (nomark _))
        (pss_cons (ps_set (i := 3) scLT.nd rfl (.inl rfl) (pe_ix ix_list (pe_ix ix_list (pv 0) pe_int (fun _ _ => rfl)) (pe_ix ix_list (pv 0) pe_int (fun _ _ => rfl)) (fun _ _ => rfl)))
        (pss_cons (ps_asg (pe_op op_add (pe_ix ix_list (pv 0) pe_int (fun _ _ => rfl)) pe_int) (pg_sub (pv 0) pe_int set_list))
        (pss_cons (ps_if (pt_cmpR op_ge (pv 3) (pe_op op_pow pe_int pe_int) (nomark _)) (pss_one (ps_asg (pe_op op_fdiv (pv 3) (pv 1)) (pg_sub (pv 0) pe_int set_list))) pss_nil)
        (pss_one (ps_ret (pe_op op_mod (pv 3) (pv 1))))))) pss_nil)
      (pss_cons (ps_asg (pe_op op_mod (pe_op op_add (pe_op op_mul (pe_ix ix_list (pv 0) pe_int (fun _ _ => rfl)) pe_int) pe_int) pe_int) (pg_sub (pv 0) pe_int set_list))
      (pss_one (ps_ret (pe_op op_mod (pe_op op_fdiv (pe_ix ix_list (pv 0) pe_int (fun _ _ => rfl)) pe_int) (pv 1))))))), ?_⟩
    refine ⟨_, rfl, p, _, 2, _, rfl, rfl, sp, a0 (j := 2) rfl rfl, _, _, rfl, rfl, _, rfl, ?_⟩
    by_cases h2 : 0 < r
    · rw [decide_eq_true h2]
      refine iteT ⟨_, rfl, p, _, 2, _, rfl, rfl, sp, a0 (j := 2) rfl rfl, _, rfl, _, _, rfl, rfl, hm, ?_⟩
      refine ⟨_, rfl, p, _, 2, _, rfl, rfl, sp, a0 (j := 2) rfl rfl, _, rfl, _, _, rfl, rfl, ⟨hm, by omega⟩, ?_⟩
      refine ⟨_, rfl, p, _, 2, 2, rfl, rfl, hp, rfl, ?_⟩
      refine ⟨_, rfl, ?_⟩
      exact k (r % many) i (r / many) m (Int.emod_nonneg _ (by omega)) (Int.emod_lt_of_pos _ hm) hi (Int.ediv_nonneg hr0 (by omega))
    · rw [decide_eq_false h2]
      refine iteF ?_
      refine ⟨_, rfl, p, _, 1, _, rfl, rfl, sp, a0 (j := 1) rfl rfl, _, rfl, p, _, 0, _, rfl, rfl, sp, a0 (j := 0) rfl rfl, a, _, rfl, .inl hs, _, _, rfl, rfl, _, rfl, ?_⟩
      rw [List.length_map]
      by_cases h3 : i < (ns.length : Int)
      · rw [decide_eq_true h3]
        obtain ⟨j, rfl⟩ : ∃ j : Nat, i = (j : Int) := ⟨i.toNat, by omega⟩
        have hj : j < ns.length := by omega
        have ej : (ns.map V.int)[j]? = some (.int ns[j]) := by rw [List.getElem?_map, List.getElem?_eq_getElem hj]; rfl
        have up1 : upd H p (.lst [.ref a, .int ((j : Int) + 1), .int r, .int m]) p = some (.lst [.ref a, .int ((j : Int) + 1), .int r, .int m]) := upd_same
        refine iteT ⟨_, rfl, p, _, 0, _, rfl, rfl, sp, a0 (j := 0) rfl rfl, _, rfl, p, _, 1, _, rfl, rfl, sp, a0 (j := 1) rfl rfl, a, _, _, _, rfl, rfl, hs, a0 rfl ej, ?_⟩
        refine ⟨_, rfl, p, _, 1, _, rfl, rfl, sp, a0 (j := 1) rfl rfl, _, _, rfl, rfl, ?_⟩
        refine ⟨_, rfl, p, _, 1, 1, rfl, rfl, hp, rfl, ?_⟩
        refine ⟨_, rfl, _, _, rfl, rfl, ⟨by decide, by decide, by decide⟩, _, _, rfl, rfl, _, rfl, ?_⟩
        have md : 0 ≤ ns[j] % many ∧ ns[j] % many < many := ⟨Int.emod_nonneg _ (by omega), Int.emod_lt_of_pos _ hm⟩
        refine ite2 (fun hb => ?_) (fun _ => ?_)
        · refine ⟨_, rfl, _, rfl, _, _, rfl, rfl, ⟨hm, by omega⟩, ?_⟩
          refine ⟨_, rfl, p, _, 2, 2, rfl, rfl, up1, rfl, ?_⟩
          refine ⟨_, rfl, _, rfl, _, _, rfl, rfl, hm, ?_⟩
          have q := k (ns[j] % many) ((j : Int) + 1) (ns[j] / many) m md.1 md.2 (by omega) (Int.ediv_nonneg (by
            have hb' := of_decide_eq_true hb
            have : (0 : Int) ≤ 10 ^ (18 : Int).toNat := by decide
            omega) (by omega))
          rw [upd_upd]
          exact q
        · refine ⟨_, rfl, _, rfl, _, _, rfl, rfl, hm, ?_⟩
          exact k _ ((j : Int) + 1) r m md.1 md.2 (by omega) hr0
      · rw [decide_eq_false h3]
        refine iteF ?_
        refine ⟨_, rfl, p, _, 3, _, rfl, rfl, sp, a0 (j := 3) rfl rfl, _, _, rfl, rfl, .inr ⟨by decide, by decide⟩, _, _, rfl, rfl, _, _, rfl, rfl, (by decide : (0 : Int) < 2147483647), ?_⟩
        refine ⟨_, rfl, p, _, 3, 3, rfl, rfl, hp, rfl, ?_⟩
        refine ⟨_, rfl, p, _, 3, _, rfl, rfl, .inl (.of upd_same), a0 (j := 3) rfl rfl, _, _, rfl, rfl, ⟨by decide, by decide⟩, _, rfl, _, _, rfl, rfl, hm, ?_⟩
        exact k _ i r _ (Int.emod_nonneg _ (by omega)) (Int.emod_lt_of_pos _ hm) hi hr0
end
end Ah
end
section
set_option Elab.async false
set_option linter.all false
set_option maxRecDepth 100000
set_option maxHeartbeats 2000000
namespace Ah
open PySem PySem.Spec PyProof.Rows L2
/-! ### rows and sayings as data -/
inductive Rw where
  | is (n k : Str) | isnt (n k : Str) | has (n t m : Str) | hasnt (n t m : Str) | all (k l : Str) | no (k l : Str) | each (k t m : Str) | who (t k l : Str) | turned (t s : Str) | on (t : Str) | fr (t k : Str) | to (t k : Str) | under (t s : Str)
  deriving DecidableEq
def Rw.ws : Rw → List Str
  | .is n k => ["is", n, k] | .isnt n k => ["isnt", n, k] | .has n t m => ["has", n, t, m] | .hasnt n t m => ["hasnt", n, t, m] | .all k l => ["all", k, l] | .no k l => ["no", k, l]
  | .each k t m => ["each", k, t, m] | .who t k l => ["who", t, k, l] | .turned t s => ["turned", t, s] | .on t => ["on", t] | .fr t k => ["from", t, k] | .to t k => ["to", t, k] | .under t s => ["under", t, s]
def namesL : List Str := ["ann", "ben", "cy"]
def kindsL : List Str := ["cat", "dog", "owl"]
def tiesL : List Str := ["likes", "owns"]
/-- a row of the law's few words -/
def Rw.few : Rw → Prop
  | .is n k => n ∈ namesL ∧ k ∈ kindsL | .isnt n k => n ∈ namesL ∧ k ∈ kindsL | .has n t m => n ∈ namesL ∧ t ∈ tiesL ∧ m ∈ namesL | .hasnt n t m => n ∈ namesL ∧ t ∈ tiesL ∧ m ∈ namesL
  | .all k l => k ∈ kindsL ∧ l ∈ kindsL | .no k l => k ∈ kindsL ∧ l ∈ kindsL | .each k t m => k ∈ kindsL ∧ t ∈ tiesL ∧ m ∈ namesL | .who t k l => t ∈ tiesL ∧ k ∈ kindsL ∧ l ∈ kindsL
  | .turned t s => t ∈ tiesL ∧ s ∈ tiesL | .on t => t ∈ tiesL | .fr t k => t ∈ tiesL ∧ k ∈ kindsL | .to t k => t ∈ tiesL ∧ k ∈ kindsL | .under t s => t ∈ tiesL ∧ s ∈ tiesL
theorem Kept.refl {M : List Addr} (H : Hp) : Kept M H H := fun _ _ e _ => e
theorem Kept.trans {M : List Addr} {H H1 H2 : Hp} (a : Kept M H H1) (b : Kept M H1 H2) : Kept M H H2 := fun p o e n => b p o (a p o e n) n
theorem Kept.mono {M M' : List Addr} {H H1 : Hp} (a : Kept M H H1) (h : ∀ b ∈ M, b ∈ M') : Kept M' H H1 := fun p o e n => a p o e fun z => n (h p z)
theorem Kept.upd {M : List Addr} {H H1 : Hp} {p : Addr} {o : HO} (a : Kept M H H1) (n : H1 p = none) : Kept M H (upd H1 p o) := fun b u e hb => by
  have q := a b u e hb
  rw [upd_ne (ne_of_none q n)]
  exact q
/-- what stands at an address not in M: it is another than M's -/
theorem notin1 {H : Hp} {a p : Addr} {o u : HO} (h : H a = some o) (hp : H p = some u) (d : o ≠ u) : a ∉ [p] := fun z => by
  rw [List.mem_singleton.mp z, hp] at h
  exact d (Option.some.inj h).symm
theorem StAt.ob {K : PySem.W.Frag} {H : Hp} {p a : Addr} {ns : List Int} (S : StAt K H p a ns) : ∃ xs, H p = some (.lst xs) := let ⟨_, _, _, h, _⟩ := S; ⟨_, h⟩
theorem StAt.upd {K : PySem.W.Frag} {H : Hp} {p a q : Addr} {ns : List Int} {o : HO} (S : StAt K H p a ns) (n : H q = none) : StAt K (upd H q o) p a ns := by
  obtain ⟨i, r, m, h, h1, h2, h3⟩ := S
  refine ⟨i, r, m, by rw [upd_ne (ne_of_none h n)]; exact h, h1, h2, ?_⟩
  rcases h3 with (h3 | ⟨ob, h3⟩) | h3
  · exact .inl (.inl (by rw [upd_ne (ne_of_none h3 n)]; exact h3))
  · exact .inl (.inr ⟨ob, by rw [upd_ne (ne_of_none h3 n)]; exact h3⟩)
  · exact .inr h3
/-! ### displays -/
/-- arguments that are evaluated without a change: their values -/
def ValA (t : TA) (σ : L2.St) (vs : List V) : Prop := ∀ H (Q : List V → Hp → Prop), Q vs H → t σ H Q
theorem valA_nil {σ : L2.St} : ValA tNil σ [] := fun _ _ h => h
theorem valA_str {σ : L2.St} {t : TA} {z : Str} {vs : List V} (h : ValA t σ vs) : ValA (tCons (tC (.str z)) t) σ (.str z :: vs) := fun H Q q => h H _ q
theorem valA_var {σ : L2.St} {t : TA} {i : Nat} {v : V} {vs : List V} (e : σ[i]? = some (some v)) (h : ValA t σ vs) : ValA (tCons (tVar i) t) σ (v :: vs) := fun H Q q => ⟨v, e, h H _ q⟩
/-- arguments that are new tuples -/
def MkA (t : TA) (σ : L2.St) (xss : List (List V)) : Prop := ∀ H (Q : List V → Hp → Prop), (∀ (ps : List Addr) H', Kept [] H H' → Paired (fun p xs => H' p = some (.tup xs)) ps xss → Q (ps.map V.ref) H') → t σ H Q
theorem mkA_nil {σ : L2.St} : MkA tNil σ [] := fun H Q h => h [] H (Kept.refl H) .nil
theorem mkA_cons {σ : L2.St} {s t : TA} {xs : List V} {xss : List (List V)} (hs : ValA s σ xs) (h : MkA t σ xss) (hl : xs.length ≤ 100 := by exact Nat.le_of_ble_eq_true rfl) : MkA (tCons (tTup s) t) σ (xs :: xss) := fun H Q q =>
  hs H _ ⟨Nat.le_trans hl (by decide), fun p np => h _ _ fun ps H' k r => q (p :: ps) H' (fun b o e hb => k b o (by rw [upd_ne (ne_of_none e np)]; exact e) hb) (.cons (k p _ upd_same (by simp)) r)⟩
/-- [..][_law_taken(row, m)]: one of them -/
theorem rd_pick {K : PySem.W.Frag} {σ : L2.St} {H : Hp} {Q : VK} {tl : TA} {l : List Str} {m : Int} {p a : Addr} {ns : List Int} {E : XK} (hl : ValA tl σ (l.map V.str)) (hm : m = (l.length : Int)) (h0 : 0 < l.length) (h1 : l.length ≤ 100)
    (hσ : σ[0]? = some (some (.ref p))) (S : StAt K H p a ns) (h : ∀ z ∈ l, ∀ H', StAt K H' p a ns → Kept [p] H H' → Q (.str z) H') :
    tOp (rIxL K) (tLst tl) (tCall (spTaken K) [] E (tCons (tVar 0) (tCons (tC (.int m)) tNil))) σ H Q := by
  refine hl H _ ⟨by rw [List.length_map]; exact Nat.le_trans h1 (by decide), fun q nq => ?_⟩
  refine ⟨_, hσ, p, a, ns, m, rfl, S.upd nq, by omega, by omega, fun n H' hn0 hn1 S' k => ?_⟩
  obtain ⟨j, rfl⟩ : ∃ j : Nat, n = (j : Int) := ⟨n.toNat, by omega⟩
  have hj : j < l.length := by omega
  obtain ⟨xs, hp⟩ := S.ob
  have hq : q ∉ [p] := fun z => by
    rw [List.mem_singleton.mp z, hp] at nq
    cases nq
  refine ⟨q, l.map V.str, (j : Int), .str l[j], rfl, rfl, .inl (.of (k q _ upd_same hq)), at_of (j := j) rfl (by rw [List.getElem?_map, List.getElem?_eq_getElem hj]; rfl), ?_⟩
  exact h _ (List.getElem_mem hj) H' S' fun b o e hb => k b o (by rw [upd_ne (ne_of_none e nq)]; exact e) hb
theorem mkL {t : TA} {σ : L2.St} {xss : List (List V)} {H : Hp} {Q : VK} (h : MkA t σ xss) (hl : xss.length ≤ 100) (k : ∀ (ps : List Addr) (l : Addr) H', Kept [] H H' → Paired (fun p xs => H' p = some (.tup xs)) ps xss → H' l = some (.lst (ps.map V.ref)) → Q (.ref l) H') : tLst t σ H Q :=
  h H _ fun ps H' k1 r => ⟨by rw [List.length_map, r.length]; exact Nat.le_trans hl (by decide), fun l nl => k ps l _ (k1.upd nl) (Paired.mapP r fun p xs e => by rw [upd_ne (ne_of_none e nl)]; exact e) upd_same⟩
/-- statement by statement -/
theorem seq_set {te : TE} {i : Nat} {rest : TS} {D : Ends} {σ : L2.St} {H : Hp} (h : te σ H fun x H1 => rest D (σ.set i (some x)) H1) : tSeq (tAsg te (gName i)) rest D σ H := h
theorem ret_of {te : TE} {D : Ends} {σ : L2.St} {H : Hp} (h : te σ H D.rt) : tRet te D σ H := h
theorem op_of {r : R2} {ta tb : TE} {σ : L2.St} {H : Hp} {Q : VK} (h : ta σ H fun x H1 => tb σ H1 fun y H2 => r x y H2 Q) : tOp r ta tb σ H Q := h
theorem paired_app {α β : Type} {F : α → β → Prop} : ∀ {l₁ m₁ : List α} {l₂ m₂ : List β}, Paired F l₁ l₂ → Paired F m₁ m₂ → Paired F (l₁ ++ m₁) (l₂ ++ m₂)
  | _, _, _, _, .nil, h => h
  | _, _, _, _, .cons r t, h => .cons r (paired_app t h)
theorem paired_at {α β : Type} {F : α → β → Prop} : ∀ {l₁ : List α} {l₂ : List β} {i : Nat} {a : α}, Paired F l₁ l₂ → l₁[i]? = some a → ∃ b, l₂[i]? = some b ∧ F a b
  | _, _, _, _, .nil, h => by simp at h
  | _, _, 0, _, .cons r t, h => by
    simp at h
    subst h
    exact ⟨_, rfl, r⟩
  | _, _, i + 1, _, .cons r t, h => by
    obtain ⟨b, e, f⟩ := paired_at (i := i) t (by simpa using h)
    exact ⟨b, by simpa using e, f⟩
theorem StAt.kept {K : PySem.W.Frag} {H H' : Hp} {p a : Addr} {ns : List Int} (S : StAt K H p a ns) (k : Kept [] H H') : StAt K H' p a ns := by
  obtain ⟨i, r, m, h, h1, h2, h3⟩ := S
  refine ⟨i, r, m, k _ _ h (by simp), h1, h2, ?_⟩
  rcases h3 with (h3 | ⟨ob, h3⟩) | h3
  · exact .inl (.inl (k _ _ h3 (by simp)))
  · exact .inl (.inr ⟨ob, k _ _ h3 (by simp)⟩)
  · exact .inr h3
theorem few16 {n m c d t u : Str} (hn : n ∈ namesL) (hm : m ∈ namesL) (hc : c ∈ kindsL) (hd : d ∈ kindsL) (ht : t ∈ tiesL) (hu : u ∈ tiesL) :
    ∀ xs ∈ ([[.str "is", .str n, .str c], [.str "is", .str n, .str c], [.str "has", .str n, .str t, .str m], [.str "has", .str n, .str t, .str m], [.str "has", .str n, .str t, .str m], [.str "all", .str c, .str d]] ++
      [[.str "isnt", .str n, .str c], [.str "hasnt", .str n, .str t, .str m], [.str "no", .str c, .str d], [.str "each", .str c, .str t, .str m], [.str "who", .str t, .str c, .str d]] ++
      [[.str "turned", .str t, .str u], [.str "on", .str t], [.str "from", .str t, .str c], [.str "to", .str t, .str c], [.str "under", .str t, .str u]] : List (List V)), ∃ r : Rw, r.few ∧ xs = r.ws.map V.str := by
  intro xs hx
  simp only [List.mem_append, List.mem_cons, List.not_mem_nil, or_false] at hx
  rcases hx with ((e | e | e | e | e | e) | (e | e | e | e | e)) | (e | e | e | e | e)
  · exact ⟨.is n c, ⟨hn, hc⟩, e⟩
  · exact ⟨.is n c, ⟨hn, hc⟩, e⟩
  · exact ⟨.has n t m, ⟨hn, ht, hm⟩, e⟩
  · exact ⟨.has n t m, ⟨hn, ht, hm⟩, e⟩
  · exact ⟨.has n t m, ⟨hn, ht, hm⟩, e⟩
  · exact ⟨.all c d, ⟨hc, hd⟩, e⟩
  · exact ⟨.isnt n c, ⟨hn, hc⟩, e⟩
  · exact ⟨.hasnt n t m, ⟨hn, ht, hm⟩, e⟩
  · exact ⟨.no c d, ⟨hc, hd⟩, e⟩
  · exact ⟨.each c t m, ⟨hc, ht, hm⟩, e⟩
  · exact ⟨.who t c d, ⟨ht, hc, hd⟩, e⟩
  · exact ⟨.turned t u, ⟨ht, hu⟩, e⟩
  · exact ⟨.on t, ht, e⟩
  · exact ⟨.fr t c, ⟨ht, hc⟩, e⟩
  · exact ⟨.to t c, ⟨ht, hc⟩, e⟩
  · exact ⟨.under t u, ⟨ht, hu⟩, e⟩
/-- the slots -/
def sg (p : Addr) (n m c d t u : Str) (v : Option V) : L2.St := [some (.ref p), some (.str n), some (.str m), some (.str c), some (.str d), some (.str t), some (.str u), v]
theorem scLOne : FnScope ["_law_row_here", "_law_n", "_law_m", "_law_k", "_law_l", "_law_t", "_law_s", "_law_some"] ["_law_row_here"] (defScope lOne) := ⟨rfl, rfl, rfl, by decide +kernel, rfl, by decide +kernel, by decide +kernel⟩
def spOne (K : PySem.W.Frag) : Sp := fun vs H Q _ => ∃ (p a : Addr) (ns : List Int), vs = [.ref p] ∧ StAt K H p a ns ∧
  ∀ (q : Addr) (r : Rw) (H' : Hp), r.few → StAt K H' p a ns → Kept [p] H H' → H' q = some (.tup (r.ws.map V.str)) → Q (.ref q) H'
section
variable {P : Program} {w : World} {K : PySem.W.Frag} {mg : Str → Option Value} {base : Heap} {f fT : Addr} {fd fdT : FuncData}
theorem ok_lone (F : FnP K "_law_one" lOne f fd) (gT : mg "_law_taken" = some (.ref fT)) (FT : FnOk P w K mg base CX0 1 fT fdT ["_law_row_here", "_law_many"] (spTaken K)) (kT : PySem.W.keepIn K (.ref fT) = true) (bT : Binds K fdT ["_law_row_here", "_law_many"] []) :
    FnOk P w K mg base CX0 2 f fd ["_law_row_here"] (spOne K) := by
  refine F.ok scLOne (fun vs H Q E h => ?_) (fun cdv A outer s H vs Q E hr h => ?_)
  · obtain ⟨p, a, ns, rfl, _⟩ := h
    rfl
  · obtain ⟨p, a, ns, rfl, S, k⟩ := h
    refine ⟨_, PSs.nox (pss_cons (ps_par (by rfl) scLOne.nd (i := 1) (j := 2) rfl rfl (by decide) rfl rfl (pa_cons (pe_ix ix_list (pe_lst (pa_cons pe_str (pa_cons pe_str (pa_cons pe_str pa_nil)))) (pe_call FT hr (by rfl) gT kT bT .nil pass0 (pa_cons (pv 0) (pa_cons pe_int pa_nil))) (fun _ _ => rfl)) (pa_cons (pe_ix ix_list (pe_lst (pa_cons pe_str (pa_cons pe_str (pa_cons pe_str pa_nil)))) (pe_call FT hr (by rfl) gT kT bT .nil pass0 (pa_cons (pv 0) (pa_cons pe_int pa_nil))) (fun _ _ => rfl)) pa_nil)) (by rfl))
      (pss_cons (ps_par (by rfl) scLOne.nd (i := 3) (j := 4) rfl rfl (by decide) rfl rfl (pa_cons (pe_ix ix_list (pe_lst (pa_cons pe_str (pa_cons pe_str (pa_cons pe_str pa_nil)))) (pe_call FT hr (by rfl) gT kT bT .nil pass0 (pa_cons (pv 0) (pa_cons pe_int pa_nil))) (fun _ _ => rfl)) (pa_cons (pe_ix ix_list (pe_lst (pa_cons pe_str (pa_cons pe_str (pa_cons pe_str pa_nil)))) (pe_call FT hr (by rfl) gT kT bT .nil pass0 (pa_cons (pv 0) (pa_cons pe_int pa_nil))) (fun _ _ => rfl)) pa_nil)) (by rfl))
      (pss_cons (ps_par (by rfl) scLOne.nd (i := 5) (j := 6) rfl rfl (by decide) rfl rfl (pa_cons (pe_ix ix_list (pe_lst (pa_cons pe_str (pa_cons pe_str pa_nil))) (pe_call FT hr (by rfl) gT kT bT .nil pass0 (pa_cons (pv 0) (pa_cons pe_int pa_nil))) (fun _ _ => rfl)) (pa_cons (pe_ix ix_list (pe_lst (pa_cons pe_str (pa_cons pe_str pa_nil))) (pe_call FT hr (by rfl) gT kT bT .nil pass0 (pa_cons (pv 0) (pa_cons pe_int pa_nil))) (fun _ _ => rfl)) pa_nil)) (by rfl))
      (pss_cons (ps_set (i := 7) scLOne.nd rfl (.inl rfl) (pe_lst (pa_cons (pe_tup (pa_cons pe_str (pa_cons (pv 1) (pa_cons (pv 3) pa_nil)))) (pa_cons (pe_tup (pa_cons pe_str (pa_cons (pv 1) (pa_cons (pv 3) pa_nil)))) (pa_cons (pe_tup (pa_cons pe_str (pa_cons (pv 1) (pa_cons (pv 5) (pa_cons (pv 2) pa_nil))))) (pa_cons (pe_tup (pa_cons pe_str (pa_cons (pv 1) (pa_cons (pv 5) (pa_cons (pv 2) pa_nil))))) (pa_cons (pe_tup (pa_cons pe_str (pa_cons (pv 1) (pa_cons (pv 5) (pa_cons (pv 2) pa_nil))))) (pa_cons (pe_tup (pa_cons pe_str (pa_cons (pv 3) (pa_cons (pv 4) pa_nil)))) pa_nil))))))))
      (pss_cons (ps_set (i := 7) scLOne.nd rfl (.inl rfl) (pe_op op_cat (pv 7) (pe_lst (pa_cons (pe_tup (pa_cons pe_str (pa_cons (pv 1) (pa_cons (pv 3) pa_nil)))) (pa_cons (pe_tup (pa_cons pe_str (pa_cons (pv 1) (pa_cons (pv 5) (pa_cons (pv 2) pa_nil))))) (pa_cons (pe_tup (pa_cons pe_str (pa_cons (pv 3) (pa_cons (pv 4) pa_nil)))) (pa_cons (pe_tup (pa_cons pe_str (pa_cons (pv 3) (pa_cons (pv 5) (pa_cons (pv 2) pa_nil))))) (pa_cons (pe_tup (pa_cons pe_str (pa_cons (pv 5) (pa_cons (pv 3) (pa_cons (pv 4) pa_nil))))) pa_nil))))))))
      (pss_cons (ps_set (i := 7) scLOne.nd rfl (.inl rfl) (pe_op op_cat (pv 7) (pe_lst (pa_cons (pe_tup (pa_cons pe_str (pa_cons (pv 5) (pa_cons (pv 6) pa_nil)))) (pa_cons (pe_tup (pa_cons pe_str (pa_cons (pv 5) pa_nil))) (pa_cons (pe_tup (pa_cons pe_str (pa_cons (pv 5) (pa_cons (pv 3) pa_nil)))) (pa_cons (pe_tup (pa_cons pe_str (pa_cons (pv 5) (pa_cons (pv 3) pa_nil)))) (pa_cons (pe_tup (pa_cons pe_str (pa_cons (pv 5) (pa_cons (pv 6) pa_nil)))) pa_nil))))))))
      (pss_one (ps_ret (pe_ix ix_list (pv 7) (pe_call FT hr (by rfl) gT kT bT .nil pass0 (pa_cons (pv 0) (pa_cons pe_int pa_nil))) (fun _ _ => rfl)))))))))), ?_⟩
    refine rd_pick (l := namesL) (valA_str (valA_str (valA_str valA_nil))) rfl (by decide) (by decide) rfl S fun n hn H1 S1 k1 => ?_
    refine rd_pick (l := namesL) (valA_str (valA_str (valA_str valA_nil))) rfl (by decide) (by decide) rfl S1 fun m hm H2 S2 k2 => ⟨_, _, rfl, ?_⟩
    refine rd_pick (l := kindsL) (valA_str (valA_str (valA_str valA_nil))) rfl (by decide) (by decide) rfl S2 fun c hc H3 S3 k3 => ?_
    refine rd_pick (l := kindsL) (valA_str (valA_str (valA_str valA_nil))) rfl (by decide) (by decide) rfl S3 fun d hd H4 S4 k4 => ⟨_, _, rfl, ?_⟩
    refine rd_pick (l := tiesL) (valA_str (valA_str valA_nil)) rfl (by decide) (by decide) rfl S4 fun t ht H5 S5 k5 => ?_
    refine rd_pick (l := tiesL) (valA_str (valA_str valA_nil)) rfl (by decide) (by decide) rfl S5 fun u hu H6 S6 k6 => ⟨_, _, rfl, ?_⟩
    have A1 : MkA _ (sg p n m c d t u none) [[.str "is", .str n, .str c], [.str "is", .str n, .str c], [.str "has", .str n, .str t, .str m], [.str "has", .str n, .str t, .str m], [.str "has", .str n, .str t, .str m], [.str "all", .str c, .str d]] :=
      mkA_cons (valA_str (valA_var (i := 1) rfl (valA_var (i := 3) rfl valA_nil))) (mkA_cons (valA_str (valA_var (i := 1) rfl (valA_var (i := 3) rfl valA_nil))) (mkA_cons (valA_str (valA_var (i := 1) rfl (valA_var (i := 5) rfl (valA_var (i := 2) rfl valA_nil)))) (mkA_cons (valA_str (valA_var (i := 1) rfl (valA_var (i := 5) rfl (valA_var (i := 2) rfl valA_nil)))) (mkA_cons (valA_str (valA_var (i := 1) rfl (valA_var (i := 5) rfl (valA_var (i := 2) rfl valA_nil)))) (mkA_cons (valA_str (valA_var (i := 3) rfl (valA_var (i := 4) rfl valA_nil))) mkA_nil)))))
    dsimp only
    refine seq_set ?_
    change tLst _ (sg p n m c d t u none) H6 _
    refine mkL A1 (by exact Nat.le_of_ble_eq_true rfl) fun ps1 l1 H7 k7 r7 e7 => ?_
    change tSeq (tAsg _ (gName 7)) _ _ (sg p n m c d t u (some (.ref l1))) H7
    refine seq_set (op_of ⟨_, rfl, ?_⟩)
    change tLst _ (sg p n m c d t u (some (.ref l1))) H7 _
    have A2 : MkA _ (sg p n m c d t u (some (.ref l1))) [[.str "isnt", .str n, .str c], [.str "hasnt", .str n, .str t, .str m], [.str "no", .str c, .str d], [.str "each", .str c, .str t, .str m], [.str "who", .str t, .str c, .str d]] :=
      mkA_cons (valA_str (valA_var (i := 1) rfl (valA_var (i := 3) rfl valA_nil))) (mkA_cons (valA_str (valA_var (i := 1) rfl (valA_var (i := 5) rfl (valA_var (i := 2) rfl valA_nil)))) (mkA_cons (valA_str (valA_var (i := 3) rfl (valA_var (i := 4) rfl valA_nil))) (mkA_cons (valA_str (valA_var (i := 3) rfl (valA_var (i := 5) rfl (valA_var (i := 2) rfl valA_nil)))) (mkA_cons (valA_str (valA_var (i := 5) rfl (valA_var (i := 3) rfl (valA_var (i := 4) rfl valA_nil)))) mkA_nil))))
    refine mkL A2 (by exact Nat.le_of_ble_eq_true rfl) fun ps2 l2 H8 k8 r8 e8 => ?_
    refine ⟨l1, l2, _, _, rfl, rfl, k8 l1 _ e7 (by simp), e8, ?_, fun l3 n3 => ?_⟩
    · rw [List.length_map, List.length_map, r7.length, r8.length]; exact Nat.le_of_ble_eq_true rfl
    change tSeq (tAsg _ (gName 7)) _ _ (sg p n m c d t u (some (.ref l3))) _
    refine seq_set (op_of ⟨_, rfl, ?_⟩)
    change tLst _ (sg p n m c d t u (some (.ref l3))) _ _
    have A3 : MkA _ (sg p n m c d t u (some (.ref l3))) [[.str "turned", .str t, .str u], [.str "on", .str t], [.str "from", .str t, .str c], [.str "to", .str t, .str c], [.str "under", .str t, .str u]] :=
      mkA_cons (valA_str (valA_var (i := 5) rfl (valA_var (i := 6) rfl valA_nil))) (mkA_cons (valA_str (valA_var (i := 5) rfl valA_nil)) (mkA_cons (valA_str (valA_var (i := 5) rfl (valA_var (i := 3) rfl valA_nil))) (mkA_cons (valA_str (valA_var (i := 5) rfl (valA_var (i := 3) rfl valA_nil))) (mkA_cons (valA_str (valA_var (i := 5) rfl (valA_var (i := 6) rfl valA_nil))) mkA_nil))))
    refine mkL A3 (by exact Nat.le_of_ble_eq_true rfl) fun ps3 l4 H9 k9 r9 e9 => ?_
    refine ⟨l3, l4, _, _, rfl, rfl, k9 l3 _ upd_same (by simp), e9, ?_, fun l5 n5 => ?_⟩
    · rw [List.length_append, List.length_map, List.length_map, List.length_map, r7.length, r8.length, r9.length]; exact Nat.le_of_ble_eq_true rfl
    change tRet _ _ (sg p n m c d t u (some (.ref l5))) _
    refine ret_of (op_of ⟨_, rfl, ?_⟩)
    have kA : Kept [] H6 (L2.upd H8 l3 (.lst (ps1.map V.ref ++ ps2.map V.ref))) := (k7.trans k8).upd n3
    have kB : Kept [] H6 (L2.upd H9 l5 (.lst (ps1.map V.ref ++ ps2.map V.ref ++ ps3.map V.ref))) := (kA.trans k9).upd n5
    have k89 : Kept [] H8 (L2.upd H9 l5 (.lst (ps1.map V.ref ++ ps2.map V.ref ++ ps3.map V.ref))) := (((Kept.refl H8).upd n3).trans k9).upd n5
    have k99 : Kept [] H9 (L2.upd H9 l5 (.lst (ps1.map V.ref ++ ps2.map V.ref ++ ps3.map V.ref))) := (Kept.refl H9).upd n5
    have rr := (paired_app (paired_app (Paired.mapP r7 fun q xs e => k89 q _ (k8 q _ e (by simp)) (by simp)) (Paired.mapP r8 fun q xs e => k89 q _ e (by simp))) (Paired.mapP r9 fun q xs e => k99 q _ e (by simp)))
    have e5 : L2.upd H9 l5 (.lst (ps1.map V.ref ++ ps2.map V.ref ++ ps3.map V.ref)) l5 = some (.lst ((ps1 ++ ps2 ++ ps3).map V.ref)) := by rw [upd_same, List.map_append, List.map_append]
    have SB := S6.kept kB
    generalize hHf : L2.upd H9 l5 (.lst (ps1.map V.ref ++ ps2.map V.ref ++ ps3.map V.ref)) = Hf at kB rr e5 SB
    have hl5 : l5 ∉ [p] := fun z => by
      obtain ⟨xs, hp⟩ := S6.ob
      have q := k9 p _ (kA p _ hp (by simp)) (by simp)
      rw [List.mem_singleton.mp z, q] at n5
      cases n5
    refine ⟨_, rfl, p, a, ns, 16, rfl, SB, by decide, by decide, fun i H' h0 h1 S' k' => ?_⟩
    obtain ⟨j, rfl⟩ : ∃ j : Nat, i = (j : Int) := ⟨i.toNat, by omega⟩
    have hlen := rr.length
    have hj : j < (ps1 ++ ps2 ++ ps3).length := by
      rw [hlen]
      exact Nat.lt_of_lt_of_le (show j < 16 by omega) (by exact Nat.le_of_ble_eq_true rfl)
    obtain ⟨xs, hx, hq⟩ := paired_at rr (List.getElem?_eq_getElem hj)
    obtain ⟨r, hr, er⟩ := few16 hn hm hc hd ht hu xs (List.mem_of_getElem? hx)
    subst er
    refine ⟨l5, _, _, _, rfl, rfl, .inl (.of (k' l5 _ e5 hl5)), at_of (j := j) rfl (by rw [List.getElem?_map, List.getElem?_eq_getElem hj]; rfl), ?_⟩
    obtain ⟨ys, hp6⟩ := SB.ob
    refine k _ r H' hr S' ?_ (k' _ _ hq (notin1 hq hp6 (by intro z; cases z)))
    exact ((((((k1.trans k2).trans k3).trans k4).trans k5).trans k6).trans (kB.mono (by simp))).trans k'
end
end Ah
end
section
set_option Elab.async false
set_option linter.all false
set_option maxRecDepth 100000
set_option maxHeartbeats 2000000
namespace Ah
open PySem PySem.Spec PyProof.Rows L2
/-! ### texts -/
def TextAt (H : Hp) (q : Addr) (rs : List Rw) : Prop := ∃ ps : List Addr, H q = some (.tup (ps.map V.ref)) ∧ Paired (fun a r => H a = some (.tup ((Rw.ws r).map V.str))) ps rs
theorem scLTx : FnScope ["_law_row_here", "_law_many", "_law_k"] ["_law_row_here", "_law_many"] (defScope lText) := ⟨rfl, rfl, rfl, by decide +kernel, rfl, by decide +kernel, by decide +kernel⟩
def spText (K : PySem.W.Frag) : Sp := fun vs H Q _ => ∃ (p a : Addr) (ns : List Int) (many : Int), vs = [.ref p, .int many] ∧ StAt K H p a ns ∧ 0 ≤ many ∧ many < 1000 ∧
  ∀ (q : Addr) (rs : List Rw) (H' : Hp), (∀ r ∈ rs, r.few) → (rs.length : Int) ≤ many → StAt K H' p a ns → Kept [p] H H' → TextAt H' q rs → Q (.ref q) H'
theorem seqL_far {K : PySem.W.Frag} {H1 H' : Hp} {a D : Addr} {o : HO} {xs : List V} (h1 : SqL K H1 a xs) (n : H1 D = none) (h : SqL K H' a xs) : SqL K (upd H' D o) a xs := by
  rcases h1 with h1 | h1
  · have ne : a ≠ D := fun e => by
      rcases h1 with h1 | ⟨ob, h1⟩ <;> rw [e, n] at h1 <;> cases h1
    rcases h with (h | ⟨ob, h⟩) | h
    · exact .inl (.inl (by rw [upd_ne ne]; exact h))
    · exact .inl (.inr ⟨ob, by rw [upd_ne ne]; exact h⟩)
    · exact .inr h
  · exact .inr h1
/-- the state stands where another new object changes -/
theorem StAt.far {K : PySem.W.Frag} {H1 H' : Hp} {p a D : Addr} {ns : List Int} {o : HO} (S1 : StAt K H1 p a ns) (n : H1 D = none) (S : StAt K H' p a ns) : StAt K (L2.upd H' D o) p a ns := by
  obtain ⟨i, r, m, h, g1, g2, g3⟩ := S
  obtain ⟨i1, r1, m1, h1, _, _, q3⟩ := S1
  exact ⟨i, r, m, by rw [upd_ne (ne_of_none h1 n)]; exact h, g1, g2, seqL_far q3 n g3⟩
theorem Kept.far {M : List Addr} {H H1 H' : Hp} {D : Addr} {o : HO} (k1 : Kept M H H1) (n : H1 D = none) (k : Kept M H H') : Kept M H (L2.upd H' D o) := fun b u e hb => by
  rw [upd_ne (ne_of_none (k1 b u e hb) n)]
  exact k b u e hb
theorem yes_if {X Y : Hp → Prop} {σ : L2.St} {H : Hp} (h : X H) : tYes σ H fun b H3 => if b = true then X H3 else Y H3 := by
  show if true = true then X H else Y H
  rw [if_pos rfl]
  exact h
section
variable {P : Program} {w : World} {K : PySem.W.Frag} {mg : Str → Option Value} {base : Heap} {f fT fO : Addr} {fd fdT fdO : FuncData}
theorem ok_ltext (F : FnP K "_law_text" lText f fd) (gT : mg "_law_taken" = some (.ref fT)) (FT : FnOk P w K mg base CX0 1 fT fdT ["_law_row_here", "_law_many"] (spTaken K)) (kT : PySem.W.keepIn K (.ref fT) = true) (bT : Binds K fdT ["_law_row_here", "_law_many"] [])
    (gO : mg "_law_one" = some (.ref fO)) (FO : FnOk P w K mg base CX0 2 fO fdO ["_law_row_here"] (spOne K)) (kO : PySem.W.keepIn K (.ref fO) = true) (bO : Binds K fdO ["_law_row_here"] []) (zt : mg "tuple" = none) (zr : mg "range" = none) :
    FnOk P w K mg base CX0 3 f fd ["_law_row_here", "_law_many"] (spText K) := by
  refine F.ok scLTx (fun vs H Q E h => ?_) (fun cdv A outer s H vs Q E hr h => ?_)
  · obtain ⟨p, a, ns, many, rfl, _⟩ := h
    rfl
  · obtain ⟨p, a, ns, many, rfl, S, h0, h1, k⟩ := h
    refine ⟨_, PSs.nox (pss_one (ps_ret (pe_callTy call_tuple_of (by rfl) zt (by decide +kernel) (pa_cons
      (pe_lc (own := [("_law_k", 2)]) (g := gName 2) (tt := tYes) rfl scLTx.nd (pi_range1 rfl zr (pa_cons (pe_call FT (hr.mono (by decide)) (by rfl) gT kT bT .nil pass0 (pa_cons (pv 0) (pa_cons (pe_op op_add (pv 1) pe_int) pa_nil))) pa_nil))
        (blkOk_by (N := ["_law_row_here", "_law_many", "_law_k"]) (sc := defScope lText) (by decide +kernel)) (fun _ _ _ _ _ => pg_name (i := 2) scLTx.nd rfl (Or.inl rfl)) (fun _ _ _ _ _ => pts_nil)
        (fun _ _ _ _ _ => pe_call FO hr (by rfl) gO kO bO .nil pass0 (pa_cons (pv 0) pa_nil))) pa_nil)))), ?_⟩
    refine ⟨_, rfl, _, rfl, _, _, rfl, rfl, p, a, ns, many + 1, rfl, S, by omega, by omega, fun n H1 hn0 hn1 S1 k1 => ⟨n, rfl, by omega, by omega, fun D nD => ?_⟩⟩
    refine lc_range (lo := 0) (n := n.toNat) (fun i H' => ∃ (ps : List Addr) (rs : List Rw), H' D = some (.lst (ps.map V.ref)) ∧ Paired (fun a r => H' a = some (.tup ((Rw.ws r).map V.str))) ps rs ∧ rs.length = i ∧ (∀ r ∈ rs, r.few) ∧ StAt K H' p a ns ∧ Kept [p] H H')
      ⟨[], [], upd_same, .nil, rfl, fun _ z => (by simp at z), S1.upd nD, k1.upd nD⟩ ?_ ?_
    · rintro i Ha hi ⟨ps, rs, e1, r1, hl, hf, S2, k2⟩
      refine ⟨rfl, yes_if ?_⟩
      refine ⟨_, rfl, p, a, ns, rfl, S2, fun q r H3 hr' S3 k3 eq => ?_⟩
      obtain ⟨ys, hp2⟩ := S2.ob
      have hDp : D ∉ [p] := fun z => by
        obtain ⟨zs, hz⟩ := S1.ob
        rw [List.mem_singleton.mp z, hz] at nD
        cases nD
      have hl2 : ps.length = rs.length := r1.length
      have eD := k3 D _ e1 hDp
      refine ⟨_, eD, ?_, ps ++ [q], rs ++ [r], ?_, ?_, ?_, ?_, ?_, ?_⟩
      · rw [List.length_map, hl2, hl]
        exact Nat.lt_of_lt_of_le (show i < 2000 by omega) (by decide)
      · rw [upd_same, List.map_append] <;> rfl
      · have neD : ∀ {b : Addr} {xs : List V}, H3 b = some (.tup xs) → b ≠ D := fun e z => by
          rw [z, eD] at e
          cases e
        refine paired_app (Paired.mapP r1 fun b r' e => ?_) (.cons ?_ .nil)
        · have e' := k3 b _ e (notin1 e hp2 (by intro z; cases z))
          rw [upd_ne (neD e')]
          exact e'
        · rw [upd_ne (neD eq)]
          exact eq
      · rw [List.length_append, hl] <;> rfl
      · intro r' hr2
        rcases List.mem_append.mp hr2 with z | z
        · exact hf r' z
        · rw [List.mem_singleton.mp z]
          exact hr'
      · exact S1.far nD S3
      · exact k1.far nD (k2.trans k3)
    · rintro Ha ⟨ps, rs, e1, r1, hl, hf, S2, k2⟩
      refine ⟨D, _, rfl, .inl ⟨.inl (.of e1), fun q nq => ?_⟩⟩
      refine k q rs _ hf (by omega) (S2.upd nq) (k2.upd nq) ⟨ps, upd_same, Paired.mapP r1 fun b r' e => by rw [upd_ne (ne_of_none e nq)]; exact e⟩
end
end Ah
end
section
set_option Elab.async false
set_option linter.all false
set_option maxRecDepth 100000
set_option maxHeartbeats 2000000
namespace Ah
open PySem PySem.Spec PyProof.Rows L2
/-! ### alike -/
def Flat : V → Prop
  | .non => True | .bl _ => True | .int _ => True | .str _ => True | _ => False
/-- the same data to the depth n -/
def At (K : PySem.W.Frag) (H : Hp) : Nat → V → V → Prop
  | 0, x, y => x = y ∧ Flat x
  | n + 1, x, y => (x = y ∧ Flat x) ∨ ∃ a b xs ys, x = .ref a ∧ y = .ref b ∧ ((SqT K H a xs ∧ SqT K H b ys) ∨ (H a = some (.lst xs) ∧ H b = some (.lst ys))) ∧ xs.length ≤ 1000000 ∧ Paired (At K H n) xs ys
theorem sqT_kept {K : PySem.W.Frag} {H H' : Hp} {a : Addr} {xs : List V} (k : Kept [] H H') (h : SqT K H a xs) : SqT K H' a xs := by
  rcases h with (h | ⟨o, h⟩) | h
  · exact .inl (.inl (k _ _ h (by simp)))
  · exact .inl (.inr ⟨o, k _ _ h (by simp)⟩)
  · exact .inr h
theorem At.kept {K : PySem.W.Frag} {H H' : Hp} (k : Kept [] H H') : ∀ {n : Nat} {x y : V}, At K H n x y → At K H' n x y
  | 0, _, _, h => h
  | n + 1, _, _, h => by
    rcases h with h | ⟨a, b, xs, ys, e1, e2, h, hl, r⟩
    · exact .inl h
    · refine .inr ⟨a, b, xs, ys, e1, e2, ?_, hl, Paired.mapP r fun x y q => At.kept k q⟩
      rcases h with ⟨h1, h2⟩ | ⟨h1, h2⟩
      · exact .inl ⟨sqT_kept k h1, sqT_kept k h2⟩
      · exact .inr ⟨k _ _ h1 (by simp), k _ _ h2 (by simp)⟩
def spAlike (K : PySem.W.Frag) : Nat → Sp
  | 0 => fun _ _ _ _ => False
  | n + 1 => fun vs H Q _ => ∃ x y : V, vs = [x, y] ∧ At K H n x y ∧ ∀ H', Kept [] H H' → Q (.bl true) H'
theorem scLA : FnScope ["_law_found", "_law_due", "_law_same_kind", "_law_k"] ["_law_found", "_law_due"] (defScope lAlike) := ⟨rfl, rfl, rfl, by decide +kernel, rfl, by decide +kernel, by decide +kernel⟩
/-- built-in names that the module leaves alone -/
structure Bl (mg : Str → Option Value) : Prop where
  isinstance_ : mg "isinstance" = none
  len_ : mg "len" = none
  tuple_ : mg "tuple" = none
  list_ : mg "list" = none
  str_ : mg "str" = none
  bool_ : mg "bool" = none
  range_ : mg "range" = none
  enumerate_ : mg "enumerate" = none
  sorted_ : mg "sorted" = none
  zip_ : mg "zip" = none
  dict_ : mg "dict" = none
  all_ : mg "all" = none
/-- a def of the module's own, its promise, its binding -/
structure Own (P : Program) (w : World) (K : PySem.W.Frag) (mg : Str → Option Value) (base : Heap) (x : Str) (k : Nat) (f : Addr) (fd : FuncData) (ps : List Str) (sp : Sp) : Prop where
  ok : FnOk P w K mg base CX0 k f fd ps sp
  g : mg x = some (.ref f)
  kp : PySem.W.keepIn K (.ref f) = true
  b : Binds K fd ps []
/-- a value's built-in class -/
inductive TyS (K : PySem.W.Frag) (H : Hp) : V → String → Prop where
  | non : TyS K H .non "NoneType"
  | bl (b : Bool) : TyS K H (.bl b) "bool"
  | int (i : Int) : TyS K H (.int i) "int"
  | str (z : Str) : TyS K H (.str z) "str"
  | tup {a : Addr} {xs : List V} (e : SqT K H a xs) : TyS K H (.ref a) "tuple"
  | lst {a : Addr} {xs : List V} (e : H a = some (.lst xs)) : TyS K H (.ref a) "list"
theorem TyS.x {K : PySem.W.Frag} {H : Hp} {v : V} {a : String} (h : TyS K H v a) : TyX K H v (.type a) := by
  cases h with
  | non => exact .base .non
  | bl b => exact .base (.bl b)
  | int i => exact .base (.int i)
  | str z => exact .base (.str z)
  | tup e =>
    rcases e with (e | ⟨o, e⟩) | ⟨o, its, n, h1, h2, _⟩
    · exact .base (.tup e)
    · exact .fTuple e
    · exact .kTuple h1 h2
  | lst e => exact .base (.lst e)
theorem TyS.kept {K : PySem.W.Frag} {H H' : Hp} {v : V} {a : String} (h : TyS K H v a) (k : Kept [] H H') : TyS K H' v a := by
  cases h with
  | non => exact .non
  | bl b => exact .bl b
  | int i => exact .int i
  | str z => exact .str z
  | tup e => exact .tup (sqT_kept k e)
  | lst e => exact .lst (k _ _ e (by simp))
theorem Flat.ty {K : PySem.W.Frag} {H : Hp} {v : V} (h : Flat v) : ∃ a, TyS K H v a ∧ kitB a "tuple" = some false ∧ kitB a "list" = some false ∧ (∃ b, kitB a "str" = some b) ∧ ∃ b, kitB a "bool" = some b := by
  cases v with
  | non => exact ⟨_, .non, by decide +kernel, by decide +kernel, ⟨false, by decide +kernel⟩, false, by decide +kernel⟩
  | bl b => exact ⟨_, .bl b, by decide +kernel, by decide +kernel, ⟨false, by decide +kernel⟩, true, by decide +kernel⟩
  | int b => exact ⟨_, .int b, by decide +kernel, by decide +kernel, ⟨false, by decide +kernel⟩, false, by decide +kernel⟩
  | str b => exact ⟨_, .str b, by decide +kernel, by decide +kernel, ⟨true, by decide +kernel⟩, false, by decide +kernel⟩
  | _ => exact h.elim
theorem iteNF {A B : Prop} {x : V} (hx : x = x) (h : B) : if (!decide (x = x)) = true then A else B := by
  rw [decide_eq_true hx]
  exact iteF h
theorem rd_isi {K : PySem.W.Frag} {σ : L2.St} {H : Hp} {Q : VK} {i : Nat} {v : V} {a c : String} {b : Bool} (hσ : σ[i]? = some (some v)) (ty : TyS K H v a) (kb : kitB a c = some b) (q : Q (.bl b) H) : tCB (rIsi K) (tCons (tVar i) (tCons (tC (.ty c)) tNil)) σ H Q :=
  ⟨v, hσ, v, .ty c, .type a, .type c, b, rfl, .ty c, ty.x, kit_ty kb, q⟩
theorem rd_isi2 {K : PySem.W.Frag} {σ : L2.St} {H : Hp} {Q : VK} {i : Nat} {v : V} {a : String} {b1 b2 : Bool} (hσ : σ[i]? = some (some v)) (ty : TyS K H v a) (k1 : kitB a "tuple" = some b1) (k2 : kitB a "list" = some b2)
    (q : ∀ H', Kept [] H H' → Q (.bl (b1 || b2)) H') : tCB (rIsiT K) (tCons (tVar i) (tCons (tTup (tCons (tC (.ty "tuple")) (tCons (tC (.ty "list")) tNil))) tNil)) σ H Q := by
  refine ⟨v, hσ, by show 2 ≤ sizeLine; decide, fun T nT => ?_⟩
  have k : Kept [] H (upd H T (.tup [.ty "tuple", .ty "list"])) := (Kept.refl H).upd nT
  refine ⟨v, T, _, .type a, [.type "tuple", .type "list"], b1 || b2, rfl, upd_same, .cons (.ty _) (.cons (.ty _) .nil), (ty.kept k).x, ?_, q _ k⟩
  refine kitAny_cons (kit_ty k1) (fun e => ?_) fun e => by rw [e]; rfl
  rw [e]
  exact kitAny_cons (kit_ty k2) (fun e2 => by rw [e2]; exact kitAny_nil) fun e2 => by rw [e2]; rfl
section
variable {P : Program} {w : World} {K : PySem.W.Frag} {mg : Str → Option Value} {base : Heap} {f : Addr} {fd : FuncData}
theorem ok_lalike (F : FnP K "_law_alike" lAlike f fd) (gA : mg "_law_alike" = some (.ref f)) (bA : Binds K fd ["_law_found", "_law_due"] []) (B : Bl mg) : ∀ n : Nat, FnOk P w K mg base CX0 n f fd ["_law_found", "_law_due"] (spAlike K n) := by
  intro n
  induction n with
  | zero => exact ⟨fun vs H Q E h => (show False from h).elim, fun A outer s H args us vs Q E _ _ _ _ h => (show False from h).elim⟩
  | succ n ih =>
    have c__law_alike : Own P w K mg base "_law_alike" n f fd ["_law_found", "_law_due"] (spAlike K n) := ⟨ih, gA, F.kp, bA⟩
    refine F.ok scLA (fun vs H Q E h => ?_) (fun cdv A outer s H vs Q E hr h => ?_)
    · obtain ⟨x, y, rfl, _⟩ := h
      rfl
    · obtain ⟨x, y, rfl, hxy, k⟩ := h
      refine ⟨_, PSs.nox (pss_cons (ps_if (pt_val (pe_callB call_isiT (by rfl) B.isinstance_ (by decide +kernel) (pa_cons (pv 1) (pa_cons (pe_tup (pa_cons (pe_bltn (v := .ty "tuple") (by rfl) B.tuple_ (by decide +kernel) rfl) (pa_cons (pe_bltn (v := .ty "list") (by rfl) B.list_ (by decide +kernel) rfl) pa_nil))) pa_nil)))) (pss_cons (ps_if (PW.pt (pw_or (pt_cmpR op_ne (pe_callB call_isi (by rfl) B.isinstance_ (by decide +kernel) (pa_cons (pv 0) (pa_cons (pe_bltn (v := .ty "tuple") (by rfl) B.tuple_ (by decide +kernel) rfl) pa_nil))) (pe_callB call_isi (by rfl) B.isinstance_ (by decide +kernel) (pa_cons (pv 1) (pa_cons (pe_bltn (v := .ty "tuple") (by rfl) B.tuple_ (by decide +kernel) rfl) pa_nil))) (nomark _)) (pw_or1 (pt_not (pt_val (pe_callB call_isiT (by rfl) B.isinstance_ (by decide +kernel) (pa_cons (pv 0) (pa_cons (pe_tup (pa_cons (pe_bltn (v := .ty "tuple") (by rfl) B.tuple_ (by decide +kernel) rfl) (pa_cons (pe_bltn (v := .ty "list") (by rfl) B.list_ (by decide +kernel) rfl) pa_nil))) pa_nil)))))))) (pss_one (ps_ret pe_bl)) pss_nil)
      (pss_cons (ps_if (pt_cmpR op_ne (pe_callB call_len_seq (by rfl) B.len_ (by decide +kernel) (pa_cons (pv 0) pa_nil)) (pe_callB call_len_seq (by rfl) B.len_ (by decide +kernel) (pa_cons (pv 1) pa_nil)) (nomark _)) (pss_one (ps_ret pe_bl)) pss_nil)
      (pss_one (ps_ret (pe_cmpR (op_eqD hr.units) (pe_lc (own := [("_law_k", 3)]) rfl scLA.nd (pi_range1 (by rfl) B.range_ (pa_cons (pe_callB call_len_seq (by rfl) B.len_ (by decide +kernel) (pa_cons (pv 1) pa_nil)) pa_nil)) (blkOk_by (N := ["_law_found", "_law_due", "_law_same_kind", "_law_k"]) (sc := defScope lAlike) (by decide +kernel)) (fun _ _ _ _ _ => (pg_name (i := 3) scLA.nd rfl (Or.inl rfl))) (fun _ _ _ _ _ => (pts_one (pt_not (pt_val (pe_call c__law_alike.ok hr (by rfl) c__law_alike.g c__law_alike.kp c__law_alike.b .nil pass0 (pa_cons (pe_ix (show IxR _ (rIx K) from ix_seq) (pv 0) (pv 3) (fun _ _ => rfl)) (pa_cons (pe_ix (show IxR _ (rIx K) from ix_seq) (pv 1) (pv 3) (fun _ _ => rfl)) pa_nil))))))) (fun _ _ _ _ _ => (pv 3))) (pe_lst pa_nil) (nomark _)))))) pss_nil)
      (pss_cons (ps_if (PW.pt (pw_or (pt_cmpR op_isN (pv 1) pe_non (nomark _)) (pw_or1 (pt_cmpR op_isN (pv 0) pe_non (nomark _))))) (pss_one (ps_ret (pe_and (pe_cmpR op_isN (pv 1) pe_non (nomark _)) (pe_one (pe_cmpR op_isN (pv 0) pe_non (nomark _)))))) pss_nil)
      (pss_cons (ps_set (i := 2) scLA.nd rfl (.inl rfl) (pe_cmpR op_eq (pe_callB call_isi (by rfl) B.isinstance_ (by decide +kernel) (pa_cons (pv 1) (pa_cons (pe_bltn (v := .ty "str") (by rfl) B.str_ (by decide +kernel) rfl) pa_nil))) (pe_callB call_isi (by rfl) B.isinstance_ (by decide +kernel) (pa_cons (pv 0) (pa_cons (pe_bltn (v := .ty "str") (by rfl) B.str_ (by decide +kernel) rfl) pa_nil))) (nomark _)))
      (pss_one (ps_ret (pe_and (pv 2) (pe_and (pe_cmpR op_eq (pe_callB call_isi (by rfl) B.isinstance_ (by decide +kernel) (pa_cons (pv 1) (pa_cons (pe_bltn (v := .ty "bool") (by rfl) B.bool_ (by decide +kernel) rfl) pa_nil))) (pe_callB call_isi (by rfl) B.isinstance_ (by decide +kernel) (pa_cons (pv 0) (pa_cons (pe_bltn (v := .ty "bool") (by rfl) B.bool_ (by decide +kernel) rfl) pa_nil))) (nomark _)) (pe_one (pe_cmpR op_eq (pv 0) (pv 1) (nomark _)))))))))), ?_⟩
      have flat : ∀ (exy : x = y) (hf : Flat x), ∃ a b1 b2, TyS K H x a ∧ kitB a "tuple" = some false ∧ kitB a "list" = some false ∧ kitB a "str" = some b1 ∧ kitB a "bool" = some b2 := fun _ hf => by
        obtain ⟨a, h1, h2, h3, ⟨b1, h4⟩, b2, h5⟩ := hf.ty (K := K) (H := H)
        exact ⟨a, b1, b2, h1, h2, h3, h4, h5⟩
      have main : (x = y ∧ Flat x) ∨ ∃ m, n = m + 1 ∧ ∃ a b xs ys, x = .ref a ∧ y = .ref b ∧ ((SqT K H a xs ∧ SqT K H b ys) ∨ (H a = some (.lst xs) ∧ H b = some (.lst ys))) ∧ xs.length ≤ 1000000 ∧ Paired (At K H m) xs ys := by
        cases n with
        | zero => exact .inl hxy
        | succ m => exact hxy.imp id fun h => ⟨m, rfl, h⟩
      rcases main with ⟨exy, hf⟩ | ⟨m, rfl, a, b, xs, ys, rfl, rfl, hab, hl, r⟩
      · subst exy
        obtain ⟨a, b1, b2, ty, t1, t2, t3, t4⟩ := flat rfl hf
        refine rd_isi2 rfl ty t1 t2 fun H1 k1 => ⟨_, rfl, ?_⟩
        refine iteF ?_
        by_cases hx : x = .non
        · subst hx
          refine ⟨_, rfl, rfl, _, rfl, ?_⟩
          rw [decide_eq_true rfl]
          refine iteT (iteT ⟨_, rfl, rfl, _, rfl, ?_⟩)
          rw [decide_eq_true rfl]
          exact iteT ⟨_, rfl, rfl, k H1 k1⟩
        · refine ⟨_, rfl, rfl, _, rfl, ?_⟩
          rw [decide_eq_false hx]
          refine iteF ⟨_, rfl, rfl, _, rfl, ?_⟩
          rw [decide_eq_false hx]
          refine iteF ?_
          have ty1 := ty.kept k1
          refine op_of (rd_isi rfl ty1 t3 (rd_isi rfl ty1 t3 ⟨by cases b1 <;> rfl, ?_⟩))
          rw [decide_eq_true rfl]
          refine ⟨_, rfl, _, rfl, iteT ?_⟩
          refine op_of (rd_isi rfl ty1 t4 (rd_isi rfl ty1 t4 ⟨by cases b2 <;> rfl, ?_⟩))
          rw [decide_eq_true rfl]
          refine ⟨_, rfl, iteT ⟨_, rfl, _, rfl, ?_, ?_⟩⟩
          · cases x <;> first | rfl | exact hf.elim | exact (hx rfl).elim
          · rw [decide_eq_true rfl]
            exact k H1 k1
      · obtain ⟨ta, tya, tyb, ka, kb⟩ : ∃ ta, TyS K H (.ref a) ta ∧ TyS K H (.ref b) ta ∧ (∃ b1, kitB ta "tuple" = some b1 ∧ kitB ta "list" = some !b1) ∧ True := by
          rcases hab with ⟨h1, h2⟩ | ⟨h1, h2⟩
          · exact ⟨_, .tup h1, .tup h2, ⟨true, by decide +kernel, by decide +kernel⟩, trivial⟩
          · exact ⟨_, .lst h1, .lst h2, ⟨false, by decide +kernel, by decide +kernel⟩, trivial⟩
        obtain ⟨b1, ka1, ka2⟩ := ka
        have hb : (b1 || !b1) = true := by cases b1 <;> rfl
        refine rd_isi2 rfl tyb ka1 ka2 fun H1 k1 => ⟨_, rfl, ?_⟩
        rw [hb]
        refine iteT ?_
        refine op_of (rd_isi rfl (tya.kept k1) ka1 (rd_isi rfl (tyb.kept k1) ka1 ⟨by cases b1 <;> rfl, ⟨_, rfl, ?_⟩⟩))
        refine iteNF rfl ?_
        refine rd_isi2 rfl (tya.kept k1) ka1 ka2 fun H2 k2 => ⟨_, rfl, ?_⟩
        rw [hb]
        refine iteF ?_
        have hlen : xs.length = ys.length := r.length
        have k12 := k1.trans k2
        have sq : ∀ {H'}, Kept [] H H' → (SqL K H' a xs ∨ SqT K H' a xs) ∧ (SqL K H' b ys ∨ SqT K H' b ys) := fun k' => by
          rcases hab with ⟨h1, h2⟩ | ⟨h1, h2⟩
          · exact ⟨.inr (sqT_kept k' h1), .inr (sqT_kept k' h2)⟩
          · exact ⟨.inl (.inl (.of (k' _ _ h1 (by simp)))), .inl (.inl (.of (k' _ _ h2 (by simp))))⟩
        refine ⟨_, rfl, a, xs, rfl, (sq k12).1, ⟨_, rfl, b, ys, rfl, (sq k12).2, rfl, ⟨_, rfl, ?_⟩⟩⟩
        rw [hlen]
        refine iteNF rfl ?_
        refine ⟨_, rfl, b, ys, rfl, (sq k12).2, _, rfl, by omega, by omega, fun D nD => ?_⟩
        rw [Int.toNat_natCast]
        refine lc_range (lo := 0) (n := ys.length) (fun i H' => Kept [] H H' ∧ H' D = some (.lst [])) ⟨k12.upd nD, upd_same⟩ ?_ ?_
        · rintro i Ha hi ⟨ka, eD⟩
          refine ⟨rfl, ?_⟩
          have hi' : i < xs.length := by omega
          obtain ⟨y1, ey, hxy'⟩ := paired_at r (List.getElem?_eq_getElem hi')
          have ix : ∀ {c : Addr} {zs : List V} {v : V} {QQ : VK}, (SqL K Ha c zs ∨ SqT K Ha c zs) → zs[i]? = some v → QQ v Ha → rIx K (.ref c) (.int (0 + (i : Int))) Ha QQ := fun {c zs v QQ} h e q => by
            have e' : atI zs (0 + (i : Int)) = some v := at_of (by omega) e
            rcases h with h | h
            · exact .inl ⟨c, zs, _, v, rfl, rfl, h, e', q⟩
            · exact .inr (.inl ⟨c, zs, _, v, rfl, rfl, h, e', q⟩)
          refine ⟨_, rfl, _, rfl, ix (sq ka).1 (List.getElem?_eq_getElem hi') ⟨_, rfl, _, rfl, ix (sq ka).2 ey ?_⟩⟩
          refine ⟨_, _, rfl, hxy'.kept ka, fun H3 k3 => ⟨_, rfl, ?_⟩⟩
          exact iteF (B := Kept [] H H3 ∧ H3 D = some (.lst [])) ⟨ka.trans k3, k3 _ _ eD (by simp)⟩
        · rintro Ha ⟨ka, eD⟩
          refine ⟨by show 0 ≤ sizeLine; decide, fun q nq => ?_⟩
          refine ⟨.list [], .list [], .lst (.inl (.of (by rw [upd_ne (ne_of_none eD nq)]; exact eD))) .nil, .lst (.inl (.of upd_same)) .nil, rfl, rfl, ?_⟩
          exact k _ (ka.upd nq)
end
end Ah
end
section
set_option Elab.async false
set_option linter.all false
set_option maxRecDepth 100000
set_option maxHeartbeats 2000000
/-! Dicts whose keys are tuples of texts (the keys' own tuples may be constants): {}, in, d[k], d[k] = v, setdefault. -/
namespace L2
open PySem PySem.Spec PyProof.Rows
/-- an entry: the key, its own tuple, the value -/
abbrev Ent := List Key × Addr × V
def EntR (p : Ent) (q : List Key × Addr × Value) : Prop := p.1 = q.1 ∧ p.2.1 = q.2.1 ∧ RelV p.2.2 q.2.2
def DicR (P : Program) (w : World) (a : Addr) (es : List Ent) (h : Heap) : Prop :=
  es.length ≤ sizeLine ∧ (a == sysModules) = false ∧ (es.map (·.1)).Nodup ∧ ∃ xs : List (List Key × Addr × Value), Paired EntR es xs ∧
    ∃ (o : Obj) (ds : Array DictEntry) (ep : Nat), h.get? a = some o ∧ o.ExactDict ∧ o.data = .dict ds ep ∧ ds.toList = xs.map (entryOfKey (tupleKind (mixKind P w)))
def DicO (P : Program) (w : World) (a : Addr) (es : List Ent) : HO := .ext (DicR P w a es)
/-- the keys' own tuples may be read -/
def KeysIn (K : PySem.W.Frag) (H : Hp) (es : List Ent) : Prop := ∀ e ∈ es, SqT K H e.2.1 (e.1.map kV)
def valE (es : List Ent) (k : List Key) : Option V := (es.find? fun e => decide (e.1 = k)).map (·.2.2)
def putE (es : List Ent) (k : List Key) (b : Addr) (v : V) : List Ent :=
  if (valE es k).isSome then es.map (fun e => if e.1 = k then (e.1, e.2.1, v) else e) else es ++ [(k, b, v)]
theorem valE_nil {k : List Key} : valE [] k = none := rfl
theorem valE_pos {p : Ent} {r : List Ent} {k : List Key} (e : p.1 = k) : valE (p :: r) k = some p.2.2 := by simp [valE, List.find?_cons, e]
theorem valE_neg {p : Ent} {r : List Ent} {k : List Key} (e : ¬ p.1 = k) : valE (p :: r) k = valE r k := by simp [valE, List.find?_cons, e]
theorem valE_none (k : List Key) : ∀ es : List Ent, valE es k = none ↔ k ∉ es.map (·.1)
  | [] => by simp [valE]
  | p :: r => by
    by_cases e : p.1 = k
    · rw [valE_pos e]
      simp [e]
    · rw [valE_neg e, valE_none k r]
      simp [Ne.symm e]
theorem valE_some {es : List Ent} {k : List Key} (h : (valE es k).isSome = true) : k ∈ es.map (·.1) := Classical.byContradiction fun q => by
  rw [(valE_none k es).mpr q] at h
  cases h
theorem valE_mem {es : List Ent} {k : List Key} : (valE es k).isSome = true ↔ k ∈ es.map (·.1) := ⟨valE_some, fun h => by
  cases q : valE es k with
  | none => exact absurd h ((valE_none k es).mp q)
  | some _ => rfl⟩
theorem putE_keys (es : List Ent) (k : List Key) (b : Addr) (v : V) : (putE es k b v).map (·.1) = if (valE es k).isSome = true then es.map (·.1) else es.map (·.1) ++ [k] := by
  unfold putE
  by_cases h : (valE es k).isSome = true
  · rw [if_pos h, if_pos h, List.map_map]
    refine List.map_congr_left fun e _ => ?_
    show (if e.1 = k then (e.1, e.2.1, v) else e).1 = e.1
    split <;> rfl
  · rw [if_neg h, if_neg h, List.map_append]
    rfl
theorem putE_len (es : List Ent) (k : List Key) (b : Addr) (v : V) : (putE es k b v).length ≤ es.length + 1 := by
  have h := congrArg List.length (putE_keys es k b v)
  rw [List.length_map] at h
  rw [h]
  split <;> simp
theorem putE_nodup {es : List Ent} (k : List Key) (b : Addr) (v : V) (hn : (es.map (·.1)).Nodup) : ((putE es k b v).map (·.1)).Nodup := by
  rw [putE_keys]
  split
  · exact hn
  · rename_i h
    rw [List.nodup_append]
    refine ⟨hn, by simp, fun x hx y hy => ?_⟩
    rw [List.mem_singleton] at hy
    rw [hy]
    exact fun e => h (valE_mem.mpr (e ▸ hx))
/-- what is stored is an old entry under its own tuple, or the new one -/
theorem putE_mem {es : List Ent} {k : List Key} {b : Addr} {v : V} {e : Ent} (h : e ∈ putE es k b v) : (∃ e' ∈ es, e.1 = e'.1 ∧ e.2.1 = e'.2.1 ∧ (e.2.2 = e'.2.2 ∨ e.2.2 = v)) ∨ e = (k, b, v) := by
  unfold putE at h
  split at h
  · obtain ⟨e', h1, h2⟩ := List.mem_map.mp h
    refine .inl ⟨e', h1, ?_⟩
    rw [← h2]
    split
    · exact ⟨rfl, rfl, .inr rfl⟩
    · exact ⟨rfl, rfl, .inl rfl⟩
  · rcases List.mem_append.mp h with h | h
    · exact .inl ⟨e, h, rfl, rfl, .inl rfl⟩
    · exact .inr (List.mem_singleton.mp h)
theorem KeysIn.put {K : PySem.W.Frag} {H : Hp} {es : List Ent} {k : List Key} {b : Addr} {v : V} (h : KeysIn K H es) (hb : SqT K H b (k.map kV)) : KeysIn K H (putE es k b v) := by
  intro e he
  rcases putE_mem he with ⟨e', h1, h2, h3, _⟩ | rfl
  · rw [h2, h3]
    exact h e' h1
  · exact hb

theorem entR_val {es : List Ent} {xs : List (List Key × Addr × Value)} (r : Paired EntR es xs) (k : List Key) : RelO (valE es k) ((atKey xs k).map (·.2)) := by
  induction r with
  | nil => exact True.intro
  | @cons p q ps qs h t ih =>
    obtain ⟨h1, _, h2⟩ := h
    by_cases e : p.1 = k
    · have e' : q.1 = k := h1.symm.trans e
      have b : atKey (q :: qs) k = some q.2 := by simp [atKey, List.find?_cons, e']
      rw [valE_pos e, b]; exact h2
    · have e' : ¬ q.1 = k := fun z => e (h1.trans z)
      have b : atKey (q :: qs) k = atKey qs k := by simp [atKey, List.find?_cons, e']
      rw [valE_neg e, b]; exact ih
theorem entR_put {es : List Ent} {xs : List (List Key × Addr × Value)} (r : Paired EntR es xs) (k : List Key) (b : Addr) {y : V} {u : Value} (ry : RelV y u) : Paired EntR (putE es k b y) (storedH xs k b u) := by
  have e : (valE es k).isSome = (atKey xs k).isSome := by
    rw [(entR_val r k).isSome_eq, Option.isSome_map]
  unfold putE storedH
  rw [e]
  by_cases q : (atKey xs k).isSome = true
  · rw [if_pos q, if_pos q]
    clear e q
    induction r with
    | nil => exact .nil
    | @cons p q ps qs h t ih =>
      rw [List.map_cons, List.map_cons]
      refine .cons ?_ ih
      obtain ⟨h1, h2, h3⟩ := h
      unfold putAt
      by_cases e : p.1 = k
      · rw [if_pos e, if_pos (h1.symm.trans e)]; exact ⟨h1, h2, ry⟩
      · rw [if_neg e, if_neg (fun z => e (h1.trans z))]; exact ⟨h1, h2, h3⟩
  · rw [if_neg q, if_neg q]
    exact Paired.snoc r ⟨rfl, rfl, ry⟩

section
variable {X : Cx} {pins : List (Addr × Obj)} {σ : St} {H : Hp} {s : Shared} {a b : Addr} {es : List Ent} {k : List Key} {A : Around} {E : Value → Shared → Prop}
theorem key_rd (I : Inv X pins σ H s) (h : SqT X.K H b (k.map kV)) : (tupleKind (mixKind X.prog X.w)).is s.heap k b := by
  obtain ⟨its, r, ⟨o, h1, h2, n, h3⟩, _⟩ := I.tuple h
  exact ⟨o, its.toArray, n, h1, h2, h3, by simpa using items_are r⟩
theorem dic_rd (I : Inv X pins σ H s) (ha : Rd H a (DicO X.prog X.w a es)) : DicR X.prog X.w a es s.heap := by
  have q : ObjOk X.prog X.w H s.heap a (DicO X.prog X.w a es) := ha.ok I.hok
  exact q.1
theorem dic_at (I : Inv X pins σ H s) (ha : Rd H a (DicO X.prog X.w a es)) (hk : KeysIn X.K H es) : es.length ≤ sizeLine ∧ (a == sysModules) = false ∧ (es.map (·.1)).Nodup ∧
    ∃ xs, Paired EntR es xs ∧ s.heap.DictOfH (tupleKind (mixKind X.prog X.w)) a xs := by
  obtain ⟨z, hd, hn, xs, r, o, ds, ep, h1, h2, h3, h4⟩ := dic_rd I ha
  refine ⟨z, hd, hn, xs, r, o, ds, ep, h1, h2, h3, h4, fun x hx => ?_, ?_⟩
  · have all : ∀ {l : List Ent} {m : List (List Key × Addr × Value)}, Paired EntR l m → (∀ e ∈ l, e ∈ es) → ∀ x ∈ m, (tupleKind (mixKind X.prog X.w)).is s.heap x.1 x.2.1 := by
      intro l m q
      induction q with
      | nil => intro _ x hx; exact nomatch hx
      | @cons p q ps qs hq t ih =>
        intro sub x hx
        rcases List.mem_cons.mp hx with e | hx
        · subst e
          rw [← hq.1, ← hq.2.1]
          exact key_rd I (hk p (sub p (List.mem_cons_self ..)))
        · exact ih (fun e he => sub e (List.mem_cons_of_mem _ he)) x hx
    exact all r (fun _ h => h) x hx
  · have e : es.map (·.1) = xs.map (·.1) := by
      clear h4 hn hk z ha
      induction r with
      | nil => rfl
      | @cons p q ps qs h t ih => rw [List.map_cons, List.map_cons, h.1, ih]
    rw [← e]
    exact hn
theorem dic_ok {P : Program} {w : World} {H' : Hp} {h' : Heap} {xs : List (List Key × Addr × Value)} (z : es.length ≤ sizeLine) (hd : (a == sysModules) = false) (hn : (es.map (·.1)).Nodup) (r : Paired EntR es xs)
    (dd : h'.DictOfH (tupleKind (mixKind P w)) a xs) : ObjOk P w H' h' a (DicO P w a es) := by
  obtain ⟨o, ds, ep, h1, h2, h3, h4, _, _⟩ := dd
  exact ⟨⟨z, hd, hn, xs, r, o, ds, ep, h1, h2, h3, h4⟩, ⟨o, h1⟩, fun u v p q => by
    obtain ⟨z, hd, hn, xs, r, o, ds, ep, e1, e2⟩ := p
    exact ⟨z, hd, hn, xs, r, o, ds, ep, q _ e1, e2⟩⟩
/-- the dict is another one -/
theorem dic_write {h' : Heap} {t' : Nat} {es' : List Ent} {xs : List (List Key × Addr × Value)} (I : Inv X pins σ H s) (ha : H a = some (DicO X.prog X.w a es)) (hs : Heap.SameBut a s.heap h')
    (z : es'.length ≤ sizeLine) (hd : (a == sysModules) = false) (hn : (es'.map (·.1)).Nodup) (r : Paired EntR es' xs) (dd : h'.DictOfH (tupleKind (mixKind X.prog X.w)) a xs) :
    Inv X pins σ (upd H a (DicO X.prog X.w a es')) { s with heap := h', toks := t' } := by
  obtain ⟨o, ds, ep, h1, rest⟩ := id dd
  exact d_write I (by rw [ha]; exact True.intro) hs ⟨o, h1⟩ (dic_ok z hd hn r dd)

/-- k in d -/
theorem dic_in {Q : Value → Shared → Prop} (hu : A.units + 1 < cLine) (I : Inv X pins σ H s) (ha : Rd H a (DicO X.prog X.w a es)) (hk : KeysIn X.K H es) (hb : SqT X.K H b (k.map kV))
    (h : ∀ s', Inv X pins σ H s' → Q (.bool (valE es k).isSome) s') : wpAny (model X.prog X.w) A (compareOp .In (.ref b) (.ref a)) Q E s := by
  obtain ⟨z, hd, hn, xs, r, dd⟩ := dic_at I ha hk
  refine wpAny_in_heap (tupleKind_room_in1 hu) (key_rd I hb) hd dd ?_
  have q := (entR_val r k).isSome_eq
  rw [Option.isSome_map] at q
  rw [← q]
  exact h _ (I.tok _)
theorem dic_notIn {Q : Value → Shared → Prop} (hu : A.units + 1 < cLine) (I : Inv X pins σ H s) (ha : Rd H a (DicO X.prog X.w a es)) (hk : KeysIn X.K H es) (hb : SqT X.K H b (k.map kV))
    (h : ∀ s', Inv X pins σ H s' → Q (.bool (!(valE es k).isSome)) s') : wpAny (model X.prog X.w) A (compareOp .NotIn (.ref b) (.ref a)) Q E s := by
  obtain ⟨z, hd, hn, xs, r, dd⟩ := dic_at I ha hk
  refine wpAny_notIn_heap (tupleKind_room_in1 hu) (key_rd I hb) hd dd ?_
  have q := (entR_val r k).isSome_eq
  rw [Option.isSome_map] at q
  rw [← q]
  exact h _ (I.tok _)
/-- d[k], there -/
theorem dic_get {v : V} {Q : Value → Shared → Prop} (hu : A.units + 1 < cLine) (I : Inv X pins σ H s) (ha : Rd H a (DicO X.prog X.w a es)) (hk : KeysIn X.K H es) (hb : SqT X.K H b (k.map kV)) (hv : valE es k = some v)
    (h : ∀ w' s', Inv X pins σ H s' → RelV v w' → Q w' s') : wpAny (model X.prog X.w) A (getItem (.ref a) (.ref b)) Q E s := by
  obtain ⟨z, hd, hn, xs, r, dd⟩ := dic_at I ha hk
  obtain ⟨w', hw, rw'⟩ := RelO.some_of (v := v) (o := (atKey xs k).map (·.2)) (by rw [← hv]; exact entR_val r k)
  obtain ⟨p, hp, hp2⟩ := Option.map_eq_some_iff.mp hw
  refine wpAny_getItem_heap (tupleKind_room_in1 hu) (key_rd I hb) dd hp ?_
  rw [hp2]
  exact h w' _ (I.tok _) rw'
/-- d[k] = v -/
theorem dic_set {v : V} {r0 : Value} {Q : Unit → Shared → Prop} (hu : A.units + 1 < cLine) (I : Inv X pins σ H s) (ha : H a = some (DicO X.prog X.w a es)) (hk : KeysIn X.K H es) (hb : SqT X.K H b (k.map kV)) (rv : RelV v r0) (hl : es.length < sizeLine)
    (h : ∀ s', Inv X pins σ (upd H a (DicO X.prog X.w a (putE es k b v))) s' → Q () s') : wpAny (model X.prog X.w) A (setItem (.ref a) (.ref b) r0) Q E s := by
  obtain ⟨z, hd, hn, xs, r, dd⟩ := dic_at I (.inl ha) hk
  have hz : xs.length ≤ sizeLine := by rw [← Paired.length r]; exact z
  have h2 := putE_len es k b v
  refine wpAny_setItem_heap (hsz := hz) (tupleKind_room_in1 hu) (key_rd I hb) dd fun h' dd' hs => h _ ?_
  exact dic_write I ha hs (by omega) hd (putE_nodup k b v hn) (entR_put r k b rv) dd'
/-- d.setdefault(k, v) -/
theorem dic_setd {v : V} {r0 : Value} {Q : Value → Shared → Prop} (hu : A.units + 1 < cLine) (I : Inv X pins σ H s) (ha : H a = some (DicO X.prog X.w a es)) (hk : KeysIn X.K H es) (hb : SqT X.K H b (k.map kV)) (rv : RelV v r0) (hl : es.length < sizeLine)
    (h1 : ∀ y, valE es k = some y → ∀ (w' : Value) (s' : Shared), Inv X pins σ H s' → RelV y w' → Q w' s')
    (h2 : valE es k = none → ∀ (w' : Value) (s' : Shared), Inv X pins σ (upd H a (DicO X.prog X.w a (putE es k b v))) s' → RelV v w' → Q w' s') :
    wpAny (model X.prog X.w) A (call (.builtin "dict.setdefault") [.ref a, .ref b, r0]) Q E s := by
  obtain ⟨z, hd, hn, xs, r, dd⟩ := dic_at I (.inl ha) hk
  have hz : xs.length ≤ sizeLine := by rw [← Paired.length r]; exact z
  have hl2 := putE_len es k b v
  refine call_setdefault_heap (hsz := hz) (tupleKind_room_in1 hu) (key_rd I hb) hd dd (fun p hp => ?_) fun hnone h' dd' hs => ?_
  · have q := entR_val r k
    rw [hp] at q
    cases q0 : valE es k with
    | none =>
      rw [q0] at q
      exact (show False from q).elim
    | some v0 =>
      rw [q0] at q
      exact h1 v0 q0 _ _ (I.tok _) q
  · have q := entR_val r k
    rw [hnone] at q
    cases q0 : valE es k with
    | some v0 =>
      rw [q0] at q
      exact (show False from q).elim
    | none => exact h2 q0 _ _ (dic_write I ha hs (by omega) hd (putE_nodup k b v hn) (entR_put r k b rv) dd') rv
/-- d.update(d2), d not empty -/
def putAll (es more : List Ent) : List Ent := more.foldl (fun acc e => putE acc e.1 e.2.1 e.2.2) es
theorem putAll_len : ∀ (more es : List Ent), (putAll es more).length ≤ es.length + more.length
  | [], es => by show es.length ≤ es.length + 0; omega
  | p :: r, es => by
    have h1 := putAll_len r (putE es p.1 p.2.1 p.2.2)
    have h2 := putE_len es p.1 p.2.1 p.2.2
    show (putAll (putE es p.1 p.2.1 p.2.2) r).length ≤ _
    rw [List.length_cons]; omega
theorem putAll_nodup : ∀ (more es : List Ent), (es.map (·.1)).Nodup → ((putAll es more).map (·.1)).Nodup
  | [], es, h => h
  | p :: r, es, h => putAll_nodup r _ (putE_nodup p.1 p.2.1 p.2.2 h)
theorem entR_putAll {more : List Ent} {ys : List (List Key × Addr × Value)} (q : Paired EntR more ys) : ∀ {es : List Ent} {xs : List (List Key × Addr × Value)}, Paired EntR es xs → Paired EntR (putAll es more) (storedAllH xs ys) := by
  induction q with
  | nil => intro es xs r; exact r
  | @cons p q ps qs h t ih =>
    intro es xs r
    have e : Paired EntR (putE es p.1 p.2.1 p.2.2) (storedH xs q.1 q.2.1 q.2.2) := by
      rw [← h.1, ← h.2.1]
      exact entR_put r p.1 p.2.1 h.2.2
    exact ih e
theorem dic_update {c : Addr} {more : List Ent} {Q : Value → Shared → Prop} (hu : A.units + 1 < cLine) (I : Inv X pins σ H s) (ha : H a = some (DicO X.prog X.w a es)) (hc : Rd H c (DicO X.prog X.w c more)) (hac : a ≠ c)
    (hk : KeysIn X.K H es) (hm : KeysIn X.K H more) (hne : es ≠ []) (hl : es.length + more.length ≤ sizeLine)
    (h : ∀ s', Inv X pins σ (upd H a (DicO X.prog X.w a (putAll es more))) s' → Q .none s') : wpAny (model X.prog X.w) A (call (.builtin "dict.update") [.ref a, .ref c]) Q E s := by
  obtain ⟨z, hd, hn, xs, r, dd⟩ := dic_at I (.inl ha) hk
  obtain ⟨z2, hd2, hn2, ys, r2, dd2⟩ := dic_at I hc hm
  have e1 := Paired.length r
  have e2 := Paired.length r2
  have hl2 := putAll_len more es
  refine call_update_dictH (tupleKind_room_in1 hu) hac hd2 dd dd2 (.inl fun e => hne ?_) (by omega) fun h' dd' _ hs => h _ ?_
  · rw [e] at r
    cases r
    rfl
  · have := dic_write (t' := s.toks) I ha hs (by omega) hd (putAll_nodup more es hn) (entR_putAll r2 r) dd'
    exact this
end
end L2
end
section
set_option Elab.async false
set_option linter.all false
set_option maxRecDepth 100000
set_option maxHeartbeats 2000000
/-! Dicts whose keys are tuples of texts: the rules for expressions. -/
namespace L2
open PySem PySem.Spec PyProof.Rows
section
variable {X : Cx}
/-- {}, to be such a dict -/
def tDicNew (P : Program) (w : World) : TE := fun _ H Q => ∀ p, H p = none → Q (.ref p) (upd H p (DicO P w p []))
theorem pe_dicNew {pos : Pos} : PE X (.Dict [] [] pos) (tDicNew X.prog X.w) := ⟨fun pins s σ H Q I h =>
  wpAny_Dict_empty ⟨.ref s.heap.objs.size, _, I.laid (a := s.heap.objs.size) (o := DicO X.prog X.w s.heap.objs.size []) (t' := s.toks) (fun _ _ q => Heap.get?_push_of_some _ q) (Nat.le_refl _)
    (dic_ok (xs := []) (Nat.zero_le _) (beq_eq_false_iff_ne.mpr (Ne.symm (Nat.ne_of_lt I.big))) List.nodup_nil .nil (Heap.DictOfH.new s.heap)), rfl, h _ (I.hok.fresh (Nat.le_refl _))⟩⟩
/-- k in d, k not in d -/
def rDicIn (X : Cx) (neg : Bool) : R2 := fun y x H Q => ∃ (a b : Addr) (es : List Ent) (k : List Key), x = .ref a ∧ y = .ref b ∧ Rd H a (DicO X.prog X.w a es) ∧ KeysIn X.K H es ∧ SqT X.K H b (k.map kV) ∧
  Q (.bl (if neg then !(valE es k).isSome else (valE es k).isSome)) H
theorem op_in_dic (hu : X.A.units + 1 < cLine) : OpR X (compareOp .In) (rDicIn X false) := by
  intro pins s σ H y x v u Q I ry rx h
  obtain ⟨a, b, es, k, rfl, rfl, ha, hk, hb, q⟩ := h
  cases ry
  cases rx
  exact dic_in hu I ha hk hb fun s' I' => ⟨.bl (valE es k).isSome, H, I', rfl, q⟩
theorem op_notIn_dic (hu : X.A.units + 1 < cLine) : OpR X (compareOp .NotIn) (rDicIn X true) := by
  intro pins s σ H y x v u Q I ry rx h
  obtain ⟨a, b, es, k, rfl, rfl, ha, hk, hb, q⟩ := h
  cases ry
  cases rx
  exact dic_notIn hu I ha hk hb fun s' I' => ⟨.bl (!(valE es k).isSome), H, I', rfl, q⟩
/-- d[k], there -/
def rDicIx (X : Cx) : R2 := fun x y H Q => ∃ (a b : Addr) (es : List Ent) (k : List Key) (v : V), x = .ref a ∧ y = .ref b ∧ Rd H a (DicO X.prog X.w a es) ∧ KeysIn X.K H es ∧ SqT X.K H b (k.map kV) ∧ valE es k = some v ∧ Q v H
theorem ix_dic (hu : X.A.units + 1 < cLine) : IxR X (rDicIx X) := by
  intro value slice pins s σ H x y v u Q I rx ry h hs
  obtain ⟨a, b, es, k, z, rfl, rfl, ha, hk, hb, hv, q⟩ := h
  cases rx
  cases ry
  have hT : s.TypeIs (.ref a) "dict" := by
    obtain ⟨_, _, _, xs, _, dd⟩ := dic_at I ha hk
    exact dd.typeIs
  obtain ⟨_, _, _, xs, r, dd⟩ := dic_at I ha hk
  obtain ⟨w', hw, rw'⟩ := RelO.some_of (v := z) (o := (atKey xs k).map (·.2)) (by rw [← hv]; exact entR_val r k)
  obtain ⟨p, hp, hp2⟩ := Option.map_eq_some_iff.mp hw
  refine subscriptTail_builtinR (x := w') hT PySem.F.slot_dict_getitem.lookup ?_ hs
  refine wpAny_getItem_heap (tupleKind_room_in1 hu) (key_rd I hb) dd hp ?_
  exact ⟨hp2, z, H, I.tok _, by rw [hp2]; exact rw', q⟩
/-- d[k] = v -/
def rDicSet (X : Cx) : V → V → V → Hp → (Hp → Prop) → Prop := fun o i v H Q => ∃ (a b : Addr) (es : List Ent) (k : List Key), o = .ref a ∧ i = .ref b ∧ H a = some (DicO X.prog X.w a es) ∧ KeysIn X.K H es ∧ SqT X.K H b (k.map kV) ∧ es.length < sizeLine ∧
  Q (upd H a (DicO X.prog X.w a (putE es k b v)))
theorem set_dic (hu : X.A.units + 1 < cLine) : PSet X (rDicSet X) := by
  intro pins s σ H o i v ov iv u Q I ro ri rv h
  obtain ⟨a, b, es, k, rfl, rfl, ha, hk, hb, hl, q⟩ := h
  cases ro
  cases ri
  exact dic_set hu I ha hk hb rv hl fun s' I' => ⟨_, I', q⟩
/-- a method of such a dict -/
def tDicM (X : Cx) (r : V → List V → Hp → VK → Prop) (to : TE) (t : TA) : TE := fun σ H Q => to σ H fun x H1 => (∃ (a : Addr) (es : List Ent), x = V.ref a ∧ Rd H1 a (DicO X.prog X.w a es)) ∧ t σ H1 fun xs H2 => r x xs H2 Q
theorem dic_type {pins : List (Addr × Obj)} {σ : St} {H : Hp} {s : Shared} {a : Addr} {es : List Ent} (I : Inv X pins σ H s) (ha : Rd H a (DicO X.prog X.w a es)) :
    s.TypeIs (.ref a) "dict" ∧ ∀ b, Value.ref a = .ref b → ∃ ob, s.heap.get? b = some ob ∧ ob.dict = none := by
  obtain ⟨_, _, _, _, _, o, _, _, h1, h2, _⟩ := dic_rd I ha
  exact ⟨⟨o, h1, h2.1⟩, fun b e => by cases e; exact ⟨o, h1, h2.2.1⟩⟩
theorem pe_dicM {o e : Expr} {es : List Expr} {to : TE} {t : TA} {name : Str} {apos cpos : Pos} {id : String} {r : V → List V → Hp → VK → Prop} (slot : Slot "dict" name id) (hty : typeOf (.builtin id) = pure (.type "method_descriptor")) (hm : MtR X id r) (ho : PE X o to) (ha : PA X (e :: es) t)
    (hbase : attributeBase o name X.env (eval o X.env) = eval o X.env := by rfl)
    (hfew : ((backTo cpos (starEach (e :: es) X.env)).all (fun x => !x.1) && (backToKw cpos (keywordEach [] X.env)).all (fun x => x.1.isSome)
      && decide ((e :: es).length + ([] : List Keyword).length + (if ([] : List Keyword).isEmpty then 0 else 1) < 30)) = true := by rfl)
    (hline : (apos.endLine == cpos.line) = true := by rfl) (hs : starEach (e :: es) X.env = (false, eval e X.env) :: starEach es X.env := by rfl) (hplain : (backTo cpos (starEach es X.env)).any (·.1) = false := by rfl) :
    PE X (.Call (.Attribute o name apos) (e :: es) [] cpos) (tDicM X r to t) := by
  refine ⟨fun pins s σ H Q I h => ?_⟩
  refine wpAny_Call_method_late hbase hfew hline rfl (thn (ho.run pins s σ H _ I h) fun v s1 ⟨x, H1, I1, r1, ty, q1⟩ => ?_)
  obtain ⟨a, es, rfl, hka⟩ := ty
  obtain ⟨h1, h2⟩ := dic_type I1 hka
  cases r1
  refine ⟨"dict", id, PySem.F.plainAttrs_dict, slot, hty, h1, h2, ?_⟩
  have hA := ha.run cpos pins s1 σ H1 _ I1 q1
  rw [hs] at hA ⊢
  refine Calls.callWith_builtin (by show (false || (backTo cpos (starEach _ X.env)).any (·.1)) = false; rw [hplain] <;> rfl) (Calls.evalArgs_plain ?_)
  exact thn hA fun us s2 ⟨vs, H2, I2, r2, q2⟩ => hm pins s2 σ H2 (.ref a) vs (.ref a) us Q I2 rfl r2 q2
/-- d.setdefault(k, v) -/
def rDicSetd (X : Cx) : V → List V → Hp → VK → Prop := fun x xs H Q => ∃ (a b : Addr) (es : List Ent) (k : List Key) (v : V), x = .ref a ∧ xs = [.ref b, v] ∧ H a = some (DicO X.prog X.w a es) ∧ KeysIn X.K H es ∧ SqT X.K H b (k.map kV) ∧ es.length < sizeLine ∧
  (∀ y, valE es k = some y → Q y H) ∧ (valE es k = none → Q v (upd H a (DicO X.prog X.w a (putE es k b v))))
theorem mt_dicSetd (hu : X.A.units + 1 < cLine) : MtR X "dict.setdefault" (rDicSetd X) := by
  intro pins s σ H x xs v us Q I rx rxs h
  obtain ⟨a, b, es, k, d, rfl, rfl, ha, hk, hb, hl, q1, q2⟩ := h
  cases rx
  obtain ⟨u1, u2, rfl, r1, r2⟩ := vals2 rxs
  cases r1
  exact dic_setd hu I ha hk hb r2 hl (fun y hy w' s' I' rw' => ⟨y, H, I', rw', q1 y hy⟩) fun hn w' s' I' rw' => ⟨d, _, I', rw', q2 hn⟩
/-- d.update(d2), d not empty -/
def rDicUpd (X : Cx) : V → List V → Hp → VK → Prop := fun x xs H Q => ∃ (a c : Addr) (es more : List Ent), x = .ref a ∧ xs = [.ref c] ∧ a ≠ c ∧ H a = some (DicO X.prog X.w a es) ∧ Rd H c (DicO X.prog X.w c more) ∧ KeysIn X.K H es ∧ KeysIn X.K H more ∧ es ≠ [] ∧
  es.length + more.length ≤ sizeLine ∧ Q .non (upd H a (DicO X.prog X.w a (putAll es more)))
theorem mt_dicUpd (hu : X.A.units + 1 < cLine) : MtR X "dict.update" (rDicUpd X) := by
  intro pins s σ H x xs v us Q I rx rxs h
  obtain ⟨a, c, es, more, rfl, rfl, hac, ha, hc, hk, hm, hne, hl, q⟩ := h
  cases rx
  obtain ⟨u1, rfl, r1⟩ := vals1 rxs
  cases r1
  exact dic_update hu I ha hc hac hk hm hne hl fun s' I' => ⟨.non, _, I', rfl, q⟩
/-- the entries' own tuples in a row -/
abbrev entRefs (es : List Ent) : List V := es.map fun e => V.ref e.2.1
theorem entR_refs {es : List Ent} {xs : List (List Key × Addr × Value)} (r : Paired EntR es xs) : xs.map (fun x => x.2.1) = es.map fun e => e.2.1 := by
  induction r with
  | nil => rfl
  | @cons p q ps qs h t ih => rw [List.map_cons, List.map_cons, ih, h.2.1]
/-- what comes out of a walk over the raw entries -/
theorem dic_items {P : Program} {w : World} {es : List Ent} {xs : List (List Key × Addr × Value)} {ds : Array DictEntry} {acc : Array Value} (r : Paired EntR es xs) (he : ds.toList = xs.map (entryOfKey (tupleKind (mixKind P w))))
    (it : ItemsOf (fun i v => ∃ en : DictEntry, ds[i]? = some en ∧ v = en.key) acc ds.size) : acc.toList = es.map fun e => Value.ref e.2.1 := by
  have l1 : ds.size = xs.length := size_of_entries he
  have ea : acc.toList = xs.map fun x => Value.ref x.2.1 := by
    have hl : acc.toList.length = xs.length := by rw [Array.length_toList, it.1]; exact l1
    apply List.ext_getElem?
    intro j
    rw [List.getElem?_map]
    cases hj : acc.toList[j]? with
    | none =>
      have h1 := List.getElem?_eq_none_iff.mp hj
      rw [List.getElem?_eq_none (by omega)]
      all_goals rfl
    | some v =>
      obtain ⟨en, hen, hv⟩ := it.2 j v (by rw [← Array.getElem?_toList]; exact hj)
      have qe := entry_at he j
      rw [hen] at qe
      cases hb : xs[j]? with
      | none =>
        rw [hb] at qe
        exact nomatch (show some en = none from qe)
      | some b =>
        rw [hb] at qe
        have e2 : en = entryOfKey (tupleKind (mixKind P w)) b := Option.some.inj qe
        rw [hv, e2]
        all_goals rfl
  have e := congrArg (List.map Value.ref) (entR_refs r)
  rw [List.map_map, List.map_map] at e
  exact ea.trans e
theorem entVals : ∀ es : List Ent, Vals (entRefs es) (es.map fun e => Value.ref e.2.1)
  | [] => .nil
  | _ :: r => .cons rfl (entVals r)
/-- list(d) -/
theorem call_list_dic (hc : X.calm = true) : CallR X (.type "list") (fun xs H Q => ∃ (a : Addr) (es : List Ent), xs = [V.ref a] ∧ Rd H a (DicO X.prog X.w a es) ∧ ∀ p, H p = none → Q (.ref p) (upd H p (.lst (entRefs es)))) := by
  intro pins s σ H xs us Q I r h
  obtain ⟨a, es, rfl, hd, q⟩ := h
  obtain ⟨u, rfl, rx⟩ := r.one
  cases rx
  obtain ⟨z, hs, hn, ks, pr, o, ds, ep, ho, hx, hdt, he⟩ := dic_rd I hd
  have l1 : ds.size = ks.length := size_of_entries he
  have l2 : es.length = ks.length := Paired.length pr
  refine PySem.W.kdl_call (kdl_raw hs hx hdt) (I.ok.hd hc) ho (by omega) fun h' tk acc' c' kp e it => ?_
  have ea := dic_items pr he it
  have rv : Vals (entRefs es) acc'.toList := by
    rw [ea]
    exact entVals es
  have hz : (entRefs es).length ≤ sizeLine := by rw [List.length_map]; exact z
  refine ⟨.ref s.heap.objs.size, _, I.laid (t' := tk) (o := .lst (entRefs es)) kp (Nat.le_refl _) ?_, rfl, q _ (I.hok.fresh (Nat.le_refl _))⟩
  exact ⟨hz, acc'.toList, c', rv, by rw [Array.toArray_toList]; exact e⟩
end
end L2
end
section
set_option Elab.async false
set_option linter.all false
set_option maxRecDepth 100000
set_option maxHeartbeats 2000000
/-! Dicts whose keys are tuples of texts: walks, sorted. -/
namespace L2
open PySem PySem.Spec PyProof.Rows
/-- the keys of the locked dict at d, in their order: the keys' own tuples -/
def ItD (P : Program) (w : World) (d : Addr) (o : Obj) (es : List Ent) : It :=
  ⟨fun i H => H d = some (.frz o (DicO P w d es)) ∧ i < es.length, fun i H x H' => H' = H ∧ ∃ e, es[i]? = some e ∧ x = .ref e.2.1, fun i H => H d = some (.frz o (DicO P w d es)) ∧ es.length ≤ i⟩
theorem dic_frz {X : Cx} {pins : List (Addr × Obj)} {σ : St} {H : Hp} {s : Shared} {d : Addr} {o : Obj} {es : List Ent} (I : Inv X pins σ H s) (h : H d = some (.frz o (DicO X.prog X.w d es))) :
    (d == sysModules) = false ∧ s.heap.get? d = some o ∧ o.ExactDict ∧ es.length ≤ sizeLine ∧ ∃ (ds : Array DictEntry) (ep : Nat), o.data = .dict ds ep ∧ ds.size = es.length ∧
      ∀ (i : Nat) (e : Ent), es[i]? = some e → ∃ en : DictEntry, ds[i]? = some en ∧ en.key = .ref e.2.1 := by
  obtain ⟨hd, q⟩ := (show ObjOk X.prog X.w H s.heap d (.frz o (DicO X.prog X.w d es)) from I.hok d _ h)
  obtain ⟨z, hs, hn, xs, pr, o', ds, ep, ho, hx, hdt, he⟩ := (show ObjOk X.prog X.w H s.heap d (DicO X.prog X.w d es) from q).1
  rw [hd] at ho
  cases ho
  have l1 : ds.size = xs.length := size_of_entries he
  have l2 : es.length = xs.length := Paired.length pr
  refine ⟨hs, hd, hx, z, ds, ep, hdt, by omega, fun i e hi => ?_⟩
  obtain ⟨b, hb, e1, e2, e3⟩ := paired_get pr hi
  have q := entry_at he i
  rw [hb] at q
  exact ⟨_, q, by rw [e2]; all_goals rfl⟩
theorem turn_dic {P : Program} {w : World} {K : PySem.W.Frag} {tg : Expr} {d : Addr} {o : Obj} {ds : Array DictEntry} {ep : Nat} {es : List Ent} (it : Addr) (hod : o.data = .dict ds ep) : Turn P w K tg (ItD P w d o es) [it] it (fun i h => h.IsKeyIter it d i es.length ep) where
  mem := by simp
  obj := fun i h st b hb => by
    have e : b = it := by simpa using hb
    subst e
    obtain ⟨oi, e, c, dd⟩ := st
    exact ⟨oi, e, fun v z => by rw [dd] at z; cases z⟩
  keep := fun i h h' st k => st.at fun oi e => k it (by simp) oi e
  item := by
    intro X hP hw hK hc i pins s σ H E I hf st hg
    subst hP hw hK
    obtain ⟨hd, hi⟩ := hg
    obtain ⟨f0, f1, f2, f3, f4, f5⟩ := hf it (by simp)
    obtain ⟨hs, hgd, hx, hz, ds', ep', hdt, hsz, ent⟩ := dic_frz I hd
    obtain ⟨rfl, rfl⟩ := dict_ep hod hdt
    obtain ⟨e, hkv⟩ : ∃ p, es[i]? = some p := ⟨es[i], List.getElem?_eq_getElem hi⟩
    obtain ⟨en, hen, hkey⟩ := ent i e hkv
    refine next_key_item st hgd hdt hsz hen fun h' st' sb => ?_
    have I1 : Inv X pins σ H { s with heap := h' } := I.turned (t' := s.toks) (fun b ob hb e => (sb.2 b hb).trans e) f0 f1 f3 f4 f5
    obtain ⟨oi, e0, c, dd⟩ := id st'
    exact ⟨en.key, rfl, go_of (s := { s with heap := h' }) e0 c dd (by decide) ⟨.ref e.2.1, H, I1, hkey, ⟨rfl, e, hkv, rfl⟩, st', fun b hb => (hf b hb).1⟩⟩
  done := by
    intro X hP hw hK hc i pins s σ H E I hf st hg
    subst hP hw hK
    obtain ⟨hd, hi⟩ := hg
    obtain ⟨f0, f1, f2, f3, f4, f5⟩ := hf it (by simp)
    obtain ⟨hs, hgd, hx, hz, ds', ep', hdt, hsz, ent⟩ := dic_frz I hd
    obtain ⟨rfl, rfl⟩ := dict_ep hod hdt
    exact next_key_end (I.ok.hd hc) st hgd hdt hsz hi fun h' eb => ⟨rfl, I.turned (t' := s.toks) (fun b ob hb e => eb b ob hb e) f0 f1 f3 f4 f5⟩
  self := fun A i s Q E st h => by
    refine wpAny_pyIter_slot st.typeIs F.slot_dict_keyiterator_iter (wpAny_call_entry F.slot_dict_keyiterator_iter st.typeIs F.entry_dict_keyiterator_iter ?_ (F.args_dict_keyiterator_iter_1 _))
    show wpAny _ _ (ret (.ref it)) _ _ s
    exact wpAny_pure ⟨_, rfl, "dict_keyiterator", _, st.typeIs, F.slot_dict_keyiterator_next.lookup, h⟩
def iDic (P : Program) (w : World) (td : TE) : TI := fun σ H R => td σ H fun x H1 => ∃ (d : Addr) (o : Obj) (es : List Ent), x = .ref d ∧ H1 d = some (.frz o (DicO P w d es)) ∧ R (ItD P w d o es) H1
theorem pi_dic {X : Cx} {tg e : Expr} {td : TE} (he : PE X e td) : PI X tg e (iDic X.prog X.w td) := by
  refine ⟨fun pins s σ H R I h => ?_⟩
  refine thn (he.run pins s σ H _ I h) fun u s1 ⟨x, H1, I1, rx, d, o, es, ex, hd, q⟩ => ?_
  subst ex
  obtain rfl : u = Value.ref d := rx
  obtain ⟨hs, hgd, hx, hz, ds, ep, hdt, hsz, ent⟩ := dic_frz I1 hd
  refine iter_keys hs hgd hx hdt (pi_one (tk := s1.toks) I1 _ (turn_dic _ hdt) ⟨_, Heap.get?_push_size _ rfl, rfl, ?_⟩ q)
  rw [hsz] <;> rfl
theorem walk_dic {P : Program} {w : World} {d : Addr} {o : Obj} {es : List Ent} : Walk (ItD P w d o es) es.length (fun H => H d = some (.frz o (DicO P w d es))) (YAt (entRefs es)) :=
  ⟨fun _ _ hi q => ⟨q, hi⟩, fun _ q => ⟨q, Nat.le_refl _⟩, fun i _ _ _ _ _ y => ⟨y.1, by
    obtain ⟨e, h1, h2⟩ := y.2
    rw [List.getElem?_map, h1, h2]
    rfl⟩⟩

/-! ### sorted -/
def keyD : Key → PyData
  | .inl i => .int i
  | .inr z => .str z
/-- a tuple of texts and its address -/
abbrev Tx := Addr × List Key
def encT (b : Tx) : PyData := .tuple (b.2.map keyD)
def leT : Tx → Tx → Bool := PySem.W.dataLe false encT
theorem readsKeys {h : Heap} : ∀ {ks : List Key} {us : List Value}, Vals (ks.map kV) us → ReadsAll h us (ks.map keyD) []
  | [], _, r => by
    rw [List.map_nil] at r
    cases r
    exact .nil
  | k :: ks, _, r => by
    rw [List.map_cons] at r
    cases r with
    | cons r1 r2 =>
      rename_i u us
      rw [List.map_cons]
      have t := readsKeys (h := h) r2
      cases k with
      | inl i =>
        obtain ⟨t1, rfl⟩ := r1
        exact ReadsAll.cons (as := []) (bs := []) (.int i t1) t
      | inr z =>
        obtain ⟨t1, rfl⟩ := r1
        exact ReadsAll.cons (as := []) (bs := []) (.str z t1) t
theorem depthKeys : ∀ ks : List Key, PyData.depthAll (ks.map keyD) = 0
  | [] => by simp [PyData.depthAll]
  | k :: ks => by
    rw [List.map_cons, PyData.depthAll, depthKeys ks]
    cases k <;> simp [keyD, PyData.depth]
theorem depthT (b : Tx) : (encT b).depth = 1 := by
  unfold encT
  rw [PyData.depth, depthKeys]
section
variable {X : Cx} {pins : List (Addr × Obj)} {σ : St} {H : Hp} {s : Shared}
theorem readsT (I : Inv X pins σ H s) {b : Tx} (h : SqT X.K H b.1 (b.2.map kV)) : ∃ as, Reads s.heap (.ref b.1) (encT b) as := by
  obtain ⟨its, r, ⟨o, h1, h2, n, h3⟩, _⟩ := I.tuple h
  exact ⟨[], .tuple h1 h2 h3 (by simpa using readsKeys r)⟩
theorem readsTs (I : Inv X pins σ H s) : ∀ {bs : List Tx}, (∀ b ∈ bs, SqT X.K H b.1 (b.2.map kV)) →
    PySem.W.EachIs (fun v b => ∃ as, Reads s.heap v (encT b) as) (bs.map fun b => Value.ref b.1) bs
  | [], _ => .nil
  | b :: bs, h => .cons (readsT I (h b (List.mem_cons_self ..))) (readsTs I fun c hc => h c (List.mem_cons_of_mem _ hc))
theorem each_refs : ∀ bs : List Tx, PySem.W.EachIs (fun v (b : Tx) => v = Value.ref b.1) (bs.map fun b => Value.ref b.1) bs
  | [] => .nil
  | _ :: r => .cons rfl (each_refs r)
theorem of_each : ∀ {out : List Value} {bs : List Tx}, PySem.W.EachIs (fun v (b : Tx) => v = Value.ref b.1) out bs → out = bs.map fun b => Value.ref b.1
  | _, _, .nil => rfl
  | _, _, .cons h t => by rw [List.map_cons, h, of_each t]
theorem txVals : ∀ bs : List Tx, Vals (bs.map fun b => V.ref b.1) (bs.map fun b => Value.ref b.1)
  | [] => .nil
  | _ :: r => .cons rfl (txVals r)
/-- what may be sorted: every key begins, and any two are of one kind place by place -/
def SortT (bs : List Tx) : Prop := PySem.W.AllAlike (bs.map encT) ∧ ∀ b ∈ bs, b.2 ≠ []
theorem SortT.able {bs : List Tx} (h : SortT bs) : PySem.W.Sortable (bs.map encT) := .inl fun d hd => by
  obtain ⟨b, hb, rfl⟩ := List.mem_map.mp hd
  have ne := h.2 b hb
  unfold encT
  cases e : b.2 with
  | nil => exact (ne e).elim
  | cons k ks => exact ⟨keyD k, ks.map keyD, by rw [List.map_cons]⟩
theorem mergeT_len (bs : List Tx) : (bs.mergeSort leT).length = bs.length := (List.mergeSort_perm bs leT).length_eq
/-- sorted(l) of a list of tuples -/
theorem cr_sortT (hu : X.A.units + 64 < cLine) : CallR X (.builtin "sorted") (fun vs H Q => ∃ (a : Addr) (bs : List Tx), vs = [V.ref a] ∧ SqL X.K H a (bs.map fun b => V.ref b.1) ∧ (∀ b ∈ bs, SqT X.K H b.1 (b.2.map kV)) ∧ SortT bs ∧
    ∀ p, H p = none → Q (.ref p) (upd H p (.lst ((bs.mergeSort leT).map fun b => V.ref b.1)))) := by
  intro pins s σ H xs us Q I r h
  obtain ⟨a, bs, rfl, ha, hb, hs, q⟩ := h
  obtain ⟨u, rfl, rx⟩ := vals1 r
  cases rx
  obtain ⟨its, rv, pl, hz⟩ := I.list ha
  have ei : its = bs.map fun b => Value.ref b.1 := by
    have e := refs_at (ps := bs.map (·.1)) (us := its) (by rw [List.map_map]; exact rv)
    rw [e, List.map_map]
    all_goals rfl
  subst ei
  rw [List.length_map] at hz
  refine PySem.W.sorted_data (R := fun v (b : Tx) => v = Value.ref b.1) (enc := encT) (bs := bs) (vs := bs.map fun b => Value.ref b.1) pl.isList (each_refs bs) (readsTs I hb) hs.1 hs.able hz (fun b _ => by rw [depthT]; omega) fun out hl eo => ?_
  have eo' : out = (bs.mergeSort leT).map fun b => Value.ref b.1 := of_each eo
  subst eo'
  obtain ⟨c, hc⟩ := PyProof.Rows.sortedAll_at s.heap (bs.map fun b => Value.ref b.1) ((bs.mergeSort leT).map fun b => Value.ref b.1).toArray
  have hn : H (s.heap.objs.size + 1) = none := I.hok.fresh (Nat.le_succ _)
  refine ⟨.ref (s.heap.objs.size + 1), upd H (s.heap.objs.size + 1) (.lst ((bs.mergeSort leT).map fun b => V.ref b.1)), I.laid (t' := s.toks) (fun b o e => PyProof.Rows.sortedAll_old e) (Nat.le_succ _) ?_, rfl, q _ hn⟩
  exact ⟨by rw [List.length_map, mergeT_len]; exact hz, _, c, txVals _, hc⟩
/-- sorted(d) of a dict with such keys -/
theorem cr_sortDic (hcalm : X.calm = true) (hu : X.A.units + 64 < cLine) : CallR X (.builtin "sorted") (fun vs H Q => ∃ (a : Addr) (es : List Ent), vs = [V.ref a] ∧ Rd H a (DicO X.prog X.w a es) ∧ KeysIn X.K H es ∧ SortT (es.map fun e => (e.2.1, e.1)) ∧
    ∀ p, H p = none → Q (.ref p) (upd H p (.lst (((es.map fun e => (e.2.1, e.1)).mergeSort leT).map fun b => V.ref b.1)))) := by
  intro pins s σ H xs us Q I r h
  obtain ⟨a, es, rfl, ha, hk, hs, q⟩ := h
  obtain ⟨u, rfl, rx⟩ := vals1 r
  cases rx
  obtain ⟨z, lo, hn, ks, pr, o, ds, ep, ho, hx, hdt, he⟩ := dic_rd I ha
  have l1 : ds.size = ks.length := size_of_entries he
  have l2 : es.length = ks.length := Paired.length pr
  refine Calls.call_function_entry PyProof.Rows.kind_sorted PyProof.Rows.plain_sorted PyProof.Rows.entry_sorted (PyProof.Rows.args_sorted1 _) ?_
  unfold Builtin.«sorted»
  refine wpAny_bind (m := checkCount "sorted" 1 1 _) (wpAny_pure ?_)
  refine wpAny_bind (PySem.W.kdu_collect (A := X.A.in1) (kdl_raw lo hx hdt) (I.ok.hd hcalm) ho (by omega) fun h' tk acc hk2 it => ?_)
  have ea := dic_items pr he it
  have I1 : Inv X pins σ H { s with heap := h', toks := tk } := I.kept hk2
  generalize hbs : (es.map fun e : Ent => ((e.2.1, e.1) : Tx)) = bs at hs q
  have ea2 : acc.toList = bs.map fun b => Value.ref b.1 := by
    rw [ea, ← hbs, List.map_map]
    all_goals rfl
  have hlb : bs.length = es.length := by rw [← hbs, List.length_map]
  have hb : ∀ b ∈ bs, SqT X.K H b.1 (b.2.map kV) := by
    intro b hb
    rw [← hbs] at hb
    obtain ⟨e, he, rfl⟩ := List.mem_map.mp hb
    exact hk e he
  rw [ea2]
  refine wpAny_bind (wpAny_newList ?_ (by rw [List.length_map]; omega))
  have hoL : (h'.push (seqObj "list" (bs.map fun b => Value.ref b.1).toArray 0)).get? h'.objs.size = some (seqObj "list" (bs.map fun b => Value.ref b.1).toArray 0) := Heap.get?_push_size _ rfl
  show wpAny _ _ _ _ _ { s with heap := h'.push (seqObj "list" (bs.map fun b => Value.ref b.1).toArray 0), toks := tk }
  have rd : PySem.W.EachIs (fun v (b : Tx) => ∃ as, Reads (h'.push (seqObj "list" (bs.map fun b => Value.ref b.1).toArray 0)) v (encT b) as ∧ h'.objs.size ∉ as) (bs.map fun b => Value.ref b.1) bs := by
    have go : ∀ cs : List Tx, (∀ b ∈ cs, SqT X.K H b.1 (b.2.map kV)) → PySem.W.EachIs (fun v (b : Tx) => ∃ as, Reads (h'.push (seqObj "list" (bs.map fun b => Value.ref b.1).toArray 0)) v (encT b) as ∧ h'.objs.size ∉ as) (cs.map fun b => Value.ref b.1) cs := by
      intro cs
      induction cs with
      | nil => intro _; exact .nil
      | cons c cs ih =>
        intro hc
        refine .cons ?_ (ih fun d hd => hc d (List.mem_cons_of_mem _ hd))
        obtain ⟨its, rr, ⟨oo, h1, h2, n, h3⟩, _⟩ := I1.tuple (hc c (List.mem_cons_self ..))
        exact ⟨[], .tuple (Heap.get?_push_of_some _ h1) h2 h3 (by simpa using readsKeys rr), fun q => nomatch q⟩
    exact go bs hb
  refine wpAny_bind (wpAny_holding (PySem.W.list_sort_data (s := { s with heap := h'.push (seqObj "list" (bs.map fun b => Value.ref b.1).toArray 0), toks := tk }) (R := fun v (b : Tx) => v = Value.ref b.1) (enc := encT) (bs := bs) (vs := bs.map fun b => Value.ref b.1)
    hoL (each_refs bs) rd hs.1 hs.able (by omega) (fun b _ => by rw [depthT]; show X.A.units + 1 + 1 + 1 < cLine; omega) fun out hl eo => ?_))
  have eo' : out = (bs.mergeSort leT).map fun b => Value.ref b.1 := of_each eo
  subst eo'
  obtain ⟨c, hc⟩ := PyProof.Rows.sortedHeap_at (vs := bs.map fun b => Value.ref b.1) (out := ((bs.mergeSort leT).map fun b => Value.ref b.1).toArray) hoL
  refine wpAny_pure ⟨_, rfl, .ref h'.objs.size, upd H h'.objs.size (.lst ((bs.mergeSort leT).map fun b => V.ref b.1)), I1.laid (t' := tk) (fun b u e => ?_) (Nat.le_refl _)
    (show ObjOk X.prog X.w _ _ _ (.lst ((bs.mergeSort leT).map fun b => V.ref b.1)) from ⟨by rw [List.length_map, mergeT_len]; omega, _, c, txVals _, hc⟩), rfl, q _ (I1.hok.fresh (Nat.le_refl _))⟩
  have hbl : b < h'.objs.size := Heap.lt_size e
  rw [PyProof.Rows.sortedHeap_old (Nat.ne_of_lt hbl) (by rw [size_push']; exact Nat.lt_succ_of_lt hbl)]
  exact Heap.get?_push_of_some _ e
end
end L2
end
section
set_option Elab.async false
set_option linter.all false
set_option maxRecDepth 100000
set_option maxHeartbeats 2000000
/-! Sets of texts: made anew, add, sorted. -/
namespace L2
open PySem PySem.Spec PyProof.Rows PySem.Froz
/-- the set of the texts l at a, no text twice in l -/
def SetS (P : Program) (w : World) (a : Addr) (l : List Str) (h : Heap) : Prop :=
  ∃ D : SD, h.get? a = some (sObj "set" D) ∧ TxOk P w D l ∧ l.Nodup ∧ l.length < scanBound ∧ Ris D.2.2.place.toList ∧ (w.params.followText "set-order" = true ∨ D.2.2.led = true)
theorem tailTx_ris {ep : Nat} {es1 : Array (Int × Value)} {t2 : SetTable} {wd : Bool} (r : Ris t2.place.toList) : Ris (tailTx ep es1 t2 wd).2.2.place.toList := by
  unfold tailTx
  split
  · exact relayAll_ris t2 es1 _
  · exact r
theorem tailTx_led {ep : Nat} {es1 : Array (Int × Value)} {t2 : SetTable} {wd : Bool} : (tailTx ep es1 t2 wd).2.2.led = t2.led := by
  unfold tailTx
  split
  · exact relayAll_led t2 es1 _
  · rfl
theorem addTx_ris {h : Int} {v : Value} {D : SD} (r : Ris D.2.2.place.toList) : Ris (addTx h v D).2.2.place.toList := by
  have q := layNew_ris D.2.2 D.1 h v r
  unfold addTx
  refine tailTx_ris ?_
  split
  · exact q
  · exact q
theorem addTx_led {h : Int} {v : Value} {D : SD} : (addTx h v D).2.2.led = D.2.2.led := by
  have q := layNew_led D.2.2 D.1 h v
  unfold addTx
  rw [tailTx_led]
  split
  · exact q
  · exact q
section
variable {P : Program} {w : World} {A : Around} {E : Value → Shared → Prop} {s : Shared} {a : Addr} {l : List Str} {k : Str} {u : Tok}
/-- the text is in the set -/
theorem old_x {D : SD} {Q : Bool → Shared → Prop} (ho : s.heap.get? a = some (sObj "set" D)) (F : TxOk P w D l) (hk : k ∈ l) (hb : l.length < scanBound) (h : Q false s) :
    wpAny (model P w) A (setAddHashed a (.str k u) (hashStr w k)) Q E s := by
  obtain ⟨es, ep, t⟩ := D
  have hd : (sObj "set" (es, ep, t)).data = .set es ep t := rfl
  have hsz : es.size = l.length := F.sz
  have hkey : (strKind P w).is k (.str k u) = true := is_str k u
  obtain ⟨j, hj⟩ : ∃ j, List.findIdx? (fun e => (strKind P w).is k e.2) es.toList = some j := by
    obtain ⟨e, he, q⟩ := (F.mem k).mp hk
    cases hr : List.findIdx? (fun e => (strKind P w).is k e.2) es.toList with
    | some j => exact ⟨j, rfl⟩
    | none =>
      have c := List.findIdx?_eq_none_iff.mp hr e he
      rw [q] at c
      cases c
  unfold setAddHashed setAddHashedIn
  refine wpAny_holding (wpAny_bind (wpAny_setState_of ho hd F.fit ?_))
  dsimp only
  rw [byScan_of rfl (show es.size < scanBound by omega) F.el]
  simp only [↓reduceIte]
  unfold setAddByScan
  refine wpAny_bind ?_
  refine wpAny_bind (wpAny_rule ?_)
  refine wpAny_bind (wpAny_setScan_of (knd := strKind P w) (k := k) hkey ho hd F.fit F.el ?_)
  rw [hj]
  dsimp only
  exact wpAny_pure (wpAny_pure h)
/-- found.add(k) -/
theorem setS_add {Q : Value → Shared → Prop} (R : SetS P w a l s.heap) (hb : l.length + 1 < scanBound)
    (hQ : ∀ h' l', Heap.SameBut a s.heap h' → SetS P w a l' h' → (∀ z, z ∈ l' ↔ z = k ∨ z ∈ l) → l'.length ≤ l.length + 1 → Q .none { s with heap := h', toks := s.toks + 1 }) :
    wpAny (model P w) A (call (.builtin "set.add") [.ref a, .str k u]) Q E s := by
  obtain ⟨D, ho, F, nd, hz0, hr, hl⟩ := R
  refine wpAny_call_entry PySem.F.slot_set_add ⟨_, ho, rfl⟩ PySem.F.entry_set_add ?_ (PySem.F.args_set_add_2 _ _)
  unfold Builtin.«set.add» Builtin.Frozenset.oneOther
  simp only [List.isEmpty_nil, bind_assoc]
  unfold Builtin.Frozenset.addrOf setAdd
  refine wpAny_bind (wpAny_pure ?_)
  try dsimp only
  refine wpAny_bind (wpAny_pure ?_)
  try dsimp only
  refine wpAny_bind ?_
  refine wpAny_holding ?_
  refine wpAny_bind ((strKind P w).pyHash (is_str k u) ?_)
  by_cases hk : k ∈ l
  · refine old_x (s := { s with toks := s.toks + 1 }) ho F hk (by omega) ?_
    show wpAny _ _ (ret Value.none) _ _ _
    exact wpAny_pure ⟨_, rfl, hQ s.heap l (Heap.SameBut.refl a s.heap) ⟨D, ho, F, nd, hz0, hr, hl⟩ (fun z => ⟨.inr, fun h => h.elim (fun e => e ▸ hk) id⟩) (Nat.le_succ _)⟩
  · refine add_x (s := { s with toks := s.toks + 1 }) ho F hk hb ?_
    show wpAny _ _ (ret Value.none) _ _ _
    refine wpAny_pure ⟨_, rfl, hQ _ (k :: l) (Heap.SameBut.update s.heap a _) ⟨addTx (hashStr w k) (.str k u) D, get_upd _ ho rfl, add_ok u F, List.nodup_cons.mpr ⟨hk, nd⟩, hb, addTx_ris hr, hl.imp id fun z => by rw [addTx_led]; exact z⟩ (fun z => List.mem_cons) (Nat.le_refl _)⟩
theorem setS_fresh {h : Heap} (P : Program) (w : World) : SetS P w h.objs.size [] (h.push { cls := .type "set", dict := none, data := .set #[] 0 (.fresh 0 0 (!w.params.followText "set-order")) }) :=
  ⟨(#[], 0, .fresh 0 0 (!w.params.followText "set-order")), Heap.get?_push_size _ rfl, TxOk.nil (by rfl), List.nodup_nil, (by decide), List.Pairwise.nil, by
    show _ ∨ (!w.params.followText "set-order") = true
    cases w.params.followText "set-order"
    · exact .inr rfl
    · exact .inl rfl⟩
end
def SetSO (P : Program) (w : World) (a : Addr) (l : List Str) : HO := .ext (SetS P w a l)
theorem setSO_new {P : Program} {w : World} {H : Hp} {h : Heap} {a : Addr} {l : List Str} (R : SetS P w a l h) : ObjOk P w H h a (SetSO P w a l) := by
  have ⟨D, ho, _⟩ := R
  exact ⟨R, ⟨_, ho⟩, fun h1 h2 p k => by
    obtain ⟨D, ho, r⟩ := p
    exact ⟨D, k _ ho, r⟩⟩
section
variable {X : Cx} {pins : List (Addr × Obj)} {σ : St} {H : Hp} {s : Shared} {D : Addr} {l : List Str} {E : Value → Shared → Prop}
theorem addS_ok {y : Str} {t : Tok} {Q : Value → Shared → Prop} (I : Inv X pins σ H s) (hD : H D = some (SetSO X.prog X.w D l)) (hb : l.length + 1 < scanBound)
    (h : ∀ s' l', (∀ z, z ∈ l' ↔ z = y ∨ z ∈ l) → l'.length ≤ l.length + 1 → Inv X pins σ (upd H D (SetSO X.prog X.w D l')) s' → Q .none s') :
    wpAny (model X.prog X.w) X.A (call (.builtin "set.add") [.ref D, .str y t]) Q E s := by
  have R : SetS X.prog X.w D l s.heap := (show ObjOk X.prog X.w H s.heap D (SetSO X.prog X.w D l) from I.hok D _ hD).1
  refine setS_add R hb fun h' l' sb R' hm hz => h _ l' hm hz ?_
  have ⟨D', ho, _⟩ := R'
  exact I.write (x := D) (e := D) (by rw [hD]; trivial) (.inl rfl) (fun b q hq z => (sb.2 b hq).trans z) ⟨_, ho⟩ (setSO_new R')
end

/-! ### sorted -/
def leS : Str → Str → Bool := PySem.W.dataLe false PyData.str
theorem alikeS : ∀ (bs : List Str), PySem.W.AllAlike (bs.map PyData.str) := fun bs => PySem.W.AllAlike.of fun b b' => by simp [PySem.W.alike]
theorem txts_of : ∀ {vs : List Value}, (∀ v ∈ vs, ∃ (k : Str) (t : Tok), v = Value.str k t) → ∃ bs : List Str, PySem.W.EachIs (fun v b => ∃ t : Tok, v = Value.str b t) vs bs
  | [], _ => ⟨[], .nil⟩
  | v :: vs, h => by
    obtain ⟨k, t, e⟩ := h v (List.mem_cons_self ..)
    obtain ⟨bs, r⟩ := txts_of fun u hu => h u (List.mem_cons_of_mem _ hu)
    exact ⟨k :: bs, .cons ⟨t, e⟩ r⟩
theorem each_mem_iff {P : Program} {w : World} : ∀ {vs : List Value} {bs : List Str}, PySem.W.EachIs (fun v b => ∃ t : Tok, v = Value.str b t) vs bs → ∀ k : Str, (∃ v ∈ vs, (strKind P w).is k v = true) ↔ k ∈ bs
  | _, _, .nil, k => by simp
  | v :: vs, b :: bs, .cons h t, k => by
    obtain ⟨u, e⟩ := h
    have ih := each_mem_iff (P := P) (w := w) t k
    constructor
    · rintro ⟨x, hx, q⟩
      rcases List.mem_cons.mp hx with z | z
      · rw [z, e] at q
        rw [(strKind P w).inj (.str b u) k b q (is_str b u)]
        exact List.mem_cons_self ..
      · exact List.mem_cons_of_mem _ (ih.mp ⟨x, z, q⟩)
    · intro hk
      rcases List.mem_cons.mp hk with z | z
      · exact ⟨v, List.mem_cons_self .., by rw [z, e]; exact is_str b u⟩
      · obtain ⟨x, hx, q⟩ := ih.mpr z
        exact ⟨x, List.mem_cons_of_mem _ hx, q⟩
theorem strVals : ∀ {out : List Value} {bs : List Str}, PySem.W.EachIs (fun v b => ∃ t : Tok, v = Value.str b t) out bs → Vals (bs.map V.str) out
  | _, _, .nil => .nil
  | _, _, .cons h t => .cons h (strVals t)
section
variable {X : Cx}
/-- sorted(found) of a set of texts -/
theorem cr_sortSetS (hcalm : X.calm = true) (hu : X.A.units + 64 < cLine) : CallR X (.builtin "sorted") (fun vs H Q => ∃ (a : Addr) (l : List Str), vs = [V.ref a] ∧ H a = some (SetSO X.prog X.w a l) ∧
    ∀ (p : Addr) (bs : List Str), H p = none → (∀ z, z ∈ bs ↔ z ∈ l) → bs.length = l.length → Q (.ref p) (upd H p (.lst ((bs.mergeSort leS).map V.str)))) := by
  intro pins s σ H xs us Q I r h
  obtain ⟨a, l, rfl, ha, q⟩ := h
  obtain ⟨u, rfl, rx⟩ := vals1 r
  cases rx
  obtain ⟨⟨es, ep, t⟩, ho, F, nd, hz0, hr, hl⟩ := (show ObjOk X.prog X.w H s.heap a (SetSO X.prog X.w a l) from I.hok a _ ha).1
  have hsz : es.size = l.length := F.sz
  have hsb : es.size < scanBound := by omega
  refine Calls.call_function_entry PyProof.Rows.kind_sorted PyProof.Rows.plain_sorted PyProof.Rows.entry_sorted (PyProof.Rows.args_sorted1 _) ?_
  unfold Builtin.«sorted»
  refine wpAny_bind (m := checkCount "sorted" 1 1 _) (wpAny_pure ?_)
  refine wpAny_bind (collect_set (A := X.A.in1) (I.ok.hd hcalm) ⟨_, ho, rfl, rfl⟩ F.fit hsb hr hl fun s1 vs k1 hz g1 o1 pm => ?_)
  have I1 : Inv X pins σ H s1 := by
    have J : Inv X pins σ H { s with heap := s1.heap, gens := s1.gens, drawn := s1.drawn, toks := s1.toks } :=
      I.call (ch := []) ⟨fun b o e _ _ _ => k1 b o e, fun b o e _ _ _ => ⟨o.slots, k1 b o e⟩, fun _ _ _ h _ => h, fun b o e _ => ⟨o, k1 b o e⟩, fun _ _ h => h, fun _ _ _ h => h, fun b ps h => ⟨#[], by simpa using h⟩⟩
        (I.hok.kept k1) (by rw [g1]; exact I.bare) (fun _ z => nomatch z)
    have e : s1 = { s with heap := s1.heap, gens := s1.gens, drawn := s1.drawn, toks := s1.toks } := by
      cases s1
      cases s
      cases o1
      rfl
    rw [e]
    exact J
  have hst : ∀ v ∈ vs, ∃ (k : Str) (t : Tok), v = Value.str k t := fun v hv => by
    obtain ⟨e, he, q⟩ := List.mem_map.mp (pm.mem_iff.mp hv)
    obtain ⟨⟨k, h1, _⟩, _⟩ := F.el e he
    obtain ⟨t, e2⟩ := Value.isStrOf_shape h1
    exact ⟨k, t, by rw [← q]; exact e2⟩
  obtain ⟨bs, ev⟩ := txts_of hst
  have lb : bs.length = l.length := by rw [← ev.length, pm.length_eq, List.length_map, Array.length_toList]; exact hsz
  have hmem : ∀ z, z ∈ bs ↔ z ∈ l := fun z => by
    rw [← each_mem_iff (P := X.prog) (w := X.w) ev z, F.mem z]
    constructor
    · rintro ⟨v, hv, q⟩
      obtain ⟨e, he, q2⟩ := List.mem_map.mp (pm.mem_iff.mp hv)
      exact ⟨e, he, by rw [q2]; exact q⟩
    · rintro ⟨e, he, q⟩
      exact ⟨e.2, pm.mem_iff.mpr (List.mem_map.mpr ⟨e, he, rfl⟩), q⟩
  have hvl : vs.length = l.length := by rw [ev.length]; exact lb
  have hbig : l.length ≤ sizeLine := by rw [← hsz]; exact fits_of_scanBound hsb
  refine wpAny_bind (wpAny_newList ?_ (by omega))
  have hoL : (s1.heap.push (seqObj "list" vs.toArray 0)).get? s1.heap.objs.size = some (seqObj "list" vs.toArray 0) := Heap.get?_push_size _ rfl
  show wpAny _ _ _ _ _ { s1 with heap := s1.heap.push (seqObj "list" vs.toArray 0) }
  refine wpAny_bind (wpAny_holding (PySem.W.list_sort_data (s := { s1 with heap := s1.heap.push (seqObj "list" vs.toArray 0) }) (R := fun v (b : Str) => ∃ t : Tok, v = Value.str b t) (enc := PyData.str) (bs := bs) (vs := vs)
    hoL ev (ev.mono fun v b ⟨t, e⟩ => ⟨[], by rw [e]; exact .str b t, fun q => nomatch q⟩) (alikeS bs) (PySem.W.Sortable.others fun b => ⟨(fun e => nomatch e), fun xs e => nomatch e⟩) (by omega) (fun b _ => by show X.A.units + 1 + 1 + PyData.depth (.str b) < cLine; rw [PyData.depth]; omega) fun out ho2 eo => ?_))
  obtain ⟨c, hc⟩ := PyProof.Rows.sortedHeap_at (vs := vs) (out := out.toArray) hoL
  refine wpAny_pure ⟨_, rfl, .ref s1.heap.objs.size, upd H s1.heap.objs.size (.lst ((bs.mergeSort leS).map V.str)), I1.laid (t' := s1.toks) (fun b u e => ?_) (Nat.le_refl _)
    (show ObjOk X.prog X.w _ _ _ (.lst ((bs.mergeSort leS).map V.str)) from ⟨?_, out, c, strVals eo, hc⟩), rfl, q _ bs (I1.hok.fresh (Nat.le_refl _)) hmem lb⟩
  · have hbl : b < s1.heap.objs.size := Heap.lt_size e
    rw [PyProof.Rows.sortedHeap_old (Nat.ne_of_lt hbl) (by rw [size_push']; exact Nat.lt_succ_of_lt hbl)]
    exact Heap.get?_push_of_some _ e
  · have e := (List.mergeSort_perm bs leS).length_eq
    rw [List.length_map, e]
    omega
end
end L2
end
section
set_option Elab.async false
set_option linter.all false
set_option maxRecDepth 100000
set_option maxHeartbeats 2000000
/-! {elt for tg in iter if .. for tg1 in iter1 if ..}, elt a text. -/
namespace L2
open PySem PySem.Spec PyProof.Rows PpSet
section
variable {prog : Program} {w : World} {A : Around} {R : Result → Shared → Prop} {s : Shared} {elt t0 i0 t1 i1 : Expr} {f0 f1 : List Expr} {scope : Scope} {pos : Pos} {it acc : Value} {env : Env}
abbrev Sc2 (elt t0 i0 t1 i1 : Expr) (f0 f1 : List Expr) (scope : Scope) (pos : Pos) : Expr := .SetComp elt [⟨t0, i0, f0, 0⟩, ⟨t1, i1, f1, 0⟩] scope pos
theorem sc2_turn0 : compTurn (Sc2 elt t0 i0 t1 i1 f0 f1 scope pos) 0 it acc env = (do
      standAt i0.pos
      match ← pyNext it with
      | none => pure (.done .next)
      | some v =>
        letOwnedTupleGo t0 it v
        assign t0 env v
        let mut ok := true
        for c in f0 do
          if ok then ok ← isTrue c env (eval c env)
        if ok then
          let x ← eval i1 env
          standAt i1.pos
          let x ← foldedSetIterable i1 env x
          let _ ← runOwn (.compStart (Sc2 elt t0 i0 t1 i1 f0 f1 scope pos) 1 (← holding [x] (pyIter x)) acc env) env
        again (.compLoop (Sc2 elt t0 i0 t1 i1 f0 f1 scope pos) 0 it acc env)) := by rfl
theorem sc2_turn1 : compTurn (Sc2 elt t0 i0 t1 i1 f0 f1 scope pos) 1 it acc env = (do
      standAt i1.pos
      match ← pyNext it with
      | none => pure (.done .next)
      | some v =>
        letOwnedTupleGo t1 it v
        assign t1 env v
        let mut ok := true
        for c in f1 do
          if ok then ok ← isTrue c env (eval c env)
        if ok then
          (do let v ← eval elt env; standAt elt.pos; let _ ← call (.builtin "set.add") [acc, v])
        again (.compLoop (Sc2 elt t0 i0 t1 i1 f0 f1 scope pos) 1 it acc env)) := by rfl
/-- the outer loop -/
theorem sc2_out (hs : ∀ x, foldedSetIterable i1 env x = pure x) (I : Nat → Shared → Prop)
    (turn : ∀ n s, I n s → wpAny (model prog w) A (pyNext it) (fun r s₁ => match r with
      | none => R (.ok .next) s₁
      | some v => wpAny (model prog w) A (letOwnedTupleGo t0 it v) (fun _ s₁' => wpAny (model prog w) A (assign t0 env v) (fun _ s₂ =>
          wpAny (model prog w) A (forIn f0 true fun c r => if r = true then do let ok ← isTrue c env (eval c env); pure (ForInStep.yield ok) else pure (ForInStep.yield r)) (fun ok s₃ =>
            if ok = true then wpAny (model prog w) A (eval i1 env) (fun x s₄ => wpAny (model prog w) A (pyIter x) (fun it1 s₅ =>
              codeAny (model prog w) A (.compStart (Sc2 elt t0 i0 t1 i1 f0 f1 scope pos) 1 it1 acc env) (fun r s' => match r with
                | .ok _ => ∃ m, m < n ∧ I m s'
                | .error _ => False) s₅) (notedBy (model prog w) A env fun e s' => R (.error e) s') s₄) (notedBy (model prog w) A env fun e s' => R (.error e) s') s₃
            else ∃ m, m < n ∧ I m s₃) (notedBy (model prog w) A env fun e s' => R (.error e) s') s₂) (notedBy (model prog w) A env fun e s' => R (.error e) s') s₁') (notedBy (model prog w) A env fun e s' => R (.error e) s') s₁) (notedBy (model prog w) A env fun e s' => R (.error e) s') s)
    (n : Nat) (h : I n s) : codeAny (model prog w) A (.compLoop (Sc2 elt t0 i0 t1 i1 f0 f1 scope pos) 0 it acc env) R s := by
  refine codeAny_loop rfl I (fun n s hI => ?_) n h
  show wpAny _ A ((compTurn (Sc2 elt t0 i0 t1 i1 f0 f1 scope pos) 0 it acc env).onRaise (fun x => do noteFrame x env; theTreesLotGoes x)) _ _ s
  refine wpAny_noted ?_
  rw [sc2_turn0]
  refine wpAny_bind (wpAny_standAt (wpAny_bind (wpAny_mono (turn n s hI) (fun r s₁ h₁ => ?_) fun _ _ h' => h')))
  cases r with
  | none => exact wpAny_pure h₁
  | some v =>
    refine wpAny_bind (wpAny_mono h₁ (fun _ s₁' h₁' => ?_) fun _ _ h' => h')
    refine wpAny_bind (wpAny_mono h₁' (fun _ s₂ h₂ => wpAny_bind (wpAny_mono h₂ (fun ok s₃ h₃ => ?_) fun _ _ h' => h')) fun _ _ h' => h')
    cases ok with
    | false => exact wpAny_pure ⟨rfl, h₃⟩
    | true =>
      refine wpAny_bind (wpAny_mono h₃ (fun x s₄ h₄ => ?_) fun _ _ h' => h')
      refine wpAny_bind (wpAny_standAt (wpAny_bind (wpAny_of_eq (hs x) (wpAny_bind (wpAny_holding (wpAny_mono h₄ (fun it1 s₅ h₅ => ?_) fun _ _ h' => h'))))))
      refine wpAny_bind (wpAny_runOwn ?_)
      rw [Around.mark_none]
      refine codeAny_mono h₅ fun r s' hr => ?_
      cases r with
      | ok f =>
        first
          | exact wpAny_pure ⟨rfl, hr⟩
          | exact wpAny_bind (wpAny_pure (wpAny_pure ⟨rfl, hr⟩))
      | error e => exact hr.elim
/-- the inner one -/
theorem sc2_in (I : Nat → Shared → Prop)
    (turn : ∀ n s, I n s → wpAny (model prog w) A (pyNext it) (fun r s₁ => match r with
      | none => R (.ok .next) s₁
      | some v => wpAny (model prog w) A (letOwnedTupleGo t1 it v) (fun _ s₁' => wpAny (model prog w) A (assign t1 env v) (fun _ s₂ =>
          wpAny (model prog w) A (forIn f1 true fun c r => if r = true then do let ok ← isTrue c env (eval c env); pure (ForInStep.yield ok) else pure (ForInStep.yield r)) (fun ok s₃ =>
            if ok = true then wpAny (model prog w) A (eval elt env) (fun x s₄ =>
              wpAny (model prog w) A (call (.builtin "set.add") [acc, x]) (fun _ s₅ => ∃ m, m < n ∧ I m s₅) (notedBy (model prog w) A env fun e s' => R (.error e) s') s₄) (notedBy (model prog w) A env fun e s' => R (.error e) s') s₃
            else ∃ m, m < n ∧ I m s₃) (notedBy (model prog w) A env fun e s' => R (.error e) s') s₂) (notedBy (model prog w) A env fun e s' => R (.error e) s') s₁') (notedBy (model prog w) A env fun e s' => R (.error e) s') s₁) (notedBy (model prog w) A env fun e s' => R (.error e) s') s)
    (n : Nat) (h : I n s) : codeAny (model prog w) A (.compLoop (Sc2 elt t0 i0 t1 i1 f0 f1 scope pos) 1 it acc env) R s := by
  refine codeAny_loop rfl I (fun n s hI => ?_) n h
  show wpAny _ A ((compTurn (Sc2 elt t0 i0 t1 i1 f0 f1 scope pos) 1 it acc env).onRaise (fun x => do noteFrame x env; theTreesLotGoes x)) _ _ s
  refine wpAny_noted ?_
  rw [sc2_turn1]
  refine wpAny_bind (wpAny_standAt (wpAny_bind (wpAny_mono (turn n s hI) (fun r s₁ h₁ => ?_) fun _ _ h' => h')))
  cases r with
  | none => exact wpAny_pure h₁
  | some v =>
    refine wpAny_bind (wpAny_mono h₁ (fun _ s₁' h₁' => ?_) fun _ _ h' => h')
    refine wpAny_bind (wpAny_mono h₁' (fun _ s₂ h₂ => wpAny_bind (wpAny_mono h₂ (fun ok s₃ h₃ => ?_) fun _ _ h' => h')) fun _ _ h' => h')
    cases ok with
    | false => exact wpAny_pure ⟨rfl, h₃⟩
    | true =>
      exact wpAny_bind (wpAny_bind (wpAny_mono h₃ (fun x s₄ h₄ => wpAny_bind (wpAny_standAt (wpAny_bind (wpAny_mono h₄ (fun _ s₅ h₅ => wpAny_pure (wpAny_pure ⟨rfl, h₅⟩)) fun _ _ h' => h')))) fun _ _ h' => h'))
theorem sc2_start (h0 : codeAny (model prog w) A (.compLoop (Sc2 elt t0 i0 t1 i1 f0 f1 scope pos) 1 it acc env) R s)
    (h : wpAny (model prog w) A (pyIter it) (fun it' s' => codeAny (model prog w) A (.compLoop (Sc2 elt t0 i0 t1 i1 f0 f1 scope pos) 1 it' acc env) R s')
      (notedBy (model prog w) A env fun x s' => R (.error x) s') s) :
    codeAny (model prog w) A (.compStart (Sc2 elt t0 i0 t1 i1 f0 f1 scope pos) 1 it acc env) R s := by
  refine codeAny_of_tree ?_
  show wpAny _ _ ((compStart (Sc2 elt t0 i0 t1 i1 f0 f1 scope pos) 1 it acc env).onRaise (fun x => do noteFrame x env; standAt theWindowsPlace)) _ _ s
  refine wpAny_notedAt ?_
  unfold compStart
  show wpAny _ _ (ask >>= _) _ _ s
  refine wpAny_bind (wpAny_askSetting (wpAny_ite ?_))
  split
  · first
      | exact wpAny_bind (wpAny_pure (wpAny_pure (And.intro rfl h0)))
      | exact wpAny_pure (And.intro rfl h0)
  · first
      | exact wpAny_bind (wpAny_rule (wpAny_bind (wpAny_standAt (wpAny_bind (wpAny_mono h (fun it' s' h' => wpAny_pure (And.intro rfl h')) fun _ _ x => x)))))
      | (refine wpAny_bind (wpAny_rule ?_); show wpAny _ _ (standAt i1.pos >>= _) _ _ s; exact wpAny_bind (wpAny_standAt (wpAny_bind (wpAny_mono h (fun it' s' h' => wpAny_pure (And.intro rfl h')) fun _ _ x => x))))
end
section
variable {X : Cx}
/-- D: the new set; vs: the block's names; vs1: those of the second target -/
def tSc2 (P : Program) (w : World) (wi : TI) (g : TG) (tt : TT) (wi1 : TI) (g1 : TG) (tt1 : TT) (te : TE) (vs vs1 : List Nat) : TE := fun σ H Q => wi σ H fun J H1 => ∀ D, H1 D = none → ∃ W : Nat → Nat → Hp → Prop, (∃ m, W 0 m (upd H1 D (SetSO P w D []))) ∧ ∀ i m H, W i m H →
  (J.stop i H ∧ Q (.ref D) H) ∨ (J.go i H ∧ ∃ Nx : Hp → Prop, (∀ H', Nx H' → ∃ m', m' < m ∧ W (i + 1) m' H') ∧ ∀ x H', J.yld i H x H' → g x (wipe σ vs) H' fun σ2 H2 => wipe σ2 vs = wipe σ vs ∧ tt σ2 H2 fun b H3 =>
    if b = true then wi1 σ2 H3 fun J1 H4 => ∃ W1 : Nat → Nat → Hp → Prop, (∃ m, W1 0 m H4) ∧ ∀ j k H, W1 j k H →
      (J1.stop j H ∧ Nx H) ∨ (J1.go j H ∧ ∃ Nx1 : Hp → Prop, (∀ H', Nx1 H' → ∃ k', k' < k ∧ W1 (j + 1) k' H') ∧ ∀ x H', J1.yld j H x H' → g1 x (wipe σ2 vs1) H' fun σ3 H5 => wipe σ3 vs1 = wipe σ2 vs1 ∧ tt1 σ3 H5 fun b H6 =>
        if b = true then te σ3 H6 fun y H7 => ∃ (z : Str) (l : List Str), y = .str z ∧ H7 D = some (SetSO P w D l) ∧ l.length + 1 < scanBound ∧ ∀ l', (∀ c, c ∈ l' ↔ c = z ∨ c ∈ l) → l'.length ≤ l.length + 1 → Nx1 (upd H7 D (SetSO P w D l')) else Nx1 H6)
    else Nx H3)
theorem sc2_core {pins : List (Addr × Obj)} {s : Shared} {σ : St} {H : Hp} {Q : VK} {elt tg iter tg1 iter1 : Expr} {ifs ifs1 : List Expr} {scope : Scope} {own : List (Str × Nat)} {vs1 : List Nat} {pos pos' : Pos} {wi wi1 : TI} {g g1 : TG} {tt tt1 : TT} {te : TE} {use : Option (Value → Sem Unit)} {Qf : Value → Shared → Prop}
    (hc : X.calm = true) (hN : X.N.Nodup) (I : Inv X pins σ H s) (hi : PI X tg iter wi) (ok : BlkOk X.N X.env.scope scope own) (hv : ∀ i ∈ vs1, i ∈ own.map (·.2))
    (hg : ∀ (s : Shared) (H : Hp) (C : Addr) (cl : List (Str × Addr)) (fp : List Addr), PG (X.blk s H scope (compEnvC scope cl C X.env) fp) tg g) (ht : ∀ (s : Shared) (H : Hp) (C : Addr) (cl : List (Str × Addr)) (fp : List Addr), PTs (X.blk s H scope (compEnvC scope cl C X.env) fp) ifs tt)
    (he : ∀ (s : Shared) (H : Hp) (C : Addr) (cl : List (Str × Addr)) (fp : List Addr), PE (X.blk s H scope (compEnvC scope cl C X.env) fp) elt te) (hs : ∀ x, foldedSetIterable iter X.env x = pure x)
    (hi1 : ∀ (s : Shared) (H : Hp) (C : Addr) (cl : List (Str × Addr)) (fp : List Addr), PI (X.blk s H scope (compEnvC scope cl C X.env) fp) tg1 iter1 wi1)
    (hg1 : ∀ (s : Shared) (H : Hp) (C : Addr) (cl : List (Str × Addr)) (fp : List Addr), PG (X.blk s H scope (compEnvC scope cl C X.env) fp) tg1 g1)
    (ht1 : ∀ (s : Shared) (H : Hp) (C : Addr) (cl : List (Str × Addr)) (fp : List Addr), PTs (X.blk s H scope (compEnvC scope cl C X.env) fp) ifs1 tt1)
    (hs1 : ∀ env x, foldedSetIterable iter1 env x = pure x)
    (h : tSc2 X.prog X.w wi g tt wi1 g1 tt1 te (own.map (·.2)) vs1 σ H Q)
    (hRR : ∀ D C s' m H', Inv X pins σ H' s' → Q (.ref D) H' → s'.heap.Ns C m → FpOk X pins H' C → compPost (model X.prog X.w) X.A X.xe use Qf (.ref D) C (.ok .next) s') :
    wpAny (model X.prog X.w) X.A (comprehension (Sc2 elt tg iter tg1 iter1 ifs ifs1 scope pos) scope X.env pos' (newSet (.type "set")) false (eval iter X.env) use) Qf X.xe s := by
  have hfree : ∀ y ∈ scope.names, y.2 = .free → ∃ c, X.env.cells.lookup y.1 = some c := fun y hy e => by
    rcases ok.free y hy e with k | k
    · exact I.ok.has _ (.inl k)
    · exact I.ok.has _ (.inr k)
  refine wpAny_comprehension_free (use := use) rfl hs (closure_ok hfree) ok.kind (fun y hy e => by rw [ok.uniq y hy, e])
    (thn (hi.run pins s σ H _ I h) fun xv s1 hx => thn hx fun itv s2 h2 => ?_)
  obtain ⟨it, fp, tn, J, H2, e, I2, T, st2, f2, q⟩ := h2
  subst e
  refine newSet_ok (newEnv_comp ?_)
  generalize hD : s2.heap.objs.size = D
  have hDn : H2 D = none := I2.hok.fresh (Nat.le_of_eq hD)
  obtain ⟨W, ⟨m0, w0⟩, turn⟩ := q D hDn
  generalize hs3 : ({ s2 with heap := s2.heap.push { cls := .type "set", dict := none, data := .set #[] 0 (.fresh 0 0 (!X.w.params.followText "set-order")) } } : Shared) = s3
  generalize hO : SetSO X.prog X.w D [] = O at w0
  have I3 : Inv X pins σ (upd H2 D O) s3 := by
    rw [← hs3, ← hO]
    refine I2.laid (t' := s2.toks) (fun b o e => Heap.get?_push_of_some _ e) (Nat.le_of_eq hD) ?_
    rw [← hD]
    exact setSO_new (setS_fresh X.prog X.w)
  have h3 : s3.heap = s2.heap.push { cls := .type "set", dict := none, data := .set #[] 0 (.fresh 0 0 (!X.w.params.followText "set-order")) } := by rw [← hs3]
  have sz : ∀ b ∈ fp, b < s2.heap.objs.size := fun b hb => by
    obtain ⟨o, e, _⟩ := T.obj _ _ st2 b hb
    exact Heap.lt_size e
  have f3 : ∀ b ∈ fp, FpOk X pins (upd H2 D O) b ∧ b < s3.heap.objs.size := fun b hb => by
    have hlt := sz b hb
    refine ⟨⟨?_, (f2 b hb).2⟩, by rw [h3, Heap.size_push]; exact Nat.lt_succ_of_lt hlt⟩
    rw [upd_ne (by rw [← hD]; exact Nat.ne_of_lt hlt)]
    exact (f2 b hb).1
  have st3 : tn 0 s3.heap := T.keep _ _ _ st2 fun b _ o e => by rw [h3]; exact Heap.get?_push_of_some _ e
  have I4 := block_start I3 ok hN f3
  generalize hcl : cellsFrom (s3.heap.objs.size + 1) scope.names (cloFrom X.env.cells scope.names []) = cl at I4
  have pg := hg s3 (upd H2 D O) s3.heap.objs.size cl fp
  have pt := ht s3 (upd H2 D O) s3.heap.objs.size cl fp
  have pe := he s3 (upd H2 D O) s3.heap.objs.size cl fp
  have pi1 := hi1 s3 (upd H2 D O) s3.heap.objs.size cl fp
  have pg1 := hg1 s3 (upd H2 D O) s3.heap.objs.size cl fp
  have pt1 := ht1 s3 (upd H2 D O) s3.heap.objs.size cl fp
  show codeAny _ _ (.compStart (Sc2 elt tg iter tg1 iter1 ifs ifs1 scope pos) 0 (.ref it) (.ref D) (compEnvC scope cl s3.heap.objs.size X.env)) (compPost (model X.prog X.w) X.A X.xe use Qf (.ref D) s3.heap.objs.size) { s3 with heap := pushCells (s3.heap.push { cls := .type "dict", data := .dict #[] }) scope.names }
  have nfp : ∀ b ∈ fp, (upd H2 D O) b = none := fun b hb => (f3 b hb).1.1
  generalize hce : compEnvC scope cl s3.heap.objs.size X.env = ce at I4 pg pt pe pi1 pg1 pt1 ⊢
  have cL : ce.locals = s3.heap.objs.size := by subst hce; rfl
  generalize hH3 : upd H2 D O = H3 at I3 I4 pg pt pe pi1 pg1 pt1 w0 nfp f3
  generalize hs4 : ({ s3 with heap := pushCells (s3.heap.push { cls := .type "dict", data := .dict #[] }) scope.names } : Shared) = s4 at I4 ⊢
  have st4 : tn 0 s4.heap := T.keep _ _ _ st3 fun b _ o e => by rw [← hs4]; exact pushCells_keeps _ _ _ _ (Heap.get?_push_of_some _ e)
  have stat : ∀ {σ' : St} {H' : Hp} {s' : Shared}, Inv (X.blk s3 H3 scope ce fp) [] σ' H' s' → (∀ b ∈ fp, H' b = none) → ∀ b ∈ fp, FpOk (X.blk s3 H3 scope ce fp) [] H' b := fun {σ' H' s'} I' hn b hb =>
    ⟨hn b hb, (I'.ok.exf b hb).1, I'.ok.exfs b hb, .inl hb, fun x c e => (I'.ok.exf b hb).2 x c e, fun p hp => absurd (show p ∈ ([] : List (Addr × Obj)) ++ [] from hp) (by simp)⟩
  have loop : codeAny (model X.prog X.w) X.A (.compLoop (Sc2 elt tg iter tg1 iter1 ifs ifs1 scope pos) 0 (.ref it) (.ref D) ce) (compPost (model X.prog X.w) X.A X.xe use Qf (.ref D) s3.heap.objs.size) s4 := by
    refine sc2_out (hs1 ce) (fun n s' => ∃ i H', Inv (X.blk s3 H3 scope ce fp) [] (wipe σ (own.map (·.2))) H' s' ∧ tn i s'.heap ∧ (∀ b ∈ fp, H' b = none) ∧ W i n H') ?_ m0 ⟨0, H3, I4, st4, nfp, w0⟩
    rintro n s5 ⟨i, H5, I5, st5, n5, w5⟩
    rcases turn i n H5 w5 with ⟨stop, qq⟩ | ⟨go, Nx, hNx, step⟩
    · refine thnF (T.done (X.blk s3 H3 scope ce fp) rfl rfl rfl hc i [] s5 _ H5 (fun _ _ => False) I5 (stat I5 n5) st5 stop) fun r s6 ⟨hr, I6⟩ => ?_
      subst hr
      have I7 : Inv X pins σ H5 s6 := I3.call' (ch := fp) I6.os I6.base I6.hok I6.bare fun b hb => ⟨(f3 b hb).1.2.2.2.1, (f3 b hb).1.2.1, (f3 b hb).1.2.2.2.2.1, (f3 b hb).1.2.2.2.2.2⟩
      have nC : H5 s3.heap.objs.size = none := by
        have z : H5 ce.locals = none := I6.free
        rw [cL] at z
        exact z
      obtain ⟨m, hn, _⟩ := I6.loc
      have hn : s6.heap.Ns ce.locals m := hn
      rw [cL] at hn
      exact hRR D s3.heap.objs.size s6 m H5 I7 qq hn (I3.fpOk (Nat.le_refl _) nC)
    · refine thnF (T.item (X.blk s3 H3 scope ce fp) rfl rfl rfl hc i [] s5 _ H5 (fun _ _ => False) I5 (stat I5 n5) st5 go) fun r s6 ⟨u, hr, h6⟩ => ?_
      subst hr
      refine thnF h6 fun _ s7 ⟨x, H7, I7, r7, y7, st7, n7⟩ => ?_
      have I7' := I7.pinned (stat I7 n7) (T.obj _ _ st7)
      refine thnF (pg.run _ s7 _ H7 x u _ I7' r7 (step x H7 y7)) fun _ s8 ⟨σ8, H8, I8, hw8, q8⟩ => ?_
      refine thnF (pt.run _ s8 σ8 H8 _ I8 q8) fun b s9 ⟨H9, I9, q9⟩ => ?_
      have fin : ∀ {σ9 : St} {s' : Shared} {H' : Hp}, Inv (X.blk s3 H3 scope ce fp) ([] ++ pinsAt fp s7.heap) σ9 H' s' → (wipe σ (own.map (·.2))).length = σ9.length → (∀ (j : Nat) v, (wipe σ (own.map (·.2)))[j]? = some (some v) → σ9[j]? = some (some v)) → Nx H' →
          ∃ m, m < n ∧ ∃ i H', Inv (X.blk s3 H3 scope ce fp) [] (wipe σ (own.map (·.2))) H' s' ∧ tn i s'.heap ∧ (∀ b ∈ fp, H' b = none) ∧ W i m H' := fun {σ9 s' H'} I' hl hk nx => by
        obtain ⟨m', hm, w'⟩ := hNx H' nx
        have pin' : ∀ b ∈ fp, ∀ o, s7.heap.get? b = some o → s'.heap.get? b = some o ∧ H' b = none := fun b hb o e =>
          let z := I'.pin (b, o) (List.mem_append_right _ (List.mem_append_right _ (mem_pinsAt hb e)))
          ⟨z.1, z.2.1⟩
        refine ⟨m', hm, i + 1, H', (I'.unpinned (pins := [])).weak hl hk, T.keep _ _ _ st7 fun b hb o e => (pin' b hb o e).1, fun b hb => ?_, w'⟩
        obtain ⟨o, e, _⟩ := T.obj _ _ st7 b hb
        exact (pin' b hb o e).2
      have hl8 : (wipe σ (own.map (·.2))).length = σ8.length := by rw [← hw8, wipe_length]
      have hk8 : ∀ (j : Nat) v, (wipe σ (own.map (·.2)))[j]? = some (some v) → σ8[j]? = some (some v) := fun j v e => by
        rw [← hw8] at e
        exact (wipe_some e).1
      have hk9 : ∀ (j : Nat) v, (wipe σ (own.map (·.2)))[j]? = some (some v) → (wipe σ8 vs1)[j]? = some (some v) := fun j v e => by
        rw [← hw8] at e
        obtain ⟨e1, e2⟩ := wipe_some e
        rw [wipe_out fun z => e2 (hv j z)]
        exact e1
      cases b with
      | false =>
        simp only [Bool.false_eq_true, if_false] at q9 ⊢
        exact fin I9 hl8 hk8 q9
      | true =>
        simp only [if_true] at q9 ⊢
        refine thnF (pi1.run _ s9 σ8 H9 _ I9 q9) fun xv s10 hx => thnF hx fun itv s11 h11 => ?_
        obtain ⟨it1, fp1, tn1, J1, H11, e1, I11, T1, st11, f11, W1, ⟨m1, w1⟩, turn1⟩ := h11
        subst e1
        have stat1 : ∀ {H' : Hp}, (∀ b ∈ fp1, H' b = none) → ∀ b ∈ fp1, FpOk (X.blk s3 H3 scope ce fp) ([] ++ pinsAt fp s7.heap) H' b := fun hn b hb => ⟨hn b hb, (f11 b hb).2⟩
        have loop1 : codeAny (model X.prog X.w) X.A (.compLoop (Sc2 elt tg iter tg1 iter1 ifs ifs1 scope pos) 1 (.ref it1) (.ref D) ce)
            (fun r s' => match r with
              | .ok _ => ∃ m, m < n ∧ ∃ i H', Inv (X.blk s3 H3 scope ce fp) [] (wipe σ (own.map (·.2))) H' s' ∧ tn i s'.heap ∧ (∀ b ∈ fp, H' b = none) ∧ W i m H'
              | .error _ => False) s11 := by
          refine sc2_in (fun k s' => ∃ j H', Inv (X.blk s3 H3 scope ce fp) ([] ++ pinsAt fp s7.heap) (wipe σ8 vs1) H' s' ∧ tn1 j s'.heap ∧ (∀ b ∈ fp1, H' b = none) ∧ W1 j k H') ?_ m1 ⟨0, H11, I11.weak (wipe_length _ _) (fun j v e => (wipe_some e).1), st11, fun b hb => (f11 b hb).1, w1⟩
          rintro k s12 ⟨j, H12, I12, st12, n12, w12⟩
          rcases turn1 j k H12 w12 with ⟨stop1, nx1⟩ | ⟨go1, Nx1, hNx1, step1⟩
          · refine thnF (T1.done (X.blk s3 H3 scope ce fp) rfl rfl rfl hc j _ s12 (wipe σ8 vs1) H12 (fun _ _ => False) I12 (stat1 n12) st12 stop1) fun r s13 ⟨hr, I13⟩ => ?_
            subst hr
            exact fin I13 (hl8.trans (wipe_length σ8 vs1).symm) hk9 nx1
          · refine thnF (T1.item (X.blk s3 H3 scope ce fp) rfl rfl rfl hc j _ s12 (wipe σ8 vs1) H12 (fun _ _ => False) I12 (stat1 n12) st12 go1) fun r s13 ⟨u1, hr, h13⟩ => ?_
            subst hr
            refine thnF h13 fun _ s14 ⟨x1, H14, I14, r14, y14, st14, n14⟩ => ?_
            have I14' := I14.pinned (stat1 n14) (T1.obj _ _ st14)
            refine thnF (pg1.run _ s14 (wipe σ8 vs1) H14 x1 u1 _ I14' r14 (step1 x1 H14 y14)) fun _ s15 ⟨σ15, H15, I15, hw15, q15⟩ => ?_
            refine thnF (pt1.run _ s15 σ15 H15 _ I15 q15) fun b1 s16 ⟨H16, I16, q16⟩ => ?_
            have fin1 : ∀ {s' : Shared} {H' : Hp}, Inv (X.blk s3 H3 scope ce fp) (([] ++ pinsAt fp s7.heap) ++ pinsAt fp1 s14.heap) σ15 H' s' → Nx1 H' → ∃ m, m < k ∧ ∃ j H', Inv (X.blk s3 H3 scope ce fp) ([] ++ pinsAt fp s7.heap) (wipe σ8 vs1) H' s' ∧ tn1 j s'.heap ∧ (∀ b ∈ fp1, H' b = none) ∧ W1 j m H' := fun {s' H'} I' nx => by
              obtain ⟨m', hm, w'⟩ := hNx1 H' nx
              have pin' : ∀ b ∈ fp1, ∀ o, s14.heap.get? b = some o → s'.heap.get? b = some o ∧ H' b = none := fun b hb o e =>
                let z := I'.pin (b, o) (List.mem_append_right _ (List.mem_append_right _ (mem_pinsAt hb e)))
                ⟨z.1, z.2.1⟩
              refine ⟨m', hm, j + 1, H', I'.unpinned.weak (by rw [← hw15, wipe_length]) (fun j v e => by rw [← hw15] at e; exact (wipe_some e).1), T1.keep _ _ _ st14 fun b hb o e => (pin' b hb o e).1, fun b hb => ?_, w'⟩
              obtain ⟨o, e, _⟩ := T1.obj _ _ st14 b hb
              exact (pin' b hb o e).2
            cases b1 with
            | false =>
              simp only [Bool.false_eq_true, if_false] at q16 ⊢
              exact fin1 I16 q16
            | true =>
              simp only [if_true] at q16 ⊢
              refine thnF (pe.run _ s16 σ15 H16 _ I16 q16) fun z s17 ⟨yv, H17, I17, r17, zt, l0, ey, hD17, hz17, nx⟩ => ?_
              subst ey
              obtain ⟨tz, rfl⟩ := r17
              exact addS_ok (X := X.blk s3 H3 scope ce fp) I17 hD17 hz17 fun s18 l' m1 m2 I18 => fin1 I18 (nx l' m1 m2)
        exact sc2_start loop1 (T1.self X.A 0 _ _ _ st11 loop1)
  exact codeAny_compStart_set loop (T.self X.A 0 _ _ _ st4 loop)
theorem pe_sc2 {elt tg iter tg1 iter1 : Expr} {ifs ifs1 : List Expr} {scope : Scope} {own : List (Str × Nat)} {vs1 : List Nat} {pos : Pos} {wi wi1 : TI} {g g1 : TG} {tt tt1 : TT} {te : TE} (hc : X.calm = true) (hN : X.N.Nodup) (hi : PI X tg iter wi) (ok : BlkOk X.N X.env.scope scope own) (hv : ∀ i ∈ vs1, i ∈ own.map (·.2))
    (hg : ∀ (s : Shared) (H : Hp) (C : Addr) (cl : List (Str × Addr)) (fp : List Addr), PG (X.blk s H scope (compEnvC scope cl C X.env) fp) tg g) (ht : ∀ (s : Shared) (H : Hp) (C : Addr) (cl : List (Str × Addr)) (fp : List Addr), PTs (X.blk s H scope (compEnvC scope cl C X.env) fp) ifs tt)
    (hi1 : ∀ (s : Shared) (H : Hp) (C : Addr) (cl : List (Str × Addr)) (fp : List Addr), PI (X.blk s H scope (compEnvC scope cl C X.env) fp) tg1 iter1 wi1)
    (hg1 : ∀ (s : Shared) (H : Hp) (C : Addr) (cl : List (Str × Addr)) (fp : List Addr), PG (X.blk s H scope (compEnvC scope cl C X.env) fp) tg1 g1) (ht1 : ∀ (s : Shared) (H : Hp) (C : Addr) (cl : List (Str × Addr)) (fp : List Addr), PTs (X.blk s H scope (compEnvC scope cl C X.env) fp) ifs1 tt1)
    (he : ∀ (s : Shared) (H : Hp) (C : Addr) (cl : List (Str × Addr)) (fp : List Addr), PE (X.blk s H scope (compEnvC scope cl C X.env) fp) elt te) (hs : ∀ x, foldedSetIterable iter X.env x = pure x := by intro _; rfl) (hs1 : ∀ env x, foldedSetIterable iter1 env x = pure x := by intro _ _; rfl) :
    PE X (Sc2 elt tg iter tg1 iter1 ifs ifs1 scope pos) (tSc2 X.prog X.w wi g tt wi1 g1 tt1 te (own.map (·.2)) vs1) := by
  refine ⟨fun pins s σ H Q I h => ?_⟩
  rw [eval_SetComp]
  refine sc2_core hc hN I hi ok hv hg ht he hs hi1 hg1 ht1 hs1 h fun D C s' m H' I' q hn f => ⟨m, hn, fun h'' sb => ?_⟩
  obtain ⟨f0, f1, f2, f3, f4, f5⟩ := f
  exact ⟨.ref D, H', I'.turned (t' := s'.toks) (fun b o hb e => (sb.2 b hb).trans e) f0 f1 f3 f4 f5, rfl, q⟩
end
end L2
end
section
set_option Elab.async false
set_option linter.all false
set_option maxRecDepth 100000
set_option maxHeartbeats 2000000
namespace L2
open PySem PySem.Spec PyProof.Rows
/-- n turns, whatever the body asks -/
theorem walk_W {J : It} {n : Nat} {G : Hp → Prop} {Y : Nat → Hp → V → Hp → Prop} (w : Walk J n G Y) {B : (Hp → Prop) → V → Hp → Prop} {H0 : Hp} {Qd : Hp → Prop} (Pv : Nat → Hp → Prop) (h0 : Pv 0 H0) (hG : ∀ i H, i ≤ n → Pv i H → G H)
    (hs : ∀ i x H H', i < n → Pv i H → Y i H x H' → B (Pv (i + 1)) x H') (hd : ∀ H, Pv n H → Qd H) :
    ∃ W : Nat → Nat → Hp → Prop, (∃ m, W 0 m H0) ∧ ∀ i m H, W i m H →
      (J.stop i H ∧ Qd H) ∨ (J.go i H ∧ ∃ Nx : Hp → Prop, (∀ H', Nx H' → ∃ m', m' < m ∧ W (i + 1) m' H') ∧ ∀ x H', J.yld i H x H' → B Nx x H') := by
  refine ⟨fun i m H => m = n - i ∧ i ≤ n ∧ Pv i H, ⟨n, by simp, Nat.zero_le _, h0⟩, ?_⟩
  rintro i m H ⟨rfl, hi, p⟩
  have q := hG i H hi p
  by_cases hlt : i < n
  · exact .inr ⟨w.goes i H hlt q, Pv (i + 1), fun H' p' => ⟨n - (i + 1), by omega, rfl, hlt, p'⟩, fun x H' y => hs i x H H' hlt p (w.yields i H x H' hlt q y)⟩
  · have e : i = n := by omega
    subst e
    exact .inl ⟨w.stops H q, hd H p⟩
theorem walk_zipT {K : PySem.W.Frag} {a b : Addr} {xs ys : List V} {n : Nat} (hn : n = min xs.length ys.length) : Walk (RZ.ItzT K a b) n (fun H => SqT K H a xs ∧ SqT K H b ys) (YPair (fun i => xs[i]?) (fun i => ys[i]?)) := by
  subst hn
  refine ⟨fun i _ hi q => ?_, fun _ q => ⟨xs, ys, q.1, q.2, by omega⟩, fun i H v H' _ q y => ?_⟩
  · have h1 : i < xs.length := by omega
    have h2 : i < ys.length := by omega
    exact ⟨xs, ys, xs[i], ys[i], q.1, q.2, by simp [h1], by simp [h2]⟩
  · obtain ⟨T, x, z, h1, h2, h3, h4, h5⟩ := y
    exact ⟨T, x, z, h1, h2, h3, h4 xs q.1, h5 ys q.2⟩
end L2
namespace Ah
open PySem PySem.Spec PyProof.Rows L2
/-! ### told_of -/
def toldW (place : Str) : List Str → List Str
  | h :: rest => (match formsL.lookup h with
    | some ps => ((rest.zip ps).filter fun (z : Str × Str) => decide (z.2 = place)).map (fun (z : Str × Str) => z.1)
    | none => [])
  | [] => []
theorem Rw.form (r : Rw) : ∃ h rest ps, r.ws = h :: rest ∧ formsL.lookup h = some ps ∧ rest.length = ps.length ∧ rest.length ≤ 3 := by
  cases r <;> exact ⟨_, _, _, rfl, (by rfl), (by rfl), Nat.le_of_ble_eq_true rfl⟩
theorem toldW_of {place h : Str} {rest ps : List Str} (e : formsL.lookup h = some ps) : toldW place (h :: rest) = ((rest.zip ps).filter fun (z : Str × Str) => decide (z.2 = place)).map (fun (z : Str × Str) => z.1) := by
  show (match formsL.lookup h with
    | some ps => ((rest.zip ps).filter fun (z : Str × Str) => decide (z.2 = place)).map (fun (z : Str × Str) => z.1)
    | none => []) = _
  rw [e]
theorem mem_take_succ {α : Type} {l : List α} {i : Nat} {x y : α} (e : l[i]? = some x) : y ∈ l.take (i + 1) ↔ y ∈ l.take i ∨ y = x := by
  rw [List.take_add_one, e, List.mem_append]
  simp
theorem kD_far {H H' : Hp} {D : Addr} {o : HO} (n : H D = none) (k : Kept [] H H') : Kept [] H (upd H' D o) := Kept.far (Kept.refl H) n k
theorem scTd : FnScope ["rows", "place", "row", "word", "at"] ["rows", "place"] (defScope sToldOf) := ⟨rfl, rfl, rfl, by decide +kernel, rfl, by decide +kernel, by decide +kernel⟩
def spTold : Sp := fun vs H Q _ => ∃ (q : Addr) (rs : List Rw) (place : Str), vs = [.ref q, .str place] ∧ TextAt H q rs ∧ rs.length ≤ 1000 ∧
  ∀ (p : Addr) (bs : List Str) (H' : Hp), Kept [] H H' → H p = none → H' p = some (.lst ((bs.mergeSort leS).map V.str)) → (∀ z, z ∈ bs ↔ ∃ r ∈ rs, z ∈ toldW place (Rw.ws r)) → bs.length ≤ 3 * rs.length → Q (.ref p) H'
section
variable {P : Program} {w : World} {K : PySem.W.Frag} {mg : Str → Option Value} {base : Heap} {f d : Addr} {fd : FuncData}
theorem ok_told (F : FnP K "told_of" sToldOf f fd) (D : TF K w mg d) (B : Bl mg) : FnOk P w K mg base CX0 1 f fd ["rows", "place"] spTold := by
  refine F.ok scTd (fun vs H Q E h => ?_) (fun cdv A outer s H vs Q E hr h => ?_)
  · obtain ⟨q, rs, place, rfl, _⟩ := h
    rfl
  · obtain ⟨q, rs, place, rfl, tx, hl, k⟩ := h
    obtain ⟨es, nn, kd⟩ := D.kd
    refine ⟨_, PSs.nox (pss_one (ps_ret (pe_callB (cr_sortSetS rfl hr.units) (by rfl) B.sorted_ (by decide +kernel) (pa_cons
      (pe_sc2 (own := [("row", 2), ("word", 3), ("at", 4)]) (vs1 := [3, 4]) (tt := tYes) rfl scTd.nd (pi_tup (pv 0)) (blkOk_by (N := ["rows", "place", "row", "word", "at"]) (sc := defScope sToldOf) (by decide +kernel)) (by decide)
        (fun _ _ _ _ _ => pg_name (i := 2) scTd.nd rfl (Or.inl rfl)) (fun _ _ _ _ _ => pts_nil)
        (fun _ _ _ _ _ => show PI _ _ _ (RZ.iZipA K _) from RZ.pi_zipA (by rfl) B.zip_ (pa_cons (pe_slice (show SlR _ (rSlT K) from sl_tup) (pv 2) (po_some pe_int) po_none) (pa_cons (pe_ix (show IxR _ (rIxD K w) from ix_kdict) (pe_glob (v := .ref d) (by rfl) D.at_ rfl) (pe_ix (show IxR _ (rIxT K) from ix_tup) (pv 2) pe_int (fun _ _ => rfl)) (fun _ _ => rfl)) pa_nil)))
        (fun _ _ _ _ _ => show PG _ _ (gTup K 2 _) from pg_tup rfl (pgs_cons (pg_name (i := 3) scTd.nd rfl (Or.inl rfl)) (pgs_cons (pg_name (i := 4) scTd.nd rfl (Or.inl rfl)) pgs_nil)))
        (fun _ _ _ _ _ => pts_one (pt_cmpR op_eq (pv 4) (pv 1) (nomark _)))
        (fun _ _ _ _ _ => pv 3)) pa_nil)))), ?_⟩
    obtain ⟨ps, hq, hps⟩ := tx
    refine ⟨_, rfl, q, rfl, ⟨_, .inl (.of hq)⟩, fun Dz nD => ?_⟩
    have kD : Kept [] H (upd H Dz (SetSO P w Dz [])) := (Kept.refl H).upd nD
    have fin : ∀ {Ha : Hp} {l : List Str}, Kept [] H Ha → Ha Dz = some (SetSO P w Dz l) → (∀ z, z ∈ l ↔ ∃ r ∈ rs, z ∈ toldW place (Rw.ws r)) → l.length ≤ 3 * rs.length →
        ∀ (p : Addr) (bs : List Str), Ha p = none → (∀ z, z ∈ bs ↔ z ∈ l) → bs.length = l.length → Q (.ref p) (upd Ha p (.lst ((bs.mergeSort leS).map V.str))) := fun kk _ hm hz p bs np hb hbl => by
      refine k p bs _ (kk.upd np) ?_ upd_same (fun z => (hb z).trans (hm z)) (by omega)
      cases e : H p with
      | none => rfl
      | some o =>
        rw [kk p o e (by simp)] at np
        cases np
    have tq : ∀ {Ha : Hp}, Kept [] H Ha → SqT K Ha q (ps.map V.ref) := fun kk => .inl (.of (kk _ _ hq (by simp)))
    refine walk_W (walk_tup (K := K) (a := q) (xs := ps.map V.ref)) (fun i Ha => ∃ l, Ha Dz = some (SetSO P w Dz l) ∧ (∀ z, z ∈ l ↔ ∃ r ∈ rs.take i, z ∈ toldW place (Rw.ws r)) ∧ l.length ≤ 3 * i ∧ Kept [] H Ha)
      ⟨[], upd_same, (fun z => by simp), by simp, kD⟩ (fun i Ha _ pv => tq pv.choose_spec.2.2.2) ?_ ?_
    · rintro i x Ha0 Ha hi ⟨l, e1, hm, hz, kk⟩ ⟨rfl, ey⟩
      refine ⟨rfl, yes_if ?_⟩
      rw [List.getElem?_map] at ey
      obtain ⟨pr, epr, rfl⟩ := Option.map_eq_some_iff.mp ey
      obtain ⟨r, er, hr1⟩ := paired_at hps epr
      obtain ⟨hd, rest, fs, ew, ef, el1, el2⟩ := Rw.form r
      obtain ⟨ap, ea1, ea2⟩ := D.val hd fs ef
      have hpr : Ha pr = some (.tup (.str hd :: rest.map V.str)) := by
        have q := kk _ _ hr1 (by simp)
        rw [ew] at q
        exact q
      have sx : SqT K Ha pr (.str hd :: rest.map V.str) := .inl (.of hpr)
      refine ⟨_, rfl, 1, rfl, pr, _, rfl, sx, fun q => ?_, fun p np => ?_⟩
      · have h1 : HT.sIx (V.str hd :: rest.map V.str).length 0 (some 1) = 1 := by
          rw [show (1 : Int) = ((1 : Nat) : Int) from rfl, HT.sIx_nat, List.length_cons]
          omega
        have h2 := q.1
        rw [h1] at h2
        cases h2
      · rw [cut_tail]
        have k1 : Kept [] H (upd Ha p (.tup (rest.map V.str))) := kk.upd np
        have ndp : Dz ≠ p := ne_of_none e1 np
        refine ⟨_, rfl, pr, _, 0, .str hd, rfl, rfl, .inl (.of (by rw [upd_ne (ne_of_none hpr np)]; exact hpr)), at_of (j := 0) rfl rfl, d, hd, .ref ap, rfl, rfl, ⟨es, nn, _, kd.at_, kd.lit, ea1, rfl⟩, ?_⟩
        refine ⟨p, ap, rest.map V.str, fs.map V.str, rfl, .inr ⟨.inl (.of upd_same), ea2 _, ?_⟩⟩
        have lens : (rest.map V.str).length = rest.length ∧ (fs.map V.str).length = rest.length := ⟨List.length_map .., by rw [List.length_map, el1]⟩
        refine walk_W (walk_zipT (K := K) (a := p) (b := ap) (xs := rest.map V.str) (ys := fs.map V.str) (n := rest.length) (by omega))
          (fun j Hc => ∃ l', Hc Dz = some (SetSO P w Dz l') ∧ (∀ z, z ∈ l' ↔ z ∈ l ∨ z ∈ (((rest.zip fs).take j).filter fun (z : Str × Str) => decide (z.2 = place)).map fun (z : Str × Str) => z.1) ∧ l'.length ≤ l.length + j ∧ Kept [] H Hc ∧ Hc p = some (.tup (rest.map V.str)))
          ⟨l, by rw [upd_ne ndp]; exact e1, (fun z => by simp), by simp, k1, upd_same⟩ (fun j Hc _ pv => ⟨.inl (.of pv.choose_spec.2.2.2.2), ea2 _⟩) ?_ ?_
        · rintro j x Hc Hc' hj ⟨l', e2, hm2, hz2, kk2, ep2⟩ ⟨Tp, x1, x2, rfl, nT, rfl, g1, g2⟩
          dsimp only at g1 g2
          rw [List.getElem?_map] at g1 g2
          obtain ⟨a1, ga1, rfl⟩ := Option.map_eq_some_iff.mp g1
          obtain ⟨a2, ga2, rfl⟩ := Option.map_eq_some_iff.mp g2
          have ez : (rest.zip fs)[j]? = some (a1, a2) := List.getElem?_zip_eq_some.mpr ⟨ga1, ga2⟩
          have nd2 : Dz ≠ Tp := ne_of_none e2 nT
          refine ⟨Tp, _, rfl, .inl (.of upd_same), rfl, _, _, rfl, _, _, rfl, rfl, rfl, ?_⟩
          refine ⟨_, rfl, _, rfl, rfl, ?_⟩
          have k3 : Kept [] H (upd Hc Tp (.tup [.str a1, .str a2])) := kk2.upd nT
          by_cases hp : a2 = place
          · rw [decide_eq_true (by rw [hp])]
            refine ⟨true, rfl, iteT ⟨_, rfl, a1, l', rfl, (by rw [upd_ne nd2]; exact e2), ?_, fun l'' m1 m2 => ⟨l'', upd_same, fun z => ?_, by omega, kD_far nD k3, ?_⟩⟩⟩
            · exact Nat.lt_of_le_of_lt (show l'.length + 1 ≤ 4000 by
                have el : ps.length = rs.length := hps.length
                rw [List.length_map] at hi
                omega) (by decide)
            · rw [m1 z, hm2 z, List.take_add_one, ez]
              simp [hp, or_assoc, or_comm, or_left_comm]
            · rw [upd_ne (ne_of ep2 e2 (fun q => nomatch q)), upd_ne (ne_of_none ep2 nT)]
              exact ep2
          · rw [decide_eq_false (by intro q; exact hp (V.str.inj q))]
            refine ⟨false, rfl, iteF ⟨l', (by rw [upd_ne nd2]; exact e2), fun z => ?_, by omega, k3, ?_⟩⟩
            · rw [hm2 z, List.take_add_one, ez]
              simp [hp]
            · rw [upd_ne (ne_of_none ep2 nT)]
              exact ep2
        · rintro Hc ⟨l', e2, hm2, hz2, kk2, ep2⟩
          have et : (rest.zip fs).take rest.length = rest.zip fs := List.take_of_length_le (by rw [List.length_zip]; omega)
          rw [et] at hm2
          refine ⟨l', e2, fun z => ?_, by omega, kk2⟩
          rw [hm2, hm z]
          have et2 : toldW place (Rw.ws r) = ((rest.zip fs).filter fun (z : Str × Str) => decide (z.2 = place)).map fun (z : Str × Str) => z.1 := by
            rw [ew]
            exact toldW_of ef
          constructor
          · rintro (⟨r', hr', hz'⟩ | hz')
            · exact ⟨r', (mem_take_succ er).mpr (.inl hr'), hz'⟩
            · exact ⟨r, (mem_take_succ er).mpr (.inr rfl), by rw [et2]; exact hz'⟩
          · rintro ⟨r', hr', hz'⟩
            rcases (mem_take_succ er).mp hr' with q | q
            · exact .inl ⟨r', q, hz'⟩
            · right
              rw [q, et2] at hz'
              exact hz'
    · rintro Ha ⟨l, e1, hm, hz, kk⟩
      rw [List.length_map] at hm hz
      have el : ps.length = rs.length := hps.length
      rw [el, List.take_of_length_le (Nat.le_refl _)] at hm
      exact ⟨Dz, l, rfl, e1, fun p bs np hb hbl => fin kk e1 hm (by omega) p bs np hb hbl⟩
end
end Ah
end
section
set_option Elab.async false
set_option linter.all false
set_option maxRecDepth 100000
set_option maxHeartbeats 2000000
namespace Ah
open PySem PySem.Spec PyProof.Rows L2
/-! ### sayings and leads as data -/
inductive Say where
  | is (n k : Str) | has (n t m : Str) | clash
  deriving DecidableEq
def Say.ws : Say → List Str
  | .is n k => ["is", n, k] | .has n t m => ["has", n, t, m] | .clash => ["clash"]
theorem Say.inj {s t : Say} (h : s.ws = t.ws) : s = t := by
  cases s <;> cases t <;> simp [Say.ws] at h <;> first | rfl | (simp [h]) | (exact absurd h (by decide))
abbrev Lead := Say × Option Say × Say
def okW (ws : List Str) : Prop := ws.all PyData.strOk = true
/-- tuples, and what is known, stay -/
structure TK (H H' : Hp) : Prop where
  tup : ∀ b xs, H b = some (.tup xs) → H' b = some (.tup xs)
  frz : ∀ b o u, H b = some (.frz o u) → H' b = some (.frz o u)
theorem TK.refl (H : Hp) : TK H H := ⟨fun _ _ e => e, fun _ _ _ e => e⟩
theorem TK.trans {H H1 H2 : Hp} (a : TK H H1) (b : TK H1 H2) : TK H H2 := ⟨fun p x e => b.tup p x (a.tup p x e), fun p o u e => b.frz p o u (a.frz p o u e)⟩
theorem TK.of {H H' : Hp} (k : Kept [] H H') : TK H H' := ⟨fun b x e => k b _ e (by simp), fun b o u e => k b _ e (by simp)⟩
/-- what is neither a tuple nor known may be written -/
theorem TK.upd {H H' : Hp} {D : Addr} {u o : HO} (k : TK H H') (h : H' D = some u) (h1 : ∀ xs, u ≠ .tup xs) (h2 : ∀ o v, u ≠ .frz o v) : TK H (L2.upd H' D o) :=
  ⟨fun b x e => by
    have q := k.tup b x e
    rw [upd_ne (ne_of q h (fun z => h1 x z.symm))]
    exact q, fun b ob v e => by
    have q := k.frz b ob v e
    rw [upd_ne (ne_of q h (fun z => h2 ob v z.symm))]
    exact q⟩
theorem TK.updL {H H' : Hp} {D : Addr} {xs : List V} {o : HO} (k : TK H H') (h : H' D = some (.lst xs)) : TK H (L2.upd H' D o) := k.upd h (fun _ z => nomatch z) fun _ _ z => nomatch z
theorem TK.new {H H' : Hp} {D : Addr} {o : HO} (k : TK H H') (n : H' D = none) : TK H (L2.upd H' D o) :=
  ⟨fun b x e => by
    have q := k.tup b x e
    rw [upd_ne (ne_of_none q n)]
    exact q, fun b ob v e => by
    have q := k.frz b ob v e
    rw [upd_ne (ne_of_none q n)]
    exact q⟩
section
variable {K : PySem.W.Frag} {H H' : Hp} {a b : Addr} {xs ys : List V}
theorem sqT_tk (k : TK H H') (h : SqT K H a xs) : SqT K H' a xs := by
  rcases h with (h | ⟨o, h⟩) | h
  · exact .inl (.inl (k.tup _ _ h))
  · exact .inl (.inr ⟨o, k.frz _ _ _ h⟩)
  · exact .inr h
theorem sqL_kept (k : Kept [] H H') (h : SqL K H a xs) : SqL K H' a xs := by
  rcases h with (h | ⟨o, h⟩) | h
  · exact .inl (.inl (k _ _ h (by simp)))
  · exact .inl (.inr ⟨o, k _ _ h (by simp)⟩)
  · exact .inr h
end
def SayAt (K : PySem.W.Frag) (H : Hp) (v : V) (s : Say) : Prop := ∃ a, v = .ref a ∧ SqT K H a (s.ws.map V.str)
def OSayAt (K : PySem.W.Frag) (H : Hp) (v : V) : Option Say → Prop
  | none => v = .non
  | some s => SayAt K H v s
def LeadAt (K : PySem.W.Frag) (H : Hp) (v : V) (l : Lead) : Prop := ∃ q v1 v2 v3, v = .ref q ∧ H q = some (.tup [v1, v2, v3]) ∧ SayAt K H v1 l.1 ∧ OSayAt K H v2 l.2.1 ∧ SayAt K H v3 l.2.2
def LeadsAt (K : PySem.W.Frag) (H : Hp) (p : Addr) (ls : List Lead) : Prop := ∃ vs, H p = some (.lst vs) ∧ Paired (LeadAt K H) vs ls
section
variable {K : PySem.W.Frag} {H H' : Hp} {v : V}
theorem SayAt.tk {s : Say} (k : TK H H') (h : SayAt K H v s) : SayAt K H' v s := let ⟨a, e, q⟩ := h; ⟨a, e, sqT_tk k q⟩
theorem OSayAt.tk {s : Option Say} (k : TK H H') (h : OSayAt K H v s) : OSayAt K H' v s := by
  cases s with
  | none => exact h
  | some s => exact SayAt.tk k h
theorem LeadAt.tk {l : Lead} (k : TK H H') (h : LeadAt K H v l) : LeadAt K H' v l := by
  obtain ⟨q, v1, v2, v3, e, h1, h2, h3, h4⟩ := h
  exact ⟨q, v1, v2, v3, e, k.tup _ _ h1, h2.tk k, h3.tk k, h4.tk k⟩
theorem LeadsAt.kept {p : Addr} {ls : List Lead} (k : Kept [] H H') (h : LeadsAt K H p ls) : LeadsAt K H' p ls := by
  obtain ⟨vs, h1, h2⟩ := h
  exact ⟨vs, k _ _ h1 (by simp), Paired.mapP h2 fun _ _ q => q.tk (.of k)⟩
end
/-! ### tuples of texts are compared -/
theorem dpStrs {K : PySem.W.Frag} {H : Hp} : ∀ ws : List Str, DpAll K H (ws.map V.str) (ws.map PyData.str)
  | [] => .nil
  | w :: ws => .cons (.str w) (dpStrs ws)
theorem eqvStrs : ∀ xs ys : List Str, PyData.eqvAll (xs.map PyData.str) (ys.map PyData.str) = decide (xs = ys)
  | [], [] => by simp [PyData.eqvAll]
  | [], _ :: _ => by simp [PyData.eqvAll]
  | _ :: _, [] => by simp [PyData.eqvAll]
  | x :: xs, y :: ys => by
    rw [List.map_cons, List.map_cons, PyData.eqvAll, eqvStrs xs ys]
    by_cases h : x = y <;> by_cases h2 : xs = ys <;> simp [PyData.eqv, h, h2]
theorem shapedStrs {ws : List Str} (h : okW ws) : SeqAt.shaped (.tuple (ws.map PyData.str)) = true := by
  have h1 : ∀ l : List Str, l.all PyData.strOk = true → PyData.canLayAll0 (l.map PyData.str) = true := by
    intro l
    induction l with
    | nil => intro _; simp [PyData.canLayAll0]
    | cons w l ih =>
      intro h
      rw [List.all_cons, Bool.and_eq_true] at h
      rw [List.map_cons, PyData.canLayAll0, ih h.2, PyData.canLay0, h.1]
      rfl
  have h2 : ∀ l : List Str, PyData.depthAll (l.map PyData.str) = 0 := by
    intro l
    induction l with
    | nil => simp [PyData.depthAll]
    | cons w l ih => simp [PyData.depthAll, PyData.depth, ih]
  unfold SeqAt.shaped
  rw [PyData.canLay0, h1 ws h, PyData.depth, h2]
  rfl
section
variable {K : PySem.W.Frag} {H : Hp} {Q : VK}
theorem rd_eqW {a b : Addr} {xs ys : List Str} (ha : SqT K H a (xs.map V.str)) (hb : SqT K H b (ys.map V.str)) (ox : okW xs) (oy : okW ys) (q : Q (.bl (decide (xs = ys))) H) : rEqD K (.ref a) (.ref b) H Q := by
  refine ⟨_, _, .tup ha (dpStrs xs), .tup hb (dpStrs ys), shapedStrs ox, shapedStrs oy, ?_⟩
  rw [PyData.eqv, eqvStrs]
  exact q
theorem rd_neW {a b : Addr} {xs ys : List Str} (ha : SqT K H a (xs.map V.str)) (hb : SqT K H b (ys.map V.str)) (ox : okW xs) (oy : okW ys) (q : Q (.bl (!decide (xs = ys))) H) : rNeD K (.ref a) (.ref b) H Q := by
  refine ⟨_, _, .tup ha (dpStrs xs), .tup hb (dpStrs ys), shapedStrs ox, shapedStrs oy, ?_⟩
  rw [PyData.eqv, eqvStrs]
  exact q
theorem say_dec (s t : Say) : decide (s.ws = t.ws) = decide (s = t) := by
  by_cases h : s = t
  · rw [decide_eq_true h, decide_eq_true (by rw [h])]
  · rw [decide_eq_false h, decide_eq_false fun z => h (Say.inj z)]
theorem rd_eqS {v u : V} {s t : Say} (hv : SayAt K H v s) (hu : SayAt K H u t) (os : okW s.ws) (ot : okW t.ws) (q : Q (.bl (decide (s = t))) H) : rEqD K v u H Q := by
  obtain ⟨a, rfl, ha⟩ := hv
  obtain ⟨b, rfl, hb⟩ := hu
  refine rd_eqW ha hb os ot ?_
  rw [say_dec]
  exact q
theorem rd_neS {v u : V} {s : Say} {t : Option Say} (hv : SayAt K H v s) (hu : OSayAt K H u t) (os : okW s.ws) (ot : ∀ x, t = some x → okW x.ws) (q : Q (.bl (!decide (t = some s))) H) : rNeD K v u H Q := by
  obtain ⟨a, rfl, ha⟩ := hv
  cases t with
  | none =>
    obtain rfl : u = .non := hu
    refine ⟨_, _, .tup ha (dpStrs _), .non, shapedStrs os, rfl, ?_⟩
    have e : PyData.eqv (.tuple (s.ws.map PyData.str)) .none = false := by simp [PyData.eqv]
    rw [e]
    exact q
  | some t =>
    obtain ⟨b, rfl, hb⟩ := hu
    refine rd_neW ha hb os (ot t rfl) ?_
    rw [say_dec]
    have e : decide (s = t) = decide (some t = some s) := by
      by_cases h : s = t
      · rw [decide_eq_true h, decide_eq_true (by rw [h])]
      · rw [decide_eq_false h, decide_eq_false fun z => h (Option.some.inj z).symm]
    rw [e]
    exact q
end
theorem none_of {H Ha : Hp} {p : Addr} (k : Kept [] H Ha) (n : Ha p = none) : H p = none := by
  cases e : H p with
  | none => rfl
  | some o =>
    rw [k p o e (by simp)] at n
    cases n
/-! ### displays of leads -/
/-- arguments' values, from H0 on -/
def ValB (t : TA) (σ : L2.St) (H0 : Hp) (vs : List V) : Prop := ∀ H (Q : List V → Hp → Prop), Kept [] H0 H → Q vs H → t σ H Q
section
variable {K : PySem.W.Frag} {σ : L2.St} {H0 : Hp} {t : TA} {vs : List V} {i : Nat}
theorem valB_nil : ValB tNil σ H0 [] := fun _ _ _ h => h
theorem valB_str {z : Str} (h : ValB t σ H0 vs) : ValB (tCons (tC (.str z)) t) σ H0 (.str z :: vs) := fun H Q k q => h H _ k q
theorem valB_var {v : V} (e : σ[i]? = some (some v)) (h : ValB t σ H0 vs) : ValB (tCons (tVar i) t) σ H0 (v :: vs) := fun H Q k q => ⟨v, e, h H _ k q⟩
theorem valB_ix {a : Addr} {xs : List V} {c : Int} {j : Nat} {v : V} (e : σ[i]? = some (some (.ref a))) (hs : SqT K H0 a xs) (ec : c = (j : Int)) (ev : xs[j]? = some v) (h : ValB t σ H0 vs) : ValB (tCons (tOp (rIxT K) (tVar i) (tC (.int c))) t) σ H0 (v :: vs) :=
  fun H Q k q => ⟨_, e, a, xs, c, v, rfl, rfl, sqT_tk (.of k) hs, at_of ec ev, h H _ k q⟩
/-- a saying, or None -/
def MkV (K : PySem.W.Frag) (te : TE) (σ : L2.St) (H0 : Hp) (os : Option Say) : Prop := ∀ H (Q : VK), Kept [] H0 H → (∀ v H', Kept [] H H' → OSayAt K H' v os → Q v H') → te σ H Q
theorem mk_var {v : V} {os : Option Say} (e : σ[i]? = some (some v)) (h : OSayAt K H0 v os) : MkV K (tVar i) σ H0 os := fun H Q k q => ⟨v, e, q v H (Kept.refl H) (h.tk (.of k))⟩
theorem mk_non : MkV K (tC .non) σ H0 none := fun H Q k q => q _ H (Kept.refl H) rfl
theorem mk_glob {c : Addr} {s : Say} (h : ∀ H, SqT K H c (s.ws.map V.str)) : MkV K (tC (.ref c)) σ H0 (some s) := fun H Q k q => q _ H (Kept.refl H) ⟨c, rfl, h H⟩
theorem mk_new {s : Say} (h : ValB t σ H0 (s.ws.map V.str)) : MkV K (tTup t) σ H0 (some s) := fun H Q k q => h H _ k ⟨by rw [List.length_map]; exact Nat.le_trans (show s.ws.length ≤ 10 by cases s <;> simp [Say.ws]) (by decide), fun p np =>
  q _ _ ((Kept.refl H).upd np) ⟨p, rfl, .inl (.of upd_same)⟩⟩
/-- a lead -/
def MkL (K : PySem.W.Frag) (te : TE) (σ : L2.St) (H0 : Hp) (l : Lead) : Prop := ∀ H (Q : VK), Kept [] H0 H → (∀ v H', Kept [] H H' → LeadAt K H' v l → Q v H') → te σ H Q
theorem mk_lead {e1 e2 e3 : TE} {l : Lead} (h1 : MkV K e1 σ H0 (some l.1)) (h2 : MkV K e2 σ H0 l.2.1) (h3 : MkV K e3 σ H0 (some l.2.2)) : MkL K (tTup (tCons e1 (tCons e2 (tCons e3 tNil)))) σ H0 l := fun H Q k q =>
  h1 H _ k fun v1 H1 k1 o1 => h2 H1 _ (k.trans k1) fun v2 H2 k2 o2 => h3 H2 _ ((k.trans k1).trans k2) fun v3 H3 k3 o3 => ⟨by show 3 ≤ sizeLine; decide, fun p np =>
    q _ _ (((k1.trans k2).trans k3).upd np) ⟨p, v1, v2, v3, rfl, upd_same, (o1.tk (.of (k2.trans k3))).tk (TK.new (TK.refl _) np), (o2.tk (.of k3)).tk (TK.new (TK.refl _) np), o3.tk (TK.new (TK.refl _) np)⟩⟩
/-- [lead] -/
theorem mk_one {te : TE} {l : Lead} {H : Hp} {Q : VK} (h : MkL K te σ H0 l) (k : Kept [] H0 H) (q : ∀ p H', Kept [] H H' → H p = none → LeadsAt K H' p [l] → Q (.ref p) H') : tLst (tCons te tNil) σ H Q :=
  h H _ k fun v H1 k1 o1 => ⟨by show 1 ≤ sizeLine; decide, fun p np => q p _ (k1.upd np) (none_of k1 np) ⟨[v], upd_same, .cons (o1.tk (TK.new (TK.refl _) np)) .nil⟩⟩
/-- [] -/
theorem mk_none {H : Hp} {Q : VK} (q : ∀ p H', Kept [] H H' → H p = none → LeadsAt K H' p [] → Q (.ref p) H') : tLst tNil σ H Q :=
  ⟨by show 0 ≤ sizeLine; decide, fun p np => q p _ ((Kept.refl H).upd np) np ⟨[], upd_same, .nil⟩⟩
end
end Ah
end
section
set_option Elab.async false
set_option linter.all false
set_option maxRecDepth 100000
set_option maxHeartbeats 2000000
namespace Ah
open PySem PySem.Spec PyProof.Rows L2
/-- [a lead for name in names] -/
theorem rd_lcLeads {K : PySem.W.Frag} {σ : L2.St} {H : Hp} {Q : VK} {i j : Nat} {te : TE} {vs : List Nat} {na : Addr} {ns : List Str} {f : Str → Lead} (hσ : σ[i]? = some (some (.ref na))) (hs : SqL K H na (ns.map V.str)) (hl : ns.length ≤ 1000)
    (hw : ∀ v, wipe ((wipe σ vs).set j (some v)) vs = wipe σ vs) (he : ∀ x ∈ ns, MkL K te ((wipe σ vs).set j (some (.str x))) H (f x))
    (q : ∀ p H', Kept [] H H' → H p = none → LeadsAt K H' p (ns.map f) → Q (.ref p) H') : tLc (iList K (tVar i)) (gName j) tYes te vs σ H Q := by
  refine ⟨_, hσ, na, rfl, ⟨_, hs⟩, fun D nD => ?_⟩
  refine lc_it (walk_list (K := K) (a := na) (xs := ns.map V.str)) (fun i Ha => ∃ us, Ha D = some (.lst us) ∧ Paired (LeadAt K Ha) us ((ns.take i).map f) ∧ Kept [] H Ha) ⟨[], upd_same, .nil, (Kept.refl H).upd nD⟩ (fun i Ha _ pv => sqL_kept pv.choose_spec.2.2 hs) ?_ ?_
  · rintro i x Ha0 Ha hi ⟨us, e1, r, kk⟩ ⟨rfl, ey⟩
    refine ⟨hw x, yes_if ?_⟩
    rw [List.getElem?_map] at ey
    obtain ⟨z, ez, rfl⟩ := Option.map_eq_some_iff.mp ey
    refine he z (List.mem_of_getElem? ez) Ha _ kk fun v H' k1 lv => ?_
    have lu : us.length ≤ 1000 := by
      rw [r.length, List.length_map, List.length_take]
      omega
    refine ⟨us, k1 _ _ e1 (by simp), Nat.lt_of_le_of_lt lu (by decide), us ++ [v], upd_same, ?_, kD_far nD (kk.trans k1)⟩
    have tk : TK Ha (upd H' D (.lst (us ++ [v]))) := (TK.of k1).updL (k1 _ _ e1 (by simp))
    have tk2 : TK H' (upd H' D (.lst (us ++ [v]))) := (TK.refl H').updL (k1 _ _ e1 (by simp))
    rw [List.take_add_one, ez, List.map_append]
    exact paired_app (Paired.mapP r fun _ _ q => q.tk tk) (.cons (lv.tk tk2) .nil)
  · rintro Ha ⟨us, e1, r, kk⟩
    rw [List.length_map, List.take_of_length_le (Nat.le_refl _)] at r
    exact q D Ha kk nD ⟨us, e1, r⟩
theorem gN_eq {i : Nat} {v : V} {σ : L2.St} {H : Hp} {Q : L2.St → Hp → Prop} : gName i v σ H Q = Q (σ.set i (some v)) H := rfl
/-! ### leads_on -/
def leadsOn (n t m : Str) (names : List Str) : List Lead :=
  names.map (fun x => (Say.has n t m, some (Say.has m t x), Say.has n t x)) ++ names.map (fun x => (Say.has x t n, some (Say.has n t m), Say.has x t m))
theorem scOn : FnScope ["saying", "names", "_", "one", "tie", "other", "behind", "ahead", "name"] ["saying", "names"] (defScope sLOn) := ⟨rfl, rfl, rfl, by decide +kernel, rfl, by decide +kernel, by decide +kernel⟩
/-- saying, names -/
structure ArgsL (K : PySem.W.Frag) (H : Hp) (sv : V) (na : Addr) (s : Say) (names : List Str) : Prop where
  say : SayAt K H sv s
  ns : SqL K H na (names.map V.str)
  few : names.length ≤ 1000
theorem ArgsL.kept {K : PySem.W.Frag} {H H' : Hp} {sv : V} {na : Addr} {s : Say} {names : List Str} (k : Kept [] H H') (h : ArgsL K H sv na s names) : ArgsL K H' sv na s names := ⟨h.say.tk (.of k), sqL_kept k h.ns, h.few⟩
def spOn (K : PySem.W.Frag) : Sp := fun vs H Q _ => ∃ (sv : V) (na : Addr) (n t m : Str) (names : List Str), vs = [sv, .ref na] ∧ ArgsL K H sv na (.has n t m) names ∧ ∀ p H', Kept [] H H' → H p = none → LeadsAt K H' p (leadsOn n t m names) → Q (.ref p) H'
section
variable {P : Program} {w : World} {K : PySem.W.Frag} {mg : Str → Option Value} {base : Heap} {f : Addr} {fd : FuncData}
theorem ok_lon (F : FnP K "leads_on" sLOn f fd) : FnOk P w K mg base CX0 1 f fd ["saying", "names"] (spOn K) := by
  refine F.ok scOn (fun vs H Q E h => ?_) (fun cdv A outer s H vs Q E hr h => ?_)
  · obtain ⟨sv, na, n, t, m, names, rfl, _⟩ := h
    rfl
  · obtain ⟨sv, na, n, t, m, names, rfl, ⟨hsay, hns, hfew⟩, k⟩ := h
    refine ⟨_, PSs.nox (pss_cons (ps_asg (pv 0) (pg_tup rfl (pgs_cons (pg_name (i := 2) scOn.nd rfl (Or.inl rfl)) (pgs_cons (pg_name (i := 3) scOn.nd rfl (Or.inr rfl)) (pgs_cons (pg_name (i := 4) scOn.nd rfl (Or.inr rfl)) (pgs_cons (pg_name (i := 5) scOn.nd rfl (Or.inr rfl)) pgs_nil))))))
      (pss_cons (ps_setLc (i := 6) (own := [("name", 8)]) rfl scOn.nd rfl rfl (sw_true rfl rfl rfl (by decide +kernel)) (pi_list (pv 1)) (blkOk_by (N := ["saying", "names", "_", "one", "tie", "other", "behind", "ahead", "name"]) (sc := defScope sLOn) (by decide +kernel)) (fun _ _ _ _ _ => (pg_name (i := 8) scOn.nd rfl (Or.inl rfl))) (fun _ _ _ _ _ => pts_nil) (fun _ _ _ _ _ => (pe_tup (pa_cons (pv 0) (pa_cons (pe_tup (pa_cons pe_str (pa_cons (pv 5) (pa_cons (pv 4) (pa_cons (pv 8) pa_nil))))) (pa_cons (pe_tup (pa_cons pe_str (pa_cons (pv 3) (pa_cons (pv 4) (pa_cons (pv 8) pa_nil))))) pa_nil))))))
      (pss_cons (ps_setLc (i := 7) (own := [("name", 8)]) rfl scOn.nd rfl rfl (sw_true rfl rfl rfl (by decide +kernel)) (pi_list (pv 1)) (blkOk_by (N := ["saying", "names", "_", "one", "tie", "other", "behind", "ahead", "name"]) (sc := defScope sLOn) (by decide +kernel)) (fun _ _ _ _ _ => (pg_name (i := 8) scOn.nd rfl (Or.inl rfl))) (fun _ _ _ _ _ => pts_nil) (fun _ _ _ _ _ => (pe_tup (pa_cons (pe_tup (pa_cons pe_str (pa_cons (pv 8) (pa_cons (pv 4) (pa_cons (pv 3) pa_nil))))) (pa_cons (pv 0) (pa_cons (pe_tup (pa_cons pe_str (pa_cons (pv 8) (pa_cons (pv 4) (pa_cons (pv 5) pa_nil))))) pa_nil))))))
      (pss_one (ps_ret (pe_op op_cat (pv 6) (pv 7)))))) ), ?_⟩
    obtain ⟨sa, rfl, hsa⟩ := id hsay
    refine ⟨_, rfl, sa, _, rfl, hsa, rfl, ?_⟩
    refine ⟨_, _, rfl, _, _, rfl, _, _, rfl, _, _, rfl, rfl, ?_⟩
    dsimp only
    unfold tSeq tAsg
    dsimp only
    refine rd_lcLeads (f := fun x => (Say.has n t m, some (Say.has m t x), Say.has n t x)) rfl hns hfew (fun _ => rfl) (fun x hx => by exact mk_lead (mk_var rfl hsay) (mk_new (valB_str (valB_var rfl (valB_var rfl (valB_var rfl valB_nil))))) (mk_new (valB_str (valB_var rfl (valB_var rfl (valB_var rfl valB_nil)))))) fun p1 H1 k1 _ l1 => ?_
    rw [gN_eq]
    refine rd_lcLeads (f := fun x => (Say.has x t n, some (Say.has n t m), Say.has x t m)) rfl (sqL_kept k1 hns) hfew (fun _ => rfl) (fun x hx => by exact mk_lead (mk_new (valB_str (valB_var rfl (valB_var rfl (valB_var rfl valB_nil))))) (mk_var rfl (SayAt.tk (.of k1) hsay)) (mk_new (valB_str (valB_var rfl (valB_var rfl (valB_var rfl valB_nil)))))) fun p2 H2 k2 _ l2 => ?_
    obtain ⟨us1, e1, r1⟩ := l1.kept k2
    obtain ⟨us2, e2, r2⟩ := l2
    have z1 : us1.length = names.length := by rw [r1.length, List.length_map]
    have z2 : us2.length = names.length := by rw [r2.length, List.length_map]
    refine ⟨_, rfl, _, rfl, p1, p2, us1, us2, rfl, rfl, e1, e2, Nat.le_trans (show us1.length + us2.length ≤ 2000 by omega) (by decide), fun p np => ?_⟩
    have tk : TK H2 (upd H2 p (.lst (us1 ++ us2))) := (TK.refl H2).new np
    exact k p _ ((k1.trans k2).upd np) (none_of (k1.trans k2) np) ⟨us1 ++ us2, upd_same, paired_app (Paired.mapP r1 fun _ _ q => q.tk tk) (Paired.mapP r2 fun _ _ q => q.tk tk)⟩
end
end Ah
end
section
set_option Elab.async false
set_option linter.all false
set_option maxRecDepth 100000
set_option maxHeartbeats 4000000
namespace Ah
open PySem PySem.Spec PyProof.Rows L2
theorem if_no {p : Prop} [Decidable p] {A B : Prop} (h : ¬ p) (q : B) : if decide p = true then A else B := by rw [decide_eq_false h]; exact iteF q
theorem if_yes {p : Prop} [Decidable p] {A B : Prop} (h : p) (q : A) : if decide p = true then A else B := by rw [decide_eq_true h]; exact iteT q
theorem if_dec {p : Prop} [Decidable p] {A B : Prop} (h1 : p → A) (h2 : ¬ p → B) : if decide p = true then A else B := by
  by_cases h : p
  · exact if_yes h (h1 h)
  · exact if_no h (h2 h)
theorem okW_tail {w : Str} {ws : List Str} (h : okW (w :: ws)) : okW ws := by
  unfold okW at h ⊢
  rw [List.all_cons, Bool.and_eq_true] at h
  exact h.2
/-- row[1:] -/
theorem rd_tail {K : PySem.W.Frag} {σ : L2.St} {H : Hp} {Q : VK} {i : Nat} {ra : Addr} {h : V} {rest : List V} (hσ : σ[i]? = some (some (.ref ra))) (hr : SqT K H ra (h :: rest)) (q : ∀ p, H p = none → Q (.ref p) (upd H p (.tup rest))) :
    tSl (rSlT K) (tVar i) (tPart (tC (.int 1))) tNoPart σ H Q := by
  refine ⟨_, hσ, 1, rfl, ra, _, rfl, hr, fun z => ?_, fun p np => ?_⟩
  · have h1 : HT.sIx (h :: rest).length 0 (some 1) = 1 := by
      rw [show (1 : Int) = ((1 : Nat) : Int) from rfl, HT.sIx_nat, List.length_cons]
      omega
    have h2 := z.1
    rw [h1] at h2
    cases h2
  · rw [cut_tail]
    exact q p np
theorem mk_if {K : PySem.W.Frag} {σ : L2.St} {H0 : Hp} {tt : TT} {ta tb : TE} {os : Option Say} {b : Bool} (ht : ∀ H (Q : Bool → Hp → Prop), Kept [] H0 H → Q b H → tt σ H Q) (ha : b = true → MkV K ta σ H0 os) (hb : b = false → MkV K tb σ H0 os) : MkV K (tIf tt ta tb) σ H0 os := by
  intro H Q k q
  refine ht H _ k ?_
  cases b with
  | true => exact iteT (ha rfl H Q k q)
  | false => exact iteF (hb rfl H Q k q)
theorem mk_ifEq {K : PySem.W.Frag} {σ : L2.St} {H0 : Hp} {ta tb : TE} {os : Option Say} {i j : Nat} {x y : Str} (hi : σ[i]? = some (some (.str x))) (hj : σ[j]? = some (some (.str y))) (ha : x = y → MkV K ta σ H0 os) (hb : ¬ x = y → MkV K tb σ H0 os) :
    MkV K (tIf (tTest (tOp rEq (tVar i) (tVar j))) ta tb) σ H0 os := by
  refine mk_if (b := decide (x = y)) (fun H Q _ q => ⟨_, hi, _, hj, rfl, _, rfl, ?_⟩) (fun h => ha (of_decide_eq_true h)) fun h => hb (of_decide_eq_false h)
  have e : decide (V.str x = V.str y) = decide (x = y) := by
    by_cases h : x = y
    · rw [decide_eq_true h, decide_eq_true (by rw [h])]
    · rw [decide_eq_false h, decide_eq_false fun z => h (V.str.inj z)]
  rw [e]
  exact q
/-! ### leads_from_kind -/
def leadsKind (r : Rw) (n k : Str) (names : List Str) : List Lead :=
  match r with
  | .isnt n' k' => if [n', k'] = [n, k] then [(.is n k, none, .clash)] else []
  | .no k1 k2 => if k ∈ [k1, k2] then [(.is n k, if (if k1 = k then k2 else k1) = k then none else some (.is n (if k1 = k then k2 else k1)), .clash)] else []
  | .all k1 l => if k1 = k then [(.is n k, none, .is n l)] else []
  | .each k1 t m => if k1 = k then [(.is n k, none, .has n t m)] else []
  | .who t k1 l => if k1 = k then names.map (fun x => (Say.has x t n, some (Say.is n k), Say.is x l)) else []
  | _ => []
theorem scLK : FnScope ["row", "saying", "names", "_", "one", "kind", "word", "other", "name"] ["row", "saying", "names"] (defScope sLKind) := ⟨rfl, rfl, rfl, by decide +kernel, rfl, by decide +kernel, by decide +kernel⟩
def RowAt (K : PySem.W.Frag) (H : Hp) (ra : Addr) (r : Rw) : Prop := SqT K H ra (r.ws.map V.str)
def spLK (K : PySem.W.Frag) : Sp := fun vs H Q _ => ∃ (ra : Addr) (sv : V) (na : Addr) (r : Rw) (n k : Str) (names : List Str), vs = [.ref ra, sv, .ref na] ∧ RowAt K H ra r ∧ okW r.ws ∧ okW (Say.is n k).ws ∧ ArgsL K H sv na (.is n k) names ∧
  ∀ p H', Kept [] H H' → H p = none → LeadsAt K H' p (leadsKind r n k names) → Q (.ref p) H'
structure TClash (K : PySem.W.Frag) (mg : Str → Option Value) (cl : Addr) : Prop where
  g : mg "CLASH" = some (.ref cl)
  val : ∀ H, SqT K H cl ((Say.clash).ws.map V.str)
section
variable {P : Program} {w : World} {K : PySem.W.Frag} {mg : Str → Option Value} {base : Heap} {f cl : Addr} {fd : FuncData}
theorem ok_lkind (F : FnP K "leads_from_kind" sLKind f fd) (C : TClash K mg cl) : FnOk P w K mg base CX0 1 f fd ["row", "saying", "names"] (spLK K) := by
  refine F.ok scLK (fun vs H Q E h => ?_) (fun cdv A outer s H vs Q E hr h => ?_)
  · obtain ⟨ra, sv, na, r, n, k, names, rfl, _⟩ := h
    rfl
  · obtain ⟨ra, sv, na, r, n, k, names, rfl, hrow, okr, oks, ⟨hsay, hns, hfew⟩, q⟩ := h
    have gCl := C.g
    refine ⟨_, PSs.nox (pss_cons (ps_asg (pv 1) (pg_tup rfl (pgs_cons (pg_name (i := 3) scLK.nd rfl (Or.inl rfl)) (pgs_cons (pg_name (i := 4) scLK.nd rfl (Or.inr rfl)) (pgs_cons (pg_name (i := 5) scLK.nd rfl (Or.inl rfl)) pgs_nil)))))
      (pss_cons (ps_set (i := 6) scLK.nd rfl (.inl rfl) (pe_ix ix_tup (pv 0) pe_int (fun _ _ => rfl)))
      (pss_cons (ps_if (PW.pt (pw_and (pt_cmpR op_eq (pv 6) pe_str (nomark _)) (pw_and1 (pt_cmpR (op_eqD hr.units) (pe_slice sl_tup (pv 0) (po_some pe_int) po_none) (pe_tup (pa_cons (pv 4) (pa_cons (pv 5) pa_nil))) (nomark _))))) (pss_one (ps_ret (pe_lst (pa_cons (pe_tup (pa_cons (pv 1) (pa_cons pe_non (pa_cons (pe_glob (v := .ref cl) (by rfl) gCl rfl) pa_nil)))) pa_nil)))) pss_nil)
      (pss_cons (ps_if (PW.pt (pw_and (pt_cmpR op_eq (pv 6) pe_str (nomark _)) (pw_and1 (pt_cmpR op_in_seq (pv 5) (pe_slice sl_tup (pv 0) (po_some pe_int) po_none) (by rfl))))) (pss_cons (ps_set (i := 7) scLK.nd rfl (.inl rfl) (pe_ifExp (pt_cmpR op_eq (pe_ix ix_tup (pv 0) pe_int (fun _ _ => rfl)) (pv 5) (nomark _)) (pe_ix ix_tup (pv 0) pe_int (fun _ _ => rfl)) (pe_ix ix_tup (pv 0) pe_int (fun _ _ => rfl))))
      (pss_one (ps_ret (pe_lst (pa_cons (pe_tup (pa_cons (pv 1) (pa_cons (pe_ifExp (pt_cmpR op_eq (pv 7) (pv 5) (nomark _)) pe_non (pe_tup (pa_cons pe_str (pa_cons (pv 4) (pa_cons (pv 7) pa_nil))))) (pa_cons (pe_glob (v := .ref cl) (by rfl) gCl rfl) pa_nil)))) pa_nil))))) pss_nil)
      (pss_cons (ps_if (PW.pt (pw_and (pt_cmpR op_eq (pv 6) pe_str (nomark _)) (pw_and1 (pt_cmpR op_eq (pe_ix ix_tup (pv 0) pe_int (fun _ _ => rfl)) (pv 5) (nomark _))))) (pss_one (ps_ret (pe_lst (pa_cons (pe_tup (pa_cons (pv 1) (pa_cons pe_non (pa_cons (pe_tup (pa_cons pe_str (pa_cons (pv 4) (pa_cons (pe_ix ix_tup (pv 0) pe_int (fun _ _ => rfl)) pa_nil)))) pa_nil)))) pa_nil)))) pss_nil)
      (pss_cons (ps_if (PW.pt (pw_and (pt_cmpR op_eq (pv 6) pe_str (nomark _)) (pw_and1 (pt_cmpR op_eq (pe_ix ix_tup (pv 0) pe_int (fun _ _ => rfl)) (pv 5) (nomark _))))) (pss_one (ps_ret (pe_lst (pa_cons (pe_tup (pa_cons (pv 1) (pa_cons pe_non (pa_cons (pe_tup (pa_cons pe_str (pa_cons (pv 4) (pa_cons (pe_ix ix_tup (pv 0) pe_int (fun _ _ => rfl)) (pa_cons (pe_ix ix_tup (pv 0) pe_int (fun _ _ => rfl)) pa_nil))))) pa_nil)))) pa_nil)))) pss_nil)
      (pss_cons (ps_if (PW.pt (pw_and (pt_cmpR op_eq (pv 6) pe_str (nomark _)) (pw_and1 (pt_cmpR op_eq (pe_ix ix_tup (pv 0) pe_int (fun _ _ => rfl)) (pv 5) (nomark _))))) (pss_one (ps_ret (pe_lc (own := [("name", 8)]) rfl scLK.nd (pi_list (pv 2)) (blkOk_by (N := ["row", "saying", "names", "_", "one", "kind", "word", "other", "name"]) (sc := defScope sLKind) (by decide +kernel)) (fun _ _ _ _ _ => (pg_name (i := 8) scLK.nd rfl (Or.inl rfl))) (fun _ _ _ _ _ => pts_nil) (fun _ _ _ _ _ => (pe_tup (pa_cons (pe_tup (pa_cons pe_str (pa_cons (pv 8) (pa_cons (pe_ix (show IxR _ (rIxT K) from ix_tup) (pv 0) pe_int (fun _ _ => rfl)) (pa_cons (pv 4) pa_nil))))) (pa_cons (pv 1) (pa_cons (pe_tup (pa_cons pe_str (pa_cons (pv 8) (pa_cons (pe_ix (show IxR _ (rIxT K) from ix_tup) (pv 0) pe_int (fun _ _ => rfl)) pa_nil)))) pa_nil)))))))) pss_nil)
      (pss_one (ps_ret (pe_lst pa_nil)))))))))), ?_⟩
    obtain ⟨sa, rfl, hsa⟩ := id hsay
    refine ⟨_, rfl, sa, _, rfl, hsa, rfl, ?_⟩
    refine ⟨_, _, rfl, _, _, rfl, _, _, rfl, rfl, ?_⟩
    unfold RowAt at hrow
    have nil : ∀ H', Kept [] H H' → leadsKind r n k names = [] → tLst tNil [] H' Q := fun H' kk e => mk_none (K := K) fun p H2 k2 n2 l2 => q p H2 (kk.trans k2) (none_of kk n2) (by rw [e]; exact l2)
    cases r with
    | is a b =>
      refine ⟨_, rfl, ra, _, 0, _, rfl, rfl, hrow, at_of (j := 0) rfl rfl, ?_⟩
      (refine ⟨_, rfl, rfl, _, rfl, if_no (by decide +kernel) (iteF ?_)⟩)
      (refine ⟨_, rfl, rfl, _, rfl, if_no (by decide +kernel) (iteF ?_)⟩)
      (refine ⟨_, rfl, rfl, _, rfl, if_no (by decide +kernel) (iteF ?_)⟩)
      (refine ⟨_, rfl, rfl, _, rfl, if_no (by decide +kernel) (iteF ?_)⟩)
      (refine ⟨_, rfl, rfl, _, rfl, if_no (by decide +kernel) (iteF ?_)⟩)
      exact nil H (Kept.refl H) rfl
    | isnt a b =>
      refine ⟨_, rfl, ra, _, 0, _, rfl, rfl, hrow, at_of (j := 0) rfl rfl, ?_⟩
      (refine ⟨_, rfl, rfl, _, rfl, if_yes (by decide +kernel) ?_⟩)
      refine rd_tail rfl hrow fun p np => ?_
      refine ⟨_, rfl, _, rfl, (by show 2 ≤ sizeLine; decide), fun p2 np2 => ?_⟩
      have k2 := ((Kept.refl (M := []) H).upd (o := .tup [V.str a, V.str b]) np).upd (o := .tup [V.str n, V.str k]) np2
      refine rd_eqW (xs := [a, b]) (ys := [n, k]) (.inl (.of (by rw [upd_ne (ne_of_none upd_same np2)]; exact upd_same))) (.inl (.of upd_same)) (okW_tail okr) (okW_tail oks) ?_
      refine ⟨_, rfl, if_dec (fun e => ?_) (fun e => ?_)⟩
      · refine mk_one (l := (.is n k, none, .clash)) (mk_lead (mk_var rfl hsay) mk_non (mk_glob C.val)) k2 fun p H2 k3 n3 l3 => q p H2 (k2.trans k3) (none_of k2 n3) ?_
        have e2 : leadsKind (.isnt a b) n k names = [(.is n k, none, .clash)] := if_pos e
        rw [e2]
        exact l3
      · (refine ⟨_, rfl, rfl, _, rfl, if_no (by decide +kernel) (iteF ?_)⟩)
        (refine ⟨_, rfl, rfl, _, rfl, if_no (by decide +kernel) (iteF ?_)⟩)
        (refine ⟨_, rfl, rfl, _, rfl, if_no (by decide +kernel) (iteF ?_)⟩)
        (refine ⟨_, rfl, rfl, _, rfl, if_no (by decide +kernel) (iteF ?_)⟩)
        exact nil _ k2 (if_neg e)
    | has a b c =>
      refine ⟨_, rfl, ra, _, 0, _, rfl, rfl, hrow, at_of (j := 0) rfl rfl, ?_⟩
      (refine ⟨_, rfl, rfl, _, rfl, if_no (by decide +kernel) (iteF ?_)⟩)
      (refine ⟨_, rfl, rfl, _, rfl, if_no (by decide +kernel) (iteF ?_)⟩)
      (refine ⟨_, rfl, rfl, _, rfl, if_no (by decide +kernel) (iteF ?_)⟩)
      (refine ⟨_, rfl, rfl, _, rfl, if_no (by decide +kernel) (iteF ?_)⟩)
      (refine ⟨_, rfl, rfl, _, rfl, if_no (by decide +kernel) (iteF ?_)⟩)
      exact nil H (Kept.refl H) rfl
    | hasnt a b c =>
      refine ⟨_, rfl, ra, _, 0, _, rfl, rfl, hrow, at_of (j := 0) rfl rfl, ?_⟩
      (refine ⟨_, rfl, rfl, _, rfl, if_no (by decide +kernel) (iteF ?_)⟩)
      (refine ⟨_, rfl, rfl, _, rfl, if_no (by decide +kernel) (iteF ?_)⟩)
      (refine ⟨_, rfl, rfl, _, rfl, if_no (by decide +kernel) (iteF ?_)⟩)
      (refine ⟨_, rfl, rfl, _, rfl, if_no (by decide +kernel) (iteF ?_)⟩)
      (refine ⟨_, rfl, rfl, _, rfl, if_no (by decide +kernel) (iteF ?_)⟩)
      exact nil H (Kept.refl H) rfl
    | all a b =>
      refine ⟨_, rfl, ra, _, 0, _, rfl, rfl, hrow, at_of (j := 0) rfl rfl, ?_⟩
      (refine ⟨_, rfl, rfl, _, rfl, if_no (by decide +kernel) (iteF ?_)⟩)
      (refine ⟨_, rfl, rfl, _, rfl, if_no (by decide +kernel) (iteF ?_)⟩)
      (refine ⟨_, rfl, rfl, _, rfl, if_yes (by decide +kernel) ?_⟩)
      refine ⟨_, rfl, ra, _, 1, _, rfl, rfl, hrow, at_of (j := 1) rfl rfl, _, rfl, rfl, ?_⟩
      refine ⟨_, rfl, if_dec (fun e => ?_) (fun e => ?_)⟩
      · have e2 : leadsKind (.all a b) n k names = [(.is n k, none, .is n b)] := if_pos (V.str.inj e)
        refine mk_one (l := (.is n k, none, .is n b)) (mk_lead (mk_var rfl hsay) mk_non (mk_new (s := .is n b) (valB_str (valB_var rfl (valB_ix rfl hrow (j := 2) rfl rfl valB_nil))))) (Kept.refl H) fun p H2 k3 n3 l3 => q p H2 k3 n3 ?_
        rw [e2]
        exact l3
      · (refine ⟨_, rfl, rfl, _, rfl, if_no (by decide +kernel) (iteF ?_)⟩)
        (refine ⟨_, rfl, rfl, _, rfl, if_no (by decide +kernel) (iteF ?_)⟩)
        exact nil H (Kept.refl H) (if_neg fun z => e (by rw [z]))
    | no a b =>
      refine ⟨_, rfl, ra, _, 0, _, rfl, rfl, hrow, at_of (j := 0) rfl rfl, ?_⟩
      (refine ⟨_, rfl, rfl, _, rfl, if_no (by decide +kernel) (iteF ?_)⟩)
      (refine ⟨_, rfl, rfl, _, rfl, if_yes (by decide +kernel) ?_⟩)
      refine ⟨_, rfl, rd_tail rfl hrow fun p np => ?_⟩
      have k1 := (Kept.refl (M := []) H).upd (o := .tup [V.str a, V.str b]) np
      refine ⟨p, _, rfl, .inr (.inl (.of upd_same)), rfl, rfl, ?_⟩
      have ei : inV (V.str k) ([a, b].map V.str) = decide (k ∈ [a, b]) := by
        show ((a == k) || ((b == k) || false)) = _
        by_cases h1 : a = k <;> by_cases h2 : b = k <;> simp [h1, h2, show ¬ k = a ↔ ¬ a = k from ⟨fun h e => h e.symm, fun h e => h e.symm⟩, Ne.symm]
      simp only [Bool.false_eq_true, if_false]
      rw [ei]
      have hrow1 := sqT_tk (TK.of k1) hrow
      refine ⟨_, rfl, if_dec (fun e => ?_) (fun e => ?_)⟩
      · have e2 : leadsKind (.no a b) n k names = [(.is n k, if (if a = k then b else a) = k then none else some (.is n (if a = k then b else a)), .clash)] := if_pos e
        rw [e2] at q
        clear e2
        refine ⟨_, rfl, ra, _, 1, _, rfl, rfl, hrow1, at_of (j := 1) rfl rfl, _, rfl, rfl, ?_⟩
        refine ⟨_, rfl, if_dec (fun e1 => ?_) (fun e1 => ?_)⟩
        · rw [if_pos (V.str.inj e1)] at q
          refine ⟨_, rfl, ra, _, 2, _, rfl, rfl, hrow1, at_of (j := 2) rfl rfl, ?_⟩
          refine mk_one (l := (.is n k, if b = k then none else some (.is n b), .clash)) (mk_lead (mk_var rfl hsay) (mk_ifEq (x := b) (y := k) rfl rfl (fun h => by rw [if_pos h]; exact mk_non) (fun h => by rw [if_neg h]; exact mk_new (s := .is n b) (valB_str (valB_var rfl (valB_var rfl valB_nil))))) (mk_glob C.val)) k1 fun p H2 k3 n3 l3 => q p H2 (k1.trans k3) (none_of k1 n3) l3
        · rw [show (if a = k then b else a) = a from if_neg fun z => e1 (by rw [z])] at q
          refine ⟨_, rfl, ra, _, 1, _, rfl, rfl, hrow1, at_of (j := 1) rfl rfl, ?_⟩
          refine mk_one (l := (.is n k, if a = k then none else some (.is n a), .clash)) (mk_lead (mk_var rfl hsay) (mk_ifEq (x := a) (y := k) rfl rfl (fun h => by rw [if_pos h]; exact mk_non) (fun h => by rw [if_neg h]; exact mk_new (s := .is n a) (valB_str (valB_var rfl (valB_var rfl valB_nil))))) (mk_glob C.val)) k1 fun p H2 k3 n3 l3 => q p H2 (k1.trans k3) (none_of k1 n3) l3
      · (refine ⟨_, rfl, rfl, _, rfl, if_no (by decide +kernel) (iteF ?_)⟩)
        (refine ⟨_, rfl, rfl, _, rfl, if_no (by decide +kernel) (iteF ?_)⟩)
        (refine ⟨_, rfl, rfl, _, rfl, if_no (by decide +kernel) (iteF ?_)⟩)
        exact nil _ k1 (if_neg e)
    | each a b c =>
      refine ⟨_, rfl, ra, _, 0, _, rfl, rfl, hrow, at_of (j := 0) rfl rfl, ?_⟩
      (refine ⟨_, rfl, rfl, _, rfl, if_no (by decide +kernel) (iteF ?_)⟩)
      (refine ⟨_, rfl, rfl, _, rfl, if_no (by decide +kernel) (iteF ?_)⟩)
      (refine ⟨_, rfl, rfl, _, rfl, if_no (by decide +kernel) (iteF ?_)⟩)
      (refine ⟨_, rfl, rfl, _, rfl, if_yes (by decide +kernel) ?_⟩)
      refine ⟨_, rfl, ra, _, 1, _, rfl, rfl, hrow, at_of (j := 1) rfl rfl, _, rfl, rfl, ?_⟩
      refine ⟨_, rfl, if_dec (fun e => ?_) (fun e => ?_)⟩
      · have e2 : leadsKind (.each a b c) n k names = [(.is n k, none, .has n b c)] := if_pos (V.str.inj e)
        refine mk_one (l := (.is n k, none, .has n b c)) (mk_lead (mk_var rfl hsay) mk_non (mk_new (s := .has n b c) (valB_str (valB_var rfl (valB_ix rfl hrow (j := 2) rfl rfl (valB_ix rfl hrow (j := 3) rfl rfl valB_nil)))))) (Kept.refl H) fun p H2 k3 n3 l3 => q p H2 k3 n3 ?_
        rw [e2]
        exact l3
      · (refine ⟨_, rfl, rfl, _, rfl, if_no (by decide +kernel) (iteF ?_)⟩)
        exact nil H (Kept.refl H) (if_neg fun z => e (by rw [z]))
    | who a b c =>
      refine ⟨_, rfl, ra, _, 0, _, rfl, rfl, hrow, at_of (j := 0) rfl rfl, ?_⟩
      (refine ⟨_, rfl, rfl, _, rfl, if_no (by decide +kernel) (iteF ?_)⟩)
      (refine ⟨_, rfl, rfl, _, rfl, if_no (by decide +kernel) (iteF ?_)⟩)
      (refine ⟨_, rfl, rfl, _, rfl, if_no (by decide +kernel) (iteF ?_)⟩)
      (refine ⟨_, rfl, rfl, _, rfl, if_no (by decide +kernel) (iteF ?_)⟩)
      (refine ⟨_, rfl, rfl, _, rfl, if_yes (by decide +kernel) ?_⟩)
      refine ⟨_, rfl, ra, _, 2, _, rfl, rfl, hrow, at_of (j := 2) rfl rfl, _, rfl, rfl, ?_⟩
      refine ⟨_, rfl, if_dec (fun e => ?_) (fun e => ?_)⟩
      · have e2 : leadsKind (.who a b c) n k names = names.map (fun x => (Say.has x a n, some (Say.is n k), Say.is x c)) := if_pos (V.str.inj e)
        refine rd_lcLeads (f := fun x => (Say.has x a n, some (Say.is n k), Say.is x c)) rfl hns hfew (fun _ => rfl) (fun x hx => by exact mk_lead (mk_new (valB_str (valB_var rfl (valB_ix rfl hrow (j := 1) rfl rfl (valB_var rfl valB_nil))))) (mk_var rfl hsay) (mk_new (valB_str (valB_var rfl (valB_ix rfl hrow (j := 3) rfl rfl valB_nil))))) fun p1 H1 k1 n1 l1 => q p1 H1 k1 n1 ?_
        rw [e2]
        exact l1
      · exact nil H (Kept.refl H) (if_neg fun z => e (by rw [z]))
    | turned a b =>
      refine ⟨_, rfl, ra, _, 0, _, rfl, rfl, hrow, at_of (j := 0) rfl rfl, ?_⟩
      (refine ⟨_, rfl, rfl, _, rfl, if_no (by decide +kernel) (iteF ?_)⟩)
      (refine ⟨_, rfl, rfl, _, rfl, if_no (by decide +kernel) (iteF ?_)⟩)
      (refine ⟨_, rfl, rfl, _, rfl, if_no (by decide +kernel) (iteF ?_)⟩)
      (refine ⟨_, rfl, rfl, _, rfl, if_no (by decide +kernel) (iteF ?_)⟩)
      (refine ⟨_, rfl, rfl, _, rfl, if_no (by decide +kernel) (iteF ?_)⟩)
      exact nil H (Kept.refl H) rfl
    | on a =>
      refine ⟨_, rfl, ra, _, 0, _, rfl, rfl, hrow, at_of (j := 0) rfl rfl, ?_⟩
      (refine ⟨_, rfl, rfl, _, rfl, if_no (by decide +kernel) (iteF ?_)⟩)
      (refine ⟨_, rfl, rfl, _, rfl, if_no (by decide +kernel) (iteF ?_)⟩)
      (refine ⟨_, rfl, rfl, _, rfl, if_no (by decide +kernel) (iteF ?_)⟩)
      (refine ⟨_, rfl, rfl, _, rfl, if_no (by decide +kernel) (iteF ?_)⟩)
      (refine ⟨_, rfl, rfl, _, rfl, if_no (by decide +kernel) (iteF ?_)⟩)
      exact nil H (Kept.refl H) rfl
    | fr a b =>
      refine ⟨_, rfl, ra, _, 0, _, rfl, rfl, hrow, at_of (j := 0) rfl rfl, ?_⟩
      (refine ⟨_, rfl, rfl, _, rfl, if_no (by decide +kernel) (iteF ?_)⟩)
      (refine ⟨_, rfl, rfl, _, rfl, if_no (by decide +kernel) (iteF ?_)⟩)
      (refine ⟨_, rfl, rfl, _, rfl, if_no (by decide +kernel) (iteF ?_)⟩)
      (refine ⟨_, rfl, rfl, _, rfl, if_no (by decide +kernel) (iteF ?_)⟩)
      (refine ⟨_, rfl, rfl, _, rfl, if_no (by decide +kernel) (iteF ?_)⟩)
      exact nil H (Kept.refl H) rfl
    | to a b =>
      refine ⟨_, rfl, ra, _, 0, _, rfl, rfl, hrow, at_of (j := 0) rfl rfl, ?_⟩
      (refine ⟨_, rfl, rfl, _, rfl, if_no (by decide +kernel) (iteF ?_)⟩)
      (refine ⟨_, rfl, rfl, _, rfl, if_no (by decide +kernel) (iteF ?_)⟩)
      (refine ⟨_, rfl, rfl, _, rfl, if_no (by decide +kernel) (iteF ?_)⟩)
      (refine ⟨_, rfl, rfl, _, rfl, if_no (by decide +kernel) (iteF ?_)⟩)
      (refine ⟨_, rfl, rfl, _, rfl, if_no (by decide +kernel) (iteF ?_)⟩)
      exact nil H (Kept.refl H) rfl
    | under a b =>
      refine ⟨_, rfl, ra, _, 0, _, rfl, rfl, hrow, at_of (j := 0) rfl rfl, ?_⟩
      (refine ⟨_, rfl, rfl, _, rfl, if_no (by decide +kernel) (iteF ?_)⟩)
      (refine ⟨_, rfl, rfl, _, rfl, if_no (by decide +kernel) (iteF ?_)⟩)
      (refine ⟨_, rfl, rfl, _, rfl, if_no (by decide +kernel) (iteF ?_)⟩)
      (refine ⟨_, rfl, rfl, _, rfl, if_no (by decide +kernel) (iteF ?_)⟩)
      (refine ⟨_, rfl, rfl, _, rfl, if_no (by decide +kernel) (iteF ?_)⟩)
      exact nil H (Kept.refl H) rfl
end
end Ah
end
section
set_option Elab.async false
set_option linter.all false
set_option maxRecDepth 100000
set_option maxHeartbeats 4000000
namespace Ah
open PySem PySem.Spec PyProof.Rows L2
theorem if_nd {p : Prop} [Decidable p] {A B : Prop} (h1 : ¬ p → A) (h2 : p → B) : if (!decide p) = true then A else B := by
  by_cases h : p
  · rw [decide_eq_true h]; exact iteF (h2 h)
  · rw [decide_eq_false h]; exact iteT (h1 h)
/-! ### leads_from_tie -/
def leadsTie (r : Rw) (n t m : Str) (names : List Str) : List Lead :=
  match r with
  | .hasnt a b c => if [a, b, c] = [n, t, m] then [(.has n t m, none, .clash)] else []
  | .on a => if a = t then leadsOn n t m names else []
  | .who a k l => if a = t then [(.has n t m, some (.is m k), .is n l)] else []
  | .turned a b => if a = t then [(.has n t m, none, .has m b n)] else []
  | .under a b => if a = t then [(.has n t m, none, .has n b m)] else []
  | .fr a k => if a = t then [(.has n t m, none, .is n k)] else []
  | .to a k => if a = t then [(.has n t m, none, .is m k)] else []
  | _ => []
theorem scTi : FnScope ["row", "saying", "names", "_", "one", "tie", "other", "word"] ["row", "saying", "names"] (defScope sLTie) := ⟨rfl, rfl, rfl, by decide +kernel, rfl, by decide +kernel, by decide +kernel⟩
theorem scBy : FnScope ["row", "saying", "names"] ["row", "saying", "names"] (defScope sLBy) := ⟨rfl, rfl, rfl, by decide +kernel, rfl, by decide +kernel, by decide +kernel⟩
def spLT (K : PySem.W.Frag) : Sp := fun vs H Q _ => ∃ (ra : Addr) (sv : V) (na : Addr) (r : Rw) (n t m : Str) (names : List Str), vs = [.ref ra, sv, .ref na] ∧ RowAt K H ra r ∧ okW r.ws ∧ okW (Say.has n t m).ws ∧ ArgsL K H sv na (.has n t m) names ∧
  ∀ p H', Kept [] H H' → H p = none → LeadsAt K H' p (leadsTie r n t m names) → Q (.ref p) H'
def leadsBy (r : Rw) (s : Say) (names : List Str) : List Lead :=
  match s with
  | .is n k => leadsKind r n k names
  | .has n t m => leadsTie r n t m names
  | .clash => []
def spBy (K : PySem.W.Frag) : Sp := fun vs H Q _ => ∃ (ra : Addr) (sv : V) (na : Addr) (r : Rw) (s : Say) (names : List Str), vs = [.ref ra, sv, .ref na] ∧ RowAt K H ra r ∧ okW r.ws ∧ okW s.ws ∧ ArgsL K H sv na s names ∧
  ∀ p H', Kept [] H H' → H p = none → LeadsAt K H' p (leadsBy r s names) → Q (.ref p) H'
section
variable {P : Program} {w : World} {K : PySem.W.Frag} {mg : Str → Option Value} {base : Heap} {f cl fO fK fT : Addr} {fd fdO fdK fdT : FuncData}
theorem ok_ltie (F : FnP K "leads_from_tie" sLTie f fd) (C : TClash K mg cl) (c_leads_on : Own P w K mg base "leads_on" 1 fO fdO ["saying", "names"] (spOn K)) : FnOk P w K mg base CX0 2 f fd ["row", "saying", "names"] (spLT K) := by
  refine F.ok scTi (fun vs H Q E h => ?_) (fun cdv A outer s H vs Q E hr h => ?_)
  · obtain ⟨ra, sv, na, r, n, t, m, names, rfl, _⟩ := h
    rfl
  · obtain ⟨ra, sv, na, r, n, t, m, names, rfl, hrow, okr, oks, ⟨hsay, hns, hfew⟩, q⟩ := h
    have gCl := C.g
    refine ⟨_, PSs.nox (pss_cons (ps_asg (pv 1) (pg_tup rfl (pgs_cons (pg_name (i := 3) scTi.nd rfl (Or.inl rfl)) (pgs_cons (pg_name (i := 4) scTi.nd rfl (Or.inl rfl)) (pgs_cons (pg_name (i := 5) scTi.nd rfl (Or.inl rfl)) (pgs_cons (pg_name (i := 6) scTi.nd rfl (Or.inl rfl)) pgs_nil))))))
      (pss_cons (ps_set (i := 7) scTi.nd rfl (.inl rfl) (pe_ix ix_tup (pv 0) pe_int (fun _ _ => rfl)))
      (pss_cons (ps_if (PW.pt (pw_and (pt_cmpR op_eq (pv 7) pe_str (nomark _)) (pw_and1 (pt_cmpR (op_eqD hr.units) (pe_slice sl_tup (pv 0) (po_some pe_int) po_none) (pe_tup (pa_cons (pv 4) (pa_cons (pv 5) (pa_cons (pv 6) pa_nil)))) (nomark _))))) (pss_one (ps_ret (pe_lst (pa_cons (pe_tup (pa_cons (pv 1) (pa_cons pe_non (pa_cons (pe_glob (v := .ref cl) (by rfl) gCl rfl) pa_nil)))) pa_nil)))) pss_nil)
      (pss_cons (ps_if (pt_cmpR op_ne (pe_ix ix_tup (pv 0) pe_int (fun _ _ => rfl)) (pv 5) (nomark _)) (pss_one (ps_ret (pe_lst pa_nil))) pss_nil)
      (pss_cons (ps_if (pt_cmpR op_eq (pv 7) pe_str (nomark _)) (pss_one (ps_ret (pe_call c_leads_on.ok hr (by rfl) c_leads_on.g c_leads_on.kp c_leads_on.b .nil pass0 (pa_cons (pv 1) (pa_cons (pv 2) pa_nil))))) pss_nil)
      (pss_cons (ps_if (pt_cmpR op_eq (pv 7) pe_str (nomark _)) (pss_one (ps_ret (pe_lst (pa_cons (pe_tup (pa_cons (pv 1) (pa_cons (pe_tup (pa_cons pe_str (pa_cons (pv 6) (pa_cons (pe_ix ix_tup (pv 0) pe_int (fun _ _ => rfl)) pa_nil)))) (pa_cons (pe_tup (pa_cons pe_str (pa_cons (pv 4) (pa_cons (pe_ix ix_tup (pv 0) pe_int (fun _ _ => rfl)) pa_nil)))) pa_nil)))) pa_nil)))) pss_nil)
      (pss_cons (ps_if (pt_cmpR op_eq (pv 7) pe_str (nomark _)) (pss_one (ps_ret (pe_lst (pa_cons (pe_tup (pa_cons (pv 1) (pa_cons pe_non (pa_cons (pe_tup (pa_cons pe_str (pa_cons (pv 6) (pa_cons (pe_ix ix_tup (pv 0) pe_int (fun _ _ => rfl)) (pa_cons (pv 4) pa_nil))))) pa_nil)))) pa_nil)))) pss_nil)
      (pss_cons (ps_if (pt_cmpR op_eq (pv 7) pe_str (nomark _)) (pss_one (ps_ret (pe_lst (pa_cons (pe_tup (pa_cons (pv 1) (pa_cons pe_non (pa_cons (pe_tup (pa_cons pe_str (pa_cons (pv 4) (pa_cons (pe_ix ix_tup (pv 0) pe_int (fun _ _ => rfl)) (pa_cons (pv 6) pa_nil))))) pa_nil)))) pa_nil)))) pss_nil)
      (pss_cons (ps_if (pt_cmpR op_eq (pv 7) pe_str (nomark _)) (pss_one (ps_ret (pe_lst (pa_cons (pe_tup (pa_cons (pv 1) (pa_cons pe_non (pa_cons (pe_tup (pa_cons pe_str (pa_cons (pv 4) (pa_cons (pe_ix ix_tup (pv 0) pe_int (fun _ _ => rfl)) pa_nil)))) pa_nil)))) pa_nil)))) pss_nil)
      (pss_cons (ps_if (pt_cmpR op_eq (pv 7) pe_str (nomark _)) (pss_one (ps_ret (pe_lst (pa_cons (pe_tup (pa_cons (pv 1) (pa_cons pe_non (pa_cons (pe_tup (pa_cons pe_str (pa_cons (pv 6) (pa_cons (pe_ix ix_tup (pv 0) pe_int (fun _ _ => rfl)) pa_nil)))) pa_nil)))) pa_nil)))) pss_nil)
      (pss_one (ps_ret (pe_lst pa_nil))))))))))))), ?_⟩
    obtain ⟨sa, rfl, hsa⟩ := id hsay
    refine ⟨_, rfl, sa, _, rfl, hsa, rfl, ?_⟩
    refine ⟨_, _, rfl, _, _, rfl, _, _, rfl, _, _, rfl, rfl, ?_⟩
    unfold RowAt at hrow
    have nil : ∀ H', Kept [] H H' → leadsTie r n t m names = [] → tLst tNil [] H' Q := fun H' kk e => mk_none (K := K) fun p H2 k2 n2 l2 => q p H2 (kk.trans k2) (none_of kk n2) (by rw [e]; exact l2)
    cases r with
    | is a b =>
      refine ⟨_, rfl, ra, _, 0, _, rfl, rfl, hrow, at_of (j := 0) rfl rfl, ?_⟩
      (refine ⟨_, rfl, rfl, _, rfl, if_no (by decide +kernel) (iteF ?_)⟩)
      refine ⟨_, rfl, ra, _, 1, _, rfl, rfl, hrow, at_of (j := 1) rfl rfl, _, rfl, rfl, _, rfl, if_nd (fun e => ?_) (fun e => ?_)⟩
      · exact nil H (Kept.refl H) rfl
      · (refine ⟨_, rfl, rfl, _, rfl, if_no (by decide +kernel) ?_⟩)
        (refine ⟨_, rfl, rfl, _, rfl, if_no (by decide +kernel) ?_⟩)
        (refine ⟨_, rfl, rfl, _, rfl, if_no (by decide +kernel) ?_⟩)
        (refine ⟨_, rfl, rfl, _, rfl, if_no (by decide +kernel) ?_⟩)
        (refine ⟨_, rfl, rfl, _, rfl, if_no (by decide +kernel) ?_⟩)
        (refine ⟨_, rfl, rfl, _, rfl, if_no (by decide +kernel) ?_⟩)
        exact nil H (Kept.refl H) rfl
    | isnt a b =>
      refine ⟨_, rfl, ra, _, 0, _, rfl, rfl, hrow, at_of (j := 0) rfl rfl, ?_⟩
      (refine ⟨_, rfl, rfl, _, rfl, if_no (by decide +kernel) (iteF ?_)⟩)
      refine ⟨_, rfl, ra, _, 1, _, rfl, rfl, hrow, at_of (j := 1) rfl rfl, _, rfl, rfl, _, rfl, if_nd (fun e => ?_) (fun e => ?_)⟩
      · exact nil H (Kept.refl H) rfl
      · (refine ⟨_, rfl, rfl, _, rfl, if_no (by decide +kernel) ?_⟩)
        (refine ⟨_, rfl, rfl, _, rfl, if_no (by decide +kernel) ?_⟩)
        (refine ⟨_, rfl, rfl, _, rfl, if_no (by decide +kernel) ?_⟩)
        (refine ⟨_, rfl, rfl, _, rfl, if_no (by decide +kernel) ?_⟩)
        (refine ⟨_, rfl, rfl, _, rfl, if_no (by decide +kernel) ?_⟩)
        (refine ⟨_, rfl, rfl, _, rfl, if_no (by decide +kernel) ?_⟩)
        exact nil H (Kept.refl H) rfl
    | has a b c =>
      refine ⟨_, rfl, ra, _, 0, _, rfl, rfl, hrow, at_of (j := 0) rfl rfl, ?_⟩
      (refine ⟨_, rfl, rfl, _, rfl, if_no (by decide +kernel) (iteF ?_)⟩)
      refine ⟨_, rfl, ra, _, 1, _, rfl, rfl, hrow, at_of (j := 1) rfl rfl, _, rfl, rfl, _, rfl, if_nd (fun e => ?_) (fun e => ?_)⟩
      · exact nil H (Kept.refl H) rfl
      · (refine ⟨_, rfl, rfl, _, rfl, if_no (by decide +kernel) ?_⟩)
        (refine ⟨_, rfl, rfl, _, rfl, if_no (by decide +kernel) ?_⟩)
        (refine ⟨_, rfl, rfl, _, rfl, if_no (by decide +kernel) ?_⟩)
        (refine ⟨_, rfl, rfl, _, rfl, if_no (by decide +kernel) ?_⟩)
        (refine ⟨_, rfl, rfl, _, rfl, if_no (by decide +kernel) ?_⟩)
        (refine ⟨_, rfl, rfl, _, rfl, if_no (by decide +kernel) ?_⟩)
        exact nil H (Kept.refl H) rfl
    | hasnt a b c =>
      refine ⟨_, rfl, ra, _, 0, _, rfl, rfl, hrow, at_of (j := 0) rfl rfl, ?_⟩
      (refine ⟨_, rfl, rfl, _, rfl, if_yes (by decide +kernel) ?_⟩)
      refine rd_tail rfl hrow fun p np => ?_
      refine ⟨_, rfl, _, rfl, _, rfl, (by show 3 ≤ sizeLine; decide), fun p2 np2 => ?_⟩
      have k2 := ((Kept.refl (M := []) H).upd (o := .tup [V.str a, V.str b, V.str c]) np).upd (o := .tup [V.str n, V.str t, V.str m]) np2
      have hrow2 := sqT_tk (TK.of k2) hrow
      refine rd_eqW (xs := [a, b, c]) (ys := [n, t, m]) (.inl (.of (by rw [upd_ne (ne_of_none upd_same np2)]; exact upd_same))) (.inl (.of upd_same)) (okW_tail okr) (okW_tail oks) ?_
      refine ⟨_, rfl, if_dec (fun e => ?_) (fun e => ?_)⟩
      · have e2 : leadsTie (.hasnt a b c) n t m names = [(.has n t m, none, .clash)] := if_pos e
        rw [e2] at q
        refine mk_one (l := (.has n t m, none, .clash)) (mk_lead (mk_var rfl hsay) mk_non (mk_glob C.val)) k2 fun p H2 k3 n3 l3 => q p H2 (k2.trans k3) (none_of k2 n3) l3
      · refine ⟨_, rfl, ra, _, 1, _, rfl, rfl, hrow2, at_of (j := 1) rfl rfl, _, rfl, rfl, _, rfl, if_nd (fun e1 => ?_) (fun e1 => ?_)⟩
        · exact nil _ k2 (if_neg e)
        · (refine ⟨_, rfl, rfl, _, rfl, if_no (by decide +kernel) ?_⟩)
          (refine ⟨_, rfl, rfl, _, rfl, if_no (by decide +kernel) ?_⟩)
          (refine ⟨_, rfl, rfl, _, rfl, if_no (by decide +kernel) ?_⟩)
          (refine ⟨_, rfl, rfl, _, rfl, if_no (by decide +kernel) ?_⟩)
          (refine ⟨_, rfl, rfl, _, rfl, if_no (by decide +kernel) ?_⟩)
          (refine ⟨_, rfl, rfl, _, rfl, if_no (by decide +kernel) ?_⟩)
          exact nil _ k2 (if_neg e)
    | all a b =>
      refine ⟨_, rfl, ra, _, 0, _, rfl, rfl, hrow, at_of (j := 0) rfl rfl, ?_⟩
      (refine ⟨_, rfl, rfl, _, rfl, if_no (by decide +kernel) (iteF ?_)⟩)
      refine ⟨_, rfl, ra, _, 1, _, rfl, rfl, hrow, at_of (j := 1) rfl rfl, _, rfl, rfl, _, rfl, if_nd (fun e => ?_) (fun e => ?_)⟩
      · exact nil H (Kept.refl H) rfl
      · (refine ⟨_, rfl, rfl, _, rfl, if_no (by decide +kernel) ?_⟩)
        (refine ⟨_, rfl, rfl, _, rfl, if_no (by decide +kernel) ?_⟩)
        (refine ⟨_, rfl, rfl, _, rfl, if_no (by decide +kernel) ?_⟩)
        (refine ⟨_, rfl, rfl, _, rfl, if_no (by decide +kernel) ?_⟩)
        (refine ⟨_, rfl, rfl, _, rfl, if_no (by decide +kernel) ?_⟩)
        (refine ⟨_, rfl, rfl, _, rfl, if_no (by decide +kernel) ?_⟩)
        exact nil H (Kept.refl H) rfl
    | no a b =>
      refine ⟨_, rfl, ra, _, 0, _, rfl, rfl, hrow, at_of (j := 0) rfl rfl, ?_⟩
      (refine ⟨_, rfl, rfl, _, rfl, if_no (by decide +kernel) (iteF ?_)⟩)
      refine ⟨_, rfl, ra, _, 1, _, rfl, rfl, hrow, at_of (j := 1) rfl rfl, _, rfl, rfl, _, rfl, if_nd (fun e => ?_) (fun e => ?_)⟩
      · exact nil H (Kept.refl H) rfl
      · (refine ⟨_, rfl, rfl, _, rfl, if_no (by decide +kernel) ?_⟩)
        (refine ⟨_, rfl, rfl, _, rfl, if_no (by decide +kernel) ?_⟩)
        (refine ⟨_, rfl, rfl, _, rfl, if_no (by decide +kernel) ?_⟩)
        (refine ⟨_, rfl, rfl, _, rfl, if_no (by decide +kernel) ?_⟩)
        (refine ⟨_, rfl, rfl, _, rfl, if_no (by decide +kernel) ?_⟩)
        (refine ⟨_, rfl, rfl, _, rfl, if_no (by decide +kernel) ?_⟩)
        exact nil H (Kept.refl H) rfl
    | each a b c =>
      refine ⟨_, rfl, ra, _, 0, _, rfl, rfl, hrow, at_of (j := 0) rfl rfl, ?_⟩
      (refine ⟨_, rfl, rfl, _, rfl, if_no (by decide +kernel) (iteF ?_)⟩)
      refine ⟨_, rfl, ra, _, 1, _, rfl, rfl, hrow, at_of (j := 1) rfl rfl, _, rfl, rfl, _, rfl, if_nd (fun e => ?_) (fun e => ?_)⟩
      · exact nil H (Kept.refl H) rfl
      · (refine ⟨_, rfl, rfl, _, rfl, if_no (by decide +kernel) ?_⟩)
        (refine ⟨_, rfl, rfl, _, rfl, if_no (by decide +kernel) ?_⟩)
        (refine ⟨_, rfl, rfl, _, rfl, if_no (by decide +kernel) ?_⟩)
        (refine ⟨_, rfl, rfl, _, rfl, if_no (by decide +kernel) ?_⟩)
        (refine ⟨_, rfl, rfl, _, rfl, if_no (by decide +kernel) ?_⟩)
        (refine ⟨_, rfl, rfl, _, rfl, if_no (by decide +kernel) ?_⟩)
        exact nil H (Kept.refl H) rfl
    | who a b c =>
      refine ⟨_, rfl, ra, _, 0, _, rfl, rfl, hrow, at_of (j := 0) rfl rfl, ?_⟩
      (refine ⟨_, rfl, rfl, _, rfl, if_no (by decide +kernel) (iteF ?_)⟩)
      refine ⟨_, rfl, ra, _, 1, _, rfl, rfl, hrow, at_of (j := 1) rfl rfl, _, rfl, rfl, _, rfl, if_nd (fun e => ?_) (fun e => ?_)⟩
      · exact nil H (Kept.refl H) (if_neg fun z => e (by rw [z]))
      · have e2 : leadsTie (.who a b c) n t m names = [(.has n t m, some (.is m b), .is n c)] := if_pos (V.str.inj e)
        (refine ⟨_, rfl, rfl, _, rfl, if_no (by decide +kernel) ?_⟩)
        (refine ⟨_, rfl, rfl, _, rfl, if_yes (by decide +kernel) ?_⟩)
        rw [e2] at q
        refine mk_one (l := (.has n t m, some (.is m b), .is n c)) (mk_lead (mk_var rfl hsay) (mk_new (s := .is m b) (valB_str (valB_var rfl (valB_ix rfl hrow (j := 2) rfl rfl valB_nil)))) (mk_new (s := .is n c) (valB_str (valB_var rfl (valB_ix rfl hrow (j := 3) rfl rfl valB_nil))))) (Kept.refl H) fun p H2 k3 n3 l3 => q p H2 k3 n3 l3
    | turned a b =>
      refine ⟨_, rfl, ra, _, 0, _, rfl, rfl, hrow, at_of (j := 0) rfl rfl, ?_⟩
      (refine ⟨_, rfl, rfl, _, rfl, if_no (by decide +kernel) (iteF ?_)⟩)
      refine ⟨_, rfl, ra, _, 1, _, rfl, rfl, hrow, at_of (j := 1) rfl rfl, _, rfl, rfl, _, rfl, if_nd (fun e => ?_) (fun e => ?_)⟩
      · exact nil H (Kept.refl H) (if_neg fun z => e (by rw [z]))
      · have e2 : leadsTie (.turned a b) n t m names = [(.has n t m, none, .has m b n)] := if_pos (V.str.inj e)
        (refine ⟨_, rfl, rfl, _, rfl, if_no (by decide +kernel) ?_⟩)
        (refine ⟨_, rfl, rfl, _, rfl, if_no (by decide +kernel) ?_⟩)
        (refine ⟨_, rfl, rfl, _, rfl, if_yes (by decide +kernel) ?_⟩)
        rw [e2] at q
        refine mk_one (l := (.has n t m, none, .has m b n)) (mk_lead (mk_var rfl hsay) mk_non (mk_new (s := .has m b n) (valB_str (valB_var rfl (valB_ix rfl hrow (j := 2) rfl rfl (valB_var rfl valB_nil)))))) (Kept.refl H) fun p H2 k3 n3 l3 => q p H2 k3 n3 l3
    | on a =>
      refine ⟨_, rfl, ra, _, 0, _, rfl, rfl, hrow, at_of (j := 0) rfl rfl, ?_⟩
      (refine ⟨_, rfl, rfl, _, rfl, if_no (by decide +kernel) (iteF ?_)⟩)
      refine ⟨_, rfl, ra, _, 1, _, rfl, rfl, hrow, at_of (j := 1) rfl rfl, _, rfl, rfl, _, rfl, if_nd (fun e => ?_) (fun e => ?_)⟩
      · exact nil H (Kept.refl H) (if_neg fun z => e (by rw [z]))
      · have e2 : leadsTie (.on a) n t m names = leadsOn n t m names := if_pos (V.str.inj e)
        (refine ⟨_, rfl, rfl, _, rfl, if_yes (by decide +kernel) ?_⟩)
        rw [e2] at q
        refine ⟨_, rfl, _, rfl, _, na, n, t, m, names, rfl, ⟨hsay, hns, hfew⟩, fun p H' kk nn l => q p H' kk nn l⟩
    | fr a b =>
      refine ⟨_, rfl, ra, _, 0, _, rfl, rfl, hrow, at_of (j := 0) rfl rfl, ?_⟩
      (refine ⟨_, rfl, rfl, _, rfl, if_no (by decide +kernel) (iteF ?_)⟩)
      refine ⟨_, rfl, ra, _, 1, _, rfl, rfl, hrow, at_of (j := 1) rfl rfl, _, rfl, rfl, _, rfl, if_nd (fun e => ?_) (fun e => ?_)⟩
      · exact nil H (Kept.refl H) (if_neg fun z => e (by rw [z]))
      · have e2 : leadsTie (.fr a b) n t m names = [(.has n t m, none, .is n b)] := if_pos (V.str.inj e)
        (refine ⟨_, rfl, rfl, _, rfl, if_no (by decide +kernel) ?_⟩)
        (refine ⟨_, rfl, rfl, _, rfl, if_no (by decide +kernel) ?_⟩)
        (refine ⟨_, rfl, rfl, _, rfl, if_no (by decide +kernel) ?_⟩)
        (refine ⟨_, rfl, rfl, _, rfl, if_no (by decide +kernel) ?_⟩)
        (refine ⟨_, rfl, rfl, _, rfl, if_yes (by decide +kernel) ?_⟩)
        rw [e2] at q
        refine mk_one (l := (.has n t m, none, .is n b)) (mk_lead (mk_var rfl hsay) mk_non (mk_new (s := .is n b) (valB_str (valB_var rfl (valB_ix rfl hrow (j := 2) rfl rfl valB_nil))))) (Kept.refl H) fun p H2 k3 n3 l3 => q p H2 k3 n3 l3
    | to a b =>
      refine ⟨_, rfl, ra, _, 0, _, rfl, rfl, hrow, at_of (j := 0) rfl rfl, ?_⟩
      (refine ⟨_, rfl, rfl, _, rfl, if_no (by decide +kernel) (iteF ?_)⟩)
      refine ⟨_, rfl, ra, _, 1, _, rfl, rfl, hrow, at_of (j := 1) rfl rfl, _, rfl, rfl, _, rfl, if_nd (fun e => ?_) (fun e => ?_)⟩
      · exact nil H (Kept.refl H) (if_neg fun z => e (by rw [z]))
      · have e2 : leadsTie (.to a b) n t m names = [(.has n t m, none, .is m b)] := if_pos (V.str.inj e)
        (refine ⟨_, rfl, rfl, _, rfl, if_no (by decide +kernel) ?_⟩)
        (refine ⟨_, rfl, rfl, _, rfl, if_no (by decide +kernel) ?_⟩)
        (refine ⟨_, rfl, rfl, _, rfl, if_no (by decide +kernel) ?_⟩)
        (refine ⟨_, rfl, rfl, _, rfl, if_no (by decide +kernel) ?_⟩)
        (refine ⟨_, rfl, rfl, _, rfl, if_no (by decide +kernel) ?_⟩)
        (refine ⟨_, rfl, rfl, _, rfl, if_yes (by decide +kernel) ?_⟩)
        rw [e2] at q
        refine mk_one (l := (.has n t m, none, .is m b)) (mk_lead (mk_var rfl hsay) mk_non (mk_new (s := .is m b) (valB_str (valB_var rfl (valB_ix rfl hrow (j := 2) rfl rfl valB_nil))))) (Kept.refl H) fun p H2 k3 n3 l3 => q p H2 k3 n3 l3
    | under a b =>
      refine ⟨_, rfl, ra, _, 0, _, rfl, rfl, hrow, at_of (j := 0) rfl rfl, ?_⟩
      (refine ⟨_, rfl, rfl, _, rfl, if_no (by decide +kernel) (iteF ?_)⟩)
      refine ⟨_, rfl, ra, _, 1, _, rfl, rfl, hrow, at_of (j := 1) rfl rfl, _, rfl, rfl, _, rfl, if_nd (fun e => ?_) (fun e => ?_)⟩
      · exact nil H (Kept.refl H) (if_neg fun z => e (by rw [z]))
      · have e2 : leadsTie (.under a b) n t m names = [(.has n t m, none, .has n b m)] := if_pos (V.str.inj e)
        (refine ⟨_, rfl, rfl, _, rfl, if_no (by decide +kernel) ?_⟩)
        (refine ⟨_, rfl, rfl, _, rfl, if_no (by decide +kernel) ?_⟩)
        (refine ⟨_, rfl, rfl, _, rfl, if_no (by decide +kernel) ?_⟩)
        (refine ⟨_, rfl, rfl, _, rfl, if_yes (by decide +kernel) ?_⟩)
        rw [e2] at q
        refine mk_one (l := (.has n t m, none, .has n b m)) (mk_lead (mk_var rfl hsay) mk_non (mk_new (s := .has n b m) (valB_str (valB_var rfl (valB_ix rfl hrow (j := 2) rfl rfl (valB_var rfl valB_nil)))))) (Kept.refl H) fun p H2 k3 n3 l3 => q p H2 k3 n3 l3
theorem ok_lby (F : FnP K "leads_by" sLBy f fd) (c_leads_from_kind : Own P w K mg base "leads_from_kind" 1 fK fdK ["row", "saying", "names"] (spLK K)) (c_leads_from_tie : Own P w K mg base "leads_from_tie" 2 fT fdT ["row", "saying", "names"] (spLT K)) :
    FnOk P w K mg base CX0 3 f fd ["row", "saying", "names"] (spBy K) := by
  refine F.ok scBy (fun vs H Q E h => ?_) (fun cdv A outer s H vs Q E hr h => ?_)
  · obtain ⟨ra, sv, na, r, sy, names, rfl, _⟩ := h
    rfl
  · obtain ⟨ra, sv, na, r, sy, names, rfl, hrow, okr, oks, ⟨hsay, hns, hfew⟩, q⟩ := h
    refine ⟨_, PSs.nox (pss_cons (ps_if (pt_cmpR op_eq (pe_ix ix_tup (pv 1) pe_int (fun _ _ => rfl)) pe_str (nomark _)) (pss_one (ps_ret (pe_call c_leads_from_kind.ok (hr.mono (by decide)) (by rfl) c_leads_from_kind.g c_leads_from_kind.kp c_leads_from_kind.b .nil pass0 (pa_cons (pv 0) (pa_cons (pv 1) (pa_cons (pv 2) pa_nil)))))) pss_nil)
      (pss_cons (ps_if (pt_cmpR op_eq (pe_ix ix_tup (pv 1) pe_int (fun _ _ => rfl)) pe_str (nomark _)) (pss_one (ps_ret (pe_call c_leads_from_tie.ok hr (by rfl) c_leads_from_tie.g c_leads_from_tie.kp c_leads_from_tie.b .nil pass0 (pa_cons (pv 0) (pa_cons (pv 1) (pa_cons (pv 2) pa_nil)))))) pss_nil)
      (pss_one (ps_ret (pe_lst pa_nil))))), ?_⟩
    obtain ⟨sa, rfl, hsa⟩ := id hsay
    cases sy with
    | is n k =>
      refine ⟨_, rfl, sa, _, 0, _, rfl, rfl, hsa, at_of (j := 0) rfl rfl, rfl, _, rfl, if_yes (by decide +kernel) ?_⟩
      exact ⟨_, rfl, _, rfl, _, rfl, ra, _, na, r, n, k, names, rfl, hrow, okr, oks, ⟨hsay, hns, hfew⟩, q⟩
    | has n t m =>
      refine ⟨_, rfl, sa, _, 0, _, rfl, rfl, hsa, at_of (j := 0) rfl rfl, rfl, _, rfl, if_no (by decide +kernel) ?_⟩
      refine ⟨_, rfl, sa, _, 0, _, rfl, rfl, hsa, at_of (j := 0) rfl rfl, rfl, _, rfl, if_yes (by decide +kernel) ?_⟩
      exact ⟨_, rfl, _, rfl, _, rfl, ra, _, na, r, n, t, m, names, rfl, hrow, okr, oks, ⟨hsay, hns, hfew⟩, q⟩
    | clash =>
      refine ⟨_, rfl, sa, _, 0, _, rfl, rfl, hsa, at_of (j := 0) rfl rfl, rfl, _, rfl, if_no (by decide +kernel) ?_⟩
      refine ⟨_, rfl, sa, _, 0, _, rfl, rfl, hsa, at_of (j := 0) rfl rfl, rfl, _, rfl, if_no (by decide +kernel) ?_⟩
      exact mk_none (K := K) (σ := []) q
end
end Ah
end
section
set_option Elab.async false
set_option linter.all false
set_option maxRecDepth 100000
set_option maxHeartbeats 4000000
namespace Ah
open PySem PySem.Spec PyProof.Rows L2
/-! ### words of leads -/
def okL (l : Lead) : Prop := okW l.1.ws ∧ (∀ x, l.2.1 = some x → okW x.ws) ∧ okW l.2.2.ws
theorem okW_cons {w : Str} {ws : List Str} : okW (w :: ws) ↔ PyData.strOk w = true ∧ okW ws := by
  unfold okW
  rw [List.all_cons, Bool.and_eq_true]
theorem okW_nil : okW [] := rfl
theorem okW_clash : okW (Say.clash).ws := by unfold okW; decide +kernel
theorem okL_by {r : Rw} {s : Say} {names : List Str} (hr : okW r.ws) (hs : okW s.ws) (hn : ∀ x ∈ names, PyData.strOk x = true) : ∀ l ∈ leadsBy r s names, okL l := by
  have c := okW_clash
  intro l hl
  unfold okL
  cases s with
  | clash => exact absurd hl (by simp [leadsBy])
  | is n k =>
    obtain ⟨hi, hs1⟩ := okW_cons.mp hs
    obtain ⟨h1, hs2⟩ := okW_cons.mp hs1
    obtain ⟨h2, _⟩ := okW_cons.mp hs2
    have h3 : PyData.strOk "has" = true := by decide +kernel
    have h4 : PyData.strOk "is" = true := by decide +kernel
    cases r <;> simp only [leadsBy, leadsKind] at hl <;> (try split at hl) <;> (try simp only [List.mem_cons, List.mem_map, List.not_mem_nil, or_false] at hl) <;> (try exact hl.elim)
    all_goals simp only [Rw.ws, okW_cons] at hr
    all_goals first
      | (subst hl; simp [okL, okW_cons, okW_nil, Say.ws, *] <;> done)
      | (obtain ⟨x, hx, rfl⟩ := hl; have hx2 := hn x hx; simp [okW_cons, okW_nil, Say.ws, *] <;> done)
      | skip
    · subst hl
      exact ⟨hs, (fun x hx => nomatch hx), c⟩
    · subst hl
      refine ⟨hs, fun x hx => ?_, c⟩
      dsimp only at hx
      (repeat' split at hx) <;> first
        | (simp at hx; done)
        | (rw [← Option.some.inj hx]; exact okW_cons.mpr ⟨h4, okW_cons.mpr ⟨h1, okW_cons.mpr ⟨by first | exact hr.2.2.1 | exact hr.2.1, okW_nil⟩⟩⟩)
  | has n t m =>
    obtain ⟨hi, hs1⟩ := okW_cons.mp hs
    obtain ⟨h1, hs2⟩ := okW_cons.mp hs1
    obtain ⟨h2, hs3⟩ := okW_cons.mp hs2
    obtain ⟨h5, _⟩ := okW_cons.mp hs3
    have h3 : PyData.strOk "has" = true := by decide +kernel
    have h4 : PyData.strOk "is" = true := by decide +kernel
    cases r <;> simp only [leadsBy, leadsTie, leadsOn] at hl <;> (try split at hl) <;> (try simp only [List.mem_cons, List.mem_map, List.not_mem_nil, or_false, List.mem_append] at hl) <;> (try exact hl.elim)
    all_goals simp only [Rw.ws, okW_cons] at hr
    all_goals first
      | (subst hl; simp [okL, okW_cons, okW_nil, Say.ws, *] <;> done)
      | (obtain (⟨x, hx, rfl⟩ | ⟨x, hx, rfl⟩) := hl <;> have hx2 := hn x hx <;> simp [okW_cons, okW_nil, Say.ws, *] <;> done)
      | skip
    · subst hl
      exact ⟨hs, (fun x hx => nomatch hx), c⟩
/-! ### the law's few words -/
def rowNames : Rw → List Str
  | .is n _ => [n] | .isnt n _ => [n] | .has n _ m => [n, m] | .hasnt n _ m => [n, m] | .each _ _ m => [m] | _ => []
theorem told_name (r : Rw) : toldW "name" r.ws = rowNames r := by
  cases r <;> rfl
def Say.few : Say → Prop
  | .is n k => n ∈ namesL ∧ k ∈ kindsL | .has n t m => n ∈ namesL ∧ t ∈ tiesL ∧ m ∈ namesL | .clash => True
theorem few_word : ∀ w ∈ namesL ++ kindsL ++ tiesL, PyData.strOk w = true ∧ isWord w = true := by decide +kernel
theorem w_name {w : Str} (h : w ∈ namesL) : PyData.strOk w = true ∧ isWord w = true := few_word w (List.mem_append_left _ (List.mem_append_left _ h))
theorem w_kind {w : Str} (h : w ∈ kindsL) : PyData.strOk w = true ∧ isWord w = true := few_word w (List.mem_append_left _ (List.mem_append_right _ h))
theorem w_tie {w : Str} (h : w ∈ tiesL) : PyData.strOk w = true ∧ isWord w = true := few_word w (List.mem_append_right _ h)
theorem few_ok {r : Rw} (h : r.few) : okW r.ws := by
  unfold okW
  cases r <;> simp only [Rw.few] at h <;> simp only [Rw.ws, List.all_cons, List.all_nil, Bool.and_true, Bool.and_eq_true]
  case is n k => exact ⟨by decide +kernel, (w_name h.1).1, (w_kind h.2).1⟩
  case isnt n k => exact ⟨by decide +kernel, (w_name h.1).1, (w_kind h.2).1⟩
  case has n t m => exact ⟨by decide +kernel, (w_name h.1).1, (w_tie h.2.1).1, (w_name h.2.2).1⟩
  case hasnt n t m => exact ⟨by decide +kernel, (w_name h.1).1, (w_tie h.2.1).1, (w_name h.2.2).1⟩
  case all k l => exact ⟨by decide +kernel, (w_kind h.1).1, (w_kind h.2).1⟩
  case no k l => exact ⟨by decide +kernel, (w_kind h.1).1, (w_kind h.2).1⟩
  case each k t m => exact ⟨by decide +kernel, (w_kind h.1).1, (w_tie h.2.1).1, (w_name h.2.2).1⟩
  case who t k l => exact ⟨by decide +kernel, (w_tie h.1).1, (w_kind h.2.1).1, (w_kind h.2.2).1⟩
  case turned t s => exact ⟨by decide +kernel, (w_tie h.1).1, (w_tie h.2).1⟩
  case on t => exact ⟨by decide +kernel, (w_tie h).1⟩
  case fr t k => exact ⟨by decide +kernel, (w_tie h.1).1, (w_kind h.2).1⟩
  case to t k => exact ⟨by decide +kernel, (w_tie h.1).1, (w_kind h.2).1⟩
  case under t s => exact ⟨by decide +kernel, (w_tie h.1).1, (w_tie h.2).1⟩
theorem rowL_of {h : Str} {rest ps : List Str} (e : formsL.lookup h = some ps) (hl : rest.length = ps.length) (hw : ∀ w ∈ rest, isWord w = true) : isRowL ((h :: rest).map V.str) = true := by
  show (match formsL.lookup h with
    | some ps => decide ((rest.map V.str).length = ps.length) && (rest.map V.str).all isWordV
    | none => false) = true
  rw [e]
  dsimp only
  rw [List.length_map, decide_eq_true hl, Bool.true_and, List.all_eq_true]
  intro v hv
  obtain ⟨w, h1, rfl⟩ := List.mem_map.mp hv
  exact hw w h1
theorem few_words {r : Rw} (h : r.few) : ∀ w ∈ r.ws.tail, isWord w = true := by
  intro w hw
  cases r <;> simp only [Rw.few] at h <;> simp only [Rw.ws, List.tail_cons, List.mem_cons, List.not_mem_nil, or_false] at hw
  case is n k => rcases hw with rfl | rfl; exact (w_name h.1).2; exact (w_kind h.2).2
  case isnt n k => rcases hw with rfl | rfl; exact (w_name h.1).2; exact (w_kind h.2).2
  case has n t m => rcases hw with rfl | rfl | rfl; exact (w_name h.1).2; exact (w_tie h.2.1).2; exact (w_name h.2.2).2
  case hasnt n t m => rcases hw with rfl | rfl | rfl; exact (w_name h.1).2; exact (w_tie h.2.1).2; exact (w_name h.2.2).2
  case all k l => rcases hw with rfl | rfl; exact (w_kind h.1).2; exact (w_kind h.2).2
  case no k l => rcases hw with rfl | rfl; exact (w_kind h.1).2; exact (w_kind h.2).2
  case each k t m => rcases hw with rfl | rfl | rfl; exact (w_kind h.1).2; exact (w_tie h.2.1).2; exact (w_name h.2.2).2
  case who t k l => rcases hw with rfl | rfl | rfl; exact (w_tie h.1).2; exact (w_kind h.2.1).2; exact (w_kind h.2.2).2
  case turned t s => rcases hw with rfl | rfl; exact (w_tie h.1).2; exact (w_tie h.2).2
  case on t => subst hw; exact (w_tie h).2
  case fr t k => rcases hw with rfl | rfl; exact (w_tie h.1).2; exact (w_kind h.2).2
  case to t k => rcases hw with rfl | rfl; exact (w_tie h.1).2; exact (w_kind h.2).2
  case under t s => rcases hw with rfl | rfl; exact (w_tie h.1).2; exact (w_tie h.2).2
theorem few_row {r : Rw} (h : r.few) : isRowL (r.ws.map V.str) = true := by
  obtain ⟨hd, rest, ps, e1, e2, e3, _⟩ := Rw.form r
  have h2 := few_words h
  rw [e1] at h2 ⊢
  exact rowL_of e2 e3 h2
theorem few_names {r : Rw} (h : r.few) : ∀ x ∈ rowNames r, x ∈ namesL := by
  intro x hx
  cases r <;> simp only [Rw.few] at h <;> simp only [rowNames, List.mem_cons, List.not_mem_nil, or_false] at hx
  case is n k => subst hx; exact h.1
  case isnt n k => subst hx; exact h.1
  case has n t m => rcases hx with rfl | rfl; exact h.1; exact h.2.2
  case hasnt n t m => rcases hx with rfl | rfl; exact h.1; exact h.2.2
  case each k t m => subst hx; exact h.2.2

/-- the saying as a row -/
def Say.rw : Say → Option Rw
  | .is n k => some (.is n k) | .has n t m => some (.has n t m) | .clash => none
theorem mem_names {r : Rw} {s : Say} {l : Lead} {ns ns' : List Str} (h : ∀ z, z ∈ ns ↔ z ∈ ns') : l ∈ leadsBy r s ns ↔ l ∈ leadsBy r s ns' := by
  have hm : ∀ {f : Str → Lead}, l ∈ ns.map f ↔ l ∈ ns'.map f := fun {f} => by
    rw [List.mem_map, List.mem_map]
    exact ⟨fun ⟨x, hx, e⟩ => ⟨x, (h x).mp hx, e⟩, fun ⟨x, hx, e⟩ => ⟨x, (h x).mpr hx, e⟩⟩
  cases s with
  | clash => exact Iff.rfl
  | is n k =>
    cases r <;> simp only [leadsBy, leadsKind]
    split
    · exact hm
    · exact Iff.rfl
  | has n t m =>
    cases r <;> simp only [leadsBy, leadsTie, leadsOn]
    split
    · rw [List.mem_append, List.mem_append, hm, hm]
    · exact Iff.rfl
/-! ### data of leads -/
def sayD (s : Say) : PyData := .tuple (s.ws.map PyData.str)
def osayD : Option Say → PyData
  | none => .none
  | some s => sayD s
def leadD (l : Lead) : PyData := .tuple [sayD l.1, osayD l.2.1, sayD l.2.2]
theorem eqv_say (s t : Say) : PyData.eqv (sayD s) (sayD t) = decide (s = t) := by
  unfold sayD
  rw [PyData.eqv, eqvStrs, say_dec]
theorem eqv_osay (s t : Option Say) : PyData.eqv (osayD s) (osayD t) = decide (s = t) := by
  cases s with
  | none =>
    cases t with
    | none => simp [osayD, PyData.eqv]
    | some t => simp [osayD, sayD, PyData.eqv]
  | some s =>
    cases t with
    | none => simp [osayD, sayD, PyData.eqv]
    | some t =>
      show PyData.eqv (sayD s) (sayD t) = _
      rw [eqv_say]
      simp
theorem eqv_lead (l m : Lead) : PyData.eqv (leadD l) (leadD m) = decide (l = m) := by
  obtain ⟨l1, l2, l3⟩ := l
  obtain ⟨m1, m2, m3⟩ := m
  unfold leadD
  rw [PyData.eqv, PyData.eqvAll, PyData.eqvAll, PyData.eqvAll, PyData.eqvAll, eqv_say, eqv_osay, eqv_say]
  by_cases h1 : l1 = m1 <;> by_cases h2 : l2 = m2 <;> by_cases h3 : l3 = m3 <;> simp [h1, h2, h3]
theorem any_lead (ls : List Lead) (l : Lead) : ((ls.map leadD).any fun z => PyData.eqv z (leadD l)) = decide (l ∈ ls) := by
  induction ls with
  | nil => simp
  | cons m ls ih =>
    rw [List.map_cons, List.any_cons, ih, eqv_lead]
    by_cases h : m = l
    · simp [h]
    · by_cases h2 : l ∈ ls <;> simp [h, h2, Ne.symm h]
theorem can_say {s : Say} (h : okW s.ws) : PyData.canLay0 (sayD s) = true ∧ PyData.depth (sayD s) ≤ 1 := by
  have q := shapedStrs h
  have h2 : ∀ l : List Str, PyData.depthAll (l.map PyData.str) = 0 := by
    intro l
    induction l with
    | nil => simp [PyData.depthAll]
    | cons w l ih => simp [PyData.depthAll, PyData.depth, ih]
  unfold SeqAt.shaped at q
  refine ⟨(Bool.and_eq_true_iff.mp q).1, ?_⟩
  unfold sayD
  rw [PyData.depth, h2]
  exact Nat.le_refl _
theorem can_lead {l : Lead} (h : okL l) : PyData.canLay0 (leadD l) = true ∧ PyData.depth (leadD l) ≤ 2 := by
  obtain ⟨l1, l2, l3⟩ := l
  obtain ⟨h1, h2, h3⟩ := h
  obtain ⟨a1, b1⟩ := can_say h1
  obtain ⟨a3, b3⟩ := can_say h3
  have h4 : PyData.canLay0 (osayD l2) = true ∧ PyData.depth (osayD l2) ≤ 1 := by
    cases l2 with
    | none => exact ⟨by simp [osayD, PyData.canLay0], by simp [osayD, PyData.depth]⟩
    | some s => exact can_say (h2 s rfl)
  unfold leadD
  dsimp only
  rw [PyData.canLay0, PyData.canLayAll0, PyData.canLayAll0, PyData.canLayAll0, PyData.canLayAll0, a1, a3, h4.1, PyData.depth, PyData.depthAll, PyData.depthAll, PyData.depthAll, PyData.depthAll]
  have q1 : (sayD l1).depth ≤ 1 := b1
  have q2 : (osayD l2).depth ≤ 1 := h4.2
  have q3 : (sayD l3).depth ≤ 1 := b3
  refine ⟨rfl, ?_⟩
  omega
theorem shaped_lead {l : Lead} (h : okL l) : SeqAt.shaped (leadD l) = true := by
  obtain ⟨a, b⟩ := can_lead h
  unfold SeqAt.shaped
  rw [a, Bool.true_and]
  exact decide_eq_true (by omega)
theorem shaped_leads {ls : List Lead} (h : ∀ l ∈ ls, okL l) : SeqAt.shaped (.list (ls.map leadD)) = true := by
  have q : PyData.canLayAll0 (ls.map leadD) = true ∧ PyData.depthAll (ls.map leadD) ≤ 2 := by
    induction ls with
    | nil => exact ⟨by simp [PyData.canLayAll0], by simp [PyData.depthAll]⟩
    | cons l ls ih =>
      obtain ⟨a, b⟩ := can_lead (h l List.mem_cons_self)
      obtain ⟨c, d⟩ := ih fun m hm => h m (List.mem_cons_of_mem _ hm)
      rw [List.map_cons, PyData.canLayAll0, PyData.depthAll, a, c]
      exact ⟨rfl, by omega⟩
  unfold SeqAt.shaped
  rw [PyData.canLay0, q.1, PyData.depth, Bool.true_and]
  exact decide_eq_true (by have := q.2; omega)
section
variable {K : PySem.W.Frag} {H : Hp}
theorem dp_say {v : V} {s : Say} (h : SayAt K H v s) : Dp K H v (sayD s) := by
  obtain ⟨a, rfl, h⟩ := h
  exact .tup h (dpStrs s.ws)
theorem dp_osay {v : V} {s : Option Say} (h : OSayAt K H v s) : Dp K H v (osayD s) := by
  cases s with
  | none =>
    obtain rfl : v = .non := h
    exact .non
  | some s => exact dp_say h
theorem dp_lead {v : V} {l : Lead} (h : LeadAt K H v l) : Dp K H v (leadD l) := by
  obtain ⟨q, v1, v2, v3, rfl, h1, h2, h3, h4⟩ := h
  exact .tup (.inl (.of h1)) (.cons (dp_say h2) (.cons (dp_osay h3) (.cons (dp_say h4) .nil)))
theorem dp_leads : ∀ {vs : List V} {ls : List Lead}, Paired (LeadAt K H) vs ls → DpAll K H vs (ls.map leadD)
  | _, _, .nil => .nil
  | _, _, .cons h t => .cons (dp_lead h) (dp_leads t)
/-- a lead in the list of leads -/
theorem rd_inL {v : V} {p : Addr} {l : Lead} {ls : List Lead} {Q : VK} (hv : LeadAt K H v l) (hp : LeadsAt K H p ls) (ol : okL l) (os : ∀ m ∈ ls, okL m) (q : Q (.bl (decide (l ∈ ls))) H) : rInD K v (.ref p) H Q := by
  obtain ⟨vs, h1, h2⟩ := hp
  refine ⟨leadD l, ls.map leadD, dp_lead hv, .lst (.inl (.of h1)) (dp_leads h2), shaped_lead ol, shaped_leads os, ?_⟩
  rw [any_lead]
  exact q
end
end Ah
end
section
set_option Elab.async false
set_option linter.all false
set_option maxRecDepth 100000
set_option maxHeartbeats 4000000
namespace Ah
open PySem PySem.Spec PyProof.Rows L2
open GxR (TabB TabG Tabbed)
/-! ### told_of, of a list of rows -/
def TextLs (H : Hp) (q : Addr) (rs : List Rw) : Prop := ∃ ps : List Addr, H q = some (.lst (ps.map V.ref)) ∧ Paired (fun a r => H a = some (.tup ((Rw.ws r).map V.str))) ps rs
theorem scTdL : FnScope ["rows", "place", "row", "word", "at"] ["rows", "place"] (defScope sToldOf) := ⟨rfl, rfl, rfl, by decide +kernel, rfl, by decide +kernel, by decide +kernel⟩
def spToldL : Sp := fun vs H Q _ => ∃ (q : Addr) (rs : List Rw) (place : Str), vs = [.ref q, .str place] ∧ TextLs H q rs ∧ rs.length ≤ 1000 ∧
  ∀ (p : Addr) (bs : List Str) (H' : Hp), Kept [] H H' → H p = none → H' p = some (.lst ((bs.mergeSort leS).map V.str)) → (∀ z, z ∈ bs ↔ ∃ r ∈ rs, z ∈ toldW place (Rw.ws r)) → bs.length ≤ 3 * rs.length → Q (.ref p) H'
section
variable {P : Program} {w : World} {K : PySem.W.Frag} {mg : Str → Option Value} {base : Heap} {f d : Addr} {fd : FuncData}
theorem ok_toldL (F : FnP K "told_of" sToldOf f fd) (D : TF K w mg d) (B : Bl mg) : FnOk P w K mg base CX0 1 f fd ["rows", "place"] spToldL := by
  refine F.ok scTdL (fun vs H Q E h => ?_) (fun cdv A outer s H vs Q E hr h => ?_)
  · obtain ⟨q, rs, place, rfl, _⟩ := h
    rfl
  · obtain ⟨q, rs, place, rfl, tx, hl, k⟩ := h
    obtain ⟨es, nn, kd⟩ := D.kd
    refine ⟨_, PSs.nox (pss_one (ps_ret (pe_callB (cr_sortSetS rfl hr.units) (by rfl) B.sorted_ (by decide +kernel) (pa_cons
      (pe_sc2 (own := [("row", 2), ("word", 3), ("at", 4)]) (vs1 := [3, 4]) (tt := tYes) rfl scTdL.nd (pi_list (pv 0)) (blkOk_by (N := ["rows", "place", "row", "word", "at"]) (sc := defScope sToldOf) (by decide +kernel)) (by decide)
        (fun _ _ _ _ _ => pg_name (i := 2) scTdL.nd rfl (Or.inl rfl)) (fun _ _ _ _ _ => pts_nil)
        (fun _ _ _ _ _ => show PI _ _ _ (RZ.iZipA K _) from RZ.pi_zipA (by rfl) B.zip_ (pa_cons (pe_slice (show SlR _ (rSlT K) from sl_tup) (pv 2) (po_some pe_int) po_none) (pa_cons (pe_ix (show IxR _ (rIxD K w) from ix_kdict) (pe_glob (v := .ref d) (by rfl) D.at_ rfl) (pe_ix (show IxR _ (rIxT K) from ix_tup) (pv 2) pe_int (fun _ _ => rfl)) (fun _ _ => rfl)) pa_nil)))
        (fun _ _ _ _ _ => show PG _ _ (gTup K 2 _) from pg_tup rfl (pgs_cons (pg_name (i := 3) scTdL.nd rfl (Or.inl rfl)) (pgs_cons (pg_name (i := 4) scTdL.nd rfl (Or.inl rfl)) pgs_nil)))
        (fun _ _ _ _ _ => pts_one (pt_cmpR op_eq (pv 4) (pv 1) (nomark _)))
        (fun _ _ _ _ _ => pv 3)) pa_nil)))), ?_⟩
    obtain ⟨ps, hq, hps⟩ := tx
    refine ⟨_, rfl, q, rfl, ⟨_, .inl (.of hq)⟩, fun Dz nD => ?_⟩
    have kD : Kept [] H (upd H Dz (SetSO P w Dz [])) := (Kept.refl H).upd nD
    have fin : ∀ {Ha : Hp} {l : List Str}, Kept [] H Ha → Ha Dz = some (SetSO P w Dz l) → (∀ z, z ∈ l ↔ ∃ r ∈ rs, z ∈ toldW place (Rw.ws r)) → l.length ≤ 3 * rs.length →
        ∀ (p : Addr) (bs : List Str), Ha p = none → (∀ z, z ∈ bs ↔ z ∈ l) → bs.length = l.length → Q (.ref p) (upd Ha p (.lst ((bs.mergeSort leS).map V.str))) := fun kk _ hm hz p bs np hb hbl => by
      refine k p bs _ (kk.upd np) ?_ upd_same (fun z => (hb z).trans (hm z)) (by omega)
      cases e : H p with
      | none => rfl
      | some o =>
        rw [kk p o e (by simp)] at np
        cases np
    have tq : ∀ {Ha : Hp}, Kept [] H Ha → SqL K Ha q (ps.map V.ref) := fun kk => .inl (.of (kk _ _ hq (by simp)))
    refine walk_W (walk_list (K := K) (a := q) (xs := ps.map V.ref)) (fun i Ha => ∃ l, Ha Dz = some (SetSO P w Dz l) ∧ (∀ z, z ∈ l ↔ ∃ r ∈ rs.take i, z ∈ toldW place (Rw.ws r)) ∧ l.length ≤ 3 * i ∧ Kept [] H Ha)
      ⟨[], upd_same, (fun z => by simp), by simp, kD⟩ (fun i Ha _ pv => tq pv.choose_spec.2.2.2) ?_ ?_
    · rintro i x Ha0 Ha hi ⟨l, e1, hm, hz, kk⟩ ⟨rfl, ey⟩
      refine ⟨rfl, yes_if ?_⟩
      rw [List.getElem?_map] at ey
      obtain ⟨pr, epr, rfl⟩ := Option.map_eq_some_iff.mp ey
      obtain ⟨r, er, hr1⟩ := paired_at hps epr
      obtain ⟨hd, rest, fs, ew, ef, el1, el2⟩ := Rw.form r
      obtain ⟨ap, ea1, ea2⟩ := D.val hd fs ef
      have hpr : Ha pr = some (.tup (.str hd :: rest.map V.str)) := by
        have q := kk _ _ hr1 (by simp)
        rw [ew] at q
        exact q
      have sx : SqT K Ha pr (.str hd :: rest.map V.str) := .inl (.of hpr)
      refine ⟨_, rfl, 1, rfl, pr, _, rfl, sx, fun q => ?_, fun p np => ?_⟩
      · have h1 : HT.sIx (V.str hd :: rest.map V.str).length 0 (some 1) = 1 := by
          rw [show (1 : Int) = ((1 : Nat) : Int) from rfl, HT.sIx_nat, List.length_cons]
          omega
        have h2 := q.1
        rw [h1] at h2
        cases h2
      · rw [cut_tail]
        have k1 : Kept [] H (upd Ha p (.tup (rest.map V.str))) := kk.upd np
        have ndp : Dz ≠ p := ne_of_none e1 np
        refine ⟨_, rfl, pr, _, 0, .str hd, rfl, rfl, .inl (.of (by rw [upd_ne (ne_of_none hpr np)]; exact hpr)), at_of (j := 0) rfl rfl, d, hd, .ref ap, rfl, rfl, ⟨es, nn, _, kd.at_, kd.lit, ea1, rfl⟩, ?_⟩
        refine ⟨p, ap, rest.map V.str, fs.map V.str, rfl, .inr ⟨.inl (.of upd_same), ea2 _, ?_⟩⟩
        have lens : (rest.map V.str).length = rest.length ∧ (fs.map V.str).length = rest.length := ⟨List.length_map .., by rw [List.length_map, el1]⟩
        refine walk_W (walk_zipT (K := K) (a := p) (b := ap) (xs := rest.map V.str) (ys := fs.map V.str) (n := rest.length) (by omega))
          (fun j Hc => ∃ l', Hc Dz = some (SetSO P w Dz l') ∧ (∀ z, z ∈ l' ↔ z ∈ l ∨ z ∈ (((rest.zip fs).take j).filter fun (z : Str × Str) => decide (z.2 = place)).map fun (z : Str × Str) => z.1) ∧ l'.length ≤ l.length + j ∧ Kept [] H Hc ∧ Hc p = some (.tup (rest.map V.str)))
          ⟨l, by rw [upd_ne ndp]; exact e1, (fun z => by simp), by simp, k1, upd_same⟩ (fun j Hc _ pv => ⟨.inl (.of pv.choose_spec.2.2.2.2), ea2 _⟩) ?_ ?_
        · rintro j x Hc Hc' hj ⟨l', e2, hm2, hz2, kk2, ep2⟩ ⟨Tp, x1, x2, rfl, nT, rfl, g1, g2⟩
          dsimp only at g1 g2
          rw [List.getElem?_map] at g1 g2
          obtain ⟨a1, ga1, rfl⟩ := Option.map_eq_some_iff.mp g1
          obtain ⟨a2, ga2, rfl⟩ := Option.map_eq_some_iff.mp g2
          have ez : (rest.zip fs)[j]? = some (a1, a2) := List.getElem?_zip_eq_some.mpr ⟨ga1, ga2⟩
          have nd2 : Dz ≠ Tp := ne_of_none e2 nT
          refine ⟨Tp, _, rfl, .inl (.of upd_same), rfl, _, _, rfl, _, _, rfl, rfl, rfl, ?_⟩
          refine ⟨_, rfl, _, rfl, rfl, ?_⟩
          have k3 : Kept [] H (upd Hc Tp (.tup [.str a1, .str a2])) := kk2.upd nT
          by_cases hp : a2 = place
          · rw [decide_eq_true (by rw [hp])]
            refine ⟨true, rfl, iteT ⟨_, rfl, a1, l', rfl, (by rw [upd_ne nd2]; exact e2), ?_, fun l'' m1 m2 => ⟨l'', upd_same, fun z => ?_, by omega, kD_far nD k3, ?_⟩⟩⟩
            · exact Nat.lt_of_le_of_lt (show l'.length + 1 ≤ 4000 by
                have el : ps.length = rs.length := hps.length
                rw [List.length_map] at hi
                omega) (by decide)
            · rw [m1 z, hm2 z, List.take_add_one, ez]
              simp [hp, or_assoc, or_comm, or_left_comm]
            · rw [upd_ne (ne_of ep2 e2 (fun q => nomatch q)), upd_ne (ne_of_none ep2 nT)]
              exact ep2
          · rw [decide_eq_false (by intro q; exact hp (V.str.inj q))]
            refine ⟨false, rfl, iteF ⟨l', (by rw [upd_ne nd2]; exact e2), fun z => ?_, by omega, k3, ?_⟩⟩
            · rw [hm2 z, List.take_add_one, ez]
              simp [hp]
            · rw [upd_ne (ne_of_none ep2 nT)]
              exact ep2
        · rintro Hc ⟨l', e2, hm2, hz2, kk2, ep2⟩
          have et : (rest.zip fs).take rest.length = rest.zip fs := List.take_of_length_le (by rw [List.length_zip]; omega)
          rw [et] at hm2
          refine ⟨l', e2, fun z => ?_, by omega, kk2⟩
          rw [hm2, hm z]
          have et2 : toldW place (Rw.ws r) = ((rest.zip fs).filter fun (z : Str × Str) => decide (z.2 = place)).map fun (z : Str × Str) => z.1 := by
            rw [ew]
            exact toldW_of ef
          constructor
          · rintro (⟨r', hr', hz'⟩ | hz')
            · exact ⟨r', (mem_take_succ er).mpr (.inl hr'), hz'⟩
            · exact ⟨r, (mem_take_succ er).mpr (.inr rfl), by rw [et2]; exact hz'⟩
          · rintro ⟨r', hr', hz'⟩
            rcases (mem_take_succ er).mp hr' with q | q
            · exact .inl ⟨r', q, hz'⟩
            · right
              rw [q, et2] at hz'
              exact hz'
    · rintro Ha ⟨l, e1, hm, hz, kk⟩
      rw [List.length_map] at hm hz
      have el : ps.length = rs.length := hps.length
      rw [el, List.take_of_length_le (Nat.le_refl _)] at hm
      exact ⟨Dz, l, rfl, e1, fun p bs np hb hbl => fin kk e1 hm (by omega) p bs np hb hbl⟩
end

theorem scNOL : FnScope ["rows"] ["rows"] (defScope sNamesOf) := ⟨rfl, rfl, rfl, by decide +kernel, rfl, by decide +kernel, by decide +kernel⟩
def spNamesL : Sp := fun vs H Q _ => ∃ (q : Addr) (rs : List Rw), vs = [.ref q] ∧ TextLs H q rs ∧ rs.length ≤ 1000 ∧
  ∀ (p : Addr) (bs : List Str) (H' : Hp), Kept [] H H' → H p = none → H' p = some (.lst (bs.map V.str)) → (∀ z, z ∈ bs ↔ ∃ r ∈ rs, z ∈ rowNames r) → bs.length ≤ 3 * rs.length → Q (.ref p) H'
section
variable {P : Program} {w : World} {K : PySem.W.Frag} {mg : Str → Option Value} {base : Heap} {f fT : Addr} {fd fdT : FuncData}
theorem ok_namesL (F : FnP K "names_of" sNamesOf f fd) (c_told_of : Own P w K mg base "told_of" 1 fT fdT ["rows", "place"] spToldL) : FnOk P w K mg base CX0 2 f fd ["rows"] spNamesL := by
  refine F.ok scNOL (fun vs H Q E h => ?_) (fun cdv A outer s H vs Q E hr h => ?_)
  · obtain ⟨q, rs, rfl, _⟩ := h
    rfl
  · obtain ⟨q, rs, rfl, tx, hl, k⟩ := h
    refine ⟨_, PSs.nox (pss_one (ps_ret (pe_call c_told_of.ok hr (by rfl) c_told_of.g c_told_of.kp c_told_of.b .nil pass0 (pa_cons (pv 0) (pa_cons pe_str pa_nil))))), ?_⟩
    refine ⟨_, rfl, q, rs, "name", rfl, tx, hl, fun p bs H' kk np e hm hb => ?_⟩
    refine k p (bs.mergeSort leS) H' kk np e (fun z => ?_) ?_
    · rw [(List.mergeSort_perm bs leS).mem_iff, hm]
      constructor
      · rintro ⟨r, h1, h2⟩
        rw [told_name] at h2
        exact ⟨r, h1, h2⟩
      · rintro ⟨r, h1, h2⟩
        exact ⟨r, h1, by rw [told_name]; exact h2⟩
    · rw [(List.mergeSort_perm bs leS).length_eq]
      exact hb
end
end Ah
end
section
set_option Elab.async false
set_option linter.all false
set_option maxRecDepth 100000
set_option maxHeartbeats 4000000
namespace Ah
open PySem PySem.Spec PyProof.Rows L2
open GxR (TabB TabG Tabbed)
/-! ### comes_by -/
def Say.names : Say → List Str
  | .is n _ => [n] | .has n _ m => [n, m] | .clash => []
def toRw : Say → Rw
  | .is n k => .is n k | .has n t m => .has n t m | .clash => .on ""
theorem toRw_ok {s : Say} (h : s ≠ .clash) : (toRw s).ws = s.ws ∧ rowNames (toRw s) = s.names := by
  cases s with
  | clash => exact absurd rfl h
  | is n k => exact ⟨rfl, rfl⟩
  | has n t m => exact ⟨rfl, rfl⟩
theorem names_ok {s : Say} (h : okW s.ws) : ∀ z ∈ s.names, PyData.strOk z = true := by
  intro z hz
  have q : ∀ y ∈ s.ws, PyData.strOk y = true := fun y hy => List.all_eq_true.mp h y hy
  cases s with
  | clash => cases hz
  | is n k => rw [List.mem_singleton.mp hz]; exact q n (by simp [Say.ws])
  | has n t m =>
    rcases List.mem_cons.mp hz with rfl | hz
    · exact q _ (by simp [Say.ws])
    · rw [List.mem_singleton.mp hz]; exact q m (by simp [Say.ws])
/-- whether the saying comes by the row of those ahead -/
def ByB (r : Rw) (ss : List Say) (x : Say) : Bool := match ss with
  | [] => decide (x.ws = r.ws)
  | [s] => decide ((s, none, x) ∈ leadsBy r s [])
  | s :: s2 :: _ => decide ((s, some s2, x) ∈ leadsBy r s (s.names ++ s2.names))
def SaysH (H : Hp) (as : List Addr) (ss : List Say) : Prop := Paired (fun a s => H a = some (.tup (s.ws.map V.str))) as ss
def spCB : Sp := fun vs H Q _ => ∃ (ra l sa : Addr) (r : Rw) (as : List Addr) (ss : List Say) (x : Say), vs = [.ref ra, .ref l, .ref sa] ∧ H ra = some (.tup (r.ws.map V.str)) ∧ okW r.ws ∧ H l = some (.lst (as.map V.ref)) ∧ SaysH H as ss ∧ ss.length ≤ 2 ∧ (∀ s ∈ ss, okW s.ws ∧ s ≠ .clash) ∧ H sa = some (.tup (x.ws.map V.str)) ∧ okW x.ws ∧
  ∀ H', Kept [] H H' → Q (.bl (ByB r ss x)) H'
theorem scCB : FnScope ["row", "ahead", "saying"] ["row", "ahead", "saying"] (defScope sComesBy) := ⟨rfl, rfl, rfl, by decide +kernel, rfl, by decide +kernel, by decide +kernel⟩
theorem room65 {k : Nat} {A : Around} (r : Room k A) : A.units + 65 < cLine := by
  have := r.un
  omega
section
variable {P : Program} {w : World} {K : PySem.W.Frag} {mg : Str → Option Value} {base : Heap} {f fL fN : Addr} {fd fdL fdN : FuncData}
theorem ok_comesby (F : FnP K "comes_by" sComesBy f fd) (B : Bl mg) (cL : Own P w K mg base "leads_by" 3 fL fdL ["row", "saying", "names"] (spBy K)) (cN : Own P w K mg base "names_of" 2 fN fdN ["rows"] spNamesL) :
    FnOk P w K mg base CX0 4 f fd ["row", "ahead", "saying"] spCB := by
  refine F.ok scCB (fun vs H Q E h => ?_) (fun cdv A outer s H vs Q E hr h => ?_)
  · obtain ⟨ra, l, sa, r, as, ss, x, rfl, _⟩ := h
    rfl
  · obtain ⟨ra, l, sa, r, as, ss, x, rfl, hra, hro, hl, hss, hle, hok, hsa, hxo, k⟩ := h
    refine ⟨_, PSs.nox (pss_cons (ps_if (pt_not (pt_truth (pv 1) (by intro _; rfl))) (pss_one (ps_ret (pe_cmpR (op_eqD hr.units) (pv 2) (pv 0) (nomark _)))) pss_nil)
      (pss_cons (ps_if (pt_cmpR op_eq (pe_callB call_len_seq (by rfl) B.len_ (by decide +kernel) (pa_cons (pv 1) pa_nil)) pe_int (nomark _)) (pss_one (ps_ret (pe_cmpR (op_inD (room65 hr)) (pe_tup (pa_cons (pe_ix (show IxR _ (rIxL K) from ix_list) (pv 1) pe_int (fun _ _ => rfl)) (pa_cons pe_non (pa_cons (pv 2) pa_nil))))
          (pe_call cL.ok hr (by rfl) cL.g cL.kp cL.b .nil pass0 (pa_cons (pv 0) (pa_cons (pe_ix (show IxR _ (rIxL K) from ix_list) (pv 1) pe_int (fun _ _ => rfl)) (pa_cons (pe_lst pa_nil) pa_nil)))) (by rfl)))) pss_nil)
      (pss_one (ps_ret (pe_cmpR (op_inD (room65 hr)) (pe_tup (pa_cons (pe_ix (show IxR _ (rIxL K) from ix_list) (pv 1) pe_int (fun _ _ => rfl)) (pa_cons (pe_ix (show IxR _ (rIxL K) from ix_list) (pv 1) pe_int (fun _ _ => rfl)) (pa_cons (pv 2) pa_nil))))
          (pe_call cL.ok hr (by rfl) cL.g cL.kp cL.b .nil pass0 (pa_cons (pv 0) (pa_cons (pe_ix (show IxR _ (rIxL K) from ix_list) (pv 1) pe_int (fun _ _ => rfl)) (pa_cons (pe_call cN.ok (hr.mono (by decide)) (by rfl) cN.g cN.kp cN.b .nil pass0 (pa_cons (pv 1) pa_nil)) pa_nil)))) (by rfl)))))), ?_⟩
    refine ⟨_, rfl, !(as.map V.ref).isEmpty, .inl ⟨_, SqL.of hl, rfl⟩, ?_⟩
    match as, ss, hss, hle with
    | [], [], .nil, _ =>
      refine iteT ⟨_, rfl, _, rfl, ?_⟩
      exact rd_eqW (SqT.of hsa) (SqT.of hra) hxo hro (k H (Kept.refl H))
    | [a], [s1], .cons ha .nil, _ =>
      obtain ⟨o1, c1⟩ := hok s1 (by simp)
      refine iteF ⟨_, rfl, l, _, rfl, .inl (.inl (.of hl)), rfl, _, rfl, iteT ?_⟩
      refine ⟨_, rfl, l, _, 0, .ref a, rfl, rfl, SqL.of hl, at_of (j := 0) rfl rfl, _, rfl, by show (3 : Nat) ≤ sizeLine; decide, fun t nt => ?_⟩
      have k1 := (Kept.refl (M := []) H).upd (o := .tup [.ref a, .non, .ref sa]) nt
      refine ⟨_, rfl, _, rfl, l, _, 0, .ref a, rfl, rfl, SqL.of (k1 _ _ hl (by simp)), at_of (j := 0) rfl rfl, Nat.zero_le _, fun na nna => ?_⟩
      have k2 := k1.upd (o := .lst []) nna
      refine ⟨ra, .ref a, na, r, s1, [], rfl, .inl (.of (k2 _ _ hra (by simp))), hro, o1, ⟨⟨a, rfl, .inl (.of (k2 _ _ ha (by simp)))⟩, .inl (.of upd_same), Nat.zero_le _⟩, fun p H' k3 np hp => ?_⟩
      have k4 := k2.trans k3
      have et : H' t = some (.tup [.ref a, .non, .ref sa]) := k3 _ _ (((Kept.refl (M := []) _).upd (o := .lst []) nna) _ _ upd_same (by simp)) (by simp)
      refine rd_inL (l := (s1, none, x)) ⟨t, _, _, _, rfl, et, ⟨a, rfl, .inl (.of (k4 _ _ ha (by simp)))⟩, rfl, ⟨sa, rfl, .inl (.of (k4 _ _ hsa (by simp)))⟩⟩ hp ⟨o1, (fun _ z => nomatch z), hxo⟩ (okL_by hro o1 (fun _ z => nomatch z)) ?_
      exact k H' k4
    | [a, b], [s1, s2], .cons ha (.cons hb .nil), _ =>
      obtain ⟨o1, c1⟩ := hok s1 (by simp)
      obtain ⟨o2, c2⟩ := hok s2 (by simp)
      refine iteF ⟨_, rfl, l, _, rfl, .inl (.inl (.of hl)), rfl, _, rfl, iteF ?_⟩
      refine ⟨_, rfl, l, _, 0, .ref a, rfl, rfl, SqL.of hl, at_of (j := 0) rfl rfl, _, rfl, l, _, 1, .ref b, rfl, rfl, SqL.of hl, at_of (j := 1) rfl rfl, _, rfl, by show (3 : Nat) ≤ sizeLine; decide, fun t nt => ?_⟩
      have k1 := (Kept.refl (M := []) H).upd (o := .tup [.ref a, .ref b, .ref sa]) nt
      refine ⟨_, rfl, _, rfl, l, _, 0, .ref a, rfl, rfl, SqL.of (k1 _ _ hl (by simp)), at_of (j := 0) rfl rfl, _, rfl, l, [toRw s1, toRw s2], rfl, ⟨[a, b], k1 _ _ hl (by simp), .cons ?_ (.cons ?_ .nil)⟩, by show (2 : Nat) ≤ 1000; decide, fun na bs H2 k2 nna e2 hm hlen => ?_⟩
      · rw [(toRw_ok c1).1]
        exact k1 _ _ ha (by simp)
      · rw [(toRw_ok c2).1]
        exact k1 _ _ hb (by simp)
      have k12 := k1.trans k2
      have hmem : ∀ z, z ∈ bs ↔ z ∈ s1.names ++ s2.names := fun z => by
        rw [hm, List.mem_append]
        constructor
        · rintro ⟨r', h1, h2⟩
          rcases List.mem_cons.mp h1 with rfl | h1
          · exact .inl ((toRw_ok c1).2 ▸ h2)
          · rw [List.mem_singleton.mp h1] at h2
            exact .inr ((toRw_ok c2).2 ▸ h2)
        · rintro (h | h)
          · exact ⟨toRw s1, by simp, by rw [(toRw_ok c1).2]; exact h⟩
          · exact ⟨toRw s2, by simp, by rw [(toRw_ok c2).2]; exact h⟩
      have hsok : ∀ z ∈ bs, PyData.strOk z = true := fun z hz => by
        rcases List.mem_append.mp ((hmem z).mp hz) with h | h
        · exact names_ok o1 z h
        · exact names_ok o2 z h
      refine ⟨ra, .ref a, na, r, s1, bs, rfl, .inl (.of (k12 _ _ hra (by simp))), hro, o1, ⟨⟨a, rfl, .inl (.of (k12 _ _ ha (by simp)))⟩, .inl (.of e2), Nat.le_trans hlen (by show 3 * 2 ≤ 1000; decide)⟩, fun p H' k3 np hp => ?_⟩
      have k4 := k12.trans k3
      have et : H' t = some (.tup [.ref a, .ref b, .ref sa]) := k3 _ _ (k2 _ _ upd_same (by simp)) (by simp)
      refine rd_inL (l := (s1, some s2, x)) ⟨t, _, _, _, rfl, et, ⟨a, rfl, .inl (.of (k4 _ _ ha (by simp)))⟩, ⟨b, rfl, .inl (.of (k4 _ _ hb (by simp)))⟩, ⟨sa, rfl, .inl (.of (k4 _ _ hsa (by simp)))⟩⟩ hp ⟨o1, (fun y hy => by rw [← Option.some.inj hy]; exact o2), hxo⟩ (okL_by hro o1 hsok) ?_
      have e : decide ((s1, some s2, x) ∈ leadsBy r s1 bs) = ByB r [s1, s2] x := decide_eq_decide.mpr (mem_names hmem)
      rw [e]
      exact k H' k4
    | _ :: _ :: _ :: _, _ :: _ :: _ :: _, .cons _ (.cons _ (.cons _ _)), hle => exact absurd hle (by simp)
end
end Ah
end
section
set_option Elab.async false
set_option linter.all false
set_option maxRecDepth 100000
set_option maxHeartbeats 2000000
/-! an own exception whose __init__ begins with super().__init__('..'): the def by its further statements. -/
namespace Ah
open PySem PySem.Spec PyProof.Rows L2

theorem look_mem {κ : Type} {x : Str} {u : κ} : ∀ {l : List (Str × κ)}, (l.map (·.1)).Nodup → (x, u) ∈ l → l.lookup x = some u
  | [], _, h => nomatch h
  | (y, v) :: l, nd, h => by
    rw [List.map_cons, List.nodup_cons] at nd
    rcases List.mem_cons.mp h with e | e
    · cases e
      simp [List.lookup]
    · have hne : (x == y) = false := beq_eq_false_iff_ne.mpr fun z => nd.1 (List.mem_map.mpr ⟨_, e, z⟩)
      rw [List.lookup, hne]
      exact look_mem nd.2 e
theorem zip_fst {κ : Type} : ∀ {ps : List Str} {us : List κ}, ps.length = us.length → (ps.zip us).map (·.1) = ps
  | [], [], _ => rfl
  | p :: ps, u :: us, h => by rw [List.zip_cons_cons, List.map_cons, zip_fst (by simpa using h)]
  | [], _ :: _, h => by simp at h
  | _ :: _, [], h => by simp at h
theorem zip_look {ps : List Str} {us : List Value} {i : Nat} {y : Str} {u : Value} (nd : ps.Nodup) (hl : ps.length = us.length) (hp : ps[i]? = some y) (hu : us[i]? = some u) : (ps.zip us).reverse.lookup y = some u := by
  refine look_mem ?_ (List.mem_reverse.mpr ?_)
  · rw [List.map_reverse, zip_fst hl]
    exact (List.reverse_perm ps).nodup_iff.mpr nd
  · refine List.mem_of_getElem? (i := i) ?_
    rw [List.getElem?_zip_eq_some]
    exact ⟨hp, hu⟩

/-- the context of such a def's body, at its entry -/
def cxSup (CX : CXT) (P : Program) (w : World) (K : PySem.W.Frag) (mg : Str → Option Value) (base : Heap) (N : List Str) (qual : Str) (scope : Scope) (f : Addr) (cd : Value) (cc : Addr) (A : Around) (outer : List Env) (s : Shared) (H : Hp) (E : XK) : Cx where
  prog := P
  w := w
  K := K
  mg := mg
  base := base
  A := A.deeper (PySem.W.ksEnv qual scope s.heap.objs.size f cd cc)
  N := N
  s_0 := s
  H_0 := H
  env := PySem.W.ksEnv qual scope s.heap.objs.size f cd cc
  outer := outer
  stack := PySem.W.ksEnv qual scope s.heap.objs.size f cd cc :: outer
  ex := []
  calm := true
  fn := fun _ => false
  pn := []
  xe := fun e s' => wpAny (model P w) (A.deeper (PySem.W.ksEnv qual scope s.heap.objs.size f cd cc)) (leaving (PySem.W.ksEnv qual scope s.heap.objs.size f cd cc) e) (fun _ s'' => CX outer H s E e s'') (fun e' s'' => CX outer H s E e' s'') s'

/-- what the written part says of such a def -/
structure SupFn (P : Program) (K : PySem.W.Frag) (mg : Str → Option Value) (f C : Addr) (fd : FuncData) (N : List Str) (slf : Str) (rest : List Stmt) : Prop where
  ex : ∃ (oc : Value) (od : Option Addr) (name qual : Str) (params : Arguments) (scope : Scope) (dV kV doc pm ct : Value) (an : Option Addr) (cda cc : Addr) (osl : Array (Option Value)) (p0 p1 p2 p3 p4 p5 : Pos) (txt : Str) (kk : Nat) (ar : Arg)
    (ccl cl : Value) (cdd cld : Option Addr) (ccs csl : Array (Option Value)) (vs : Array Value) (file : Str) (tf : Tok) (pl : Addr → Sem Bool),
    fd = PySem.W.ksFn name qual params (.Expr (.Call (.Attribute (.Call (.Name "super" p0) [] [] p1) "__init__" p2) [.Constant (.str txt) kk p3] [] p4) p5 :: rest) scope dV kV doc pm an (.ref cda) ct cc ∧
    K.lookup f = some ⟨oc, od, .func fd, osl⟩ ∧ PySem.W.codeIn K (.ref cda) qual = true ∧ (params.posonlyargs ++ params.args).head? = some ar ∧ ar.arg = slf ∧
    K.lookup cda = some ⟨ccl, cdd, .fields vs, ccs⟩ ∧ vs[2]? = some (.str file tf) ∧ ((P.main.file : Str) == file) = true ∧
    K.lookup cc = some ⟨cl, cld, .cell (some (.ref C)), csl⟩ ∧
    scope.kind = .function ∧ scope.isCoroutine = false ∧ scope.isGenerator = false ∧ (∀ x ∈ scope.names, x.2 ≠ .cell) ∧ (∀ x ∈ N, scope.names.lookup x = some .local) ∧
    (∀ x, scope.names.lookup x = some .free → x = "__class__") ∧
    scope.names.lookup ("super" : Str) = some .globalImplicit ∧ scope.names.lookup ("__class__" : Str) = some .free ∧
    (∀ L : Addr, interactive (PySem.W.ksEnv qual scope L f (.ref cda) cc) = false) ∧
    (∀ L : Addr, swapsWith (.Call (.Attribute (.Call (.Name "super" p0) [] [] p1) "__init__" p2) [.Constant (.str txt) kk p3] [] p4) none p5.line (PySem.W.ksEnv qual scope L f (.ref cda) cc) = pure false) ∧
    (∀ L : Addr, eval (.Call (.Attribute (.Call (.Name "super" p0) [] [] p1) "__init__" p2) [.Constant (.str txt) kk p3] [] p4) (PySem.W.ksEnv qual scope L f (.ref cda) cc) = (do
      let ov ← attributeBase (.Call (.Name "super" p0) [] [] p1) "__init__" (PySem.W.ksEnv qual scope L f (.ref cda) cc) (eval (.Call (.Name "super" p0) [] [] p1) (PySem.W.ksEnv qual scope L f (.ref cda) cc))
      standAt p2.atName
      let (g, first) ← holding [ov] (getMethod ov "__init__" (pl L))
      callWith p4 g first (backTo p4 (starEach [.Constant (.str txt) kk p3] (PySem.W.ksEnv qual scope L f (.ref cda) cc))) [])) ∧
    (∀ L : Addr, starEach [.Constant (.str txt) kk p3] (PySem.W.ksEnv qual scope L f (.ref cda) cc) = (false, eval (.Constant (.str txt) kk p3) (PySem.W.ksEnv qual scope L f (.ref cda) cc)) :: starEach [] (PySem.W.ksEnv qual scope L f (.ref cda) cc)) ∧
    (∀ L : Addr, (backTo p4 (starEach [] (PySem.W.ksEnv qual scope L f (.ref cda) cc))).any (·.1) = false)
  nd : N.Nodup
  hd : N[0]? = some slf
  sup : mg "super" = none
  top : (P.main.scope.names.lookup ("super" : Str)).isSome = false
  opq : PySem.W.nsIn K cStatics "thirdparty.any" = some none
  meth : PySem.W.ks_superIn K C C "__init__" = some (some (.builtin "ValueError.__init__"))
  val : PySem.W.subIn K (.ref C) (.type "ValueError") = some true
  own : PySem.W.mroIn K C (.ref C) = some true

section
variable {CX : CXT} {P : Program} {w : World} {K : PySem.W.Frag} {mg : Str → Option Value} {base : Heap} {f C : Addr} {N : List Str} {E : XK} {A : Around} {outer : List Env} {s : Shared} {H : Hp} {us : List Value} {vs : List V}
theorem inv_sup {qual : Str} {scope : Scope} {cd : Value} {cc : Addr} {h1 : Heap} {tk : Nat} {o : Obj} {v0 : Option Value} (hd : A.handled = none) (e0 : Env0 P w K mg base A outer s H) (nd : N.Nodup) (hl : vs.length = N.length) (r : Vals vs us)
    (hkind : scope.kind = .function) (hloc : ∀ x ∈ N, scope.names.lookup x = some .local) (hcell : ∀ x ∈ scope.names, x.2 ≠ .cell) (hfree : ∀ x, scope.names.lookup x = some .free → x = "__class__")
    (hcc : K.lookup cc = some o) (ho : o.data = .cell v0)
    (hns : h1.Ns s.heap.objs.size (fun x => (N.zip us).reverse.lookup x)) (hk : ∀ b o, s.heap.get? b = some o → h1.get? b = some o) :
    Inv (cxSup CX P w K mg base N qual scope f cd cc A outer s H E) [] (L2.start N vs) H { s with heap := h1, toks := tk } := by
  have KB : ∀ b o, K.lookup b = some o → base.get? b = some o := fun b o q => e0.mod.kin _ _ q
  have lkc : ∀ {x : Str} {c : Addr}, (cxSup CX P w K mg base N qual scope f cd cc A outer s H E).env.cells.lookup x = some c → x = "__class__" ∧ c = cc := fun {x c} h => by
    have h : List.lookup x [(("__class__" : Str), cc)] = some c := h
    by_cases hx : x = "__class__"
    · subst hx
      simp [List.lookup] at h
      exact ⟨rfl, h.symm⟩
    · rw [List.lookup, beq_eq_false_iff_ne.mpr hx] at h
      cases h
  have noA : ∀ b : Addr, b ∉ (cxSup CX P w K mg base N qual scope f cd cc A outer s H E).ex := fun b z => absurd (show b ∈ ([] : List Addr) from z) (by simp)
  have hlu : N.length = us.length := by rw [← hl]; exact r.length
  have bcc := e0.bs _ _ (KB _ _ hcc)
  refine ⟨⟨e0.mod, hkind, rfl, rfl, Nat.le_refl _, fun y z c h1 h2 => (lkc h1).1.trans (lkc h2).1.symm, fun y hy => ?_, fun y c z _ => ?_, fun _ => hd, Around.frames_deeper e0.frames, .inr ⟨rfl, rfl⟩, fun b z => absurd z (noA b), e0.bs, e0.bsz, fun b _ _ => noA b, fun b z => absurd z (noA b), e0.funs, e0.frf⟩,
    rfl, e0.bare, Un.kept hk, ⟨_, hns, fun i y v h1 h2 h3 => ?_⟩, fun y c h => ⟨v0, o, ?_, ho⟩, e0.hok.fresh (Nat.le_refl _), fun y c h => ?_, fun p hp => absurd (show p ∈ ([] : List (Addr × Obj)) from hp) (by simp), e0.hok.kept hk, ?_⟩
  · have hy : scope.names.lookup y = some .cell ∨ scope.names.lookup y = some .free := hy
    rcases hy with hy | hy
    · exact absurd rfl (hcell _ (PySem.mem_of_lookup hy))
    · refine ⟨cc, ?_⟩
      rw [hfree y hy]
      show List.lookup ("__class__" : Str) [(("__class__" : Str), cc)] = some cc
      simp [List.lookup]
  · cases (show false = true from z)
  · have hi : i < vs.length := by
      unfold L2.start at h2
      by_cases hi : i < vs.length
      · exact hi
      · rw [List.getElem?_append_right (by simpa using hi)] at h2
        rw [List.getElem?_replicate] at h2
        split at h2 <;> cases h2
    have ha : vs[i]? = some v := by
      unfold L2.start at h2
      rw [List.getElem?_append_left (by simpa using hi), List.getElem?_map] at h2
      cases e : vs[i]? with
      | none => rw [e] at h2; cases h2
      | some a => rw [e] at h2; cases h2; rfl
    obtain ⟨u, hu, rv⟩ := r.get ha
    exact ⟨u, rv, .inl ⟨hloc y (List.mem_of_getElem? h1), zip_look nd hlu h1 hu⟩⟩
  · rw [(lkc h).2]
    exact hk _ _ bcc.1
  · rw [(lkc h).2]
    exact bcc.2
  · unfold L2.start
    show _ = N.length
    rw [List.length_append, List.length_map, List.length_replicate]
    omega

/-- THE RULE -/
theorem sup_fn {k : Nat} {fd : FuncData} {slf : Str} {rest : List Stmt} {sp : Sp} (S : SupFn P K mg f C fd N slf rest) (T : OexC K C)
    (len : ∀ vs H Q E, sp vs H Q E → vs.length = N.length)
    (hbody : ∀ (qual : Str) (scope : Scope) (cd : Value) (cc : Addr) (A : Around) (outer : List Env) (s : Shared) (H : Hp) (vs : List V) (Q : VK) (E : XK), (∀ x ∈ N, scope.names.lookup x = some .local) → sp vs H Q E →
      (∃ a vr, vs = .ref a :: vr ∧ H a = some (exo a C none)) ∧ ∃ t, PSs (cxSup CX P w K mg base N qual scope f cd cc A outer s H E) rest t ∧ t { nx := fun _ H' => Q .non H', rt := Q } (L2.start N vs) H) :
    FnOk P w K mg base CX (k + 1) f fd N sp := by
  refine ⟨len, fun A outer s H args us vs Q E hr e0 hb r hsp => ?_⟩
  obtain ⟨oc, od, name, qual, params, scope, dV, kV, doc, pm, ct, an, cda, cc, osl, p0, p1, p2, p3, p4, p5, txt, kk, ar, ccl, cl, cdd, cld, ccs, csl, xs, file, tf, pl, rfl, lk, hcd, hhd, har, hcda, hxs, hfile, hcc, hkind, hco, hgen, hcell, hloc, hfree, hsup, hcls, hin, hsw, hev, hst, hpl⟩ := S.ex
  have hl := len _ _ _ _ hsp
  have hlu : N.length = us.length := by rw [← hl]; exact r.length
  have KX : K.In s.heap := e0.mod.kin.keeps fun b o e => (e0.bs b o e).1
  have lim : s.heap.NoLimit := e0.mod.nolimit.keeps fun b o e => (e0.bs b o e).1
  refine PySem.ks_codeAny_call_defAt hr.depth (KX _ _ lk) rfl lim (PySem.W.codeRec_of KX hcd) rfl hb hcell (fun x hx => hloc _ (List.of_mem_zip (show (x.1, x.2) ∈ N.zip us from hx)).1) (fun h1 hns hk => ?_) hco hgen hkind
  have I : Inv (cxSup CX P w K mg base N qual scope f (.ref cda) cc A outer s H E) [] (L2.start N vs) H { s with heap := h1, toks := s.toks + (N.zip us).length } :=
    inv_sup hr.hd e0 S.nd hl r hkind hloc hcell hfree hcc rfl hns hk
  obtain ⟨⟨a, vr, rfl, ea⟩, t, ht, hq⟩ := hbody qual scope (.ref cda) cc A outer s H vs Q E hloc hsp
  obtain ⟨t1, hat⟩ := exo_at I.hok ea
  have hat : h1.get? a = some ({ cls := .ref C, dict := none, data := .fields #[.ref t1, .none, .none, .none, .bool false, .none] } : Obj) := hat
  obtain ⟨nm, q, Nm, bs, bm, sn, sub, ab, col, dd, k0, k1, k2, k3, k5, hC, hbm⟩ := T.cls
  have K1 : K.In h1 := KX.keeps hk
  have hcl : PySem.W.clsIn K C = some { name := nm, bases := bs, mro := .ref C :: bm, ns := Nm, qualname := q, hasDict := true, slotNames := sn, subclasses := sub, abstract := ab, collection := col, hasDel := false } := by unfold PySem.W.clsIn; rw [hC] <;> rfl
  have us0 : ∃ ur, us = .ref a :: ur := by
    cases r with
    | @cons _ u0 _ ur ra rw' =>
      obtain rfl : u0 = Value.ref a := ra
      exact ⟨ur, rfl⟩
  have hself : (N.zip us).reverse.lookup ar.arg = some (.ref a) := by
    obtain ⟨ur, e⟩ := us0
    rw [har]
    exact zip_look S.nd hlu S.hd (by rw [e]; rfl)
  have hlself : scope.names.lookup ar.arg = some .local := by rw [har]; exact hloc _ (List.mem_of_getElem? S.hd)
  show _root_.PySem.wpAt (model P w) (A.deeper (PySem.W.ksEnv qual scope s.heap.objs.size f (.ref cda) cc)) (.func _ (PySem.W.ksEnv qual scope s.heap.objs.size f (.ref cda) cc)) (execs _ (PySem.W.ksEnv qual scope s.heap.objs.size f (.ref cda) cc)) _ _ _
  refine PySem.ks_wpAt_execs_cons (PySem.ks_wpAt_Expr_any (PySem.ks_wpAt_MethodCall (PySem.ks_wpAt_super_base (env := PySem.W.ksEnv qual scope s.heap.objs.size f (.ref cda) cc) hsup hcls (by decide) rfl (K1 _ _ lk) rfl hhd rfl (K1 _ _ hcda) rfl hxs hfile S.top ?_) (hev _)) (hin _) (hsw _))
  obtain ⟨mb, hm1, hm2⟩ := I.mod.blt
  refine PySem.W.ks_loadName_global hkind hsup (Calls.loadGlobal_builtin (env := PySem.W.ksEnv qual scope s.heap.objs.size f (.ref cda) cc) (I.mod.glob.keeps I.bk) S.sup (hm1.keeps I.bk) ((hm2 "super" (by decide)).trans PyProof.Rows.Boot.«super») ⟨rfl, ?_⟩)
  refine wpAny_loadName_free hkind hcls rfl ⟨_, K1 _ _ hcc, rfl⟩ ?_
  refine wpAny_loadName_local hkind hlself hns hself ?_
  refine PySem.ks_wpAny_isType_cls (K1 _ _ hC) rfl ⟨rfl, ?_⟩
  refine PySem.ks_wpAny_call_super (K1 _ _ hC) rfl hat rfl (fun c e => by cases e) (PySem.W.looks_mroIn K1 S.own) (fun h2 e2 k2 => ?_)
  have K2 : K.In h2 := K1.keeps k2
  have hat2 := k2 _ _ hat
  have I2 : PySem.W.InstAt h2 a { cls := .ref C, dict := none, data := .fields #[.ref t1, .none, .none, .none, .bool false, .none] } C none := ⟨hat2, rfl, rfl, trivial⟩
  have hal := S.meth
  unfold PySem.W.ks_superIn at hal
  rw [hcl] at hal
  refine PySem.W.kxs_getMethod PySem.W.kxs_ValueError e2 (PySem.W.looks_opaque K2 S.opq) (l₀ := .ref C :: bm) (fun A Q E s k q => wpAny_bind ((PySem.W.looks_clsIn K2 hcl) A _ E s k (wpAny_pure q))) rfl K2 hal (I2.type.andThen (PySem.W.looks_subIn K2 S.val)) (PySem.W.ks_ne K2 I2 hcl) (by decide) ?_
  have k3 : ∀ b o, h1.get? b = some o → (h2.push (PySem.W.kxs_mw "ValueError.__init__" a)).get? b = some o := fun b o q => Heap.get?_push_of_some _ (k2 b o q)
  have e3 : (h2.push (PySem.W.kxs_mw "ValueError.__init__" a)).get? h2.objs.size = some (PySem.W.kxs_mw "ValueError.__init__" a) := Heap.get?_push_at rfl rfl
  generalize h2.push (PySem.W.kxs_mw "ValueError.__init__" a) = h3 at k3 e3 ⊢
  generalize h2.objs.size = u at e3 ⊢
  have I3 : Inv (cxSup CX P w K mg base N qual scope f (.ref cda) cc A outer s H E) [] (L2.start N (.ref a :: vr)) H { s with heap := h3, toks := s.toks + (N.zip us).length + 1 } := I.kept k3
  dsimp only
  rw [hst]
  refine PySem.W.kxs_callWith (i := "ValueError.__init__") (x := a) (by show (false || (backTo p4 (starEach [] (PySem.W.ksEnv qual scope s.heap.objs.size f (.ref cda) cc))).any (·.1)) = false; rw [hpl]; rfl) (Calls.evalArgs_plain ?_)
  refine Calls.spliced_cons (Calls.Constant_str (k := kk) (pos := p3) (Calls.spliced_nil ⟨e3, ?_⟩))
  refine wpAny_call (codeAny_of_tree ?_)
  show wpAny _ (A.deeper (PySem.W.ksEnv qual scope s.heap.objs.size f (.ref cda) cc)).in1 (callAny (.ref u) ⟨[.str txt _], []⟩) _ _ _
  simp only [callAny]
  refine wpAny_bind (wpAny_load e3 ?_)
  simp only [PySem.W.kxs_mw, show (Value.type "method-wrapper" == Value.type "method" || Value.type "method-wrapper" == Value.type "builtin_function_or_method" || Value.type "method-wrapper" == Value.type "method-wrapper") = true by decide, if_true]
  refine PySem.W.KFB.if_so (by decide) ?_
  refine wpAny_bind (PySem.W.check_bound_init F.excBase_ValueError.toExcCallFacts (K1.keeps k3 _ _ hC) (k3 _ _ hat) rfl ?_)
  refine wpAny_bind (wpAny_pure (wpAny_pure ?_))
  refine ⟨plainId_quiet F.excBase_ValueError.init.plain _, codeAny_builtin F.excBase_ValueError.initEntry ?_⟩
  refine PySem.W.exc_init_tree (cls := .ref C) (t0 := t1) (dv := none) (c2 := .none) (c3 := .none) (b4 := .bool false) (k3 _ _ hat) (by rw [sizeLine_eq]; show 1 ≤ 16777216; decide) fun h5 k5 e5 _ => ?_
  have I5 : Inv (cxSup CX P w K mg base N qual scope f (.ref cda) cc A outer s H E) [] (L2.start N (.ref a :: vr)) (upd H a (exo a C none)) { s with heap := h5, toks := s.toks + (N.zip us).length + 1 + 1 } :=
    (I3.tok (s.toks + (N.zip us).length + 1 + 1)).write (x := a) (e := a) (o := exo a C none) (by rw [ea]; exact True.intro) (.inl rfl) k5 ⟨_, e5⟩ (exo_ok e5)
  have eu : upd H a (exo a C none) = H := by
    funext b
    by_cases hb : b = a
    · rw [hb, upd_same, ea]
    · rw [upd_ne hb]
  rw [eu] at I5
  refine wpAt_of_wpAny (wpAny_mono (ht.run [] _ (L2.start N (.ref a :: vr)) H _ I5 hq) (fun fl s' hs => ?_) fun e s' hs => hs)
  have fin : ∀ {σ' : L2.St} {H' : Hp} {v : V} {u : Value}, Inv (cxSup CX P w K mg base N qual scope f (.ref cda) cc A outer s H E) [] σ' H' s' → RelV v u → Q v H' → CE outer P w H s Q u s' :=
    fun {σ' H' v u} J rv q => ⟨v, H', J.os, J.bare, J.base, J.hok, rv, q⟩
  cases fl with
  | ret u =>
    obtain ⟨v, σ', H', J, rv, q⟩ := hs
    exact fin J rv q
  | next =>
    obtain ⟨σ', H', J, q⟩ := hs
    exact fin (v := V.non) (u := Value.none) J rfl q
  | brk =>
    obtain ⟨_, _, _, q⟩ := hs
    exact False.elim q
  | cont =>
    obtain ⟨_, _, _, q⟩ := hs
    exact False.elim q
end
end Ah
end
section
set_option Elab.async false
set_option linter.all false
set_option maxRecDepth 100000
set_option maxHeartbeats 2000000
/-! own exceptions with one field: made, raised, caught, read; isinstance of them. -/
namespace Ah
open PySem PySem.Spec PyProof.Rows L2
def spErr1 (C : Addr) (fld : Str) : Sp := fun vs H Q _ => ∃ a y, vs = [.ref a, y] ∧ H a = some (exo a C none) ∧ ∀ dx, H dx = none → dx ≠ a → Q .non (upd (upd H dx (exd dx [(fld, y)])) a (exo a C (some dx)))
section
variable {CX : CXT} {P : Program} {w : World} {K : PySem.W.Frag} {mg : Str → Option Value} {base : Heap} {f C : Addr}
theorem sup_one {fd : FuncData} {slf arg fld : Str} {p6 p7 p8 p9 : Pos} (S : SupFn P K mg f C fd [slf, arg] slf [.Assign [.Attribute (.Name slf p6) fld p7] (.Name arg p8) p9]) (T : OexC K C) (hno : PySem.W.findIn K (.ref C) fld = some none)
    (hd1 : (slf == ("__debug__" : Str)) = false) (hd2 : (slf == ("__classdict__" : Str)) = false) (hd3 : (arg == ("__debug__" : Str)) = false) (hd4 : (arg == ("__classdict__" : Str)) = false) :
    FnOk P w K mg base CX 1 f fd [slf, arg] (spErr1 C fld) := by
  refine sup_fn S T (fun vs H Q E h => by obtain ⟨a, y, rfl, _⟩ := h; rfl) (fun qual scope cd cc A outer s H vs Q E hv h => ?_)
  obtain ⟨a, y, rfl, ea, q⟩ := h
  refine ⟨⟨a, _, rfl, ea⟩, _, pss_one (ps_ost (pe_var (i := 0) rfl (.inl (hv _ (by simp))) hd1 hd2) (pe_var (i := 1) rfl (.inl (hv _ (by simp))) hd3 hd4) (by rfl)), ?_⟩
  exact ⟨y, rfl, .ref a, rfl, a, C, rfl, T, hno, .inl ⟨ea, fun dx hn hne => q dx hn hne⟩⟩
end
/-- what the written part says of a class of one field -/
structure One (K : PySem.W.Frag) (C fI : Addr) (fld : Str) : Prop where
  T : OexC K C
  xf : XfC K C
  iC : PySem.W.findIn K (.ref C) "__init__" = some (some (.ref fI))
  tI : PySem.W.typeIn K (.ref fI) = some (.type "function")
  hno : PySem.W.findIn K (.ref C) fld = some none
theorem one_q {H1 : Hp} {C : Addr} {fld : Str} {y : V} {Q : XK} (h : ∀ d, H1 d = none → Q (.ref C) (some d) (upd H1 d (.xd [(fld, y)]))) :
    [y].length ≤ 1000 ∧ ∀ a, H1 a = none → spErr1 C fld (.ref a :: ([y] ++ [])) (upd H1 a (exo a C none))
      (fun v H2 => v = .non ∧ ∃ (d : Addr) (fs : List (Str × V)), H2 a = some (exo a C (some d)) ∧ H2 d = some (exd d fs) ∧ H1 d = none ∧ Q (.ref C) (some d) (upd (del H2 a) d (.xd fs))) (fun _ _ _ => False) := by
  refine ⟨by simp, fun a na => ⟨a, y, rfl, upd_same, fun dx hn hne => ⟨rfl, dx, [(fld, y)], upd_same, ?_, ?_, ?_⟩⟩⟩
  · rw [upd_ne hne, upd_same]
  · rw [upd_ne hne] at hn
    exact hn
  · have e : upd (del (upd (upd (upd H1 a (exo a C none)) dx (exd dx [(fld, y)])) a (exo a C (some dx))) a) dx (.xd [(fld, y)]) = upd H1 dx (.xd [(fld, y)]) := by
      funext b
      by_cases hb : b = dx
      · rw [hb, upd_same, upd_same]
      · rw [upd_ne hb, upd_ne hb]
        by_cases ha : b = a
        · rw [ha, del_same, na]
        · rw [del_ne ha, upd_ne ha, upd_ne hb, upd_ne ha]
    rw [e]
    rw [upd_ne hne] at hn
    exact h dx hn
section
variable {X : Cx} {C fI : Addr} {fld : Str} {W : WX} {e : Expr} {te : TE} {x : Str} {p pos pos' : Pos} {fd : FuncData} {ps : List Str}
/-- raise X(e): behind [e]: one_q -/
theorem ps_raise1 (hc : X.calm = true) (tk : Takes X W) (R : One X.K C fI fld) (F1 : FnOk X.prog X.w X.K X.mg X.base (L2.CX X.prog X.w) 1 fI fd ps (spErr1 C fld)) (hr : Room 2 X.A) (hb : Binds X.K fd ps []) (hg : Gl X x) (hm : X.mg x = some (.ref C)) (he : PE X e te)
    (hdb : (x == ("__debug__" : Str)) = false := by decide) (hst : starEach [e] X.env = (false, eval e X.env) :: starEach [] X.env := by rfl) (hpl : (backTo pos (starEach [] X.env)).any (·.1) = false := by rfl) :
    PS X (.Raise (some (.Call (.Name x p) [e] [] pos)) none pos') (fun _ σ H => tMkO C (spErr1 C fld) [] (tCons te tNil) σ H fun cls d H' => W cls d σ H') :=
  ps_raise hc tk (pmk_oex (p := p) (pos := pos) R.T R.iC R.tI F1 hr hb .nil passL hg hm (pa_cons he pa_nil hst) hdb hst hpl)
end

/-! ### isinstance(e, c), e the exception that the suite holds, with a dict or none -/
def rIsD (K : PySem.W.Frag) (D a : Addr) (d : Option Addr) : List V → Hp → VK → Prop := fun xs H Q => ∃ (c : V) (cv : Value) (b : Bool), xs = [.ref a, c] ∧ (∀ u, RelV c u → u = cv) ∧ PySem.W.kitOne K (.ref D) cv = some b ∧ (∀ dd, d = some dd → ∃ fs, H dd = some (.xd fs)) ∧ Q (.bl b) H
theorem call_isD {X : Cx} {a D : Addr} {oe : Obj} {d : Option Addr} {pn : List (Addr × Obj)} (C : ExcC X.K D) (hz : Zc (.ref D) d oe) (hf : ∃ vs, oe.data = .fields vs) : CallR (X.suite a ((a, oe) :: pn)) (.builtin "isinstance") (rIsD X.K D a d) := by
  intro pins s σ H xs us Q I r h
  obtain ⟨c, cv, b, rfl, hcv, e, hdd, q⟩ := h
  cases r with
  | cons rx rr =>
    cases rr with
    | cons rt rr =>
      cases rr
      cases rx
      have ec := hcv _ rt
      subst ec
      obtain ⟨hget, _⟩ := I.pin (a, oe) (List.mem_append.mpr (.inl List.mem_cons_self))
      obtain ⟨vs, hv⟩ := hf
      obtain ⟨cd, hcl, _⟩ := PySem.W.any_some C.hd
      have J : ∃ od, PySem.W.InstAt s.heap a oe D od := by
        obtain ⟨oc, od, oda, osl⟩ := oe
        obtain ⟨h1, h2⟩ := hz
        dsimp only at h1 h2 hv
        subst h1 h2 hv
        cases od with
        | none => exact ⟨none, hget, rfl, rfl, trivial⟩
        | some dd =>
          obtain ⟨fs, hfs⟩ := hdd dd rfl
          have hx : ObjOk X.prog X.w H s.heap dd (.xd fs) := I.hok dd _ hfs
          obtain ⟨mA, hns, _⟩ := hx
          obtain ⟨o, ho, _⟩ := lookIn_ns hns
          exact ⟨some o, hget, rfl, rfl, ho⟩
      obtain ⟨od, J⟩ := J
      exact PySem.W.kia_one (PySem.W.kitx_exc (by rw [hcl]; rfl) C.hg C.hk C.hs C.ha C.hn C.ht C.hm) I.kIn J e (fun z => nomatch z) fun tk => ⟨.bl b, H, I.kept (t' := tk) fun _ _ z => z, rfl, q⟩
end Ah
end
section
set_option Elab.async false
set_option linter.all false
set_option maxRecDepth 100000
set_option maxHeartbeats 2000000
namespace Ah
open PySem PySem.Spec PyProof.Rows L2
open GxR (TabB TabG Tabbed)
open GxG EnT
/-! ### check_text, of what is no text too -/
/-- .. of what is tracked -/
def RowT (H : Hp) (v : V) (b : Bool) : Prop := (((∃ z, v = .str z) ∨ v = .non ∨ (∃ i, v = .int i) ∨ ∃ a xs, v = .ref a ∧ H a = some (.lst xs)) ∧ b = false) ∨ ∃ a xs, v = .ref a ∧ H a = some (.tup xs) ∧ xs.length ≤ 1000 ∧ (∀ x ∈ xs, PlainV H x) ∧ b = isRowL xs
theorem RowT.row {K : PySem.W.Frag} {H : Hp} {v : V} {b : Bool} (h : RowT H v b) : RowV K H v b := by
  rcases h with h | ⟨a, xs, e, h, q⟩
  · exact .inl h
  · exact .inr ⟨a, xs, e, .inl (.of h), q⟩
theorem rowT_uniq {H : Hp} {v : V} {a b : Bool} (h : RowT H v a) (h' : RowT H v b) : a = b := by
  rcases h with ⟨h, rfl⟩ | ⟨p, xs, rfl, hx, _, _, rfl⟩
  · rcases h' with ⟨_, rfl⟩ | ⟨p, xs, rfl, hx, _, _, rfl⟩
    · rfl
    · rcases h with ⟨z, e⟩ | e | ⟨i, e⟩ | ⟨q, ys, e, hl⟩
      · cases e
      · cases e
      · cases e
      · cases e
        rw [hx] at hl
        cases hl
  · rcases h' with ⟨h, rfl⟩ | ⟨q, ys, e, hy, _, _, rfl⟩
    · rcases h with ⟨z, e⟩ | e | ⟨i, e⟩ | ⟨q, ys, e, hl⟩
      · cases e
      · cases e
      · cases e
      · cases e
        rw [hx] at hl
        cases hl
    · cases e
      rw [hx] at hy
      cases hy
      rfl
/-- a text's rows: the j-th is the first that is none (or one too many) -/
structure BadL (H : Hp) (rs : List V) (j : Nat) : Prop where
  ahead : ∀ (i : Nat) v, i < j → rs[i]? = some v → RowT H v true
  le : j ≤ 24
  at_ : (∃ v, rs[j]? = some v ∧ (j = 24 ∨ RowT H v false))
/-- what is no text: the number that is told of it -/
def BadT (H : Hp) (v : V) (j : Nat) : Prop := ((v = .non ∨ (∃ z, v = .str z) ∨ ∃ a xs, v = .ref a ∧ H a = some (.lst xs)) ∧ j = 0) ∨ ∃ a rs, v = .ref a ∧ H a = some (.tup rs) ∧ BadL H rs j
def wRow (E : XK) (C : Addr) (T : List Addr) (H : Hp) (j : Nat) : Prop := ∀ H' d, Kp T H H' → H' d = none → E (.ref C) (some d) (upd H' d (.xd [("number", .int (j : Int))]))
def spCheckX (K : PySem.W.Frag) (T : List Addr) (C : Addr) : Sp := fun vs H Q E => ∃ v : V, vs = [v] ∧ (∀ P ∈ T, TabG H P) ∧
  ((∃ (a : Addr) (rs : List V), v = .ref a ∧ H a = some (.tup rs) ∧ rs.length ≤ 24 ∧ (∀ r ∈ rs, RowT H r true) ∧ ∀ H', Kp T H H' → Q .non H') ∨ ∃ j, BadT H v j ∧ wRow E C T H j)
section
variable {P : Program} {w : World} {K : PySem.W.Frag} {mg : Str → Option Value} {base : Heap} {f fR fI C : Addr} {fd fdR fdI : FuncData} {T : List Addr} {psI : List Str}
theorem ok_checkX (F : FnP K "check_text" sCheck f fd) (W : TW K mg) (hm : ∃ t, mg "MOST_ROWS" = some (.int 24 t)) (gR : mg "is_row" = some (.ref fR)) (FR : FnOk P w K mg base CX0 5 fR fdR ["row"] (spRow K T))
    (kR : PySem.W.keepIn K (.ref fR) = true) (bR : Binds K fdR ["row"] []) (R : One K C fI "number") (FI : FnOk P w K mg base (L2.CX P w) 1 fI fdI psI (spErr1 C "number")) (bI : Binds K fdI psI []) (gB : mg "BadRow" = some (.ref C)) : FnOk P w K mg base (L2.CX P w) 6 f fd ["rows"] (spCheckX K T C) := by
  refine F.ok scC (fun vs H Q E h => ?_) (fun cdv A outer s H vs Q E hr h => ?_)
  · obtain ⟨v, rfl, _⟩ := h
    rfl
  · obtain ⟨v, rfl, ht, h⟩ := h
    obtain ⟨mt, hm⟩ := hm
    have kp0 : Kp T H H := ⟨ht, fun _ _ e _ => e⟩
    refine ⟨_, pss_cons (ps_if (pt_not (pt_val (pe_callB call_isi (by rfl) W.isi (by decide +kernel) (pa_cons (pv 0) (pa_cons (pe_bltn (v := .ty "tuple") (by rfl) W.tup (by decide +kernel) rfl) pa_nil)))))
        (pss_one (ps_raise1 rfl (takes_of rfl rfl rfl rfl) R FI (hr.mono (by decide)) bI (by rfl) gB pe_int)) pss_nil)
      (pss_one (ps_for (passes_of rfl) rfl (pi_enumT (by rfl) W.enu (pa_cons (pv 0) pa_nil)) (pg_tup rfl (pgs_cons (pg_name (i := 1) scC.nd rfl (.inl rfl)) (pgs_cons (pg_name (i := 2) scC.nd rfl (.inl rfl)) pgs_nil)))
        (pss_one (ps_if (PW.pt (pw_or (pt_cmpR op_eq (pv 1) (pe_glob (v := .int 24) (by rfl) hm ⟨_, rfl⟩) (nomark _)) (pw_or1 (pt_not (pt_val (pe_call FR hr (by rfl) gR kR bR .nil pass0 (pa_cons (pv 2) pa_nil)))))))
          (pss_one (ps_raise1 rfl (takes_of rfl rfl rfl rfl) R FI (hr.mono (by decide)) bI (by rfl) gB (pv 1))) pss_nil)))), ?_⟩
    have split : ((v = .non ∨ (∃ z, v = .str z) ∨ ∃ a xs, v = .ref a ∧ H a = some (.lst xs)) ∧ wRow E C T H 0) ∨ ∃ a rs, v = .ref a ∧ H a = some (.tup rs) ∧ ((rs.length ≤ 24 ∧ (∀ r ∈ rs, RowT H r true) ∧ ∀ H', Kp T H H' → Q .non H') ∨ ∃ j, BadL H rs j ∧ wRow E C T H j) := by
      rcases h with ⟨a, rs, e, ha, h1, h2, h3⟩ | ⟨j, ⟨hn, rfl⟩ | ⟨a, rs, e, ha, hb⟩, hw⟩
      · exact .inr ⟨a, rs, e, ha, .inl ⟨h1, h2, h3⟩⟩
      · exact .inl ⟨hn, hw⟩
      · exact .inr ⟨a, rs, e, ha, .inr ⟨j, hb, hw⟩⟩
    clear h
    rcases split with ⟨hn, hw⟩ | ⟨a, rs, rfl, ha, hc⟩
    · rcases hn with rfl | ⟨z, rfl⟩ | ⟨a, xs, rfl, e⟩
      · exact ⟨_, rfl, _, _, _, _, false, rfl, ClsV.ty _, TyX.base .non, kit_ty (by decide +kernel), false, rfl, iteT (one_q fun d hd => hw H d kp0 hd)⟩
      · exact ⟨_, rfl, _, _, _, _, false, rfl, ClsV.ty _, TyX.base (.str z), kit_ty (by decide +kernel), false, rfl, iteT (one_q fun d hd => hw H d kp0 hd)⟩
      · exact ⟨_, rfl, _, _, _, _, false, rfl, ClsV.ty _, TyX.base (.lst e), kit_ty (by decide +kernel), false, rfl, iteT (one_q fun d hd => hw H d kp0 hd)⟩
    · refine ⟨_, rfl, _, _, _, _, true, rfl, ClsV.ty _, TyX.base (.tup ha), kit_ty (by decide +kernel), true, rfl, ?_⟩
      refine iteF ?_
      refine ⟨_, rfl, a, rs, rfl, .inl (.of ha), for_it (walk_enumT (K := K) (a := a) (xs := rs)) (fun i σ H' => (∃ v1 v2, σ = [some (.ref a), v1, v2]) ∧ Kp T H H' ∧ ∀ j, BadL H rs j → i ≤ j) ⟨⟨_, _, rfl⟩, kp0, fun j _ => Nat.zero_le _⟩ (fun i σ H' _ pv => .inl (.of (pv.2.1.obj ht ha))) ?_ ?_⟩
      · rintro i x σ Ha Hb hi ⟨⟨v1, v2, rfl⟩, kp, hbj⟩ ⟨Tp, x1, x2, rfl, nT, rfl, e1, e2⟩
        cases e1
        have e2 : rs[i]? = some x2 := e2
        have kp1 : Kp T H (L2.upd Ha Tp (.tup [.int (i : Nat), x2])) := kp.upd nT
        refine ⟨Tp, _, rfl, .inl (.of upd_same), rfl, ?_⟩
        refine ⟨_, _, rfl, _, _, rfl, rfl, ?_⟩
        refine ⟨_, rfl, rfl, _, rfl, ?_⟩
        have row : ∀ b, RowT H x2 b → RowV K (L2.upd Ha Tp (.tup [.int (i : Nat), x2])) x2 b := fun b r => r.row.kp ht kp1
        by_cases h24 : i = 24
        · -- one too many
          have e24 : decide (V.int ((i : Nat) : Int) = V.int 24) = true := decide_eq_true (by rw [h24]; rfl)
          rw [e24]
          rcases hc with ⟨h1, _⟩ | ⟨j, hb, hw⟩
          · have := (List.getElem?_eq_some_iff.mp e2).1
            omega
          · have ej : j = i := by
              have := hbj j hb
              have := hb.le
              omega
            subst ej
            exact iteT ⟨_, rfl, one_q fun d hd => hw _ d kp1 hd⟩
        · have e24 : decide (V.int ((i : Nat) : Int) = V.int 24) = false := decide_eq_false fun e => h24 (by have := V.int.inj e; omega)
          rw [e24]
          refine iteF ⟨_, rfl, ?_⟩
          rcases hc with ⟨h1, h2, h3⟩ | ⟨j, hb, hw⟩
          · refine ⟨_, true, rfl, row _ (h2 x2 (List.mem_of_getElem? e2)), kp1.tab, fun H2 k2 => ⟨_, rfl, iteF ⟨⟨_, _, rfl⟩, kp1.trans k2, fun j hb => ?_⟩⟩⟩
            obtain ⟨v, hv, hz⟩ := hb.at_
            have lt := (List.getElem?_eq_some_iff.mp hv).1
            rcases hz with hz | hz
            · omega
            · exact absurd (rowT_uniq hz (h2 v (List.mem_of_getElem? hv))) (by decide)
          · by_cases ej : i = j
            · obtain ⟨v, hv, hz⟩ := hb.at_
              rw [← ej, e2] at hv
              cases hv
              rcases hz with hz | hz
              · omega
              · refine ⟨_, false, rfl, row _ hz, kp1.tab, fun H2 k2 => ⟨_, rfl, iteT ⟨_, rfl, one_q fun d hd => ?_⟩⟩⟩
                rw [ej]
                exact hw _ d (kp1.trans k2) hd
            · have lt : i < j := by
                have := hbj j hb
                omega
              refine ⟨_, true, rfl, row _ (hb.ahead i x2 lt e2), kp1.tab, fun H2 k2 => ⟨_, rfl, iteF ⟨⟨_, _, rfl⟩, kp1.trans k2, fun j2 hb2 => ?_⟩⟩⟩
              have := hbj j2 hb2
              by_cases e : i = j2
              · obtain ⟨v, hv, hz⟩ := hb2.at_
                rw [← e, e2] at hv
                cases hv
                rcases hz with hz | hz
                · omega
                · exact absurd (rowT_uniq hz (hb.ahead i _ lt e2)) (by decide)
              · omega
      · rintro σ H' ⟨_, kp, hbj⟩
        rcases hc with ⟨h1, h2, h3⟩ | ⟨j, hb, hw⟩
        · exact h3 H' kp
        · obtain ⟨v, hv, _⟩ := hb.at_
          have lt := (List.getElem?_eq_some_iff.mp hv).1
          have := hbj j hb
          omega
end
end Ah
end
section
set_option Elab.async false
set_option linter.all false
set_option maxRecDepth 100000
set_option maxHeartbeats 2000000
namespace Ah
open PySem PySem.Spec PyProof.Rows L2
open GxR (TabB TabG Tabbed)
open GxG
/-! ### numbers of rows -/
/-- whether it is a number from 0 to below m -/
def isNumL (m : Int) : V → Bool
  | .int i => decide (0 ≤ i) && decide (i < m)
  | _ => false
def NumV (v : V) : Prop := (∃ i, v = .int i) ∨ v = .non ∨ (∃ b, v = .bl b) ∨ ∃ z, v = .str z
def spNum : Sp := fun vs H Q _ => ∃ (v : V) (m : Int), vs = [v, .int m] ∧ NumV v ∧ Q (.bl (isNumL m v)) H
theorem scNum : FnScope ["number", "many"] ["number", "many"] (defScope sIsNumber) := ⟨rfl, rfl, rfl, by decide +kernel, rfl, by decide +kernel, by decide +kernel⟩
section
variable {P : Program} {w : World} {K : PySem.W.Frag} {mg : Str → Option Value} {base : Heap} {f fN C : Addr} {fd fdN : FuncData}
theorem ok_isnum (F : FnP K "is_number" sIsNumber f fd) (hi : mg "isinstance" = none) (hI : mg "int" = none) (hB : mg "bool" = none) : FnOk P w K mg base CX0 1 f fd ["number", "many"] spNum := by
  refine F.ok scNum (fun vs H Q E h => ?_) (fun cdv A outer s H vs Q E hr h => ?_)
  · obtain ⟨v, m, rfl, _⟩ := h
    rfl
  · obtain ⟨v, m, rfl, hv, k⟩ := h
    refine ⟨_, PSs.nox (pss_one (ps_ret (pe_and (pe_callB call_isi (by rfl) hi (by decide +kernel) (pa_cons (pv 0) (pa_cons (pe_bltn (v := .ty "int") (by rfl) hI (by decide +kernel) rfl) pa_nil)))
      (pe_and (pe_not (pe_callB call_isi (by rfl) hi (by decide +kernel) (pa_cons (pv 0) (pa_cons (pe_bltn (v := .ty "bool") (by rfl) hB (by decide +kernel) rfl) pa_nil))))
        (pe_one (pe_chain op_le op_lt pe_int (pv 0) (pv 1))))))), ?_⟩
    rcases hv with ⟨i, rfl⟩ | rfl | ⟨b, rfl⟩ | ⟨z, rfl⟩
    · refine ⟨_, rfl, _, _, _, _, true, rfl, ClsV.ty _, TyX.base (.int i), kit_ty (by decide +kernel), true, rfl, ?_⟩
      refine iteT ⟨_, rfl, _, _, _, _, false, rfl, ClsV.ty _, TyX.base (.int i), kit_ty (by decide +kernel), false, rfl, ?_⟩
      refine ⟨true, rfl, iteT ⟨_, rfl, 0, i, rfl, rfl, decide (0 ≤ i), rfl, ?_⟩⟩
      have k2 : Q (.bl (decide (0 ≤ i) && decide (i < m))) H := k
      cases h0 : decide (0 ≤ i) with
      | false =>
        rw [h0] at k2
        exact iteF k2
      | true =>
        rw [h0] at k2
        exact iteT ⟨_, rfl, i, m, rfl, rfl, k2⟩
    · exact ⟨_, rfl, _, _, _, _, false, rfl, ClsV.ty _, TyX.base .non, kit_ty (by decide +kernel), false, rfl, iteF k⟩
    · refine ⟨_, rfl, _, _, _, _, true, rfl, ClsV.ty _, TyX.base (.bl b), kit_ty (by decide +kernel), true, rfl, ?_⟩
      refine iteT ⟨_, rfl, _, _, _, _, true, rfl, ClsV.ty _, TyX.base (.bl b), kit_ty (by decide +kernel), true, rfl, ?_⟩
      exact ⟨false, rfl, iteF k⟩
    · exact ⟨_, rfl, _, _, _, _, false, rfl, ClsV.ty _, TyX.base (.str z), kit_ty (by decide +kernel), false, rfl, iteF k⟩
end
end Ah
end
section
set_option Elab.async false
set_option linter.all false
set_option maxRecDepth 100000
set_option maxHeartbeats 2000000
namespace Ah
open PySem PySem.Spec PyProof.Rows L2
open GxR (TabB TabG Tabbed)
/-! ### sayings -/
def saidL : List V → Bool
  | V.str h :: _ => inV (V.str h) [.str "is", .str "has"]
  | _ => false
/-- whether it is a saying -/
def SayT (H : Hp) (v : V) (b : Bool) : Prop := (RowT H v false ∧ b = false) ∨ ∃ a xs, v = .ref a ∧ H a = some (.tup xs) ∧ RowT H v true ∧ isRowL xs = true ∧ b = saidL xs
def spIsS (T : List Addr) : Sp := fun vs H Q _ => ∃ (v : V) (b : Bool), vs = [v] ∧ SayT H v b ∧ (∀ P ∈ T, TabG H P) ∧ ∀ H', Kp T H H' → Q (.bl b) H'
theorem scIsS : FnScope ["row"] ["row"] (defScope sIsSaying) := ⟨rfl, rfl, rfl, by decide +kernel, rfl, by decide +kernel, by decide +kernel⟩
theorem row_head {xs : List V} (h : isRowL xs = true) : ∃ hd rest, xs = V.str hd :: rest := by
  match xs, h with
  | .str hd :: rest, _ => exact ⟨hd, rest, rfl⟩
section
variable {P : Program} {w : World} {K : PySem.W.Frag} {mg : Str → Option Value} {base : Heap} {f fR C : Addr} {fd fdR : FuncData} {T : List Addr}
theorem ok_isS (F : FnP K "is_saying" sIsSaying f fd) (gR : mg "is_row" = some (.ref fR)) (FR : FnOk P w K mg base CX0 5 fR fdR ["row"] (spRow K T)) (kR : PySem.W.keepIn K (.ref fR) = true) (bR : Binds K fdR ["row"] []) : FnOk P w K mg base CX0 6 f fd ["row"] (spIsS T) := by
  refine F.ok scIsS (fun vs H Q E h => ?_) (fun cdv A outer s H vs Q E hr h => ?_)
  · obtain ⟨v, b, rfl, _⟩ := h
    rfl
  · obtain ⟨v, b, rfl, hv, ht, k⟩ := h
    refine ⟨_, PSs.nox (pss_one (ps_ret (pe_and (pe_call FR hr (by rfl) gR kR bR .nil pass0 (pa_cons (pv 0) pa_nil)) (pe_one (pe_cmpR (show OpR _ _ (rIn K false) from op_in_seq) (pe_ix (show IxR _ (rIxT K) from ix_tup) (pv 0) pe_int (fun _ _ => rfl)) (pe_tup (pa_cons pe_str (pa_cons pe_str pa_nil))) (by rfl)))))), ?_⟩
    rcases hv with ⟨hr0, rfl⟩ | ⟨a, xs, rfl, ha, hr1, hrow, rfl⟩
    · exact ⟨_, rfl, _, false, rfl, hr0.row, ht, fun H1 k1 => ⟨false, rfl, iteF (k _ k1)⟩⟩
    · obtain ⟨hd, rest, rfl⟩ := row_head hrow
      refine ⟨_, rfl, _, true, rfl, hr1.row, ht, fun H1 k1 => ⟨true, rfl, iteT ?_⟩⟩
      have ha1 : SqT K H1 a (V.str hd :: rest) := SqT.of (k1.obj ht ha)
      refine ⟨_, rfl, a, _, 0, _, rfl, rfl, ha1, at_of (j := 0) rfl rfl, (by show 2 ≤ sizeLine; decide), fun Tp nT => ⟨Tp, _, rfl, .inr (.inl (.of upd_same)), rfl, rfl, ?_⟩⟩
      simp only [Bool.false_eq_true, if_false]
      exact k _ (k1.upd nT)
end
end Ah
end
section
set_option Elab.async false
set_option linter.all false
set_option maxRecDepth 100000
set_option maxHeartbeats 2000000
/-! all(elt for x in iter) where elt also looks at names of the def: the generator closes over them. -/
namespace GxC
open PySem PySem.Spec PyProof.Rows L2 GenW
open GxR (TabB TabG Tabbed inv_tab sh_eta)
open GxG (over_gen over_gen0 inv_same)
abbrev clG (X : Cx) (scope : Scope) : List (Str × Addr) := cloFrom X.env.cells scope.names []
/-- the generator expression's own scope: one name of its own, no cells; it closes over ys, that stand at js -/
structure GenC (X : Cx) (scope : Scope) (x : Str) (ys : List Str) (js : List Nat) : Prop where
  kind : scope.kind = .function
  co : scope.isCoroutine = false
  noc : ∀ y ∈ scope.names, y.2 ≠ .cell
  fr : ∀ y ∈ scope.names, y.2 = .free → X.env.scope.names.lookup y.1 = some .cell ∨ X.env.scope.names.lookup y.1 = some .free
  dot : scope.names.lookup (".0" : Str) = some NameKind.local
  loc : scope.names.lookup x = some .local
  cap : ∀ (i : Nat) (y : Str), ys[i]? = some y → scope.names.lookup y = some .free ∧ ∃ j, js[i]? = some j ∧ X.N[j]? = some y
  len : js.length = ys.length
/-- the slots of the generator: its own name's, those that it closes over -/
def slG (σ : L2.St) (js : List Nat) : L2.St := none :: js.map fun j => (σ[j]?).getD none
/-- the generator has been made: the state sB ahead of its frame, and s5 behind it -/
structure Made (X : Cx) (pins : List (Addr × Obj)) (σ : L2.St) (P : Addr) (H1 H2 : Hp) (tg : Expr) (c0 : Expr) (scope : Scope) (J : It) (it : Addr) (fp : List Addr) (tn : Nat → Heap → Prop) (code : Value) (sB s5 : Shared) : Prop where
  tab : Tabbed P H1 H2
  inv : Inv X pins σ H2 sB
  turn : Turn X.prog X.w X.K tg J fp it tn
  tn0 : tn 0 sB.heap
  fpo : ∀ b ∈ fp, FpOk X pins H2 b ∧ b < sB.heap.objs.size
  os : s5.os = sB.os
  bare : AllBare s5.gens
  keep : ∀ b o, sB.heap.get? b = some o → s5.heap.get? b = some o
  ns : s5.heap.Ns sB.heap.objs.size (fun y => if y = (".0" : Str) then some (.ref it) else none)
  gen : ∃ go nm qn, s5.heap.get? (sB.heap.objs.size + 1) = some go ∧ go.cls = .type "generator" ∧ go.data = .fields #[.int sB.gens.size 0, nm, qn] ∧ go.slots = #[]
  gs : s5.gens[sB.gens.size]? = some (.fresh (.compStart c0 0 (.ref it) .none (genEnv scope (clG X scope) sB.heap.objs.size code builtinsNs X.env)))

section
variable {X : Cx} {pins : List (Addr × Obj)} {σ : L2.St} {H : Hp} {s : Shared}
theorem gen_it {c P : Addr} {elt iter tg : Expr} {x : Str} {ys : List Str} {js : List Nat} {gpos : Pos} {scope : Scope} {wi : TI} {k : Nat} {Q' : Value → Shared → Prop} {R : It → Hp → Prop}
    (hr : Room k X.A) (TB : TabB X.base X.mg c P) (hcode : X.env.code = .ref c) (S : GenC X scope x ys js) (hi : PI X tg iter wi)
    (hs : ∀ v, genFold iter X.env v = pure v) (I : Inv X pins σ H s) (h : wi σ H fun J H1 => TabG H1 P ∧ R J H1)
    (hQ : ∀ J H1 H2 it fp tn code sB s5, R J H1 → Made X pins σ P H1 H2 tg (.GeneratorExp elt [⟨tg, iter, [], 0⟩] scope gpos) scope J it fp tn code sB s5 → Q' (.ref (sB.heap.objs.size + 1)) s5) :
    wpAny (model X.prog X.w) X.A (eval (.GeneratorExp elt [⟨tg, iter, [], 0⟩] scope gpos) X.env) Q' X.xe s := by
  refine wpAny_GeneratorExp_make (cl := clG X scope) S.co (closure_ok fun y hy e => I.ok.has y.1 (S.fr y hy e)) S.noc S.dot S.kind (by have := hr.dp; omega) ?_ hs
  refine thn (hi.run pins s σ H _ I h) fun xv s1 h1 => thn h1 fun itv s2 h2 => ?_
  obtain ⟨it, fp, tn, J, H1, rfl, I1, T, st1, f1, ⟨ps, hP, ht⟩, hR⟩ := h2
  have hPs : s2.heap.get? P = some { cls := .none, data := .fields ps } := I1.hok P _ hP
  have cd : PySem.W.CodeHd s2.heap c P := TB.code.keeps fun b u e => I1.bk b u e
  refine ⟨I1.nolimit, ?_⟩
  have fpl : ∀ b ∈ fp, b < s2.heap.objs.size := fun b hb => let ⟨o, e, _⟩ := T.obj _ _ st1 b hb; Heap.lt_size e
  have fpP : ∀ b ∈ fp, b ≠ P := fun b hb z => by
    have := (f1 b hb).1
    rw [z, hP] at this
    cases this
  have cont : ∀ (code : Value) (h3 : Heap) (tk : Nat) (more : Array Value), Heap.ExtBut P s2.heap h3 → s2.heap.objs.size ≤ h3.objs.size → h3.get? P = some { cls := .none, data := .fields (ps ++ more) } → TriplesOk (ps ++ more).toList →
      wpAny (model X.prog X.w) X.A (builtinsFor X.env.globals X.env.builtins) (fun bi s₄ => ∀ h', h'.Ns s₄.heap.objs.size (fun y => if y = (".0" : Str) then some (.ref it) else none) → Heap.SameBut s₄.heap.objs.size (s₄.heap.push { cls := .type "frame", data := .dict #[] }) h' →
          Q' (.ref h'.objs.size) { s₄ with
            gens := s₄.gens.push (.fresh (.compStart (.GeneratorExp elt [⟨tg, iter, [], 0⟩] scope gpos) 0 (.ref it) .none (genEnv scope (clG X scope) s₄.heap.objs.size code bi X.env))),
            toks := s₄.toks + 1 + 1 + 1,
            heap := h'.push { cls := .type "generator", data := .fields #[.int s₄.gens.size 0, .str "<genexpr>" (s₄.toks + 1), .str (X.env.qual ++ "<genexpr>") (s₄.toks + 1 + 1)] } }) X.xe { s2 with heap := h3, toks := tk } := by
    intro code h3 tk more hx hsz hP3 ht3
    obtain ⟨bm, ob, e1, e2, e3, e4, e5, e6, e7, e8⟩ := TB.bm
    refine wpAny_builtinsFor (m := X.mg) (by rw [I1.ok.glob]; exact (I1.mod.glob.keeps I1.bk).extBut hx TB.gP) e1 e2 (hx _ _ e4 (I1.bk _ _ e5)) e6 e7 e8 ?_
    intro h' hn' hs'
    have J3 : Inv X pins σ (upd H1 P (.tbl (ps ++ more))) { s2 with heap := h3, toks := tk } :=
      inv_tab (more := more) (h' := h3) (g' := s2.gens) (d' := s2.drawn) (t' := tk) I1 hP (fun b u hb e => hx b u hb e) hP3 I1.bare
    have hsz' : h'.objs.size = h3.objs.size + 1 := by rw [hs'.1, Heap.size_push]
    have keep' : ∀ b o, h3.get? b = some o → h'.get? b = some o := fun b o e => hs'.extBut b o (Nat.ne_of_lt (Heap.lt_size e)) (Heap.get?_push_of_some _ e)
    have e9 : Value.ref h'.objs.size = Value.ref (h3.objs.size + 1) := by rw [hsz']
    rw [e9]
    refine hQ J H1 (upd H1 P (.tbl (ps ++ more))) it fp tn code { s2 with heap := h3, toks := tk } _ hR
      ⟨⟨⟨_, upd_same, ht3⟩, fun b hb => upd_ne hb⟩, J3, T, T.keep _ _ _ st1 fun b hb o e => hx b o (fpP b hb) e, fun b hb => ⟨?_, Nat.lt_of_lt_of_le (fpl b hb) hsz⟩, rfl, I1.bare.push rfl, fun b o e => Heap.get?_push_of_some _ (keep' b o e), hn'.push _, ?_, Array.getElem?_push_size ..⟩
    · obtain ⟨q0, q1⟩ := f1 b hb
      exact ⟨by rw [upd_ne (fpP b hb)]; exact q0, q1⟩
    · have hg := Heap.get?_push_size (h := h') (o := { cls := .type "generator", data := .fields #[.int s2.gens.size 0, .str "<genexpr>" (tk + 1), .str (X.env.qual ++ "<genexpr>") (tk + 1 + 1)] }) rfl
      rw [hsz'] at hg
      exact ⟨_, _, _, hg, rfl, rfl, rfl⟩
  cases hf : codeAmong gpos ps.toList with
  | none =>
    refine wpAny_genexprCodeX hcode (cd.code hPs ht) (cd.tab hPs) hf fun c' h' tk hx hge hlt hco' _ htab' _ => ?_
    obtain ⟨o1, vs, f1', tf, fl, tg', inF, tx, tt, op, _, _, _, _, _, _, _, _, _, htr, _⟩ := hco'
    exact cont _ h' tk _ hx (Nat.le_trans hge (Nat.le_of_lt hlt)) htab'.2 htr
  | some cv =>
    refine wpAny_genexprCode_hit hcode (cd.code hPs ht) hf ?_
    have e0 : ps ++ (#[] : Array Value) = ps := by simp
    exact cont cv s2.heap s2.toks #[] (Heap.ExtBut.refl _ _) (Nat.le_refl _) (by rw [e0]; exact hPs) (by rw [e0]; exact ht)
end
abbrev gEnv (X : Cx) (sB : Shared) (scope : Scope) (code : Value) : Env := genEnv scope (clG X scope) sB.heap.objs.size code builtinsNs X.env
/-- the generator's block -/
def gcx (X : Cx) (A : Around) (sB : Shared) (H : Hp) (x : Str) (ys : List Str) (scope : Scope) (code : Value) (fp : List Addr) (pn : List (Addr × Obj)) : Cx :=
  { X with A := A.deeper (gEnv X sB scope code), N := x :: ys, s_0 := sB, H_0 := H, env := gEnv X sB scope code, outer := X.stack, stack := gEnv X sB scope code :: X.stack, ex := fp, fn := fun _ => false, calm := true, pn := pn, xe := fun _ _ => False }
section
variable {X : Cx} {pins : List (Addr × Obj)} {σ : L2.St} {P : Addr} {H1 H2 : Hp} {tg c0 : Expr} {scope : Scope} {J : It} {it : Addr} {fp : List Addr} {tn : Nat → Heap → Prop} {code : Value} {sB s5 : Shared} {A : Around} {x : Str} {ys : List Str} {js : List Nat} {pn : List (Addr × Obj)}
theorem gcx_ok (M : Made X pins σ P H1 H2 tg c0 scope J it fp tn code sB s5) (S : GenC X scope x ys js) (hA : A.frames = some X.stack) (hh : A.handled = none) : (gcx X A sB H2 x ys scope code fp pn).Ok := by
  have I := M.inv
  have cm : ∀ {y : Str} {c : Addr}, (clG X scope).lookup y = some c → X.env.cells.lookup y = some c := fun {y c} e => by
    rcases cloFrom_mem (PySem.mem_of_lookup e) with hm | ⟨h1, h2⟩
    · cases hm
    · obtain ⟨c1, hc⟩ := I.ok.has y (S.fr _ h1 rfl)
      rw [hc] at h2
      rw [h2]
      exact hc
  refine ⟨I.ok.mod, S.kind, I.ok.glob, rfl, Nat.le_refl _, fun y z c e1 e2 => I.ok.inj y z c (cm e1) (cm e2), fun y hy => ?_, fun y c z _ => absurd (show false = true from z) Bool.false_ne_true, fun _ => hh, ?_, .inr ⟨rfl, rfl⟩, fun b hb => ⟨Nat.ne_of_lt (M.fpo b hb).2, fun y c e => (M.fpo b hb).1.2.2.2.2.1 y c (cm e)⟩, I.bs, Nat.le_trans I.ok.bsz I.sz, fun b o e hb => ?_, fun b hb z => ?_, I.stack, I.stkFree⟩
  · rcases hy with hy | hy
    · exact absurd rfl (S.noc _ (PySem.mem_of_lookup hy))
    · exact mem_lookup (cloFrom_has (cells := X.env.cells) (acc := []) (PySem.mem_of_lookup hy))
  · show (A.frames.map _) = some (gEnv X sB scope code :: X.stack)
    rw [hA] <;> rfl
  · rcases (M.fpo b hb).1.2.2.2.1 with z | z
    · exact I.ok.noex b o e z
    · exact absurd (Nat.lt_of_lt_of_le (Heap.lt_size e) (Nat.le_trans I.ok.bsz z)) (Nat.lt_irrefl _)
  · rcases List.mem_cons.mp (I.stkSub b z) with z | z
    · exact (M.fpo b hb).1.2.1 z
    · exact (M.fpo b hb).1.2.2.1 z
theorem inv_gen {go : Obj} {nm qn : Value} (M : Made X pins σ P H1 H2 tg c0 scope J it fp tn code sB s5) (S : GenC X scope x ys js) (hA : A.frames = some X.stack) (hh : A.handled = none)
    (hg : s5.heap.get? (sB.heap.objs.size + 1) = some go) (hd : go.data = .fields #[.int sB.gens.size 0, nm, qn]) : Inv (gcx X A sB H2 x ys scope code fp [(sB.heap.objs.size + 1, go)]) [] (slG σ js) H2 s5 := by
  have I := M.inv
  have cm : ∀ {y : Str} {c : Addr}, (clG X scope).lookup y = some c → X.env.cells.lookup y = some c := fun {y c} e => by
    rcases cloFrom_mem (PySem.mem_of_lookup e) with hm | ⟨h1, h2⟩
    · cases hm
    · obtain ⟨c1, hc⟩ := I.ok.has y (S.fr _ h1 rfl)
      rw [hc] at h2
      rw [h2]
      exact hc
  have cellK : ∀ {c : Addr} {v : Option Value}, sB.heap.IsCell c v → s5.heap.IsCell c v := fun {c v} ⟨o, e, hd⟩ => ⟨o, M.keep _ _ e, hd⟩
  refine ⟨gcx_ok M S hA hh, M.os, M.bare, Un.kept M.keep, ⟨_, M.ns, fun i y v e1 e2 e3 => ?_⟩, fun y c e => ?_, I.hok.fresh (Nat.le_refl _), fun y c e => I.freeC y c (cm e), fun p hp => ?_, I.hok.kept M.keep, ?_⟩
  · cases i with
    | zero => cases e2
    | succ i =>
      have e1 : ys[i]? = some y := e1
      have e2 : (js.map fun j => (σ[j]?).getD none)[i]? = some (some v) := e2
      obtain ⟨hfree, j, hj, hN⟩ := S.cap i y e1
      rw [List.getElem?_map, hj] at e2
      have e4 : (σ[j]?).getD none = some v := Option.some.inj e2
      have e5 : σ[j]? = some (some v) := by
        cases q : σ[j]? with
        | none => rw [q] at e4; cases e4
        | some o => rw [q] at e4; exact congrArg some e4
      have hk := S.fr _ (PySem.mem_of_lookup hfree) rfl
      obtain ⟨m, hn, hl⟩ := I.loc
      obtain ⟨u, r, lk⟩ := hl j y v hN e5 (.inr hk)
      obtain ⟨c2, h2⟩ : ∃ c, (clG X scope).lookup y = some c := mem_lookup (cloFrom_has (cells := X.env.cells) (acc := []) (PySem.mem_of_lookup hfree))
      refine ⟨u, r, .inr ⟨.inr hfree, c2, h2, ?_⟩⟩
      rcases lk with ⟨k, _⟩ | ⟨_, c3, e', z⟩
      · have k : X.env.scope.names.lookup y = some .local := k
        rcases hk with q | q
        · rw [q] at k; cases k
        · rw [q] at k; cases k
      · rw [cm h2] at e'
        cases e'
        exact cellK z
  · obtain ⟨v, z⟩ := I.cell y c (cm e)
    exact ⟨v, cellK z⟩
  · rcases List.mem_append.mp hp with z | z
    · rw [List.mem_singleton.mp z]
      refine ⟨hg, I.hok.fresh (Nat.le_succ _), Nat.succ_ne_self _, fun hm => ?_, fun v q => by rw [hd] at q; cases q⟩
      have q := I.stkSub _ hm
      rcases List.mem_cons.mp q with z2 | z2
      · have h1 : X.env.locals < sB.heap.objs.size := I.lt
        have h2 : sB.heap.objs.size + 1 = X.env.locals := z2
        rw [← h2] at h1
        exact absurd h1 (Nat.not_lt_of_le (Nat.le_succ _))
      · exact I.nofs (Nat.le_succ _) z2
    · cases z
  · show (js.map _).length + 1 = ys.length + 1
    rw [List.length_map, S.len]
/-- back in the def -/
theorem inv_back {σ' : L2.St} {pins' : List (Addr × Obj)} {H' : Hp} {s' : Shared} (M : Made X pins σ P H1 H2 tg c0 scope J it fp tn code sB s5) (I' : Inv (gcx X A sB H2 x ys scope code fp pn) pins' σ' H' s') : Inv X pins σ H' s' :=
  M.inv.call' (ch := fp) I'.os I'.base I'.hok I'.bare fun b hb => ⟨(M.fpo b hb).1.2.2.2.1, (M.fpo b hb).1.2.1, (M.fpo b hb).1.2.2.2.2.1, (M.fpo b hb).1.2.2.2.2.2⟩
end
/-- what the generator keeps to: the end, an item -/
def GEnd (B : Cx) (σ0 : L2.St) (QT : Hp → Prop) : GenEnd := fun _ _ r s1 => ((r = .ok (.ret .none) ∨ r = .ok .next) ∧ ∃ H', Inv B [] σ0 H' s1 ∧ QT H') ∨ ∃ e, r = .error e ∧ False
def GItem (B : Cx) (QF : Hp → Prop) : Protocol := fun _ _ v s1 kap => ∃ c H' σ' pins', v = .bool c ∧ Inv B pins' σ' H' s1 ∧ (c = false → QF H') ∧ (c = true → ∀ s', s'.heap = s1.heap → s'.os = s1.os → AllBare s'.gens → kap (.send .none) s')
/-- the walk's invariant and its turns -/
def GTurns (σ0 : L2.St) (J : It) (g : TG) (te : TE) (W : Nat → Nat → Hp → Prop) (QT QF : Hp → Prop) : Prop :=
  ∀ i m H, W i m H → (J.stop i H ∧ QT H) ∨ (J.go i H ∧ ∃ Nx : Hp → Prop, (∀ H', Nx H' → ∃ m', m' < m ∧ W (i + 1) m' H') ∧ ∀ y H', J.yld i H y H' → g y σ0 H' fun σ2 H2 => (∀ (j : Nat) (v : V), σ0[j]? = some (some v) → σ2[j]? = some (some v)) ∧ te σ2 H2 fun z H3 => ∃ c, z = .bl c ∧ if c = true then Nx H3 else QF H3)
section
variable {X : Cx} {pins : List (Addr × Obj)} {σ : L2.St} {P : Addr} {H1 H2 : Hp} {elt tg iter : Expr} {scope : Scope} {gpos : Pos} {J : It} {it : Addr} {fp : List Addr} {tn : Nat → Heap → Prop} {code : Value} {sB s5 : Shared} {A : Around} {x : Str} {ys : List Str} {σ0 : L2.St} {pn : List (Addr × Obj)}
theorem seg_loop {g : TG} {te : TE} {W : Nat → Nat → Hp → Prop} {QT QF : Hp → Prop} (hco : scope.isCoroutine = false) (T : Turn X.prog X.w X.K tg J fp it tn)
    (hg : PG (gcx X A sB H2 x ys scope code fp pn) tg g) (he : PE (gcx X A sB H2 x ys scope code fp pn) elt te) (turn : GTurns σ0 J g te W QT QF) :
    ∀ (m n i : Nat) (s₀ s : Shared) (H : Hp), m < n → W i m H → Inv (gcx X A sB H2 x ys scope code fp pn) [] σ0 H s → tn i s.heap → (∀ b ∈ fp, FpOk (gcx X A sB H2 x ys scope code fp pn) [] H b) →
      Seg (model X.prog X.w) A (GEnd (gcx X A sB H2 x ys scope code fp pn) σ0 QT) (GItem (gcx X A sB H2 x ys scope code fp pn) QF) n s₀
        (.compLoop (.GeneratorExp elt [⟨tg, iter, [], 0⟩] scope gpos) 0 (.ref it) .none (gEnv X sB scope code))
        ((model X.prog X.w).den (.compLoop (.GeneratorExp elt [⟨tg, iter, [], 0⟩] scope gpos) 0 (.ref it) .none (gEnv X sB scope code))) [] s := by
  intro m
  induction m using Nat.strongRecOn with
  | ind m ih =>
    intro n i s₀ s H hn hW I hst hfp
    obtain ⟨n, rfl⟩ : ∃ q, n = q + 1 := ⟨n - 1, by omega⟩
    show Seg _ A _ _ _ s₀ _ ((compTurn (.GeneratorExp elt [⟨tg, iter, [], 0⟩] scope gpos) 0 (.ref it) .none (gEnv X sB scope code)).onRaise (leaving (gEnv X sB scope code))) [] s
    rw [compTurn_gen, Sem.onRaise_eq_wrap]
    refine seg_bind_wrap (wpAny_standAt ?_)
    rcases turn i m H hW with ⟨stop, q⟩ | ⟨go, Nx, hNx, step⟩
    · refine seg_bind_wrap ?_
      rw [over_gen]
      refine thnF (T.done (gcx X A sB H2 x ys scope code fp pn) rfl rfl rfl rfl i [] s σ0 H (fun _ _ => False) I hfp hst stop) fun r s1 ⟨hr, I1⟩ => ?_
      subst hr
      exact seg_end (.ok .next) (.inl ⟨.inr rfl, H, I1, q⟩)
    · refine seg_bind_wrap ?_
      rw [over_gen]
      refine thnF (T.item (gcx X A sB H2 x ys scope code fp pn) rfl rfl rfl rfl i [] s σ0 H (fun _ _ => False) I hfp hst go) fun r s1 ⟨u, hr, h1⟩ => ?_
      subst hr
      dsimp only
      refine seg_bind_wrap ?_
      rw [over_gen]
      refine thnF h1 fun _ s2 ⟨y, H', I2, r2, y2, st2, n2⟩ => ?_
      have f2 : ∀ b ∈ fp, FpOk (gcx X A sB H2 x ys scope code fp pn) [] H' b := fun b hb => ⟨n2 b hb, (hfp b hb).2⟩
      have I2' := I2.pinned f2 (T.obj _ _ st2)
      refine seg_bind_wrap ?_
      rw [over_gen]
      refine thnF (hg.run _ s2 _ H' y u _ I2' r2 (step y H' y2)) fun _ s3 ⟨σ3, H3, I3, hk3, q3⟩ => ?_
      simp only [List.forIn_nil]
      refine seg_bind_wrap (wpAny_pure ?_)
      simp only [if_true]
      have hy : ∀ v, yieldOut (gEnv X sB scope code) v = yieldValue v := fun v => by
        have e : (gEnv X sB scope code).scope.isCoroutine = false := hco
        simp only [yieldOut, e, Bool.false_eq_true, if_false]
      simp only [hy]
      rw [Sem.bind_eq_wrap', Sem.bind_eq_wrap', Sem.wrap_wrap, Sem.wrap_wrap]
      refine seg_wrap ?_
      rw [over_gen]
      refine thnF (he.run _ s3 σ3 H3 _ I3 q3) fun v s4 ⟨z, H4, I4, r4, c, ez, q4⟩ => ?_
      subst ez
      cases (show v = Value.bool c from r4)
      refine seg_at (seg_yield rfl rfl rfl ⟨c, H4, _, _, rfl, I4, fun e => ?_, fun e s'' eh eo eb => ?_⟩)
      · subst e
        exact q4
      · subst e
        obtain ⟨m', hm', hW'⟩ := hNx H4 q4
        have pin' : ∀ b ∈ fp, ∀ o, s2.heap.get? b = some o → s4.heap.get? b = some o ∧ H4 b = none := fun b hb o e =>
          let z := I4.pin (b, o) (List.mem_append_right _ (List.mem_append_right _ (mem_pinsAt hb e)))
          ⟨z.1, z.2.1⟩
        have I5 : Inv (gcx X A sB H2 x ys scope code fp pn) [] σ0 H4 s'' := inv_same ((I4.unpinned (pins := [])).weak (by rw [I4.len, I.len]) (fun j v e => hk3 j v e)) eo eb fun b o e => by rw [eh]; exact e
        refine seg_again rfl (ih m' hm' n (i + 1) s'' s'' H4 (by omega) hW' I5 (T.keep _ _ _ st2 fun b hb o e => by rw [eh]; exact (pin' b hb o e).1) fun b hb => ⟨?_, (hfp b hb).2⟩)
        obtain ⟨o, e, _⟩ := T.obj _ _ st2 b hb
        exact (pin' b hb o e).2
end
section
variable {A : Around} {σ0 : L2.St} {R : Result → Shared → Prop} {B : Cx} {QT QF : Hp → Prop} {a : Addr} {g : Nat} {go : Obj} {nm qn : Value}
theorem drain_all (hh : A.handled = none) (hd : A.depth < recursionLimit) (hpn : (a, go) ∈ B.pn) (hgo : go.cls = .type "generator" ∧ go.data = .fields #[.int g 0, nm, qn] ∧ go.slots = #[])
    (hT : ∀ H' s1 s', Inv B [] σ0 H' s1 → QT H' → s'.os = s1.os → AllBare s'.gens → (∀ b o, s1.heap.get? b = some o → s'.heap.get? b = some o) → R (.ok (.ret (.bool true))) s')
    (hF : ∀ H' σ' pins' s1 s', Inv B pins' σ' H' s1 → QF H' → s'.os = s1.os → AllBare s'.gens → (∀ b o, s1.heap.get? b = some o → s'.heap.get? b = some o) → R (.ok (.ret (.bool false))) s') :
    ∀ (n : Nat) (s : Shared), s.heap.IsGen a g → s.heap.NoLimit →
      (∃ gs, s.gens[g]? = some gs ∧ gs.Goes (model B.prog B.w) A.in1.in1 (GEnd B σ0 QT) (GItem B QF) n (.send .none) (s.setGen g .running)) →
      codeAny (model B.prog B.w) A (.builtin "all.loop" ⟨[.ref a], []⟩) R s := by
  have goes : ∀ {gs : GenState} {A' : Around} {n : Nat} {r : Resume} {s : Shared}, gs.Goes (model B.prog B.w) A' (GEnd B σ0 QT) (GItem B QF) n r s →
      gs.Goes (model B.prog B.w) A' (fun n s₀ r s1 => ((r = .ok (.ret .none) ∨ r = .ok .next) ∧ (∃ H', Inv B [] σ0 H' s1 ∧ QT H')) ∨ ∃ e, r = .error e ∧ False) (GItem B QF) n r s := fun h => h
  have isg : ∀ {pins' σ' H' s'}, Inv B pins' σ' H' s' → s'.heap.IsGen a g := fun {pins' σ' H' s'} I =>
    ⟨go, nm, qn, (I.pin (a, go) (List.mem_append_left _ hpn)).1, hgo.1, hgo.2.1, hgo.2.2⟩
  intro n
  induction n with
  | zero =>
    intro s hg hl ⟨gs, hgs, hgo'⟩
    refine codeAny_builtin F.entry_all_loop ?_
    rw [Around.under_plainId F.plain_all_loop _]
    show wpAny _ A.in1 (pyNext (.ref a) >>= _) _ _ s
    refine wpAny_bind (next_genG (A := A.in1) (Er := fun _ _ => False) hh hl hd hg hgs (goes hgo') (fun v s₁ gs' hbare hv => ?_) (fun s₁ hp h' hk => ?_) fun e s₁ he => he.elim)
    · obtain ⟨c, H', σ', pins', rfl, I', q1, q2⟩ := hv
      refine wpAny_bind (wpAny_holding (wpAny_truthy_bool ?_))
      refine wpAny_bind (wpAny_letGo ?_)
      cases c with
      | true => exact False.elim (q2 rfl s₁ rfl rfl I'.bare)
      | false =>
        simp only [Bool.false_eq_true, if_false]
        exact wpAny_bind (wpAny_rule (wpAny_pure (hF H' σ' pins' s₁ _ I' (q1 rfl) rfl (allBare_setGen I'.bare hbare) fun b o e => e)))
    · obtain ⟨H', I', q⟩ := hp
      exact wpAny_bind (wpAny_rule (wpAny_pure (hT H' s₁ _ I' q rfl (allBare_setGen I'.bare rfl) hk)))
  | succ n ih =>
    intro s hg hl ⟨gs, hgs, hgo'⟩
    have hgl : g < s.gens.size := (Array.getElem?_eq_some_iff.mp hgs).1
    refine codeAny_builtin F.entry_all_loop ?_
    rw [Around.under_plainId F.plain_all_loop _]
    show wpAny _ A.in1 (pyNext (.ref a) >>= _) _ _ s
    refine wpAny_bind (wpAny_gsz (n := g + 1) hgl (next_genG (A := A.in1) (Er := fun _ _ => False) hh hl hd hg hgs (goes hgo') (fun v s₁ gs' hbare hv => ?_) (fun s₁ hp h' hk => ?_) fun e s₁ he => he.elim))
    · intro hsz
      obtain ⟨c, H', σ', pins', rfl, I', q1, q2⟩ := hv
      refine wpAny_bind (wpAny_holding (wpAny_truthy_bool ?_))
      refine wpAny_bind (wpAny_letGo ?_)
      cases c with
      | true =>
        simp only [if_true]
        have hsz1 : g < s₁.gens.size := by
          have q : (s₁.setGen g gs').gens.size = s₁.gens.size := setGen_size _ _ _
          have hsz' : g + 1 ≤ (s₁.setGen g gs').gens.size := hsz
          omega
        refine wpAny_pure ⟨plainId_quiet F.plain_all_loop _, ih (s₁.setGen g gs') (show s₁.heap.IsGen a g from isg I') (show s₁.heap.NoLimit from I'.nolimit) ⟨gs', setGen_at hsz1, ?_⟩⟩
        exact q2 rfl _ rfl rfl (allBare_setGen (s := s₁.setGen g gs') (allBare_setGen I'.bare hbare) rfl)
      | false =>
        simp only [Bool.false_eq_true, if_false]
        exact wpAny_bind (wpAny_rule (wpAny_pure (hF H' σ' pins' s₁ _ I' (q1 rfl) rfl (allBare_setGen I'.bare hbare) fun b o e => e)))
    · intro hsz
      obtain ⟨H', I', q⟩ := hp
      exact wpAny_bind (wpAny_rule (wpAny_pure (hT H' s₁ _ I' q rfl (allBare_setGen I'.bare rfl) hk)))
end
/-- all(elt for tg in iter): the walk's invariant W by turn and measure; behind it the def's table may have grown -/
def tAllG (P : Addr) (js : List Nat) (wi : TI) (g : TG) (te : TE) : TE := fun σ H Q => wi σ H fun J H1 => TabG H1 P ∧ ∀ H2, Tabbed P H1 H2 → ∃ W : Nat → Nat → Hp → Prop, (∃ m, W 0 m H2) ∧ GTurns (slG σ js) J g te W (Q (.bl true)) (Q (.bl false))
section
variable {X : Cx}
theorem pe_allG {c P : Addr} {elt iter tg : Expr} {x : Str} {ys : List Str} {js : List Nat} {p pos gpos : Pos} {scope : Scope} {wi : TI} {g : TG} {te : TE} {k : Nat}
    (hr : Room (k + 1) X.A) (hg : Gl X "all") (hm : X.mg "all" = none) (TB : TabB X.base X.mg c P) (hcode : X.env.code = .ref c) (S : GenC X scope x ys js) (hi : PI X tg iter wi)
    (hpg : ∀ (A : Around) (sB : Shared) (H : Hp) (code : Value) (fp : List Addr) (pn : List (Addr × Obj)), PG (gcx X A sB H x ys scope code fp pn) tg g)
    (hel : ∀ (A : Around) (sB : Shared) (H : Hp) (code : Value) (fp : List Addr) (pn : List (Addr × Obj)), Room k (gcx X A sB H x ys scope code fp pn).A → PE (gcx X A sB H x ys scope code fp pn) elt te)
    (hs : ∀ v, genFold iter X.env v = pure v := by intro _; rfl)
    (he : starEach [.GeneratorExp elt [⟨tg, iter, [], 0⟩] scope gpos] X.env = (false, eval (.GeneratorExp elt [⟨tg, iter, [], 0⟩] scope gpos) X.env) :: starEach [] X.env := by rfl) :
    PE X (.Call (.Name "all" p) [.GeneratorExp elt [⟨tg, iter, [], 0⟩] scope gpos] [] pos) (tAllG P js wi g te) := by
  refine ⟨fun pins s σ H Q I h => ?_⟩
  refine wpAny_Call_Name_kw (ld_blt I hg hm (by decide +kernel : bootBuiltins "all" = some (.builtin "all")) ?_)
  refine PyProof.Rows.callWith_builtin1 ?_ he (by rfl)
  rw [he]
  show wpAny _ _ (spliced ((false, eval (.GeneratorExp elt [⟨tg, iter, [], 0⟩] scope gpos) X.env) :: backTo pos (starEach [] X.env))) _ _ s
  refine Calls.spliced_cons (gen_it (R := fun J H1 => ∀ H2, Tabbed P H1 H2 → ∃ W : Nat → Nat → Hp → Prop, (∃ m, W 0 m H2) ∧ GTurns (slG σ js) J g te W (Q (.bl true)) (Q (.bl false))) hr TB hcode S hi hs I h fun J H1 H2 it fp tn code sB s5 hR M => ?_)
  refine Calls.spliced_nil ?_
  obtain ⟨W, ⟨m0, w0⟩, turn⟩ := hR H2 M.tab
  obtain ⟨go, nm, qn, hgo, hc, hd, hsl⟩ := M.gen
  have hh : X.A.handled = none := hr.hd
  have hA : X.A.in1.in1.frames = some X.stack := I.ok.frames
  have I5 := inv_gen (A := X.A.in1.in1) M S hA hh hgo hd
  have hroom : Room k (gcx X X.A.in1.in1 sB H2 x ys scope code fp [(sB.heap.objs.size + 1, go)]).A := by
    refine ⟨hh, ?_, ?_⟩
    · have := hr.dp
      show X.A.depth + 1 + 3 * k + 5 < _
      omega
    · have := hr.un
      show X.A.units + 1 + 1 + 3 + 16 * k + 200 < _
      omega
  have hgl : sB.gens.size < s5.gens.size := (Array.getElem?_eq_some_iff.mp M.gs).1
  refine call_function_tree F.kind_all F.plain_all F.entry_all (F.args_all1 _) ?_
  unfold Builtin.«all»
  refine wpAny_bind (m := oneArg "all" _) (wpAny_pure ?_)
  refine wpAny_bind (wpAny_pyIter_gen (g := sB.gens.size) ⟨go, nm, qn, hgo, hc, hd, hsl⟩ ?_)
  refine wpAny_pure ⟨plainId_quiet F.plain_all_loop _, ?_⟩
  refine drain_all (σ0 := slG σ js) (B := gcx X X.A.in1.in1 sB H2 x ys scope code fp [(sB.heap.objs.size + 1, go)]) (QT := Q (.bl true)) (QF := Q (.bl false)) (g := sB.gens.size) hh hr.depth (List.mem_singleton.mpr rfl) ⟨hc, hd, hsl⟩
    (fun H' s1 s' I' q ho hb hk => ⟨.bl true, H', inv_back M (inv_same I' ho hb hk), rfl, q⟩) (fun H' σ' pins' s1 s' I' q ho hb hk => ⟨.bl false, H', inv_back M (inv_same I' ho hb hk), rfl, q⟩)
    (m0 + 1) s5 ⟨go, nm, qn, hgo, hc, hd, hsl⟩ I5.nolimit ⟨_, M.gs, rfl, ?_⟩
  -- the generator starts
  have I6 : Inv (gcx X X.A.in1.in1 sB H2 x ys scope code fp [(sB.heap.objs.size + 1, go)]) [] (slG σ js) H2 (s5.setGen sB.gens.size .running) := inv_same I5 rfl (allBare_setGen M.bare rfl) fun b o e => e
  have f6 : ∀ b ∈ fp, FpOk (gcx X X.A.in1.in1 sB H2 x ys scope code fp [(sB.heap.objs.size + 1, go)]) [] H2 b := fun b hb => by
    refine ⟨(M.fpo b hb).1.1, Nat.ne_of_lt (M.fpo b hb).2, fun z => I5.ok.exfs b hb z, .inl hb, (I5.ok.exf b hb).2, fun p hp => ?_⟩
    · rw [List.mem_singleton.mp hp]
      exact Nat.ne_of_gt (Nat.lt_succ_of_lt (M.fpo b hb).2)
  have tn6 : tn 0 (s5.setGen sB.gens.size .running).heap := M.turn.keep _ _ _ M.tn0 fun b _ o e => M.keep b o e
  have loop := seg_loop (σ0 := slG σ js) (A := X.A.in1.in1) (elt := elt) (iter := iter) (gpos := gpos) (g := g) (te := te) (W := W) (QT := Q (.bl true)) (QF := Q (.bl false)) S.co M.turn (hpg _ sB H2 code fp [(sB.heap.objs.size + 1, go)]) (hel _ sB H2 code fp [(sB.heap.objs.size + 1, go)] hroom) turn
    m0 (m0 + 1) 0 (s5.setGen sB.gens.size .running) (s5.setGen sB.gens.size .running) H2 (Nat.lt_succ_self _) w0 I6 tn6 f6
  show Seg _ _ _ _ _ _ _ ((compStart (.GeneratorExp elt [⟨tg, iter, [], 0⟩] scope gpos) 0 (.ref it) .none (gEnv X sB scope code)).onRaise (leaving (gEnv X sB scope code))) [] _
  unfold compStart
  rw [Sem.onRaise_eq_wrap]
  show Seg _ _ _ _ _ _ _ ((ask >>= _).wrap _ _ _ _) [] _
  refine seg_bind_wrap (wpAny_askSetting ?_)
  split
  · exact seg_again rfl loop
  · refine seg_bind_wrap (wpAny_rule ?_)
    show Seg _ _ _ _ _ _ _ ((standAt iter.pos >>= _).wrap _ _ _ _) [] _
    refine seg_bind_wrap (wpAny_standAt (seg_bind_wrap ?_))
    exact M.turn.self _ 0 _ _ _ tn6 (seg_again rfl loop)
end
end GxC
end
section
set_option Elab.async false
set_option linter.all false
set_option maxRecDepth 100000
namespace GxC
open PySem PySem.Spec PyProof.Rows L2 GenW
/-- the turns of all(..) over a walk -/
theorem ga_itC {σ0 : L2.St} {J : It} {n : Nat} {G : Hp → Prop} {Y : Nat → Hp → V → Hp → Prop} (w : Walk J n G Y) {g : TG} {te : TE} {H0 : Hp} {QT QF : Hp → Prop} (Pv : Nat → Hp → Prop) (h0 : Pv 0 H0) (hG : ∀ i H, i ≤ n → Pv i H → G H)
    (hs : ∀ i y H H', i < n → Pv i H → Y i H y H' → g y σ0 H' fun σ2 H2 => (∀ (j : Nat) (v : V), σ0[j]? = some (some v) → σ2[j]? = some (some v)) ∧ te σ2 H2 fun z H3 => ∃ c, z = .bl c ∧ if c = true then Pv (i + 1) H3 else QF H3) (hd : ∀ H, Pv n H → QT H) :
    ∃ W : Nat → Nat → Hp → Prop, (∃ m, W 0 m H0) ∧ GTurns σ0 J g te W QT QF := by
  refine ⟨fun i m H => m = n - i ∧ i ≤ n ∧ Pv i H, ⟨n, by simp, Nat.zero_le _, h0⟩, ?_⟩
  rintro i m H ⟨rfl, hi, p⟩
  have q := hG i H hi p
  by_cases hlt : i < n
  · exact .inr ⟨w.goes i H hlt q, Pv (i + 1), fun H' p' => ⟨n - (i + 1), by omega, rfl, hlt, p'⟩, fun y H' yy => hs i y H H' hlt p (w.yields i H y H' hlt q yy)⟩
  · have e : i = n := by omega
    subst e
    exact .inl ⟨w.stops H q, hd H p⟩
/-- the name's own slot is set, the others stand -/
theorem set_keep {σ0 : L2.St} {u : Option V} : ∀ (j : Nat) (v : V), (none :: σ0)[j]? = some (some v) → ((none :: σ0).set 0 u)[j]? = some (some v) := fun j v e => by
  cases j with
  | zero => cases e
  | succ j => exact e
end GxC
end
section
set_option Elab.async false
set_option linter.all false
set_option maxRecDepth 100000
set_option maxHeartbeats 4000000
namespace Ah
open PySem PySem.Spec PyProof.Rows L2
open GxR (TabB TabG Tabbed)
open GxG EnT
/-! ### can_be -/
def NonTup (H : Hp) (v : V) : Prop := v = .non ∨ (∃ z, v = .str z) ∨ (∃ i, v = .int i) ∨ ∃ a xs, v = .ref a ∧ H a = some (.lst xs)
def AftA (H : Hp) (r : Rw) (ss : List Say) (x : Say) (av : V) (b : Bool) : Prop := (NonTup H av ∧ b = false) ∨ ∃ t os, av = .ref t ∧ H t = some (.tup os) ∧ ((3 ≤ os.length ∧ os.length ≤ 1000 ∧ b = false) ∨
  (os.length ≤ 2 ∧ (∀ o ∈ os, NumV o) ∧ ((os.all (isNumL (ss.length : Int)) = false ∧ b = false) ∨ ∃ ah : List Nat, os = ah.map (fun i : Nat => V.int (i : Int)) ∧ (∀ i ∈ ah, i < ss.length) ∧ b = ByB r (ah.map fun i => ss.getD i .clash) x)))
def AftN (H : Hp) (rs : List Rw) (ss : List Say) (x : Say) (nv av : V) (b : Bool) : Prop := NumV nv ∧ ((isNumL (rs.length : Int) nv = false ∧ b = false) ∨ ∃ (n : Nat) (r : Rw), nv = .int (n : Int) ∧ rs[n]? = some r ∧ AftA H r ss x av b)
def AftS (H : Hp) (rs : List Rw) (ss : List Say) (sv nv av : V) (b : Bool) : Prop := (SayT H sv false ∧ b = false) ∨ ∃ sa x, sv = .ref sa ∧ H sa = some (.tup ((Say.ws x).map V.str)) ∧ SayT H sv true ∧ okW x.ws ∧ AftN H rs ss x nv av b
/-- a step at the place behind those of ss: whether it can be -/
def StepV (H : Hp) (rs : List Rw) (ss : List Say) (v : V) (b : Bool) : Prop := (NonTup H v ∧ b = false) ∨ ∃ a xs, v = .ref a ∧ H a = some (.tup xs) ∧ ((xs.length ≤ 1000 ∧ xs.length ≠ 3 ∧ b = false) ∨ ∃ sv nv av, xs = [sv, nv, av] ∧ AftS H rs ss sv nv av b)
/-- the steps ahead: their sayings -/
def Ahead (H : Hp) (vs : List V) (ss : List Say) : Prop := ∀ (i : Nat) (s : Say), ss[i]? = some s → ∃ a sa nv av, vs[i]? = some (.ref a) ∧ H a = some (.tup [.ref sa, nv, av]) ∧ H sa = some (.tup (s.ws.map V.str)) ∧ okW s.ws ∧ s ≠ .clash
def spCan (T : List Addr) : Sp := fun vs H Q _ => ∃ (q l : Addr) (rs : List Rw) (us : List V) (ss : List Say) (v : V) (b : Bool), vs = [.ref q, .ref l, .int (ss.length : Int)] ∧ TextAt H q rs ∧ rs.length ≤ 24 ∧ (∀ r ∈ rs, okW r.ws) ∧ H l = some (.lst us) ∧ us.length ≤ 1000 ∧ Ahead H us ss ∧ us[ss.length]? = some v ∧ StepV H rs ss v b ∧ (∀ P ∈ T, TabG H P) ∧
  ∀ H', Kp T H H' → Q (.bl b) H'
theorem Kp.of' {T : List Addr} {H H' : Hp} (ht : ∀ P ∈ T, TabG H P) (k : Kept [] H H') : Kp T H H' := ⟨fun P hP => by
  obtain ⟨qs, h2, h3⟩ := ht P hP
  exact ⟨qs, k _ _ h2 (by simp), h3⟩, fun b o e _ => k b o e (by simp)⟩
abbrev canN : List Str := ["rows", "steps", "at", "step", "saying", "number", "ahead", "other"]
theorem scCan : FnScope canN ["rows", "steps", "at"] (defScope sCanBe) := ⟨rfl, rfl, rfl, by decide +kernel, rfl, by decide +kernel, by decide +kernel⟩
section
variable {P : Program} {w : World} {K : PySem.W.Frag} {mg : Str → Option Value} {base : Heap} {f c P1 fS fN fC : Addr} {fd fdS fdN fdC : FuncData} {T : List Addr}
theorem ok_canbe (F : FnP K "can_be" sCanBe f fd) (hc : fd.code = .ref c) (TB : TabB base mg c P1) (hT : P1 ∈ T) (B : Bl mg) (cS : Own P w K mg base "is_saying" 6 fS fdS ["row"] (spIsS T)) (cN : Own P w K mg base "is_number" 1 fN fdN ["number", "many"] spNum) (cC : Own P w K mg base "comes_by" 4 fC fdC ["row", "ahead", "saying"] spCB) :
    FnOk P w K mg base CX0 7 f fd ["rows", "steps", "at"] (spCan T) := by
  refine okC F hc scCan (fun vs H Q E h => ?_) (fun A outer s H vs Q E hr h => ?_)
  · obtain ⟨q, l, rs, us, ss, v, b, rfl, _⟩ := h
    rfl
  · obtain ⟨q, l, rs, us, ss, v, b, rfl, tx, hrl, hro, hl, hul, hah, hv, hst, ht, k⟩ := h
    refine ⟨_, PSs.nox (pss_cons (ps_set (i := 3) scCan.nd rfl (.inl rfl) (pe_ix (show IxR _ (rIxL K) from ix_list) (pv 1) (pv 2) (fun _ _ => rfl)))
      (pss_cons (ps_if (PW.pt (pw_or (pt_not (pt_val (pe_callB call_isi (by rfl) B.isinstance_ (by decide +kernel) (pa_cons (pv 3) (pa_cons (pe_bltn (v := .ty "tuple") (by rfl) B.tuple_ (by decide +kernel) rfl) pa_nil))))) (pw_or1 (pt_cmpR op_ne (pe_callB call_len_seq (by rfl) B.len_ (by decide +kernel) (pa_cons (pv 3) pa_nil)) pe_int (nomark _))))) (pss_one (ps_ret pe_bl)) pss_nil)
      (pss_cons (ps_asg (pv 3) (pg_tup rfl (pgs_cons (pg_name (i := 4) scCan.nd rfl (Or.inl rfl)) (pgs_cons (pg_name (i := 5) scCan.nd rfl (Or.inl rfl)) (pgs_cons (pg_name (i := 6) scCan.nd rfl (Or.inl rfl)) pgs_nil)))))
      (pss_cons (ps_if (PW.pt (pw_or (pt_not (pt_val (pe_call cS.ok hr (by rfl) cS.g cS.kp cS.b .nil pass0 (pa_cons (pv 4) pa_nil)))) (pw_or1 (pt_not (pt_val (pe_call cN.ok (hr.mono (by decide)) (by rfl) cN.g cN.kp cN.b .nil pass0 (pa_cons (pv 5) (pa_cons (pe_callB call_len_seq (by rfl) B.len_ (by decide +kernel) (pa_cons (pv 0) pa_nil)) pa_nil)))))))) (pss_one (ps_ret pe_bl)) pss_nil)
      (pss_cons (ps_if (PW.pt (pw_or (pt_not (pt_val (pe_callB call_isi (by rfl) B.isinstance_ (by decide +kernel) (pa_cons (pv 6) (pa_cons (pe_bltn (v := .ty "tuple") (by rfl) B.tuple_ (by decide +kernel) rfl) pa_nil))))) (pw_or (pt_cmpR op_gt (pe_callB call_len_seq (by rfl) B.len_ (by decide +kernel) (pa_cons (pv 6) pa_nil)) pe_int (nomark _))
          (pw_or1 (pt_not (pt_val (GxC.pe_allG (k := 1) (x := "other") (ys := ["at"]) (js := [2]) (P := P1) (hr.mono (by decide)) (by rfl) B.all_ TB rfl ⟨rfl, rfl, by decide +kernel, (show ∀ y : Str × NameKind, y ∈ _ → y.2 = .free → (defScope sCanBe).names.lookup y.1 = some .cell ∨ (defScope sCanBe).names.lookup y.1 = some .free from by decide +kernel), by decide +kernel, by rfl, fun i y h => by
              match i, h with
              | 0, h =>
                obtain rfl := Option.some.inj h
                exact ⟨by decide +kernel, 2, rfl, rfl⟩, rfl⟩ (pi_tup (pv 6))
            (fun A sB H code fp pn => pg_name (i := 0) (show (["other", "at"] : List Str).Nodup from by decide) rfl (Or.inl rfl))
            (fun A sB H code fp pn hr' => pe_call cN.ok hr' (by rfl) cN.g cN.kp cN.b .nil pass0 (pa_cons (pv 0) (pa_cons (pv 1) pa_nil)))))))))) (pss_one (ps_ret pe_bl)) pss_nil)
      (pss_one (ps_ret (pe_call cC.ok (hr.mono (by decide)) (by rfl) cC.g cC.kp cC.b .nil pass0 (pa_cons (pe_ix (show IxR _ (rIxT K) from ix_tup) (pv 0) (pv 5) (fun _ _ => rfl)) (pa_cons (pe_lc (own := [("other", 7)]) rfl scCan.nd (pi_tup (pv 6)) (blkOk_by (N := canN) (sc := defScope sCanBe) (by decide +kernel)) (fun _ _ _ _ _ => pg_name (i := 7) scCan.nd rfl (Or.inl rfl)) (fun _ _ _ _ _ => pts_nil)
          (fun _ _ _ _ _ => pe_ix (show IxR _ (rIxT K) from ix_tup) (pe_ix (show IxR _ (rIxL K) from ix_list) (pv 1) (pv 7) (fun _ _ => rfl)) pe_int (fun _ _ => rfl))) (pa_cons (pv 4) pa_nil))))))))))), ?_⟩
    have kp0 : Kp T H H := ⟨ht, fun _ _ e _ => e⟩
    refine ⟨_, rfl, _, rfl, l, us, _, v, rfl, rfl, SqL.of hl, at_of (j := ss.length) rfl hv, ?_⟩
    rcases hst with ⟨hn, rfl⟩ | ⟨a, xs, rfl, ha, hx⟩
    · rcases hn with rfl | ⟨z, rfl⟩ | ⟨i, rfl⟩ | ⟨a, xs, rfl, e⟩
      · exact ⟨_, rfl, _, _, _, _, false, rfl, ClsV.ty _, TyX.base .non, kit_ty (by decide +kernel), false, rfl, iteT (iteT (k H kp0))⟩
      · exact ⟨_, rfl, _, _, _, _, false, rfl, ClsV.ty _, TyX.base (.str z), kit_ty (by decide +kernel), false, rfl, iteT (iteT (k H kp0))⟩
      · exact ⟨_, rfl, _, _, _, _, false, rfl, ClsV.ty _, TyX.base (.int i), kit_ty (by decide +kernel), false, rfl, iteT (iteT (k H kp0))⟩
      · exact ⟨_, rfl, _, _, _, _, false, rfl, ClsV.ty _, TyX.base (.lst e), kit_ty (by decide +kernel), false, rfl, iteT (iteT (k H kp0))⟩
    refine ⟨_, rfl, _, _, _, _, true, rfl, ClsV.ty _, TyX.base (.tup ha), kit_ty (by decide +kernel), true, rfl, iteF ?_⟩
    refine ⟨_, rfl, a, _, rfl, .inr (.inl (.of ha)), rfl, _, rfl, ?_⟩
    rcases hx with ⟨_, h3, rfl⟩ | ⟨sv, nv, av, rfl, hs⟩
    · rw [decide_eq_false (fun z => h3 (by have := V.int.inj z; omega) : ¬ V.int ((xs.length : Nat) : Int) = V.int 3)]
      exact iteT (k H kp0)
    refine iteF ?_
    refine ⟨_, rfl, a, _, rfl, SqT.of ha, rfl, _, _, rfl, _, _, rfl, _, _, rfl, rfl, ?_⟩
    rcases hs with ⟨hs, rfl⟩ | ⟨sa, x, rfl, hsa, hs, hxo, hnv, hN⟩
    · exact ⟨_, rfl, _, false, rfl, hs, ht, fun H1 k1 => ⟨_, rfl, iteT (iteT (k H1 k1))⟩⟩
    refine ⟨_, rfl, _, true, rfl, hs, ht, fun H1 k1 => ⟨_, rfl, iteF ?_⟩⟩
    obtain ⟨ps, hq, hps⟩ := id tx
    have lps : ps.length = rs.length := hps.length
    have hq1 := k1.obj ht hq
    refine ⟨_, rfl, _, rfl, q, _, rfl, .inr (.inl (.of hq1)), nv, (rs.length : Int), ?_, hnv, ?_⟩
    · rw [List.length_map, lps]
      rfl
    refine ⟨_, rfl, ?_⟩
    rcases hN with ⟨hn, rfl⟩ | ⟨n, r, rfl, hr', hA⟩
    · rw [hn]
      exact iteT (k H1 k1)
    have hin : isNumL (rs.length : Int) (.int (n : Int)) = true := by
      show (decide ((0 : Int) ≤ (n : Int)) && decide ((n : Int) < (rs.length : Int))) = true
      have := (List.getElem?_eq_some_iff.mp hr').1
      simp
      omega
    rw [hin]
    refine iteF ?_
    have avk : ∀ {z : Addr} {ys : List V}, H z = some (.tup ys) → H1 z = some (.tup ys) := fun e => k1.obj ht e
    rcases hA with ⟨hn, rfl⟩ | ⟨t, os, rfl, ht', hO⟩
    · rcases hn with rfl | ⟨z, rfl⟩ | ⟨i, rfl⟩ | ⟨a2, ys, rfl, e⟩
      · exact ⟨_, rfl, _, _, _, _, false, rfl, ClsV.ty _, TyX.base .non, kit_ty (by decide +kernel), false, rfl, iteT (iteT (k H1 k1))⟩
      · exact ⟨_, rfl, _, _, _, _, false, rfl, ClsV.ty _, TyX.base (.str z), kit_ty (by decide +kernel), false, rfl, iteT (iteT (k H1 k1))⟩
      · exact ⟨_, rfl, _, _, _, _, false, rfl, ClsV.ty _, TyX.base (.int i), kit_ty (by decide +kernel), false, rfl, iteT (iteT (k H1 k1))⟩
      · exact ⟨_, rfl, _, _, _, _, false, rfl, ClsV.ty _, TyX.base (.lst (k1.obj ht e)), kit_ty (by decide +kernel), false, rfl, iteT (iteT (k H1 k1))⟩
    have ht1 := avk ht'
    refine ⟨_, rfl, _, _, _, _, true, rfl, ClsV.ty _, TyX.base (.tup ht1), kit_ty (by decide +kernel), true, rfl, iteF ?_⟩
    refine ⟨_, rfl, t, os, rfl, .inr (.inl (.of ht1)), _, _, rfl, rfl, _, rfl, ?_⟩
    rcases hO with ⟨h3, h1000, rfl⟩ | ⟨h2, hnum, hO⟩
    · rw [decide_eq_true (show (2 : Int) < ((os.length : Nat) : Int) by omega)]
      exact iteT (iteT (k H1 k1))
    rw [decide_eq_false (show ¬ (2 : Int) < ((os.length : Nat) : Int) by omega)]
    refine iteF ?_
    refine ⟨_, rfl, t, rfl, ⟨os, .inl (.of ht1)⟩, k1.tab P1 hT, fun H2 tb => ?_⟩
    have k12 : Kp T H1 H2 := ⟨fun q hq => by
      by_cases e : q = P1
      · rw [e]; exact tb.1
      · obtain ⟨qs, h2, h3⟩ := k1.tab q hq
        exact ⟨qs, by rw [tb.2 q e]; exact h2, h3⟩, fun b o e hb => by
        rw [tb.2 b fun z => hb (by rw [z]; exact hT)]
        exact e⟩
    have k02 := k1.trans k12
    have ht2 := k12.obj k1.tab ht1
    refine GxC.ga_itC (walk_tup (K := K) (a := t) (xs := os)) (fun i H' => Kp T H2 H' ∧ (os.take i).all (isNumL (ss.length : Int)) = true) ⟨⟨k12.tab, fun _ _ e _ => e⟩, rfl⟩ (fun i H' _ pv => .inl (.of (pv.1.obj k12.tab ht2))) (fun i y Ha Hb hi pv yy => ?_) (fun H' pv => ?_)
    · obtain ⟨k3, p1⟩ := pv
      obtain ⟨rfl, ey⟩ := yy
      obtain ⟨a1, a2⟩ := all_take p1 ey
      refine ⟨GxC.set_keep, ?_⟩
      refine ⟨y, rfl, _, rfl, y, (ss.length : Int), rfl, hnum y (List.mem_of_getElem? ey), _, rfl, ?_⟩
      cases hw : isNumL (ss.length : Int) y with
      | true => exact iteT ⟨k3, a1 hw⟩
      | false =>
        have e := a2 hw
        rcases hO with ⟨_, rfl⟩ | ⟨ah, rfl, hlt, _⟩
        · exact iteF ⟨_, rfl, iteT (k _ (k02.trans k3))⟩
        · exfalso
          have : (ah.map fun i : Nat => V.int (i : Int)).all (isNumL (ss.length : Int)) = true := List.all_eq_true.mpr fun v hv => by
            obtain ⟨i, hi, rfl⟩ := List.mem_map.mp hv
            have := hlt i hi
            show (decide ((0 : Int) ≤ (i : Int)) && decide ((i : Int) < (ss.length : Int))) = true
            simp
            omega
          rw [this] at e
          cases e
    obtain ⟨k3, p1⟩ := pv
    rw [List.take_of_length_le (Nat.le_refl _)] at p1
    rcases hO with ⟨e, _⟩ | ⟨ah, rfl, hlt, rfl⟩
    · rw [e] at p1
      cases p1
    refine ⟨_, rfl, iteF ?_⟩
    have k03 := k02.trans k3
    have hq3 := k03.obj ht hq
    have hl3 := k03.obj ht hl
    have ht3 := k3.obj k12.tab ht2
    have hsa3 := k03.obj ht hsa
    obtain ⟨pr, hpr⟩ : ∃ pr, ps[n]? = some pr := ⟨_, List.getElem?_eq_getElem (by have := (List.getElem?_eq_some_iff.mp hr').1; omega)⟩
    obtain ⟨r2, er2, hr2⟩ := paired_at hps hpr
    obtain rfl : r2 = r := Option.some.inj (er2.symm.trans hr')
    have hpv : (ps.map V.ref)[n]? = some (.ref pr) := by rw [List.getElem?_map, hpr]; rfl
    have hah3 : ∀ i, i < ss.length → ∃ a sa nv av, us[i]? = some (.ref a) ∧ H' a = some (.tup [.ref sa, nv, av]) ∧ H' sa = some (.tup ((ss.getD i .clash).ws.map V.str)) ∧ okW (ss.getD i .clash).ws ∧ ss.getD i .clash ≠ .clash := fun i hi => by
      obtain ⟨s, hs⟩ : ∃ s, ss[i]? = some s := ⟨_, List.getElem?_eq_getElem hi⟩
      obtain ⟨a, sa, nv, av, q1, q2, q3, q4, q5⟩ := hah i s hs
      have e : ss.getD i .clash = s := by rw [List.getD_eq_getElem?_getD, hs]; rfl
      rw [e]
      exact ⟨a, sa, nv, av, q1, k03.obj ht q2, k03.obj ht q3, q4, q5⟩
    refine ⟨_, rfl, _, rfl, q, _, (n : Int), .ref pr, rfl, rfl, SqT.of hq3, at_of (j := n) rfl hpv, _, rfl, t, rfl, ⟨_, .inl (.of ht3)⟩, fun D nD => ?_⟩
    refine lc_tup (K := K) (a := t) (xs := ah.map fun i : Nat => V.int (i : Int)) (fun j Ha => ∃ as : List Addr, Ha D = some (.lst (as.map V.ref)) ∧ Paired (fun a i => H' a = some (.tup ((ss.getD i .clash).ws.map V.str))) as (ah.take j) ∧ Kept [] H' Ha) ⟨[], upd_same, .nil, (Kept.refl _).upd nD⟩ (fun j Ha _ pv => SqT.of (pv.choose_spec.2.2 _ _ ht3 (by simp))) ?_ ?_
    · rintro j v Ha hj ⟨as, e1, q1, kk⟩
      rw [List.getElem?_map] at hj
      obtain ⟨i, ei, rfl⟩ := Option.map_eq_some_iff.mp hj
      obtain ⟨a', sa', nv', av', w1, w2, w3, _⟩ := hah3 i (hlt i (List.mem_of_getElem? ei))
      have lq := q1.length
      have l2 : (ah.map fun i : Nat => V.int (i : Int)).length ≤ 2 := h2
      rw [List.length_map] at l2
      refine ⟨rfl, yes_if ⟨_, rfl, _, rfl, l, us, _, .ref a', rfl, rfl, SqL.of (kk _ _ hl3 (by simp)), at_of (j := i) rfl w1, a', _, 0, .ref sa', rfl, rfl, SqT.of (kk _ _ w2 (by simp)), at_of (j := 0) rfl rfl, _, e1, ?_, as ++ [sa'], ?_, ?_, ?_⟩⟩
      · rw [List.length_map, lq, List.length_take]
        exact Nat.lt_of_le_of_lt (show _ ≤ 2 by omega) (by decide)
      · rw [List.map_append]
        exact upd_same
      · rw [List.take_add_one, ei]
        exact paired_app q1 (.cons w3 .nil)
      · exact Kept.far (Kept.refl H') nD kk
    · rintro Ha ⟨as, e1, q1, kk⟩
      have e2 : (ah.map fun i : Nat => V.int (i : Int)).length = ah.length := List.length_map ..
      rw [e2, List.take_of_length_le (Nat.le_refl _)] at q1
      have l2 : (ah.map fun i : Nat => V.int (i : Int)).length ≤ 2 := h2
      rw [e2] at l2
      have pm : ∀ {as : List Addr} {ah : List Nat}, Paired (fun a i => H' a = some (.tup ((ss.getD i .clash).ws.map V.str))) as ah → SaysH Ha as (ah.map fun i => ss.getD i .clash) := by
        intro as ah hp
        induction hp with
        | nil => exact .nil
        | cons h _ ih => exact .cons (kk _ _ h (by simp)) ih
      refine ⟨_, rfl, pr, D, sa, r2, as, ah.map fun i => ss.getD i .clash, x, rfl, kk _ _ (k03.obj ht hr2) (by simp), hro _ (List.mem_of_getElem? hr'), e1, pm q1, by rw [List.length_map]; exact l2, fun s hs' => ?_, kk _ _ hsa3 (by simp), hxo, fun H9 k9 => k H9 (k03.trans (Kp.of' k03.tab (kk.trans k9)))⟩
      obtain ⟨i, hi, rfl⟩ := List.mem_map.mp hs'
      obtain ⟨_, _, _, _, _, _, _, q4, q5⟩ := hah3 i (hlt i hi)
      exact ⟨q4, q5⟩
end
end Ah
end
section
set_option Elab.async false
set_option linter.all false
set_option maxRecDepth 100000
set_option maxHeartbeats 4000000
namespace Ah
open PySem PySem.Spec PyProof.Rows L2
open GxR (TabB TabG Tabbed)
open GxG EnT
/-! ### check_steps -/
theorem RowT.kp {T : List Addr} {H H' : Hp} {v : V} {b : Bool} (ht : ∀ P ∈ T, TabG H P) (k : Kp T H H') (h : RowT H v b) : RowT H' v b := by
  rcases h with ⟨h, rfl⟩ | ⟨a, xs, e, h1, h2, h3, h4⟩
  · refine .inl ⟨?_, rfl⟩
    rcases h with h | h | h | ⟨a, xs, e, h⟩
    · exact .inl h
    · exact .inr (.inl h)
    · exact .inr (.inr (.inl h))
    · exact .inr (.inr (.inr ⟨a, xs, e, k.obj ht h⟩))
  · exact .inr ⟨a, xs, e, k.obj ht h1, h2, fun x hx => (h3 x hx).kp ht k, h4⟩
theorem SayT.kp {T : List Addr} {H H' : Hp} {v : V} {b : Bool} (ht : ∀ P ∈ T, TabG H P) (k : Kp T H H') (h : SayT H v b) : SayT H' v b := by
  rcases h with ⟨h, e⟩ | ⟨a, xs, e, h1, h2, h3, h4⟩
  · exact .inl ⟨h.kp ht k, e⟩
  · exact .inr ⟨a, xs, e, k.obj ht h1, h2.kp ht k, h3, h4⟩
section
variable {T : List Addr} {H H' : Hp}
theorem NonTup.kp {v : V} (ht : ∀ P ∈ T, TabG H P) (k : Kp T H H') (h : NonTup H v) : NonTup H' v := by
  rcases h with h | h | h | ⟨a, xs, e, h⟩
  · exact .inl h
  · exact .inr (.inl h)
  · exact .inr (.inr (.inl h))
  · exact .inr (.inr (.inr ⟨a, xs, e, k.obj ht h⟩))
theorem AftA.kp {r : Rw} {ss : List Say} {x : Say} {av : V} {b : Bool} (ht : ∀ P ∈ T, TabG H P) (k : Kp T H H') (h : AftA H r ss x av b) : AftA H' r ss x av b := by
  rcases h with ⟨h, e⟩ | ⟨t, os, e, h, h2⟩
  · exact .inl ⟨h.kp ht k, e⟩
  · exact .inr ⟨t, os, e, k.obj ht h, h2⟩
theorem AftS.kp {rs : List Rw} {ss : List Say} {sv nv av : V} {b : Bool} (ht : ∀ P ∈ T, TabG H P) (k : Kp T H H') (h : AftS H rs ss sv nv av b) : AftS H' rs ss sv nv av b := by
  rcases h with ⟨h, e⟩ | ⟨sa, x, e, h1, h2, h3, h4, h5⟩
  · exact .inl ⟨h.kp ht k, e⟩
  · refine .inr ⟨sa, x, e, k.obj ht h1, h2.kp ht k, h3, h4, ?_⟩
    rcases h5 with h5 | ⟨n, r, e1, e2, h6⟩
    · exact .inl h5
    · exact .inr ⟨n, r, e1, e2, h6.kp ht k⟩
theorem StepV.kp {rs : List Rw} {ss : List Say} {v : V} {b : Bool} (ht : ∀ P ∈ T, TabG H P) (k : Kp T H H') (h : StepV H rs ss v b) : StepV H' rs ss v b := by
  rcases h with ⟨h, e⟩ | ⟨a, xs, e, h, h2⟩
  · exact .inl ⟨h.kp ht k, e⟩
  · refine .inr ⟨a, xs, e, k.obj ht h, ?_⟩
    rcases h2 with h2 | ⟨sv, nv, av, e2, h3⟩
    · exact .inl h2
    · exact .inr ⟨sv, nv, av, e2, h3.kp ht k⟩
theorem Ahead.kp {us : List V} {ss : List Say} (ht : ∀ P ∈ T, TabG H P) (k : Kp T H H') (h : Ahead H us ss) : Ahead H' us ss := fun i s e => by
  obtain ⟨a, sa, nv, av, q1, q2, q3, q4⟩ := h i s e
  exact ⟨a, sa, nv, av, q1, k.obj ht q2, k.obj ht q3, q4⟩
theorem Ahead.take {us : List V} {ss : List Say} {j : Nat} (h : Ahead H us ss) : Ahead H us (ss.take j) := fun i s e => by
  by_cases hi : i < j
  · rw [List.getElem?_take_of_lt hi] at e
    exact h i s e
  · rw [List.getElem?_take_eq_none (by omega)] at e
    cases e
end
/-- the steps up to the j-th can be, of the sayings ss -/
structure GoodTo (H : Hp) (rs : List Rw) (us : List V) (ss : List Say) (j : Nat) : Prop where
  ah : Ahead H us ss
  len : ss.length = j
  le : j ≤ us.length
  ok : ∀ (i : Nat) v, i < j → us[i]? = some v → StepV H rs (ss.take i) v true
theorem GoodTo.kp {T : List Addr} {H H' : Hp} {rs : List Rw} {us : List V} {ss : List Say} {j : Nat} (ht : ∀ P ∈ T, TabG H P) (k : Kp T H H') (h : GoodTo H rs us ss j) : GoodTo H' rs us ss j := ⟨h.ah.kp ht k, h.len, h.le, fun i v hi e => (h.ok i v hi e).kp ht k⟩
/-- what is no list of steps -/
def NoSteps (H : Hp) (v : V) : Prop := v = .non ∨ (∃ i, v = .int i) ∨ (∃ a xs, v = .ref a ∧ H a = some (.tup xs)) ∨ ∃ a, v = .ref a ∧ H a = some (.lst [])
def spSteps (T : List Addr) (C : Addr) : Sp := fun vs H Q E => ∃ (q : Addr) (rs : List Rw) (v : V), vs = [.ref q, v] ∧ TextAt H q rs ∧ rs.length ≤ 24 ∧ (∀ r ∈ rs, okW r.ws) ∧ (∀ P ∈ T, TabG H P) ∧
  ((NoSteps H v ∧ wRow E C T H 0) ∨ ∃ (l : Addr) (us : List V) (ss : List Say) (j : Nat), v = .ref l ∧ H l = some (.lst us) ∧ us ≠ [] ∧ us.length ≤ 1000 ∧ j ≤ 200 ∧ GoodTo H rs us ss j ∧
    ((j = us.length ∧ ∀ H', Kp T H H' → Q .non H') ∨ (((j = 200 ∧ j < us.length) ∨ ∃ v, us[j]? = some v ∧ StepV H rs ss v false) ∧ wRow E C T H j)))
theorem scSt : FnScope ["rows", "steps", "at"] ["rows", "steps"] (defScope sCheckSteps) := ⟨rfl, rfl, rfl, by decide +kernel, rfl, by decide +kernel, by decide +kernel⟩
section
variable {P : Program} {w : World} {K : PySem.W.Frag} {mg : Str → Option Value} {base : Heap} {f fC fI C : Addr} {fd fdC fdI : FuncData} {T : List Addr} {psI : List Str}
theorem ok_checksteps (F : FnP K "check_steps" sCheckSteps f fd) (B : Bl mg) (hm : ∃ t, mg "MOST_STEPS" = some (.int 200 t)) (cC : Own P w K mg base "can_be" 7 fC fdC ["rows", "steps", "at"] (spCan T))
    (R : One K C fI "number") (FI : FnOk P w K mg base (L2.CX P w) 1 fI fdI psI (spErr1 C "number")) (bI : Binds K fdI psI []) (gB : mg "BadSteps" = some (.ref C)) : FnOk P w K mg base (L2.CX P w) 8 f fd ["rows", "steps"] (spSteps T C) := by
  refine F.ok scSt (fun vs H Q E h => ?_) (fun cdv A outer s H vs Q E hr h => ?_)
  · obtain ⟨q, rs, v, rfl, _⟩ := h
    rfl
  · obtain ⟨q, rs, v, rfl, tx, hrl, hro, ht, h⟩ := h
    obtain ⟨mt, hm⟩ := hm
    have kp0 : Kp T H H := ⟨ht, fun _ _ e _ => e⟩
    refine ⟨_, pss_cons (ps_if (PW.pt (pw_or (pt_not (pt_val (pe_callB call_isi (by rfl) B.isinstance_ (by decide +kernel) (pa_cons (pv 1) (pa_cons (pe_bltn (v := .ty "list") (by rfl) B.list_ (by decide +kernel) rfl) pa_nil))))) (pw_or1 (pt_not (pt_truth (pv 1) (by intro _; rfl))))))
        (pss_one (ps_raise1 rfl (takes_of rfl rfl rfl rfl) R FI (hr.mono (by decide)) bI (by rfl) gB pe_int)) pss_nil)
      (pss_one (ps_for (passes_of rfl) rfl (pi_range1 (by rfl) B.range_ (pa_cons (pe_callB call_len_seq (by rfl) B.len_ (by decide +kernel) (pa_cons (pv 1) pa_nil)) pa_nil)) (pg_name (i := 2) scSt.nd rfl (.inl rfl))
        (pss_one (ps_if (PW.pt (pw_or (pt_cmpR op_eq (pv 2) (pe_glob (v := .int 200) (by rfl) hm ⟨_, rfl⟩) (nomark _)) (pw_or1 (pt_not (pt_val (pe_call cC.ok hr (by rfl) cC.g cC.kp cC.b .nil pass0 (pa_cons (pv 0) (pa_cons (pv 1) (pa_cons (pv 2) pa_nil)))))))))
          (pss_one (ps_raise1 rfl (takes_of rfl rfl rfl rfl) R FI (hr.mono (by decide)) bI (by rfl) gB (pv 2))) pss_nil)))), ?_⟩
    rcases h with ⟨hn, hw⟩ | ⟨l, us, ss, j, rfl, hl, hne, hul, hj, hg, hx⟩
    · rcases hn with rfl | ⟨i, rfl⟩ | ⟨a, xs, rfl, e⟩ | ⟨a, rfl, e⟩
      · exact ⟨_, rfl, _, _, _, _, false, rfl, ClsV.ty _, TyX.base .non, kit_ty (by decide +kernel), false, rfl, iteT (iteT (one_q fun d hd => hw H d kp0 hd))⟩
      · exact ⟨_, rfl, _, _, _, _, false, rfl, ClsV.ty _, TyX.base (.int i), kit_ty (by decide +kernel), false, rfl, iteT (iteT (one_q fun d hd => hw H d kp0 hd))⟩
      · exact ⟨_, rfl, _, _, _, _, false, rfl, ClsV.ty _, TyX.base (.tup e), kit_ty (by decide +kernel), false, rfl, iteT (iteT (one_q fun d hd => hw H d kp0 hd))⟩
      · refine ⟨_, rfl, _, _, _, _, true, rfl, ClsV.ty _, TyX.base (.lst e), kit_ty (by decide +kernel), true, rfl, iteF ?_⟩
        exact ⟨_, rfl, false, .inl ⟨[], SqL.of e, rfl⟩, iteT (one_q fun d hd => hw H d kp0 hd)⟩
    · refine ⟨_, rfl, _, _, _, _, true, rfl, ClsV.ty _, TyX.base (.lst hl), kit_ty (by decide +kernel), true, rfl, iteF ?_⟩
      refine ⟨_, rfl, true, .inl ⟨us, SqL.of hl, ?_⟩, iteF ?_⟩
      · cases us with
        | nil => exact absurd rfl hne
        | cons a r => rfl
      refine ⟨_, rfl, l, us, rfl, .inl (.inl (.of hl)), us.length, rfl, by omega, by omega, for_it (walk_range (lo := 0) (n := us.length)) (fun i σ Ha => (∃ v2, σ = [some (.ref q), some (.ref l), v2]) ∧ Kp T H Ha ∧ i ≤ j) ⟨⟨_, rfl⟩, kp0, Nat.zero_le _⟩ (fun _ _ _ _ _ => trivial) ?_ ?_⟩
      · rintro i y σ Ha0 Ha hi ⟨⟨v2, rfl⟩, ka, hij⟩ ⟨rfl, ex⟩
        have ex2 : y = V.int (i : Int) := by
          rw [ex]
          show V.int (0 + (i : Int)) = _
          rw [Int.zero_add]
        clear ex
        subst ex2
        obtain ⟨v, hv⟩ : ∃ v, us[i]? = some v := ⟨_, List.getElem?_eq_getElem hi⟩
        have hla := ka.obj ht hl
        have txa : TextAt Ha q rs := by
          obtain ⟨ps, h1, h2⟩ := tx
          exact ⟨ps, ka.obj ht h1, Paired.mapP h2 fun _ _ e => ka.obj ht e⟩
        refine ⟨_, rfl, rfl, ?_⟩
        have hi200 : i ≤ 200 := by omega
        by_cases h200 : i = 200
        · subst h200
          refine ⟨_, rfl, iteT (iteT ?_)⟩
          obtain rfl : j = 200 := by omega
          rcases hx with ⟨e, _⟩ | ⟨hb, hw⟩
          · omega
          · exact ⟨_, rfl, one_q fun d hd => hw Ha d ka hd⟩
        · have e1 : decide (V.int (i : Int) = V.int 200) = false := decide_eq_false fun z => h200 (by have := V.int.inj z; omega)
          rw [e1]
          refine ⟨_, rfl, iteF ?_⟩
          have hlen : (ss.take i).length = i := by rw [List.length_take, hg.len]; omega
          have aha := (hg.ah.kp ht ka).take (j := i)
          by_cases hij2 : i < j
          · have sv := (hg.ok i v hij2 hv).kp ht ka
            refine ⟨_, rfl, _, rfl, _, rfl, q, l, rs, us, ss.take i, v, true, by rw [hlen]; rfl, txa, hrl, hro, hla, hul, aha, by rw [hlen]; exact hv, sv, ka.tab, fun H3 k3 => ⟨_, rfl, iteF ⟨⟨_, rfl⟩, ka.trans k3, hij2⟩⟩⟩
          · obtain rfl : i = j := by omega
            rcases hx with ⟨e, _⟩ | ⟨hb, hw⟩
            · omega
            · rcases hb with ⟨e, _⟩ | ⟨v', hv', sb⟩
              · exact absurd e h200
              · obtain rfl : v' = v := Option.some.inj (hv'.symm.trans hv)
                have et : ss.take i = ss := List.take_of_length_le (Nat.le_of_eq hg.len)
                rw [et] at hlen aha
                refine ⟨_, rfl, _, rfl, _, rfl, q, l, rs, us, ss, v', false, by rw [hlen]; rfl, txa, hrl, hro, hla, hul, aha, by rw [hlen]; exact hv, sb.kp ht ka, ka.tab, fun H3 k3 => ⟨_, rfl, iteT ?_⟩⟩
                exact ⟨_, rfl, one_q fun d hd => hw H3 d (ka.trans k3) hd⟩
      · rintro σ Ha ⟨⟨v2, rfl⟩, ka, hij⟩
        rcases hx with ⟨rfl, k⟩ | ⟨hb, hw⟩
        · exact k Ha ka
        · exfalso
          rcases hb with ⟨h1, h2⟩ | ⟨v, h1, _⟩
          · have := hg.le
            omega
          · have := (List.getElem?_eq_some_iff.mp h1).1
            omega
end
end Ah
end
section
set_option Elab.async false
set_option linter.all false
set_option maxRecDepth 100000
set_option maxHeartbeats 2000000
/-! {elt for tg in iter if ..}, elt an int. -/
namespace L2
open PySem PySem.Spec PyProof.Rows PpSet
section
variable {prog : Program} {w : World} {A : Around} {R : Result → Shared → Prop} {s : Shared} {elt t0 i0 : Expr} {f0 : List Expr} {scope : Scope} {pos : Pos} {it acc : Value} {env : Env}
abbrev Sc1 (elt t0 i0 : Expr) (f0 : List Expr) (scope : Scope) (pos : Pos) : Expr := .SetComp elt [⟨t0, i0, f0, 0⟩] scope pos
theorem sc1_turn : compTurn (Sc1 elt t0 i0 f0 scope pos) 0 it acc env = (do
      standAt i0.pos
      match ← pyNext it with
      | none => pure (.done .next)
      | some v =>
        letOwnedTupleGo t0 it v
        assign t0 env v
        let mut ok := true
        for c in f0 do
          if ok then ok ← isTrue c env (eval c env)
        if ok then
          (do let v ← eval elt env; standAt elt.pos; let _ ← call (.builtin "set.add") [acc, v])
        again (.compLoop (Sc1 elt t0 i0 f0 scope pos) 0 it acc env)) := by rfl
theorem sc1_in (I : Nat → Shared → Prop)
    (turn : ∀ n s, I n s → wpAny (model prog w) A (pyNext it) (fun r s₁ => match r with
      | none => R (.ok .next) s₁
      | some v => wpAny (model prog w) A (letOwnedTupleGo t0 it v) (fun _ s₁' => wpAny (model prog w) A (assign t0 env v) (fun _ s₂ =>
          wpAny (model prog w) A (forIn f0 true fun c r => if r = true then do let ok ← isTrue c env (eval c env); pure (ForInStep.yield ok) else pure (ForInStep.yield r)) (fun ok s₃ =>
            if ok = true then wpAny (model prog w) A (eval elt env) (fun x s₄ =>
              wpAny (model prog w) A (call (.builtin "set.add") [acc, x]) (fun _ s₅ => ∃ m, m < n ∧ I m s₅) (notedBy (model prog w) A env fun e s' => R (.error e) s') s₄) (notedBy (model prog w) A env fun e s' => R (.error e) s') s₃
            else ∃ m, m < n ∧ I m s₃) (notedBy (model prog w) A env fun e s' => R (.error e) s') s₂) (notedBy (model prog w) A env fun e s' => R (.error e) s') s₁') (notedBy (model prog w) A env fun e s' => R (.error e) s') s₁) (notedBy (model prog w) A env fun e s' => R (.error e) s') s)
    (n : Nat) (h : I n s) : codeAny (model prog w) A (.compLoop (Sc1 elt t0 i0 f0 scope pos) 0 it acc env) R s := by
  refine codeAny_loop rfl I (fun n s hI => ?_) n h
  show wpAny _ A ((compTurn (Sc1 elt t0 i0 f0 scope pos) 0 it acc env).onRaise (fun x => do noteFrame x env; theTreesLotGoes x)) _ _ s
  refine wpAny_noted ?_
  rw [sc1_turn]
  refine wpAny_bind (wpAny_standAt (wpAny_bind (wpAny_mono (turn n s hI) (fun r s₁ h₁ => ?_) fun _ _ h' => h')))
  cases r with
  | none => exact wpAny_pure h₁
  | some v =>
    refine wpAny_bind (wpAny_mono h₁ (fun _ s₁' h₁' => ?_) fun _ _ h' => h')
    refine wpAny_bind (wpAny_mono h₁' (fun _ s₂ h₂ => wpAny_bind (wpAny_mono h₂ (fun ok s₃ h₃ => ?_) fun _ _ h' => h')) fun _ _ h' => h')
    cases ok with
    | false => exact wpAny_pure ⟨rfl, h₃⟩
    | true =>
      exact wpAny_bind (wpAny_bind (wpAny_mono h₃ (fun x s₄ h₄ => wpAny_bind (wpAny_standAt (wpAny_bind (wpAny_mono h₄ (fun _ s₅ h₅ => wpAny_pure (wpAny_pure ⟨rfl, h₅⟩)) fun _ _ h' => h')))) fun _ _ h' => h'))
end
section
variable {X : Cx}
/-- D: the new set; vs: the block's names -/
def tSc1 (w : World) (wi : TI) (g : TG) (tt : TT) (te : TE) (vs : List Nat) : TE := fun σ H Q => wi σ H fun J H1 => ∀ D, H1 D = none → ∃ W : Nat → Nat → Hp → Prop, (∃ m, W 0 m (upd H1 D (SetO w D (fun _ => false) 0))) ∧ ∀ i m H, W i m H →
  (J.stop i H ∧ Q (.ref D) H) ∨ (J.go i H ∧ ∃ Nx : Hp → Prop, (∀ H', Nx H' → ∃ m', m' < m ∧ W (i + 1) m' H') ∧ ∀ x H', J.yld i H x H' → g x (wipe σ vs) H' fun σ2 H2 => wipe σ2 vs = wipe σ vs ∧ tt σ2 H2 fun b H3 =>
    if b = true then te σ2 H3 fun y H4 => ∃ (k : Int) (S : Int → Bool) (n : Nat), y = .int k ∧ H4 D = some (SetO w D S n) ∧ n + 1 < scanBound ∧ Nx (upd H4 D (SetO w D (fun j => S j || decide (j = k)) (if S k = true then n else n + 1))) else Nx H3)
theorem sc1_core {pins : List (Addr × Obj)} {s : Shared} {σ : St} {H : Hp} {Q : VK} {elt tg iter : Expr} {ifs : List Expr} {scope : Scope} {own : List (Str × Nat)} {pos pos' : Pos} {wi : TI} {g : TG} {tt : TT} {te : TE} {use : Option (Value → Sem Unit)} {Qf : Value → Shared → Prop}
    (hc : X.calm = true) (hN : X.N.Nodup) (I : Inv X pins σ H s) (hi : PI X tg iter wi) (ok : BlkOk X.N X.env.scope scope own)
    (hg : ∀ (s : Shared) (H : Hp) (C : Addr) (cl : List (Str × Addr)) (fp : List Addr), PG (X.blk s H scope (compEnvC scope cl C X.env) fp) tg g) (ht : ∀ (s : Shared) (H : Hp) (C : Addr) (cl : List (Str × Addr)) (fp : List Addr), PTs (X.blk s H scope (compEnvC scope cl C X.env) fp) ifs tt)
    (he : ∀ (s : Shared) (H : Hp) (C : Addr) (cl : List (Str × Addr)) (fp : List Addr), PE (X.blk s H scope (compEnvC scope cl C X.env) fp) elt te) (hs : ∀ x, foldedSetIterable iter X.env x = pure x)
    (h : tSc1 X.w wi g tt te (own.map (·.2)) σ H Q)
    (hRR : ∀ D C s' m H', Inv X pins σ H' s' → Q (.ref D) H' → s'.heap.Ns C m → FpOk X pins H' C → compPost (model X.prog X.w) X.A X.xe use Qf (.ref D) C (.ok .next) s') :
    wpAny (model X.prog X.w) X.A (comprehension (Sc1 elt tg iter ifs scope pos) scope X.env pos' (newSet (.type "set")) false (eval iter X.env) use) Qf X.xe s := by
  have hfree : ∀ y ∈ scope.names, y.2 = .free → ∃ c, X.env.cells.lookup y.1 = some c := fun y hy e => by
    rcases ok.free y hy e with k | k
    · exact I.ok.has _ (.inl k)
    · exact I.ok.has _ (.inr k)
  refine wpAny_comprehension_free (use := use) rfl hs (closure_ok hfree) ok.kind (fun y hy e => by rw [ok.uniq y hy, e])
    (thn (hi.run pins s σ H _ I h) fun xv s1 hx => thn hx fun itv s2 h2 => ?_)
  obtain ⟨it, fp, tn, J, H2, e, I2, T, st2, f2, q⟩ := h2
  subst e
  refine newSet_ok (newEnv_comp ?_)
  generalize hD : s2.heap.objs.size = D
  have hDn : H2 D = none := I2.hok.fresh (Nat.le_of_eq hD)
  obtain ⟨W, ⟨m0, w0⟩, turn⟩ := q D hDn
  generalize hs3 : ({ s2 with heap := s2.heap.push { cls := .type "set", dict := none, data := .set #[] 0 (.fresh 0 0 (!X.w.params.followText "set-order")) } } : Shared) = s3
  generalize hO : SetO X.w D (fun _ => false) 0 = O at w0
  have I3 : Inv X pins σ (upd H2 D O) s3 := by
    rw [← hs3, ← hO]
    refine I2.laid (t' := s2.toks) (fun b o e => Heap.get?_push_of_some _ e) (Nat.le_of_eq hD) ?_
    rw [← hD]
    exact setO_new (setR_fresh X.w)
  have h3 : s3.heap = s2.heap.push { cls := .type "set", dict := none, data := .set #[] 0 (.fresh 0 0 (!X.w.params.followText "set-order")) } := by rw [← hs3]
  have sz : ∀ b ∈ fp, b < s2.heap.objs.size := fun b hb => by
    obtain ⟨o, e, _⟩ := T.obj _ _ st2 b hb
    exact Heap.lt_size e
  have f3 : ∀ b ∈ fp, FpOk X pins (upd H2 D O) b ∧ b < s3.heap.objs.size := fun b hb => by
    have hlt := sz b hb
    refine ⟨⟨?_, (f2 b hb).2⟩, by rw [h3, Heap.size_push]; exact Nat.lt_succ_of_lt hlt⟩
    rw [upd_ne (by rw [← hD]; exact Nat.ne_of_lt hlt)]
    exact (f2 b hb).1
  have st3 : tn 0 s3.heap := T.keep _ _ _ st2 fun b _ o e => by rw [h3]; exact Heap.get?_push_of_some _ e
  have I4 := block_start I3 ok hN f3
  generalize hcl : cellsFrom (s3.heap.objs.size + 1) scope.names (cloFrom X.env.cells scope.names []) = cl at I4
  have pg := hg s3 (upd H2 D O) s3.heap.objs.size cl fp
  have pt := ht s3 (upd H2 D O) s3.heap.objs.size cl fp
  have pe := he s3 (upd H2 D O) s3.heap.objs.size cl fp
  show codeAny _ _ (.compStart (Sc1 elt tg iter ifs scope pos) 0 (.ref it) (.ref D) (compEnvC scope cl s3.heap.objs.size X.env)) (compPost (model X.prog X.w) X.A X.xe use Qf (.ref D) s3.heap.objs.size) { s3 with heap := pushCells (s3.heap.push { cls := .type "dict", data := .dict #[] }) scope.names }
  have nfp : ∀ b ∈ fp, (upd H2 D O) b = none := fun b hb => (f3 b hb).1.1
  generalize hce : compEnvC scope cl s3.heap.objs.size X.env = ce at I4 pg pt pe ⊢
  have cL : ce.locals = s3.heap.objs.size := by subst hce; rfl
  generalize hH3 : upd H2 D O = H3 at I3 I4 pg pt pe w0 nfp f3
  generalize hs4 : ({ s3 with heap := pushCells (s3.heap.push { cls := .type "dict", data := .dict #[] }) scope.names } : Shared) = s4 at I4 ⊢
  have st4 : tn 0 s4.heap := T.keep _ _ _ st3 fun b _ o e => by rw [← hs4]; exact pushCells_keeps _ _ _ _ (Heap.get?_push_of_some _ e)
  have stat : ∀ {σ' : St} {H' : Hp} {s' : Shared}, Inv (X.blk s3 H3 scope ce fp) [] σ' H' s' → (∀ b ∈ fp, H' b = none) → ∀ b ∈ fp, FpOk (X.blk s3 H3 scope ce fp) [] H' b := fun {σ' H' s'} I' hn b hb =>
    ⟨hn b hb, (I'.ok.exf b hb).1, I'.ok.exfs b hb, .inl hb, fun x c e => (I'.ok.exf b hb).2 x c e, fun p hp => absurd (show p ∈ ([] : List (Addr × Obj)) ++ [] from hp) (by simp)⟩
  have loop : codeAny (model X.prog X.w) X.A (.compLoop (Sc1 elt tg iter ifs scope pos) 0 (.ref it) (.ref D) ce) (compPost (model X.prog X.w) X.A X.xe use Qf (.ref D) s3.heap.objs.size) s4 := by
    refine sc1_in (fun n s' => ∃ i H', Inv (X.blk s3 H3 scope ce fp) [] (wipe σ (own.map (·.2))) H' s' ∧ tn i s'.heap ∧ (∀ b ∈ fp, H' b = none) ∧ W i n H') ?_ m0 ⟨0, H3, I4, st4, nfp, w0⟩
    rintro n s5 ⟨i, H5, I5, st5, n5, w5⟩
    rcases turn i n H5 w5 with ⟨stop, qq⟩ | ⟨go, Nx, hNx, step⟩
    · refine thnF (T.done (X.blk s3 H3 scope ce fp) rfl rfl rfl hc i [] s5 _ H5 (fun _ _ => False) I5 (stat I5 n5) st5 stop) fun r s6 ⟨hr, I6⟩ => ?_
      subst hr
      have I7 : Inv X pins σ H5 s6 := I3.call' (ch := fp) I6.os I6.base I6.hok I6.bare fun b hb => ⟨(f3 b hb).1.2.2.2.1, (f3 b hb).1.2.1, (f3 b hb).1.2.2.2.2.1, (f3 b hb).1.2.2.2.2.2⟩
      have nC : H5 s3.heap.objs.size = none := by
        have z : H5 ce.locals = none := I6.free
        rw [cL] at z
        exact z
      obtain ⟨m, hn, _⟩ := I6.loc
      have hn : s6.heap.Ns ce.locals m := hn
      rw [cL] at hn
      exact hRR D s3.heap.objs.size s6 m H5 I7 qq hn (I3.fpOk (Nat.le_refl _) nC)
    · refine thnF (T.item (X.blk s3 H3 scope ce fp) rfl rfl rfl hc i [] s5 _ H5 (fun _ _ => False) I5 (stat I5 n5) st5 go) fun r s6 ⟨u, hr, h6⟩ => ?_
      subst hr
      refine thnF h6 fun _ s7 ⟨x, H7, I7, r7, y7, st7, n7⟩ => ?_
      have I7' := I7.pinned (stat I7 n7) (T.obj _ _ st7)
      refine thnF (pg.run _ s7 _ H7 x u _ I7' r7 (step x H7 y7)) fun _ s8 ⟨σ8, H8, I8, hw8, q8⟩ => ?_
      refine thnF (pt.run _ s8 σ8 H8 _ I8 q8) fun b s9 ⟨H9, I9, q9⟩ => ?_
      have fin : ∀ {σ9 : St} {s' : Shared} {H' : Hp}, Inv (X.blk s3 H3 scope ce fp) ([] ++ pinsAt fp s7.heap) σ9 H' s' → (wipe σ (own.map (·.2))).length = σ9.length → (∀ (j : Nat) v, (wipe σ (own.map (·.2)))[j]? = some (some v) → σ9[j]? = some (some v)) → Nx H' →
          ∃ m, m < n ∧ ∃ i H', Inv (X.blk s3 H3 scope ce fp) [] (wipe σ (own.map (·.2))) H' s' ∧ tn i s'.heap ∧ (∀ b ∈ fp, H' b = none) ∧ W i m H' := fun {σ9 s' H'} I' hl hk nx => by
        obtain ⟨m', hm, w'⟩ := hNx H' nx
        have pin' : ∀ b ∈ fp, ∀ o, s7.heap.get? b = some o → s'.heap.get? b = some o ∧ H' b = none := fun b hb o e =>
          let z := I'.pin (b, o) (List.mem_append_right _ (List.mem_append_right _ (mem_pinsAt hb e)))
          ⟨z.1, z.2.1⟩
        refine ⟨m', hm, i + 1, H', (I'.unpinned (pins := [])).weak hl hk, T.keep _ _ _ st7 fun b hb o e => (pin' b hb o e).1, fun b hb => ?_, w'⟩
        obtain ⟨o, e, _⟩ := T.obj _ _ st7 b hb
        exact (pin' b hb o e).2
      have hl8 : (wipe σ (own.map (·.2))).length = σ8.length := by rw [← hw8, wipe_length]
      have hk8 : ∀ (j : Nat) v, (wipe σ (own.map (·.2)))[j]? = some (some v) → σ8[j]? = some (some v) := fun j v e => by
        rw [← hw8] at e
        exact (wipe_some e).1
      cases b with
      | false =>
        simp only [Bool.false_eq_true, if_false] at q9 ⊢
        exact fin I9 hl8 hk8 q9
      | true =>
        simp only [if_true] at q9 ⊢
        refine thnF (pe.run _ s9 σ8 H9 _ I9 q9) fun z s10 ⟨yv, H10, I10, r10, k, S, nn, ey, hD10, hz10, nx⟩ => ?_
        subst ey
        obtain ⟨tz, rfl⟩ := r10
        refine thnF (mt_sadd (X := X.blk s3 H3 scope ce fp) _ s10 σ8 H10 (.ref D) [.int k] (.ref D) [.int k tz] (fun v H' => v = .non ∧ Nx H') I10 rfl (.cons ⟨tz, rfl⟩ .nil) ⟨D, k, S, nn, rfl, rfl, hD10, hz10, rfl, nx⟩) fun _ s11 ⟨x, H11, I11, _, _, nx⟩ => ?_
        exact fin I11 hl8 hk8 nx
  exact codeAny_compStart_set loop (T.self X.A 0 _ _ _ st4 loop)
theorem pe_sc1 {elt tg iter : Expr} {ifs : List Expr} {scope : Scope} {own : List (Str × Nat)} {pos : Pos} {wi : TI} {g : TG} {tt : TT} {te : TE} (hc : X.calm = true) (hN : X.N.Nodup) (hi : PI X tg iter wi) (ok : BlkOk X.N X.env.scope scope own)
    (hg : ∀ (s : Shared) (H : Hp) (C : Addr) (cl : List (Str × Addr)) (fp : List Addr), PG (X.blk s H scope (compEnvC scope cl C X.env) fp) tg g) (ht : ∀ (s : Shared) (H : Hp) (C : Addr) (cl : List (Str × Addr)) (fp : List Addr), PTs (X.blk s H scope (compEnvC scope cl C X.env) fp) ifs tt)
    (he : ∀ (s : Shared) (H : Hp) (C : Addr) (cl : List (Str × Addr)) (fp : List Addr), PE (X.blk s H scope (compEnvC scope cl C X.env) fp) elt te) (hs : ∀ x, foldedSetIterable iter X.env x = pure x := by intro _; rfl) :
    PE X (Sc1 elt tg iter ifs scope pos) (tSc1 X.w wi g tt te (own.map (·.2))) := by
  refine ⟨fun pins s σ H Q I h => ?_⟩
  rw [eval_SetComp]
  refine sc1_core hc hN I hi ok hg ht he hs h fun D C s' m H' I' q hn f => ⟨m, hn, fun h'' sb => ?_⟩
  obtain ⟨f0, f1, f2, f3, f4, f5⟩ := f
  exact ⟨.ref D, H', I'.turned (t' := s'.toks) (fun b o hb e => (sb.2 b hb).trans e) f0 f1 f3 f4 f5, rfl, q⟩
end
end L2
end
section
set_option Elab.async false
set_option linter.all false
set_option maxRecDepth 100000
set_option maxHeartbeats 4000000
namespace Ah
open PySem PySem.Spec PyProof.Rows L2
open GxR (TabB TabG Tabbed)
open GxG EnT
/-! ### read_steps -/
theorem len_sub6 {α : Type} : ∀ (l m : List α), l.Nodup → (∀ x ∈ l, x ∈ m) → l.length ≤ m.length
  | [], _, _, _ => Nat.zero_le _
  | a :: l, m, hn, h => by
    obtain ⟨m1, m2, e⟩ := List.append_of_mem (h a (List.mem_cons_self ..))
    subst e
    obtain ⟨h1, h2⟩ := List.nodup_cons.mp hn
    have ih := len_sub6 l (m1 ++ m2) h2 fun x hx => by
      have q := h x (List.mem_cons_of_mem _ hx)
      rcases List.mem_append.mp q with z | z
      · exact List.mem_append_left _ z
      · rcases List.mem_cons.mp z with rfl | z
        · exact absurd hx h1
        · exact List.mem_append_right _ z
    rw [List.length_append] at ih ⊢
    rw [List.length_cons, List.length_cons]
    omega
/-- the steps' rows' numbers -/
def NumsAt (H : Hp) (us : List V) (ns : List Nat) : Prop := Paired (fun u (n : Nat) => ∃ a x av, u = .ref a ∧ H a = some (.tup [x, .int (n : Int), av])) us ns
theorem NumsAt.kp {T : List Addr} {H H' : Hp} {us : List V} {ns : List Nat} (ht : ∀ P ∈ T, TabG H P) (k : Kp T H H') (h : NumsAt H us ns) : NumsAt H' us ns := Paired.mapP h fun _ _ ⟨a, x, av, e, q⟩ => ⟨a, x, av, e, k.obj ht q⟩
def spRead (T : List Addr) (C : Addr) : Sp := fun vs H Q E => ∃ (q : Addr) (rs : List Rw) (v : V), vs = [.ref q, v] ∧ TextAt H q rs ∧ rs.length ≤ 24 ∧ (∀ r ∈ rs, okW r.ws) ∧ (∀ r ∈ rs, isRowL (r.ws.map V.str) = true ∧ ∀ z ∈ r.ws, z.length ≤ 100) ∧ (∀ P ∈ T, TabG H P) ∧
  ((NoSteps H v ∧ wRow E C T H 0) ∨ ∃ (l : Addr) (us : List V) (ss : List Say) (j : Nat), v = .ref l ∧ H l = some (.lst us) ∧ us ≠ [] ∧ us.length ≤ 1000 ∧ j ≤ 200 ∧ GoodTo H rs us ss j ∧
    ((j = us.length ∧ ∃ ns, NumsAt H us ns ∧ (∀ n ∈ ns, n < 24) ∧ ∀ (t sa p : Addr) (ms : List Int) (H' : Hp) (s : Say), Kp T H H' → H' t = some (.tup [.ref sa, .ref p]) → ss[ss.length - 1]? = some s → (∃ a nv av, us[us.length - 1]? = some (.ref a) ∧ H a = some (.tup [.ref sa, nv, av])) → H' p = some (.lst (ms.map V.int)) → ms.Pairwise (· < ·) → (∀ k : Int, k ∈ ms ↔ ∃ n ∈ ns, k = (n : Int)) → Q (.ref t) H') ∨
     (((j = 200 ∧ j < us.length) ∨ ∃ v, us[j]? = some v ∧ StepV H rs ss v false) ∧ wRow E C T H j)))
theorem scRd : FnScope ["rows", "steps", "_", "number"] ["rows", "steps"] (defScope sReadSteps) := ⟨rfl, rfl, rfl, by decide +kernel, rfl, by decide +kernel, by decide +kernel⟩
theorem at_last {xs : List V} {v : V} (h : xs[xs.length - 1]? = some v) : atI xs (-1) = some v := by
  have hl := (List.getElem?_eq_some_iff.mp h).1
  unfold atI ixN
  rw [if_neg (by omega), if_pos (by omega)]
  show xs[(-1 + (xs.length : Int)).toNat]? = _
  rw [show (-1 + (xs.length : Int)).toNat = xs.length - 1 by omega]
  exact h
section
variable {P : Program} {w : World} {K : PySem.W.Frag} {mg : Str → Option Value} {base : Heap} {f fC fS C : Addr} {fd fdC fdS : FuncData} {T : List Addr}
theorem ok_readsteps (F : FnP K "read_steps" sReadSteps f fd) (B : Bl mg) (cC : Own P w K mg base "check_text" 6 fC fdC ["rows"] (spCheck0 K T)) (gS : mg "check_steps" = some (.ref fS)) (FS : FnOk P w K mg base (L2.CX P w) 8 fS fdS ["rows", "steps"] (spSteps T C)) (kS : PySem.W.keepIn K (.ref fS) = true) (bS : Binds K fdS ["rows", "steps"] []) :
    FnOk P w K mg base (L2.CX P w) 9 f fd ["rows", "steps"] (spRead T C) := by
  refine F.ok scRd (fun vs H Q E h => ?_) (fun cdv A outer s H vs Q E hr h => ?_)
  · obtain ⟨q, rs, v, rfl, _⟩ := h
    rfl
  · obtain ⟨q, rs, v, rfl, tx, hrl, hro, hrw, ht, h⟩ := h
    refine ⟨_, pss_cons (ps_expr (pe_call cC.ok (hr.mono (by decide)) (by rfl) cC.g cC.kp cC.b .nil pass0 (pa_cons (pv 0) pa_nil)))
      (pss_cons (ps_expr (pe_call FS hr (by rfl) gS kS bS .nil (passes_call (takes_of rfl rfl rfl rfl) (fun _ _ _ _ h => h)) (pa_cons (pv 0) (pa_cons (pv 1) pa_nil))))
      (pss_one (ps_ret (pe_tup (pa_cons (pe_ix (show IxR _ (rIxT K) from ix_tup) (pe_ix (show IxR _ (rIxL K) from ix_list) (pv 1) (pe_un un_neg pe_int) (fun _ _ => rfl)) pe_int (fun _ _ => rfl)) (pa_cons (pe_callB (cr_sortedSet rfl) (by rfl) B.sorted_ (by decide +kernel) (pa_cons
          (pe_sc1 (own := [("_", 2), ("number", 3)]) rfl scRd.nd (pi_list (pv 1)) (blkOk_by (N := ["rows", "steps", "_", "number"]) (sc := defScope sReadSteps) (by decide +kernel)) (g := gTup K 3 (gCons (gName 2) (gCons (gName 3) (gCons (gName 2) gNil)))) (fun _ _ _ _ _ => (pg_tup rfl (pgs_cons (pg_name (i := 2) scRd.nd rfl (Or.inl rfl)) (pgs_cons (pg_name (i := 3) scRd.nd rfl (Or.inl rfl)) (pgs_cons (pg_name (i := 2) scRd.nd rfl (Or.inl rfl)) pgs_nil))))) (fun _ _ _ _ _ => pts_nil) (fun _ _ _ _ _ => pv 3)) pa_nil)) pa_nil)))))), ?_⟩
    obtain ⟨ps, hq, hps⟩ := id tx
    have lps : ps.length = rs.length := hps.length
    refine ⟨_, rfl, q, ps.map V.ref, rfl, hq, by rw [List.length_map]; omega, fun u hu => ?_, ht, fun H1 k1 => ?_⟩
    · obtain ⟨a, ha, rfl⟩ := List.mem_map.mp hu
      obtain ⟨i, hi⟩ := List.mem_iff_getElem?.mp ha
      obtain ⟨r, er, hr1⟩ := paired_at hps hi
      obtain ⟨e1, e2⟩ := hrw r (List.mem_of_getElem? er)
      refine .inr ⟨a, _, rfl, .inl (.of hr1), ?_, fun x hx => ?_, e1.symm⟩
      · rw [List.length_map]
        exact Nat.le_trans (show r.ws.length ≤ 10 by cases r <;> simp [Rw.ws]) (by decide)
      · obtain ⟨z, hz, rfl⟩ := List.mem_map.mp hx
        exact .inl ⟨z, rfl, Nat.le_trans (e2 z hz) (by decide)⟩
    have tx1 : TextAt H1 q rs := ⟨ps, k1.obj ht hq, Paired.mapP hps fun _ _ e => k1.obj ht e⟩
    have wk : ∀ {j : Nat}, wRow E C T H j → wRow E C T H1 j := fun hw H2 d k2 hd => hw H2 d (k1.trans k2) hd
    rcases h with ⟨hn, hw⟩ | ⟨l, us, ss, j, rfl, hl, hne, hul, hj, hg, hx⟩
    · refine ⟨_, rfl, _, rfl, q, rs, v, rfl, tx1, hrl, hro, k1.tab, .inl ⟨?_, wk hw⟩⟩
      rcases hn with h | h | ⟨a, xs, e, h⟩ | ⟨a, e, h⟩
      · exact .inl h
      · exact .inr (.inl h)
      · exact .inr (.inr (.inl ⟨a, xs, e, k1.obj ht h⟩))
      · exact .inr (.inr (.inr ⟨a, e, k1.obj ht h⟩))
    refine ⟨_, rfl, _, rfl, q, rs, .ref l, rfl, tx1, hrl, hro, k1.tab, .inr ⟨l, us, ss, j, rfl, k1.obj ht hl, hne, hul, hj, hg.kp ht k1, ?_⟩⟩
    rcases hx with ⟨rfl, ns, hns, hlt, k⟩ | ⟨hb, hw⟩
    rotate_left
    · refine .inr ⟨?_, wk hw⟩
      rcases hb with h | ⟨v, hv, sv⟩
      · exact .inl h
      · exact .inr ⟨v, hv, sv.kp ht k1⟩
    refine .inl ⟨rfl, fun H2 k2 => ?_⟩
    have k02 := k1.trans k2
    have hl2 := k02.obj ht hl
    have ns2 := hns.kp ht k02
    have hpos : 0 < us.length := List.length_pos_iff.mpr hne
    have hgl := hg.len
    obtain ⟨s, hs⟩ : ∃ s, ss[ss.length - 1]? = some s := ⟨_, List.getElem?_eq_getElem (by omega)⟩
    obtain ⟨a, sa, nv, av, u1, u2, u3, _⟩ := hg.ah _ s hs
    rw [hgl] at u1
    have u22 := k02.obj ht u2
    refine ⟨_, rfl, 1, rfl, l, us, _, .ref a, rfl, rfl, SqL.of hl2, at_last u1, a, _, 0, .ref sa, rfl, rfl, SqT.of u22, at_of (j := 0) rfl rfl, _, rfl, l, rfl, ⟨us, .inl (.of hl2)⟩, fun D nD => ?_⟩
    have lns : us.length = ns.length := hns.length
    refine walk_W (walk_list (K := K) (a := l) (xs := us)) (fun i Ha => ∃ (L : List Nat) (S : Int → Bool) (nn : Nat), Ha D = some (SetO w D S nn) ∧ L.Nodup ∧ L.length = nn ∧ (∀ k : Int, S k = true ↔ ∃ n ∈ L, k = (n : Int)) ∧ (∀ n, n ∈ L ↔ n ∈ ns.take i) ∧ Kept [] H2 Ha)
      ⟨[], _, 0, upd_same, List.nodup_nil, rfl, (fun k => by simp), (fun n => by simp), (Kept.refl _).upd nD⟩ (fun i Ha _ pv => ?_) ?_ ?_
    · obtain ⟨_, _, _, _, _, _, _, _, kk⟩ := pv
      exact .inl (.of (kk _ _ hl2 (by simp)))
    · rintro i y Ha0 Ha hi ⟨L, S, nn, eD, nd, rfl, hS, hL, kk⟩ ⟨rfl, ey⟩
      obtain ⟨n, en, a', x', av', rfl, ha'⟩ := paired_at ns2 ey
      have hL24 : L.length ≤ 24 := by
        have := len_sub6 L (List.range 24) nd fun m hm => List.mem_range.mpr (hlt m (List.mem_of_mem_take ((hL m).mp hm)))
        rw [List.length_range] at this
        exact this
      refine ⟨a', _, rfl, .inl (.of (kk _ _ ha' (by simp))), rfl, _, _, rfl, _, _, rfl, _, _, rfl, rfl, ?_⟩
      refine ⟨rfl, yes_if ⟨_, rfl, (n : Int), S, L.length, rfl, eD, by unfold scanBound; omega, ?_⟩⟩
      have tk : ∀ m, m ∈ ns.take (i + 1) ↔ m ∈ ns.take i ∨ m = n := fun m => by
        rw [List.take_add_one, en, List.mem_append]
        simp
      by_cases hn : S (n : Int) = true
      · rw [if_pos hn]
        obtain ⟨m, hm, e⟩ := (hS _).mp hn
        obtain rfl : n = m := by omega
        refine ⟨L, _, L.length, upd_same, nd, rfl, fun k => ?_, fun m => ?_, Kept.far (Kept.refl H2) nD kk⟩
        · rw [Bool.or_eq_true, hS, decide_eq_true_eq]
          exact ⟨fun h => h.elim id fun e => ⟨n, hm, e⟩, .inl⟩
        · rw [tk, hL]
          exact ⟨.inl, fun h => h.elim id fun e => by rw [e]; exact (hL n).mp hm⟩
      · rw [if_neg hn]
        have nm : n ∉ L := fun h => hn ((hS _).mpr ⟨n, h, rfl⟩)
        refine ⟨n :: L, _, L.length + 1, upd_same, List.nodup_cons.mpr ⟨nm, nd⟩, rfl, fun k => ?_, fun m => ?_, Kept.far (Kept.refl H2) nD kk⟩
        · rw [Bool.or_eq_true, hS, decide_eq_true_eq]
          constructor
          · rintro (⟨m, h, e⟩ | e)
            · exact ⟨m, List.mem_cons_of_mem _ h, e⟩
            · exact ⟨n, List.mem_cons_self, e⟩
          · rintro ⟨m, h, e⟩
            rcases List.mem_cons.mp h with rfl | h
            · exact .inr e
            · exact .inl ⟨m, h, e⟩
        · rw [tk, List.mem_cons, hL]
          exact Or.comm
    · rintro Ha ⟨L, S, nn, eD, nd, rfl, hS, hL, kk⟩
      have hL24 : L.length ≤ 24 := by
        have := len_sub6 L (List.range 24) nd fun m hm => List.mem_range.mpr (hlt m (List.mem_of_mem_take ((hL m).mp hm)))
        rw [List.length_range] at this
        exact this
      rw [lns, List.take_of_length_le (Nat.le_refl _)] at hL
      refine ⟨D, S, L.length, rfl, eD, by omega, fun ms p hp hm hlen np => ⟨by show (2 : Nat) ≤ sizeLine; decide, fun t nt => ?_⟩⟩
      have kf := (kk.upd (o := .lst (ms.map V.int)) np).upd (o := .tup [.ref sa, .ref p]) nt
      refine k t sa p ms _ s (k02.trans (Kp.of' k02.tab kf)) upd_same hs ⟨a, nv, av, u1, u2⟩ (((Kept.refl (M := []) _).upd (o := .tup [.ref sa, .ref p]) nt) _ _ upd_same (by simp)) hp fun kk' => ?_
      rw [hm, hS]
      exact ⟨fun ⟨n, h, e⟩ => ⟨n, (hL n).mp h, e⟩, fun ⟨n, h, e⟩ => ⟨n, (hL n).mpr h, e⟩⟩
end
end Ah
end
section
set_option Elab.async false
set_option linter.all false
set_option maxRecDepth 100000
set_option maxHeartbeats 8000000
namespace Ah
open PySem PySem.Spec PyProof.Rows L2
/-! ### _law_saying -/
def SayTup (H : Hp) (v : V) (s : Say) : Prop := ∃ a, v = .ref a ∧ H a = some (.tup (s.ws.map V.str))
theorem SayTup.say {K : PySem.W.Frag} {H : Hp} {v : V} {s : Say} (h : SayTup H v s) : SayAt K H v s := let ⟨a, e, q⟩ := h; ⟨a, e, .inl (.of q)⟩
theorem SayTup.tk {H H' : Hp} {v : V} {s : Say} (k : TK H H') (h : SayTup H v s) : SayTup H' v s := let ⟨a, e, q⟩ := h; ⟨a, e, k.tup _ _ q⟩
theorem scLSay : FnScope ["_law_row_here", "_law_n", "_law_m"] ["_law_row_here"] (defScope lSaying) := ⟨rfl, rfl, rfl, by decide +kernel, rfl, by decide +kernel, by decide +kernel⟩
def spLSay (K : PySem.W.Frag) : Sp := fun vs H Q _ => ∃ (p a : Addr) (ns : List Int), vs = [.ref p] ∧ StAt K H p a ns ∧
  ∀ v s H', Say.few s → s ≠ .clash → StAt K H' p a ns → Kept [p] H H' → SayTup H' v s → Q v H'
section
variable {P : Program} {w : World} {K : PySem.W.Frag} {mg : Str → Option Value} {base : Heap} {f fT : Addr} {fd fdT : FuncData}
theorem ok_lsaying (F : FnP K "_law_saying" lSaying f fd) (c__law_taken : Own P w K mg base "_law_taken" 1 fT fdT ["_law_row_here", "_law_many"] (spTaken K)) :
    FnOk P w K mg base CX0 2 f fd ["_law_row_here"] (spLSay K) := by
  refine F.ok scLSay (fun vs H Q E h => ?_) (fun cdv A outer s H vs Q E hr h => ?_)
  · obtain ⟨p, a, ns, rfl, _⟩ := h
    rfl
  · obtain ⟨p, a, ns, rfl, S, k⟩ := h
    refine ⟨_, PSs.nox (pss_cons (ps_par (by rfl) scLSay.nd (i := 1) (j := 2) rfl rfl (by decide) rfl rfl (pa_cons (pe_ix ix_list (pe_lst (pa_cons pe_str (pa_cons pe_str (pa_cons pe_str pa_nil)))) (pe_call c__law_taken.ok hr (by rfl) c__law_taken.g c__law_taken.kp c__law_taken.b .nil pass0 (pa_cons (pv 0) (pa_cons pe_int pa_nil))) (fun _ _ => rfl)) (pa_cons (pe_ix ix_list (pe_lst (pa_cons pe_str (pa_cons pe_str (pa_cons pe_str pa_nil)))) (pe_call c__law_taken.ok hr (by rfl) c__law_taken.g c__law_taken.kp c__law_taken.b .nil pass0 (pa_cons (pv 0) (pa_cons pe_int pa_nil))) (fun _ _ => rfl)) pa_nil)) (by rfl))
      (pss_cons (ps_if (pt_cmpR op_eq (pe_call c__law_taken.ok hr (by rfl) c__law_taken.g c__law_taken.kp c__law_taken.b .nil pass0 (pa_cons (pv 0) (pa_cons pe_int pa_nil))) pe_int (nomark _))
        (pss_one (ps_ret (pe_tup (pa_cons pe_str (pa_cons (pv 1) (pa_cons (pe_ix ix_list (pe_lst (pa_cons pe_str (pa_cons pe_str (pa_cons pe_str pa_nil)))) (pe_call c__law_taken.ok hr (by rfl) c__law_taken.g c__law_taken.kp c__law_taken.b .nil pass0 (pa_cons (pv 0) (pa_cons pe_int pa_nil))) (fun _ _ => rfl)) pa_nil)))))) pss_nil)
      (pss_one (ps_ret (pe_tup (pa_cons pe_str (pa_cons (pv 1) (pa_cons (pe_ix ix_list (pe_lst (pa_cons pe_str (pa_cons pe_str pa_nil))) (pe_call c__law_taken.ok hr (by rfl) c__law_taken.g c__law_taken.kp c__law_taken.b .nil pass0 (pa_cons (pv 0) (pa_cons pe_int pa_nil))) (fun _ _ => rfl)) (pa_cons (pv 2) pa_nil))))))))), ?_⟩
    refine rd_pick (l := namesL) (valA_str (valA_str (valA_str valA_nil))) rfl (by decide) (by decide) rfl S fun n hn H1 S1 k1 => ?_
    refine rd_pick (l := namesL) (valA_str (valA_str (valA_str valA_nil))) rfl (by decide) (by decide) rfl S1 fun m hm H2 S2 k2 => ⟨_, _, rfl, ?_⟩
    refine ⟨_, rfl, p, a, ns, 2, rfl, S2, by decide, by decide, fun j H3 hj0 hj1 S3 k3 => ⟨rfl, _, rfl, ?_⟩⟩
    have fin : ∀ (H4 : Hp) (s : Say) (q : Addr), Say.few s → s ≠ .clash → StAt K H4 p a ns → Kept [p] H3 H4 → H4 q = none → s.ws.length ≤ 10 → Q (.ref q) (L2.upd H4 q (.tup (s.ws.map V.str))) := fun H4 s q h1 h2 h3 h4 h5 _ =>
      k _ s _ h1 h2 (h3.upd h5) ((((k1.trans k2).trans k3).trans h4).upd h5) ⟨q, rfl, upd_same⟩
    refine ite2 (fun hb => ?_) (fun hb => ?_)
    · refine ⟨_, rfl, ?_⟩
      refine rd_pick (l := kindsL) (valA_str (valA_str (valA_str valA_nil))) rfl (by decide) (by decide) rfl S3 fun c hc H4 S4 k4 => ⟨(by show 3 ≤ sizeLine; decide), fun q nq => ?_⟩
      exact fin H4 (.is n c) q ⟨hn, hc⟩ (fun z => nomatch z) S4 k4 nq (by show 3 ≤ 10; decide)
    · refine ⟨_, rfl, ?_⟩
      refine rd_pick (l := tiesL) (valA_str (valA_str valA_nil)) rfl (by decide) (by decide) rfl S3 fun t ht H4 S4 k4 => ⟨_, rfl, (by show 4 ≤ sizeLine; decide), fun q nq => ?_⟩
      exact fin H4 (.has n t m) q ⟨hn, ht, hm⟩ (fun z => nomatch z) S4 k4 nq (by show 4 ≤ 10; decide)
end
end Ah
end
section
set_option Elab.async false
set_option linter.all false
set_option maxRecDepth 100000
set_option maxHeartbeats 8000000
namespace Ah
open PySem PySem.Spec PyProof.Rows L2
/-! ### the law's own steps -/
def lawLed (r : Rw) (x : Say) : List Say :=
  match x with
  | .is n k => (match r with
    | .all a b => if a = k then [.is n b] else []
    | .each a b c => if a = k then [.has n b c] else []
    | _ => [])
  | .has n t m => (match r with
    | .turned a b => if a = t then [.has m b n] else []
    | .under a b => if a = t then [.has n b m] else []
    | .fr a b => if a = t then [.is n b] else []
    | .to a b => if a = t then [.is m b] else []
    | _ => [])
  | .clash => []
def lawBoth (r : Rw) (x y : Say) : List Say :=
  match r with
  | .on a => (match x, y with
    | .has n t m, .has n' t' m' => if t = a ∧ t' = a ∧ m = n' then [.has n a m'] else []
    | _, _ => [])
  | .who a b c => (match x with
    | .has n t m => if t = a ∧ y = .is m b then [.is n c] else []
    | _ => [])
  | _ => []
def SaysAt (K : PySem.W.Frag) (H : Hp) (p : Addr) (ls : List Say) : Prop := ∃ vs, H p = some (.lst vs) ∧ Paired (fun v s => SayTup H v s) vs ls
def MkT (te : TE) (σ : L2.St) (H0 : Hp) (s : Say) : Prop := ∀ H (Q : VK), Kept [] H0 H → (∀ v H', Kept [] H H' → SayTup H' v s → Q v H') → te σ H Q
theorem mk_newT {t : TA} {σ : L2.St} {H0 : Hp} {s : Say} (h : ValB t σ H0 (s.ws.map V.str)) : MkT (tTup t) σ H0 s := fun H Q k q => h H _ k ⟨by rw [List.length_map]; exact Nat.le_trans (show s.ws.length ≤ 10 by cases s <;> simp [Say.ws]) (by decide), fun p np =>
  q _ _ ((Kept.refl H).upd np) ⟨p, rfl, upd_same⟩⟩
theorem mk_say1 {K : PySem.W.Frag} {σ : L2.St} {H0 : Hp} {te : TE} {s : Say} {H : Hp} {Q : VK} (h : MkT te σ H0 s) (k : Kept [] H0 H) (q : ∀ p H', Kept [] H H' → H p = none → SaysAt K H' p [s] → Q (.ref p) H') : tLst (tCons te tNil) σ H Q :=
  h H _ k fun v H1 k1 o1 => ⟨by show 1 ≤ sizeLine; decide, fun p np => q p _ (k1.upd np) (none_of k1 np) ⟨[v], upd_same, .cons (SayTup.tk (TK.new (TK.refl _) np) o1) .nil⟩⟩
theorem mk_say0 {K : PySem.W.Frag} {σ : L2.St} {H : Hp} {Q : VK} (q : ∀ p H', Kept [] H H' → H p = none → SaysAt K H' p [] → Q (.ref p) H') : tLst tNil σ H Q :=
  ⟨by show 0 ≤ sizeLine; decide, fun p np => q p _ ((Kept.refl H).upd np) np ⟨[], upd_same, .nil⟩⟩
theorem scLd : FnScope ["_law_one_here", "_law_x", "_law_word_here"] ["_law_one_here", "_law_x"] (defScope lLed) := ⟨rfl, rfl, rfl, by decide +kernel, rfl, by decide +kernel, by decide +kernel⟩
theorem scBo : FnScope ["_law_one_here", "_law_x", "_law_y"] ["_law_one_here", "_law_x", "_law_y"] (defScope lBoth) := ⟨rfl, rfl, rfl, by decide +kernel, rfl, by decide +kernel, by decide +kernel⟩
def spLed (K : PySem.W.Frag) : Sp := fun vs H Q _ => ∃ (ra xa : Addr) (r : Rw) (sx : Say), vs = [.ref ra, .ref xa] ∧ RowAt K H ra r ∧ SqT K H xa (sx.ws.map V.str) ∧ sx ≠ .clash ∧
  ∀ p H', Kept [] H H' → H p = none → SaysAt K H' p (lawLed r sx) → Q (.ref p) H'
def spBoth (K : PySem.W.Frag) : Sp := fun vs H Q _ => ∃ (ra xa ya : Addr) (r : Rw) (sx sy : Say), vs = [.ref ra, .ref xa, .ref ya] ∧ RowAt K H ra r ∧ SqT K H xa (sx.ws.map V.str) ∧ SqT K H ya (sy.ws.map V.str) ∧ sx ≠ .clash ∧ sy ≠ .clash ∧ okW r.ws ∧ okW sx.ws ∧ okW sy.ws ∧
  ∀ p H', Kept [] H H' → H p = none → SaysAt K H' p (lawBoth r sx sy) → Q (.ref p) H'
section
variable {P : Program} {w : World} {K : PySem.W.Frag} {mg : Str → Option Value} {base : Heap} {f : Addr} {fd : FuncData}
theorem ok_led (F : FnP K "_law_led" lLed f fd) : FnOk P w K mg base CX0 1 f fd ["_law_one_here", "_law_x"] (spLed K) := by
  refine F.ok scLd (fun vs H Q E h => ?_) (fun cdv A outer s H vs Q E hr h => ?_)
  · obtain ⟨ra, xa, r, sx, rfl, _⟩ := h
    rfl
  · obtain ⟨ra, xa, r, sx, rfl, hrow, hxa, hne, q⟩ := h
    refine ⟨_, PSs.nox (pss_cons (ps_set (i := 2) scLd.nd rfl (.inl rfl) (pe_ix ix_tup (pv 0) pe_int (fun _ _ => rfl)))
      (pss_cons (ps_if (pt_cmpR op_eq (pe_ix ix_tup (pv 1) pe_int (fun _ _ => rfl)) pe_str (nomark _)) (pss_cons (ps_if (PW.pt (pw_and (pt_cmpR op_eq (pv 2) pe_str (nomark _)) (pw_and1 (pt_cmpR op_eq (pe_ix ix_tup (pv 0) pe_int (fun _ _ => rfl)) (pe_ix ix_tup (pv 1) pe_int (fun _ _ => rfl)) (nomark _))))) (pss_one (ps_ret (pe_lst (pa_cons (pe_tup (pa_cons pe_str (pa_cons (pe_ix ix_tup (pv 1) pe_int (fun _ _ => rfl)) (pa_cons (pe_ix ix_tup (pv 0) pe_int (fun _ _ => rfl)) pa_nil)))) pa_nil)))) pss_nil)
      (pss_one (ps_ret (pe_ifExp (PW.pt (pw_and (pt_cmpR op_eq (pv 2) pe_str (nomark _)) (pw_and1 (pt_cmpR op_eq (pe_ix ix_tup (pv 0) pe_int (fun _ _ => rfl)) (pe_ix ix_tup (pv 1) pe_int (fun _ _ => rfl)) (nomark _))))) (pe_lst (pa_cons (pe_tup (pa_cons pe_str (pa_cons (pe_ix ix_tup (pv 1) pe_int (fun _ _ => rfl)) (pa_cons (pe_ix ix_tup (pv 0) pe_int (fun _ _ => rfl)) (pa_cons (pe_ix ix_tup (pv 0) pe_int (fun _ _ => rfl)) pa_nil))))) pa_nil)) (pe_lst pa_nil))))) pss_nil)
      (pss_cons (ps_if (pt_cmpR op_ne (pe_ix ix_tup (pv 0) pe_int (fun _ _ => rfl)) (pe_ix ix_tup (pv 1) pe_int (fun _ _ => rfl)) (nomark _)) (pss_one (ps_ret (pe_lst pa_nil))) pss_nil)
      (pss_cons (ps_if (pt_cmpR op_eq (pv 2) pe_str (nomark _)) (pss_one (ps_ret (pe_lst (pa_cons (pe_tup (pa_cons pe_str (pa_cons (pe_ix ix_tup (pv 1) pe_int (fun _ _ => rfl)) (pa_cons (pe_ix ix_tup (pv 0) pe_int (fun _ _ => rfl)) (pa_cons (pe_ix ix_tup (pv 1) pe_int (fun _ _ => rfl)) pa_nil))))) pa_nil)))) pss_nil)
      (pss_cons (ps_if (pt_cmpR op_eq (pv 2) pe_str (nomark _)) (pss_one (ps_ret (pe_lst (pa_cons (pe_tup (pa_cons pe_str (pa_cons (pe_ix ix_tup (pv 1) pe_int (fun _ _ => rfl)) (pa_cons (pe_ix ix_tup (pv 0) pe_int (fun _ _ => rfl)) (pa_cons (pe_ix ix_tup (pv 1) pe_int (fun _ _ => rfl)) pa_nil))))) pa_nil)))) pss_nil)
      (pss_cons (ps_if (pt_cmpR op_eq (pv 2) pe_str (nomark _)) (pss_one (ps_ret (pe_lst (pa_cons (pe_tup (pa_cons pe_str (pa_cons (pe_ix ix_tup (pv 1) pe_int (fun _ _ => rfl)) (pa_cons (pe_ix ix_tup (pv 0) pe_int (fun _ _ => rfl)) pa_nil)))) pa_nil)))) pss_nil)
      (pss_one (ps_ret (pe_ifExp (pt_cmpR op_eq (pv 2) pe_str (nomark _)) (pe_lst (pa_cons (pe_tup (pa_cons pe_str (pa_cons (pe_ix ix_tup (pv 1) pe_int (fun _ _ => rfl)) (pa_cons (pe_ix ix_tup (pv 0) pe_int (fun _ _ => rfl)) pa_nil)))) pa_nil)) (pe_lst pa_nil)))))))))), ?_⟩
    unfold RowAt at hrow
    have nil : ∀ H', Kept [] H H' → lawLed r sx = [] → tLst tNil [] H' Q := fun H' kk e => mk_say0 (K := K) fun p H2 k2 n2 l2 => q p H2 (kk.trans k2) (none_of kk n2) (by rw [e]; exact l2)
    cases sx with
    | clash => exact (hne rfl).elim
    | is n k =>
      have hx0 := hxa
      cases r with
      | is a b =>
        refine ⟨_, rfl, ra, _, 0, _, rfl, rfl, hrow, at_of (j := 0) rfl rfl, ?_⟩
        refine ⟨_, rfl, xa, _, 0, _, rfl, rfl, hxa, at_of (j := 0) rfl rfl, rfl, _, rfl, if_yes (by decide +kernel) ?_⟩
        (refine ⟨_, rfl, rfl, _, rfl, if_no (by decide +kernel) (iteF ?_)⟩)
        (refine ⟨_, rfl, rfl, _, rfl, if_no (by decide +kernel) (iteF ?_)⟩)
        exact nil H (Kept.refl H) rfl
      | isnt a b =>
        refine ⟨_, rfl, ra, _, 0, _, rfl, rfl, hrow, at_of (j := 0) rfl rfl, ?_⟩
        refine ⟨_, rfl, xa, _, 0, _, rfl, rfl, hxa, at_of (j := 0) rfl rfl, rfl, _, rfl, if_yes (by decide +kernel) ?_⟩
        (refine ⟨_, rfl, rfl, _, rfl, if_no (by decide +kernel) (iteF ?_)⟩)
        (refine ⟨_, rfl, rfl, _, rfl, if_no (by decide +kernel) (iteF ?_)⟩)
        exact nil H (Kept.refl H) rfl
      | has a b c =>
        refine ⟨_, rfl, ra, _, 0, _, rfl, rfl, hrow, at_of (j := 0) rfl rfl, ?_⟩
        refine ⟨_, rfl, xa, _, 0, _, rfl, rfl, hxa, at_of (j := 0) rfl rfl, rfl, _, rfl, if_yes (by decide +kernel) ?_⟩
        (refine ⟨_, rfl, rfl, _, rfl, if_no (by decide +kernel) (iteF ?_)⟩)
        (refine ⟨_, rfl, rfl, _, rfl, if_no (by decide +kernel) (iteF ?_)⟩)
        exact nil H (Kept.refl H) rfl
      | hasnt a b c =>
        refine ⟨_, rfl, ra, _, 0, _, rfl, rfl, hrow, at_of (j := 0) rfl rfl, ?_⟩
        refine ⟨_, rfl, xa, _, 0, _, rfl, rfl, hxa, at_of (j := 0) rfl rfl, rfl, _, rfl, if_yes (by decide +kernel) ?_⟩
        (refine ⟨_, rfl, rfl, _, rfl, if_no (by decide +kernel) (iteF ?_)⟩)
        (refine ⟨_, rfl, rfl, _, rfl, if_no (by decide +kernel) (iteF ?_)⟩)
        exact nil H (Kept.refl H) rfl
      | all a b =>
        refine ⟨_, rfl, ra, _, 0, _, rfl, rfl, hrow, at_of (j := 0) rfl rfl, ?_⟩
        refine ⟨_, rfl, xa, _, 0, _, rfl, rfl, hxa, at_of (j := 0) rfl rfl, rfl, _, rfl, if_yes (by decide +kernel) ?_⟩
        (refine ⟨_, rfl, rfl, _, rfl, if_yes (by decide +kernel) ?_⟩)
        refine ⟨_, rfl, ra, _, 1, _, rfl, rfl, hrow, at_of (j := 1) rfl rfl, _, rfl, xa, _, 2, _, rfl, rfl, hxa, at_of (j := 2) rfl rfl, rfl, _, rfl, if_dec (fun e => ?_) (fun e => ?_)⟩
        · refine mk_say1 (K := K) (s := .is n b) (mk_newT (valB_str (valB_ix rfl hxa (j := 1) rfl rfl (valB_ix rfl hrow (j := 2) rfl rfl valB_nil)))) (Kept.refl H) fun p H' kk nn l => q p H' kk nn ?_
          have e2 : lawLed (.all a b) (.is n k) = [.is n b] := if_pos (V.str.inj e)
          rw [e2]
          exact l
        · (refine ⟨_, rfl, rfl, _, rfl, if_no (by decide +kernel) (iteF ?_)⟩)
          exact nil H (Kept.refl H) (if_neg fun z => e (by rw [z]))
      | no a b =>
        refine ⟨_, rfl, ra, _, 0, _, rfl, rfl, hrow, at_of (j := 0) rfl rfl, ?_⟩
        refine ⟨_, rfl, xa, _, 0, _, rfl, rfl, hxa, at_of (j := 0) rfl rfl, rfl, _, rfl, if_yes (by decide +kernel) ?_⟩
        (refine ⟨_, rfl, rfl, _, rfl, if_no (by decide +kernel) (iteF ?_)⟩)
        (refine ⟨_, rfl, rfl, _, rfl, if_no (by decide +kernel) (iteF ?_)⟩)
        exact nil H (Kept.refl H) rfl
      | each a b c =>
        refine ⟨_, rfl, ra, _, 0, _, rfl, rfl, hrow, at_of (j := 0) rfl rfl, ?_⟩
        refine ⟨_, rfl, xa, _, 0, _, rfl, rfl, hxa, at_of (j := 0) rfl rfl, rfl, _, rfl, if_yes (by decide +kernel) ?_⟩
        (refine ⟨_, rfl, rfl, _, rfl, if_no (by decide +kernel) (iteF ?_)⟩)
        (refine ⟨_, rfl, rfl, _, rfl, if_yes (by decide +kernel) ?_⟩)
        refine ⟨_, rfl, ra, _, 1, _, rfl, rfl, hrow, at_of (j := 1) rfl rfl, _, rfl, xa, _, 2, _, rfl, rfl, hxa, at_of (j := 2) rfl rfl, rfl, _, rfl, if_dec (fun e => ?_) (fun e => ?_)⟩
        · refine mk_say1 (K := K) (s := .has n b c) (mk_newT (valB_str (valB_ix rfl hxa (j := 1) rfl rfl (valB_ix rfl hrow (j := 2) rfl rfl (valB_ix rfl hrow (j := 3) rfl rfl valB_nil))))) (Kept.refl H) fun p H' kk nn l => q p H' kk nn ?_
          have e2 : lawLed (.each a b c) (.is n k) = [.has n b c] := if_pos (V.str.inj e)
          rw [e2]
          exact l
        · exact nil H (Kept.refl H) (if_neg fun z => e (by rw [z]))
      | who a b c =>
        refine ⟨_, rfl, ra, _, 0, _, rfl, rfl, hrow, at_of (j := 0) rfl rfl, ?_⟩
        refine ⟨_, rfl, xa, _, 0, _, rfl, rfl, hxa, at_of (j := 0) rfl rfl, rfl, _, rfl, if_yes (by decide +kernel) ?_⟩
        (refine ⟨_, rfl, rfl, _, rfl, if_no (by decide +kernel) (iteF ?_)⟩)
        (refine ⟨_, rfl, rfl, _, rfl, if_no (by decide +kernel) (iteF ?_)⟩)
        exact nil H (Kept.refl H) rfl
      | turned a b =>
        refine ⟨_, rfl, ra, _, 0, _, rfl, rfl, hrow, at_of (j := 0) rfl rfl, ?_⟩
        refine ⟨_, rfl, xa, _, 0, _, rfl, rfl, hxa, at_of (j := 0) rfl rfl, rfl, _, rfl, if_yes (by decide +kernel) ?_⟩
        (refine ⟨_, rfl, rfl, _, rfl, if_no (by decide +kernel) (iteF ?_)⟩)
        (refine ⟨_, rfl, rfl, _, rfl, if_no (by decide +kernel) (iteF ?_)⟩)
        exact nil H (Kept.refl H) rfl
      | on a =>
        refine ⟨_, rfl, ra, _, 0, _, rfl, rfl, hrow, at_of (j := 0) rfl rfl, ?_⟩
        refine ⟨_, rfl, xa, _, 0, _, rfl, rfl, hxa, at_of (j := 0) rfl rfl, rfl, _, rfl, if_yes (by decide +kernel) ?_⟩
        (refine ⟨_, rfl, rfl, _, rfl, if_no (by decide +kernel) (iteF ?_)⟩)
        (refine ⟨_, rfl, rfl, _, rfl, if_no (by decide +kernel) (iteF ?_)⟩)
        exact nil H (Kept.refl H) rfl
      | fr a b =>
        refine ⟨_, rfl, ra, _, 0, _, rfl, rfl, hrow, at_of (j := 0) rfl rfl, ?_⟩
        refine ⟨_, rfl, xa, _, 0, _, rfl, rfl, hxa, at_of (j := 0) rfl rfl, rfl, _, rfl, if_yes (by decide +kernel) ?_⟩
        (refine ⟨_, rfl, rfl, _, rfl, if_no (by decide +kernel) (iteF ?_)⟩)
        (refine ⟨_, rfl, rfl, _, rfl, if_no (by decide +kernel) (iteF ?_)⟩)
        exact nil H (Kept.refl H) rfl
      | to a b =>
        refine ⟨_, rfl, ra, _, 0, _, rfl, rfl, hrow, at_of (j := 0) rfl rfl, ?_⟩
        refine ⟨_, rfl, xa, _, 0, _, rfl, rfl, hxa, at_of (j := 0) rfl rfl, rfl, _, rfl, if_yes (by decide +kernel) ?_⟩
        (refine ⟨_, rfl, rfl, _, rfl, if_no (by decide +kernel) (iteF ?_)⟩)
        (refine ⟨_, rfl, rfl, _, rfl, if_no (by decide +kernel) (iteF ?_)⟩)
        exact nil H (Kept.refl H) rfl
      | under a b =>
        refine ⟨_, rfl, ra, _, 0, _, rfl, rfl, hrow, at_of (j := 0) rfl rfl, ?_⟩
        refine ⟨_, rfl, xa, _, 0, _, rfl, rfl, hxa, at_of (j := 0) rfl rfl, rfl, _, rfl, if_yes (by decide +kernel) ?_⟩
        (refine ⟨_, rfl, rfl, _, rfl, if_no (by decide +kernel) (iteF ?_)⟩)
        (refine ⟨_, rfl, rfl, _, rfl, if_no (by decide +kernel) (iteF ?_)⟩)
        exact nil H (Kept.refl H) rfl
    | has n t m =>
      cases r with
      | is a b =>
        refine ⟨_, rfl, ra, _, 0, _, rfl, rfl, hrow, at_of (j := 0) rfl rfl, ?_⟩
        refine ⟨_, rfl, xa, _, 0, _, rfl, rfl, hxa, at_of (j := 0) rfl rfl, rfl, _, rfl, if_no (by decide +kernel) ?_⟩
        refine ⟨_, rfl, ra, _, 1, _, rfl, rfl, hrow, at_of (j := 1) rfl rfl, _, rfl, xa, _, 2, _, rfl, rfl, hxa, at_of (j := 2) rfl rfl, rfl, _, rfl, if_nd (fun e => ?_) (fun e => ?_)⟩
        · exact nil H (Kept.refl H) rfl
        · (refine ⟨_, rfl, rfl, _, rfl, if_no (by decide +kernel) ?_⟩)
          (refine ⟨_, rfl, rfl, _, rfl, if_no (by decide +kernel) ?_⟩)
          (refine ⟨_, rfl, rfl, _, rfl, if_no (by decide +kernel) ?_⟩)
          (refine ⟨_, rfl, rfl, _, rfl, if_no (by decide +kernel) ?_⟩)
          exact nil H (Kept.refl H) rfl
      | isnt a b =>
        refine ⟨_, rfl, ra, _, 0, _, rfl, rfl, hrow, at_of (j := 0) rfl rfl, ?_⟩
        refine ⟨_, rfl, xa, _, 0, _, rfl, rfl, hxa, at_of (j := 0) rfl rfl, rfl, _, rfl, if_no (by decide +kernel) ?_⟩
        refine ⟨_, rfl, ra, _, 1, _, rfl, rfl, hrow, at_of (j := 1) rfl rfl, _, rfl, xa, _, 2, _, rfl, rfl, hxa, at_of (j := 2) rfl rfl, rfl, _, rfl, if_nd (fun e => ?_) (fun e => ?_)⟩
        · exact nil H (Kept.refl H) rfl
        · (refine ⟨_, rfl, rfl, _, rfl, if_no (by decide +kernel) ?_⟩)
          (refine ⟨_, rfl, rfl, _, rfl, if_no (by decide +kernel) ?_⟩)
          (refine ⟨_, rfl, rfl, _, rfl, if_no (by decide +kernel) ?_⟩)
          (refine ⟨_, rfl, rfl, _, rfl, if_no (by decide +kernel) ?_⟩)
          exact nil H (Kept.refl H) rfl
      | has a b c =>
        refine ⟨_, rfl, ra, _, 0, _, rfl, rfl, hrow, at_of (j := 0) rfl rfl, ?_⟩
        refine ⟨_, rfl, xa, _, 0, _, rfl, rfl, hxa, at_of (j := 0) rfl rfl, rfl, _, rfl, if_no (by decide +kernel) ?_⟩
        refine ⟨_, rfl, ra, _, 1, _, rfl, rfl, hrow, at_of (j := 1) rfl rfl, _, rfl, xa, _, 2, _, rfl, rfl, hxa, at_of (j := 2) rfl rfl, rfl, _, rfl, if_nd (fun e => ?_) (fun e => ?_)⟩
        · exact nil H (Kept.refl H) rfl
        · (refine ⟨_, rfl, rfl, _, rfl, if_no (by decide +kernel) ?_⟩)
          (refine ⟨_, rfl, rfl, _, rfl, if_no (by decide +kernel) ?_⟩)
          (refine ⟨_, rfl, rfl, _, rfl, if_no (by decide +kernel) ?_⟩)
          (refine ⟨_, rfl, rfl, _, rfl, if_no (by decide +kernel) ?_⟩)
          exact nil H (Kept.refl H) rfl
      | hasnt a b c =>
        refine ⟨_, rfl, ra, _, 0, _, rfl, rfl, hrow, at_of (j := 0) rfl rfl, ?_⟩
        refine ⟨_, rfl, xa, _, 0, _, rfl, rfl, hxa, at_of (j := 0) rfl rfl, rfl, _, rfl, if_no (by decide +kernel) ?_⟩
        refine ⟨_, rfl, ra, _, 1, _, rfl, rfl, hrow, at_of (j := 1) rfl rfl, _, rfl, xa, _, 2, _, rfl, rfl, hxa, at_of (j := 2) rfl rfl, rfl, _, rfl, if_nd (fun e => ?_) (fun e => ?_)⟩
        · exact nil H (Kept.refl H) rfl
        · (refine ⟨_, rfl, rfl, _, rfl, if_no (by decide +kernel) ?_⟩)
          (refine ⟨_, rfl, rfl, _, rfl, if_no (by decide +kernel) ?_⟩)
          (refine ⟨_, rfl, rfl, _, rfl, if_no (by decide +kernel) ?_⟩)
          (refine ⟨_, rfl, rfl, _, rfl, if_no (by decide +kernel) ?_⟩)
          exact nil H (Kept.refl H) rfl
      | all a b =>
        refine ⟨_, rfl, ra, _, 0, _, rfl, rfl, hrow, at_of (j := 0) rfl rfl, ?_⟩
        refine ⟨_, rfl, xa, _, 0, _, rfl, rfl, hxa, at_of (j := 0) rfl rfl, rfl, _, rfl, if_no (by decide +kernel) ?_⟩
        refine ⟨_, rfl, ra, _, 1, _, rfl, rfl, hrow, at_of (j := 1) rfl rfl, _, rfl, xa, _, 2, _, rfl, rfl, hxa, at_of (j := 2) rfl rfl, rfl, _, rfl, if_nd (fun e => ?_) (fun e => ?_)⟩
        · exact nil H (Kept.refl H) rfl
        · (refine ⟨_, rfl, rfl, _, rfl, if_no (by decide +kernel) ?_⟩)
          (refine ⟨_, rfl, rfl, _, rfl, if_no (by decide +kernel) ?_⟩)
          (refine ⟨_, rfl, rfl, _, rfl, if_no (by decide +kernel) ?_⟩)
          (refine ⟨_, rfl, rfl, _, rfl, if_no (by decide +kernel) ?_⟩)
          exact nil H (Kept.refl H) rfl
      | no a b =>
        refine ⟨_, rfl, ra, _, 0, _, rfl, rfl, hrow, at_of (j := 0) rfl rfl, ?_⟩
        refine ⟨_, rfl, xa, _, 0, _, rfl, rfl, hxa, at_of (j := 0) rfl rfl, rfl, _, rfl, if_no (by decide +kernel) ?_⟩
        refine ⟨_, rfl, ra, _, 1, _, rfl, rfl, hrow, at_of (j := 1) rfl rfl, _, rfl, xa, _, 2, _, rfl, rfl, hxa, at_of (j := 2) rfl rfl, rfl, _, rfl, if_nd (fun e => ?_) (fun e => ?_)⟩
        · exact nil H (Kept.refl H) rfl
        · (refine ⟨_, rfl, rfl, _, rfl, if_no (by decide +kernel) ?_⟩)
          (refine ⟨_, rfl, rfl, _, rfl, if_no (by decide +kernel) ?_⟩)
          (refine ⟨_, rfl, rfl, _, rfl, if_no (by decide +kernel) ?_⟩)
          (refine ⟨_, rfl, rfl, _, rfl, if_no (by decide +kernel) ?_⟩)
          exact nil H (Kept.refl H) rfl
      | each a b c =>
        refine ⟨_, rfl, ra, _, 0, _, rfl, rfl, hrow, at_of (j := 0) rfl rfl, ?_⟩
        refine ⟨_, rfl, xa, _, 0, _, rfl, rfl, hxa, at_of (j := 0) rfl rfl, rfl, _, rfl, if_no (by decide +kernel) ?_⟩
        refine ⟨_, rfl, ra, _, 1, _, rfl, rfl, hrow, at_of (j := 1) rfl rfl, _, rfl, xa, _, 2, _, rfl, rfl, hxa, at_of (j := 2) rfl rfl, rfl, _, rfl, if_nd (fun e => ?_) (fun e => ?_)⟩
        · exact nil H (Kept.refl H) rfl
        · (refine ⟨_, rfl, rfl, _, rfl, if_no (by decide +kernel) ?_⟩)
          (refine ⟨_, rfl, rfl, _, rfl, if_no (by decide +kernel) ?_⟩)
          (refine ⟨_, rfl, rfl, _, rfl, if_no (by decide +kernel) ?_⟩)
          (refine ⟨_, rfl, rfl, _, rfl, if_no (by decide +kernel) ?_⟩)
          exact nil H (Kept.refl H) rfl
      | who a b c =>
        refine ⟨_, rfl, ra, _, 0, _, rfl, rfl, hrow, at_of (j := 0) rfl rfl, ?_⟩
        refine ⟨_, rfl, xa, _, 0, _, rfl, rfl, hxa, at_of (j := 0) rfl rfl, rfl, _, rfl, if_no (by decide +kernel) ?_⟩
        refine ⟨_, rfl, ra, _, 1, _, rfl, rfl, hrow, at_of (j := 1) rfl rfl, _, rfl, xa, _, 2, _, rfl, rfl, hxa, at_of (j := 2) rfl rfl, rfl, _, rfl, if_nd (fun e => ?_) (fun e => ?_)⟩
        · exact nil H (Kept.refl H) rfl
        · (refine ⟨_, rfl, rfl, _, rfl, if_no (by decide +kernel) ?_⟩)
          (refine ⟨_, rfl, rfl, _, rfl, if_no (by decide +kernel) ?_⟩)
          (refine ⟨_, rfl, rfl, _, rfl, if_no (by decide +kernel) ?_⟩)
          (refine ⟨_, rfl, rfl, _, rfl, if_no (by decide +kernel) ?_⟩)
          exact nil H (Kept.refl H) rfl
      | turned a b =>
        refine ⟨_, rfl, ra, _, 0, _, rfl, rfl, hrow, at_of (j := 0) rfl rfl, ?_⟩
        refine ⟨_, rfl, xa, _, 0, _, rfl, rfl, hxa, at_of (j := 0) rfl rfl, rfl, _, rfl, if_no (by decide +kernel) ?_⟩
        refine ⟨_, rfl, ra, _, 1, _, rfl, rfl, hrow, at_of (j := 1) rfl rfl, _, rfl, xa, _, 2, _, rfl, rfl, hxa, at_of (j := 2) rfl rfl, rfl, _, rfl, if_nd (fun e => ?_) (fun e => ?_)⟩
        · exact nil H (Kept.refl H) (if_neg fun z => e (by rw [z]))
        · have e2 : lawLed (.turned a b) (.has n t m) = [.has m b n] := if_pos (V.str.inj e)
          rw [e2] at q
          (refine ⟨_, rfl, rfl, _, rfl, if_yes (by decide +kernel) ?_⟩)
          exact mk_say1 (K := K) (s := .has m b n) (mk_newT (valB_str (valB_ix rfl hxa (j := 3) rfl rfl (valB_ix rfl hrow (j := 2) rfl rfl (valB_ix rfl hxa (j := 1) rfl rfl valB_nil))))) (Kept.refl H) q
      | on a =>
        refine ⟨_, rfl, ra, _, 0, _, rfl, rfl, hrow, at_of (j := 0) rfl rfl, ?_⟩
        refine ⟨_, rfl, xa, _, 0, _, rfl, rfl, hxa, at_of (j := 0) rfl rfl, rfl, _, rfl, if_no (by decide +kernel) ?_⟩
        refine ⟨_, rfl, ra, _, 1, _, rfl, rfl, hrow, at_of (j := 1) rfl rfl, _, rfl, xa, _, 2, _, rfl, rfl, hxa, at_of (j := 2) rfl rfl, rfl, _, rfl, if_nd (fun e => ?_) (fun e => ?_)⟩
        · exact nil H (Kept.refl H) rfl
        · (refine ⟨_, rfl, rfl, _, rfl, if_no (by decide +kernel) ?_⟩)
          (refine ⟨_, rfl, rfl, _, rfl, if_no (by decide +kernel) ?_⟩)
          (refine ⟨_, rfl, rfl, _, rfl, if_no (by decide +kernel) ?_⟩)
          (refine ⟨_, rfl, rfl, _, rfl, if_no (by decide +kernel) ?_⟩)
          exact nil H (Kept.refl H) rfl
      | fr a b =>
        refine ⟨_, rfl, ra, _, 0, _, rfl, rfl, hrow, at_of (j := 0) rfl rfl, ?_⟩
        refine ⟨_, rfl, xa, _, 0, _, rfl, rfl, hxa, at_of (j := 0) rfl rfl, rfl, _, rfl, if_no (by decide +kernel) ?_⟩
        refine ⟨_, rfl, ra, _, 1, _, rfl, rfl, hrow, at_of (j := 1) rfl rfl, _, rfl, xa, _, 2, _, rfl, rfl, hxa, at_of (j := 2) rfl rfl, rfl, _, rfl, if_nd (fun e => ?_) (fun e => ?_)⟩
        · exact nil H (Kept.refl H) (if_neg fun z => e (by rw [z]))
        · have e2 : lawLed (.fr a b) (.has n t m) = [.is n b] := if_pos (V.str.inj e)
          rw [e2] at q
          (refine ⟨_, rfl, rfl, _, rfl, if_no (by decide +kernel) ?_⟩)
          (refine ⟨_, rfl, rfl, _, rfl, if_no (by decide +kernel) ?_⟩)
          (refine ⟨_, rfl, rfl, _, rfl, if_yes (by decide +kernel) ?_⟩)
          exact mk_say1 (K := K) (s := .is n b) (mk_newT (valB_str (valB_ix rfl hxa (j := 1) rfl rfl (valB_ix rfl hrow (j := 2) rfl rfl valB_nil)))) (Kept.refl H) q
      | to a b =>
        refine ⟨_, rfl, ra, _, 0, _, rfl, rfl, hrow, at_of (j := 0) rfl rfl, ?_⟩
        refine ⟨_, rfl, xa, _, 0, _, rfl, rfl, hxa, at_of (j := 0) rfl rfl, rfl, _, rfl, if_no (by decide +kernel) ?_⟩
        refine ⟨_, rfl, ra, _, 1, _, rfl, rfl, hrow, at_of (j := 1) rfl rfl, _, rfl, xa, _, 2, _, rfl, rfl, hxa, at_of (j := 2) rfl rfl, rfl, _, rfl, if_nd (fun e => ?_) (fun e => ?_)⟩
        · exact nil H (Kept.refl H) (if_neg fun z => e (by rw [z]))
        · have e2 : lawLed (.to a b) (.has n t m) = [.is m b] := if_pos (V.str.inj e)
          rw [e2] at q
          (refine ⟨_, rfl, rfl, _, rfl, if_no (by decide +kernel) ?_⟩)
          (refine ⟨_, rfl, rfl, _, rfl, if_no (by decide +kernel) ?_⟩)
          (refine ⟨_, rfl, rfl, _, rfl, if_no (by decide +kernel) ?_⟩)
          (refine ⟨_, rfl, rfl, _, rfl, if_yes (by decide +kernel) ?_⟩)
          exact mk_say1 (K := K) (s := .is m b) (mk_newT (valB_str (valB_ix rfl hxa (j := 3) rfl rfl (valB_ix rfl hrow (j := 2) rfl rfl valB_nil)))) (Kept.refl H) q
      | under a b =>
        refine ⟨_, rfl, ra, _, 0, _, rfl, rfl, hrow, at_of (j := 0) rfl rfl, ?_⟩
        refine ⟨_, rfl, xa, _, 0, _, rfl, rfl, hxa, at_of (j := 0) rfl rfl, rfl, _, rfl, if_no (by decide +kernel) ?_⟩
        refine ⟨_, rfl, ra, _, 1, _, rfl, rfl, hrow, at_of (j := 1) rfl rfl, _, rfl, xa, _, 2, _, rfl, rfl, hxa, at_of (j := 2) rfl rfl, rfl, _, rfl, if_nd (fun e => ?_) (fun e => ?_)⟩
        · exact nil H (Kept.refl H) (if_neg fun z => e (by rw [z]))
        · have e2 : lawLed (.under a b) (.has n t m) = [.has n b m] := if_pos (V.str.inj e)
          rw [e2] at q
          (refine ⟨_, rfl, rfl, _, rfl, if_no (by decide +kernel) ?_⟩)
          (refine ⟨_, rfl, rfl, _, rfl, if_yes (by decide +kernel) ?_⟩)
          exact mk_say1 (K := K) (s := .has n b m) (mk_newT (valB_str (valB_ix rfl hxa (j := 1) rfl rfl (valB_ix rfl hrow (j := 2) rfl rfl (valB_ix rfl hxa (j := 3) rfl rfl valB_nil))))) (Kept.refl H) q
theorem ok_both (F : FnP K "_law_both" lBoth f fd) : FnOk P w K mg base CX0 1 f fd ["_law_one_here", "_law_x", "_law_y"] (spBoth K) := by
  refine F.ok scBo (fun vs H Q E h => ?_) (fun cdv A outer s H vs Q E hr h => ?_)
  · obtain ⟨ra, xa, ya, r, sx, sy, rfl, _⟩ := h
    rfl
  · obtain ⟨ra, xa, ya, r, sx, sy, rfl, hrow, hxa, hya, hnx, hny, okr, okx, oky, q⟩ := h
    refine ⟨_, PSs.nox (pss_cons (ps_if (PW.pt (pw_and (pt_cmpR op_eq (pe_ix ix_tup (pv 0) pe_int (fun _ _ => rfl)) pe_str (nomark _)) (pw_and (pt_cmpR op_eq (pe_ix ix_tup (pv 1) pe_int (fun _ _ => rfl)) pe_str (nomark _)) (pw_and (pt_cmpR op_eq (pe_ix ix_tup (pv 2) pe_int (fun _ _ => rfl)) pe_str (nomark _)) (pw_and (pt_cmpR op_eq (pe_ix ix_tup (pv 1) pe_int (fun _ _ => rfl)) (pe_ix ix_tup (pv 0) pe_int (fun _ _ => rfl)) (nomark _)) (pw_and (pt_cmpR op_eq (pe_ix ix_tup (pv 2) pe_int (fun _ _ => rfl)) (pe_ix ix_tup (pv 0) pe_int (fun _ _ => rfl)) (nomark _)) (pw_and1 (pt_cmpR op_eq (pe_ix ix_tup (pv 1) pe_int (fun _ _ => rfl)) (pe_ix ix_tup (pv 2) pe_int (fun _ _ => rfl)) (nomark _))))))))) (pss_one (ps_ret (pe_lst (pa_cons (pe_tup (pa_cons pe_str (pa_cons (pe_ix ix_tup (pv 1) pe_int (fun _ _ => rfl)) (pa_cons (pe_ix ix_tup (pv 0) pe_int (fun _ _ => rfl)) (pa_cons (pe_ix ix_tup (pv 2) pe_int (fun _ _ => rfl)) pa_nil))))) pa_nil)))) pss_nil)
      (pss_cons (ps_if (PW.pt (pw_and (pt_cmpR op_eq (pe_ix ix_tup (pv 0) pe_int (fun _ _ => rfl)) pe_str (nomark _)) (pw_and (pt_cmpR op_eq (pe_ix ix_tup (pv 1) pe_int (fun _ _ => rfl)) pe_str (nomark _)) (pw_and (pt_cmpR op_eq (pe_ix ix_tup (pv 1) pe_int (fun _ _ => rfl)) (pe_ix ix_tup (pv 0) pe_int (fun _ _ => rfl)) (nomark _)) (pw_and1 (pt_cmpR (op_eqD hr.units) (pv 2) (pe_tup (pa_cons pe_str (pa_cons (pe_ix ix_tup (pv 1) pe_int (fun _ _ => rfl)) (pa_cons (pe_ix ix_tup (pv 0) pe_int (fun _ _ => rfl)) pa_nil)))) (nomark _))))))) (pss_one (ps_ret (pe_lst (pa_cons (pe_tup (pa_cons pe_str (pa_cons (pe_ix ix_tup (pv 1) pe_int (fun _ _ => rfl)) (pa_cons (pe_ix ix_tup (pv 0) pe_int (fun _ _ => rfl)) pa_nil)))) pa_nil)))) pss_nil)
      (pss_one (ps_ret (pe_lst pa_nil))))), ?_⟩
    unfold RowAt at hrow
    have nil : ∀ H', Kept [] H H' → lawBoth r sx sy = [] → tLst tNil [] H' Q := fun H' kk e => mk_say0 (K := K) fun p H2 k2 n2 l2 => q p H2 (kk.trans k2) (none_of kk n2) (by rw [e]; exact l2)
    cases r with
    | is a b =>
      refine ⟨_, rfl, ra, _, 0, _, rfl, rfl, hrow, at_of (j := 0) rfl rfl, rfl, _, rfl, if_no (by decide +kernel) (iteF ?_)⟩
      refine ⟨_, rfl, ra, _, 0, _, rfl, rfl, hrow, at_of (j := 0) rfl rfl, rfl, _, rfl, if_no (by decide +kernel) (iteF ?_)⟩
      exact nil H (Kept.refl H) rfl
    | isnt a b =>
      refine ⟨_, rfl, ra, _, 0, _, rfl, rfl, hrow, at_of (j := 0) rfl rfl, rfl, _, rfl, if_no (by decide +kernel) (iteF ?_)⟩
      refine ⟨_, rfl, ra, _, 0, _, rfl, rfl, hrow, at_of (j := 0) rfl rfl, rfl, _, rfl, if_no (by decide +kernel) (iteF ?_)⟩
      exact nil H (Kept.refl H) rfl
    | has a b c =>
      refine ⟨_, rfl, ra, _, 0, _, rfl, rfl, hrow, at_of (j := 0) rfl rfl, rfl, _, rfl, if_no (by decide +kernel) (iteF ?_)⟩
      refine ⟨_, rfl, ra, _, 0, _, rfl, rfl, hrow, at_of (j := 0) rfl rfl, rfl, _, rfl, if_no (by decide +kernel) (iteF ?_)⟩
      exact nil H (Kept.refl H) rfl
    | hasnt a b c =>
      refine ⟨_, rfl, ra, _, 0, _, rfl, rfl, hrow, at_of (j := 0) rfl rfl, rfl, _, rfl, if_no (by decide +kernel) (iteF ?_)⟩
      refine ⟨_, rfl, ra, _, 0, _, rfl, rfl, hrow, at_of (j := 0) rfl rfl, rfl, _, rfl, if_no (by decide +kernel) (iteF ?_)⟩
      exact nil H (Kept.refl H) rfl
    | all a b =>
      refine ⟨_, rfl, ra, _, 0, _, rfl, rfl, hrow, at_of (j := 0) rfl rfl, rfl, _, rfl, if_no (by decide +kernel) (iteF ?_)⟩
      refine ⟨_, rfl, ra, _, 0, _, rfl, rfl, hrow, at_of (j := 0) rfl rfl, rfl, _, rfl, if_no (by decide +kernel) (iteF ?_)⟩
      exact nil H (Kept.refl H) rfl
    | no a b =>
      refine ⟨_, rfl, ra, _, 0, _, rfl, rfl, hrow, at_of (j := 0) rfl rfl, rfl, _, rfl, if_no (by decide +kernel) (iteF ?_)⟩
      refine ⟨_, rfl, ra, _, 0, _, rfl, rfl, hrow, at_of (j := 0) rfl rfl, rfl, _, rfl, if_no (by decide +kernel) (iteF ?_)⟩
      exact nil H (Kept.refl H) rfl
    | each a b c =>
      refine ⟨_, rfl, ra, _, 0, _, rfl, rfl, hrow, at_of (j := 0) rfl rfl, rfl, _, rfl, if_no (by decide +kernel) (iteF ?_)⟩
      refine ⟨_, rfl, ra, _, 0, _, rfl, rfl, hrow, at_of (j := 0) rfl rfl, rfl, _, rfl, if_no (by decide +kernel) (iteF ?_)⟩
      exact nil H (Kept.refl H) rfl
    | who a b c =>
      refine ⟨_, rfl, ra, _, 0, _, rfl, rfl, hrow, at_of (j := 0) rfl rfl, rfl, _, rfl, if_no (by decide +kernel) (iteF ?_)⟩
      refine ⟨_, rfl, ra, _, 0, _, rfl, rfl, hrow, at_of (j := 0) rfl rfl, rfl, _, rfl, if_yes (by decide +kernel) ?_⟩
      cases sx with
      | clash => exact (hnx rfl).elim
      | is n k =>
        refine ⟨_, rfl, xa, _, 0, _, rfl, rfl, hxa, at_of (j := 0) rfl rfl, rfl, _, rfl, if_no (by decide +kernel) (iteF ?_)⟩
        exact nil H (Kept.refl H) rfl
      | has n t m =>
        refine ⟨_, rfl, xa, _, 0, _, rfl, rfl, hxa, at_of (j := 0) rfl rfl, rfl, _, rfl, if_yes (by decide +kernel) ?_⟩
        refine ⟨_, rfl, xa, _, 2, _, rfl, rfl, hxa, at_of (j := 2) rfl rfl, _, rfl, ra, _, 1, _, rfl, rfl, hrow, at_of (j := 1) rfl rfl, rfl, _, rfl, if_dec (fun e1 => ?_) (fun e1 => iteF ?_)⟩
        · refine ⟨_, rfl, _, rfl, xa, _, 3, _, rfl, rfl, hxa, at_of (j := 3) rfl rfl, _, rfl, ra, _, 2, _, rfl, rfl, hrow, at_of (j := 2) rfl rfl, (by show 3 ≤ sizeLine; decide), fun Tp nT => ?_⟩
          have kT := (Kept.refl (M := []) H).upd (o := .tup [V.str "is", V.str m, V.str b]) nT
          have ok2 : okW (Say.is m b).ws := okW_cons.mpr ⟨by decide +kernel, okW_cons.mpr ⟨(okW_cons.mp (okW_tail (okW_tail (okW_tail okx)))).1, okW_cons.mpr ⟨(okW_cons.mp (okW_tail (okW_tail okr))).1, okW_nil⟩⟩⟩
          refine rd_eqW (xs := sy.ws) (ys := (Say.is m b).ws) (sqT_tk (.of kT) hya) (.inl (.of upd_same)) oky ok2 ⟨_, rfl, if_dec (fun e2 => ?_) (fun e2 => ?_)⟩
          · have e4 : lawBoth (.who a b c) (.has n t m) sy = [.is n c] := if_pos ⟨V.str.inj e1, Say.inj e2⟩
            rw [e4] at q
            exact mk_say1 (K := K) (s := .is n c) (mk_newT (valB_str (valB_ix rfl hxa (j := 1) rfl rfl (valB_ix rfl hrow (j := 3) rfl rfl valB_nil)))) kT fun p H2 k2 n2 l2 => q p H2 (kT.trans k2) (none_of kT n2) l2
          · exact nil _ kT (if_neg fun z => e2 (by rw [z.2]))
        · exact nil H (Kept.refl H) (if_neg fun z => e1 (by rw [z.1]))
    | turned a b =>
      refine ⟨_, rfl, ra, _, 0, _, rfl, rfl, hrow, at_of (j := 0) rfl rfl, rfl, _, rfl, if_no (by decide +kernel) (iteF ?_)⟩
      refine ⟨_, rfl, ra, _, 0, _, rfl, rfl, hrow, at_of (j := 0) rfl rfl, rfl, _, rfl, if_no (by decide +kernel) (iteF ?_)⟩
      exact nil H (Kept.refl H) rfl
    | on a =>
      refine ⟨_, rfl, ra, _, 0, _, rfl, rfl, hrow, at_of (j := 0) rfl rfl, rfl, _, rfl, if_yes (by decide +kernel) ?_⟩
      cases sx with
      | clash => exact (hnx rfl).elim
      | is n k =>
        refine ⟨_, rfl, xa, _, 0, _, rfl, rfl, hxa, at_of (j := 0) rfl rfl, rfl, _, rfl, if_no (by decide +kernel) (iteF ?_)⟩
        refine ⟨_, rfl, ra, _, 0, _, rfl, rfl, hrow, at_of (j := 0) rfl rfl, rfl, _, rfl, if_no (by decide +kernel) (iteF ?_)⟩
        exact nil H (Kept.refl H) rfl
      | has n t m =>
        refine ⟨_, rfl, xa, _, 0, _, rfl, rfl, hxa, at_of (j := 0) rfl rfl, rfl, _, rfl, if_yes (by decide +kernel) ?_⟩
        cases sy with
        | clash => exact (hny rfl).elim
        | is n' k' =>
          refine ⟨_, rfl, ya, _, 0, _, rfl, rfl, hya, at_of (j := 0) rfl rfl, rfl, _, rfl, if_no (by decide +kernel) (iteF ?_)⟩
          refine ⟨_, rfl, ra, _, 0, _, rfl, rfl, hrow, at_of (j := 0) rfl rfl, rfl, _, rfl, if_no (by decide +kernel) (iteF ?_)⟩
          exact nil H (Kept.refl H) rfl
        | has n' t' m' =>
          refine ⟨_, rfl, ya, _, 0, _, rfl, rfl, hya, at_of (j := 0) rfl rfl, rfl, _, rfl, if_yes (by decide +kernel) ?_⟩
          refine ⟨_, rfl, xa, _, 2, _, rfl, rfl, hxa, at_of (j := 2) rfl rfl, _, rfl, ra, _, 1, _, rfl, rfl, hrow, at_of (j := 1) rfl rfl, rfl, _, rfl, if_dec (fun e1 => ?_) (fun e1 => iteF ?_)⟩
          · refine ⟨_, rfl, ya, _, 2, _, rfl, rfl, hya, at_of (j := 2) rfl rfl, _, rfl, ra, _, 1, _, rfl, rfl, hrow, at_of (j := 1) rfl rfl, rfl, _, rfl, if_dec (fun e2 => ?_) (fun e2 => iteF ?_)⟩
            · refine ⟨_, rfl, xa, _, 3, _, rfl, rfl, hxa, at_of (j := 3) rfl rfl, _, rfl, ya, _, 1, _, rfl, rfl, hya, at_of (j := 1) rfl rfl, rfl, _, rfl, if_dec (fun e3 => ?_) (fun e3 => ?_)⟩
              · have e4 : lawBoth (.on a) (.has n t m) (.has n' t' m') = [.has n a m'] := if_pos ⟨V.str.inj e1, V.str.inj e2, V.str.inj e3⟩
                rw [e4] at q
                exact mk_say1 (K := K) (s := .has n a m') (mk_newT (valB_str (valB_ix rfl hxa (j := 1) rfl rfl (valB_ix rfl hrow (j := 1) rfl rfl (valB_ix rfl hya (j := 3) rfl rfl valB_nil))))) (Kept.refl H) q
              · refine ⟨_, rfl, ra, _, 0, _, rfl, rfl, hrow, at_of (j := 0) rfl rfl, rfl, _, rfl, if_no (by decide +kernel) (iteF ?_)⟩
                exact nil H (Kept.refl H) (if_neg fun z => e3 (by rw [z.2.2]))
            · refine ⟨_, rfl, ra, _, 0, _, rfl, rfl, hrow, at_of (j := 0) rfl rfl, rfl, _, rfl, if_no (by decide +kernel) (iteF ?_)⟩
              exact nil H (Kept.refl H) (if_neg fun z => e2 (by rw [z.2.1]))
          · refine ⟨_, rfl, ra, _, 0, _, rfl, rfl, hrow, at_of (j := 0) rfl rfl, rfl, _, rfl, if_no (by decide +kernel) (iteF ?_)⟩
            exact nil H (Kept.refl H) (if_neg fun z => e1 (by rw [z.1]))
    | fr a b =>
      refine ⟨_, rfl, ra, _, 0, _, rfl, rfl, hrow, at_of (j := 0) rfl rfl, rfl, _, rfl, if_no (by decide +kernel) (iteF ?_)⟩
      refine ⟨_, rfl, ra, _, 0, _, rfl, rfl, hrow, at_of (j := 0) rfl rfl, rfl, _, rfl, if_no (by decide +kernel) (iteF ?_)⟩
      exact nil H (Kept.refl H) rfl
    | to a b =>
      refine ⟨_, rfl, ra, _, 0, _, rfl, rfl, hrow, at_of (j := 0) rfl rfl, rfl, _, rfl, if_no (by decide +kernel) (iteF ?_)⟩
      refine ⟨_, rfl, ra, _, 0, _, rfl, rfl, hrow, at_of (j := 0) rfl rfl, rfl, _, rfl, if_no (by decide +kernel) (iteF ?_)⟩
      exact nil H (Kept.refl H) rfl
    | under a b =>
      refine ⟨_, rfl, ra, _, 0, _, rfl, rfl, hrow, at_of (j := 0) rfl rfl, rfl, _, rfl, if_no (by decide +kernel) (iteF ?_)⟩
      refine ⟨_, rfl, ra, _, 0, _, rfl, rfl, hrow, at_of (j := 0) rfl rfl, rfl, _, rfl, if_no (by decide +kernel) (iteF ?_)⟩
      exact nil H (Kept.refl H) rfl
end
end Ah
end
section
set_option Elab.async false
set_option linter.all false
set_option maxRecDepth 100000
set_option maxHeartbeats 2000000
namespace Ah
open PySem PySem.Spec PyProof.Rows L2
/-! ### a lambda with a default: its object bears the tuple of it -/
abbrev lamFd (q : Str) (params : Arguments) (body : Expr) (scope : Scope) (cl : List (Str × Addr)) (pm cdv ct dV : Value) : FuncData := { PySem.W.kla_fn "<lambda>" q params body scope cl pm cdv ct with defaults := dV }
abbrev lamOb (q : Str) (params : Arguments) (body : Expr) (scope : Scope) (cl : List (Str × Addr)) (pm cdv ct dV : Value) : Obj := { cls := .type "function", data := .func (lamFd q params body scope cl pm cdv ct dV) }
section
variable {M : Model} {A : Around} {E : Value → Shared → Prop} {s : Shared} {q : Str} {params : Arguments} {body : Expr} {scope : Scope} {env : Env} {c P : Addr} {ps : Array Value} {pos : Pos} {n : Nat} {mg : Str → Option Value} {clos : List (Str × Addr)} {Q : Value → Shared → Prop} {dV : Value}
/-- the closure's tuple, if there is one, is laid; the rest follows in any heap that keeps what was -/
theorem lamd_tail (hcl : closureFor scope env = pure clos)
    (h : ∀ ctv h', (∀ b o, s.heap.get? b = some o → h'.get? b = some o) → s.heap.objs.size ≤ h'.objs.size →
      wpAny M A (functionCode env pos n "<lambda>" q params scope (.expr body)) (fun cv s1 => wpAny M A (builtinsFor env.globals env.builtins) (fun bv s2 => wpAny M A (nsGet env.globals "__name__") (fun nv s3 =>
        Q (.ref s3.heap.objs.size) { s3 with heap := s3.heap.push { cls := .type "function", data := .func { name := "<lambda>", qualname := q, params := params, body := .expr body, scope := scope, globals := env.globals, closure := clos, closureTuple := ctv, code := cv, builtins := bv, defaults := dV, kwdefaults := .none, annotations := none, pyModule := nv.getD .none, doc := .none } } }) E s2) E s1) E { s with heap := h' }) :
    wpAny M A (makeTail "<lambda>" q params (.expr body) scope env dV .none none pos n) Q E s := by
  unfold makeTail
  rw [hcl]
  refine wpAny_bind (wpAny_pure ?_)
  cases clos with
  | nil =>
    simp only [List.isEmpty_nil, if_true]
    refine wpAny_bind (wpAny_pure (wpAny_bind (wpAny_mono (h .none s.heap (fun _ _ e => e) (Nat.le_refl _)) (fun cv s1 h1 => wpAny_bind (wpAny_mono h1 (fun bv s2 h2 => wpAny_bind (wpAny_mono h2 (fun nv s3 h3 => ?_) fun _ _ x => x)) fun _ _ x => x)) fun _ _ x => x)))
    exact wpAny_bind (wpAny_pure (wpAny_newObj_type h3 (by size_fits)))
  | cons p r =>
    simp only [List.isEmpty_cons, Bool.false_eq_true, if_false]
    refine wpAny_bind (wpAny_newTextTuple ?_)
    refine (wpAny_bind (wpAny_mono (h (.ref s.heap.objs.size) _ (fun b o e => Heap.get?_push_of_some _ e) (by rw [Heap.size_push]; omega)) (fun cv s1 h1 => wpAny_bind (wpAny_mono h1 (fun bv s2 h2 => wpAny_bind (wpAny_mono h2 (fun nv s3 h3 => ?_) fun _ _ x => x)) fun _ _ x => x)) fun _ _ x => x))
    exact wpAny_bind (wpAny_pure (wpAny_newObj_type h3 (by size_fits)))
end
section
variable {X : Cx} {pins : List (Addr × Obj)} {σ : L2.St} {H : Hp} {s : Shared}
open LamX in
theorem lam_makeD {T : List (Addr × Str)} {c P : Addr} {params : Arguments} {body : Expr} {scope : Scope} {pos p0 : Pos} {k : Int} {j : Nat} {E : Value → Shared → Prop} {Q : Value → Shared → Prop} (I : L2.Inv X pins σ H s) (TB : LamX.TabB X.base X.mg c P) (hcode : X.env.code = .ref c)
    (hm : (P, X.env.qual ++ "<lambda>") ∈ T) (hu : ∀ p ∈ T, p.1 = P → p.2 = X.env.qual ++ "<lambda>") (hT : LamX.Tabs T H) (hdef : defaultsOf params X.env = ([eval (.Constant (.int k) j p0) X.env], [])) (hfree : ∀ y ∈ scope.names, y.2 = .free → ∃ c, X.env.cells.lookup y.1 = some c)
    (h : ∀ (f t c' : Addr) (tk : Tok) (pm ctv : Value) (H1 : Hp) (s' : Shared), L2.Inv X pins σ H1 s' → LamX.ExtN H H1 → LamX.Tabs T H1 →
      s'.heap.get? f = some (lamOb (X.env.qual ++ "<lambda>") params body scope (cloFrom X.env.cells scope.names []) pm (.ref c') ctv (.ref t)) → s'.heap.get? t = some { cls := .type "tuple", data := .seq [Value.int k tk].toArray } →
      H1 f = none → H1 t = none → f ∉ frs X.stack → t ∉ frs X.stack → H1 c' = some (LamX.CodeO c' (X.env.qual ++ "<lambda>")) → Q (.ref f) s') :
    wpAny (model X.prog X.w) X.A (eval (.Lambda params body scope pos) X.env) Q E s := by
  obtain ⟨ps, hP, ht, ha⟩ := hT _ hm
  rw [arm_eval_Lambda, hdef]
  show wpAny _ _ (do let dv ← evalAll [eval (.Constant (.int k) j p0) X.env]; let kdv ← holding dv (evalAllOpt []); makeFunction "<lambda>" (X.env.qual ++ "<lambda>") params (.expr body) scope X.env dv kdv [] pos pos.line) Q E s
  refine wpAny_bind (wpAny_bind (wpAny_Constant_int (wpAny_bind (wpAny_holding (wpAny_pure (wpAny_pure ?_))))))
  refine wpAny_bind (wpAny_holding (wpAny_pure ?_))
  rw [makeFunction_eq]
  simp only [List.zip_nil_right, List.filterMap_nil, List.isEmpty_nil, List.isEmpty_cons, Bool.false_eq_true, if_false, if_true, pure_bind]
  refine wpAny_bind (wpAny_newTextTuple ?_)
  refine lamd_tail (closure_ok hfree) fun ctv h1 k1 l1 => ?_
  have k0 : ∀ b o, s.heap.get? b = some o → h1.get? b = some o := fun b o e => k1 b o (Heap.get?_push_of_some _ e)
  have e0 : h1.get? s.heap.objs.size = some { cls := .type "tuple", data := .seq [Value.int k s.toks].toArray } := k1 _ _ (Heap.get?_push_at rfl rfl)
  have l0 : s.heap.objs.size < h1.objs.size := by
    have z := l1
    dsimp only at z
    rw [Heap.size_push] at z
    exact z
  have bP : s.heap.BuiltinsAt X.mg P := TB.bm.keeps I.bk
  have hP' : s.heap.get? P = some { cls := .none, data := .fields ps } := I.hok P _ hP
  have nofr : ∀ f, s.heap.objs.size ≤ f → f ∉ frs X.stack := fun f hf z => by
    rcases List.mem_cons.mp (I.stkSub _ z) with e | e
    · have h1 := I.lt
      rw [← e] at h1
      exact Nat.lt_irrefl _ (Nat.lt_of_lt_of_le h1 hf)
    · exact I.nofs hf e
  have nt : H s.heap.objs.size = none := I.hok.fresh (Nat.le_refl _)
  have htP : s.heap.objs.size ≠ P := Nat.ne_of_gt (Heap.lt_size hP')
  obtain ⟨bm, ob, hbm, hne0, hneG, hneP, hbo, hcls, hdict, hdata⟩ := bP
  have hG := (I.mod.glob.keeps I.bk).keeps k0
  have hC := (TB.code.keeps I.bk).keeps k0
  rw [I.ok.glob]
  cases hc : codeAmong pos ps.toList with
  | none =>
    refine PySem.wpAny_functionCodeX hcode (hC.code (k0 _ _ hP') ht) (hC.tab (k0 _ _ hP')) hc fun c' h' tk hx hge hlt _ hrec htb _ => ?_
    obtain ⟨c2, oc, vs, t, e2, hoc, hd, hv⟩ := hrec
    cases e2
    have kx : ∀ b o, b ≠ P → s.heap.get? b = some o → h'.get? b = some o := fun b o hb e => hx b o hb (k0 b o e)
    have hG' := hG.extBut hx TB.gP
    refine wpAny_builtinsFor hG' hbm hne0 (kx _ _ hneP hbo) hcls hdict hdata ?_
    refine wpAny_nsGet hG' ?_
    have hsz : s.heap.objs.size ≤ h'.objs.size := Nat.le_of_lt (Nat.lt_of_lt_of_le l0 (Nat.le_trans hge (Nat.le_of_lt hlt)))
    have hcs : s.heap.objs.size ≤ c' := Nat.le_of_lt (Nat.lt_of_lt_of_le l0 hge)
    have nC : H c' = none := I.hok.fresh hcs
    have I1 := LamX.inv_table (q := X.env.qual ++ "<lambda>") (t' := tk) (more := #[rawInt pos.line, rawInt pos.col, .ref c']) (h' := h'.push (lamOb (X.env.qual ++ "<lambda>") params body scope (cloFrom X.env.cells scope.names []) ((X.mg "__name__").getD .none) (.ref c') ctv (.ref s.heap.objs.size))) I hP
      (fun b o hb e => Heap.get?_push_of_some _ (kx b o hb e)) (Heap.get?_push_of_some _ htb.2) hcs ⟨oc, vs, t, Heap.get?_push_of_some _ hoc, hd, hv⟩
    have hE : LamX.ExtN H (L2.upd (L2.upd H P (.tbl (ps ++ #[rawInt pos.line, rawInt pos.col, .ref c']))) c' (LamX.CodeO c' (X.env.qual ++ "<lambda>"))) := fun b o e n => by
      rw [upd_ne (ne_of_none e nC), upd_ne (fun z => n ps (Option.some.inj (e.symm.trans (by rw [z]; exact hP))))]
      exact e
    have eL : (ps ++ #[rawInt pos.line, rawInt pos.col, .ref c']).toList = ps.toList ++ [rawInt pos.line, rawInt pos.col, .ref c'] := by simp
    have htc : s.heap.objs.size ≠ c' := Nat.ne_of_lt (Nat.lt_of_lt_of_le l0 hge)
    have et : h'.get? s.heap.objs.size = some { cls := .type "tuple", data := .seq [Value.int k s.toks].toArray } := hx _ _ htP e0
    refine h h'.objs.size s.heap.objs.size c' s.toks ((X.mg "__name__").getD .none) ctv _ _ I1 hE (fun p hp => ?_) (Heap.get?_push_size _ rfl) (Heap.get?_push_of_some _ et) ?_ ?_ (nofr _ hsz) (nofr _ (Nat.le_refl _)) upd_same
    · by_cases hb : p.1 = P
      · rw [hu p hp hb, hb]
        refine ⟨_, by rw [upd_ne (ne_of_none hP nC), upd_same], by rw [eL]; exact PySem.TriplesOk_snoc _ _ _ _ ht, fun p' cv hcv => ?_⟩
        rw [eL] at hcv
        rcases LamX.among_app _ ht hcv with z | z
        · obtain ⟨c0, e1, e2⟩ := ha p' cv z
          exact ⟨c0, e1, hE _ _ e2 LamX.codeO_ne⟩
        · exact ⟨c', z, upd_same⟩
      · obtain ⟨ps', a1, a2, a3⟩ := hT p hp
        refine ⟨ps', by rw [upd_ne (ne_of_none a1 nC), upd_ne hb]; exact a1, a2, fun p' cv hcv => ?_⟩
        obtain ⟨c0, e1, e2⟩ := a3 p' cv hcv
        exact ⟨c0, e1, hE _ _ e2 LamX.codeO_ne⟩
    · have n1 : h'.objs.size ≠ c' := Nat.ne_of_gt hlt
      have n2 : h'.objs.size ≠ P := Nat.ne_of_gt (Nat.lt_of_lt_of_le (Heap.lt_size hP') hsz)
      rw [upd_ne n1, upd_ne n2]
      exact I.hok.fresh hsz
    · rw [upd_ne htc, upd_ne htP]
      exact nt
  | some cv =>
    obtain ⟨c', e, hco⟩ := ha pos cv hc
    subst e
    refine wpAny_functionCode_hit hcode (hC.code (k0 _ _ hP') ht) hc ?_
    refine wpAny_builtinsFor hG hbm hne0 (k0 _ _ hbo) hcls hdict hdata ?_
    refine wpAny_nsGet hG ?_
    have kk : ∀ o' b o, s.heap.get? b = some o → (h1.push o').get? b = some o := fun o' b o e => Heap.get?_push_of_some _ (k0 b o e)
    refine h h1.objs.size s.heap.objs.size c' s.toks ((X.mg "__name__").getD .none) ctv H _ (I.kept (kk _)) (LamX.ExtN.refl H) hT (Heap.get?_push_size _ rfl) (Heap.get?_push_of_some _ e0) (I.hok.fresh (Nat.le_of_lt l0)) nt (nofr _ (Nat.le_of_lt l0)) (nofr _ (Nat.le_refl _)) hco
end
end Ah
end
section
set_option Elab.async false
set_option linter.all false
set_option maxRecDepth 100000
set_option maxHeartbeats 2000000
namespace Ah
open PySem PySem.Spec PyProof.Rows L2 LamX
/-! ### such a lambda called, what it lets out wished for at the caller's slots -/
/-- its own names are none of the maker's slots -/
structure LamSD (N : List Str) (sc scope : Scope) : Prop where
  kind : scope.kind = .function
  co : scope.isCoroutine = false
  gen : scope.isGenerator = false
  own : ∀ y ∈ scope.names, y.2 ≠ .cell
  loc : ∀ y ∈ scope.names, y.2 = .local → y.1 ∉ N
  free : ∀ y ∈ scope.names, y.2 = .free → sc.names.lookup y.1 = some .cell ∨ sc.names.lookup y.1 = some .free
def lamSDB (N : List Str) (sc scope : Scope) : Bool :=
  decide (scope.kind = .function) && !scope.isCoroutine && !scope.isGenerator && scope.names.all fun y => !decide (y.2 = .cell) && (!decide (y.2 = .local) || !N.contains y.1) && (!decide (y.2 = .free) || decide (sc.names.lookup y.1 = some .cell) || decide (sc.names.lookup y.1 = some .free))
theorem lamSD_by {N : List Str} {sc scope : Scope} (h : lamSDB N sc scope = true) : LamSD N sc scope := by
  unfold lamSDB at h
  simp only [Bool.and_eq_true, Bool.or_eq_true, Bool.not_eq_true', decide_eq_true_eq, decide_eq_false_iff_not, List.all_eq_true] at h
  obtain ⟨⟨⟨h1, h2⟩, h3⟩, h4⟩ := h
  refine ⟨h1, h2, h3, fun y hy => (h4 y hy).1.1, fun y hy e hm => ?_, fun y hy e => ?_⟩
  · rcases (h4 y hy).1.2 with z | z
    · exact z e
    · rw [List.contains_iff_mem.mpr hm] at z
      cases z
  · rcases (h4 y hy).2 with (z | z) | z
    · exact absurd e z
    · exact .inl z
    · exact .inr z
theorem LamSD.has {X : Cx} {N : List Str} {scope : Scope} (L : LamSD N X.env.scope scope) (ok : X.Ok) : ∀ y ∈ scope.names, y.2 = .free → ∃ c, X.env.cells.lookup y.1 = some c := fun y hy e => by
  rcases L.free y hy e with k | k
  · exact ok.has _ (.inl k)
  · exact ok.has _ (.inr k)
section
variable {X : Cx} {pins : List (Addr × Obj)} {σ : L2.St} {H HZ : Hp} {s s1 : Shared}
theorem lam_startD {A : Around} {outer : List Env} {E : XK} {scope : Scope} {f c' : Addr} {h₁ : Heap} {tk : Nat} {m : Str → Option Value} (I : L2.Inv X pins σ H s) (L : LamSD X.N X.env.scope scope) (e0 : Env0 X.prog X.w X.K X.mg X.base A outer s1 HZ) (hd : A.handled = none)
    (un : Un (frs X.stack) [] H HZ s.heap s1.heap) (hns : h₁.Ns s1.heap.objs.size m) (kp : ∀ b o, s1.heap.get? b = some o → h₁.get? b = some o) :
    L2.Inv (lamCx X A outer s1 HZ E scope f c') [] σ HZ { s1 with heap := h₁, toks := tk } := by
  have hfree := L.has I.ok
  have cm : ∀ {y c}, (cloFrom X.env.cells scope.names []).lookup y = some c → X.env.cells.lookup y = some c := fun {y c} e => by
    rcases cloFrom_mem (PySem.mem_of_lookup e) with hm | ⟨h1, h2⟩
    · cases hm
    · obtain ⟨c1, hc⟩ := hfree _ h1 rfl
      have hc : X.env.cells.lookup y = some c1 := hc
      rw [hc] at h2
      rw [h2]
      exact hc
  have look : ∀ {y}, scope.names.lookup y = some .free → ∃ c, (cloFrom X.env.cells scope.names []).lookup y = some c := fun {y} hl =>
    mem_lookup (cloFrom_has (cells := X.env.cells) (acc := []) (PySem.mem_of_lookup hl))
  have cellK : ∀ {c : Addr} {v : Option Value}, H c = none → s.heap.IsCell c v → h₁.IsCell c v := fun {c v} n ⟨o, ho, hd⟩ => by
    obtain ⟨sl, q⟩ := un.any ho n (by simp)
    exact ⟨_, kp _ _ q, hd⟩
  have noA : ∀ b : Addr, b ∉ (lamCx X A outer s1 HZ E scope f c').ex := fun b z => absurd (show b ∈ ([] : List Addr) from z) (by simp)
  refine ⟨⟨e0.mod, L.kind, rfl, rfl, Nat.le_refl _, fun y z c e1 e2 => I.ok.inj y z c (cm e1) (cm e2), fun y hy => ?_, fun y c z _ => absurd (show false = true from z) Bool.false_ne_true, fun _ => hd, Around.frames_deeper e0.frames, .inr ⟨rfl, rfl⟩, fun b z => absurd z (noA b), e0.bs, e0.bsz, fun b _ _ => noA b,
      fun b z => absurd z (noA b), e0.funs, e0.frf⟩,
    rfl, e0.bare, Un.kept kp, ⟨_, hns, fun i y v e1 e2 e3 => ?_⟩, fun y c e => ?_, e0.hok.fresh (Nat.le_refl _), fun y c e => ?_, fun q hq => absurd (show q ∈ ([] : List (Addr × Obj)) ++ [] from hq) (by simp), e0.hok.kept kp, I.len⟩
  · have hy : scope.names.lookup y = some .cell ∨ scope.names.lookup y = some .free := hy
    rcases hy with hy | hy
    · exact absurd rfl (L.own _ (PySem.mem_of_lookup hy))
    · exact look hy
  · have e3 : Vis scope y := e3
    rcases e3 with k | k | k
    · exact absurd (List.mem_of_getElem? (show X.N[i]? = some y from e1)) (L.loc _ (PySem.mem_of_lookup k) rfl)
    · exact absurd rfl (L.own _ (PySem.mem_of_lookup k))
    · obtain ⟨m, hn, hl⟩ := I.loc
      have hvis : Vis X.env.scope y := (L.free _ (PySem.mem_of_lookup k) rfl).elim (fun k => .inr (.inl k)) (fun k => .inr (.inr k))
      obtain ⟨w', r, q⟩ := hl i y v e1 e2 hvis
      obtain ⟨c2, h2⟩ := look k
      refine ⟨w', r, .inr ⟨.inr k, c2, h2, ?_⟩⟩
      have c1 := cm h2
      rcases q with ⟨k', _⟩ | ⟨_, c3, e', z⟩
      · have k' : X.env.scope.names.lookup y = some .local := k'
        rcases L.free _ (PySem.mem_of_lookup k) rfl with k2 | k2 <;> rw [show X.env.scope.names.lookup y = _ from k2] at k' <;> cases k'
      · rw [c1] at e'
        cases e'
        exact cellK (I.freeC y _ c1) z
  · obtain ⟨w', z⟩ := I.cell y c (cm e)
    exact ⟨w', cellK (I.freeC y c (cm e)) z⟩
  · obtain ⟨v, o, ho, hd⟩ := I.cell y c (cm e)
    exact un.free c o ho (I.freeC y c (cm e)) (by simp)
/-- x(), in the def that got the lambda -/
theorem pe_actS {CXg : CXT} {Eg : XK} {Ng : List Str} {qg : Str} {sg : Scope} {g f c' : Addr} {cdg pm ctv dV : Value} {params : Arguments} {body : Expr} {scope : Scope} {k i : Nat} {a : Str} {pn : List (Addr × Obj)} {xe : Value → Shared → Prop} {W : WX} {E : XK} {tb : TE} {p1 p2 : Pos} {binds : List (Str × Value)} {σ0 : L2.St}
    (I : L2.Inv X pins σ H s) (L : LamSD X.N X.env.scope scope) (hf : s.heap.get? f = some (lamOb (X.env.qual ++ "<lambda>") params body scope (cloFrom X.env.cells scope.names []) pm (.ref c') ctv dV)) (hfn : H f = none) (hfr : f ∉ frs X.stack)
    (hbind : ∀ s1 : Shared, (∀ b o, s.heap.get? b = some o → H b = none → b ∉ frs X.stack → s1.heap.get? b = some o) → BindsTo s1 (lamFd (X.env.qual ++ "<lambda>") params body scope (cloFrom X.env.cells scope.names []) pm (.ref c') ctv dV) ⟨[], []⟩ binds) (hloc : ∀ y ∈ binds, scope.names.lookup y.1 = some .local)
    (tk : Takes ((cxOf CXg X.prog X.w X.K X.mg X.base Ng qg sg g cdg X.A X.stack s H Eg).tr pn xe) W) (hW : ∀ cls d H', E cls d H' → W cls d σ0 H') (hr : Room (k + 1) (X.A.deeper (envOfC qg sg s.heap.objs.size g cdg)))
    (hbody : ∀ (A : Around) (outer : List Env) (s : Shared) (H : Hp), Room k (A.deeper (lamEnv X scope s.heap.objs.size f c')) → PE (lamCx X A outer s H E scope f c') body tb)
    (hN : Ng[i]? = some a) (hv : Vis sg a) (hd : (a == ("__debug__" : Str)) = false) (hcd : (a == ("__classdict__" : Str)) = false) :
    PE ((cxOf CXg X.prog X.w X.K X.mg X.base Ng qg sg g cdg X.A X.stack s H Eg).tr pn xe) (.Call (.Name a p1) [] [] p2)
      (fun σZ HZ Q => σZ = σ0 ∧ σZ[i]? = some (some (.ref f)) ∧ HZ c' = some (CodeO c' (X.env.qual ++ "<lambda>")) ∧ tb σ HZ Q) := by
  refine ⟨fun pinsZ sZ σZ HZ Q IZ h => ?_⟩
  obtain ⟨e0, hs, hc, ht⟩ := h
  subst e0
  refine wpAny_Call_Name_kw (thn ((pe_var (pos := p1) (i := i) hN hv hd hcd).run pinsZ sZ σZ HZ (fun v H1 => v = .ref f ∧ H1 = HZ) IZ ⟨.ref f, hs, rfl, rfl⟩) fun u s1 ⟨v, H1, I1, r1, q1⟩ => ?_)
  obtain ⟨ev, eH⟩ := q1
  subst ev
  rw [eH] at I1
  obtain rfl : u = Value.ref f := r1
  have kb : ∀ b o, s.heap.get? b = some o → H b = none → b ∉ frs X.stack → s1.heap.get? b = some o := fun b o e n nf => I1.base.keep b o e n nf (fun z => nomatch (show b ∈ ([] : List Addr) from z))
  have of1 := kb f _ hf hfn hfr
  refine PySem.W.callWith_F0 ⟨_, _, _, _, of1⟩ ?_
  have un : Un (frs X.stack) [] H HZ s.heap s1.heap := I1.base
  obtain ⟨⟨oc, vs, t, hoc, hdc, hvc⟩, _, _⟩ := I1.hok c' _ hc
  have rc : codeAny (model X.prog X.w) (X.A.deeper (envOfC qg sg s.heap.objs.size g cdg)) (.call (.ref f) ⟨[], []⟩) (CR (L2.CX X.prog X.w) (envOfC qg sg s.heap.objs.size g cdg :: X.stack) X.prog X.w HZ s1 Q E) s1 := by
    refine PySem.W.kla_callFunE hr.depth of1 rfl L.co L.gen rfl ⟨c', oc, vs, t, rfl, hoc, hdc, hvc⟩ ?_
    refine hbind s1 kb _ _ _ _ (wpAny_newFunctionEnv L.own hloc (fun h₁ hns hsb => ⟨I1.nolimit.fresh _ hsb, ?_⟩) L.kind)
    show codeAny _ _ (.expr body (lamEnv X scope s1.heap.objs.size f c')) _ _
    have kp : ∀ b o, s1.heap.get? b = some o → h₁.get? b = some o := fun b o e => hsb.extBut b o (Nat.ne_of_lt (Heap.lt_size e)) (Heap.get?_push_of_some _ e)
    have J : L2.Inv (lamCx X (X.A.deeper (envOfC qg sg s.heap.objs.size g cdg)) (envOfC qg sg s.heap.objs.size g cdg :: X.stack) s1 HZ E scope f c') [] σ HZ { s1 with heap := h₁, toks := s1.toks + binds.length } :=
      lam_startD I L I1.env0 hr.hd un hns kp
    refine PySem.W.kla_codeExpr (wpAny_mono ((hbody _ _ s1 HZ (hr.deeper _)).run [] _ _ HZ Q J ht) (fun v s' hq => ?_) fun e s' hq => hq)
    obtain ⟨w', H', J', rv, q⟩ := hq
    exact ⟨w', H', J'.os, J'.bare, J'.base, J'.hok, rv, q⟩
  refine wpAny_call (codeAny_mono rc fun r s' hq => ?_)
  cases r with
  | error e => exact tk e s' (XE.of_call I1 (fun cls d H' h => hW cls d H' h) hq)
  | ok fl =>
    cases fl with
    | ret u => exact I1.after hq
    | next => exact False.elim hq
    | brk => exact False.elim hq
    | cont => exact False.elim hq
end
end Ah
end
section
set_option Elab.async false
set_option linter.all false
set_option maxRecDepth 100000
set_option maxHeartbeats 2000000
namespace Ah
open PySem PySem.Spec PyProof.Rows L2 LamX
/-! ### x(lambda: ..), x(lambda a=0: ..) -/
/-- how a lambda is made, whatever its defaults -/
def LamMk (X : Cx) (T : List (Addr × Str)) (params : Arguments) (body : Expr) (scope : Scope) (pos : Pos) : Prop :=
  ∀ (pins : List (Addr × Obj)) (σ : L2.St) (H : Hp) (s : Shared) (E : Value → Shared → Prop) (Q : Value → Shared → Prop), L2.Inv X pins σ H s → Tabs T H →
    (∀ (f c' : Addr) (pm ctv dV : Value) (H1 : Hp) (s' : Shared) (binds : List (Str × Value)), L2.Inv X pins σ H1 s' → ExtN H H1 → Tabs T H1 →
      s'.heap.get? f = some (lamOb (X.env.qual ++ "<lambda>") params body scope (cloFrom X.env.cells scope.names []) pm (.ref c') ctv dV) → H1 f = none → f ∉ frs X.stack → H1 c' = some (CodeO c' (X.env.qual ++ "<lambda>")) →
      (∀ s1 : Shared, (∀ b o, s'.heap.get? b = some o → H1 b = none → b ∉ frs X.stack → s1.heap.get? b = some o) → BindsTo s1 (lamFd (X.env.qual ++ "<lambda>") params body scope (cloFrom X.env.cells scope.names []) pm (.ref c') ctv dV) ⟨[], []⟩ binds) →
      (∀ y ∈ binds, scope.names.lookup y.1 = some .local) → Q (.ref f) s') →
    wpAny (model X.prog X.w) X.A (eval (.Lambda params body scope pos) X.env) Q E s
section
variable {X : Cx} {T : List (Addr × Str)} {c P : Addr} {params : Arguments} {body : Expr} {scope : Scope} {pos p0 : Pos} {k : Int} {j : Nat} {n : Str}
theorem lamMk0 (TB : TabB X.base X.mg c P) (hcode : X.env.code = .ref c) (hm : (P, X.env.qual ++ "<lambda>") ∈ T) (hu : ∀ p ∈ T, p.1 = P → p.2 = X.env.qual ++ "<lambda>") (L : LamSD X.N X.env.scope scope) (hdef : defaultsOf params X.env = ([], []))
    (hbind : ∀ (q : Str) (cl : List (Str × Addr)) (pm cv ctv : Value), bindArgs (PySem.W.kla_fn "<lambda>" q params body scope cl pm cv ctv) ⟨[], []⟩ = pure []) : LamMk X T params body scope pos := by
  intro pins σ H s E Q I hT h
  refine lam_make2 I TB hcode hm hu hT hdef (L.has I.ok) fun f c' pm ctv H1 s' I1 eN T1 hf hfn hfr hco => ?_
  exact h f c' pm ctv .none H1 s' [] I1 eN T1 hf hfn hfr hco (fun s1 _ => .of_eq (hbind _ _ _ _ _)) (fun y hy => nomatch hy)
theorem lamMkD (TB : TabB X.base X.mg c P) (hcode : X.env.code = .ref c) (hm : (P, X.env.qual ++ "<lambda>") ∈ T) (hu : ∀ p ∈ T, p.1 = P → p.2 = X.env.qual ++ "<lambda>") (L : LamSD X.N X.env.scope scope) (hdef : defaultsOf params X.env = ([eval (.Constant (.int k) j p0) X.env], []))
    (hbind : ∀ (q : Str) (cl : List (Str × Addr)) (pm cv ctv : Value) (t : Addr), ∃ kk : Option (Array Value) → Sem (List (Str × Value)), bindArgs (lamFd q params body scope cl pm cv ctv (.ref t)) ⟨[], []⟩ = seqItems? (.ref t) >>= kk ∧ ∀ v, kk (some [v].toArray) = pure [(n, v)])
    (hn : scope.names.lookup n = some .local) : LamMk X T params body scope pos := by
  intro pins σ H s E Q I hT h
  refine lam_makeD I TB hcode hm hu hT hdef (L.has I.ok) fun f t c' tk pm ctv H1 s' I1 eN T1 hf ht hfn htn hfr htr hco => ?_
  refine h f c' pm ctv (.ref t) H1 s' [(n, .int k tk)] I1 eN T1 hf hfn hfr hco (fun s1 kb => ?_) (fun y hy => ?_)
  · obtain ⟨kk, e1, e2⟩ := hbind (X.env.qual ++ "<lambda>") (cloFrom X.env.cells scope.names []) pm (.ref c') ctv t
    intro M A E Q q
    rw [e1]
    refine wpAny_bind (wpAny_seqItems (kb t _ ht htn htr) rfl ?_)
    rw [e2]
    exact wpAny_pure q
  · rw [List.mem_singleton.mp hy]
    exact hn
end
/-- the def that calls what it got; what is let out is wished for at its slots -/
def GivesS (X : Cx) (Ng : List Str) (x : Str) (sg : Scope) (g : Addr) (cdg : Value) (bg : List Stmt) (a : Str) (q : Str) (TT : (XK → Hp → VK → Prop) → Hp → VK → Prop) : Prop :=
  ∀ (f c' : Addr) (s : Shared) (H : Hp) (Q : VK) (tl : XK → Hp → VK → Prop),
    (∀ (W : WX) (pn : List (Addr × Obj)) (xe : Value → Shared → Prop) (E : XK) (p1 p2 : Pos) (σ0 : L2.St), Takes ((cxOf C8.CX0 X.prog X.w X.K X.mg X.base Ng x sg g cdg X.A X.stack s H C8.E0).tr pn xe) W → (∀ cls d H', E cls d H' → W cls d σ0 H') →
      PE ((cxOf C8.CX0 X.prog X.w X.K X.mg X.base Ng x sg g cdg X.A X.stack s H C8.E0).tr pn xe) (.Call (.Name a p1) [] [] p2) (fun σZ HZ Q => σZ = σ0 ∧ σZ[0]? = some (some (.ref f)) ∧ HZ c' = some (CodeO c' q) ∧ tl E HZ Q)) →
    H c' = some (CodeO c' q) → TT tl H Q →
    ∃ t, PSs (cxOf C8.CX0 X.prog X.w X.K X.mg X.base Ng x sg g cdg X.A X.stack s H C8.E0).nox bg t ∧ t { nx := fun _ H' => Q .non H', rt := Q } (L2.start Ng [.ref f]) H
section
variable {X : Cx}
theorem pe_lamS {T : List (Addr × Str)} {TT : (XK → Hp → VK → Prop) → Hp → VK → Prop} {x a : Str} {g : Addr} {k : Nat} {pg : Arguments} {bg : List Stmt} {sg : Scope} {dV kV doc pm cdv ct oc : Value} {an od : Option Addr} {osl : Array (Option Value)} {Ng : List Str}
    {params : Arguments} {body : Expr} {scope : Scope} {t : XK → TE} {p lpos pos : Pos} (hg : Gl X x) (hm : X.mg x = some (.ref g)) (hk : PySem.W.keepIn X.K (.ref g) = true)
    (lk : X.K.lookup g = some ⟨oc, od, .func (PySem.W.fnOf x x pg bg sg dV kV doc pm an cdv ct), osl⟩) (hcg : PySem.W.codeIn X.K cdv x = true) (hb : L2.Binds X.K (PySem.W.fnOf x x pg bg sg dV kV doc pm an cdv ct) [a] []) (Sg : FnScope Ng [a] sg) (hNg : Ng[0]? = some a) (hva : Vis sg a)
    (hG : GivesS X Ng x sg g cdv bg a (X.env.qual ++ "<lambda>") TT) (hr : Room (k + 2) X.A) (L : LamSD X.N X.env.scope scope) (mk : LamMk X T params body scope lpos)
    (hbody : ∀ (A : Around) (outer : List Env) (s : Shared) (H : Hp) (E : XK) (f c' : Addr), Room k (A.deeper (lamEnv X scope s.heap.objs.size f c')) → PE (lamCx X A outer s H E scope f c') body (t E))
    (hdb : (x == ("__debug__" : Str)) = false := by decide) (hd : (a == ("__debug__" : Str)) = false := by decide) (hcd : (a == ("__classdict__" : Str)) = false := by decide) :
    PE X (.Call (.Name x p) [.Lambda params body scope lpos] [] pos) (tLam T TT t) := by
  refine ⟨fun pins s σ H Q I h => ?_⟩
  obtain ⟨hT, h⟩ := h
  refine wpAny_Call_Name_kw (ld_glob I hg hm ?_ hdb)
  refine PySem.W.callWith_K (h₀ := X.base) I.ok.mod.kin hk ?_ (by rfl) (by rfl)
  show wpAny _ _ (spliced ((false, eval (.Lambda params body scope lpos) X.env) :: backTo pos (starEach [] X.env))) _ _ s
  refine Calls.spliced_cons (mk pins σ H s _ _ I hT fun f c' pm' ctv dV' H1 s' binds I1 eN T1 hf hfn hfr hco hbd hlc => ?_)
  refine Calls.spliced_nil ⟨I1.kIn, ?_⟩
  have rc : codeAny (model X.prog X.w) X.A (.call (.ref g) ⟨[.ref f], []⟩) (CR C8.CX0 X.stack X.prog X.w H1 s' Q C8.E0) s' := by
    refine run_ofS (N := Ng) (ps := [a]) (us := [.ref f]) (vs := [.ref f]) lk hcg Sg hr I1.env0 (hb s' [.ref f] I1.kIn rfl) (.cons rfl .nil) rfl fun hr' => ?_
    obtain ⟨t', ht', hq'⟩ := hG f c' s' H1 Q (fun E H' Q' => t E σ H' Q') (fun W pn xe E p1 p2 σ0 tk hW => pe_actS (i := 0) I1 L hf hfn hfr hbd hlc tk hW hr' (fun A outer s H hr2 => hbody A outer s H E f c' hr2) hNg hva hd hcd) hco (h H1 eN T1)
    exact ⟨t', ht'.nox, hq'⟩
  refine wpAny_call (codeAny_mono rc fun r s2 hq => ?_)
  cases r with
  | error e => exact (show False from hq).elim
  | ok fl =>
    cases fl with
    | ret u => exact I1.after hq
    | next => exact False.elim hq
    | brk => exact False.elim hq
    | cont => exact False.elim hq
end
end Ah
end
section
set_option Elab.async false
set_option linter.all false
set_option maxRecDepth 100000
set_option maxHeartbeats 2000000
/-! a list comprehension whose parts may look at the state that it starts from -/
namespace Ah
open PySem PySem.Spec PyProof.Rows L2
section
variable {X : Cx}
/-- .. the parts' readings are asked for only where the def's own state holds -/
theorem lcI_core {pins : List (Addr × Obj)} {sA : Shared} {σ : L2.St} {HA : Hp} {Q : VK} {el tgt itr : Expr} {fs : List Expr} {scp : Scope} {own : List (Str × Nat)} {pA pB : Pos} {rI : TI} {rG : TG} {rT : TT} {rE : TE} {use : Option (Value → Sem Unit)} {Qf : Value → Shared → Prop}
    (calm : X.calm = true) (nd : X.N.Nodup) (IA : L2.Inv X pins σ HA sA) (dI : PI X tgt itr rI) (bok : BlkOk X.N X.env.scope scp own)
    (dG : ∀ (u : Shared) (G : Hp) (C : Addr) (cl : List (Str × Addr)) (fp : List Addr), L2.Inv X pins σ G u → (∀ b ∈ fp, ∀ x c, X.env.cells.lookup x = some c → c ≠ b) → PG (X.blk u G scp (compEnvC scp cl C X.env) fp) tgt rG)
    (dT : ∀ (u : Shared) (G : Hp) (C : Addr) (cl : List (Str × Addr)) (fp : List Addr), L2.Inv X pins σ G u → (∀ b ∈ fp, ∀ x c, X.env.cells.lookup x = some c → c ≠ b) → PTs (X.blk u G scp (compEnvC scp cl C X.env) fp) fs rT)
    (dE : ∀ (u : Shared) (G : Hp) (C : Addr) (cl : List (Str × Addr)) (fp : List Addr), L2.Inv X pins σ G u → (∀ b ∈ fp, ∀ x c, X.env.cells.lookup x = some c → c ≠ b) → PE (X.blk u G scp (compEnvC scp cl C X.env) fp) el rE) (fold : ∀ x, foldedSetIterable itr X.env x = pure x)
    (rd : tLc rI rG rT rE (own.map (·.2)) σ HA Q)
    (back : ∀ D C u m G, L2.Inv X pins σ G u → Q (.ref D) G → u.heap.Ns C m → FpOk X pins G C → compPost (model X.prog X.w) X.A X.xe use Qf (.ref D) C (.ok .next) u) :
    wpAny (model X.prog X.w) X.A (comprehension (.ListComp el [⟨tgt, itr, fs, 0⟩] scp pA) scp X.env pB (newList []) false (eval itr X.env) use) Qf X.xe sA := by
  have hasC : ∀ z ∈ scp.names, z.2 = .free → ∃ k, X.env.cells.lookup z.1 = some k := fun z hz e => (bok.free z hz e).elim (fun q => IA.ok.has _ (.inl q)) (fun q => IA.ok.has _ (.inr q))
  refine wpAny_comprehension_free (use := use) rfl fold (closure_ok hasC) bok.kind (fun z hz e => (bok.uniq z hz).trans (congrArg some e))
    (thn (dI.run pins sA σ HA _ IA rd) fun v0 u1 r1 => thn r1 fun v1 u2 r2 => ?_)
  obtain ⟨ita, fp, tn, J, H2, ev, I2, T, at2, ok2, q⟩ := r2
  subst ev
  refine wpAny_newObj_type (newEnv_comp ?_) (by show 0 ≤ sizeLine; decide)
  generalize eD : u2.heap.objs.size = D
  have nD : H2 D = none := I2.hok.fresh (Nat.le_of_eq eD)
  obtain ⟨W, ⟨mm, ww⟩, step0⟩ := q D nD
  generalize eu3 : ({ u2 with heap := u2.heap.push { cls := .type "list", data := .seq ([] : List Value).toArray } } : Shared) = u3
  have hu3 : u3.heap = u2.heap.push { cls := .type "list", data := .seq ([] : List Value).toArray } := by rw [← eu3]
  have I3 : L2.Inv X pins σ (upd H2 D (.lst [])) u3 := by
    rw [← eu3]
    refine I2.laid (t' := u2.toks) (fun b o e => Heap.get?_push_of_some _ e) (Nat.le_of_eq eD) ⟨Nat.zero_le _, [], 0, .nil, ?_⟩
    rw [← eD]
    exact Heap.get?_push_size _ rfl
  have lts : ∀ b ∈ fp, b < u2.heap.objs.size := fun b hb => let ⟨_, e, _⟩ := T.obj _ _ at2 b hb; Heap.lt_size e
  have ok3 : ∀ b ∈ fp, FpOk X pins (upd H2 D (.lst [])) b ∧ b < u3.heap.objs.size := fun b hb => by
    have lt := lts b hb
    have nb : b ≠ D := by rw [← eD]; exact Nat.ne_of_lt lt
    exact ⟨⟨(upd_ne nb).trans (ok2 b hb).1, (ok2 b hb).2⟩, by rw [hu3, Heap.size_push]; exact Nat.lt_succ_of_lt lt⟩
  have at3 : tn 0 u3.heap := T.keep _ _ _ at2 fun b _ o e => by rw [hu3]; exact Heap.get?_push_of_some _ e
  have I4 := block_start I3 bok nd ok3
  have hfp3 : ∀ b ∈ fp, ∀ x c, X.env.cells.lookup x = some c → c ≠ b := fun b hb => (ok3 b hb).1.2.2.2.2.1
  have pg := dG u3 (upd H2 D (.lst [])) u3.heap.objs.size (cellsFrom (u3.heap.objs.size + 1) scp.names (cloFrom X.env.cells scp.names [])) fp I3 hfp3
  have pt := dT u3 (upd H2 D (.lst [])) u3.heap.objs.size (cellsFrom (u3.heap.objs.size + 1) scp.names (cloFrom X.env.cells scp.names [])) fp I3 hfp3
  have pe := dE u3 (upd H2 D (.lst [])) u3.heap.objs.size (cellsFrom (u3.heap.objs.size + 1) scp.names (cloFrom X.env.cells scp.names [])) fp I3 hfp3
  show codeAny _ _ (.compStart (.ListComp el [⟨tgt, itr, fs, 0⟩] scp pA) 0 (.ref ita) (.ref D) (compEnvC scp (cellsFrom (u3.heap.objs.size + 1) scp.names (cloFrom X.env.cells scp.names [])) u3.heap.objs.size X.env)) (compPost (model X.prog X.w) X.A X.xe use Qf (.ref D) u3.heap.objs.size) { u3 with heap := pushCells (u3.heap.push { cls := .type "dict", data := .dict #[] }) scp.names }
  have nfp : ∀ b ∈ fp, (upd H2 D (.lst [])) b = none := fun b hb => (ok3 b hb).1.1
  generalize ee : compEnvC scp (cellsFrom (u3.heap.objs.size + 1) scp.names (cloFrom X.env.cells scp.names [])) u3.heap.objs.size X.env = en at I4 pg pt pe ⊢
  have enL : en.locals = u3.heap.objs.size := by subst ee; rfl
  generalize eH3 : upd H2 D (.lst []) = H3 at I3 I4 pg pt pe ww nfp ok3
  generalize eu4 : ({ u3 with heap := pushCells (u3.heap.push { cls := .type "dict", data := .dict #[] }) scp.names } : Shared) = u4 at I4 ⊢
  have at4 : tn 0 u4.heap := T.keep _ _ _ at3 fun b _ o e => by rw [← eu4]; exact pushCells_keeps _ _ _ _ (Heap.get?_push_of_some _ e)
  have fpo : ∀ {τ : L2.St} {G : Hp} {u : Shared}, L2.Inv (X.blk u3 H3 scp en fp) [] τ G u → (∀ b ∈ fp, G b = none) → ∀ b ∈ fp, FpOk (X.blk u3 H3 scp en fp) [] G b := fun {τ G u} J' hn b hb =>
    ⟨hn b hb, (J'.ok.exf b hb).1, J'.ok.exfs b hb, .inl hb, fun x c e => (J'.ok.exf b hb).2 x c e, fun p hp => absurd (show p ∈ ([] : List (Addr × Obj)) ++ [] from hp) (by simp)⟩
  have run : codeAny (model X.prog X.w) X.A (.compLoop (.ListComp el [⟨tgt, itr, fs, 0⟩] scp pA) 0 (.ref ita) (.ref D) en) (compPost (model X.prog X.w) X.A X.xe use Qf (.ref D) u3.heap.objs.size) u4 := by
    refine compLoop_any (fun n u => ∃ i G, L2.Inv (X.blk u3 H3 scp en fp) [] (wipe σ (own.map (·.2))) G u ∧ tn i u.heap ∧ (∀ b ∈ fp, G b = none) ∧ W i n G) ?_ mm ⟨0, H3, I4, at4, nfp, ww⟩
    rintro n u5 ⟨i, H5, I5, at5, n5, w5⟩
    rcases step0 i n H5 w5 with ⟨halt, qq⟩ | ⟨more, Nx, hNx, st⟩
    · refine thnF (T.done (X.blk u3 H3 scp en fp) rfl rfl rfl calm i [] u5 _ H5 (fun _ _ => False) I5 (fpo I5 n5) at5 halt) fun r u6 ⟨er, I6⟩ => ?_
      subst er
      have nC : H5 u3.heap.objs.size = none := by
        have z : H5 en.locals = none := I6.free
        rwa [enL] at z
      have I7 : L2.Inv X pins σ H5 u6 := I3.call' (ch := fp) I6.os I6.base I6.hok I6.bare fun b hb => ⟨(ok3 b hb).1.2.2.2.1, (ok3 b hb).1.2.1, (ok3 b hb).1.2.2.2.2.1, (ok3 b hb).1.2.2.2.2.2⟩
      obtain ⟨m, hn, _⟩ := I6.loc
      have hn : u6.heap.Ns u3.heap.objs.size m := by
        have z : u6.heap.Ns en.locals m := hn
        rwa [enL] at z
      exact back D u3.heap.objs.size u6 m H5 I7 qq hn (I3.fpOk (Nat.le_refl _) nC)
    · refine thnF (T.item (X.blk u3 H3 scp en fp) rfl rfl rfl calm i [] u5 _ H5 (fun _ _ => False) I5 (fpo I5 n5) at5 more) fun r u6 ⟨x0, er, h6⟩ => ?_
      subst er
      refine thnF h6 fun _ u7 ⟨x, H7, I7, r7, y7, at7, n7⟩ => ?_
      refine thnF (pg.run _ u7 _ H7 x x0 _ (I7.pinned (fpo I7 n7) (T.obj _ _ at7)) r7 (st x H7 y7)) fun _ u8 ⟨σ8, H8, I8, e8, q8⟩ => ?_
      refine thnF (pt.run _ u8 σ8 H8 _ I8 q8) fun b u9 ⟨H9, I9, q9⟩ => ?_
      have fin : ∀ {u : Shared} {G : Hp}, L2.Inv (X.blk u3 H3 scp en fp) ([] ++ pinsAt fp u7.heap) σ8 G u → Nx G → ∃ m, m < n ∧ ∃ i G, L2.Inv (X.blk u3 H3 scp en fp) [] (wipe σ (own.map (·.2))) G u ∧ tn i u.heap ∧ (∀ b ∈ fp, G b = none) ∧ W i m G := fun {u G} J' nx => by
        obtain ⟨m2, lt2, w2⟩ := hNx G nx
        have pinned : ∀ b ∈ fp, ∀ o, u7.heap.get? b = some o → u.heap.get? b = some o ∧ G b = none := fun b hb o e =>
          let z := J'.pin (b, o) (List.mem_append_right _ (List.mem_append_right _ (mem_pinsAt hb e)))
          ⟨z.1, z.2.1⟩
        have same : (wipe σ (own.map (·.2))).length = σ8.length := by rw [← e8, wipe_length]
        refine ⟨m2, lt2, i + 1, G, (J'.unpinned (pins := [])).weak same (fun j v e => ?_), T.keep _ _ _ at7 fun b hb o e => (pinned b hb o e).1, fun b hb => ?_, w2⟩
        · rw [← e8] at e
          exact (wipe_some e).1
        · obtain ⟨o, e, _⟩ := T.obj _ _ at7 b hb
          exact (pinned b hb o e).2
      cases b with
      | false =>
        simp only [Bool.false_eq_true, if_false] at q9 ⊢
        exact fin I9 q9
      | true =>
        simp only [if_true] at q9 ⊢
        refine thnF (pe.run _ u9 σ8 H9 _ I9 q9) fun z u10 ⟨yv, H10, I10, r10, acc, hacc, lacc, nx⟩ => ?_
        exact app_ok (X := X.blk u3 H3 scp en fp) I10 hacc lacc r10 fun u11 I11 => fin I11 nx
  exact codeAny_compStart_list run (T.self X.A 0 _ _ _ at4 run)
theorem pe_lcI {el tgt itr : Expr} {fs : List Expr} {scp : Scope} {own : List (Str × Nat)} {pA : Pos} {rI : TI} {rG : TG} {rT : L2.St → TT} {rE : L2.St → TE} (calm : X.calm = true) (nd : X.N.Nodup) (dI : PI X tgt itr rI) (bok : BlkOk X.N X.env.scope scp own)
    (dG : ∀ (pins : List (Addr × Obj)) (σ : L2.St) (u : Shared) (G : Hp) (C : Addr) (cl : List (Str × Addr)) (fp : List Addr), L2.Inv X pins σ G u → (∀ b ∈ fp, ∀ x c, X.env.cells.lookup x = some c → c ≠ b) → PG (X.blk u G scp (compEnvC scp cl C X.env) fp) tgt rG)
    (dT : ∀ (pins : List (Addr × Obj)) (σ : L2.St) (u : Shared) (G : Hp) (C : Addr) (cl : List (Str × Addr)) (fp : List Addr), L2.Inv X pins σ G u → (∀ b ∈ fp, ∀ x c, X.env.cells.lookup x = some c → c ≠ b) → PTs (X.blk u G scp (compEnvC scp cl C X.env) fp) fs (rT σ))
    (dE : ∀ (pins : List (Addr × Obj)) (σ : L2.St) (u : Shared) (G : Hp) (C : Addr) (cl : List (Str × Addr)) (fp : List Addr), L2.Inv X pins σ G u → (∀ b ∈ fp, ∀ x c, X.env.cells.lookup x = some c → c ≠ b) → PE (X.blk u G scp (compEnvC scp cl C X.env) fp) el (rE σ)) (fold : ∀ x, foldedSetIterable itr X.env x = pure x := by intro _; rfl) :
    PE X (.ListComp el [⟨tgt, itr, fs, 0⟩] scp pA) (fun σ H Q => tLc rI rG (rT σ) (rE σ) (own.map (·.2)) σ H Q) := by
  refine ⟨fun pins s σ H Q I h => ?_⟩
  rw [eval_ListComp]
  refine lcI_core calm nd I dI bok (dG pins σ) (dT pins σ) (dE pins σ) fold h fun D C u m G J q hn f => ⟨m, hn, fun h'' sb => ?_⟩
  obtain ⟨_, f1, f2, f3, f4, f5⟩ := f
  exact ⟨.ref D, G, J.turned (t' := u.toks) (fun b o hb e => (sb.2 b hb).trans e) (by assumption) f1 f3 f4 f5, rfl, q⟩
end
end Ah
end
section
set_option Elab.async false
set_option linter.all false
set_option maxRecDepth 100000
set_option maxHeartbeats 2000000
/-! a lambda that is kept: its object tracked -/
namespace Ah
open PySem PySem.Spec PyProof.Rows L2 LamX
section
variable {X : Cx} {pins : List (Addr × Obj)} {σ : L2.St} {H H1 : Hp} {s s1 : Shared}
/-- an object that came behind s is tracked from now on -/
theorem inv_track {a : Addr} {o : HO} (I : L2.Inv X pins σ H s) (J : L2.Inv X pins σ H1 s1) (ha : s.heap.objs.size ≤ a) (hn : H1 a = none) (new : ObjOk X.prog X.w (upd H1 a o) s1.heap a o) : L2.Inv X pins σ (upd H1 a o) s1 := by
  have lt : ∀ {b : Addr} {u : Obj}, s.heap.get? b = some u → b ≠ a := fun {b u} e z => by
    rw [z] at e
    exact absurd (Nat.lt_of_lt_of_le (Heap.lt_size e) ha) (Nat.lt_irrefl _)
  have lt0 : ∀ {b : Addr} {u : Obj}, X.s_0.heap.get? b = some u → b ≠ a := fun {b u} e z => by
    rw [z] at e
    exact absurd (Nat.lt_of_lt_of_le (Nat.lt_of_lt_of_le (Heap.lt_size e) I.sz) ha) (Nat.lt_irrefl _)
  refine ⟨J.ok, J.os, J.bare, ⟨J.base.keep, J.base.slot, fun b u e n x => ?_, J.base.there, fun b xs e => ?_, fun b u v e => ?_, fun b ps e => ?_⟩, J.loc, J.cell, ?_, fun x c e => ?_, fun p hp => ?_, fun b u e => ?_, J.len⟩
  · rw [upd_ne (lt0 e)]
    exact J.base.free b u e n x
  · have q := J.base.tups b xs e
    rw [upd_ne (ne_of_none q hn)]
    exact q
  · have q := J.base.frzs b u v e
    rw [upd_ne (ne_of_none q hn)]
    exact q
  · obtain ⟨more, q⟩ := J.base.tbls b ps e
    exact ⟨more, by rw [upd_ne (ne_of_none q hn)]; exact q⟩
  · rw [upd_ne (Nat.ne_of_lt (Nat.lt_of_lt_of_le I.lt ha))]
    exact J.free
  · obtain ⟨v, q⟩ := I.cell x c e
    obtain ⟨o', ho, _⟩ := q
    rw [upd_ne (lt ho)]
    exact J.freeC x c e
  · obtain ⟨q1, q2, q3⟩ := J.pin p hp
    refine ⟨q1, ?_, q3⟩
    rw [upd_ne (lt (I.pin p hp).1)]
    exact q2
  · by_cases hb : b = a
    · rw [hb, upd_same] at e
      cases e
      rw [hb]
      exact new
    · rw [upd_ne hb] at e
      exact (J.hok b u e).stay (fun _ _ _ q => q) (fun c q => by rw [upd_ne (ne_of_none q hn)]; exact q) fun c xs q => by rw [upd_ne (ne_of_none q hn)]; exact q
end
def dvV : Option Addr → Value
  | none => .none
  | some t => .ref t
def LamO (q : Str) (params : Arguments) (body : Expr) (scope : Scope) (clo : List (Str × Addr)) (f c' : Addr) (dv : Option Addr) : HO := .ext fun h => ∃ pm ctv, h.get? f = some (lamOb q params body scope clo pm (.ref c') ctv (dvV dv))
/-- the lambda at f; tup: whether it bears a default -/
def LamAt (H : Hp) (q : Str) (params : Arguments) (body : Expr) (scope : Scope) (clo : List (Str × Addr)) (tup : Bool) (f : Addr) : Prop :=
  ∃ (c' : Addr) (dv : Option Addr), H f = some (LamO q params body scope clo f c' dv) ∧ H c' = some (CodeO c' q) ∧ tup = dv.isSome ∧ ∀ t, dv = some t → ∃ k, H t = some (.tup [.int k])
theorem lamO_ne {q : Str} {params : Arguments} {body : Expr} {scope : Scope} {clo : List (Str × Addr)} {f c' : Addr} {dv : Option Addr} (ps : Array Value) : LamO q params body scope clo f c' dv ≠ .tbl ps := fun z => by
  unfold LamO at z
  cases z
theorem LamAt.keep {H H' : Hp} {q : Str} {params : Arguments} {body : Expr} {scope : Scope} {clo : List (Str × Addr)} {tup : Bool} {f : Addr} (h : LamAt H q params body scope clo tup f) (k : ∀ b o, H b = some o → (∀ ps, o ≠ .tbl ps) → (∀ xs, o ≠ .lst xs) → H' b = some o) : LamAt H' q params body scope clo tup f := by
  obtain ⟨c', dv, h1, h2, h3, h4⟩ := h
  refine ⟨c', dv, k _ _ h1 lamO_ne (fun xs z => by unfold LamO at z; cases z), k _ _ h2 codeO_ne (fun xs z => by unfold CodeO at z; cases z), h3, fun t e => ?_⟩
  obtain ⟨kk, e2⟩ := h4 t e
  exact ⟨kk, k _ _ e2 (fun _ z => nomatch z) (fun _ z => nomatch z)⟩
section
variable {X : Cx} {pins : List (Addr × Obj)} {σ : L2.St} {H : Hp} {s : Shared}
/-- behind the default: the function itself -/
theorem lam_core {T : List (Addr × Str)} {c P : Addr} {params : Arguments} {body : Expr} {scope : Scope} {pos : Pos} {n : Nat} {E : Value → Shared → Prop} {Q : Value → Shared → Prop} {dv : Option Addr} (I : L2.Inv X pins σ H s) (TB : LamX.TabB X.base X.mg c P) (hcode : X.env.code = .ref c)
    (hm : (P, X.env.qual ++ "<lambda>") ∈ T) (hu : ∀ p ∈ T, p.1 = P → p.2 = X.env.qual ++ "<lambda>") (hT : LamX.Tabs T H) (hfree : ∀ y ∈ scope.names, y.2 = .free → ∃ c, X.env.cells.lookup y.1 = some c)
    (h : ∀ (f c' : Addr) (H1 : Hp) (s' : Shared), L2.Inv X pins σ H1 s' → (∀ b o, H b = some o → b ≠ P → H1 b = some o) → LamX.Tabs T H1 → H f = none → H1 f = some (LamO (X.env.qual ++ "<lambda>") params body scope (cloFrom X.env.cells scope.names []) f c' dv) → H1 c' = some (LamX.CodeO c' (X.env.qual ++ "<lambda>")) → Q (.ref f) s') :
    wpAny (model X.prog X.w) X.A (makeTail "<lambda>" (X.env.qual ++ "<lambda>") params (.expr body) scope X.env (dvV dv) .none none pos n) Q E s := by
  obtain ⟨ps, hP, ht, ha⟩ := hT _ hm
  refine lamd_tail (closure_ok hfree) fun ctv h1 k1 l1 => ?_
  have bP : s.heap.BuiltinsAt X.mg P := TB.bm.keeps I.bk
  have hP' : s.heap.get? P = some { cls := .none, data := .fields ps } := I.hok P _ hP
  obtain ⟨bm, ob, hbm, hne0, hneG, hneP, hbo, hcls, hdict, hdata⟩ := bP
  have hG := (I.mod.glob.keeps I.bk).keeps k1
  have hC := (TB.code.keeps I.bk).keeps k1
  rw [I.ok.glob]
  have fin : ∀ {c' : Addr} {H2 : Hp} {h2 : Heap} {tk : Nat} {pm : Value}, L2.Inv X pins σ H2 { s with heap := h2, toks := tk } → s.heap.objs.size ≤ h2.objs.size → H2 c' = some (LamX.CodeO c' (X.env.qual ++ "<lambda>")) → (∀ b o, H b = some o → b ≠ P → H2 b = some o) → LamX.Tabs T H2 →
      Q (.ref h2.objs.size) { s with heap := h2.push (lamOb (X.env.qual ++ "<lambda>") params body scope (cloFrom X.env.cells scope.names []) pm (.ref c') ctv (dvV dv)), toks := tk } := fun {c' H2 h2 tk pm} J hs hco hE hTb => by
    have nf : H2 h2.objs.size = none := J.hok.fresh (Nat.le_refl _)
    have new : ObjOk X.prog X.w (upd H2 h2.objs.size (LamO (X.env.qual ++ "<lambda>") params body scope (cloFrom X.env.cells scope.names []) h2.objs.size c' dv)) (h2.push (lamOb (X.env.qual ++ "<lambda>") params body scope (cloFrom X.env.cells scope.names []) pm (.ref c') ctv (dvV dv))) h2.objs.size
        (LamO (X.env.qual ++ "<lambda>") params body scope (cloFrom X.env.cells scope.names []) h2.objs.size c' dv) := ⟨⟨pm, ctv, Heap.get?_push_size _ rfl⟩, ⟨_, Heap.get?_push_size _ rfl⟩, fun g1 g2 ⟨p1, p2, e⟩ k => ⟨p1, p2, k _ e⟩⟩
    have J2 := J.laid (h' := h2.push (lamOb (X.env.qual ++ "<lambda>") params body scope (cloFrom X.env.cells scope.names []) pm (.ref c') ctv (dvV dv))) (t' := tk) (fun b o e => Heap.get?_push_of_some _ e) (Nat.le_refl _) new
    refine h h2.objs.size c' _ _ J2 (fun b o e n => by rw [upd_ne (ne_of_none (hE b o e n) nf)]; exact hE b o e n) (hTb.ext fun b o e => by rw [upd_ne (ne_of_none e nf)]; exact e) (I.hok.fresh hs) upd_same ?_
    rw [upd_ne (ne_of_none hco nf)]
    exact hco
  cases hc : codeAmong pos ps.toList with
  | none =>
    refine PySem.wpAny_functionCodeX hcode (hC.code (k1 _ _ hP') ht) (hC.tab (k1 _ _ hP')) hc fun c' h' tk hx hge hlt _ hrec htb _ => ?_
    obtain ⟨c2, oc, vs, t, e2, hoc, hd, hv⟩ := hrec
    cases e2
    have kx : ∀ b o, b ≠ P → s.heap.get? b = some o → h'.get? b = some o := fun b o hb e => hx b o hb (k1 b o e)
    have hG' := hG.extBut hx TB.gP
    refine wpAny_builtinsFor hG' hbm hne0 (kx _ _ hneP hbo) hcls hdict hdata ?_
    refine wpAny_nsGet hG' ?_
    have l1 : s.heap.objs.size ≤ h1.objs.size := l1
    have hcs : s.heap.objs.size ≤ c' := Nat.le_trans l1 hge
    have hsz : s.heap.objs.size ≤ h'.objs.size := Nat.le_of_lt (Nat.lt_of_le_of_lt hcs hlt)
    have nC : H c' = none := I.hok.fresh hcs
    have I1 := LamX.inv_table (q := X.env.qual ++ "<lambda>") (t' := tk) (more := #[rawInt pos.line, rawInt pos.col, .ref c']) (h' := h') I hP kx htb.2 hcs ⟨oc, vs, t, hoc, hd, hv⟩
    have hE : LamX.ExtN H (L2.upd (L2.upd H P (.tbl (ps ++ #[rawInt pos.line, rawInt pos.col, .ref c']))) c' (LamX.CodeO c' (X.env.qual ++ "<lambda>"))) := fun b o e n => by
      rw [upd_ne (ne_of_none e nC), upd_ne (fun z => n ps (Option.some.inj (e.symm.trans (by rw [z]; exact hP))))]
      exact e
    have eL : (ps ++ #[rawInt pos.line, rawInt pos.col, .ref c']).toList = ps.toList ++ [rawInt pos.line, rawInt pos.col, .ref c'] := by simp
    refine fin I1 hsz upd_same (fun b o e n => by rw [upd_ne (ne_of_none e nC), upd_ne n]; exact e) (fun p hp => ?_)
    by_cases hb : p.1 = P
    · rw [hu p hp hb, hb]
      refine ⟨_, by rw [upd_ne (ne_of_none hP nC), upd_same], by rw [eL]; exact PySem.TriplesOk_snoc _ _ _ _ ht, fun p' cv hcv => ?_⟩
      rw [eL] at hcv
      rcases LamX.among_app _ ht hcv with z | z
      · obtain ⟨c0, e1, e2⟩ := ha p' cv z
        exact ⟨c0, e1, hE _ _ e2 LamX.codeO_ne⟩
      · exact ⟨c', z, upd_same⟩
    · obtain ⟨ps', a1, a2, a3⟩ := hT p hp
      refine ⟨ps', by rw [upd_ne (ne_of_none a1 nC), upd_ne hb]; exact a1, a2, fun p' cv hcv => ?_⟩
      obtain ⟨c0, e1, e2⟩ := a3 p' cv hcv
      exact ⟨c0, e1, hE _ _ e2 LamX.codeO_ne⟩
  | some cv =>
    obtain ⟨c', e, hco⟩ := ha pos cv hc
    subst e
    refine wpAny_functionCode_hit hcode (hC.code (k1 _ _ hP') ht) hc ?_
    refine wpAny_builtinsFor hG hbm hne0 (k1 _ _ hbo) hcls hdict hdata ?_
    refine wpAny_nsGet hG ?_
    exact fin (I.kept (h' := h1) (t' := s.toks) k1) l1 hco (fun _ _ e _ => e) hT
/-- what a kept lambda's making asks -/
def tLamK (P : Addr) (q : Str) (params : Arguments) (body : Expr) (scope : Scope) (cells : List (Str × Addr)) (tup : Bool) : TE := fun _ H Q => TabS H P q ∧ ∀ (H1 : Hp) (f : Addr), (∀ b o, H b = some o → b ≠ P → H1 b = some o) → TabS H1 P q → H f = none → LamAt H1 q params body scope (cloFrom cells scope.names []) tup f → Q (.ref f) H1
theorem pe_lamK0 {c P : Addr} {params : Arguments} {body : Expr} {scope : Scope} {pos : Pos} (TB : LamX.TabB X.base X.mg c P) (hcode : X.env.code = .ref c) 
    (hcell : ∀ y ∈ scope.names, y.2 = .free → X.env.scope.names.lookup y.1 = some .cell ∨ X.env.scope.names.lookup y.1 = some .free) (hdef : defaultsOf params X.env = ([], [])) : PE X (.Lambda params body scope pos) (tLamK P (X.env.qual ++ "<lambda>") params body scope X.env.cells false) := by
  refine ⟨fun pins s σ H Q I h => ?_⟩
  obtain ⟨hT0, h⟩ := h
  have hT : LamX.Tabs [(P, X.env.qual ++ "<lambda>")] H := fun p hp => by
    rw [List.mem_singleton.mp hp]
    exact hT0
  have hm : (P, X.env.qual ++ "<lambda>") ∈ [(P, X.env.qual ++ "<lambda>")] := List.mem_singleton.mpr rfl
  have hu : ∀ p ∈ [(P, X.env.qual ++ "<lambda>")], p.1 = P → p.2 = X.env.qual ++ "<lambda>" := fun p hp _ => by rw [List.mem_singleton.mp hp]
  have hfree : ∀ y ∈ scope.names, y.2 = .free → ∃ c, X.env.cells.lookup y.1 = some c := fun y hy e => (hcell y hy e).elim (fun k => I.ok.has _ (.inl k)) (fun k => I.ok.has _ (.inr k))
  rw [arm_eval_Lambda, hdef]
  show wpAny _ _ (do let dv ← evalAll []; let kdv ← holding dv (evalAllOpt []); makeFunction "<lambda>" (X.env.qual ++ "<lambda>") params (.expr body) scope X.env dv kdv [] pos pos.line) _ _ s
  refine wpAny_bind (wpAny_pure ?_)
  refine wpAny_bind (wpAny_holding (wpAny_pure ?_))
  rw [makeFunction_eq]
  simp only [List.zip_nil_right, List.filterMap_nil, List.isEmpty_nil, if_true, pure_bind]
  refine lam_core (dv := none) I TB hcode hm hu hT hfree fun f c' H1 s' I1 eN T1 nf hf hc => ⟨.ref f, H1, I1, rfl, h H1 f eN (T1 _ hm) nf ⟨c', none, hf, hc, rfl, fun t e => nomatch e⟩⟩
theorem pe_lamKD {c P : Addr} {params : Arguments} {body : Expr} {scope : Scope} {pos p0 : Pos} {k : Int} {j : Nat} (TB : LamX.TabB X.base X.mg c P) (hcode : X.env.code = .ref c) 
    (hcell : ∀ y ∈ scope.names, y.2 = .free → X.env.scope.names.lookup y.1 = some .cell ∨ X.env.scope.names.lookup y.1 = some .free) (hdef : defaultsOf params X.env = ([eval (.Constant (.int k) j p0) X.env], [])) : PE X (.Lambda params body scope pos) (tLamK P (X.env.qual ++ "<lambda>") params body scope X.env.cells true) := by
  refine ⟨fun pins s σ H Q I h => ?_⟩
  obtain ⟨hT0, h⟩ := h
  have hT : LamX.Tabs [(P, X.env.qual ++ "<lambda>")] H := fun p hp => by
    rw [List.mem_singleton.mp hp]
    exact hT0
  have hm : (P, X.env.qual ++ "<lambda>") ∈ [(P, X.env.qual ++ "<lambda>")] := List.mem_singleton.mpr rfl
  have hu : ∀ p ∈ [(P, X.env.qual ++ "<lambda>")], p.1 = P → p.2 = X.env.qual ++ "<lambda>" := fun p hp _ => by rw [List.mem_singleton.mp hp]
  have hfree : ∀ y ∈ scope.names, y.2 = .free → ∃ c, X.env.cells.lookup y.1 = some c := fun y hy e => (hcell y hy e).elim (fun k => I.ok.has _ (.inl k)) (fun k => I.ok.has _ (.inr k))
  rw [arm_eval_Lambda, hdef]
  show wpAny _ _ (do let dv ← evalAll [eval (.Constant (.int k) j p0) X.env]; let kdv ← holding dv (evalAllOpt []); makeFunction "<lambda>" (X.env.qual ++ "<lambda>") params (.expr body) scope X.env dv kdv [] pos pos.line) _ _ s
  refine wpAny_bind (wpAny_bind (wpAny_Constant_int (wpAny_bind (wpAny_holding (wpAny_pure (wpAny_pure ?_))))))
  refine wpAny_bind (wpAny_holding (wpAny_pure ?_))
  rw [makeFunction_eq]
  simp only [List.zip_nil_right, List.filterMap_nil, List.isEmpty_nil, List.isEmpty_cons, Bool.false_eq_true, if_false, if_true, pure_bind]
  refine wpAny_bind (wpAny_newTextTuple ?_)
  have nt : H s.heap.objs.size = none := I.hok.fresh (Nat.le_refl _)
  have It : L2.Inv X pins σ (upd H s.heap.objs.size (.tup [.int k])) { s with heap := s.heap.push { cls := .type "tuple", data := .seq [Value.int k s.toks].toArray }, toks := s.toks + 1 } :=
    I.laid (fun b o e => Heap.get?_push_of_some _ e) (Nat.le_refl _) ⟨by show (1 : Nat) ≤ sizeLine; decide, [Value.int k s.toks], .cons ⟨s.toks, rfl⟩ .nil, ⟨_, Heap.get?_push_size _ rfl, rfl, ⟨_, rfl⟩⟩⟩
  have TT2 : LamX.Tabs [(P, X.env.qual ++ "<lambda>")] (upd H s.heap.objs.size (.tup [.int k])) := hT.ext fun b o e => by rw [upd_ne (ne_of_none e nt)]; exact e
  refine lam_core (dv := some s.heap.objs.size) It TB hcode hm hu TT2 hfree fun f c' H1 s' I1 eN T1 nf hf hc => ⟨.ref f, H1, I1, rfl, h H1 f (fun b o e n => eN b o (by rw [upd_ne (ne_of_none e nt)]; exact e) n) (T1 _ hm) ?_ ⟨c', some s.heap.objs.size, hf, hc, rfl, fun t e => ⟨k, ?_⟩⟩⟩
  · cases e : H f with
    | none => rfl
    | some o =>
      rw [upd_ne (ne_of_none e nt), e] at nf
      cases nf
  · cases e
    refine eN _ _ upd_same fun z => ?_
    obtain ⟨ps, hP, _⟩ := hT0
    rw [← z, nt] at hP
    cases hP
end
end Ah
end
section
set_option Elab.async false
set_option linter.all false
set_option maxRecDepth 100000
set_option maxHeartbeats 2000000
/-! a kept lambda handed to a def that calls it -/
namespace Ah
open PySem PySem.Spec PyProof.Rows L2 LamX
section
variable {X : Cx} {pins : List (Addr × Obj)} {σ : L2.St} {G HZ : Hp} {u s1 : Shared}
theorem lam_startT {A : Around} {outer : List Env} {E : XK} {scope : Scope} {f c' : Addr} {h₁ : Heap} {tk : Nat} {m : Str → Option Value} (J : L2.Inv X pins σ G u) (L : LamSD X.N X.env.scope scope) (e0 : Env0 X.prog X.w X.K X.mg X.base A outer s1 HZ) (hd : A.handled = none)
    (cT : ∀ x c v, X.env.cells.lookup x = some c → u.heap.IsCell c v → s1.heap.IsCell c v ∧ HZ c = none) (hns : h₁.Ns s1.heap.objs.size m) (kp : ∀ b o, s1.heap.get? b = some o → h₁.get? b = some o) :
    L2.Inv (lamCx X A outer s1 HZ E scope f c') [] σ HZ { s1 with heap := h₁, toks := tk } := by
  have hfree := L.has J.ok
  have cm : ∀ {y c}, (cloFrom X.env.cells scope.names []).lookup y = some c → X.env.cells.lookup y = some c := fun {y c} e => by
    rcases cloFrom_mem (PySem.mem_of_lookup e) with hm | ⟨h1, h2⟩
    · cases hm
    · obtain ⟨c1, hc⟩ := hfree _ h1 rfl
      have hc : X.env.cells.lookup y = some c1 := hc
      rw [hc] at h2
      rw [h2]
      exact hc
  have look : ∀ {y}, scope.names.lookup y = some .free → ∃ c, (cloFrom X.env.cells scope.names []).lookup y = some c := fun {y} hl =>
    mem_lookup (cloFrom_has (cells := X.env.cells) (acc := []) (PySem.mem_of_lookup hl))
  have cellK : ∀ {y : Str} {c : Addr} {v : Option Value}, X.env.cells.lookup y = some c → u.heap.IsCell c v → h₁.IsCell c v := fun {y c v} n z => by
    obtain ⟨o, ho, hdd⟩ := (cT y c v n z).1
    exact ⟨o, kp _ _ ho, hdd⟩
  have noA : ∀ b : Addr, b ∉ (lamCx X A outer s1 HZ E scope f c').ex := fun b z => absurd (show b ∈ ([] : List Addr) from z) (by simp)
  refine ⟨⟨e0.mod, L.kind, rfl, rfl, Nat.le_refl _, fun y z c e1 e2 => J.ok.inj y z c (cm e1) (cm e2), fun y hy => ?_, fun y c z _ => absurd (show false = true from z) Bool.false_ne_true, fun _ => hd, Around.frames_deeper e0.frames, .inr ⟨rfl, rfl⟩, fun b z => absurd z (noA b), e0.bs, e0.bsz, fun b _ _ => noA b,
      fun b z => absurd z (noA b), e0.funs, e0.frf⟩,
    rfl, e0.bare, Un.kept kp, ⟨_, hns, fun i y v e1 e2 e3 => ?_⟩, fun y c e => ?_, e0.hok.fresh (Nat.le_refl _), fun y c e => ?_, fun q hq => absurd (show q ∈ ([] : List (Addr × Obj)) ++ [] from hq) (by simp), e0.hok.kept kp, J.len⟩
  · have hy : scope.names.lookup y = some .cell ∨ scope.names.lookup y = some .free := hy
    rcases hy with hy | hy
    · exact absurd rfl (L.own _ (PySem.mem_of_lookup hy))
    · exact look hy
  · have e3 : Vis scope y := e3
    rcases e3 with k | k | k
    · exact absurd (List.mem_of_getElem? (show X.N[i]? = some y from e1)) (L.loc _ (PySem.mem_of_lookup k) rfl)
    · exact absurd rfl (L.own _ (PySem.mem_of_lookup k))
    · obtain ⟨m, hn, hl⟩ := J.loc
      have hvis : Vis X.env.scope y := (L.free _ (PySem.mem_of_lookup k) rfl).elim (fun k => .inr (.inl k)) (fun k => .inr (.inr k))
      obtain ⟨w', r, q⟩ := hl i y v e1 e2 hvis
      obtain ⟨c2, h2⟩ := look k
      refine ⟨w', r, .inr ⟨.inr k, c2, h2, ?_⟩⟩
      have c1 := cm h2
      rcases q with ⟨k', _⟩ | ⟨_, c3, e', z⟩
      · have k' : X.env.scope.names.lookup y = some .local := k'
        rcases L.free _ (PySem.mem_of_lookup k) rfl with k2 | k2 <;> rw [show X.env.scope.names.lookup y = _ from k2] at k' <;> cases k'
      · rw [c1] at e'
        cases e'
        exact cellK c1 z
  · obtain ⟨w', z⟩ := J.cell y c (cm e)
    exact ⟨w', cellK (cm e) z⟩
  · obtain ⟨v, z⟩ := J.cell y c (cm e)
    exact (cT y c v (cm e) z).2
/-- how a lambda of such a form takes no arguments -/
structure LamB (params : Arguments) (body : Expr) (scope : Scope) (tup : Bool) : Prop where
  b0 : tup = false → ∀ (q : Str) (cl : List (Str × Addr)) (pm cv ctv : Value), bindArgs (lamFd q params body scope cl pm cv ctv .none) ⟨[], []⟩ = pure []
  bD : tup = true → ∃ n, scope.names.lookup n = some .local ∧ ∀ (q : Str) (cl : List (Str × Addr)) (pm cv ctv : Value) (t : Addr), ∃ kk : Option (Array Value) → Sem (List (Str × Value)), bindArgs (lamFd q params body scope cl pm cv ctv (.ref t)) ⟨[], []⟩ = seqItems? (.ref t) >>= kk ∧ ∀ v, kk (some [v].toArray) = pure [(n, v)]
theorem LamB.binds {params : Arguments} {body : Expr} {scope : Scope} {tup : Bool} (b : LamB params body scope tup) {P : Program} {w : World} {H : Hp} {s : Shared} (hok : HOk P w H s.heap) {dv : Option Addr} (e : tup = dv.isSome) (ht : ∀ t, dv = some t → ∃ k, H t = some (.tup [.int k])) (q : Str) (cl : List (Str × Addr)) (pm cv ctv : Value) :
    ∃ binds, BindsTo s (lamFd q params body scope cl pm cv ctv (dvV dv)) ⟨[], []⟩ binds ∧ ∀ y ∈ binds, scope.names.lookup y.1 = some .local := by
  cases dv with
  | none => exact ⟨[], .of_eq (b.b0 e q cl pm cv ctv), fun y hy => nomatch hy⟩
  | some t =>
    obtain ⟨n, hn, hb⟩ := b.bD e
    obtain ⟨kk, e1, e2⟩ := hb q cl pm cv ctv t
    obtain ⟨k, et⟩ := ht t rfl
    obtain ⟨_, its, rv, ob, eo, hc, m, hdt⟩ := hok t _ et
    cases rv with
    | @cons _ u1 _ _ r1 r2 =>
      cases r2
      refine ⟨[(n, u1)], ?_, fun y hy => ?_⟩
      · intro M A E Q q2
        show wpAny M A (bindArgs (lamFd q params body scope cl pm cv ctv (.ref t)) ⟨[], []⟩) Q E s
        rw [e1]
        refine wpAny_bind (wpAny_seqItems eo hdt ?_)
        rw [e2]
        exact wpAny_pure q2
      · rw [List.mem_singleton.mp hy]
        exact hn
/-- x(), in the def that got the kept lambda -/
theorem pe_actT {CXg : CXT} {Eg : XK} {Ng : List Str} {qg : Str} {sg : Scope} {g f : Addr} {cdg : Value} {params : Arguments} {body : Expr} {scope : Scope} {tup : Bool} {k i : Nat} {a : Str} {pn : List (Addr × Obj)} {xe : Value → Shared → Prop} {W : WX} {E : XK} {tb : TE} {p1 p2 : Pos} {σ0 : L2.St} {s8 : Shared} {H8 : Hp}
    (J : L2.Inv X pins σ G u) (L : LamSD X.N X.env.scope scope) (hbind : LamB params body scope tup)
    (cT : ∀ x c v, X.env.cells.lookup x = some c → u.heap.IsCell c v → s8.heap.IsCell c v ∧ H8 c = none)
    (tk : Takes ((cxOf CXg X.prog X.w X.K X.mg X.base Ng qg sg g cdg X.A X.stack s8 H8 Eg).tr pn xe) W) (hW : ∀ cls d H', E cls d H' → W cls d σ0 H') (hr : Room (k + 1) (X.A.deeper (envOfC qg sg s8.heap.objs.size g cdg)))
    (hbody : ∀ (A : Around) (outer : List Env) (s : Shared) (H : Hp) (c' : Addr), Room k (A.deeper (lamEnv X scope s.heap.objs.size f c')) → PE (lamCx X A outer s H E scope f c') body tb)
    (hN : Ng[i]? = some a) (hv : Vis sg a) (hd : (a == ("__debug__" : Str)) = false) (hcd : (a == ("__classdict__" : Str)) = false) :
    PE ((cxOf CXg X.prog X.w X.K X.mg X.base Ng qg sg g cdg X.A X.stack s8 H8 Eg).tr pn xe) (.Call (.Name a p1) [] [] p2)
      (fun σZ HZ Q => σZ = σ0 ∧ σZ[i]? = some (some (.ref f)) ∧ LamAt HZ (X.env.qual ++ "<lambda>") params body scope (cloFrom X.env.cells scope.names []) tup f ∧ tb σ HZ Q) := by
  refine ⟨fun pinsZ sZ σZ HZ Q IZ h => ?_⟩
  obtain ⟨e0, hs, hc, ht⟩ := h
  subst e0
  refine wpAny_Call_Name_kw (thn ((pe_var (pos := p1) (i := i) hN hv hd hcd).run pinsZ sZ σZ HZ (fun v H1 => v = .ref f ∧ H1 = HZ) IZ ⟨.ref f, hs, rfl, rfl⟩) fun u' s1 ⟨v, H1, I1, r1, q1⟩ => ?_)
  obtain ⟨ev, eH⟩ := q1
  subst ev
  rw [eH] at I1
  obtain rfl : u' = Value.ref f := r1
  obtain ⟨c', dv, hf, hco, htup, hdt⟩ := hc
  obtain ⟨⟨pm, ctv, of1⟩, _, _⟩ := I1.hok f _ hf
  obtain ⟨⟨oc, vs, t, hoc, hdc, hvc⟩, _, _⟩ := I1.hok c' _ hco
  obtain ⟨binds, hbd, hloc⟩ := hbind.binds I1.hok htup hdt (X.env.qual ++ "<lambda>") (cloFrom X.env.cells scope.names []) pm (.ref c') ctv
  refine PySem.W.callWith_F0 ⟨_, _, _, _, of1⟩ ?_
  have cT1 : ∀ x c v, X.env.cells.lookup x = some c → u.heap.IsCell c v → s1.heap.IsCell c v ∧ HZ c = none := fun x c v hx hz => by
    obtain ⟨⟨o, ho, hdo⟩, n8⟩ := cT x c v hx hz
    have un : Un (frs X.stack) [] H8 HZ s8.heap s1.heap := I1.base
    obtain ⟨sl, q⟩ := un.any ho n8 (by simp)
    exact ⟨⟨_, q, hdo⟩, un.free c o ho n8 (by simp)⟩
  have rc : codeAny (model X.prog X.w) (X.A.deeper (envOfC qg sg s8.heap.objs.size g cdg)) (.call (.ref f) ⟨[], []⟩) (CR (L2.CX X.prog X.w) (envOfC qg sg s8.heap.objs.size g cdg :: X.stack) X.prog X.w HZ s1 Q E) s1 := by
    refine PySem.W.kla_callFunE hr.depth of1 rfl L.co L.gen rfl ⟨c', oc, vs, t, rfl, hoc, hdc, hvc⟩ ?_
    refine hbd _ _ _ _ (wpAny_newFunctionEnv L.own hloc (fun h₁ hns hsb => ⟨I1.nolimit.fresh _ hsb, ?_⟩) L.kind)
    show codeAny _ _ (.expr body (lamEnv X scope s1.heap.objs.size f c')) _ _
    have kp : ∀ b o, s1.heap.get? b = some o → h₁.get? b = some o := fun b o e => hsb.extBut b o (Nat.ne_of_lt (Heap.lt_size e)) (Heap.get?_push_of_some _ e)
    have J2 : L2.Inv (lamCx X (X.A.deeper (envOfC qg sg s8.heap.objs.size g cdg)) (envOfC qg sg s8.heap.objs.size g cdg :: X.stack) s1 HZ E scope f c') [] σ HZ { s1 with heap := h₁, toks := s1.toks + binds.length } :=
      lam_startT J L I1.env0 hr.hd cT1 hns kp
    refine PySem.W.kla_codeExpr (wpAny_mono ((hbody _ _ s1 HZ c' (hr.deeper _)).run [] _ _ HZ Q J2 ht) (fun v s' hq => ?_) fun e s' hq => hq)
    obtain ⟨w', H', J', rv, q⟩ := hq
    exact ⟨w', H', J'.os, J'.bare, J'.base, J'.hok, rv, q⟩
  refine wpAny_call (codeAny_mono rc fun r s' hq => ?_)
  cases r with
  | error e => exact tk e s' (XE.of_call I1 (fun cls d H' h => hW cls d H' h) hq)
  | ok fl =>
    cases fl with
    | ret u => exact I1.after hq
    | next => exact False.elim hq
    | brk => exact False.elim hq
    | cont => exact False.elim hq
end
/-- the def that calls what it got; D: what it leaves as it is -/
def GivesP (P : Program) (w : World) (K : PySem.W.Frag) (mg : Str → Option Value) (base : Heap) (Ng : List Str) (x : Str) (sg : Scope) (g : Addr) (cdg : Value) (bg : List Stmt) (a : Str) (TT : (XK → Hp → VK → Prop) → Hp → VK → Prop) : Prop :=
  ∀ (A : Around) (stack : List Env) (f : Addr) (s : Shared) (H : Hp) (Q : VK) (tl : XK → Hp → VK → Prop) (D : Hp → Prop), (∀ H1 H2, Kept [] H1 H2 → D H1 → D H2) →
    (∀ (W : WX) (pn : List (Addr × Obj)) (xe : Value → Shared → Prop) (E : XK) (p1 p2 : Pos) (σ0 : L2.St), Takes ((cxOf C8.CX0 P w K mg base Ng x sg g cdg A stack s H C8.E0).tr pn xe) W → (∀ cls d H', E cls d H' → W cls d σ0 H') →
      PE ((cxOf C8.CX0 P w K mg base Ng x sg g cdg A stack s H C8.E0).tr pn xe) (.Call (.Name a p1) [] [] p2) (fun σZ HZ Q => σZ = σ0 ∧ σZ[0]? = some (some (.ref f)) ∧ D HZ ∧ tl E HZ Q)) →
    D H → TT tl H Q →
    ∃ t, PSs (cxOf C8.CX0 P w K mg base Ng x sg g cdg A stack s H C8.E0).nox bg t ∧ t { nx := fun _ H' => Q .non H', rt := Q } (L2.start Ng [.ref f]) H
/-- a lambda that may be handed over -/
structure LamE where
  params : Arguments
  body : Expr
  scope : Scope
  tup : Bool
  t : XK → TE
structure LamOk (X : Cx) (k : Nat) (d : LamE) : Prop where
  sd : LamSD X.N X.env.scope d.scope
  b : LamB d.params d.body d.scope d.tup
  body : ∀ (A : Around) (outer : List Env) (s : Shared) (H : Hp) (E : XK) (f c' : Addr), Room k (A.deeper (lamEnv X d.scope s.heap.objs.size f c')) → PE (lamCx X A outer s H E d.scope f c') d.body (d.t E)
/-- x(e), e telling one of the lambdas; the reading looks at the slots where they were made -/
def tWordL (Ls : List LamE) (q : Str) (cells : List (Str × Addr)) (TT : (XK → Hp → VK → Prop) → Hp → VK → Prop) (σ : L2.St) (te : TE) : TE := fun σ8 H8 Q => tCons te tNil σ8 H8 fun vs H9 => ∃ (f : Addr) (d : LamE), vs = [.ref f] ∧ d ∈ Ls ∧ LamAt H9 q d.params d.body d.scope (cloFrom cells d.scope.names []) d.tup f ∧ TT (fun E H' Q' => d.t E σ H' Q') H9 Q
section
variable {X : Cx}
theorem word_run {TT : (XK → Hp → VK → Prop) → Hp → VK → Prop} {x a : Str} {g : Addr} {k : Nat} {pg : Arguments} {bg : List Stmt} {sg : Scope} {dV kV doc pm cdv ct oc : Value} {an od : Option Addr} {osl : Array (Option Value)} {Ng : List Str} {Ls : List LamE}
    (lk : X.K.lookup g = some ⟨oc, od, .func (PySem.W.fnOf x x pg bg sg dV kV doc pm an cdv ct), osl⟩) (hcg : PySem.W.codeIn X.K cdv x = true) (hb : L2.Binds X.K (PySem.W.fnOf x x pg bg sg dV kV doc pm an cdv ct) [a] []) (Sg : FnScope Ng [a] sg) (hNg : Ng[0]? = some a) (hva : Vis sg a)
    (hG : GivesP X.prog X.w X.K X.mg X.base Ng x sg g cdv bg a TT) (hr : Room (k + 2) X.A) (hL : ∀ d ∈ Ls, LamOk X k d) (hd : (a == ("__debug__" : Str)) = false) (hcd : (a == ("__classdict__" : Str)) = false)
    {pins : List (Addr × Obj)} {σ : L2.St} {G H9 : Hp} {u s9 : Shared} {Q : VK} (J : L2.Inv X pins σ G u) (e0 : Env0 X.prog X.w X.K X.mg X.base X.A X.stack s9 H9) (kin : X.K.In s9.heap) (cT : ∀ x c v, X.env.cells.lookup x = some c → u.heap.IsCell c v → s9.heap.IsCell c v ∧ H9 c = none)
    {f : Addr} {d : LamE} (hdm : d ∈ Ls) (ha : LamAt H9 (X.env.qual ++ "<lambda>") d.params d.body d.scope (cloFrom X.env.cells d.scope.names []) d.tup f) (ht : TT (fun E H' Q' => d.t E σ H' Q') H9 Q) :
    codeAny (model X.prog X.w) X.A (.call (.ref g) ⟨[.ref f], []⟩) (CR C8.CX0 X.stack X.prog X.w H9 s9 Q C8.E0) s9 := by
  refine run_ofS (N := Ng) (ps := [a]) (us := [.ref f]) (vs := [.ref f]) lk hcg Sg hr e0 (hb s9 [.ref f] kin rfl) (.cons rfl .nil) rfl fun hr' => ?_
  have L := hL d hdm
  obtain ⟨t', ht', hq'⟩ := hG X.A X.stack f s9 H9 Q (fun E H' Q' => d.t E σ H' Q') (fun HZ => LamAt HZ (X.env.qual ++ "<lambda>") d.params d.body d.scope (cloFrom X.env.cells d.scope.names []) d.tup f) (fun H1 H2 kk h => h.keep fun b o e _ _ => kk b o e (by simp))
    (fun W pn xe E p1 p2 σ0 tk hW => pe_actT (i := 0) J L.sd L.b cT tk hW hr' (fun A outer s H c' hr2 => L.body A outer s H E f c' hr2) hNg hva hd hcd) ha ht
  exact ⟨t', ht'.nox, hq'⟩
/-- in the block of a comprehension -/
theorem pe_wordB {TT : (XK → Hp → VK → Prop) → Hp → VK → Prop} {x a : Str} {g : Addr} {k : Nat} {pg : Arguments} {bg : List Stmt} {sg : Scope} {dV kV doc pm cdv ct oc : Value} {an od : Option Addr} {osl : Array (Option Value)} {Ng : List Str} {Ls : List LamE} {e : Expr} {te : TE} {p pos : Pos}
    {pins : List (Addr × Obj)} {σ : L2.St} {G : Hp} {u : Shared} {scp : Scope} {en : Env} {fp : List Addr} (J : L2.Inv X pins σ G u) (hfp : ∀ b ∈ fp, ∀ x c, X.env.cells.lookup x = some c → c ≠ b)
    (hg : Gl (X.blk u G scp en fp) x) (hm : X.mg x = some (.ref g)) (hk : PySem.W.keepIn X.K (.ref g) = true)
    (lk : X.K.lookup g = some ⟨oc, od, .func (PySem.W.fnOf x x pg bg sg dV kV doc pm an cdv ct), osl⟩) (hcg : PySem.W.codeIn X.K cdv x = true) (hb : L2.Binds X.K (PySem.W.fnOf x x pg bg sg dV kV doc pm an cdv ct) [a] []) (Sg : FnScope Ng [a] sg) (hNg : Ng[0]? = some a) (hva : Vis sg a)
    (hG : GivesP X.prog X.w X.K X.mg X.base Ng x sg g cdv bg a TT) (hr : Room (k + 2) X.A) (hL : ∀ d ∈ Ls, LamOk X k d) (he : PE (X.blk u G scp en fp) e te)
    (hdb : (x == ("__debug__" : Str)) = false := by decide) (hd : (a == ("__debug__" : Str)) = false := by decide) (hcd : (a == ("__classdict__" : Str)) = false := by decide)
    (hst : starEach [e] en = (false, eval e en) :: starEach [] en := by rfl) (hpl : (backTo pos (starEach [] en)).any (·.1) = false := by rfl) :
    PE (X.blk u G scp en fp) (.Call (.Name x p) [e] [] pos) (tWordL Ls (X.env.qual ++ "<lambda>") X.env.cells TT σ te) := by
  refine ⟨fun pins8 s σ8 H8 Q I h => ?_⟩
  refine wpAny_Call_Name_kw (ld_glob (X := X.blk u G scp en fp) I hg hm ?_ hdb)
  refine PySem.W.callWith_K (h₀ := X.base) J.ok.mod.kin hk (thn ((pa_cons he pa_nil hst).run pos pins8 s σ8 H8 _ I h) fun us s9 ⟨vs, H9, I9, r, f, d, e1, hdm, ha, ht⟩ => ⟨I9.kIn, ?_⟩) hst hpl
  subst e1
  obtain ⟨uu, rfl, r1⟩ := vals1 r
  obtain rfl : uu = Value.ref f := r1
  have cT : ∀ x c v, X.env.cells.lookup x = some c → u.heap.IsCell c v → s9.heap.IsCell c v ∧ H9 c = none := fun x c v hx hz => by
    obtain ⟨o, ho, hdo⟩ := hz
    have n0 := J.freeC x c hx
    have nf : c ∉ fp := fun z => hfp c z x c hx rfl
    have un : Un (frs X.stack) fp G H9 u.heap s9.heap := I9.base
    obtain ⟨sl, q⟩ := un.any ho n0 nf
    exact ⟨⟨_, q, hdo⟩, un.free c o ho n0 nf⟩
  have rc := word_run lk hcg hb Sg hNg hva hG hr hL hd hcd J I9.env0 I9.kIn cT hdm ha ht
  refine wpAny_call (codeAny_mono rc fun r s2 hq => ?_)
  cases r with
  | error e => exact (show False from hq).elim
  | ok fl =>
    cases fl with
    | ret u => exact I9.after hq
    | next => exact False.elim hq
    | brk => exact False.elim hq
    | cont => exact False.elim hq
/-- in the def itself -/
theorem pe_wordX {TT : (XK → Hp → VK → Prop) → Hp → VK → Prop} {x a : Str} {g : Addr} {k : Nat} {pg : Arguments} {bg : List Stmt} {sg : Scope} {dV kV doc pm cdv ct oc : Value} {an od : Option Addr} {osl : Array (Option Value)} {Ng : List Str} {Ls : List LamE} {e : Expr} {te : TE} {p pos : Pos}
    (hg : Gl X x) (hm : X.mg x = some (.ref g)) (hk : PySem.W.keepIn X.K (.ref g) = true)
    (lk : X.K.lookup g = some ⟨oc, od, .func (PySem.W.fnOf x x pg bg sg dV kV doc pm an cdv ct), osl⟩) (hcg : PySem.W.codeIn X.K cdv x = true) (hb : L2.Binds X.K (PySem.W.fnOf x x pg bg sg dV kV doc pm an cdv ct) [a] []) (Sg : FnScope Ng [a] sg) (hNg : Ng[0]? = some a) (hva : Vis sg a)
    (hG : GivesP X.prog X.w X.K X.mg X.base Ng x sg g cdv bg a TT) (hr : Room (k + 2) X.A) (hL : ∀ d ∈ Ls, LamOk X k d) (he : PE X e te)
    (hdb : (x == ("__debug__" : Str)) = false := by decide) (hd : (a == ("__debug__" : Str)) = false := by decide) (hcd : (a == ("__classdict__" : Str)) = false := by decide)
    (hst : starEach [e] X.env = (false, eval e X.env) :: starEach [] X.env := by rfl) (hpl : (backTo pos (starEach [] X.env)).any (·.1) = false := by rfl) :
    PE X (.Call (.Name x p) [e] [] pos) (fun σ => tWordL Ls (X.env.qual ++ "<lambda>") X.env.cells TT σ te σ) := by
  refine ⟨fun pins8 s σ8 H8 Q I h => ?_⟩
  refine wpAny_Call_Name_kw (ld_glob I hg hm ?_ hdb)
  refine PySem.W.callWith_K (h₀ := X.base) I.ok.mod.kin hk (thn ((pa_cons he pa_nil hst).run pos pins8 s σ8 H8 _ I h) fun us s9 ⟨vs, H9, I9, r, f, d, e1, hdm, ha, ht⟩ => ⟨I9.kIn, ?_⟩) hst hpl
  subst e1
  obtain ⟨uu, rfl, r1⟩ := vals1 r
  obtain rfl : uu = Value.ref f := r1
  have rc := word_run lk hcg hb Sg hNg hva hG hr hL hd hcd I9 I9.env0 I9.kIn (fun x c v hx hz => ⟨hz, I9.freeC x c hx⟩) hdm ha ht
  refine wpAny_call (codeAny_mono rc fun r s2 hq => ?_)
  cases r with
  | error e => exact (show False from hq).elim
  | ok fl =>
    cases fl with
    | ret u => exact I9.after hq
    | next => exact False.elim hq
    | brk => exact False.elim hq
    | cont => exact False.elim hq
/-- x(lambda ..) -/
theorem pe_word1 {TT : (XK → Hp → VK → Prop) → Hp → VK → Prop} {x a : Str} {g P : Addr} {k : Nat} {pg : Arguments} {bg : List Stmt} {sg : Scope} {dV kV doc pm cdv ct oc : Value} {an od : Option Addr} {osl : Array (Option Value)} {Ng : List Str} {params : Arguments} {body : Expr} {scope : Scope} {tup : Bool} {t : XK → TE} {lpos p pos : Pos}
    (hg : Gl X x) (hm : X.mg x = some (.ref g)) (hk : PySem.W.keepIn X.K (.ref g) = true)
    (lk : X.K.lookup g = some ⟨oc, od, .func (PySem.W.fnOf x x pg bg sg dV kV doc pm an cdv ct), osl⟩) (hcg : PySem.W.codeIn X.K cdv x = true) (hb : L2.Binds X.K (PySem.W.fnOf x x pg bg sg dV kV doc pm an cdv ct) [a] []) (Sg : FnScope Ng [a] sg) (hNg : Ng[0]? = some a) (hva : Vis sg a)
    (hG : GivesP X.prog X.w X.K X.mg X.base Ng x sg g cdv bg a TT) (hr : Room (k + 2) X.A) (mk : PE X (.Lambda params body scope lpos) (tLamK P (X.env.qual ++ "<lambda>") params body scope X.env.cells tup)) (L : LamSD X.N X.env.scope scope) (B : LamB params body scope tup)
    (hbody : ∀ (A : Around) (outer : List Env) (s : Shared) (H : Hp) (E : XK) (f c' : Addr), Room k (A.deeper (lamEnv X scope s.heap.objs.size f c')) → PE (lamCx X A outer s H E scope f c') body (t E))
    (hdb : (x == ("__debug__" : Str)) = false := by decide) (hd : (a == ("__debug__" : Str)) = false := by decide) (hcd : (a == ("__classdict__" : Str)) = false := by decide)
    (hst : starEach [.Lambda params body scope lpos] X.env = (false, eval (.Lambda params body scope lpos) X.env) :: starEach [] X.env := by rfl) (hpl : (backTo pos (starEach [] X.env)).any (·.1) = false := by rfl) :
    PE X (.Call (.Name x p) [.Lambda params body scope lpos] [] pos) (fun σ H Q => TabS H P (X.env.qual ++ "<lambda>") ∧ ∀ H1, (∀ b o, H b = some o → b ≠ P → H1 b = some o) → TabS H1 P (X.env.qual ++ "<lambda>") → TT (fun E H' Q' => t E σ H' Q') H1 Q) :=
  ⟨fun pins s σ H Q I ⟨hT, h⟩ => (pe_wordX (Ls := [⟨params, body, scope, tup, t⟩]) hg hm hk lk hcg hb Sg hNg hva hG hr (fun d hd => by rw [List.mem_singleton.mp hd]; exact ⟨L, B, hbody⟩) mk hdb hd hcd hst hpl).run pins s σ H Q I
    (show tCons _ tNil σ H _ from ⟨hT, fun H1 f eN T1 nf la => ⟨f, _, rfl, List.mem_singleton.mpr rfl, la, h H1 eN T1⟩⟩)⟩
end
end Ah
end
section
set_option Elab.async false
set_option linter.all false
set_option maxRecDepth 100000
set_option maxHeartbeats 2000000
namespace Ah
open PySem PySem.Spec PyProof.Rows L2 LamX
/-! ### a display of lambdas -/
def LamEAt (q : Str) (cells : List (Str × Addr)) (H : Hp) (d : LamE) (f : Addr) : Prop := LamAt H q d.params d.body d.scope (cloFrom cells d.scope.names []) d.tup f
theorem LamAt.ofP {H H' : Hp} {q : Str} {params : Arguments} {body : Expr} {scope : Scope} {clo : List (Str × Addr)} {tup : Bool} {f P : Addr} (h : LamAt H q params body scope clo tup f) (e : ∀ b o, H b = some o → b ≠ P → H' b = some o) (t : TabS H P q) : LamAt H' q params body scope clo tup f :=
  h.keep fun b o h n _ => e b o h (fun z => by
    obtain ⟨ps, e2, _⟩ := t
    rw [← z, h] at e2
    exact n ps (Option.some.inj e2))
def tLams (P : Addr) (q : Str) (cells : List (Str × Addr)) (ds : List LamE) : TA := fun _ H Q => TabS H P q ∧ ∀ (fs : List Addr) (H' : Hp), (∀ b o, H b = some o → b ≠ P → H' b = some o) → TabS H' P q → Paired (fun d f => LamEAt q cells H' d f) ds fs → Q (fs.map V.ref) H'
section
variable {X : Cx}
theorem pa_lam_nil {P : Addr} {q : Str} {cells : List (Str × Addr)} : PA X [] (tLams P q cells []) :=
  ⟨fun pos pins s σ H Q I h => (pa_nil (X := X)).run pos pins s σ H Q I (h.2 [] H (fun _ _ e _ => e) h.1 .nil)⟩
theorem pa_lam_cons {P : Addr} {q : Str} {cells : List (Str × Addr)} {e : Expr} {es : List Expr} {d : LamE} {ds : List LamE} (he : PE X e (tLamK P q d.params d.body d.scope cells d.tup)) (hr : PA X es (tLams P q cells ds))
    (hst : starEach (e :: es) X.env = (false, eval e X.env) :: starEach es X.env := by rfl) : PA X (e :: es) (tLams P q cells (d :: ds)) :=
  ⟨fun pos pins s σ H Q I ⟨hT, h⟩ => (pa_cons he hr hst).run pos pins s σ H Q I
    (show tCons _ _ σ H Q from ⟨hT, fun H1 f e1 t1 nf la => ⟨t1, fun fs H2 e2 t2 pr => h (f :: fs) H2 (fun b o e n => e2 b o (e1 b o e n) n) t2 (.cons (la.ofP e2 t1) pr)⟩⟩)⟩
end
end Ah
end
section
set_option Elab.async false
set_option linter.all false
set_option maxRecDepth 100000
set_option maxHeartbeats 2000000
namespace Ah
open PySem PySem.Spec PyProof.Rows L2 LamX
/-! ### xs.count(y), flat items -/
def rCntF (K : PySem.W.Frag) : V → List V → Hp → VK → Prop := fun x xs H Q => ∃ (p : Addr) (ys : List V) (y : V), x = .ref p ∧ xs = [y] ∧ SqL K H p ys ∧ flatV y = true ∧ ys.all flatV = true ∧ Q (.int ((ys.countP fun z => eqV z y : Nat) : Int)) H
theorem countU {y : V} : ∀ {xs : List V} {us : List Value}, Vals xs us → xs.all flatV = true → us.countP (eqU y) = xs.countP fun z => eqV z y
  | _, _, .nil, _ => rfl
  | x :: xs, u :: us, .cons r t, f => by
    rw [List.all_cons, Bool.and_eq_true] at f
    rw [List.countP_cons, List.countP_cons, countU t f.2, eqU_of r f.1]
theorem mt_lcountF {X : Cx} : MtR X "list.count" (rCntF X.K) := by
  intro pins s σ H x xs v us Q I rx rxs h
  obtain ⟨p, ys, y, rfl, rfl, hs, fy, fys, q⟩ := h
  cases rx
  obtain ⟨u, rfl, ru⟩ := vals1 rxs
  obtain ⟨its, rv, ⟨⟨cls, dd, data, sl⟩, n, ho, hc, hdn, hd⟩, hlen⟩ := I.list hs
  simp only at hc hd
  subst hc hd
  refine call_meets PySem.F.slot_list_count ⟨_, ho, rfl⟩ PySem.F.entry_list_count (PySem.F.args_list_count_2 _ _)
    (SeqAt.list_countAt p its.toArray n dd sl u (eqU y)) ⟨ho, fun u' hu' => mem_eqAt ru fy rv fys u' (by simpa using hu'), ?_⟩
  refine ⟨.int ((ys.countP fun z => eqV z y : Nat) : Int), H, I.tok _, ⟨s.toks, ?_⟩, q⟩
  show Value.int ((its.toArray.toList.countP (eqU y) : Nat) : Int) s.toks = Value.int ((ys.countP fun z => eqV z y : Nat) : Int) s.toks
  rw [show its.toArray.toList.countP (eqU y) = ys.countP fun z => eqV z y from countU rv fys]
/-! ### _law_word -/
abbrev NW : List Str := ["_law_work", "_law_found", "e", "_law_kinds", "_law_names", "_law_name"]
theorem scW2 : FnScope NW ["_law_work"] (defScope lWord) := ⟨rfl, rfl, rfl, by decide +kernel, rfl, by decide +kernel, by decide +kernel⟩
def suiteW : List Stmt := match defBody lWord with
  | _ :: .Try _ [.ExceptHandler _ _ b _] _ _ _ :: _ => b
  | _ => []
end Ah
end
section
set_option Elab.async false
set_option linter.all false
set_option maxRecDepth 100000
set_option maxHeartbeats 2000000
namespace Ah
open PySem PySem.Spec PyProof.Rows L2 LamX
/-! ### _law_word, for all classes but Halted and BadText -/
def nameG : Nat → Str
  | 0 => "row"
  | 1 => "saying"
  | 2 => "count"
  | 3 => "steps"
  | 4 => "norow"
  | 5 => "nofollow"
  | 6 => "deed"
  | 7 => "halted"
  | _ => "text"
/-- whether the class bears a number -/
def numW : Nat → Bool
  | 0 => true
  | 3 => true
  | 6 => true
  | _ => false
structure WordG (K : PySem.W.Frag) (mg : Str → Option Value) (CA : Addr) (c : Nat → Addr) : Prop where
  ca : mg "AnswerError" = some (.ref CA)
  m0 : mg "BadRow" = some (.ref (c 0))
  m1 : mg "BadSaying" = some (.ref (c 1))
  m2 : mg "BadCount" = some (.ref (c 2))
  m3 : mg "BadSteps" = some (.ref (c 3))
  m4 : mg "NoRow" = some (.ref (c 4))
  m5 : mg "NoFollow" = some (.ref (c 5))
  m6 : mg "BadDeed" = some (.ref (c 6))
  m7 : mg "Halted" = some (.ref (c 7))
  m8 : mg "BadText" = some (.ref (c 8))
  isi : mg "isinstance" = none
  ve : mg "ValueError" = none
  kit : ∀ i j, i < 9 → j < 9 → PySem.W.kitOne K (.ref (c i)) (.ref (c j)) = some (decide (i = j))
  kitV : ∀ i, i < 9 → PySem.W.kitOne K (.ref (c i)) (.type "ValueError") = some true
  exm : ∀ i, i < 9 → PySem.W.exmOne K (.ref (c i)) (.ref CA) = some true
  xc : ∀ i, i < 9 → ExcC K (c i)
  xf : ∀ i, i < 7 → numW i = true → XfC K (c i) ∧ PySem.W.findIn K (.ref (c i)) "number" = some none
/-- an exception of the i-th class: its dict, what is told of it -/
def ErrAt (H : Hp) (i : Nat) (d : Option Addr) (v : V) : Prop := (numW i = true ∧ ∃ (dd : Addr) (j : Int), d = some dd ∧ H dd = some (.xd [("number", .int j)]) ∧ v = .int j) ∨ (numW i = false ∧ d = none ∧ v = .non)
def XD (d : Option Addr) (H : Hp) : Prop := ∀ dd, d = some dd → ∃ fs, H dd = some (.xd fs)
theorem XD.upd {d : Option Addr} {H : Hp} {l : Addr} {o : HO} (h : XD d H) (n : H l = none) : XD d (upd H l o) := fun dd e => let ⟨fs, q⟩ := h dd e; ⟨fs, (upd_ne (ne_of_none q n)).trans q⟩
theorem XD.kept {d : Option Addr} {H H' : Hp} (h : XD d H) (k : Kept [] H H') : XD d H' := fun dd e => let ⟨fs, q⟩ := h dd e; ⟨fs, k _ _ q (by simp)⟩
theorem ErrAt.xd {H : Hp} {i : Nat} {d : Option Addr} {v : V} (h : ErrAt H i d v) : XD d H := fun dd e => by
  rcases h with ⟨_, d2, j, e2, h2, _⟩ | ⟨_, e2, _⟩
  · rw [e2] at e
    cases e
    exact ⟨_, h2⟩
  · rw [e2] at e
    cases e
def tsG (c : Nat → Addr) (i : Nat) (a : Addr) (cls : Value) (d : Option Addr) : TS := fun D σ H => ∃ (v f lf : V), cls = .ref (c i) ∧ ErrAt H i d v ∧ σ = [some f, some lf, some (.ref a), none, none, none] ∧
  ∀ H' p, Kept [] H H' → H' p = none → D.rt (.ref p) (upd H' p (.tup [.str (nameG i), v]))
theorem pe_when {X : Cx} {e : Expr} {t : TE} {P : Prop} (h : P → PE X e t) : PE X e (fun σ H Q => P ∧ t σ H Q) := ⟨fun pins s σ H Q I ⟨p, r⟩ => (h p).run pins s σ H Q I r⟩
abbrev kindsG (i : Nat) : List V := [.bl (decide (i = 0)), .bl (decide (i = 1)), .bl (decide (i = 2)), .bl (decide (i = 3))] ++ [.bl (decide (i = 4)), .bl (decide (i = 5)), .bl (decide (i = 6)), .bl (decide (i = 7))] ++ [.bl (decide (i = 8))]
theorem kinds1 : ∀ i, i < 9 → (kindsG i).countP (fun z => eqV z (.bl true)) = 1 := by decide
theorem kinds2 : ∀ i, i < 9 → (kindsG i)[i]? = some (.bl true) := by
  intro i h
  match i, h with
  | 0, _ => rfl
  | 1, _ => rfl
  | 2, _ => rfl
  | 3, _ => rfl
  | 4, _ => rfl
  | 5, _ => rfl
  | 6, _ => rfl
  | 7, _ => rfl
  | 8, _ => rfl
theorem kinds3 : ∀ i, i < 9 → ∀ m, m < i → ((kindsG i)[m]?).all (fun z => !eqV z (.bl true)) = true := by decide
abbrev namesG : List V := [.str "row", .str "saying", .str "count", .str "steps", .str "norow", .str "nofollow", .str "deed", .str "halted", .str "text"]
theorem names2 : ∀ i, i < 9 → namesG[i]? = some (.str (nameG i)) := by
  intro i h
  match i, h with
  | 0, _ => rfl
  | 1, _ => rfl
  | 2, _ => rfl
  | 3, _ => rfl
  | 4, _ => rfl
  | 5, _ => rfl
  | 6, _ => rfl
  | 7, _ => rfl
  | 8, _ => rfl
theorem names3 {i : Nat} (h : i < 7) : decide (V.str (nameG i) = V.str "halted") = false ∧ decide (V.str (nameG i) = V.str "text") = false := by
  match i, h with
  | 0, _ => exact ⟨by decide, by decide⟩
  | 1, _ => exact ⟨by decide, by decide⟩
  | 2, _ => exact ⟨by decide, by decide⟩
  | 3, _ => exact ⟨by decide, by decide⟩
  | 4, _ => exact ⟨by decide, by decide⟩
  | 5, _ => exact ⟨by decide, by decide⟩
  | 6, _ => exact ⟨by decide, by decide⟩
theorem names4 : ∀ i, i < 7 → inV (.str (nameG i)) [V.str "row", V.str "steps", V.str "deed"] = numW i := by
  intro i h
  match i, h with
  | 0, _ => rfl
  | 1, _ => rfl
  | 2, _ => rfl
  | 3, _ => rfl
  | 4, _ => rfl
  | 5, _ => rfl
  | 6, _ => rfl
section
variable {K : PySem.W.Frag} {P : Program} {w : World} {mg : Str → Option Value} {base : Heap} {CA : Addr} {c : Nat → Addr} {g : Addr} {cdg : Value} {A : Around} {outer : List Env} {s00 : Shared} {H0 : Hp}
theorem suite_wordG (W : WordG K mg CA c) {i : Nat} (hi : i < 7) (a : Addr) (oe : Obj) (cls : Value) (d : Option Addr) (pn : List (Addr × Obj)) (hz : Zc cls d oe) (hf : ∃ vs, oe.data = .fields vs) :
    PSs (((cxOf C8.CX0 P w K mg base NW "_law_word" (defScope lWord) g cdg A outer s00 H0 C8.E0).nox).suite a ((a, oe) :: pn)) suiteW (tsG c i a cls d) := by
  refine ⟨fun pins s σ H D I h => ?_⟩
  obtain ⟨v, f, lf, rfl, he, rfl, k⟩ := h
  have hdd := he.xd
  have hi9 : i < 9 := by omega
  have XC := W.xc i hi9
  obtain ⟨t, T, q⟩ : ∃ t, PSs (((cxOf C8.CX0 P w K mg base NW "_law_word" (defScope lWord) g cdg A outer s00 H0 C8.E0).nox).suite a ((a, oe) :: pn)) suiteW t ∧ t D [some f, some lf, some (.ref a), none, none, none] H := by
    refine ⟨_, pss_cons
      (ps_set (i := 3) scW2.nd rfl (.inl rfl) (pe_lst (pa_cons (pe_callB (call_isD XC hz hf) (by rfl) W.isi (by decide +kernel) (pa_cons (pv 2) (pa_cons (pe_glob (v := .ref (c 0)) (by rfl) W.m0 rfl) pa_nil)))
        (pa_cons (pe_callB (call_isD XC hz hf) (by rfl) W.isi (by decide +kernel) (pa_cons (pv 2) (pa_cons (pe_glob (v := .ref (c 1)) (by rfl) W.m1 rfl) pa_nil)))
        (pa_cons (pe_callB (call_isD XC hz hf) (by rfl) W.isi (by decide +kernel) (pa_cons (pv 2) (pa_cons (pe_glob (v := .ref (c 2)) (by rfl) W.m2 rfl) pa_nil)))
        (pa_cons (pe_callB (call_isD XC hz hf) (by rfl) W.isi (by decide +kernel) (pa_cons (pv 2) (pa_cons (pe_glob (v := .ref (c 3)) (by rfl) W.m3 rfl) pa_nil))) pa_nil))))))
    (pss_cons (ps_set (i := 3) scW2.nd rfl (.inl rfl) (pe_op op_cat (pv 3) (pe_lst (pa_cons (pe_callB (call_isD XC hz hf) (by rfl) W.isi (by decide +kernel) (pa_cons (pv 2) (pa_cons (pe_glob (v := .ref (c 4)) (by rfl) W.m4 rfl) pa_nil)))
        (pa_cons (pe_callB (call_isD XC hz hf) (by rfl) W.isi (by decide +kernel) (pa_cons (pv 2) (pa_cons (pe_glob (v := .ref (c 5)) (by rfl) W.m5 rfl) pa_nil)))
        (pa_cons (pe_callB (call_isD XC hz hf) (by rfl) W.isi (by decide +kernel) (pa_cons (pv 2) (pa_cons (pe_glob (v := .ref (c 6)) (by rfl) W.m6 rfl) pa_nil)))
        (pa_cons (pe_callB (call_isD XC hz hf) (by rfl) W.isi (by decide +kernel) (pa_cons (pv 2) (pa_cons (pe_glob (v := .ref (c 7)) (by rfl) W.m7 rfl) pa_nil))) pa_nil)))))))
    (pss_cons (ps_expr (pe_bm PySem.F.plainAttrs_list PySem.F.slot_list_append PySem.F.type_list_append mt_append (pv 3) (pa_cons (pe_callB (call_isD XC hz hf) (by rfl) W.isi (by decide +kernel) (pa_cons (pv 2) (pa_cons (pe_glob (v := .ref (c 8)) (by rfl) W.m8 rfl) pa_nil))) pa_nil)))
    (pss_cons (ps_set (i := 4) scW2.nd rfl (.inl rfl) (pe_lst (pa_cons pe_str (pa_cons pe_str (pa_cons pe_str (pa_cons pe_str (pa_cons pe_str (pa_cons pe_str (pa_cons pe_str (pa_cons pe_str (pa_cons pe_str pa_nil)))))))))))
    (pss_cons (ps_if (PW.pt (pw_or (pt_cmpR op_ne (pe_bm PySem.F.plainAttrs_list PySem.F.slot_list_count PySem.F.type_list_count mt_lcountF (pv 3) (pa_cons pe_bl pa_nil)) pe_int (nomark _))
        (pw_or1 (pt_not (pt_val (pe_callB (call_isD XC hz hf) (by rfl) W.isi (by decide +kernel) (pa_cons (pv 2) (pa_cons (pe_bltn (v := .ty "ValueError") (by rfl) W.ve (by decide +kernel) rfl) pa_nil))))))))
        (pss_one ps_never) pss_nil)
    (pss_cons (ps_set (i := 5) scW2.nd rfl (.inl rfl) (pe_ix ix_list (pv 4) (pe_bm PySem.F.plainAttrs_list PySem.F.slot_list_index PySem.F.type_list_index mt_index (pv 3) (pa_cons pe_bl pa_nil)) (fun _ _ => rfl)))
    (pss_cons (ps_if (pt_cmpR op_eq (pv 5) pe_str (nomark _)) (pss_one ps_never) pss_nil)
    (pss_cons (ps_if (pt_cmpR op_eq (pv 5) pe_str (nomark _)) (pss_one ps_never) pss_nil)
    (pss_one (ps_ret (pe_ifExp (pt_cmpR op_in_seq (pv 5) (pe_tup (pa_cons pe_str (pa_cons pe_str (pa_cons pe_str pa_nil)))) (by rfl)) (pe_tup (pa_cons (pv 5) (pa_cons (pe_when (fun hn : numW i = true => pe_xf (W.xf i hi hn).1 (W.xf i hi hn).2 hz hf (pv 2))) pa_nil))) (pe_tup (pa_cons (pv 5) (pa_cons pe_non pa_nil))))))))))))), ?_⟩
    refine ⟨_, rfl, _, _, _, rfl, fun u h => h, W.kit i 0 hi9 (by decide), hdd, _, rfl, _, _, _, rfl, fun u h => h, W.kit i 1 hi9 (by decide), hdd, _, rfl, _, _, _, rfl, fun u h => h, W.kit i 2 hi9 (by decide), hdd, _, rfl, _, _, _, rfl, fun u h => h, W.kit i 3 hi9 (by decide), hdd, by show (4 : Nat) ≤ sizeLine; rw [sizeLine_eq]; decide, fun l1 n1 => ?_⟩
    have d1 := XD.upd (o := .lst [.bl (decide (i = 0)), .bl (decide (i = 1)), .bl (decide (i = 2)), .bl (decide (i = 3))]) hdd n1
    refine ⟨_, rfl, _, rfl, _, _, _, rfl, fun u h => h, W.kit i 4 hi9 (by decide), d1, _, rfl, _, _, _, rfl, fun u h => h, W.kit i 5 hi9 (by decide), d1, _, rfl, _, _, _, rfl, fun u h => h, W.kit i 6 hi9 (by decide), d1, _, rfl, _, _, _, rfl, fun u h => h, W.kit i 7 hi9 (by decide), d1, by show (4 : Nat) ≤ sizeLine; rw [sizeLine_eq]; decide, fun l2 n2 => ?_⟩
    have n21 : l1 ≠ l2 := fun z => by rw [← z, upd_same] at n2; cases n2
    refine ⟨l1, l2, _, _, rfl, rfl, by rw [upd_ne n21]; exact upd_same, upd_same, by show (4 : Nat) + 4 ≤ sizeLine; rw [sizeLine_eq]; decide, fun l3 n3 => ?_⟩
    have d2 := XD.upd (o := .lst [.bl (decide (i = 4)), .bl (decide (i = 5)), .bl (decide (i = 6)), .bl (decide (i = 7))]) d1 n2
    refine ⟨_, rfl, .inl ⟨rfl, _, SqL.of upd_same⟩, _, rfl, _, _, _, rfl, fun u h => h, W.kit i 8 hi9 (by decide), (XD.upd d2 n3), l3, _, _, rfl, rfl, upd_same, by show (8 : Nat) < sizeLine; rw [sizeLine_eq]; decide, ?_⟩
    refine ⟨by show (9 : Nat) ≤ sizeLine; rw [sizeLine_eq]; decide, fun l4 n4 => ?_⟩
    have n43 : l3 ≠ l4 := fun z => by rw [← z, upd_same] at n4; cases n4
    have n30 : H l3 = none := by
      cases e : H l3 with
      | none => rfl
      | some o => exact nomatch n3.symm.trans ((((Kept.refl (M := []) H).upd n1).upd n2) l3 o e (by simp))
    have K5 : Kept [] H (upd (upd (upd (upd (upd H l1 (.lst [.bl (decide (i = 0)), .bl (decide (i = 1)), .bl (decide (i = 2)), .bl (decide (i = 3))])) l2 (.lst [.bl (decide (i = 4)), .bl (decide (i = 5)), .bl (decide (i = 6)), .bl (decide (i = 7))])) l3 (.lst ([.bl (decide (i = 0)), .bl (decide (i = 1)), .bl (decide (i = 2)), .bl (decide (i = 3))] ++ [.bl (decide (i = 4)), .bl (decide (i = 5)), .bl (decide (i = 6)), .bl (decide (i = 7))]))) l3 (.lst ([.bl (decide (i = 0)), .bl (decide (i = 1)), .bl (decide (i = 2)), .bl (decide (i = 3))] ++ [.bl (decide (i = 4)), .bl (decide (i = 5)), .bl (decide (i = 6)), .bl (decide (i = 7))] ++ [.bl (decide (i = 8))]))) l4 (.lst [.str "row", .str "saying", .str "count", .str "steps", .str "norow", .str "nofollow", .str "deed", .str "halted", .str "text"])) := by
      refine Kept.upd (fun b o e hb => ?_) n4
      rw [upd_ne (ne_of_none e n30)]
      exact ((((Kept.refl (M := []) H).upd n1).upd n2).upd n3) b o e hb
    have e3 : SqL K (upd (upd (upd (upd (upd H l1 (.lst [.bl (decide (i = 0)), .bl (decide (i = 1)), .bl (decide (i = 2)), .bl (decide (i = 3))])) l2 (.lst [.bl (decide (i = 4)), .bl (decide (i = 5)), .bl (decide (i = 6)), .bl (decide (i = 7))])) l3 (.lst ([.bl (decide (i = 0)), .bl (decide (i = 1)), .bl (decide (i = 2)), .bl (decide (i = 3))] ++ [.bl (decide (i = 4)), .bl (decide (i = 5)), .bl (decide (i = 6)), .bl (decide (i = 7))]))) l3 (.lst ([.bl (decide (i = 0)), .bl (decide (i = 1)), .bl (decide (i = 2)), .bl (decide (i = 3))] ++ [.bl (decide (i = 4)), .bl (decide (i = 5)), .bl (decide (i = 6)), .bl (decide (i = 7))] ++ [.bl (decide (i = 8))]))) l4 (.lst [.str "row", .str "saying", .str "count", .str "steps", .str "norow", .str "nofollow", .str "deed", .str "halted", .str "text"])) l3 ([.bl (decide (i = 0)), .bl (decide (i = 1)), .bl (decide (i = 2)), .bl (decide (i = 3))] ++ [.bl (decide (i = 4)), .bl (decide (i = 5)), .bl (decide (i = 6)), .bl (decide (i = 7))] ++ [.bl (decide (i = 8))]) := SqL.of ((upd_ne n43).trans upd_same)
    have e4 : SqL K (upd (upd (upd (upd (upd H l1 (.lst [.bl (decide (i = 0)), .bl (decide (i = 1)), .bl (decide (i = 2)), .bl (decide (i = 3))])) l2 (.lst [.bl (decide (i = 4)), .bl (decide (i = 5)), .bl (decide (i = 6)), .bl (decide (i = 7))])) l3 (.lst ([.bl (decide (i = 0)), .bl (decide (i = 1)), .bl (decide (i = 2)), .bl (decide (i = 3))] ++ [.bl (decide (i = 4)), .bl (decide (i = 5)), .bl (decide (i = 6)), .bl (decide (i = 7))]))) l3 (.lst ([.bl (decide (i = 0)), .bl (decide (i = 1)), .bl (decide (i = 2)), .bl (decide (i = 3))] ++ [.bl (decide (i = 4)), .bl (decide (i = 5)), .bl (decide (i = 6)), .bl (decide (i = 7))] ++ [.bl (decide (i = 8))]))) l4 (.lst [.str "row", .str "saying", .str "count", .str "steps", .str "norow", .str "nofollow", .str "deed", .str "halted", .str "text"])) l4 [.str "row", .str "saying", .str "count", .str "steps", .str "norow", .str "nofollow", .str "deed", .str "halted", .str "text"] := SqL.of upd_same
    generalize upd (upd (upd (upd (upd H l1 (.lst [.bl (decide (i = 0)), .bl (decide (i = 1)), .bl (decide (i = 2)), .bl (decide (i = 3))])) l2 (.lst [.bl (decide (i = 4)), .bl (decide (i = 5)), .bl (decide (i = 6)), .bl (decide (i = 7))])) l3 (.lst ([.bl (decide (i = 0)), .bl (decide (i = 1)), .bl (decide (i = 2)), .bl (decide (i = 3))] ++ [.bl (decide (i = 4)), .bl (decide (i = 5)), .bl (decide (i = 6)), .bl (decide (i = 7))]))) l3 (.lst ([.bl (decide (i = 0)), .bl (decide (i = 1)), .bl (decide (i = 2)), .bl (decide (i = 3))] ++ [.bl (decide (i = 4)), .bl (decide (i = 5)), .bl (decide (i = 6)), .bl (decide (i = 7))] ++ [.bl (decide (i = 8))]))) l4 (.lst [.str "row", .str "saying", .str "count", .str "steps", .str "norow", .str "nofollow", .str "deed", .str "halted", .str "text"]) = H5 at K5 e3 e4 ⊢
    have d5 := XD.kept hdd K5
    have hi9 : i < 9 := by omega
    refine ⟨_, rfl, .inl ⟨rfl, _, e3⟩, l3, _, .bl true, rfl, rfl, e3, rfl, rfl, rfl, _, rfl, ?_⟩
    have c1 : List.countP (fun z => eqV z (.bl true)) (kindsG i) = 1 := kinds1 i hi9
    rw [c1]
    refine iteF ⟨_, rfl, _, _, _, rfl, fun u h => h, W.kitV i hi9, d5, _, rfl, iteF ?_⟩
    refine ⟨_, rfl, _, rfl, .inl ⟨rfl, _, e3⟩, l3, _, .bl true, i, .bl true, rfl, rfl, e3, rfl, rfl, kinds2 i hi9, rfl, (fun m z' hm hz => ?_), l4, _, i, .str (nameG i), rfl, rfl, e4, at_of rfl (names2 i hi9), ?_⟩
    · have q2 := kinds3 i hi9 m hm
      rw [hz] at q2
      simpa using q2
    refine ⟨_, rfl, rfl, _, rfl, ?_⟩
    rw [(names3 hi).1]
    refine iteF ⟨_, rfl, rfl, _, rfl, ?_⟩
    rw [(names3 hi).2]
    refine iteF ⟨_, rfl, by show (3 : Nat) ≤ sizeLine; rw [sizeLine_eq]; decide, fun p np => ?_⟩
    rcases he with ⟨hn, dd, j, rfl, hdd0, rfl⟩ | ⟨hn, rfl, rfl⟩
    · have d6 := K5 _ _ hdd0 (by simp)
      have hin : inV (.str (nameG i)) [V.str "row", V.str "steps", V.str "deed"] = true := (names4 i hi).trans hn
      refine ⟨p, _, rfl, .inr (SqT.of upd_same), rfl, rfl, _, rfl, ?_⟩
      rw [if_neg Bool.false_ne_true, hin]
      refine iteT ⟨_, rfl, hn, _, rfl, rfl, rfl, dd, _, .int j, rfl, (upd_ne (ne_of_none d6 np)).trans d6, rfl, by show (2 : Nat) ≤ sizeLine; rw [sizeLine_eq]; decide, fun p2 np2 => ?_⟩
      exact k _ p2 (K5.upd np) np2
    · have hin : inV (.str (nameG i)) [V.str "row", V.str "steps", V.str "deed"] = false := (names4 i hi).trans hn
      refine ⟨p, _, rfl, .inr (SqT.of upd_same), rfl, rfl, _, rfl, ?_⟩
      rw [if_neg Bool.false_ne_true, hin]
      refine iteF ⟨_, rfl, by show (2 : Nat) ≤ sizeLine; rw [sizeLine_eq]; decide, fun p2 np2 => ?_⟩
      exact k _ p2 (K5.upd np) np2
  exact T.run pins _ _ H D I q
end
end Ah
end
section
set_option Elab.async false
set_option linter.all false
set_option maxRecDepth 100000
set_option maxHeartbeats 2000000
namespace Ah
open PySem PySem.Spec PyProof.Rows L2 LamX
theorem pe_mono {X : Cx} {e : Expr} {t : TE} (h : PE X e t) : PE X e (fun σ H Q => ∃ Q0 : VK, (∀ v H', Q0 v H' → Q v H') ∧ t σ H Q0) :=
  ⟨fun pins s σ H Q I ⟨Q0, hm, ht⟩ => wpAny_mono (h.run pins s σ H Q0 I ht) (fun v s' ⟨x, H', I', r, q⟩ => ⟨x, H', I', r, hm _ _ q⟩) fun _ _ z => z⟩
def bodyW : List Stmt := match defBody lWord with
  | _ :: .Try b _ _ _ _ :: _ => b
  | _ => []
end Ah
end
section
set_option Elab.async false
set_option linter.all false
set_option maxRecDepth 100000
set_option maxHeartbeats 2000000
namespace Ah
open PySem PySem.Spec PyProof.Rows L2 LamX
/-- what is wished of an exception, whatever its class -/
def EWG (c : Nat → Addr) (Q : VK) : XK := fun cls d H1 => ∃ (i : Nat) (v : V), i < 7 ∧ cls = .ref (c i) ∧ ErrAt H1 i d v ∧ ∀ H' p, Kept [] H1 H' → H' p = none → Q (.ref p) (upd H' p (.tup [.str (nameG i), v]))
def TWG (c : Nat → Addr) : (XK → Hp → VK → Prop) → Hp → VK → Prop := fun tl H Q => ∀ lf, H lf = none → tl (EWG c Q) (upd H lf (.lst [])) (fun v H1 => H1 lf = some (.lst []) ∧ ∀ p, upd H1 lf (.lst [v]) p = none → Q (.ref p) (upd (upd H1 lf (.lst [v])) p (.tup [.str "", v])))
/-- the suite for any class -/
def tsGA (c : Nat → Addr) (a : Addr) (cls : Value) (d : Option Addr) : TS := fun D σ H => ∃ i, i < 7 ∧ tsG c i a cls d D σ H
section
variable {P : Program} {w : World} {K : PySem.W.Frag} {mg : Str → Option Value} {base : Heap}
theorem word_givesG {CA : Addr} {c : Nat → Addr} {g : Addr} {cdg : Value} (W : WordG K mg CA c) : GivesP P w K mg base NW "_law_word" (defScope lWord) g cdg (defBody lWord) "_law_work" (TWG c) := by
  intro A stack f s H Q tl G hG act hc h
  refine ⟨_, pss_cons (ps_set (i := 1) scW2.nd rfl (.inl rfl) (pe_lst pa_nil)) (pss_cons (ps_try_as (X := (cxOf C8.CX0 P w K mg base NW "_law_word" (defScope lWord) g cdg A stack s H C8.E0).nox) (i := 2) (n := "e") (c := .ref CA)
      (tb := fun W D σ H => ∃ (Ech : XK) (lf : Addr) (Q0 : VK), (∀ cls d H', Ech cls d H' → W cls d σ H') ∧ σ = [some (.ref f), some (.ref lf), none, none, none, none] ∧ G H ∧ H lf = some (.lst []) ∧ (∀ v H1, Q0 v H1 → H1 lf = some (.lst []) ∧ D.nx σ (upd H1 lf (.lst [v]))) ∧ tl Ech H Q0)
      (ts := tsGA c) rfl rfl scW2.nd rfl rfl ⟨by rfl, rfl, .inl W.ca⟩ L2.takes0 (fun Wx pn xe tk _ => ?_) (fun a oe cls d pn hz hf => ⟨fun pins s2 σ2 H2 D2 I2 ⟨i, hi, r⟩ => (suite_wordG W hi a oe cls d pn hz hf).run pins s2 σ2 H2 D2 I2 r⟩))
    (pss_one (ps_ret (pe_tup (pa_cons pe_str (pa_cons (pe_ix ix_list (pv 1) pe_int (fun _ _ => rfl)) pa_nil)))))), ?_⟩
  · refine ⟨fun pins s' σ H' D I h' => ?_⟩
    obtain ⟨Ech, lf, Q0, hW, rfl, h1, hlf, h0, h2⟩ := h'
    obtain ⟨t, T, r⟩ : ∃ t, PSs ((cxOf C8.CX0 P w K mg base NW "_law_word" (defScope lWord) g cdg A stack s H C8.E0).tr pn xe) bodyW t ∧ t D [some (.ref f), some (.ref lf), none, none, none, none] H' := by
      refine ⟨_, pss_one (ps_expr (pe_bm PySem.F.plainAttrs_list PySem.F.slot_list_append PySem.F.type_list_append mt_append (pv 1) (pa_cons (pe_mono (act Wx pn xe Ech _ _ [some (.ref f), some (.ref lf), none, none, none, none] tk hW)) pa_nil))), ?_⟩
      refine ⟨_, rfl, .inl ⟨rfl, _, SqL.of hlf⟩, Q0, (fun v H1 hv0 => ?_), rfl, rfl, h1, h2⟩
      have hv := h0 v H1 hv0
      exact ⟨lf, _, _, rfl, rfl, hv.1, by show (0 : Nat) < sizeLine; rw [sizeLine_eq]; decide, hv.2⟩
    exact T.run pins s' _ H' D I r
  · refine ⟨by show (0 : Nat) ≤ sizeLine; decide, fun lf nlf => ?_⟩
    refine ⟨EWG c Q, lf, _, fun cls d H1 hE => ?_, rfl, hG _ _ ((Kept.refl H).upd nlf) hc, upd_same, (fun v H1 hv => ⟨hv.1, ?_⟩), h lf nlf⟩
    · obtain ⟨i, v, hi, rfl, he, k⟩ := hE
      exact ⟨true, W.exm i (by omega), fun _ a na => ⟨i, hi, v, _, _, rfl, he, rfl, k⟩, fun z => nomatch z⟩
    · exact ⟨_, rfl, lf, _, 0, v, rfl, rfl, SqL.of upd_same, at_of (j := 0) rfl rfl, by show (2 : Nat) ≤ sizeLine; rw [sizeLine_eq]; decide, hv.2⟩
end
end Ah
end
section
set_option Elab.async false
set_option linter.all false
set_option maxRecDepth 100000
set_option maxHeartbeats 4000000
namespace Ah
open PySem PySem.Spec PyProof.Rows L2 LamX
open GxR (TabG)
/-! ### a display of few things -/
inductive Itm where
  | v (x : V) | t (xs : List V) | l (xs : List V)
def tVals : List V → TA
  | [] => tNil
  | x :: xs => tCons (tC x) (tVals xs)
def Itm.te : Itm → TE
  | .v x => tC x
  | .t xs => tTup (tVals xs)
  | .l xs => tLst (tVals xs)
def tItms : List Itm → TA
  | [] => tNil
  | x :: xs => tCons x.te (tItms xs)
def ItmAt (H H' : Hp) : Itm → V → Prop
  | .v x, u => u = x
  | .t xs, u => ∃ a, u = .ref a ∧ H' a = some (.tup xs) ∧ H a = none
  | .l xs, u => ∃ a, u = .ref a ∧ H' a = some (.lst xs) ∧ H a = none
theorem ItmAt.keep {H H1 H2 : Hp} (k : Kept [] H1 H2) : ∀ {i : Itm} {u : V}, ItmAt H H1 i u → ItmAt H H2 i u
  | .v _, _, h => h
  | .t _, _, ⟨a, e, h, n⟩ => ⟨a, e, k _ _ h (by simp), n⟩
  | .l _, _, ⟨a, e, h, n⟩ => ⟨a, e, k _ _ h (by simp), n⟩
theorem ItmAt.back {H0 H H1 : Hp} (k : Kept [] H0 H) : ∀ {i : Itm} {u : V}, ItmAt H H1 i u → ItmAt H0 H1 i u
  | .v _, _, h => h
  | .t _, _, ⟨a, e, h, n⟩ => ⟨a, e, h, none_of k n⟩
  | .l _, _, ⟨a, e, h, n⟩ => ⟨a, e, h, none_of k n⟩
theorem rd_vals {σ : L2.St} {H : Hp} {Q : List V → Hp → Prop} : ∀ {xs : List V}, Q xs H → tVals xs σ H Q
  | [], h => h
  | x :: xs, h => rd_vals (xs := xs) (Q := fun ys H' => Q (x :: ys) H') h
def Itm.le : Itm → Prop
  | .v _ => True
  | .t xs => xs.length ≤ 1000
  | .l xs => xs.length ≤ 1000
theorem rd_itm {σ : L2.St} {H : Hp} {Q : VK} : ∀ {i : Itm}, i.le → (∀ u H', Kept [] H H' → ItmAt H H' i u → Q u H') → i.te σ H Q
  | .v x, _, h => h x H (Kept.refl H) rfl
  | .t xs, hl, h => rd_vals (xs := xs) ⟨Nat.le_trans hl (by decide), fun a na => h _ _ ((Kept.refl H).upd na) ⟨a, rfl, upd_same, na⟩⟩
  | .l xs, hl, h => rd_vals (xs := xs) ⟨Nat.le_trans hl (by decide), fun a na => h _ _ ((Kept.refl H).upd na) ⟨a, rfl, upd_same, na⟩⟩
theorem rd_itms {σ : L2.St} : ∀ {is : List Itm} {H : Hp} {Q : List V → Hp → Prop}, (∀ i ∈ is, i.le) → (∀ us H', Kept [] H H' → Paired (ItmAt H H') is us → Q us H') → tItms is σ H Q
  | [], H, Q, _, h => h [] H (Kept.refl H) .nil
  | i :: is, H, Q, hl, h => rd_itm (hl i List.mem_cons_self) fun u H1 k1 a1 => rd_itms (is := is) (fun j hj => hl j (List.mem_cons_of_mem _ hj)) fun us H2 k2 a2 =>
      h (u :: us) H2 (k1.trans k2) (.cons (a1.keep k2) (Paired.mapP a2 fun _ _ z => z.back k1))
/-! ### what stands -/
/-- all stands but the draws' list and the tables -/
def Rl (p : Addr) (H H' : Hp) : Prop := ∀ b o, H b = some o → b ≠ p → (∀ ps, o ≠ .tbl ps) → H' b = some o
theorem Rl.trans {p : Addr} {H H1 H2 : Hp} (a : Rl p H H1) (b : Rl p H1 H2) : Rl p H H2 := fun c o e n m => b c o (a c o e n m) n m
theorem Rl.k0 {p : Addr} {H H' : Hp} (k : Kept [] H H') : Rl p H H' := fun b o e _ _ => k b o e (by simp)
theorem Rl.kd {p : Addr} {H H' : Hp} (k : Kept [p] H H') : Rl p H H' := fun b o e n _ => k b o e (by simpa using n)
theorem Rl.kp {p : Addr} {T : List Addr} {H H' : Hp} (ht : ∀ P ∈ T, TabG H P) (k : Kp T H H') : Rl p H H' := fun b o e _ m => k.obj ht e m
theorem Rl.tab {p P : Addr} {q : Str} {H H' : Hp} (t : TabS H P q) (k : ∀ b o, H b = some o → b ≠ P → H' b = some o) : Rl p H H' := fun b o e _ m => k b o e fun z => by
  obtain ⟨ps, e2, _⟩ := t
  rw [← z, e] at e2
  exact m ps (Option.some.inj e2)
theorem tabS_by {H H' : Hp} {P1 : Addr} {qn : Str} (t : LamX.TabS H P1 qn) (hk : ∀ b o, H b = some o → (b = P1 ∨ ∃ q, o = LamX.CodeO b q) → H' b = some o) : LamX.TabS H' P1 qn := by
  obtain ⟨ps, h1, h2, h3⟩ := t
  refine ⟨ps, hk _ _ h1 (.inl rfl), h2, fun pos cv hc => ?_⟩
  obtain ⟨c, e1, e2⟩ := h3 pos cv hc
  exact ⟨c, e1, hk _ _ e2 (.inr ⟨_, rfl⟩)⟩
theorem codeO_tbl {c : Addr} {q : Str} (ps : Array Value) : LamX.CodeO c q ≠ .tbl ps := fun z => by unfold LamX.CodeO at z; cases z
theorem codeO_lst {c : Addr} {q : Str} {xs : List V} : LamX.CodeO c q ≠ .lst xs := fun z => by unfold LamX.CodeO at z; cases z
/-! ### tuples and lists -/
structure Tk (H H' : Hp) : Prop where
  tup : ∀ b xs, H b = some (.tup xs) → H' b = some (.tup xs)
  lst : ∀ b xs, H b = some (.lst xs) → ∃ ys, H' b = some (.lst ys)
theorem Tk.refl (H : Hp) : Tk H H := ⟨fun _ _ e => e, fun _ _ e => ⟨_, e⟩⟩
theorem Tk.trans {H H1 H2 : Hp} (a : Tk H H1) (b : Tk H1 H2) : Tk H H2 := ⟨fun p xs e => b.tup p xs (a.tup p xs e), fun p xs e => let ⟨_, e1⟩ := a.lst p xs e; b.lst p _ e1⟩
theorem Tk.k0 {H H' : Hp} (k : Kept [] H H') : Tk H H' := ⟨fun b xs e => k b _ e (by simp), fun b xs e => ⟨_, k b _ e (by simp)⟩⟩
theorem Tk.rl {p : Addr} {H H' : Hp} (k : Rl p H H') (h : ∃ xs, H p = some (.lst xs)) (h' : ∃ xs, H' p = some (.lst xs)) : Tk H H' := ⟨fun b xs e => k b _ e (fun z => by
  obtain ⟨ys, e2⟩ := h
  rw [z, e2] at e
  cases e) (fun _ z => nomatch z), fun b xs e => by
  by_cases z : b = p
  · rw [z]; exact h'
  · exact ⟨_, k b _ e z (fun _ z => nomatch z)⟩⟩
theorem Tk.put {H : Hp} {l : Addr} {os xs : List V} (h : H l = some (.lst os)) : Tk H (upd H l (.lst xs)) := ⟨fun b ys e => (upd_ne fun z => by rw [z, h] at e; cases e).trans e, fun b ys e => by
  by_cases z : b = l
  · rw [z]; exact ⟨_, upd_same⟩
  · exact ⟨_, (upd_ne z).trans e⟩⟩
section
variable {H H' : Hp} (k : Tk H H')
include k
theorem PlainV.tk {v : V} (h : PlainV H v) : PlainV H' v := by
  rcases h with h | h | h | ⟨a, xs, e, h | h⟩
  · exact .inl h
  · exact .inr (.inl h)
  · exact .inr (.inr (.inl h))
  · exact .inr (.inr (.inr ⟨a, xs, e, .inl (k.tup _ _ h)⟩))
  · obtain ⟨ys, q⟩ := k.lst _ _ h
    exact .inr (.inr (.inr ⟨a, ys, e, .inr q⟩))
theorem RowT.tk {v : V} {b : Bool} (h : RowT H v b) : RowT H' v b := by
  rcases h with ⟨h | h | h | ⟨a, xs, e, h⟩, z⟩ | ⟨a, xs, e, h, h1, h2, h3⟩
  · exact .inl ⟨.inl h, z⟩
  · exact .inl ⟨.inr (.inl h), z⟩
  · exact .inl ⟨.inr (.inr (.inl h)), z⟩
  · obtain ⟨ys, q⟩ := k.lst _ _ h
    exact .inl ⟨.inr (.inr (.inr ⟨a, ys, e, q⟩)), z⟩
  · exact .inr ⟨a, xs, e, k.tup _ _ h, h1, fun x hx => (h2 x hx).tk k, h3⟩
theorem SayT.tk {v : V} {b : Bool} (h : SayT H v b) : SayT H' v b := by
  rcases h with ⟨h, e⟩ | ⟨a, xs, e, h1, h2, h3, h4⟩
  · exact .inl ⟨h.tk k, e⟩
  · exact .inr ⟨a, xs, e, k.tup _ _ h1, h2.tk k, h3, h4⟩
theorem NonTup.tk {v : V} (h : NonTup H v) : NonTup H' v := by
  rcases h with h | h | h | ⟨a, xs, e, h⟩
  · exact .inl h
  · exact .inr (.inl h)
  · exact .inr (.inr (.inl h))
  · obtain ⟨ys, q⟩ := k.lst _ _ h
    exact .inr (.inr (.inr ⟨a, ys, e, q⟩))
theorem AftA.tk {r : Rw} {ss : List Say} {x : Say} {av : V} {b : Bool} (h : AftA H r ss x av b) : AftA H' r ss x av b := by
  rcases h with ⟨h, e⟩ | ⟨t, os, e, h, h2⟩
  · exact .inl ⟨h.tk k, e⟩
  · exact .inr ⟨t, os, e, k.tup _ _ h, h2⟩
theorem AftS.tk {rs : List Rw} {ss : List Say} {sv nv av : V} {b : Bool} (h : AftS H rs ss sv nv av b) : AftS H' rs ss sv nv av b := by
  rcases h with ⟨h, e⟩ | ⟨sa, x, e, h1, h2, h3, h4, h5⟩
  · exact .inl ⟨h.tk k, e⟩
  · refine .inr ⟨sa, x, e, k.tup _ _ h1, h2.tk k, h3, h4, ?_⟩
    rcases h5 with h5 | ⟨n, r, e1, e2, h6⟩
    · exact .inl h5
    · exact .inr ⟨n, r, e1, e2, h6.tk k⟩
theorem StepV.tk {rs : List Rw} {ss : List Say} {v : V} {b : Bool} (h : StepV H rs ss v b) : StepV H' rs ss v b := by
  rcases h with ⟨h, e⟩ | ⟨a, xs, e, h, h2⟩
  · exact .inl ⟨h.tk k, e⟩
  · refine .inr ⟨a, xs, e, k.tup _ _ h, ?_⟩
    rcases h2 with h2 | ⟨sv, nv, av, e2, h3⟩
    · exact .inl h2
    · exact .inr ⟨sv, nv, av, e2, h3.tk k⟩
theorem Ahead.tk {us : List V} {ss : List Say} (h : Ahead H us ss) : Ahead H' us ss := fun i s e => by
  obtain ⟨a, sa, nv, av, q1, q2, q3, q4⟩ := h i s e
  exact ⟨a, sa, nv, av, q1, k.tup _ _ q2, k.tup _ _ q3, q4⟩
theorem GoodTo.tk {rs : List Rw} {us : List V} {ss : List Say} {j : Nat} (h : GoodTo H rs us ss j) : GoodTo H' rs us ss j := ⟨h.ah.tk k, h.len, h.le, fun i v hi e => (h.ok i v hi e).tk k⟩
theorem NumsAt.tk {us : List V} {ns : List Nat} (h : NumsAt H us ns) : NumsAt H' us ns := Paired.mapP h fun _ _ ⟨a, x, av, e, q⟩ => ⟨a, x, av, e, k.tup _ _ q⟩
theorem tx_tk {q : Addr} {rs : List Rw} (h : TextAt H q rs) : TextAt H' q rs := let ⟨ps, h1, h2⟩ := h; ⟨ps, k.tup _ _ h1, Paired.mapP h2 fun _ _ e => k.tup _ _ e⟩
end
/-! ### what comes by what -/
theorem led_by {r : Rw} {s x : Say} (hx : x ≠ .clash) : ByB r [s] x = decide (x ∈ lawLed r s) := by
  unfold ByB
  rw [decide_eq_decide]
  cases s with
  | clash => simp [leadsBy, lawLed]
  | is n k =>
    cases r <;> simp only [leadsBy, leadsKind, lawLed] <;> (try split) <;> (try simp_all) <;> (try (intro h; exact hx h.symm)) <;> (try (exact fun h => hx h))
  | has n t m =>
    cases r <;> simp only [leadsBy, leadsTie, leadsOn, lawLed] <;> (try split) <;> (try simp_all) <;> (try (intro h; exact hx h.symm)) <;> (try (exact fun h => hx h))
theorem both_by {r : Rw} {s1 s2 x : Say} (h1 : s1 ≠ .clash) (h2 : s2 ≠ .clash) (hx : x ≠ .clash) : ByB r [s1, s2] x = decide (x ∈ lawBoth r s1 s2) := by
  unfold ByB
  rw [decide_eq_decide]
  cases s1 with
  | clash => exact absurd rfl h1
  | is n k =>
    cases r <;> simp only [leadsBy, leadsKind, lawBoth] <;> (try split) <;> (try simp_all)
  | has n t m =>
    cases s2 with
    | clash => exact absurd rfl h2
    | is n2 k2 => cases r <;> simp only [leadsBy, leadsTie, leadsOn, lawBoth] <;> (try split) <;> (try simp_all [Say.names]) <;> (try (intro e; exact absurd e.symm ‹_›))
    | has n2 t2 m2 =>
      by_cases hr : ∃ a, r = .on a
      · obtain ⟨a, rfl⟩ := hr
        simp only [leadsBy, leadsTie, leadsOn, lawBoth, Say.names]
        by_cases e : a = t
        · subst e
          rw [if_pos rfl]
          constructor
          · intro h
            rcases List.mem_append.mp h with h | h
            · obtain ⟨y, hy, e⟩ := List.mem_map.mp h
              simp only [Prod.mk.injEq, Option.some.injEq, Say.has.injEq] at e
              obtain ⟨_, ⟨e1, e2, e3⟩, e4⟩ := e
              rw [if_pos ⟨rfl, e2.symm, e1⟩, ← e4, e3]
              exact List.mem_singleton.mpr rfl
            · obtain ⟨y, hy, e⟩ := List.mem_map.mp h
              simp only [Prod.mk.injEq, Option.some.injEq, Say.has.injEq] at e
              obtain ⟨⟨e0, _, e01⟩, ⟨e1, e2, e3⟩, e4⟩ := e
              rw [if_pos ⟨rfl, e2.symm, e01.symm.trans e1⟩, ← e4, ← e3, e0]
              exact List.mem_singleton.mpr rfl
          · intro h
            split at h
            · rename_i q
              obtain ⟨_, rfl, rfl⟩ := q
              rw [List.mem_singleton.mp h]
              exact List.mem_append_left _ (List.mem_map.mpr ⟨m2, by simp, rfl⟩)
            · cases h
        · rw [if_neg e]
          constructor
          · intro h; cases h
          · intro h
            split at h
            · rename_i q
              exact absurd q.1.symm e
            · cases h
      · cases r <;> simp only [leadsBy, leadsTie, leadsOn, lawBoth] <;> (try split) <;> (try simp_all [Say.names])
theorem few_led {r : Rw} {s x : Say} (hr : r.few) (hs : s.few) (h : x ∈ lawLed r s) : x.few ∧ x ≠ .clash := by
  cases s with
  | clash => simp [lawLed] at h
  | is n k => cases r <;> simp only [lawLed] at h <;> (try split at h) <;> simp_all [Rw.few, Say.few]
  | has n t m => cases r <;> simp only [lawLed] at h <;> (try split at h) <;> simp_all [Rw.few, Say.few]
theorem few_both {r : Rw} {s y x : Say} (hr : r.few) (hs : s.few) (hy : y.few) (h : x ∈ lawBoth r s y) : x.few ∧ x ≠ .clash := by
  cases r <;> simp only [lawBoth] at h <;> (try (cases s <;> cases y)) <;> (try dsimp only at h) <;> (try split at h) <;> simp_all [Rw.few, Say.few]
theorem len_led (r : Rw) (s : Say) : (lawLed r s).length ≤ 1 := by
  cases s <;> cases r <;> simp only [lawLed] <;> (try split) <;> simp
theorem len_both (r : Rw) (s y : Say) : (lawBoth r s y).length ≤ 1 := by
  cases r <;> simp only [lawBoth] <;> (try (cases s <;> cases y)) <;> (try dsimp only) <;> (try split) <;> (try simp)
end Ah
end
section
set_option Elab.async false
set_option linter.all false
set_option maxRecDepth 100000
set_option maxHeartbeats 4000000
namespace Ah
open PySem PySem.Spec PyProof.Rows L2 LamX
open GxR (TabG)
theorem few_rowB {r : Rw} (h : r.few) : isRowL (r.ws.map V.str) = true ∧ ∀ z ∈ r.ws, z.length ≤ 100 := by
  have nk : ∀ n ∈ namesL, ∀ k ∈ kindsL, ∀ l ∈ kindsL, ∀ m ∈ namesL, ∀ t ∈ tiesL, ∀ s ∈ tiesL, ∀ x ∈ [Rw.is n k, Rw.isnt n k, Rw.has n t m, Rw.hasnt n t m, Rw.all k l, Rw.no k l, Rw.each k t m, Rw.who t k l, Rw.turned t s, Rw.on t, Rw.fr t k, Rw.to t k, Rw.under t s],
      (isRowL (x.ws.map V.str) && x.ws.all fun z => decide (z.length ≤ 100)) = true := by decide +kernel
  have fin : (isRowL (r.ws.map V.str) && r.ws.all fun z => decide (z.length ≤ 100)) = true := by
    have n0 : ("ann" : Str) ∈ namesL := by decide
    have k0 : ("cat" : Str) ∈ kindsL := by decide
    have t0 : ("likes" : Str) ∈ tiesL := by decide
    cases r <;> simp only [Rw.few] at h
    · exact nk _ h.1 _ h.2 _ k0 _ n0 _ t0 _ t0 _ (by simp)
    · exact nk _ h.1 _ h.2 _ k0 _ n0 _ t0 _ t0 _ (by simp)
    · exact nk _ h.1 _ k0 _ k0 _ h.2.2 _ h.2.1 _ t0 _ (by simp)
    · exact nk _ h.1 _ k0 _ k0 _ h.2.2 _ h.2.1 _ t0 _ (by simp)
    · exact nk _ n0 _ h.1 _ h.2 _ n0 _ t0 _ t0 _ (by simp)
    · exact nk _ n0 _ h.1 _ h.2 _ n0 _ t0 _ t0 _ (by simp)
    · exact nk _ n0 _ h.1 _ k0 _ h.2.2 _ h.2.1 _ t0 _ (by simp)
    · exact nk _ n0 _ h.2.1 _ h.2.2 _ n0 _ h.1 _ t0 _ (by simp)
    · exact nk _ n0 _ k0 _ k0 _ n0 _ h.1 _ h.2 _ (by simp)
    · exact nk _ n0 _ k0 _ k0 _ n0 _ h _ t0 _ (by simp)
    · exact nk _ n0 _ h.2 _ k0 _ n0 _ h.1 _ t0 _ (by simp)
    · exact nk _ n0 _ h.2 _ k0 _ n0 _ h.1 _ t0 _ (by simp)
    · exact nk _ n0 _ k0 _ k0 _ n0 _ h.1 _ h.2 _ (by simp)
  obtain ⟨a, b⟩ := Bool.and_eq_true_iff.mp fin
  exact ⟨a, fun z hz => of_decide_eq_true (List.all_eq_true.mp b z hz)⟩
/-! ### steps -/
theorem Say.few_rw {x : Say} (h : x.few) (hc : x ≠ .clash) : (toRw x).few ∧ (toRw x).ws = x.ws := by
  cases x with
  | clash => exact absurd rfl hc
  | is n k => exact ⟨h, rfl⟩
  | has n t m => exact ⟨h, rfl⟩
/-- what may stand as a saying -/
structure SayOk (x : Say) : Prop where
  row : isRowL (x.ws.map V.str) = true
  len : ∀ z ∈ x.ws, z.length ≤ 100
  nc : x ≠ .clash
  ok : okW x.ws
theorem few_say {x : Say} (h : x.few) (hc : x ≠ .clash) : SayOk x := by
  obtain ⟨h1, h2⟩ := Say.few_rw h hc
  obtain ⟨q1, q2⟩ := few_rowB h1
  have q3 := few_ok h1
  rw [h2] at q1 q2 q3
  exact ⟨q1, q2, hc, q3⟩
theorem row_T {H : Hp} {a : Addr} {zs : List Str} (h : H a = some (.tup (zs.map V.str))) (hl : zs.length ≤ 10) (hz : ∀ z ∈ zs, z.length ≤ 100) : RowT H (.ref a) (isRowL (zs.map V.str)) := by
  refine .inr ⟨a, _, rfl, h, by rw [List.length_map]; omega, fun v hv => ?_, rfl⟩
  obtain ⟨z, hz', rfl⟩ := List.mem_map.mp hv
  exact .inl ⟨z, rfl, Nat.le_trans (hz z hz') (by decide)⟩
theorem said_ok {x : Say} (h : x ≠ .clash) : saidL (x.ws.map V.str) = true := by
  cases x with
  | clash => exact absurd rfl h
  | is n k => exact (by decide +kernel : inV (V.str "is") [.str "is", .str "has"] = true)
  | has n t m => exact (by decide +kernel : inV (V.str "has") [.str "is", .str "has"] = true)
theorem say_T {H : Hp} {a : Addr} {x : Say} (h : H a = some (.tup (x.ws.map V.str))) (O : SayOk x) : SayT H (.ref a) true := by
  have r := row_T h (by cases x <;> simp [Say.ws]) O.len
  rw [O.row] at r
  exact .inr ⟨a, _, rfl, h, r, O.row, (said_ok O.nc).symm⟩
theorem not_T {H : Hp} {a : Addr} {zs : List Str} (h : H a = some (.tup (zs.map V.str))) (hl : zs.length ≤ 10) (hz : ∀ z ∈ zs, z.length ≤ 100) (hs : isRowL (zs.map V.str) = true → saidL (zs.map V.str) = false) : SayT H (.ref a) false := by
  have r := row_T h hl hz
  cases e : isRowL (zs.map V.str) with
  | false => rw [e] at r; exact .inl ⟨r, rfl⟩
  | true => rw [e] at r; exact .inr ⟨a, _, rfl, h, r, e, (hs e).symm⟩
section
variable {H : Hp} {rs : List Rw} {ss : List Say} {a sa t : Addr} {x : Say} {n : Nat} {nv av : V} {r : Rw}
theorem step_T {ah : List Nat} (ha : H a = some (.tup [.ref sa, .int (n : Int), .ref t])) (hsa : H sa = some (.tup (x.ws.map V.str))) (O : SayOk x) (hn : rs[n]? = some r) (ht : H t = some (.tup (ah.map fun i : Nat => V.int (i : Int)))) (hl : ah.length ≤ 2) (hlt : ∀ i ∈ ah, i < ss.length) :
    StepV H rs ss (.ref a) (ByB r (ah.map fun i => ss.getD i .clash) x) :=
  .inr ⟨a, _, rfl, ha, .inr ⟨_, _, _, rfl, .inr ⟨sa, x, rfl, hsa, say_T hsa O, O.ok, .inl ⟨_, rfl⟩, .inr ⟨n, r, rfl, hn, .inr ⟨t, _, rfl, ht, .inr ⟨by rw [List.length_map]; exact hl, fun o ho => by
    obtain ⟨i, _, rfl⟩ := List.mem_map.mp ho
    exact .inl ⟨_, rfl⟩, .inr ⟨ah, rfl, hlt, rfl⟩⟩⟩⟩⟩⟩⟩
theorem bad_num (ha : H a = some (.tup [.ref sa, nv, av])) (hsa : H sa = some (.tup (x.ws.map V.str))) (O : SayOk x) (hv : NumV nv) (hb : isNumL (rs.length : Int) nv = false) : StepV H rs ss (.ref a) false :=
  .inr ⟨a, _, rfl, ha, .inr ⟨_, _, _, rfl, .inr ⟨sa, x, rfl, hsa, say_T hsa O, O.ok, hv, .inl ⟨hb, rfl⟩⟩⟩⟩
theorem bad_aft (ha : H a = some (.tup [.ref sa, .int (n : Int), av])) (hsa : H sa = some (.tup (x.ws.map V.str))) (O : SayOk x) (h : ∀ r, rs[n]? = some r → AftA H r ss x av false) : StepV H rs ss (.ref a) false := by
  cases e : rs[n]? with
  | none =>
    refine bad_num ha hsa O (.inl ⟨_, rfl⟩) ?_
    have := List.getElem?_eq_none_iff.mp e
    show (decide (0 ≤ (n : Int)) && decide ((n : Int) < (rs.length : Int))) = false
    rw [decide_eq_false (p := (n : Int) < (rs.length : Int)) (by omega), Bool.and_false]
  | some r => exact .inr ⟨a, _, rfl, ha, .inr ⟨_, _, _, rfl, .inr ⟨sa, x, rfl, hsa, say_T hsa O, O.ok, .inl ⟨_, rfl⟩, .inr ⟨n, r, rfl, e, h r e⟩⟩⟩⟩
theorem bad_oth (ha : H a = some (.tup [.ref sa, .int (n : Int), .ref t])) (hsa : H sa = some (.tup (x.ws.map V.str))) (O : SayOk x) {os : List V} (ht : H t = some (.tup os)) (hl : os.length ≤ 2) (hv : ∀ o ∈ os, NumV o) (hb : os.all (isNumL (ss.length : Int)) = false) : StepV H rs ss (.ref a) false :=
  bad_aft ha hsa O fun _ _ => .inr ⟨t, os, rfl, ht, .inr ⟨hl, hv, .inl ⟨hb, rfl⟩⟩⟩
theorem bad_by {ah : List Nat} (ha : H a = some (.tup [.ref sa, .int (n : Int), .ref t])) (hsa : H sa = some (.tup (x.ws.map V.str))) (O : SayOk x) (ht : H t = some (.tup (ah.map fun i : Nat => V.int (i : Int)))) (hl : ah.length ≤ 2) (h : (∀ i ∈ ah, i < ss.length) → ∀ r, rs[n]? = some r → ByB r (ah.map fun i => ss.getD i .clash) x = false) : StepV H rs ss (.ref a) false := by
  by_cases q : ∀ i ∈ ah, i < ss.length
  · exact bad_aft ha hsa O fun r e => .inr ⟨t, _, rfl, ht, .inr ⟨by rw [List.length_map]; exact hl, fun o ho => by
      obtain ⟨i, _, rfl⟩ := List.mem_map.mp ho
      exact .inl ⟨_, rfl⟩, .inr ⟨ah, rfl, q, (h q r e).symm⟩⟩⟩
  · refine bad_oth ha hsa O ht (by rw [List.length_map]; exact hl) (fun o ho => by
      obtain ⟨i, _, rfl⟩ := List.mem_map.mp ho
      exact .inl ⟨_, rfl⟩) ?_
    rw [List.all_map, Bool.eq_false_iff]
    intro z
    rw [List.all_eq_true] at z
    refine q fun i hi => ?_
    have := z i hi
    simp only [Function.comp_apply, isNumL, Bool.and_eq_true, decide_eq_true_eq] at this
    omega
end
/-! ### zed -/
abbrev zed : Say := .is "zed" "cat"
theorem zed_ok : SayOk zed := ⟨by decide +kernel, by decide +kernel, (fun z => nomatch z), by unfold okW; decide +kernel⟩
theorem zed_few : ¬ zed.few := fun h => absurd h.1 (by decide)
theorem zed_by {r : Rw} {ss : List Say} (hr : r.few) (hs : ∀ s ∈ ss, s.few ∧ s ≠ .clash) (hl : ss.length ≤ 2) : ByB r ss zed = false := by
  match ss, hs, hl with
  | [], _, _ =>
    show decide ((zed).ws = r.ws) = false
    refine decide_eq_false fun e => ?_
    cases r <;> simp only [Rw.ws, Say.ws, List.cons.injEq] at e <;> first | (exact absurd e.1 (by decide)) | (obtain ⟨_, e1, _⟩ := e; exact absurd (e1 ▸ hr.1 : ("zed" : Str) ∈ namesL) (by decide))
  | [s], hs, _ =>
    rw [led_by zed_ok.nc]
    exact decide_eq_false fun h => zed_few (few_led hr (hs s (by simp)).1 h).1
  | [s, y], hs, _ =>
    rw [both_by (hs s (by simp)).2 (hs y (by simp)).2 zed_ok.nc]
    exact decide_eq_false fun h => zed_few (few_both hr (hs s (by simp)).1 (hs y (by simp)).1 h).1
/-! ### displays -/
def MkB (te : TE) (σ : L2.St) (F : Hp → Prop) (G : Hp → V → Prop) : Prop := ∀ (H : Hp) (Q : VK), F H → (∀ v H', Kept [] H H' → G H' v → Q v H') → te σ H Q
def MkBs (ts : TA) (σ : L2.St) (F : Hp → Prop) (G : Hp → V → Prop) (n : Nat) : Prop := ∀ (H : Hp) (Q : List V → Hp → Prop), F H → (∀ vs H', Kept [] H H' → vs.length = n → (∀ v ∈ vs, G H' v) → Q vs H') → ts σ H Q
def Stb (F : Hp → Prop) : Prop := ∀ H H', Kept [] H H' → F H → F H'
section
variable {σ : L2.St} {F : Hp → Prop} {G G1 G2 G3 : Hp → V → Prop}
theorem mkBs_nil : MkBs tNil σ F G 0 := fun H Q hF h => h [] H (Kept.refl H) rfl (by simp)
theorem mkBs_cons {te : TE} {ts : TA} {n : Nat} (sF : Stb F) (sG : ∀ v, Stb fun H => G H v) (h : MkB te σ F G) (hs : MkBs ts σ F G n) : MkBs (tCons te ts) σ F G (n + 1) := fun H Q hF k =>
  h H _ hF fun v H1 k1 g1 => hs H1 _ (sF _ _ k1 hF) fun vs H2 k2 hl g2 => k (v :: vs) H2 (k1.trans k2) (by rw [List.length_cons, hl]) fun u hu => by
    rcases List.mem_cons.mp hu with rfl | hu
    · exact sG _ _ _ k2 g1
    · exact g2 u hu
theorem mkB_val {te : TE} {v : V} (h : ∀ H (Q : VK), F H → Q v H → te σ H Q) : MkB te σ F (fun _ u => u = v) := fun H Q hF k => h H Q hF (k v H (Kept.refl H) rfl)
theorem mkB_c {v : V} : MkB (tC v) σ F (fun _ u => u = v) := fun H Q hF k => k v H (Kept.refl H) rfl
theorem mkB_var {i : Nat} {v : V} (e : σ[i]? = some (some v)) : MkB (tVar i) σ F (fun _ u => u = v) := fun H Q hF k => ⟨v, e, k v H (Kept.refl H) rfl⟩
theorem mkB_tup {xs : List V} (hl : xs.length ≤ 100) : MkB (tTup (tVals xs)) σ F (fun H u => ∃ a, u = .ref a ∧ H a = some (.tup xs)) := fun H Q hF k =>
  rd_vals (xs := xs) ⟨Nat.le_trans hl (by decide), fun a na => k _ _ ((Kept.refl H).upd na) ⟨a, rfl, upd_same⟩⟩
theorem mkB_lst {xs : List V} (hl : xs.length ≤ 100) : MkB (tLst (tVals xs)) σ F (fun H u => ∃ a, u = .ref a ∧ H a = some (.lst xs)) := fun H Q hF k =>
  rd_vals (xs := xs) ⟨Nat.le_trans hl (by decide), fun a na => k _ _ ((Kept.refl H).upd na) ⟨a, rfl, upd_same⟩⟩
theorem mkB_imp {te : TE} (h : MkB te σ F G1) (i : ∀ H v, F H → G1 H v → G H v) (sF : Stb F) : MkB te σ F G := fun H Q hF k => h H Q hF fun v H' k' g => k v H' k' (i H' v (sF _ _ k' hF) g)
theorem stb_eq {v : V} : ∀ u : V, Stb fun _ => u = v := fun _ _ _ _ h => h
theorem stb_tup {xs : List V} : ∀ u : V, Stb fun H => ∃ a, u = .ref a ∧ H a = some (.tup xs) := fun _ _ _ k ⟨a, e, h⟩ => ⟨a, e, k _ _ h (by simp)⟩
theorem stb_lst {xs : List V} : ∀ u : V, Stb fun H => ∃ a, u = .ref a ∧ H a = some (.lst xs) := fun _ _ _ k ⟨a, e, h⟩ => ⟨a, e, k _ _ h (by simp)⟩
theorem mkB_3 {t1 t2 t3 : TE} (h1 : MkB t1 σ F G1) (h2 : MkB t2 σ F G2) (h3 : MkB t3 σ F G3) (sF : Stb F) (s1 : ∀ v, Stb fun H => G1 H v) (s2 : ∀ v, Stb fun H => G2 H v) (s3 : ∀ v, Stb fun H => G3 H v) (k : ∀ H a v1 v2 v3, F H → H a = some (.tup [v1, v2, v3]) → G1 H v1 → G2 H v2 → G3 H v3 → G H (.ref a)) :
    MkB (tTup (tCons t1 (tCons t2 (tCons t3 tNil)))) σ F G := fun H Q hF q =>
  h1 H _ hF fun v1 H1 k1 g1 => h2 H1 _ (sF _ _ k1 hF) fun v2 H2 k2 g2 => h3 H2 _ (sF _ _ (k1.trans k2) hF) fun v3 H3 k3 g3 => ⟨by show (3 : Nat) ≤ sizeLine; decide, fun a na => by
    have ku := (Kept.refl (M := []) H3).upd (o := .tup [v1, v2, v3]) na
    exact q _ _ (((k1.trans k2).trans k3).trans ku) (k _ a v1 v2 v3 (sF _ _ (((k1.trans k2).trans k3).trans ku) hF) upd_same (s1 _ _ _ ((k2.trans k3).trans ku) g1) (s2 _ _ _ (k3.trans ku) g2) (s3 _ _ _ ku g3))⟩
theorem mkB_l3 {t1 t2 t3 : TE} (h1 : MkB t1 σ F G1) (h2 : MkB t2 σ F G2) (h3 : MkB t3 σ F G3) (sF : Stb F) (k : ∀ H a xs, F H → H a = some (.lst xs) → G H (.ref a)) :
    MkB (tLst (tCons t1 (tCons t2 (tCons t3 tNil)))) σ F G := fun H Q hF q =>
  h1 H _ hF fun v1 H1 k1 g1 => h2 H1 _ (sF _ _ k1 hF) fun v2 H2 k2 g2 => h3 H2 _ (sF _ _ (k1.trans k2) hF) fun v3 H3 k3 g3 => ⟨by show (3 : Nat) ≤ sizeLine; decide, fun a na => by
    have ku := (Kept.refl (M := []) H3).upd (o := .lst [v1, v2, v3]) na
    exact q _ _ (((k1.trans k2).trans k3).trans ku) (k _ a _ (sF _ _ (((k1.trans k2).trans k3).trans ku) hF) upd_same)⟩
theorem mkB_2 {t1 t2 : TE} (h1 : MkB t1 σ F G1) (h2 : MkB t2 σ F G2) (sF : Stb F) (k : ∀ H a xs, F H → xs.length = 2 → H a = some (.tup xs) → G H (.ref a)) :
    MkB (tTup (tCons t1 (tCons t2 tNil))) σ F G := fun H Q hF q =>
  h1 H _ hF fun v1 H1 k1 g1 => h2 H1 _ (sF _ _ k1 hF) fun v2 H2 k2 g2 => ⟨by show (2 : Nat) ≤ sizeLine; decide, fun a na => by
    have ku := (Kept.refl (M := []) H2).upd (o := .tup [v1, v2]) na
    exact q _ _ ((k1.trans k2).trans ku) (k _ a _ (sF _ _ ((k1.trans k2).trans ku) hF) rfl upd_same)⟩
theorem mkB_t1 {t1 : TE} {v : V} (h1 : MkB t1 σ F (fun _ u => u = v)) : MkB (tTup (tCons t1 tNil)) σ F (fun H u => ∃ a, u = .ref a ∧ H a = some (.tup [v])) := fun H Q hF q =>
  h1 H _ hF fun v1 H1 k1 g1 => ⟨by show (1 : Nat) ≤ sizeLine; decide, fun a na => by
    rw [g1]
    exact q _ _ (k1.upd na) ⟨a, rfl, upd_same⟩⟩
end
/-- a step's value stays -/
theorem stb_step {rs : List Rw} {ss : List Say} {b : Bool} : ∀ v, Stb fun H => StepV H rs ss v b := fun _ _ _ k h => h.tk (.k0 k)
end Ah
end
section
set_option Elab.async false
set_option linter.all false
set_option maxRecDepth 100000
set_option maxHeartbeats 4000000
namespace Ah
open PySem PySem.Spec PyProof.Rows L2 LamX
open GxR (TabG)
theorem scOdd : FnScope ["_law_row_here", "_law_rows", "_law_ahead", "_law_n", "_law_x", "_law_many", "_law_odd"] ["_law_row_here", "_law_rows", "_law_ahead"] (defScope lOddStep) := ⟨rfl, rfl, rfl, by decide +kernel, rfl, by decide +kernel, by decide +kernel⟩
def spOddS (K : PySem.W.Frag) : Sp := fun vs H Q _ => ∃ (p a b l : Addr) (ns : List Int) (rs : List Rw) (us : List V) (ss : List Say), vs = [.ref p, .ref b, .ref l] ∧ l ≠ p ∧ StAt K H p a ns ∧ TextAt H b rs ∧ (∀ r ∈ rs, r.few) ∧ rs.length ≤ 10 ∧ H l = some (.lst us) ∧ us.length = ss.length ∧ ss.length ≤ 10 ∧ (∀ s ∈ ss, s.few ∧ s ≠ .clash) ∧
  ∀ v H', StAt K H' p a ns → Kept [p] H H' → StepV H' rs ss v false → Q v H'
/-- what the displays rest on -/
structure OF (xa b : Addr) (x : Say) (ys : List V) (H : Hp) : Prop where
  x : H xa = some (.tup (x.ws.map V.str))
  b : H b = some (.tup ys)
theorem OF.stb {xa b : Addr} {x : Say} {ys : List V} : Stb (OF xa b x ys) := fun _ _ k h => ⟨k _ _ h.x (by simp), k _ _ h.b (by simp)⟩
theorem tup_m {M : List Addr} {H H' : Hp} (k : Kept M H H') (hM : ∀ b ∈ M, ∃ xs, H b = some (.lst xs)) : ∀ b ys, H b = some (.tup ys) → H' b = some (.tup ys) := fun b ys e => k b _ e fun hm => by
  obtain ⟨xs, h⟩ := hM b hm
  rw [e] at h
  cases h
theorem stAt_ob {K : PySem.W.Frag} {H : Hp} {p a : Addr} {ns : List Int} (S : StAt K H p a ns) : ∀ b ∈ [p], ∃ xs, H b = some (.lst xs) := fun b hb => by
  rw [List.mem_singleton.mp hb]
  obtain ⟨i, r, m, h, _⟩ := S
  exact ⟨_, h⟩
theorem StAt.k0 {K : PySem.W.Frag} {H H' : Hp} {p sc : Addr} {ns : List Int} (S : StAt K H p sc ns) (k : Kept [] H H') : StAt K H' p sc ns := by
  obtain ⟨i, r, m, h, h1, h2, h3⟩ := S
  refine ⟨i, r, m, k _ _ h (by simp), h1, h2, ?_⟩
  rcases h3 with (h3 | ⟨ob, h3⟩) | h3
  · exact .inl (.inl (k _ _ h3 (by simp)))
  · exact .inl (.inr ⟨ob, k _ _ h3 (by simp)⟩)
  · exact .inr h3
theorem Tk.kd {K : PySem.W.Frag} {H H' : Hp} {p sc : Addr} {ns : List Int} (S : StAt K H p sc ns) (S' : StAt K H' p sc ns) (k : Kept [p] H H') : Tk H H' := .rl (.kd k) S.ob S'.ob
theorem at_int {xs : List V} {z : Int} {m : Nat} (h0 : 0 ≤ z) (h1 : z < (m : Int)) (hm : xs.length = m) : ∃ v, atI xs z = some v ∧ v ∈ xs := by
  obtain ⟨i, rfl⟩ : ∃ i : Nat, z = (i : Int) := ⟨z.toNat, by omega⟩
  have hi : i < xs.length := by omega
  refine ⟨xs[i], ?_, List.getElem_mem hi⟩
  exact atI_nat (List.getElem?_eq_getElem hi)
theorem mkBs_lst {ts : TA} {σ : L2.St} {F : Hp → Prop} {G : Hp → V → Prop} {n : Nat} (h : MkBs ts σ F G n) (hn : n ≤ 100) (sG : ∀ v, Stb fun H => G H v) {H : Hp} {Q : VK} (hF : F H) (q : ∀ l vs H' H1, Kept [] H H1 → H1 l = none → Kept [] H H' → H' l = some (.lst vs) → vs.length = n → (∀ v ∈ vs, G H' v) → Q (.ref l) H') : tLst ts σ H Q :=
  h H _ hF fun vs H1 k1 l1 g1 => ⟨by rw [l1]; exact Nat.le_trans hn (by decide), fun l nl => q l vs _ H1 k1 nl (k1.upd nl) upd_same l1 fun v hv => sG v _ _ ((Kept.refl H1).upd nl) (g1 v hv)⟩
theorem Kept.one {p : Addr} {H H' : Hp} (k : Kept [] H H') : Kept [p] H H' := fun b o e _ => k b o e (by simp)
theorem fr_p {K : PySem.W.Frag} {H H' : Hp} {p sc t : Addr} {ns : List Int} (S : StAt K H p sc ns) (k : Kept [] H H') (n : H' t = none) : t ≠ p := fun z => by
  obtain ⟨xs, e⟩ := S.ob
  rw [z, k _ _ e (by simp)] at n
  cases n
theorem odd_1 {xa b : Addr} {x : Say} {ys : List V} {rs : List Rw} {ss : List Say} {n : Nat} {tl tn : TE} {σ : L2.St} (O : SayOk x) (few : ∀ r ∈ rs, r.few) (sfew : ∀ s ∈ ss, s.few ∧ s ≠ .clash) (h3 : σ[3]? = some (some (.int (n : Int)))) (h4 : σ[4]? = some (some (.ref xa))) (h5 : σ[5]? = some (some (.int (ss.length : Int)))) (hl : MkB tl σ (OF xa b x ys) (fun _ u => u = .int (rs.length : Int))) (hn : MkB tn σ (OF xa b x ys) (fun _ u => u = .int (-1))) :
    MkBs (tCons (tTup (tCons (tVar 4) (tCons tl (tCons (tTup tNil) tNil)))) (tCons (tTup (tCons (tVar 4) (tCons tn (tCons (tTup tNil) tNil)))) (tCons (tTup (tCons (tVar 4) (tCons (tC .non) (tCons (tTup tNil) tNil)))) (tCons (tTup (tCons (tVar 4) (tCons (tC (.bl true)) (tCons (tTup tNil) tNil)))) (tCons (tTup (tCons (tVar 4) (tCons (tVar 3) tNil))) (tCons (tLst (tCons (tVar 4) (tCons (tVar 3) (tCons (tTup tNil) tNil)))) (tCons (tC .non) (tCons (tC (.int 5)) (tCons (tTup (tCons (tVar 4) (tCons (tVar 3) (tCons (tC .non) tNil)))) tNil))))))))) σ (OF xa b x ys) (fun H v => StepV H rs ss v false) 9 :=
  (mkBs_cons OF.stb stb_step (mkB_3 (mkB_var (i := 4) h4) hl (mkB_tup (xs := []) (by decide)) OF.stb stb_eq stb_eq stb_tup (fun H a v1 v2 v3 hF ha g1 g2 g3 => by subst g1; subst g2; obtain ⟨t, rfl, ht⟩ := g3; exact bad_num ha hF.x O (.inl ⟨_, rfl⟩) (by simp [isNumL]))) (mkBs_cons OF.stb stb_step (mkB_3 (mkB_var (i := 4) h4) hn (mkB_tup (xs := []) (by decide)) OF.stb stb_eq stb_eq stb_tup (fun H a v1 v2 v3 hF ha g1 g2 g3 => by subst g1; subst g2; obtain ⟨t, rfl, ht⟩ := g3; exact bad_num ha hF.x O (.inl ⟨_, rfl⟩) (by simp [isNumL]))) (mkBs_cons OF.stb stb_step (mkB_3 (mkB_var (i := 4) h4) mkB_c (mkB_tup (xs := []) (by decide)) OF.stb stb_eq stb_eq stb_tup (fun H a v1 v2 v3 hF ha g1 g2 g3 => by subst g1; subst g2; obtain ⟨t, rfl, ht⟩ := g3; exact bad_num ha hF.x O (.inr (.inl rfl)) rfl)) (mkBs_cons OF.stb stb_step (mkB_3 (mkB_var (i := 4) h4) mkB_c (mkB_tup (xs := []) (by decide)) OF.stb stb_eq stb_eq stb_tup (fun H a v1 v2 v3 hF ha g1 g2 g3 => by subst g1; subst g2; obtain ⟨t, rfl, ht⟩ := g3; exact bad_num ha hF.x O (.inr (.inr (.inl ⟨_, rfl⟩))) rfl)) (mkBs_cons OF.stb stb_step (mkB_2 (mkB_var (i := 4) h4) (mkB_var (i := 3) h3) OF.stb (fun H a xs hF hl ha => .inr ⟨a, xs, rfl, ha, .inl ⟨by omega, by omega, rfl⟩⟩)) (mkBs_cons OF.stb stb_step (mkB_l3 (mkB_var (i := 4) h4) (mkB_var (i := 3) h3) (mkB_tup (xs := []) (by decide)) OF.stb (fun H a xs hF ha => .inl ⟨.inr (.inr (.inr ⟨a, xs, rfl, ha⟩)), rfl⟩)) (mkBs_cons OF.stb stb_step (mkB_imp (mkB_c (v := .non)) (fun H v hF e => by subst e; exact .inl ⟨.inl rfl, rfl⟩) OF.stb) (mkBs_cons OF.stb stb_step (mkB_imp (mkB_c (v := .int 5)) (fun H v hF e => by subst e; exact .inl ⟨.inr (.inr (.inl ⟨_, rfl⟩)), rfl⟩) OF.stb) (mkBs_cons OF.stb stb_step (mkB_3 (mkB_var (i := 4) h4) (mkB_var (i := 3) h3) mkB_c OF.stb stb_eq stb_eq stb_eq (fun H a v1 v2 v3 hF ha g1 g2 g3 => by subst g1; subst g2; subst g3; exact bad_aft ha hF.x O fun _ _ => .inl ⟨.inl rfl, rfl⟩)) mkBs_nil)))))))))
theorem odd_2 {xa b : Addr} {x : Say} {ys : List V} {rs : List Rw} {ss : List Say} {n : Nat} {tl tn : TE} {σ : L2.St} (O : SayOk x) (few : ∀ r ∈ rs, r.few) (sfew : ∀ s ∈ ss, s.few ∧ s ≠ .clash) (h3 : σ[3]? = some (some (.int (n : Int)))) (h4 : σ[4]? = some (some (.ref xa))) (h5 : σ[5]? = some (some (.int (ss.length : Int)))) (hl : MkB tl σ (OF xa b x ys) (fun _ u => u = .int (rs.length : Int))) (hn : MkB tn σ (OF xa b x ys) (fun _ u => u = .int (-1))) :
    MkBs (tCons (tTup (tCons (tTup (tCons (tC (.str "isnt")) (tCons (tC (.str "ann")) (tCons (tC (.str "cat")) tNil)))) (tCons (tVar 3) (tCons (tTup tNil) tNil)))) (tCons (tTup (tCons (tTup (tCons (tC (.str "is")) (tCons (tC (.str "ann")) tNil))) (tCons (tVar 3) (tCons (tTup tNil) tNil)))) (tCons (tTup (tCons (tVar 4) (tCons (tVar 3) (tCons (tTup (tCons (tVar 5) tNil)) tNil)))) (tCons (tTup (tCons (tVar 4) (tCons (tVar 3) (tCons (tTup (tCons tn tNil)) tNil)))) (tCons (tTup (tCons (tVar 4) (tCons (tVar 3) (tCons (tLst tNil) tNil)))) tNil))))) σ (OF xa b x ys) (fun H v => StepV H rs ss v false) 5 :=
  (mkBs_cons OF.stb stb_step (mkB_3 (mkB_tup (xs := (["isnt", "ann", "cat"] : List Str).map V.str) (by decide)) (mkB_var (i := 3) h3) (mkB_tup (xs := []) (by decide)) OF.stb stb_tup stb_eq stb_tup (fun H a v1 v2 v3 hF ha g1 g2 g3 => by obtain ⟨sa, rfl, hsa⟩ := g1; exact .inr ⟨a, _, rfl, ha, .inr ⟨_, _, _, rfl, .inl ⟨not_T (zs := ["isnt", "ann", "cat"]) hsa (by decide) (by decide +kernel) (by decide +kernel), rfl⟩⟩⟩)) (mkBs_cons OF.stb stb_step (mkB_3 (mkB_tup (xs := (["is", "ann"] : List Str).map V.str) (by decide)) (mkB_var (i := 3) h3) (mkB_tup (xs := []) (by decide)) OF.stb stb_tup stb_eq stb_tup (fun H a v1 v2 v3 hF ha g1 g2 g3 => by obtain ⟨sa, rfl, hsa⟩ := g1; exact .inr ⟨a, _, rfl, ha, .inr ⟨_, _, _, rfl, .inl ⟨not_T (zs := ["is", "ann"]) hsa (by decide) (by decide +kernel) (by decide +kernel), rfl⟩⟩⟩)) (mkBs_cons OF.stb stb_step (mkB_3 (mkB_var (i := 4) h4) (mkB_var (i := 3) h3) (mkB_t1 (mkB_var (i := 5) h5)) OF.stb stb_eq stb_eq stb_tup (fun H a v1 v2 v3 hF ha g1 g2 g3 => by subst g1; subst g2; obtain ⟨t, rfl, ht⟩ := g3; exact bad_oth ha hF.x O (os := [.int (ss.length : Int)]) ht (by simp) (by intro o ho; rw [List.mem_singleton.mp ho]; exact .inl ⟨_, rfl⟩) (by simp [isNumL]))) (mkBs_cons OF.stb stb_step (mkB_3 (mkB_var (i := 4) h4) (mkB_var (i := 3) h3) (mkB_t1 hn) OF.stb stb_eq stb_eq stb_tup (fun H a v1 v2 v3 hF ha g1 g2 g3 => by subst g1; subst g2; obtain ⟨t, rfl, ht⟩ := g3; exact bad_oth ha hF.x O (os := [.int (-1)]) ht (by simp) (by intro o ho; rw [List.mem_singleton.mp ho]; exact .inl ⟨_, rfl⟩) (by simp [isNumL]))) (mkBs_cons OF.stb stb_step (mkB_3 (mkB_var (i := 4) h4) (mkB_var (i := 3) h3) (mkB_lst (xs := []) (by decide)) OF.stb stb_eq stb_eq stb_lst (fun H a v1 v2 v3 hF ha g1 g2 g3 => by subst g1; subst g2; obtain ⟨t, rfl, ht⟩ := g3; exact bad_aft ha hF.x O fun _ _ => .inl ⟨.inr (.inr (.inr ⟨t, _, rfl, ht⟩)), rfl⟩)) mkBs_nil)))))
theorem odd_3 {xa b : Addr} {x : Say} {ys : List V} {rs : List Rw} {ss : List Say} {n : Nat} {tl tn : TE} {σ : L2.St} (O : SayOk x) (few : ∀ r ∈ rs, r.few) (sfew : ∀ s ∈ ss, s.few ∧ s ≠ .clash) (h3 : σ[3]? = some (some (.int (n : Int)))) (h4 : σ[4]? = some (some (.ref xa))) (h5 : σ[5]? = some (some (.int (ss.length : Int)))) (hl : MkB tl σ (OF xa b x ys) (fun _ u => u = .int (rs.length : Int))) (hn : MkB tn σ (OF xa b x ys) (fun _ u => u = .int (-1))) :
    MkBs (tCons (tTup (tCons (tVar 4) (tCons (tVar 3) (tCons (tTup (tCons (tC (.int 0)) (tCons (tC (.int 0)) (tCons (tC (.int 0)) tNil)))) tNil)))) (tCons (tTup (tCons (tVar 4) (tCons (tVar 3) (tCons (tTup (tCons (tC .non) tNil)) tNil)))) (tCons (tTup (tCons (tTup (tCons (tC (.str "is")) (tCons (tC (.str "zed")) (tCons (tC (.str "cat")) tNil)))) (tCons (tVar 3) (tCons (tTup tNil) tNil)))) (tCons (tTup (tCons (tTup (tCons (tC (.str "is")) (tCons (tC (.str "zed")) (tCons (tC (.str "cat")) tNil)))) (tCons (tVar 3) (tCons (tTup (tCons (tC (.int 0)) tNil)) tNil)))) tNil)))) σ (OF xa b x ys) (fun H v => StepV H rs ss v false) 4 :=
  (mkBs_cons OF.stb stb_step (mkB_3 (mkB_var (i := 4) h4) (mkB_var (i := 3) h3) (mkB_tup (xs := [.int 0, .int 0, .int 0]) (by decide)) OF.stb stb_eq stb_eq stb_tup (fun H a v1 v2 v3 hF ha g1 g2 g3 => by subst g1; subst g2; obtain ⟨t, rfl, ht⟩ := g3; exact bad_aft ha hF.x O fun _ _ => .inr ⟨t, _, rfl, ht, .inl ⟨by decide, by decide, rfl⟩⟩)) (mkBs_cons OF.stb stb_step (mkB_3 (mkB_var (i := 4) h4) (mkB_var (i := 3) h3) (mkB_tup (xs := [.non]) (by decide)) OF.stb stb_eq stb_eq stb_tup (fun H a v1 v2 v3 hF ha g1 g2 g3 => by subst g1; subst g2; obtain ⟨t, rfl, ht⟩ := g3; exact bad_oth ha hF.x O (os := [.non]) ht (by simp) (by intro o ho; rw [List.mem_singleton.mp ho]; exact .inr (.inl rfl)) (by rfl))) (mkBs_cons OF.stb stb_step (mkB_3 (mkB_tup (xs := (["is", "zed", "cat"] : List Str).map V.str) (by decide)) (mkB_var (i := 3) h3) (mkB_tup (xs := ([] : List Nat).map fun i : Nat => V.int (i : Int)) (by decide)) OF.stb stb_tup stb_eq stb_tup (fun H a v1 v2 v3 hF ha g1 g2 g3 => by obtain ⟨sa, rfl, hsa⟩ := g1; subst g2; obtain ⟨t, rfl, ht⟩ := g3; exact bad_by (x := zed) ha hsa zed_ok (ah := []) ht (by decide) fun q r e => zed_by (few _ (List.mem_of_getElem? e)) (fun s hs => by obtain ⟨i, hi, rfl⟩ := List.mem_map.mp hs; have := q i hi; rw [List.getD_eq_getElem?_getD, List.getElem?_eq_getElem this]; exact sfew _ (List.getElem_mem this)) (by simp))) (mkBs_cons OF.stb stb_step (mkB_3 (mkB_tup (xs := (["is", "zed", "cat"] : List Str).map V.str) (by decide)) (mkB_var (i := 3) h3) (mkB_tup (xs := ([0] : List Nat).map fun i : Nat => V.int (i : Int)) (by decide)) OF.stb stb_tup stb_eq stb_tup (fun H a v1 v2 v3 hF ha g1 g2 g3 => by obtain ⟨sa, rfl, hsa⟩ := g1; subst g2; obtain ⟨t, rfl, ht⟩ := g3; exact bad_by (x := zed) ha hsa zed_ok (ah := [0]) ht (by decide) fun q r e => zed_by (few _ (List.mem_of_getElem? e)) (fun s hs => by obtain ⟨i, hi, rfl⟩ := List.mem_map.mp hs; have := q i hi; rw [List.getD_eq_getElem?_getD, List.getElem?_eq_getElem this]; exact sfew _ (List.getElem_mem this)) (by simp))) mkBs_nil))))
theorem odd_4 {xa b : Addr} {x : Say} {ys : List V} {rs : List Rw} {ss : List Say} {n : Nat} {tl tn : TE} {σ : L2.St} (O : SayOk x) (few : ∀ r ∈ rs, r.few) (sfew : ∀ s ∈ ss, s.few ∧ s ≠ .clash) (h3 : σ[3]? = some (some (.int (n : Int)))) (h4 : σ[4]? = some (some (.ref xa))) (h5 : σ[5]? = some (some (.int (ss.length : Int)))) (hl : MkB tl σ (OF xa b x ys) (fun _ u => u = .int (rs.length : Int))) (hn : MkB tn σ (OF xa b x ys) (fun _ u => u = .int (-1))) :
    MkBs (tCons (tTup (tCons (tTup (tCons (tC (.str "is")) (tCons (tC (.str "zed")) (tCons (tC (.str "cat")) tNil)))) (tCons (tVar 3) (tCons (tTup (tCons (tC (.int 0)) (tCons (tC (.int 0)) tNil))) tNil)))) (tCons (tTup (tCons (tVar 4) (tCons (tVar 3) (tCons (tTup (tCons (tC (.bl false)) tNil)) tNil)))) tNil)) σ (OF xa b x ys) (fun H v => StepV H rs ss v false) 2 :=
  (mkBs_cons OF.stb stb_step (mkB_3 (mkB_tup (xs := (["is", "zed", "cat"] : List Str).map V.str) (by decide)) (mkB_var (i := 3) h3) (mkB_tup (xs := ([0, 0] : List Nat).map fun i : Nat => V.int (i : Int)) (by decide)) OF.stb stb_tup stb_eq stb_tup (fun H a v1 v2 v3 hF ha g1 g2 g3 => by obtain ⟨sa, rfl, hsa⟩ := g1; subst g2; obtain ⟨t, rfl, ht⟩ := g3; exact bad_by (x := zed) ha hsa zed_ok (ah := [0, 0]) ht (by decide) fun q r e => zed_by (few _ (List.mem_of_getElem? e)) (fun s hs => by obtain ⟨i, hi, rfl⟩ := List.mem_map.mp hs; have := q i hi; rw [List.getD_eq_getElem?_getD, List.getElem?_eq_getElem this]; exact sfew _ (List.getElem_mem this)) (by simp))) (mkBs_cons OF.stb stb_step (mkB_3 (mkB_var (i := 4) h4) (mkB_var (i := 3) h3) (mkB_tup (xs := [.bl false]) (by decide)) OF.stb stb_eq stb_eq stb_tup (fun H a v1 v2 v3 hF ha g1 g2 g3 => by subst g1; subst g2; obtain ⟨t, rfl, ht⟩ := g3; exact bad_oth ha hF.x O (os := [.bl false]) ht (by simp) (by intro o ho; rw [List.mem_singleton.mp ho]; exact .inr (.inr (.inl ⟨_, rfl⟩))) (by rfl))) mkBs_nil))
section
variable {P : Program} {w : World} {K : PySem.W.Frag} {mg : Str → Option Value} {base : Heap} {f f3 f4 : Addr} {fd fd3 fd4 : FuncData}
theorem ok_loddstep (F : FnP K "_law_odd_step" lOddStep f fd) (B : Bl mg) (cTaken : Own P w K mg base "_law_taken" 1 f3 fd3 ["_law_row_here", "_law_many"] (spTaken K)) (cSay : Own P w K mg base "_law_saying" 2 f4 fd4 ["_law_row_here"] (spLSay K)) :
    FnOk P w K mg base CX0 3 f fd ["_law_row_here", "_law_rows", "_law_ahead"] (spOddS K) := by
  refine F.ok scOdd (fun vs H Q E h => ?_) (fun cdv A outer s H vs Q E hr h => ?_)
  · obtain ⟨p, a, b, l, ns, rs, us, ss, rfl, _⟩ := h
    rfl
  · obtain ⟨p, a, b, l, ns, rs, us, ss, rfl, hlp, S, tx, few, hlr, hl, hus, hls, sfew, k⟩ := h
    refine ⟨_, PSs.nox (Evl.pss_cut (ps_par (by rfl) scOdd.nd (i := 3) (j := 4) rfl rfl (by decide) rfl rfl (pa_cons (pe_call cTaken.ok (hr.mono (by decide)) (by rfl) cTaken.g cTaken.kp cTaken.b .nil pass0 (pa_cons (pv 0) (pa_cons (pe_op op_add (pe_callB call_len_seq (by rfl) B.len_ (by decide +kernel) (pa_cons (pv 1) pa_nil)) pe_int) pa_nil))) (pa_cons (pe_call cSay.ok hr (by rfl) cSay.g cSay.kp cSay.b .nil pass0 (pa_cons (pv 0) pa_nil)) pa_nil)) (by rfl))
      (pss_cons (ps_set (i := 5) scOdd.nd rfl (.inl rfl) (pe_callB call_len_seq (by rfl) B.len_ (by decide +kernel) (pa_cons (pv 2) pa_nil)))
      (Evl.pss_cut (ps_set (i := 6) scOdd.nd rfl (.inl rfl) (pe_lst (pa_cons (pe_tup (pa_cons (pv 4) (pa_cons (pe_callB call_len_seq (by rfl) B.len_ (by decide +kernel) (pa_cons (pv 1) pa_nil)) (pa_cons (pe_tup pa_nil) pa_nil)))) (pa_cons (pe_tup (pa_cons (pv 4) (pa_cons (pe_op op_sub pe_int pe_int) (pa_cons (pe_tup pa_nil) pa_nil)))) (pa_cons (pe_tup (pa_cons (pv 4) (pa_cons pe_non (pa_cons (pe_tup pa_nil) pa_nil)))) (pa_cons (pe_tup (pa_cons (pv 4) (pa_cons pe_bl (pa_cons (pe_tup pa_nil) pa_nil)))) (pa_cons (pe_tup (pa_cons (pv 4) (pa_cons (pv 3) pa_nil))) (pa_cons (pe_lst (pa_cons (pv 4) (pa_cons (pv 3) (pa_cons (pe_tup pa_nil) pa_nil)))) (pa_cons pe_non (pa_cons pe_int (pa_cons (pe_tup (pa_cons (pv 4) (pa_cons (pv 3) (pa_cons pe_non pa_nil)))) pa_nil)))))))))))
      (Evl.pss_cut (ps_set (i := 6) scOdd.nd rfl (.inl rfl) (pe_op op_cat (pv 6) (pe_lst (pa_cons (pe_tup (pa_cons (pe_tup (pa_cons pe_str (pa_cons pe_str (pa_cons pe_str pa_nil)))) (pa_cons (pv 3) (pa_cons (pe_tup pa_nil) pa_nil)))) (pa_cons (pe_tup (pa_cons (pe_tup (pa_cons pe_str (pa_cons pe_str pa_nil))) (pa_cons (pv 3) (pa_cons (pe_tup pa_nil) pa_nil)))) (pa_cons (pe_tup (pa_cons (pv 4) (pa_cons (pv 3) (pa_cons (pe_tup (pa_cons (pv 5) pa_nil)) pa_nil)))) (pa_cons (pe_tup (pa_cons (pv 4) (pa_cons (pv 3) (pa_cons (pe_tup (pa_cons (pe_op op_sub pe_int pe_int) pa_nil)) pa_nil)))) (pa_cons (pe_tup (pa_cons (pv 4) (pa_cons (pv 3) (pa_cons (pe_lst pa_nil) pa_nil)))) pa_nil))))))))
      (Evl.pss_cut (ps_set (i := 6) scOdd.nd rfl (.inl rfl) (pe_op op_cat (pv 6) (pe_lst (pa_cons (pe_tup (pa_cons (pv 4) (pa_cons (pv 3) (pa_cons (pe_tup (pa_cons pe_int (pa_cons pe_int (pa_cons pe_int pa_nil)))) pa_nil)))) (pa_cons (pe_tup (pa_cons (pv 4) (pa_cons (pv 3) (pa_cons (pe_tup (pa_cons pe_non pa_nil)) pa_nil)))) (pa_cons (pe_tup (pa_cons (pe_tup (pa_cons pe_str (pa_cons pe_str (pa_cons pe_str pa_nil)))) (pa_cons (pv 3) (pa_cons (pe_tup pa_nil) pa_nil)))) (pa_cons (pe_tup (pa_cons (pe_tup (pa_cons pe_str (pa_cons pe_str (pa_cons pe_str pa_nil)))) (pa_cons (pv 3) (pa_cons (pe_tup (pa_cons pe_int pa_nil)) pa_nil)))) pa_nil)))))))
      (Evl.pss_cut (ps_set (i := 6) scOdd.nd rfl (.inl rfl) (pe_op op_cat (pv 6) (pe_lst (pa_cons (pe_tup (pa_cons (pe_tup (pa_cons pe_str (pa_cons pe_str (pa_cons pe_str pa_nil)))) (pa_cons (pv 3) (pa_cons (pe_tup (pa_cons pe_int (pa_cons pe_int pa_nil))) pa_nil)))) (pa_cons (pe_tup (pa_cons (pv 4) (pa_cons (pv 3) (pa_cons (pe_tup (pa_cons pe_bl pa_nil)) pa_nil)))) pa_nil)))))
      (pss_one (ps_ret (pe_ix (show IxR _ (rIxL K) from ix_list) (pv 6) (pe_call cTaken.ok (hr.mono (by decide)) (by rfl) cTaken.g cTaken.kp cTaken.b .nil pass0 (pa_cons (pv 0) (pa_cons pe_int pa_nil))) (fun _ _ => rfl)))))))))), ?_⟩
    obtain ⟨ps, hb, hps⟩ := id tx
    have lps : (ps.map V.ref).length = rs.length := by rw [List.length_map]; exact hps.length
    refine ⟨fun σ H' => ∃ (n : Nat) (xa : Addr) (x : Say), σ = [some (.ref p), some (.ref b), some (.ref l), some (.int (n : Int)), some (.ref xa), none, none] ∧ StAt K H' p a ns ∧ Kept [p] H H' ∧ x.few ∧ x ≠ .clash ∧ H' xa = some (.tup (x.ws.map V.str)), ?_, ?_⟩
    · refine ⟨_, rfl, _, rfl, b, ps.map V.ref, rfl, .inr (.inl (.of hb)), _, _, rfl, rfl, p, a, ns, _, rfl, S, (by omega), (by omega), fun z H1 z0 z1 S1 k1 => ?_⟩
      refine ⟨_, rfl, p, a, ns, rfl, S1, fun v x H2 f2 n2 S2 k2 t2 => ?_⟩
      obtain ⟨xa, rfl, hx⟩ := t2
      refine ⟨_, _, rfl, z.toNat, xa, x, ?_, S2, k1.trans k2, f2, n2, hx⟩
      rw [Int.toNat_of_nonneg z0]; rfl
    rintro σ H1 ⟨n, xa, x, rfl, S1, k1, fx, nx, hx⟩

    have O := few_say fx nx
    have hb1 := tup_m k1 (stAt_ob S) _ _ hb
    have F1 : OF xa b x (ps.map V.ref) H1 := ⟨hx, hb1⟩
    have hl1 : H1 l = some (.lst us) := k1 _ _ hl (by simpa using hlp)
    refine ⟨_, rfl, l, us, rfl, .inl (SqL.of hl1), ?_⟩
    rw [hus]
    have hlB : ∀ {σ : L2.St} {te : TE}, (∀ (H : Hp) (Q : VK), OF xa b x (ps.map V.ref) H → Q (.int ((ps.map V.ref).length : Int)) H → te σ H Q) → MkB te σ (OF xa b x (ps.map V.ref)) (fun _ u => u = .int (rs.length : Int)) := fun h => by
      rw [← lps]
      exact mkB_val h
    refine ⟨fun σ H' => ∃ ol os, σ = [some (.ref p), some (.ref b), some (.ref l), some (.int (n : Int)), some (.ref xa), some (.int (ss.length : Int)), some (.ref ol)] ∧ StAt K H' p a ns ∧ Kept [p] H H' ∧ ol ≠ p ∧ OF xa b x (ps.map V.ref) H' ∧ H' ol = some (.lst os) ∧ os.length = 9 ∧ (∀ v ∈ os, StepV H' rs ss v false), ?_, ?_⟩
    · unfold tAsg
      refine mkBs_lst (odd_1 O few sfew rfl rfl rfl (hlB fun H Q hF q => ⟨_, rfl, b, ps.map V.ref, rfl, .inr (.inl (.of hF.b)), q⟩) (mkB_val (v := .int (-1)) fun H Q _ q => ⟨0, 1, rfl, rfl, q⟩)) (by decide) stb_step F1 fun ol us2 H2 H3 k3 n3 k2 e2 l2 g2 => ?_
      exact ⟨ol, us2, rfl, S1.k0 k2, k1.trans k2.one, fr_p S1 k3 n3, OF.stb _ _ k2 F1, e2, l2, g2⟩
    clear hx F1 hl1 hb1 S1 k1
    rintro σ H1 ⟨ol, os, rfl, S1, k1, nop, F1, eol, los, gos⟩
    refine ⟨fun σ H' => ∃ ol os, σ = [some (.ref p), some (.ref b), some (.ref l), some (.int (n : Int)), some (.ref xa), some (.int (ss.length : Int)), some (.ref ol)] ∧ StAt K H' p a ns ∧ Kept [p] H H' ∧ ol ≠ p ∧ OF xa b x (ps.map V.ref) H' ∧ H' ol = some (.lst os) ∧ os.length = 14 ∧ (∀ v ∈ os, StepV H' rs ss v false), ?_, ?_⟩
    · refine ⟨_, rfl, ?_⟩
      refine mkBs_lst (odd_2 O few sfew rfl rfl rfl (mkB_c (v := .int (rs.length : Int))) (mkB_val (v := .int (-1)) fun H Q _ q => ⟨0, 1, rfl, rfl, q⟩)) (by decide) stb_step F1 fun ol2 us2 H2 H3 k3 n3 k2 e2 l2 g2 => ?_
      refine ⟨ol, ol2, os, us2, rfl, rfl, k2 _ _ eol (by simp), e2, by rw [los, l2]; decide, fun ol3 nol3 => ?_⟩
      have k4 := k2.upd (o := .lst (os ++ us2)) nol3
      have ku := (Kept.refl (M := []) H2).upd (o := .lst (os ++ us2)) nol3
      refine ⟨ol3, os ++ us2, rfl, S1.k0 k4, k1.trans k4.one, fr_p S1 k2 nol3, OF.stb _ _ k4 F1, upd_same, by rw [List.length_append, los, l2], fun v hv => ?_⟩
      rcases List.mem_append.mp hv with h | h
      · exact stb_step _ _ _ k4 (gos v h)
      · exact stb_step _ _ _ ku (g2 v h)
    clear F1 S1 k1 eol los gos nop os ol
    rintro σ H1 ⟨ol, os, rfl, S1, k1, nop, F1, eol, los, gos⟩
    refine ⟨fun σ H' => ∃ ol os, σ = [some (.ref p), some (.ref b), some (.ref l), some (.int (n : Int)), some (.ref xa), some (.int (ss.length : Int)), some (.ref ol)] ∧ StAt K H' p a ns ∧ Kept [p] H H' ∧ ol ≠ p ∧ OF xa b x (ps.map V.ref) H' ∧ H' ol = some (.lst os) ∧ os.length = 18 ∧ (∀ v ∈ os, StepV H' rs ss v false), ?_, ?_⟩
    · refine ⟨_, rfl, ?_⟩
      refine mkBs_lst (odd_3 O few sfew rfl rfl rfl (mkB_c (v := .int (rs.length : Int))) (mkB_c (v := .int (-1)))) (by decide) stb_step F1 fun ol2 us2 H2 H3 k3 n3 k2 e2 l2 g2 => ?_
      refine ⟨ol, ol2, os, us2, rfl, rfl, k2 _ _ eol (by simp), e2, by rw [los, l2]; decide, fun ol3 nol3 => ?_⟩
      have k4 := k2.upd (o := .lst (os ++ us2)) nol3
      have ku := (Kept.refl (M := []) H2).upd (o := .lst (os ++ us2)) nol3
      refine ⟨ol3, os ++ us2, rfl, S1.k0 k4, k1.trans k4.one, fr_p S1 k2 nol3, OF.stb _ _ k4 F1, upd_same, by rw [List.length_append, los, l2], fun v hv => ?_⟩
      rcases List.mem_append.mp hv with h | h
      · exact stb_step _ _ _ k4 (gos v h)
      · exact stb_step _ _ _ ku (g2 v h)
    clear F1 S1 k1 eol los gos nop os ol
    rintro σ H1 ⟨ol, os, rfl, S1, k1, nop, F1, eol, los, gos⟩
    refine ⟨fun σ H' => ∃ ol os, σ = [some (.ref p), some (.ref b), some (.ref l), some (.int (n : Int)), some (.ref xa), some (.int (ss.length : Int)), some (.ref ol)] ∧ StAt K H' p a ns ∧ Kept [p] H H' ∧ ol ≠ p ∧ OF xa b x (ps.map V.ref) H' ∧ H' ol = some (.lst os) ∧ os.length = 20 ∧ (∀ v ∈ os, StepV H' rs ss v false), ?_, ?_⟩
    · refine ⟨_, rfl, ?_⟩
      refine mkBs_lst (odd_4 O few sfew rfl rfl rfl (mkB_c (v := .int (rs.length : Int))) (mkB_c (v := .int (-1)))) (by decide) stb_step F1 fun ol2 us2 H2 H3 k3 n3 k2 e2 l2 g2 => ?_
      refine ⟨ol, ol2, os, us2, rfl, rfl, k2 _ _ eol (by simp), e2, by rw [los, l2]; decide, fun ol3 nol3 => ?_⟩
      have k4 := k2.upd (o := .lst (os ++ us2)) nol3
      have ku := (Kept.refl (M := []) H2).upd (o := .lst (os ++ us2)) nol3
      refine ⟨ol3, os ++ us2, rfl, S1.k0 k4, k1.trans k4.one, fr_p S1 k2 nol3, OF.stb _ _ k4 F1, upd_same, by rw [List.length_append, los, l2], fun v hv => ?_⟩
      rcases List.mem_append.mp hv with h | h
      · exact stb_step _ _ _ k4 (gos v h)
      · exact stb_step _ _ _ ku (g2 v h)
    clear F1 S1 k1 eol los gos nop os ol
    rintro σ H1 ⟨ol, os, rfl, S1, k1, nop, F1, eol, los, gos⟩
    refine ⟨_, rfl, _, rfl, p, a, ns, 20, rfl, S1, by omega, by omega, fun z H2 z0 z1 S2 k2 => ?_⟩
    obtain ⟨v, hv, hm⟩ := at_int z0 z1 los
    exact ⟨ol, os, _, v, rfl, rfl, SqL.of (k2 _ _ eol (by simpa using nop)), hv, k v H2 S2 (k1.trans k2) ((gos v hm).tk (.kd S1 S2 k2))⟩
end
end Ah
end
section
set_option Elab.async false
set_option linter.all false
set_option maxRecDepth 100000
set_option maxHeartbeats 4000000
namespace Ah
open PySem PySem.Spec PyProof.Rows L2 LamX
open GxR (TabG)
theorem slA_v {K : PySem.W.Frag} {H : Hp} {a : Addr} {xs : List V} {lo hi : Option Int} {Q : VK} (h : H a = some (.tup xs)) (k : ∀ q H', Kept [] H H' → H' q = some (.tup (cutV xs lo hi)) → Q (.ref q) H') : rSlA K (.ref a) lo hi H Q := by
  refine ⟨a, xs, rfl, .inl (.of h), fun ⟨w1, w2⟩ => ?_, fun _ p np => k p _ ((Kept.refl H).upd np) upd_same⟩
  have e : cutV xs lo hi = xs := by
    unfold cutV
    rw [w1, w2, List.drop_zero, Nat.sub_zero, List.take_of_length_le (Nat.le_refl _)]
  refine k a H (Kept.refl H) ?_
  rw [e]
  exact h
theorem catA_v {K : PySem.W.Frag} {H : Hp} {q1 q2 : Addr} {xs ys : List V} {Q : VK} (h1 : H q1 = some (.tup xs)) (h2 : H q2 = some (.tup ys)) (hl : xs.length + ys.length ≤ 1000) (k : ∀ q' H', Kept [] H H' → H' q' = some (.tup (xs ++ ys)) → Q (.ref q') H') : rCatA K (.ref q1) (.ref q2) H Q := by
  refine ⟨q1, q2, xs, ys, rfl, rfl, .inl (.of h1), .inl (.of h2), Nat.le_trans hl (by decide), fun e => ?_, fun e1 e2 => ?_, fun e1 e2 p np => k p _ ((Kept.refl H).upd np) upd_same⟩
  · refine k q2 H (Kept.refl H) ?_
    rw [e, List.nil_append]
    exact h2
  · refine k q1 H (Kept.refl H) ?_
    rw [e2, List.append_nil]
    exact h1
theorem cutV_take {xs : List V} {n : Nat} (h : n ≤ xs.length) : cutV xs none (some (n : Int)) = xs.take n := by
  unfold cutV
  rw [HT.sIx_none, HT.sIx_nat]
  simp [Nat.min_eq_left h]
theorem cutV_drop {xs : List V} {n : Nat} (h : n ≤ xs.length) : cutV xs (some (n : Int)) none = xs.drop n := by
  unfold cutV
  rw [HT.sIx_none, HT.sIx_nat, Nat.min_eq_left h]
  rw [List.take_of_length_le]
  rw [List.length_drop]
  exact Nat.le_refl _

theorem StAt.put {K : PySem.W.Frag} {H : Hp} {p sc l : Addr} {ns : List Int} (S : StAt K H p sc ns) {os xs : List V} (h : H l = some (.lst os)) (n : ∃ r, V.ref r ∈ os) (hp : l ≠ p) : StAt K (L2.upd H l (.lst xs)) p sc ns := by
  obtain ⟨i, r, m, e, h1, h2, h3⟩ := S
  refine ⟨i, r, m, (upd_ne (Ne.symm hp)).trans e, h1, h2, seqL_upd h h3 fun z => ?_⟩
  obtain ⟨q, hq⟩ := n
  rw [z] at hq
  obtain ⟨a, _, q⟩ := List.mem_map.mp hq
  cases q
/-! ### a comprehension whose elements keep all -/
theorem rd_comp {J : It} {n : Nat} {Gd : Hp → Prop} {Y : Nat → Hp → V → Hp → Prop} (w : Walk J n Gd Y) {g : TG} {tt : TT} {te : TE} {own : List Nat} {σ : L2.St} {H1 : Hp} {D : Addr} {Qd : Hp → Prop} {G : Hp → V → Prop} (sG : ∀ v H H', Tk H H' → G H v → G H' v) (hn : n ≤ 1000)
    (hY : ∀ i H x H', Y i H x H' → H' = H) (hG : ∀ H, Kept [] H1 H → Gd H) (nD : H1 D = none)
    (hs : ∀ i x Ha, i < n → Y i Ha x Ha → Kept [] H1 Ha → ∀ (R : VK) (R0 : Hp → Prop), (∀ y H4, Kept [] Ha H4 → G H4 y → R y H4) → (∀ H3, Kept [] Ha H3 → R0 H3) → g x (wipe σ own) Ha fun σ2 H2 => wipe σ2 own = wipe σ own ∧ tt σ2 H2 fun b H3 => if b = true then te σ2 H3 R else R0 H3)
    (hd : ∀ Ha acc, Kept [] H1 Ha → Ha D = some (.lst acc) → acc.length ≤ n → (∀ y ∈ acc, G Ha y) → Qd Ha) :
    ∃ W : Nat → Nat → Hp → Prop, (∃ m, W 0 m (upd H1 D (.lst []))) ∧ ∀ i m H, W i m H →
      (J.stop i H ∧ Qd H) ∨ (J.go i H ∧ ∃ Nx : Hp → Prop, (∀ H', Nx H' → ∃ m', m' < m ∧ W (i + 1) m' H') ∧ ∀ x H', J.yld i H x H' → g x (wipe σ own) H' fun σ2 H2 => wipe σ2 own = wipe σ own ∧ tt σ2 H2 fun b H3 =>
        if b = true then te σ2 H3 fun y H4 => ∃ acc, H4 D = some (.lst acc) ∧ acc.length < sizeLine ∧ Nx (upd H4 D (.lst (acc ++ [y]))) else Nx H3) := by
  refine lc_it w (fun i H => Kept [] H1 H ∧ ∃ acc, H D = some (.lst acc) ∧ acc.length ≤ i ∧ ∀ y ∈ acc, G H y) ⟨(Kept.refl H1).upd nD, [], upd_same, Nat.le_refl _, by simp⟩ (fun i H _ pv => hG H pv.1) ?_ (fun H ⟨k, acc, e, l, h⟩ => hd H acc k e l h)
  rintro i x Ha H' hi ⟨k, acc, e, hl, ha⟩ y
  obtain rfl := hY _ _ _ _ y
  refine hs i x H' hi y k _ _ (fun v H4 k4 g4 => ?_) (fun H3 k3 => ⟨k.trans k3, acc, k3 _ _ e (by simp), Nat.le_succ_of_le hl, fun u hu => sG u _ _ (.k0 k3) (ha u hu)⟩)
  have e4 := k4 _ _ e (by simp)
  refine ⟨acc, e4, Nat.lt_of_lt_of_le (show acc.length < 2000 by omega) (by decide), ?_, acc ++ [v], upd_same, by rw [List.length_append]; show acc.length + 1 ≤ i + 1; omega, fun u hu => ?_⟩
  · exact Kept.far (Kept.refl H1) nD (k.trans k4)
  · have t : Tk H4 (upd H4 D (.lst (acc ++ [v]))) := .put e4
    rcases List.mem_append.mp hu with h | h
    · exact sG u _ _ ((Tk.k0 k4).trans t) (ha u h)
    · rw [List.mem_singleton.mp h]
      exact sG v _ _ t g4
/-! ### steps as data -/
def StepD (H : Hp) (v : V) (x : Say) (n : Nat) (os : List Int) : Prop := ∃ a sa t, v = .ref a ∧ H a = some (.tup [.ref sa, .int (n : Int), .ref t]) ∧ H sa = some (.tup (x.ws.map V.str)) ∧ H t = some (.tup (os.map V.int)) ∧ os.length ≤ 2
theorem StepD.tk {H H' : Hp} (k : Tk H H') {v : V} {x : Say} {n : Nat} {os : List Int} (h : StepD H v x n os) : StepD H' v x n os := let ⟨a, sa, t, e, h1, h2, h3, h4⟩ := h; ⟨a, sa, t, e, k.tup _ _ h1, k.tup _ _ h2, k.tup _ _ h3, h4⟩
/-- a step of the law's: whether it can be -/
def GS (rs : List Rw) (ss : List Say) (b : Bool) (H : Hp) (v : V) : Prop := ∃ x n os, StepD H v x n os ∧ SayOk x ∧ (b = true → x.few ∧ n < rs.length) ∧ StepV H rs ss v b
theorem GS.tk {rs : List Rw} {ss : List Say} {b : Bool} (v : V) (H H' : Hp) (k : Tk H H') (h : GS rs ss b H v) : GS rs ss b H' v := let ⟨x, n, os, h1, h2, h3, h4⟩ := h; ⟨x, n, os, h1.tk k, h2, h3, h4.tk k⟩
theorem GS.isref {rs : List Rw} {ss : List Say} {b : Bool} {v : V} {H : Hp} (h : GS rs ss b H v) : ∃ r, v = .ref r := let ⟨_, _, _, ⟨a, _, _, e, _⟩, _⟩ := h; ⟨a, e⟩
/-- a step as data -/
def DS (H : Hp) (v : V) : Prop := ∃ x n os, StepD H v x n os ∧ okW x.ws
theorem GS.ds {rs : List Rw} {ss : List Say} {b : Bool} {v : V} {H : Hp} (h : GS rs ss b H v) : DS H v := let ⟨x, n, os, d, ok, _⟩ := h; ⟨x, n, os, d, ok.ok⟩
theorem DS.tk {H H' : Hp} {v : V} (k : Tk H H') (h : DS H v) : DS H' v := let ⟨x, n, os, d, ok⟩ := h; ⟨x, n, os, d.tk k, ok⟩
def stepD (x : Say) (n : Nat) (os : List Int) : PyData := .tuple [sayD x, .int (n : Int), .tuple (os.map PyData.int)]
section
variable {K : PySem.W.Frag} {H : Hp}
theorem dpI : ∀ os : List Int, DpAll K H (os.map V.int) (os.map PyData.int)
  | [] => .nil
  | i :: os => .cons (.int i) (dpI os)
theorem layI : ∀ os : List Int, PyData.canLayAll0 (os.map PyData.int) = true ∧ PyData.depthAll (os.map PyData.int) = 0
  | [] => ⟨by simp [PyData.canLayAll0], by simp [PyData.depthAll]⟩
  | i :: os => by
    obtain ⟨a, b⟩ := layI os
    rw [List.map_cons, PyData.canLayAll0, PyData.depthAll, a, b]
    exact ⟨by simp [PyData.canLay0], by simp [PyData.depth]⟩
theorem StepD.dp {v : V} {x : Say} {n : Nat} {os : List Int} (h : StepD H v x n os) : Dp K H v (stepD x n os) := by
  obtain ⟨a, sa, t, rfl, h1, h2, h3, _⟩ := h
  exact .tup (.inl (.of h1)) (.cons (.tup (.inl (.of h2)) (dpStrs _)) (.cons (.int _) (.cons (.tup (.inl (.of h3)) (dpI os)) .nil)))
theorem lay_step {x : Say} {n : Nat} {os : List Int} (h : okW x.ws) : PyData.canLay0 (stepD x n os) = true ∧ PyData.depth (stepD x n os) ≤ 2 := by
  obtain ⟨a, b⟩ := can_say h
  obtain ⟨c, d⟩ := layI os
  unfold stepD
  rw [PyData.canLay0, PyData.canLayAll0, PyData.canLayAll0, PyData.canLayAll0, PyData.canLayAll0, a, PyData.canLay0, PyData.canLay0, c, PyData.depth, PyData.depthAll, PyData.depthAll, PyData.depthAll, PyData.depthAll, PyData.depth, PyData.depth, d]
  refine ⟨rfl, ?_⟩
  have q : (sayD x).depth ≤ 1 := b
  omega
theorem dp_steps : ∀ {vs : List V}, (∀ v ∈ vs, DS H v) → ∃ ds, DpAll K H vs ds ∧ ds.length = vs.length ∧ PyData.canLayAll0 ds = true ∧ PyData.depthAll ds ≤ 2
  | [], _ => ⟨[], .nil, rfl, by simp [PyData.canLayAll0], by simp [PyData.depthAll]⟩
  | v :: vs, h => by
    obtain ⟨ds, h1, h2, h3, h4⟩ := dp_steps (vs := vs) fun u hu => h u (List.mem_cons_of_mem _ hu)
    obtain ⟨x, n, os, d, ok⟩ := h v List.mem_cons_self
    obtain ⟨a, b⟩ := lay_step (n := n) (os := os) ok
    refine ⟨stepD x n os :: ds, .cons d.dp h1, by rw [List.length_cons, List.length_cons, h2], ?_, ?_⟩
    · rw [PyData.canLayAll0, a, h3]; rfl
    · rw [PyData.depthAll]; omega
/-- l != [] -/
theorem rd_neNil {l e : Addr} {vs : List V} {Q : VK} (hl : H l = some (.lst vs)) (he : H e = some (.lst [])) (h : ∀ v ∈ vs, DS H v) (q : Q (.bl (!vs.isEmpty)) H) : rNeD K (.ref l) (.ref e) H Q := by
  obtain ⟨ds, h1, h2, h3, h4⟩ := dp_steps (K := K) h
  refine ⟨.list ds, .list [], .lst (.inl (.of hl)) h1, .lst (.inl (.of he)) .nil, ?_, by decide +kernel, ?_⟩
  · unfold SeqAt.shaped
    rw [PyData.canLay0, h3, PyData.depth, Bool.true_and]
    exact decide_eq_true (by omega)
  · have e : PyData.eqv (.list ds) (.list []) = vs.isEmpty := by
      cases ds with
      | nil =>
        cases vs with
        | nil => simp [PyData.eqv, PyData.eqvAll]
        | cons v vs => simp at h2
      | cons d ds =>
        cases vs with
        | nil => simp at h2
        | cons v vs => simp [PyData.eqv, PyData.eqvAll]
    rw [e]
    exact q
end
end Ah
end
section
set_option Elab.async false
set_option linter.all false
set_option maxRecDepth 100000
set_option maxHeartbeats 4000000
namespace Ah
open PySem PySem.Spec PyProof.Rows L2 LamX
open GxR (TabG)
def rLenK (K : PySem.W.Frag) : List V → Hp → VK → Prop := fun xs H Q => ∃ p ys, xs = [V.ref p] ∧ (SqL K H p ys ∨ SqT K H p ys) ∧ Q (.int (ys.length : Int)) H
abbrev nearN : List Str := ["_law_row_here", "_law_rows", "_law_steps", "_law_some", "_law_pairs", "_law_n", "_law_at", "_law_other", "_law_good", "_law_both_here", "_law_x"]
theorem scNear : FnScope nearN ["_law_row_here", "_law_rows", "_law_steps"] (defScope lNearly) := ⟨rfl, rfl, rfl, by decide +kernel, rfl, by decide +kernel, by decide +kernel⟩
def spNear (K : PySem.W.Frag) : Sp := fun vs H Q _ => ∃ (p a b l : Addr) (ns : List Int) (rs : List Rw) (us : List V) (ss : List Say), vs = [.ref p, .ref b, .ref l] ∧ l ≠ p ∧ StAt K H p a ns ∧ TextAt H b rs ∧ (∀ r ∈ rs, r.few) ∧ rs.length ≤ 10 ∧ H l = some (.lst us) ∧ ss.length = us.length ∧ us.length ≤ 10 ∧ Ahead H us ss ∧ (∀ s ∈ ss, s.few ∧ s ≠ .clash) ∧
  ∀ v H', StAt K H' p a ns → Kept [p] H H' → StepV H' rs ss v false → Q v H'
/-- the text and the steps -/
structure Stat (b l : Addr) (ys us : List V) (rs : List Rw) (ss : List Say) (H : Hp) : Prop where
  hb : H b = some (.tup ys)
  yl : ys.length = rs.length
  row : ∀ n, n < rs.length → ∃ ra r, ys[n]? = some (.ref ra) ∧ rs[n]? = some r ∧ H ra = some (.tup (r.ws.map V.str))
  hl : H l = some (.lst us)
  ul : us.length = ss.length
  stp : ∀ n, n < ss.length → ∃ a sa nv av s, us[n]? = some (.ref a) ∧ ss[n]? = some s ∧ H a = some (.tup [.ref sa, nv, av]) ∧ H sa = some (.tup (s.ws.map V.str)) ∧ okW s.ws
theorem Stat.mv {b l : Addr} {ys us : List V} {rs : List Rw} {ss : List Say} {H H' : Hp} (X : Stat b l ys us rs ss H) (t : Tk H H') (hl : H' l = some (.lst us)) : Stat b l ys us rs ss H' :=
  ⟨t.tup _ _ X.hb, X.yl, fun n h => let ⟨ra, r, e1, e2, e3⟩ := X.row n h; ⟨ra, r, e1, e2, t.tup _ _ e3⟩, hl, X.ul, fun n h => let ⟨a, sa, nv, av, s, e1, e2, e3, e4, e5⟩ := X.stp n h; ⟨a, sa, nv, av, s, e1, e2, t.tup _ _ e3, t.tup _ _ e4, e5⟩⟩
theorem stat_of {b l : Addr} {us : List V} {rs : List Rw} {ss : List Say} {H : Hp} (tx : TextAt H b rs) (hl : H l = some (.lst us)) (ul : us.length = ss.length) (ah : Ahead H us ss) : ∃ ys, Stat b l ys us rs ss H := by
  obtain ⟨ps, hb, hps⟩ := tx
  have lps : ps.length = rs.length := hps.length
  refine ⟨ps.map V.ref, hb, by rw [List.length_map]; exact lps, fun n h => ?_, hl, ul, fun n h => ?_⟩
  · have e : ps[n]? = some ps[n] := List.getElem?_eq_getElem (by omega)
    obtain ⟨r, er, hr⟩ := paired_at hps e
    exact ⟨_, r, by rw [List.getElem?_map, e]; rfl, er, hr⟩
  · obtain ⟨a, sa, nv, av, e1, e2, e3, e4, _⟩ := ah n _ (List.getElem?_eq_getElem h)
    exact ⟨a, sa, nv, av, _, e1, List.getElem?_eq_getElem h, e2, e3, e4⟩
theorem none_of' {K : PySem.W.Frag} {p sc : Addr} {ns : List Int} {H0 H : Hp} {x : Addr} (k : Kept [p] H0 H) (n : H x = none) (S : StAt K H p sc ns) : H0 x = none := by
  cases e : H0 x with
  | none => rfl
  | some o =>
    by_cases z : x = p
    · obtain ⟨xs, e2⟩ := S.ob
      rw [z, e2] at n
      cases n
    · rw [k x o e (by simpa using z)] at n
      cases n
structure NI (K : PySem.W.Frag) (p a b l : Addr) (ns : List Int) (ys us : List V) (rs : List Rw) (ss : List Say) (H0 : Hp) (so pl : Addr) (m1 m2 : Nat) (H : Hp) : Prop where
  S : StAt K H p a ns
  X : Stat b l ys us rs ss H
  k : Kept [p] H0 H
  so_ : ∃ os, H so = some (.lst os) ∧ os ≠ [] ∧ os.length ≤ m1 ∧ ∀ v ∈ os, GS rs ss false H v
  pl_ : ∃ qs, H pl = some (.lst qs) ∧ qs.length ≤ m2 ∧ ∀ v ∈ qs, GS rs ss false H v
  n1 : so ≠ p
  n2 : H0 so = none
  n3 : pl ≠ p
  n4 : pl ≠ so
  n5 : l ≠ p
  n6 : l ≠ so
section
variable {K : PySem.W.Frag} {p a b l : Addr} {ns : List Int} {ys us : List V} {rs : List Rw} {ss : List Say} {H0 : Hp} {so pl : Addr} {m1 m2 : Nat} {H H' : Hp}
theorem NI.mono (N : NI K p a b l ns ys us rs ss H0 so pl m1 m2 H) {n1 n2 : Nat} (h1 : m1 ≤ n1) (h2 : m2 ≤ n2) : NI K p a b l ns ys us rs ss H0 so pl n1 n2 H :=
  ⟨N.S, N.X, N.k, let ⟨os, e, n, h, g⟩ := N.so_; ⟨os, e, n, Nat.le_trans h h1, g⟩, let ⟨qs, e, h, g⟩ := N.pl_; ⟨qs, e, Nat.le_trans h h2, g⟩, N.n1, N.n2, N.n3, N.n4, N.n5, N.n6⟩
theorem NI.k0 (N : NI K p a b l ns ys us rs ss H0 so pl m1 m2 H) (k : Kept [] H H') : NI K p a b l ns ys us rs ss H0 so pl m1 m2 H' :=
  ⟨N.S.k0 k, N.X.mv (.k0 k) (k _ _ N.X.hl (by simp)), N.k.trans k.one, let ⟨os, e, n, h, g⟩ := N.so_; ⟨os, k _ _ e (by simp), n, h, fun v hv => (g v hv).tk v _ _ (.k0 k)⟩, let ⟨qs, e, h, g⟩ := N.pl_; ⟨qs, k _ _ e (by simp), h, fun v hv => (g v hv).tk v _ _ (.k0 k)⟩, N.n1, N.n2, N.n3, N.n4, N.n5, N.n6⟩
theorem NI.draw (N : NI K p a b l ns ys us rs ss H0 so pl m1 m2 H) (S : StAt K H' p a ns) (k : Kept [p] H H') : NI K p a b l ns ys us rs ss H0 so pl m1 m2 H' := by
  have t : Tk H H' := .kd N.S S k
  exact ⟨S, N.X.mv t (k _ _ N.X.hl (by simpa using N.n5)), N.k.trans k, let ⟨os, e, n, h, g⟩ := N.so_; ⟨os, k _ _ e (by simpa using N.n1), n, h, fun v hv => (g v hv).tk v _ _ t⟩, let ⟨qs, e, h, g⟩ := N.pl_; ⟨qs, k _ _ e (by simpa using N.n3), h, fun v hv => (g v hv).tk v _ _ t⟩, N.n1, N.n2, N.n3, N.n4, N.n5, N.n6⟩
theorem NI.put (N : NI K p a b l ns ys us rs ss H0 so pl m1 m2 H) {os : List V} {v : V} (h : H so = some (.lst os)) (hv : GS rs ss false H v) : NI K p a b l ns ys us rs ss H0 so pl (m1 + 1) m2 (L2.upd H so (.lst (os ++ [v]))) := by
  obtain ⟨os', e, hn, hl, g⟩ := N.so_
  rw [h] at e
  cases e
  have t : Tk H (L2.upd H so (.lst (os ++ [v]))) := .put h
  have hr : ∃ r, V.ref r ∈ os := by
    cases os with
    | nil => exact absurd rfl hn
    | cons u os =>
      obtain ⟨r, er⟩ := (g u List.mem_cons_self).isref
      exact ⟨r, by rw [← er]; exact List.mem_cons_self⟩
  refine ⟨N.S.put h hr N.n1, N.X.mv t ((upd_ne N.n6).trans N.X.hl), fun c o e hc => (upd_ne fun z => ?_).trans (N.k c o e hc), ⟨os ++ [v], upd_same, by simp, by rw [List.length_append]; exact Nat.succ_le_succ hl, fun u hu => ?_⟩, ?_, N.n1, N.n2, N.n3, N.n4, N.n5, N.n6⟩
  · rw [z, N.n2] at e
    cases e
  · rcases List.mem_append.mp hu with h | h
    · exact (g u h).tk _ _ _ t
    · rw [List.mem_singleton.mp h]
      exact hv.tk _ _ _ t
  · obtain ⟨qs, e, h, g2⟩ := N.pl_
    exact ⟨qs, (upd_ne N.n4).trans e, h, fun u hu => (g2 u hu).tk _ _ _ t⟩
theorem NI.some_ (N : NI K p a b l ns ys us rs ss H0 so pl m1 m2 H) {so2 : Addr} {os vs : List V} {c : Nat} (hf : Kept [] H H') (nf : H' so2 = none) (h : H' so = some (.lst os)) (hc : vs.length ≤ c) (hv : ∀ v ∈ vs, GS rs ss false H' v) : NI K p a b l ns ys us rs ss H0 so2 pl (m1 + c) m2 (L2.upd H' so2 (.lst (os ++ vs))) := by
  have ku := (Kept.refl (M := []) H').upd (o := .lst (os ++ vs)) nf
  have N2 := (N.k0 hf).k0 ku
  have N1 := N.k0 hf
  obtain ⟨os', e, hn, hl, g⟩ := N1.so_
  rw [h] at e
  cases e
  have ne : ∀ {x : Addr} {o : HO}, H' x = some o → x ≠ so2 := fun e z => by rw [z, nf] at e; cases e
  refine ⟨N2.S, N2.X, N2.k, ⟨os ++ vs, upd_same, by simp [hn], by rw [List.length_append]; omega, fun u hu => ?_⟩, N2.pl_, ?_, none_of' N1.k nf N1.S, N2.n3, ?_, N2.n5, ne N1.X.hl⟩
  · rcases List.mem_append.mp hu with h | h
    · exact (g u h).tk _ _ _ (.k0 ku)
    · exact (hv u h).tk _ _ _ (.k0 ku)
  · obtain ⟨xs, e⟩ := N1.S.ob
    exact fun z => ne e z.symm
  · obtain ⟨qs, e, _⟩ := N1.pl_
    exact ne e
theorem NI.pairs_ (N : NI K p a b l ns ys us rs ss H0 so pl m1 m2 H) {pl2 : Addr} {qs vs : List V} {c : Nat} (hf : Kept [] H H') (nf : H' pl2 = none) (h : H' pl = some (.lst qs)) (hc : vs.length ≤ c) (hv : ∀ v ∈ vs, GS rs ss false H' v) : NI K p a b l ns ys us rs ss H0 so pl2 m1 (m2 + c) (L2.upd H' pl2 (.lst (qs ++ vs))) := by
  have ku := (Kept.refl (M := []) H').upd (o := .lst (qs ++ vs)) nf
  have N2 := (N.k0 hf).k0 ku
  have N1 := N.k0 hf
  obtain ⟨qs', e, hl, g⟩ := N1.pl_
  rw [h] at e
  cases e
  have ne : ∀ {x : Addr} {o : HO}, H' x = some o → x ≠ pl2 := fun e z => by rw [z, nf] at e; cases e
  refine ⟨N2.S, N2.X, N2.k, N2.so_, ⟨qs ++ vs, upd_same, by rw [List.length_append]; omega, fun u hu => ?_⟩, N2.n1, N2.n2, ?_, ?_, N2.n5, N2.n6⟩
  · rcases List.mem_append.mp hu with h | h
    · exact (g u h).tk _ _ _ (.k0 ku)
    · exact (hv u h).tk _ _ _ (.k0 ku)
  · obtain ⟨xs, e⟩ := N1.S.ob
    exact fun z => ne e z.symm
  · obtain ⟨os, e, _⟩ := N1.so_
    exact fun z => ne e z.symm
end
theorem says_dp {K : PySem.W.Frag} {H : Hp} : ∀ {vs : List V} {ls : List Say}, Paired (fun v s => SayTup H v s) vs ls → DpAll K H vs (ls.map sayD)
  | _, _, .nil => .nil
  | _, _, .cons h t => .cons (dp_say h.say) (says_dp t)
theorem any_say (ls : List Say) (s : Say) : ((ls.map sayD).any fun z => PyData.eqv z (sayD s)) = decide (s ∈ ls) := by
  induction ls with
  | nil => simp
  | cons m ls ih =>
    rw [List.map_cons, List.any_cons, ih, eqv_say]
    by_cases h : m = s
    · simp [h]
    · by_cases h2 : s ∈ ls <;> simp [h, h2, Ne.symm h]
theorem shaped_say {s : Say} (h : okW s.ws) : SeqAt.shaped (sayD s) = true := by
  obtain ⟨a, b⟩ := can_say h
  unfold SeqAt.shaped
  rw [a, Bool.true_and]
  exact decide_eq_true (by omega)
theorem shaped_says {ls : List Say} (h : ∀ s ∈ ls, okW s.ws) : SeqAt.shaped (.list (ls.map sayD)) = true := by
  have q : PyData.canLayAll0 (ls.map sayD) = true ∧ PyData.depthAll (ls.map sayD) ≤ 1 := by
    induction ls with
    | nil => exact ⟨by simp [PyData.canLayAll0], by simp [PyData.depthAll]⟩
    | cons l ls ih =>
      obtain ⟨a, b⟩ := can_say (h l List.mem_cons_self)
      obtain ⟨c, d⟩ := ih fun m hm => h m (List.mem_cons_of_mem _ hm)
      rw [List.map_cons, PyData.canLayAll0, PyData.depthAll, a, c]
      exact ⟨rfl, by omega⟩
  unfold SeqAt.shaped
  rw [PyData.canLay0, q.1, PyData.depth, Bool.true_and]
  exact decide_eq_true (by have := q.2; omega)
theorem rd_notIn {K : PySem.W.Frag} {H : Hp} {v : V} {g : Addr} {s : Say} {ls : List Say} {Q : VK} (hv : SayTup H v s) (hg : SaysAt K H g ls) (ok : okW s.ws) (oks : ∀ m ∈ ls, okW m.ws) (q : Q (.bl (!decide (s ∈ ls))) H) : rNotInD K v (.ref g) H Q := by
  obtain ⟨vs, e, r⟩ := hg
  refine ⟨sayD s, ls.map sayD, dp_say hv.say, .lst (.inl (.of e)) (says_dp r), shaped_say ok, shaped_says oks, ?_⟩
  rw [any_say]
  exact q
theorem says_k0 {K : PySem.W.Frag} {H H' : Hp} {g : Addr} {ls : List Say} (k : Kept [] H H') (h : SaysAt K H g ls) : SaysAt K H' g ls := let ⟨vs, e, r⟩ := h; ⟨vs, k _ _ e (by simp), Paired.mapP r fun _ _ q => q.tk (.of k)⟩
theorem Rw.wlen (r : Rw) : r.ws.length ≤ 10 := by cases r <;> simp [Rw.ws]
theorem turn_cases {r : Rw} (fr : r.few) : (∃ x : Say, x.few ∧ x ≠ .clash ∧ ∃ hd rest, r.ws = hd :: rest ∧ x.ws = (if hd = ("hasnt" : Str) then ("has" : Str) else ("is" : Str)) :: rest ∧ (hd = ("isnt" : Str) ∨ hd = ("hasnt" : Str))) ∨ ∃ hd rest, r.ws = hd :: rest ∧ inV (V.str hd) [.str "isnt", .str "hasnt"] = false := by
  cases r with
  | isnt n k => exact .inl ⟨.is n k, fr, (fun z => nomatch z), _, _, rfl, by rw [if_neg (by decide)]; rfl, .inl rfl⟩
  | hasnt n t m => exact .inl ⟨.has n t m, fr, (fun z => nomatch z), _, _, rfl, by rw [if_pos rfl]; rfl, .inr rfl⟩
  | is _ _ => exact .inr ⟨_, _, rfl, by decide +kernel⟩
  | has _ _ _ => exact .inr ⟨_, _, rfl, by decide +kernel⟩
  | all _ _ => exact .inr ⟨_, _, rfl, by decide +kernel⟩
  | no _ _ => exact .inr ⟨_, _, rfl, by decide +kernel⟩
  | each _ _ _ => exact .inr ⟨_, _, rfl, by decide +kernel⟩
  | who _ _ _ => exact .inr ⟨_, _, rfl, by decide +kernel⟩
  | turned _ _ => exact .inr ⟨_, _, rfl, by decide +kernel⟩
  | on _ => exact .inr ⟨_, _, rfl, by decide +kernel⟩
  | fr _ _ => exact .inr ⟨_, _, rfl, by decide +kernel⟩
  | to _ _ => exact .inr ⟨_, _, rfl, by decide +kernel⟩
  | under _ _ => exact .inr ⟨_, _, rfl, by decide +kernel⟩
theorem turn_at {hd : Str} (h : hd = ("isnt" : Str) ∨ hd = ("hasnt" : Str)) : atI [V.str "is", V.str "has"] (if decide (V.str hd = V.str "hasnt") = true then 1 else 0) = some (V.str (if hd = ("hasnt" : Str) then ("has" : Str) else ("is" : Str))) := by
  rcases h with rfl | rfl
  · rw [decide_eq_false (by decide), if_neg (by decide), if_neg (by decide)]; rfl
  · rw [decide_eq_true rfl, if_pos rfl, if_pos rfl]; rfl

section
variable {P : Program} {w : World} {K : PySem.W.Frag} {mg : Str → Option Value} {base : Heap} {f f3 f4 f5 : Addr} {fd fd3 fd4 fd5 : FuncData}
theorem ok_lnearly (F : FnP K "_law_nearly" lNearly f fd) (B : Bl mg) (zi : mg "int" = none) (cTaken : Own P w K mg base "_law_taken" 1 f3 fd3 ["_law_row_here", "_law_many"] (spTaken K)) (cLed : Own P w K mg base "_law_led" 1 f4 fd4 ["_law_one_here", "_law_x"] (spLed K)) (cBoth : Own P w K mg base "_law_both" 1 f5 fd5 ["_law_one_here", "_law_x", "_law_y"] (spBoth K)) :
    FnOk P w K mg base CX0 2 f fd ["_law_row_here", "_law_rows", "_law_steps"] (spNear K) := by
  refine F.ok scNear (fun vs H Q E h => ?_) (fun cdv A outer s H vs Q E hr h => ?_)
  · obtain ⟨p, a, b, l, ns, rs, us, ss, rfl, _⟩ := h
    rfl
  · obtain ⟨p, a, b, l, ns, rs, us, ss, rfl, hlp, S0, tx, few, hlr, hl, hsl, hul, hah, sfew, k⟩ := h
    refine ⟨_, PSs.nox (Evl.pss_cut (ps_par (by rfl) scNear.nd (i := 3) (j := 4) rfl rfl (by decide) rfl rfl (pa_cons (pe_lst (pa_cons (pe_tup (pa_cons (pe_tup (pa_cons pe_str (pa_cons pe_str (pa_cons pe_str pa_nil)))) (pa_cons pe_int (pa_cons (pe_tup pa_nil) pa_nil)))) pa_nil)) (pa_cons (pe_lst pa_nil) pa_nil)) (by rfl))
      (Evl.pss_cut (ps_for PassesOwn.never rfl (pi_range1 (by rfl) B.range_ (pa_cons (pe_callB call_len_seq (by rfl) B.len_ (by decide +kernel) (pa_cons (pv 1) pa_nil)) pa_nil)) (pg_name (i := 5) scNear.nd rfl (Or.inr rfl))
      (Evl.pss_cut (ps_if (pt_cmpR op_in_seq (pe_ix (show IxR _ (rIxT K) from ix_tup) (pe_ix (show IxR _ (rIxT K) from ix_tup) (pv 1) (pv 5) (fun _ _ => rfl)) pe_int (fun _ _ => rfl)) (pe_tup (pa_cons pe_str (pa_cons pe_str pa_nil))) (by rfl)) (pss_one (ps_expr (pe_bm PySem.F.plainAttrs_list PySem.F.slot_list_append PySem.F.type_list_append mt_append (pv 3) (pa_cons (pe_tup (pa_cons (pe_op (show OpR _ _ (rCatA K) from op_catA) (pe_tup (pa_cons (pe_ix (show IxR _ (rIxL K) from ix_list) (pe_lst (pa_cons pe_str (pa_cons pe_str pa_nil))) (pe_callTy call_int1 (by rfl) zi (by decide +kernel) (pa_cons (pe_cmpR op_eq (pe_ix (show IxR _ (rIxT K) from ix_tup) (pe_ix (show IxR _ (rIxT K) from ix_tup) (pv 1) (pv 5) (fun _ _ => rfl)) pe_int (fun _ _ => rfl)) pe_str (nomark _)) pa_nil)) (fun _ _ => rfl)) pa_nil)) (pe_slice (show SlR _ (rSlA K) from sl_tupA) (pe_ix (show IxR _ (rIxT K) from ix_tup) (pv 1) (pv 5) (fun _ _ => rfl)) (po_some pe_int) po_none)) (pa_cons (pv 5) (pa_cons (pe_tup pa_nil) pa_nil)))) pa_nil)))) pss_nil)
      (pss_one (ps_for PassesOwn.never rfl (pi_range1 (by rfl) B.range_ (pa_cons (pe_callB call_len_seq (by rfl) B.len_ (by decide +kernel) (pa_cons (pv 2) pa_nil)) pa_nil)) (pg_name (i := 6) scNear.nd rfl (Or.inr rfl))
      (Evl.pss_cut (ps_set (i := 3) scNear.nd rfl (.inl rfl) (pe_op op_cat (pv 3) (pe_lc (own := [("_law_x", 10)]) (g := gName 10) rfl scNear.nd (pi_list (pe_call cLed.ok (hr.mono (by decide)) (by rfl) cLed.g cLed.kp cLed.b .nil pass0 (pa_cons (pe_ix (show IxR _ (rIxT K) from ix_tup) (pv 1) (pv 5) (fun _ _ => rfl)) (pa_cons (pe_ix (show IxR _ (rIxT K) from ix_tup) (pe_ix (show IxR _ (rIxL K) from ix_list) (pv 2) (pv 6) (fun _ _ => rfl)) pe_int (fun _ _ => rfl)) pa_nil)))) (blkOk_by (N := nearN) (sc := defScope lNearly) (by decide +kernel)) (fun _ _ _ _ _ => (pg_name (i := 10) scNear.nd rfl (Or.inl rfl))) (fun _ _ _ _ _ => pts_nil) (fun _ _ _ _ _ => (pe_tup (pa_cons (pv 10) (pa_cons (pv 5) (pa_cons (pe_tup (pa_cons (pe_op op_sub (pe_op op_sub (pv 6) (pe_callB (show CallR _ (.builtin "len") (rLenK K) from call_len_seq) (by rfl) B.len_ (by decide +kernel) (pa_cons (pv 2) pa_nil))) pe_int) pa_nil)) pa_nil))))))))
      (pss_one (ps_for PassesOwn.never rfl (pi_range1 (by rfl) B.range_ (pa_cons (pe_callB call_len_seq (by rfl) B.len_ (by decide +kernel) (pa_cons (pv 2) pa_nil)) pa_nil)) (pg_name (i := 7) scNear.nd rfl (Or.inr rfl))
      (Evl.pss_cut (ps_set (i := 8) scNear.nd rfl (.inr rfl) (pe_call cBoth.ok (hr.mono (by decide)) (by rfl) cBoth.g cBoth.kp cBoth.b .nil pass0 (pa_cons (pe_ix (show IxR _ (rIxT K) from ix_tup) (pv 1) (pv 5) (fun _ _ => rfl)) (pa_cons (pe_ix (show IxR _ (rIxT K) from ix_tup) (pe_ix (show IxR _ (rIxL K) from ix_list) (pv 2) (pv 7) (fun _ _ => rfl)) pe_int (fun _ _ => rfl)) (pa_cons (pe_ix (show IxR _ (rIxT K) from ix_tup) (pe_ix (show IxR _ (rIxL K) from ix_list) (pv 2) (pv 6) (fun _ _ => rfl)) pe_int (fun _ _ => rfl)) pa_nil)))))
      (Evl.pss_cut (ps_set (i := 9) scNear.nd rfl (.inl rfl) (pe_call cBoth.ok (hr.mono (by decide)) (by rfl) cBoth.g cBoth.kp cBoth.b .nil pass0 (pa_cons (pe_ix (show IxR _ (rIxT K) from ix_tup) (pv 1) (pv 5) (fun _ _ => rfl)) (pa_cons (pe_ix (show IxR _ (rIxT K) from ix_tup) (pe_ix (show IxR _ (rIxL K) from ix_list) (pv 2) (pv 6) (fun _ _ => rfl)) pe_int (fun _ _ => rfl)) (pa_cons (pe_ix (show IxR _ (rIxT K) from ix_tup) (pe_ix (show IxR _ (rIxL K) from ix_list) (pv 2) (pv 7) (fun _ _ => rfl)) pe_int (fun _ _ => rfl)) pa_nil)))))
      (pss_one (ps_set (i := 4) scNear.nd rfl (.inl rfl) (pe_op op_cat (pv 4) (pe_lc (own := [("_law_x", 10)]) (g := gName 10) rfl scNear.nd (pi_list (pv 9)) (blkOk_by (N := nearN) (sc := defScope lNearly) (by decide +kernel)) (fun _ _ _ _ _ => (pg_name (i := 10) scNear.nd rfl (Or.inl rfl))) (fun _ _ _ _ _ => (pts_one (pt_cmpR (show OpR _ _ (rNotInD K) from op_notInD (room65 hr)) (pv 10) (pv 8) (by rfl)))) (fun _ _ _ _ _ => (pe_tup (pa_cons (pv 10) (pa_cons (pv 5) (pa_cons (pe_tup (pa_cons (pv 7) (pa_cons (pv 6) pa_nil))) pa_nil))))))))))))))))))
      (Evl.pss_cut (ps_set (i := 3) scNear.nd rfl (.inl rfl) (pe_ifExp (PW.pt (pw_and (pt_cmpR (show OpR _ _ (rNeD K) from op_neD hr.units) (pv 4) (pe_lst pa_nil) (nomark _)) (pw_and1 (pt_cmpR op_eq (pe_call cTaken.ok (hr.mono (by decide)) (by rfl) cTaken.g cTaken.kp cTaken.b .nil pass0 (pa_cons (pv 0) (pa_cons pe_int pa_nil))) pe_int (nomark _))))) (pv 4) (pv 3)))
      (pss_one (ps_ret (pe_ix (show IxR _ (rIxL K) from ix_list) (pv 3) (pe_call cTaken.ok (hr.mono (by decide)) (by rfl) cTaken.g cTaken.kp cTaken.b .nil pass0 (pa_cons (pv 0) (pa_cons (pe_callB call_len_seq (by rfl) B.len_ (by decide +kernel) (pa_cons (pv 3) pa_nil)) pa_nil))) (fun _ _ => rfl))))))), ?_⟩
    obtain ⟨ys, X0⟩ := stat_of tx hl hsl.symm hah
    have hys : ys.length ≤ 10 := by rw [X0.yl]; exact hlr
    have frows : ∀ {n : Nat} {r : Rw}, rs[n]? = some r → r.few := fun e => few _ (List.mem_of_getElem? e)
    have fss : ∀ {n : Nat} {s : Say}, ss[n]? = some s → s.few ∧ s ≠ .clash := fun e => sfew _ (List.mem_of_getElem? e)
    -- the lists
    refine ⟨fun σ H' => ∃ so pl, σ = [some (.ref p), some (.ref b), some (.ref l), some (.ref so), some (.ref pl), none, none, none, none, none, none] ∧ NI K p a b l ns ys us rs ss H so pl (1) (0) H', ?_, ?_⟩
    · refine ⟨by show (3 : Nat) ≤ sizeLine; decide, fun t0 n0 => ⟨by show (0 : Nat) ≤ sizeLine; decide, fun t1 n1 => ⟨by show (3 : Nat) ≤ sizeLine; decide, fun t2 n2 => ⟨by show (1 : Nat) ≤ sizeLine; decide, fun so n3 => ⟨by show (0 : Nat) ≤ sizeLine; decide, fun pl n4 => ⟨_, _, rfl, so, pl, rfl, ?_⟩⟩⟩⟩⟩⟩
      have q3 := (Kept.refl (M := []) _).upd (o := .lst []) n4
      have q2 := ((Kept.refl (M := []) _).upd (o := .lst [.ref t2]) n3).trans q3
      have q1 := ((Kept.refl (M := []) _).upd (o := .tup [.ref t0, .int 0, .ref t1]) n2).trans q2
      have q0 := ((Kept.refl (M := []) _).upd (o := .tup []) n1).trans q1
      have kk := ((Kept.refl (M := []) H).upd (o := .tup [.str "is", .str "zed", .str "cat"]) n0).trans q0
      have e0 := q0 t0 _ upd_same (by simp)
      have e1 := q1 t1 _ upd_same (by simp)
      have e2 := q2 t2 _ upd_same (by simp)
      have e3 := q3 so _ upd_same (by simp)
      have kso := ((((Kept.refl (M := []) H).upd (o := .tup [.str "is", .str "zed", .str "cat"]) n0).upd (o := .tup []) n1).upd (o := .tup [.ref t0, .int 0, .ref t1]) n2)
      refine ⟨S0.k0 kk, X0.mv (.k0 kk) (kk _ _ hl (by simp)), kk.one, ⟨_, e3, by simp, Nat.le_refl _, fun v hv => ?_⟩, ⟨[], upd_same, Nat.le_refl _, by simp⟩, fr_p S0 kso n3, none_of kso n3, fr_p S0 (kso.upd n3) n4, fun z => ?_, hlp, fun z => ?_⟩
      · rw [List.mem_singleton.mp hv]
        exact ⟨zed, 0, [], ⟨t2, t0, t1, rfl, e2, e0, e1, by simp⟩, zed_ok, (fun z => nomatch z), bad_by (ah := []) e2 (x := zed) e0 zed_ok e1 (by simp) fun _ r e => zed_by (frows e) (by simp) (by simp)⟩
      · rw [z, upd_same] at n4
        cases n4
      · rw [← z, kso _ _ hl (by simp)] at n3
        cases n3
    clear X0
    rintro σ H1 ⟨so, pl, rfl, N⟩
    -- the rows
    refine ⟨fun σ H' => ∃ so pl v5 v6 v7 v8 v9, σ = [some (.ref p), some (.ref b), some (.ref l), some (.ref so), some (.ref pl), v5, v6, v7, v8, v9, none] ∧ NI K p a b l ns ys us rs ss H so pl (201) (2000) H', ?_, ?_⟩
    · refine ⟨_, rfl, b, ys, rfl, .inr (.inl (.of N.X.hb)), ys.length, rfl, by omega, by omega, for_it (walk_range (lo := 0) (n := ys.length)) (fun i σ H' => ∃ so pl v5 v6 v7 v8 v9, σ = [some (.ref p), some (.ref b), some (.ref l), some (.ref so), some (.ref pl), v5, v6, v7, v8, v9, none] ∧ NI K p a b l ns ys us rs ss H so pl (1 + 20 * i) (200 * i) H') ⟨so, pl, none, none, none, none, none, rfl, N.mono (by omega) (by omega)⟩ (fun _ _ _ _ _ => trivial) ?_ (fun σ H' h => ?_)⟩
      rotate_left
      · obtain ⟨so, pl, v5, v6, v7, v8, v9, e, N⟩ := h
        exact ⟨so, pl, v5, v6, v7, v8, v9, e, N.mono (by omega) (by omega)⟩
      clear N so pl
      rintro i y σ Hb H1 hi ⟨so, pl, v5, v6, v7, v8, v9, rfl, N⟩ ⟨rfl, ey⟩
      obtain rfl : y = .int (i : Int) := by rw [ey]; show V.int (0 + (i : Int)) = _; rw [Int.zero_add]
      have hir : i < rs.length := by rw [← N.X.yl]; exact hi
      obtain ⟨ra, r, ey1, er, hra⟩ := N.X.row i hir
      have fr := frows er
      -- the row's own saying, turned
      refine ⟨fun σ H' => ∃ v6 v7 v8 v9, σ = [some (.ref p), some (.ref b), some (.ref l), some (.ref so), some (.ref pl), some (.int (i : Int)), v6, v7, v8, v9, none] ∧ NI K p a b l ns ys us rs ss H so pl (2 + 20 * i) (200 * i) H', ?_, ?_⟩
      · rcases turn_cases fr with ⟨x, fx, nx, hd, rest, ews, exs, hhd⟩ | ⟨hd, rest, ews, hin⟩
        · obtain ⟨os, eos, nos, los, gos⟩ := N.so_
          have hrw := hra
          rw [ews] at hrw
          refine ⟨_, rfl, _, rfl, b, ys, (i : Int), .ref ra, rfl, rfl, SqT.of N.X.hb, atI_nat ey1, ra, _, 0, .str hd, rfl, rfl, SqT.of hrw, at_of (j := 0) rfl rfl, by show (2 : Nat) ≤ sizeLine; decide, fun Tp nT => ⟨Tp, _, rfl, .inr (.inl (.of upd_same)), rfl, rfl, ?_⟩⟩
          refine ⟨_, rfl, ?_⟩
          have hin : inV (V.str hd) [.str "isnt", .str "hasnt"] = true := by rcases hhd with rfl | rfl <;> decide +kernel
          have kT := (Kept.refl (M := []) _).upd (o := .tup [.str "isnt", .str "hasnt"]) nT
          have N1 := N.k0 kT
          show (if inV (V.str hd) [.str "isnt", .str "hasnt"] = true then _ else _)
          rw [hin]
          refine iteT ⟨_, rfl, .inl ⟨rfl, _, SqL.of (kT _ _ eos (by simp))⟩, by show (2 : Nat) ≤ sizeLine; decide, fun wl nwl => ?_⟩
          have kW := kT.upd (o := .lst [.str "is", .str "has"]) nwl
          have hrW := kW _ _ hrw (by simp)
          refine ⟨_, rfl, _, rfl, b, ys, (i : Int), .ref ra, rfl, rfl, SqT.of (kW _ _ N.X.hb (by simp)), atI_nat ey1, ra, _, 0, .str hd, rfl, rfl, SqT.of hrW, at_of (j := 0) rfl rfl, rfl, .inr ⟨_, rfl, wl, _, _, _, rfl, rfl, SqL.of upd_same, turn_at hhd, by show (1 : Nat) ≤ sizeLine; decide, fun q1 nq1 => ?_⟩⟩
          have kQ := kW.upd (o := .tup [V.str (if hd = "hasnt" then "has" else "is")]) nq1
          have hrQ := kQ _ _ hrw (by simp)
          refine ⟨_, rfl, _, rfl, b, ys, (i : Int), .ref ra, rfl, rfl, SqT.of (kQ _ _ N.X.hb (by simp)), atI_nat ey1, 1, rfl, ?_⟩
          unfold tNoPart
          show rSlA K (.ref ra) (some ((1 : Nat) : Int)) none _ _
          refine slA_v hrQ fun q2 H5 k5 e5 => ?_
          rw [cutV_drop (by simp)] at e5
          refine catA_v (k5 _ _ upd_same (by simp)) e5 (by have := Rw.wlen r; rw [ews] at this; simp at this ⊢; omega) fun q3 H6 k6 e6 => ?_
          have ew : ([V.str (if hd = "hasnt" then "has" else "is")] ++ ((hd :: rest).map V.str).drop 1) = x.ws.map V.str := by rw [exs]; rfl
          rw [ew] at e6
          refine ⟨_, rfl, by show (0 : Nat) ≤ sizeLine; decide, fun t0 nt0 => ⟨by show (3 : Nat) ≤ sizeLine; decide, fun e ne => ?_⟩⟩
          have k7 := (Kept.refl (M := []) H6).upd (o := .tup []) nt0
          have k8 := (Kept.refl (M := []) _).upd (o := .tup [.ref q3, .int (i : Int), .ref t0]) ne
          have kA := (kQ.trans (k5.trans (k6.trans k7))).trans k8
          have eA := kA _ _ eos (by simp)
          refine ⟨so, os, _, rfl, rfl, eA, Nat.lt_of_le_of_lt (show os.length ≤ 1000 by omega) (by decide), v6, v7, v8, v9, rfl, ?_⟩
          have hx8 := (k7.trans k8) _ _ e6 (by simp)
          have O := few_say fx nx
          refine ((N.k0 kA).put eA ⟨x, i, [], ⟨e, q3, t0, rfl, upd_same, hx8, k8 _ _ upd_same (by simp), by simp⟩, O, (fun z => nomatch z), bad_by (ah := []) upd_same hx8 O (k8 _ _ upd_same (by simp)) (by simp) fun _ r2 er2 => ?_⟩).mono (by omega) (by omega)
          obtain rfl : r = r2 := Option.some.inj (er.symm.trans er2)
          show decide (x.ws = r.ws) = false
          refine decide_eq_false fun z => ?_
          rw [exs, ews] at z
          have z1 := (List.cons.inj z).1
          rcases hhd with rfl | rfl <;> exact absurd z1 (by decide)
        · have hrw := hra
          rw [ews] at hrw
          refine ⟨_, rfl, _, rfl, b, ys, (i : Int), .ref ra, rfl, rfl, SqT.of N.X.hb, atI_nat ey1, ra, _, 0, .str hd, rfl, rfl, SqT.of hrw, at_of (j := 0) rfl rfl, by show (2 : Nat) ≤ sizeLine; decide, fun Tp nT => ⟨Tp, _, rfl, .inr (.inl (.of upd_same)), rfl, rfl, ?_⟩⟩
          refine ⟨_, rfl, ?_⟩
          show (if inV (V.str hd) [.str "isnt", .str "hasnt"] = true then _ else _)
          rw [hin]
          exact iteF ⟨v6, v7, v8, v9, rfl, (N.k0 ((Kept.refl (M := []) _).upd nT)).mono (by omega) (by omega)⟩
      clear N v5
      rintro σ H2 ⟨v6, v7, v8, v9, rfl, N⟩
      -- the steps
      refine ⟨_, rfl, l, us, rfl, .inl (SqL.of N.X.hl), us.length, rfl, by omega, by omega, for_it (walk_range (lo := 0) (n := us.length)) (fun j σ H' => ∃ so pl v6 v7 v8 v9, σ = [some (.ref p), some (.ref b), some (.ref l), some (.ref so), some (.ref pl), some (.int (i : Int)), v6, v7, v8, v9, none] ∧ NI K p a b l ns ys us rs ss H so pl (2 + 20 * i + j) (200 * i + 20 * j) H') ⟨so, pl, v6, v7, v8, v9, rfl, N.mono (by omega) (by omega)⟩ (fun _ _ _ _ _ => trivial) ?_ (fun σ H' h => ?_)⟩
      rotate_left
      · obtain ⟨so, pl, v6, v7, v8, v9, e, N⟩ := h
        exact ⟨so, pl, _, v6, v7, v8, v9, e, N.mono (by omega) (by omega)⟩
      clear N so pl v6 v7 v8 v9 hra
      rintro j y σ Hb H1 hj ⟨so, pl, v6, v7, v8, v9, rfl, N⟩ ⟨rfl, ey⟩
      obtain rfl : y = .int (j : Int) := by rw [ey]; show V.int (0 + (j : Int)) = _; rw [Int.zero_add]
      obtain ⟨a1, sa1, nv1, av1, s1, eu1, es1, ha1, hs1, ok1⟩ := N.X.stp j (by omega)
      obtain ⟨fs1, nc1⟩ := fss es1
      obtain ⟨ra, r', ey1, er', hra⟩ := N.X.row i hir
      obtain rfl : r = r' := Option.some.inj (er.symm.trans er')
      -- a place that is none
      refine ⟨fun σ H' => ∃ so pl v7 v8 v9, σ = [some (.ref p), some (.ref b), some (.ref l), some (.ref so), some (.ref pl), some (.int (i : Int)), some (.int (j : Int)), v7, v8, v9, none] ∧ NI K p a b l ns ys us rs ss H so pl (2 + 20 * i + (j + 1)) (200 * i + 20 * j) H', ?_, ?_⟩
      · obtain ⟨os, eos, nos, los, gos⟩ := N.so_
        refine ⟨_, rfl, _, rfl, _, rfl, b, ys, (i : Int), .ref ra, rfl, rfl, SqT.of N.X.hb, atI_nat ey1, _, rfl, _, rfl, l, us, (j : Int), .ref a1, rfl, rfl, SqL.of N.X.hl, atI_nat eu1, a1, _, 0, .ref sa1, rfl, rfl, SqT.of ha1, at_of (j := 0) rfl rfl, ra, sa1, r, s1, rfl, .inl (.of hra), .inl (.of hs1), nc1, fun q H2 k2 nq hq => ?_⟩
        obtain ⟨vs, eq, pq⟩ := hq
        refine ⟨q, rfl, ⟨vs, .inl (.of eq)⟩, fun D nD => ?_⟩
        have lvs : vs.length ≤ 1 := by rw [pq.length]; exact len_led r s1
        have N2 := N.k0 k2
        refine rd_comp (G := GS rs ss false) (walk_list (K := K) (a := q) (xs := vs)) GS.tk (by omega) (fun _ _ _ _ y => y.1) (fun H k => .inl (.of (k _ _ eq (by simp)))) nD ?_ ?_
        · rintro v x Ha hv ⟨_, ev⟩ ka R R0 hR _
          obtain ⟨s', es', xa, rfl, hx⟩ := paired_at pq ev
          obtain ⟨fx, nx⟩ := few_led fr fs1 (List.mem_of_getElem? es')
          have Na := N2.k0 ka
          have hxa := ka _ _ hx (by simp)
          refine ⟨rfl, yes_if ⟨_, rfl, _, rfl, _, rfl, _, rfl, l, us, rfl, .inl (SqL.of Na.X.hl), _, _, rfl, rfl, _, _, rfl, rfl, by show (1 : Nat) ≤ sizeLine; decide, fun t nt => ⟨by show (3 : Nat) ≤ sizeLine; decide, fun e ne => hR _ _ (((Kept.refl (M := []) Ha).upd nt).upd ne) ?_⟩⟩⟩
          have k1 := (Kept.refl (M := []) Ha).upd (o := .tup [.int ((j : Int) - (us.length : Int) - 1)]) nt
          have k2 := (Kept.refl (M := []) _).upd (o := .tup [.ref xa, .int (i : Int), .ref t]) ne
          have ht := k2 t _ upd_same (by simp)
          have hx2 := (k1.trans k2) _ _ hxa (by simp)
          refine ⟨s', i, [(j : Int) - (us.length : Int) - 1], ⟨e, xa, t, rfl, upd_same, hx2, ht, by simp⟩, few_say fx nx, (fun z => nomatch z), bad_oth upd_same hx2 (few_say fx nx) ht (by simp) (fun o ho => ?_) ?_⟩
          · rw [List.mem_singleton.mp ho]; exact .inl ⟨_, rfl⟩
          · have hz : ¬ (0 ≤ (j : Int) - (us.length : Int) - 1) := by omega
            show ((decide ((0 : Int) ≤ (j : Int) - (us.length : Int) - 1) && decide ((j : Int) - (us.length : Int) - 1 < (ss.length : Int))) && true) = false
            rw [decide_eq_false hz]
            rfl
        · intro Ha acc ka eD lacc gacc
          refine ⟨so, D, os, acc, rfl, rfl, (k2.trans ka) _ _ eos (by simp), eD, ?_, fun so2 nso2 => ?_⟩
          · exact Nat.le_trans (show os.length + acc.length ≤ 1000 by omega) (by decide)
          · exact ⟨so2, pl, v7, v8, v9, rfl, (N.some_ (k2.trans ka) nso2 ((k2.trans ka) _ _ eos (by simp)) (Nat.le_trans lacc lvs) gacc).mono (by omega) (by omega)⟩
      clear N v6 so pl hra ha1 hs1
      rintro σ H2 ⟨so, pl, v7, v8, v9, rfl, N⟩
      -- two ahead
      refine ⟨_, rfl, l, us, rfl, .inl (SqL.of N.X.hl), us.length, rfl, by omega, by omega, for_it (walk_range (lo := 0) (n := us.length)) (fun m σ H' => ∃ so pl v7 v8 v9, σ = [some (.ref p), some (.ref b), some (.ref l), some (.ref so), some (.ref pl), some (.int (i : Int)), some (.int (j : Int)), v7, v8, v9, none] ∧ NI K p a b l ns ys us rs ss H so pl (2 + 20 * i + (j + 1)) (200 * i + 20 * j + m) H') ⟨so, pl, v7, v8, v9, rfl, N.mono (by omega) (by omega)⟩ (fun _ _ _ _ _ => trivial) ?_ (fun σ H' h => ?_)⟩
      rotate_left
      · obtain ⟨so, pl, v7, v8, v9, e, N⟩ := h
        exact ⟨so, pl, _, v7, v8, v9, e, N.mono (by omega) (by omega)⟩
      clear N so pl v7 v8 v9
      rintro m y σ Hb H1 hm ⟨so, pl, v7, v8, v9, rfl, N⟩ ⟨rfl, ey⟩
      obtain rfl : y = .int (m : Int) := by rw [ey]; show V.int (0 + (m : Int)) = _; rw [Int.zero_add]
      obtain ⟨a1, sa1, nv1, av1, s1', eu1, es1', ha1, hs1, ok1⟩ := N.X.stp j (by omega)
      obtain rfl : s1 = s1' := Option.some.inj (es1.symm.trans es1')
      obtain ⟨a2, sa2, nv2, av2, s2, eu2, es2, ha2, hs2, ok2⟩ := N.X.stp m (by omega)
      obtain ⟨fs2, nc2⟩ := fss es2
      obtain ⟨ra, r', ey1, er', hra⟩ := N.X.row i hir
      obtain rfl : r = r' := Option.some.inj (er.symm.trans er')
      -- what comes of them the other way
      refine ⟨fun σ H' => ∃ g, σ = [some (.ref p), some (.ref b), some (.ref l), some (.ref so), some (.ref pl), some (.int (i : Int)), some (.int (j : Int)), some (.int (m : Int)), some (.ref g), v9, none] ∧ NI K p a b l ns ys us rs ss H so pl (2 + 20 * i + (j + 1)) (200 * i + 20 * j + m) H' ∧ SaysAt K H' g (lawBoth r s2 s1), ?_, ?_⟩
      · exact ⟨_, rfl, _, rfl, b, ys, (i : Int), .ref ra, rfl, rfl, SqT.of N.X.hb, atI_nat ey1, _, rfl, _, rfl, l, us, (m : Int), .ref a2, rfl, rfl, SqL.of N.X.hl, atI_nat eu2, a2, _, 0, .ref sa2, rfl, rfl, SqT.of ha2, at_of (j := 0) rfl rfl, _, rfl, _, rfl, l, us, (j : Int), .ref a1, rfl, rfl, SqL.of N.X.hl, atI_nat eu1, a1, _, 0, .ref sa1, rfl, rfl, SqT.of ha1, at_of (j := 0) rfl rfl, ra, sa2, sa1, r, s2, s1, rfl, .inl (.of hra), .inl (.of hs2), .inl (.of hs1), nc2, nc1, few_ok fr, ok2, ok1, fun q H2 k2 nq hq => ⟨q, rfl, N.k0 k2, hq⟩⟩
      clear N hra ha1 hs1 ha2 hs2
      rintro σ H2 ⟨g, rfl, N, hg⟩
      obtain ⟨a1, sa1, nv1, av1, s1', eu1, es1', ha1, hs1, ok1⟩ := N.X.stp j (by omega)
      obtain rfl : s1 = s1' := Option.some.inj (es1.symm.trans es1')
      obtain ⟨a2, sa2, nv2, av2, s2', eu2, es2', ha2, hs2, ok2⟩ := N.X.stp m (by omega)
      obtain rfl : s2 = s2' := Option.some.inj (es2.symm.trans es2')
      obtain ⟨ra, r', ey1, er', hra⟩ := N.X.row i hir
      obtain rfl : r = r' := Option.some.inj (er.symm.trans er')
      refine ⟨fun σ H' => ∃ q, σ = [some (.ref p), some (.ref b), some (.ref l), some (.ref so), some (.ref pl), some (.int (i : Int)), some (.int (j : Int)), some (.int (m : Int)), some (.ref g), some (.ref q), none] ∧ NI K p a b l ns ys us rs ss H so pl (2 + 20 * i + (j + 1)) (200 * i + 20 * j + m) H' ∧ SaysAt K H' g (lawBoth r s2 s1) ∧ SaysAt K H' q (lawBoth r s1 s2), ?_, ?_⟩
      · exact ⟨_, rfl, _, rfl, b, ys, (i : Int), .ref ra, rfl, rfl, SqT.of N.X.hb, atI_nat ey1, _, rfl, _, rfl, l, us, (j : Int), .ref a1, rfl, rfl, SqL.of N.X.hl, atI_nat eu1, a1, _, 0, .ref sa1, rfl, rfl, SqT.of ha1, at_of (j := 0) rfl rfl, _, rfl, _, rfl, l, us, (m : Int), .ref a2, rfl, rfl, SqL.of N.X.hl, atI_nat eu2, a2, _, 0, .ref sa2, rfl, rfl, SqT.of ha2, at_of (j := 0) rfl rfl, ra, sa1, sa2, r, s1, s2, rfl, .inl (.of hra), .inl (.of hs1), .inl (.of hs2), nc1, nc2, few_ok fr, ok1, ok2, fun q H2 k2 nq hq => ⟨q, rfl, N.k0 k2, says_k0 k2 hg, hq⟩⟩
      clear N hra ha1 hs1 ha2 hs2 hg
      rintro σ H2 ⟨q, rfl, N, hg, vs, eq, pq⟩
      -- and not so
      obtain ⟨qs, eqs, lqs, gqs⟩ := N.pl_
      have lvs : vs.length ≤ 1 := by rw [pq.length]; exact len_both r s1 s2
      refine ⟨_, rfl, _, rfl, q, rfl, ⟨vs, .inl (.of eq)⟩, fun D nD => ?_⟩
      refine rd_comp (G := GS rs ss false) (walk_list (K := K) (a := q) (xs := vs)) GS.tk (by omega) (fun _ _ _ _ y => y.1) (fun H k => .inl (.of (k _ _ eq (by simp)))) nD ?_ ?_
      · rintro v x Ha hv ⟨_, ev⟩ ka R R0 hR hR0
        obtain ⟨s', es', xa, rfl, hx⟩ := paired_at pq ev
        obtain ⟨fx, nx⟩ := few_both fr fs1 fs2 (List.mem_of_getElem? es')
        have hxa := ka _ _ hx (by simp)
        refine ⟨rfl, _, rfl, _, rfl, rd_notIn (s := s') ⟨xa, rfl, hxa⟩ (says_k0 ka hg) (few_say fx nx).ok (fun m hm => (few_say (few_both fr fs2 fs1 hm).1 (few_both fr fs2 fs1 hm).2).ok) ⟨_, rfl, ?_⟩⟩
        by_cases hm' : s' ∈ lawBoth r s2 s1
        · rw [decide_eq_true hm']
          exact hR0 _ (Kept.refl _)
        · rw [decide_eq_false hm']
          refine ⟨_, rfl, _, rfl, _, rfl, _, rfl, by show (2 : Nat) ≤ sizeLine; decide, fun t nt => ⟨by show (3 : Nat) ≤ sizeLine; decide, fun e ne => hR _ _ (((Kept.refl (M := []) Ha).upd nt).upd ne) ?_⟩⟩
          have k1 := (Kept.refl (M := []) Ha).upd (o := .tup [.int (m : Int), .int (j : Int)]) nt
          have k2 := (Kept.refl (M := []) _).upd (o := .tup [.ref xa, .int (i : Int), .ref t]) ne
          have ht := k2 t _ upd_same (by simp)
          have hx2 := (k1.trans k2) _ _ hxa (by simp)
          refine ⟨s', i, [(m : Int), (j : Int)], ⟨e, xa, t, rfl, upd_same, hx2, ht, by simp⟩, few_say fx nx, (fun z => nomatch z), bad_by (ah := [m, j]) upd_same hx2 (few_say fx nx) ht (by simp) fun _ r2 er2 => ?_⟩
          obtain rfl : r = r2 := Option.some.inj (er.symm.trans er2)
          show ByB r [ss.getD m .clash, ss.getD j .clash] s' = false
          rw [List.getD_eq_getElem?_getD, List.getD_eq_getElem?_getD, es2, es1]
          show ByB r [s2, s1] s' = false
          rw [both_by nc2 nc1 nx]
          exact decide_eq_false hm'
      · intro Ha acc ka eD lacc gacc
        refine ⟨pl, D, qs, acc, rfl, rfl, ka _ _ eqs (by simp), eD, ?_, fun pl2 npl2 => ?_⟩
        · exact Nat.le_trans (show qs.length + acc.length ≤ 5000 by omega) (by decide)
        · exact ⟨so, pl2, _, _, _, rfl, (N.pairs_ ka npl2 (ka _ _ eqs (by simp)) (Nat.le_trans lacc lvs) gacc).mono (by omega) (by omega)⟩
    clear N so pl
    rintro σ H1 ⟨so, pl, v5, v6, v7, v8, v9, rfl, N⟩
    -- which of the two
    refine ⟨fun σ H' => ∃ l2 os, σ = [some (.ref p), some (.ref b), some (.ref l), some (.ref l2), some (.ref pl), v5, v6, v7, v8, v9, none] ∧ StAt K H' p a ns ∧ Kept [p] H H' ∧ l2 ≠ p ∧ H' l2 = some (.lst os) ∧ os ≠ [] ∧ os.length ≤ 5000 ∧ ∀ v ∈ os, GS rs ss false H' v, ?_, ?_⟩
    · obtain ⟨os, eos, nos, los, gos⟩ := N.so_
      obtain ⟨qs, eqs, lqs, gqs⟩ := N.pl_
      have alt : ∀ {H2 : Hp}, NI K p a b l ns ys us rs ss H so pl 201 2000 H2 → ∃ os, H2 so = some (.lst os) ∧ os ≠ [] ∧ os.length ≤ 5000 ∧ ∀ v ∈ os, GS rs ss false H2 v := fun N2 => let ⟨os, e, n, h, g⟩ := N2.so_; ⟨os, e, n, by omega, g⟩
      refine ⟨_, rfl, by show (0 : Nat) ≤ sizeLine; decide, fun e ne => ?_⟩
      have k2 := (Kept.refl (M := []) H1).upd (o := .lst []) ne
      have N2 := N.k0 k2
      refine rd_neNil (k2 _ _ eqs (by simp)) upd_same (fun v hv => ((gqs v hv).tk _ _ _ (.k0 k2)).ds) ⟨_, rfl, ?_⟩
      cases qs with
      | nil => exact iteF ⟨_, rfl, so, os, rfl, N2.S, N2.k, N2.n1, k2 _ _ eos (by simp), nos, by omega, fun v hv => (gos v hv).tk _ _ _ (.k0 k2)⟩
      | cons u qs =>
        refine iteT ⟨_, rfl, p, a, ns, 2, rfl, N2.S, by omega, by omega, fun z H3 z0 z1 S3 k3 => ⟨rfl, _, rfl, ?_⟩⟩
        have N3 := N2.draw S3 k3
        have t : Tk H1 H3 := (Tk.k0 k2).trans (.kd N2.S S3 k3)
        by_cases hz : V.int z = V.int 0
        · rw [decide_eq_true hz]
          exact iteT ⟨_, rfl, pl, _, rfl, N3.S, N3.k, N3.n3, k3 _ _ (k2 _ _ eqs (by simp)) (by simpa using N.n3), by simp, by omega, fun v hv => (gqs v hv).tk _ _ _ t⟩
        · rw [decide_eq_false hz]
          exact iteF ⟨_, rfl, so, os, rfl, N3.S, N3.k, N3.n1, k3 _ _ (k2 _ _ eos (by simp)) (by simpa using N.n1), nos, by omega, fun v hv => (gos v hv).tk _ _ _ t⟩
    rintro σ H2 ⟨l2, os, rfl, S2, k2, nlp, el, nos, los, gos⟩
    refine ⟨_, rfl, _, rfl, _, rfl, l2, os, rfl, .inl (SqL.of el), p, a, ns, (os.length : Int), rfl, S2, by have := List.length_pos_iff.mpr nos; omega, by omega, fun z H3 z0 z1 S3 k3 => ?_⟩
    obtain ⟨v, hv, hm⟩ := at_int z0 z1 rfl
    obtain ⟨x, n, w, _, _, _, hS⟩ := gos v hm
    exact ⟨l2, os, _, v, rfl, rfl, SqL.of (k3 _ _ el (by simpa using nlp)), hv, k v H3 S3 (k2.trans k3) (hS.tk (.kd S2 S3 k3))⟩
end
end Ah
end
section
set_option Elab.async false
set_option linter.all false
set_option maxRecDepth 100000
set_option maxHeartbeats 4000000
namespace Ah
open PySem PySem.Spec PyProof.Rows L2 LamX
open GxR (TabG)
/-! ### the law -/
abbrev lawN : List Str := ["_law_script", "_law_row_here", "_law_turn", "_law_rows", "_law_steps", "_law_k", "_law_some", "_law_n", "_law_at", "_law_other", "_law_both_here", "_law_due", "_law_bad", "_law_none", "_law_many", "_law_good", "_law_x", "_law_step"]
theorem scLaw : FnScope lawN ["_law_script"] (defScope lLaw) := ⟨rfl, rfl, rfl, by decide +kernel, rfl, by decide +kernel, by decide +kernel⟩
abbrev qLaw : Str := ("law" : Str) ++ ".<locals>." ++ "<lambda>"
def forB : List Stmt := match defBody lLaw with
  | _ :: .For _ _ b _ _ :: _ => b
  | _ => []
def lamsOf : Stmt → List Expr
  | .If (.UnaryOp _ (.Call (.Name _ _) (.Call (.Name _ _) [.Lambda p b s q] _ _ :: _) _ _) _) _ _ _ => [.Lambda p b s q]
  | .If (.Compare (.Call (.Name _ _) [.Lambda p b s q] _ _) _ _ _) _ _ _ => [.Lambda p b s q]
  | .Return (some (.BoolOp _ [_, .Compare (.Call (.Name _ _) [.Lambda p b s q] _ _) _ _ _] _)) _ => [.Lambda p b s q]
  | _ => []
def worksL : List Expr := (forB ++ defBody lLaw).flatMap lamsOf
def lamP (i : Nat) : Arguments := match worksL[i]? with
  | some (.Lambda p _ _ _) => p
  | _ => defArgs lLaw
def lamB (i : Nat) : Expr := match worksL[i]? with
  | some (.Lambda _ b _ _) => b
  | _ => .Name "none" ⟨0, 0, 0, 0⟩
def lamS (i : Nat) : Scope := match worksL[i]? with
  | some (.Lambda _ _ s _) => s
  | _ => defScope lLaw
theorem lamS_ok0 : lamSDB lawN (defScope lLaw) (lamS 0) = true := by decide +kernel
theorem lamS_ok1 : lamSDB lawN (defScope lLaw) (lamS 1) = true := by decide +kernel
theorem lamS_ok2 : lamSDB lawN (defScope lLaw) (lamS 2) = true := by decide +kernel
theorem lamS_ok3 : lamSDB lawN (defScope lLaw) (lamS 3) = true := by decide +kernel
theorem passNo {X : Cx} : Passes (L2.CX X.prog X.w) X (fun _ _ _ => False) := fun _ _ _ _ _ _ _ ⟨_, _, _, _, _, _, _, _, _, _, _, _, h⟩ => h.elim
def spLaw (K : PySem.W.Frag) (T : List Addr) (P2 : Addr) : Sp := fun vs H Q _ => ∃ (a : Addr) (ns : List Int), vs = [.ref a] ∧ SqL K H a (ns.map V.int) ∧ ns.length ≤ 63 ∧ (∀ P ∈ T, GxR.TabG H P) ∧ LamX.TabS H P2 qLaw ∧ ∀ H', Q (.bl true) H'
/-- not the script's place, or the script is the program's own -/
def NS (K : PySem.W.Frag) (sc : Addr) (ns : List Int) (l : Addr) : Prop := l ≠ sc ∨ ∀ H, SqL K H sc (ns.map V.int)
theorem ns_new {K : PySem.W.Frag} {H : Hp} {p sc l : Addr} {ns : List Int} (S : StAt K H p sc ns) (n : H l = none) : NS K sc ns l := by
  obtain ⟨i, r, m, e, h1, h2, h3⟩ := S
  rcases h3 with (h3 | ⟨ob, h3⟩) | h3
  · exact .inl fun z => by rw [z, h3] at n; cases n
  · exact .inl fun z => by rw [z, h3] at n; cases n
  · exact .inr fun _ => .inr h3
structure LS (K : PySem.W.Frag) (T : List Addr) (P2 p sc : Addr) (ns : List Int) (H : Hp) : Prop where
  S : StAt K H p sc ns
  ht : ∀ P ∈ T, TabG H P
  t2 : TabS H P2 qLaw
section
variable {K : PySem.W.Frag} {T : List Addr} {P2 p sc : Addr} {ns : List Int} {H H' : Hp}
theorem LS.k0 (L : LS K T P2 p sc ns H) (k : Kept [] H H') : LS K T P2 p sc ns H' :=
  ⟨L.S.k0 k, (Kp.of' L.ht k).tab, tabS_by L.t2 fun b o e _ => k b o e (by simp)⟩
theorem LS.draw (L : LS K T P2 p sc ns H) (S : StAt K H' p sc ns) (k : Kept [p] H H') : LS K T P2 p sc ns H' := by
  obtain ⟨xs, ep⟩ := L.S.ob
  have np : ∀ {b : Addr} {o : HO}, H b = some o → (∀ xs, o ≠ .lst xs) → b ∉ [p] := fun {b o} e n hm => by
    rw [List.mem_singleton.mp hm, ep] at e
    exact n _ (Option.some.inj e).symm
  refine ⟨S, fun P hP => ?_, tabS_by L.t2 fun b o e hb => k b o e (np e fun xs z => ?_)⟩
  · obtain ⟨qs, h2, h3⟩ := L.ht P hP
    exact ⟨qs, k _ _ h2 (np h2 fun _ z => nomatch z), h3⟩
  · rcases hb with rfl | ⟨q, rfl⟩
    · obtain ⟨ps, e2, _⟩ := L.t2
      rw [e, z] at e2
      cases e2
    · exact codeO_lst z
theorem LS.lam (L : LS K T P2 p sc ns H) (nT2 : P2 ∉ T) (k : ∀ b o, H b = some o → b ≠ P2 → H' b = some o) (t2' : TabS H' P2 qLaw) : LS K T P2 p sc ns H' := by
  have r : ∀ b o, H b = some o → (∀ ps, o ≠ .tbl ps) → H' b = some o := fun b o e m => k b o e fun z => by
    obtain ⟨ps, e2, _⟩ := L.t2
    rw [← z, e] at e2
    exact m ps (Option.some.inj e2)
  obtain ⟨i, r', m, h, h1, h2, h3⟩ := L.S
  refine ⟨⟨i, r', m, r _ _ h (fun _ q => nomatch q), h1, h2, ?_⟩, fun P' hP => ?_, t2'⟩
  · rcases h3 with (h3 | ⟨ob, h3⟩) | h3
    · exact .inl (.inl (r _ _ h3 (fun _ q => nomatch q)))
    · exact .inl (.inr ⟨ob, r _ _ h3 (fun _ q => nomatch q)⟩)
    · exact .inr h3
  · obtain ⟨qs, e1, e2⟩ := L.ht P' hP
    exact ⟨qs, k _ _ e1 (fun z => nT2 (z ▸ hP)), e2⟩
theorem tabS_kp {P1 : Addr} {q : Str} (hT : LamX.TabS H P1 q) (n : P1 ∉ T) (ht : ∀ P ∈ T, TabG H P) (k : Kp T H H') : LamX.TabS H' P1 q := by
  obtain ⟨ps, e, tri, all⟩ := hT
  refine ⟨ps, k.keep _ _ e n, tri, fun p cv h => ?_⟩
  obtain ⟨c, e1, e2⟩ := all p cv h
  exact ⟨c, e1, k.obj ht e2 (fun ps z => LamX.codeO_ne ps z)⟩
theorem LS.kp (L : LS K T P2 p sc ns H) (nT2 : P2 ∉ T) (k : Kp T H H') : LS K T P2 p sc ns H' := by
  obtain ⟨i, r, m, h, h1, h2, h3⟩ := L.S
  refine ⟨⟨i, r, m, k.obj L.ht h, h1, h2, ?_⟩, k.tab, tabS_kp L.t2 nT2 L.ht k⟩
  rcases h3 with (h3 | ⟨ob, h3⟩) | h3
  · exact .inl (.inl (k.obj L.ht h3))
  · exact .inl (.inr ⟨ob, k.obj L.ht h3⟩)
  · exact .inr h3
/-- a list that is neither the draws' nor the script is written -/
theorem LS.put (L : LS K T P2 p sc ns H) {l : Addr} {os xs : List V} (h : H l = some (.lst os)) (hp : l ≠ p) (hs : NS K sc ns l) : LS K T P2 p sc ns (L2.upd H l (.lst xs)) := by
  have nl : ∀ {b : Addr} {o : HO}, H b = some o → (∀ xs, o ≠ .lst xs) → b ≠ l := fun {b o} e n z => by
    rw [z, h] at e
    exact n _ (Option.some.inj e).symm
  obtain ⟨i, r, m, e, h1, h2, h3⟩ := L.S
  refine ⟨⟨i, r, m, (upd_ne (Ne.symm hp)).trans e, h1, h2, ?_⟩, fun P hP => ?_, tabS_by L.t2 fun b o e hb => (upd_ne (nl e fun xs z => ?_)).trans e⟩
  · rcases hs with hs | hs
    · rcases h3 with (h3 | ⟨ob, h3⟩) | h3
      · exact .inl (.inl ((upd_ne (Ne.symm hs)).trans h3))
      · exact .inl (.inr ⟨ob, (upd_ne (Ne.symm hs)).trans h3⟩)
      · exact .inr h3
    · exact hs _
  · obtain ⟨qs, e1, e2⟩ := L.ht P hP
    exact ⟨qs, (upd_ne (nl e1 fun _ z => nomatch z)).trans e1, e2⟩
  · rcases hb with rfl | ⟨q, rfl⟩
    · obtain ⟨ps, e2, _⟩ := L.t2
      rw [e, z] at e2
      cases e2
    · exact codeO_lst z
/-- from one such state to another -/
theorem LS.tk (L : LS K T P2 p sc ns H) (L' : LS K T P2 p sc ns H') (r : Rl p H H') : Tk H H' := .rl r L.S.ob L'.S.ob
/-- the text -/
structure Tx (b : Addr) (rs : List Rw) (H : Hp) : Prop where
  tx : TextAt H b rs
  few : ∀ r ∈ rs, r.few
  len : rs.length ≤ 10
theorem Tx.tk {b : Addr} {rs : List Rw} (X : Tx b rs H) (k : Tk H H') : Tx b rs H' := ⟨tx_tk k X.tx, X.few, X.len⟩
/-- the steps that follow -/
structure Sx (l : Addr) (rs : List Rw) (us : List V) (ss : List Say) (nn : List Nat) (H : Hp) : Prop where
  hl : H l = some (.lst us)
  good : GoodTo H rs us ss us.length
  nums : NumsAt H us nn
  lt : ∀ n ∈ nn, n < rs.length
  few : ∀ s ∈ ss, s.few ∧ s ≠ .clash
  ds : ∀ v ∈ us, DS H v
theorem Sx.mv {l : Addr} {rs : List Rw} {us : List V} {ss : List Say} {nn : List Nat} (X : Sx l rs us ss nn H) (k : Tk H H') (h : H' l = some (.lst us)) : Sx l rs us ss nn H' := ⟨h, X.good.tk k, X.nums.tk k, X.lt, X.few, fun v hv => (X.ds v hv).tk k⟩
theorem Sx.rl {l : Addr} {rs : List Rw} {us : List V} {ss : List Say} {nn : List Nat} (X : Sx l rs us ss nn H) (L : LS K T P2 p sc ns H) (L' : LS K T P2 p sc ns H') (r : Rl p H H') (hp : l ≠ p) : Sx l rs us ss nn H' := X.mv (L.tk L' r) (r _ _ X.hl hp (fun _ z => nomatch z))
theorem Sx.nil {l : Addr} {rs : List Rw} (h : H l = some (.lst [])) : Sx l rs [] [] [] H := ⟨h, ⟨(fun i s e => by simp at e), rfl, Nat.le_refl _, (fun i v hi => by simp at hi)⟩, .nil, by simp, by simp, by simp⟩
theorem Sx.push {l : Addr} {rs : List Rw} {us : List V} {ss : List Say} {nn : List Nat} {v : V} (X : Sx l rs us ss nn H) (g : GS rs ss true H v) : ∃ x n, Sx l rs (us ++ [v]) (ss ++ [x]) (nn ++ [n]) (L2.upd H l (.lst (us ++ [v]))) := by
  obtain ⟨x, n, os, d, O, hx, hS⟩ := g
  obtain ⟨fx, ln⟩ := hx rfl
  have k : Tk H (L2.upd H l (.lst (us ++ [v]))) := .put X.hl
  have G := X.good.tk k
  have hsl := X.good.len
  refine ⟨x, n, upd_same, ⟨fun i s e => ?_, by rw [List.length_append, List.length_append, hsl]; rfl, Nat.le_refl _, fun i u hi e => ?_⟩, ?_, fun m hm => ?_, fun s hs => ?_, fun u hu => ?_⟩
  · by_cases hi : i < ss.length
    · rw [List.getElem?_append_left hi] at e
      obtain ⟨a, sa, nv, av, e1, e2⟩ := G.ah i s e
      exact ⟨a, sa, nv, av, by rw [List.getElem?_append_left (by omega)]; exact e1, e2⟩
    · have hi2 : i = ss.length := by
        have := (List.getElem?_eq_some_iff.mp e).1
        rw [List.length_append] at this
        simp at this
        omega
      subst hi2
      rw [List.getElem?_append_right (Nat.le_refl _), Nat.sub_self] at e
      cases e
      obtain ⟨a, sa, t, rfl, h1, h2, h3, _⟩ := d.tk k
      refine ⟨a, sa, _, _, ?_, h1, h2, O.ok, O.nc⟩
      rw [hsl, List.getElem?_append_right (Nat.le_refl _), Nat.sub_self]
      rfl
  · rw [List.length_append] at hi
    simp at hi
    by_cases h2 : i < us.length
    · rw [List.getElem?_append_left h2] at e
      rw [List.take_append_of_le_length (by omega)]
      exact G.ok i u h2 e
    · have h3 : i = us.length := by omega
      subst h3
      rw [List.getElem?_append_right (Nat.le_refl _), Nat.sub_self] at e
      cases e
      rw [← hsl, List.take_left]
      exact hS.tk k
  · refine paired_app (X.nums.tk k) (.cons ?_ .nil)
    obtain ⟨a, sa, t, e, h1, _⟩ := d.tk k
    exact ⟨a, _, _, e, h1⟩
  · rcases List.mem_append.mp hm with h | h
    · exact X.lt m h
    · rw [List.mem_singleton.mp h]; exact ln
  · rcases List.mem_append.mp hs with h | h
    · exact X.few s h
    · rw [List.mem_singleton.mp h]; exact ⟨fx, O.nc⟩
  · rcases List.mem_append.mp hu with h | h
    · exact (X.ds u h).tk k
    · rw [List.mem_singleton.mp h]
      exact DS.tk k ⟨x, n, os, d, O.ok⟩
/-- what is refused -/
theorem w_steps {cE : Nat → Addr} {C : Addr} {Q : VK} {j : Nat} (hC : cE 3 = C) (h : ∀ H1 H' q, Kp T H H1 → Kept [] H1 H' → H' q = none → Q (.ref q) (L2.upd H' q (.tup [.str "steps", .int (j : Int)]))) : wRow (EWG cE Q) C T H j := fun H1 d kp nd =>
  ⟨3, .int (j : Int), by decide, by rw [hC], .inl ⟨rfl, d, (j : Int), rfl, upd_same, rfl⟩, fun H' q k nq => h _ H' q (kp.upd nd) k nq⟩
end
/-! ### the numbers, rising -/
theorem asc_eqI : ∀ {a b : List Int}, a.Pairwise (· < ·) → b.Pairwise (· < ·) → (∀ x, x ∈ a ↔ x ∈ b) → a = b
  | [], [], _, _, _ => rfl
  | [], y :: b, _, _, h => nomatch (h y).mpr List.mem_cons_self
  | x :: a, [], _, _, h => nomatch (h x).mp List.mem_cons_self
  | x :: a, y :: b, ha, hb, h => by
    obtain ⟨a1, a2⟩ := List.pairwise_cons.mp ha
    obtain ⟨b1, b2⟩ := List.pairwise_cons.mp hb
    have e : x = y := by
      rcases List.mem_cons.mp ((h x).mp List.mem_cons_self) with e | hx
      · exact e
      · rcases List.mem_cons.mp ((h y).mpr List.mem_cons_self) with e | hy
        · exact e.symm
        · have := b1 x hx
          have := a1 y hy
          omega
    subst e
    congr 1
    refine asc_eqI a2 b2 fun z => ⟨fun hz => ?_, fun hz => ?_⟩
    · rcases List.mem_cons.mp ((h z).mp (List.mem_cons_of_mem _ hz)) with e | q
      · have := a1 z hz; omega
      · exact q
    · rcases List.mem_cons.mp ((h z).mpr (List.mem_cons_of_mem _ hz)) with e | q
      · have := b1 z hz; omega
      · exact q
def numK (nn : List Nat) : List (Key × V) := nn.map fun (n : Nat) => ((Sum.inl (n : Int) : Key), V.bl true)
theorem keys_of : ∀ (nn : List Nat) (acc : List (Key × V)) (ks : List Int), acc.map (·.1) = ks.map Sum.inl → ks.Nodup → ∃ ks' : List Int, (mergeK acc (numK nn)).map (·.1) = ks'.map Sum.inl ∧ ks'.Nodup ∧ ks'.length ≤ ks.length + nn.length ∧ ∀ k : Int, k ∈ ks' ↔ k ∈ ks ∨ ∃ n ∈ nn, k = (n : Int)
  | [], acc, ks, h, nd => ⟨ks, h, nd, by simp, by simp⟩
  | n :: nn, acc, ks, h, nd => by
    have hm : ∀ k : Int, (Sum.inl k : Key) ∈ acc.map (·.1) ↔ k ∈ ks := fun k => by
      rw [h]
      simp
    have step : ∃ ks1 : List Int, (putK acc (Sum.inl (n : Int) : Key) (V.bl true)).map (·.1) = ks1.map Sum.inl ∧ ks1.Nodup ∧ ks1.length ≤ ks.length + 1 ∧ ∀ k : Int, k ∈ ks1 ↔ k ∈ ks ∨ k = (n : Int) := by
      unfold putK
      by_cases hk : (acc.any fun kv => decide (kv.1 = (Sum.inl (n : Int) : Key))) = true
      · rw [if_pos hk]
        have mem : (n : Int) ∈ ks := by
          obtain ⟨kv, h1, h2⟩ := List.any_eq_true.mp hk
          exact (hm _).mp (List.mem_map.mpr ⟨kv, h1, of_decide_eq_true h2⟩)
        refine ⟨ks, ?_, nd, by omega, fun k => ⟨.inl, fun h => h.elim id fun e => by rw [e]; exact mem⟩⟩
        rw [← h, List.map_map]
        refine List.map_congr_left fun kv _ => ?_
        simp only [Function.comp_apply]
        split
        · rename_i q; exact q.symm ▸ rfl
        · rfl
      · rw [if_neg hk]
        have mem : (n : Int) ∉ ks := fun q => hk (by
          obtain ⟨kv, h1, h2⟩ := List.mem_map.mp ((hm _).mpr q)
          exact List.any_eq_true.mpr ⟨kv, h1, decide_eq_true h2⟩)
        refine ⟨ks ++ [(n : Int)], by rw [List.map_append, List.map_append, h]; rfl, ?_, by rw [List.length_append]; simp, fun k => by rw [List.mem_append]; simp⟩
        rw [List.nodup_append]
        exact ⟨nd, by simp, fun a ha b hb => by rw [List.mem_singleton.mp hb]; exact fun e => mem (e ▸ ha)⟩
    obtain ⟨ks1, a1, a2, a3, a4⟩ := step
    obtain ⟨ks2, b1, b2, b3, b4⟩ := keys_of nn _ ks1 a1 a2
    refine ⟨ks2, b1, b2, by rw [List.length_cons]; omega, fun k => ?_⟩
    rw [b4, a4]
    constructor
    · rintro ((h | h) | ⟨m, hm, e⟩)
      · exact .inl h
      · exact .inr ⟨n, List.mem_cons_self, h⟩
      · exact .inr ⟨m, List.mem_cons_of_mem _ hm, e⟩
    · rintro (h | ⟨m, hm, e⟩)
      · exact .inl (.inl h)
      · rcases List.mem_cons.mp hm with rfl | hm
        · exact .inl (.inr e)
        · exact .inr ⟨m, hm, e⟩
theorem asc_of {ys ks : List Int} (h : ys.Perm ks) (nd : ks.Nodup) (le : ys.Pairwise (· ≤ ·)) : ys.Pairwise (· < ·) :=
  (le.and (h.nodup_iff.mpr nd)).imp fun {a b} ⟨h1, h2⟩ => by
    have : a ≠ b := h2
    omega
/-- while what may come next is gathered -/
structure BI (K : PySem.W.Frag) (T : List Addr) (P2 p sc b l : Addr) (ns : List Int) (ys us : List V) (rs : List Rw) (ss : List Say) (nn : List Nat) (so : Addr) (m : Nat) (H : Hp) : Prop where
  L : LS K T P2 p sc ns H
  X : Stat b l ys us rs ss H
  tx : Tx b rs H
  sx : Sx l rs us ss nn H
  so_ : ∃ os, H so = some (.lst os) ∧ os.length ≤ m ∧ ∀ v ∈ os, GS rs ss true H v
  n1 : so ≠ p
section
variable {K : PySem.W.Frag} {T : List Addr} {P2 p sc b l so : Addr} {ns : List Int} {ys us : List V} {rs : List Rw} {ss : List Say} {nn : List Nat} {m : Nat} {H H' : Hp}
theorem BI.mono (N : BI K T P2 p sc b l ns ys us rs ss nn so m H) {n : Nat} (h : m ≤ n) : BI K T P2 p sc b l ns ys us rs ss nn so n H := ⟨N.L, N.X, N.tx, N.sx, let ⟨os, e, h1, g⟩ := N.so_; ⟨os, e, Nat.le_trans h1 h, g⟩, N.n1⟩
theorem BI.k0 (N : BI K T P2 p sc b l ns ys us rs ss nn so m H) (k : Kept [] H H') : BI K T P2 p sc b l ns ys us rs ss nn so m H' :=
  ⟨N.L.k0 k, N.X.mv (.k0 k) (k _ _ N.X.hl (by simp)), N.tx.tk (.k0 k), N.sx.mv (.k0 k) (k _ _ N.sx.hl (by simp)), let ⟨os, e, h, g⟩ := N.so_; ⟨os, k _ _ e (by simp), h, fun v hv => (g v hv).tk v _ _ (.k0 k)⟩, N.n1⟩
theorem BI.some_ (N : BI K T P2 p sc b l ns ys us rs ss nn so m H) {so2 : Addr} {os vs : List V} {c : Nat} (hf : Kept [] H H') (nf : H' so2 = none) (h : H' so = some (.lst os)) (hc : vs.length ≤ c) (hv : ∀ v ∈ vs, GS rs ss true H' v) : BI K T P2 p sc b l ns ys us rs ss nn so2 (m + c) (L2.upd H' so2 (.lst (os ++ vs))) := by
  have ku := (Kept.refl (M := []) H').upd (o := .lst (os ++ vs)) nf
  have N1 := N.k0 hf
  have N2 := N1.k0 ku
  obtain ⟨os', e, hl, g⟩ := N1.so_
  rw [h] at e
  cases e
  refine ⟨N2.L, N2.X, N2.tx, N2.sx, ⟨os ++ vs, upd_same, by rw [List.length_append]; omega, fun u hu => ?_⟩, fun z => ?_⟩
  · rcases List.mem_append.mp hu with h | h
    · exact (g u h).tk _ _ _ (.k0 ku)
    · exact (hv u h).tk _ _ _ (.k0 ku)
  · obtain ⟨xs, e⟩ := N1.L.S.ob
    rw [z, e] at nf
    cases nf
end
theorem say_cases {r : Rw} (fr : r.few) : (∃ x : Say, x.few ∧ x ≠ .clash ∧ ∃ hd rest, r.ws = hd :: rest ∧ x.ws = r.ws ∧ inV (V.str hd) [.str "is", .str "has"] = true) ∨ ∃ hd rest, r.ws = hd :: rest ∧ inV (V.str hd) [.str "is", .str "has"] = false := by
  cases r with
  | is n k => exact .inl ⟨.is n k, fr, (fun z => nomatch z), _, _, rfl, rfl, by decide +kernel⟩
  | has n t m => exact .inl ⟨.has n t m, fr, (fun z => nomatch z), _, _, rfl, rfl, by decide +kernel⟩
  | isnt _ _ => exact .inr ⟨_, _, rfl, by decide +kernel⟩
  | hasnt _ _ _ => exact .inr ⟨_, _, rfl, by decide +kernel⟩
  | all _ _ => exact .inr ⟨_, _, rfl, by decide +kernel⟩
  | no _ _ => exact .inr ⟨_, _, rfl, by decide +kernel⟩
  | each _ _ _ => exact .inr ⟨_, _, rfl, by decide +kernel⟩
  | who _ _ _ => exact .inr ⟨_, _, rfl, by decide +kernel⟩
  | turned _ _ => exact .inr ⟨_, _, rfl, by decide +kernel⟩
  | on _ => exact .inr ⟨_, _, rfl, by decide +kernel⟩
  | fr _ _ => exact .inr ⟨_, _, rfl, by decide +kernel⟩
  | to _ _ => exact .inr ⟨_, _, rfl, by decide +kernel⟩
  | under _ _ => exact .inr ⟨_, _, rfl, by decide +kernel⟩
/-! ### what is due -/
theorem Tx.words {b : Addr} {rs : List Rw} {H : Hp} (X : Tx b rs H) : rs.length ≤ 24 ∧ (∀ r ∈ rs, okW r.ws) ∧ ∀ r ∈ rs, isRowL (r.ws.map V.str) = true ∧ ∀ z ∈ r.ws, z.length ≤ 100 := ⟨Nat.le_trans X.len (by decide), fun r hr => few_ok (X.few r hr), fun r hr => few_rowB (X.few r hr)⟩
theorem Rl.far {p lf : Addr} {H1 H2 : Hp} {o o' : HO} (n : H1 lf = none) (r : Rl p (L2.upd H1 lf o) H2) : Rl p H1 (L2.upd H2 lf o') := fun b ob e nb m => by
  have z : b ≠ lf := fun z => by rw [z, n] at e; cases e
  exact (upd_ne z).trans (r b ob ((upd_ne z).trans e) nb m)
structure DueN (p : Addr) (us : List V) (nn : List Nat) (d e sa q : Addr) (ms : List Int) (H : Hp) : Prop where
  hd : H d = some (.tup [.str "", .ref e])
  he : H e = some (.tup [.ref sa, .ref q])
  hq : H q = some (.lst (ms.map V.int))
  asc : ms.Pairwise (· < ·)
  mem : ∀ k : Int, k ∈ ms ↔ ∃ n ∈ nn, k = (n : Int)
  last : ∃ a nv av, us[us.length - 1]? = some (.ref a) ∧ H a = some (.tup [.ref sa, nv, av])
  len : ms.length ≤ 24
  np : q ≠ p
def DueOk (p : Addr) (us : List V) (nn : List Nat) (d : Addr) (H : Hp) : Prop := (us = [] ∧ H d = some (.tup [.str "steps", .int 0])) ∨ (us ≠ [] ∧ ∃ e sa q ms, DueN p us nn d e sa q ms H)
theorem DueN.rl {p d e sa q : Addr} {us : List V} {nn : List Nat} {ms : List Int} {H H' : Hp} (D : DueN p us nn d e sa q ms H) (t : Tk H H') (r : Rl p H H') : DueN p us nn d e sa q ms H' :=
  ⟨t.tup _ _ D.hd, t.tup _ _ D.he, r _ _ D.hq D.np (fun _ z => nomatch z), D.asc, D.mem, let ⟨a, nv, av, e1, e2⟩ := D.last; ⟨a, nv, av, e1, t.tup _ _ e2⟩, D.len, D.np⟩
section
variable {K : PySem.W.Frag} {H : Hp}
theorem at_flat : ∀ {xs : List V}, (∀ x ∈ xs, Flat x) → Paired (At K H 0) xs xs
  | [], _ => .nil
  | x :: xs, h => .cons ⟨rfl, h x List.mem_cons_self⟩ (at_flat fun y hy => h y (List.mem_cons_of_mem _ hy))
theorem at_strs (zs : List Str) : Paired (At K H 0) (zs.map V.str) (zs.map V.str) := at_flat fun x hx => by
  obtain ⟨z, _, rfl⟩ := List.mem_map.mp hx
  trivial
theorem at_ints (zs : List Int) : Paired (At K H 0) (zs.map V.int) (zs.map V.int) := at_flat fun x hx => by
  obtain ⟨z, _, rfl⟩ := List.mem_map.mp hx
  trivial
theorem at_steps {q d : Addr} {j : Int} (hq : H q = some (.tup [.str "steps", .int j])) (hd : H d = some (.tup [.str "steps", .int j])) : At K H 3 (.ref q) (.ref d) :=
  .inr ⟨q, d, _, _, rfl, rfl, .inl ⟨SqT.of hq, SqT.of hd⟩, by show (2 : Nat) ≤ 1000000; decide, .cons (.inl ⟨rfl, trivial⟩) (.cons (.inl ⟨rfl, trivial⟩) .nil)⟩
theorem Say.wlen (s : Say) : s.ws.length ≤ 10 := by cases s <;> simp [Say.ws]
theorem Sx.last {l : Addr} {rs : List Rw} {us : List V} {ss : List Say} {nn : List Nat} (X : Sx l rs us ss nn H) (ne : us ≠ []) : ∃ a sa nv av s, us[us.length - 1]? = some (.ref a) ∧ H a = some (.tup [.ref sa, nv, av]) ∧ H sa = some (.tup (s.ws.map V.str)) ∧ ss[ss.length - 1]? = some s := by
  have hl : ss.length = us.length := X.good.len
  have hp : 0 < us.length := List.length_pos_iff.mpr ne
  have e : ss[ss.length - 1]? = some ss[ss.length - 1] := List.getElem?_eq_getElem (by omega)
  obtain ⟨a, sa, nv, av, e1, e2, e3, _⟩ := X.good.ah _ _ e
  rw [hl] at e1
  exact ⟨a, sa, nv, av, _, e1, e2, e3, e⟩
theorem at_due {p d e sa q l : Addr} {us : List V} {nn : List Nat} {ms : List Int} {rs : List Rw} {ss : List Say} (D : DueN p us nn d e sa q ms H) (Y : Sx l rs us ss nn H) (ne : us ≠ []) {f t sa' p' : Addr} {ms' : List Int} (hf : H f = some (.tup [.str "", .ref t])) (ht : H t = some (.tup [.ref sa', .ref p'])) (hp : H p' = some (.lst (ms'.map V.int))) (asc' : ms'.Pairwise (· < ·)) (mem' : ∀ k : Int, k ∈ ms' ↔ ∃ n ∈ nn, k = (n : Int)) (last' : ∃ a nv av, us[us.length - 1]? = some (.ref a) ∧ H a = some (.tup [.ref sa', nv, av])) : At K H 3 (.ref f) (.ref d) := by
  obtain ⟨a, nv, av, e1, e2⟩ := D.last
  obtain ⟨a', nv', av', e1', e2'⟩ := last'
  rw [e1] at e1'
  cases e1'
  rw [e2] at e2'
  cases e2'
  obtain rfl : ms = ms' := asc_eqI D.asc asc' fun k => by rw [D.mem, mem']
  obtain ⟨a2, sa2, nv2, av2, s, g1, g2, g3, _⟩ := Y.last ne
  rw [e1] at g1
  cases g1
  rw [e2] at g2
  cases g2
  have hl : (s.ws.map V.str).length ≤ 1000000 := by
    rw [List.length_map]
    exact Nat.le_trans (Say.wlen s) (by decide)
  have hm : (ms.map V.int).length ≤ 1000000 := by
    rw [List.length_map]
    exact Nat.le_trans D.len (by decide)
  exact .inr ⟨f, d, _, _, rfl, rfl, .inl ⟨SqT.of hf, SqT.of D.hd⟩, by show (2 : Nat) ≤ 1000000; decide, .cons (.inl ⟨rfl, trivial⟩) (.cons (.inr ⟨t, e, _, _, rfl, rfl, .inl ⟨SqT.of ht, SqT.of D.he⟩, by show (2 : Nat) ≤ 1000000; decide,
    .cons (.inr ⟨sa, sa, _, _, rfl, rfl, .inl ⟨SqT.of g3, SqT.of g3⟩, hl, at_strs _⟩) (.cons (.inr ⟨p', q, _, _, rfl, rfl, .inr ⟨hp, D.hq⟩, hm, at_ints _⟩) .nil)⟩) .nil)⟩
end
/-! ### steps with one set in, and too many of them -/
theorem Good.ins {H H' : Hp} {rs : List Rw} {us : List V} {ss : List Say} {n : Nat} (G : GoodTo H rs us ss us.length) (hn : n ≤ us.length) (t : Tk H H') (bad : V) : GoodTo H' rs (us.take n ++ [bad] ++ us.drop n) (ss.take n) n := by
  have hl := G.len
  have G2 := G.tk t
  have at_ : ∀ i, i < n → (us.take n ++ [bad] ++ us.drop n)[i]? = us[i]? := fun i hi => by
    rw [List.append_assoc, List.getElem?_append_left (by rw [List.length_take]; omega), List.getElem?_take_of_lt hi]
  refine ⟨fun i s e => ?_, by rw [List.length_take]; omega, by simp; omega, fun i v hi e => ?_⟩
  · have hi : i < n := by
      have := (List.getElem?_eq_some_iff.mp e).1
      rw [List.length_take] at this
      omega
    rw [List.getElem?_take_of_lt hi] at e
    obtain ⟨a, sa, nv, av, e1, e2⟩ := G2.ah i s e
    exact ⟨a, sa, nv, av, by rw [at_ i hi]; exact e1, e2⟩
  · rw [at_ i hi] at e
    rw [List.take_take, Nat.min_eq_left (by omega)]
    exact G2.ok i v (by omega) e
theorem ins_at {us : List V} {n : Nat} (hn : n ≤ us.length) (bad : V) : (us.take n ++ [bad] ++ us.drop n)[n]? = some bad := by
  rw [List.append_assoc, List.getElem?_append_right (by rw [List.length_take]; omega), List.length_take, Nat.min_eq_left hn, Nat.sub_self]
  rfl
/-! ### what is none -/
def NoStX (p : Addr) (H : Hp) (v : V) : Prop := v = .non ∨ (∃ i, v = .int i) ∨ (∃ a xs, v = .ref a ∧ H a = some (.tup xs)) ∨ ∃ a, v = .ref a ∧ a ≠ p ∧ H a = some (.lst [])
theorem NoStX.rl {p : Addr} {H H' : Hp} {v : V} (t : Tk H H') (r : Rl p H H') (h : NoStX p H v) : NoStX p H' v := by
  rcases h with h | h | ⟨a, xs, e, h⟩ | ⟨a, e, n, h⟩
  · exact .inl h
  · exact .inr (.inl h)
  · exact .inr (.inr (.inl ⟨a, xs, e, t.tup _ _ h⟩))
  · exact .inr (.inr (.inr ⟨a, e, n, r _ _ h n (fun _ z => nomatch z)⟩))
theorem NoStX.no {p : Addr} {H : Hp} {v : V} (h : NoStX p H v) : NoSteps H v := by
  rcases h with h | h | h | ⟨a, e, _, h⟩
  · exact .inl h
  · exact .inr (.inl h)
  · exact .inr (.inr (.inl h))
  · exact .inr (.inr (.inr ⟨a, e, h⟩))
def dStp (j : Int) : PyData := .tuple [.str "steps", .int j]
theorem dp_stp {K : PySem.W.Frag} {H : Hp} {a : Addr} {j : Int} (h : H a = some (.tup [.str "steps", .int j])) : Dp K H (.ref a) (dStp j) := .tup (.inl (.of h)) (.cons (.str _) (.cons (.int _) .nil))
/-! ### too many steps -/
abbrev x0 : Say := .is "ann" "cat"
abbrev r0 : Rw := .is "ann" "cat"
theorem x0_few : x0.few := ⟨by decide, by decide⟩
theorem r0_few : r0.few := ⟨by decide, by decide⟩
theorem x0_ok : SayOk x0 := few_say x0_few (fun z => nomatch z)
theorem rep_flat {α : Type} (v : α) : ∀ n : Nat, (List.replicate n [v]).flatten = List.replicate n v
  | 0 => rfl
  | n + 1 => by rw [List.replicate_succ, List.flatten_cons, rep_flat v n]; rfl
theorem paired_rep {α β : Type} {R : α → β → Prop} {a : α} {b : β} (h : R a b) : ∀ n : Nat, Paired R (List.replicate n a) (List.replicate n b)
  | 0 => .nil
  | n + 1 => by rw [List.replicate_succ, List.replicate_succ]; exact .cons h (paired_rep h n)
/-- the step again and again -/
structure MS (s t st l : Addr) (H : Hp) : Prop where
  hs : H s = some (.tup (x0.ws.map V.str))
  ht : H t = some (.tup [])
  hst : H st = some (.tup [.ref s, .int ((0 : Nat) : Int), .ref t])
  hl : H l = some (.lst (List.replicate 200 (V.ref st)))
theorem MS.mv {s t st l : Addr} {H H' : Hp} (M : MS s t st l H) (k : Tk H H') (hl : H' l = some (.lst (List.replicate 200 (V.ref st)))) : MS s t st l H' := ⟨k.tup _ _ M.hs, k.tup _ _ M.ht, k.tup _ _ M.hst, hl⟩
theorem MS.good {s t st l : Addr} {H : Hp} (M : MS s t st l H) {us : List V} (hl : 200 ≤ us.length) (hu : ∀ i, i < 200 → us[i]? = some (.ref st)) : GoodTo H [r0] us (List.replicate 200 x0) 200 := by
  refine ⟨fun i s' e => ?_, List.length_replicate, hl, fun i v hi e => ?_⟩
  · have hi : i < 200 := by
      have := (List.getElem?_eq_some_iff.mp e).1
      rw [List.length_replicate] at this
      exact this
    rw [List.getElem?_replicate, if_pos hi] at e
    cases e
    exact ⟨st, s, _, _, hu i hi, M.hst, M.hs, x0_ok.ok, x0_ok.nc⟩
  · rw [hu i hi] at e
    cases e
    have q := step_T (ah := []) (rs := [r0]) (ss := (List.replicate 200 x0).take i) (r := r0) (n := 0) M.hst M.hs x0_ok rfl M.ht (by simp) (by simp)
    rw [show ByB r0 (([] : List Nat).map fun j => ((List.replicate 200 x0).take i).getD j .clash) x0 = true from decide_eq_true (show x0.ws = r0.ws from rfl)] at q
    exact q
theorem MS.nums {s t st l : Addr} {H : Hp} (M : MS s t st l H) : NumsAt H (List.replicate 200 (V.ref st)) (List.replicate 200 0) := paired_rep ⟨st, _, _, rfl, M.hst⟩ 200
theorem r0_words : ([r0] : List Rw).length ≤ 24 ∧ (∀ r ∈ [r0], okW r.ws) ∧ ∀ r ∈ [r0], isRowL (r.ws.map V.str) = true ∧ ∀ z ∈ r.ws, z.length ≤ 100 := ⟨by decide, fun r hr => by rw [List.mem_singleton.mp hr]; exact few_ok r0_few, fun r hr => by rw [List.mem_singleton.mp hr]; exact few_rowB r0_few⟩
def dGood : PyData := .tuple [sayD x0, .list [.int 0]]
theorem dp_good {K : PySem.W.Frag} {H : Hp} {t sa p : Addr} (ht : H t = some (.tup [.ref sa, .ref p])) (hs : H sa = some (.tup (x0.ws.map V.str))) (hp : H p = some (.lst [.int 0])) : Dp K H (.ref t) dGood :=
  .tup (.inl (.of ht)) (.cons (.tup (.inl (.of hs)) (dpStrs _)) (.cons (.lst (.inl (.of hp)) (.cons (.int 0) .nil)) .nil))
end Ah
end
section
set_option Elab.async false
set_option linter.all false
set_option maxRecDepth 100000
set_option maxHeartbeats 4000000
namespace Ah
open PySem PySem.Spec PyProof.Rows L2 LamX
open GxR (TabG)
section
variable {P : Program} {w : World} {K : PySem.W.Frag} {mg : Str → Option Value} {base : Heap} {f c P2 f1 f2 f3 f4 f5 f6 f7 f9 gW CA C fRd : Addr} {fd fd1 fd2 fd3 fd4 fd5 fd6 fd7 fd9 fdW fdRd : FuncData} {T : List Addr} {cE : Nat → Addr}
theorem ok_law (F : FnP K "law" lLaw f fd) (hc : fd.code = .ref c) (TB : TabB base mg c P2) (nT2 : P2 ∉ T) (B : Bl mg) (cRow : Own P w K mg base "_law_row" 1 f1 fd1 ["_law_script"] (spLRow K)) (cText : Own P w K mg base "_law_text" 3 f2 fd2 ["_law_row_here", "_law_many"] (spText K))
    (cTaken : Own P w K mg base "_law_taken" 1 f3 fd3 ["_law_row_here", "_law_many"] (spTaken K)) (cLed : Own P w K mg base "_law_led" 1 f4 fd4 ["_law_one_here", "_law_x"] (spLed K)) (cBoth : Own P w K mg base "_law_both" 1 f5 fd5 ["_law_one_here", "_law_x", "_law_y"] (spBoth K))
    (cOdd : Own P w K mg base "_law_odd_step" 3 f6 fd6 ["_law_row_here", "_law_rows", "_law_ahead"] (spOddS K)) (cNear : Own P w K mg base "_law_nearly" 2 f7 fd7 ["_law_row_here", "_law_rows", "_law_steps"] (spNear K)) (cAlike : Own P w K mg base "_law_alike" 4 f9 fd9 ["_law_found", "_law_due"] (spAlike K 4))
    (FW : FnP K "_law_word" lWord gW fdW) (gWm : mg "_law_word" = some (.ref gW)) (kW : PySem.W.keepIn K (.ref gW) = true) (bW : L2.Binds K fdW ["_law_work"] []) (WF : WordG K mg CA cE) (hC : cE 3 = C)
    (FRd : FnOk P w K mg base (L2.CX P w) 9 fRd fdRd ["rows", "steps"] (spRead T C)) (gRd : mg "read_steps" = some (.ref fRd)) (kRd : PySem.W.keepIn K (.ref fRd) = true) (bRd : L2.Binds K fdRd ["rows", "steps"] []) :
    FnOk P w K mg base CX0 18 f fd ["_law_script"] (spLaw K T P2) := by
  obtain ⟨woc, wod, wdV, wkV, wdoc, wpm, wan, wcdv, wct, wosl, rfl, wlk, wcd, _, _⟩ := FW.ex
  refine okC F hc scLaw (fun vs H Q E h => ?_) (fun A outer s H vs Q E hr h => ?_)
  · obtain ⟨a, ns, rfl, _⟩ := h
    rfl
  · obtain ⟨sc, ns, rfl, hs, hl, ht, t2, k⟩ := h
    refine ⟨_, PSs.nox (Evl.pss_cut (ps_set (i := 1) scLaw.nd rfl (.inl rfl) (pe_call cRow.ok (hr.mono (by decide)) (by rfl) cRow.g cRow.kp cRow.b .nil pass0 (pa_cons (pv 0) pa_nil)))
      (Evl.pss_cut (ps_for PassesOwn.never rfl (pi_range1 (by rfl) B.range_ (pa_cons pe_int pa_nil)) (pg_name (i := 2) scLaw.nd rfl (Or.inl rfl))
      (Evl.pss_cut (ps_asg (pe_tup (pa_cons (pe_call cText.ok (hr.mono (by decide)) (by rfl) cText.g cText.kp cText.b .nil pass0 (pa_cons (pv 1) (pa_cons pe_int pa_nil))) (pa_cons (pe_lst pa_nil) pa_nil))) (pg_tup rfl (pgs_cons (pg_name (i := 3) scLaw.nd rfl (Or.inr rfl)) (pgs_cons (pg_name (i := 4) scLaw.nd rfl (Or.inr rfl)) pgs_nil))))
      (Evl.pss_cut (ps_for PassesOwn.never rfl (pi_range1 (by rfl) B.range_ (pa_cons (pe_call cTaken.ok (hr.mono (by decide)) (by rfl) cTaken.g cTaken.kp cTaken.b .nil pass0 (pa_cons (pv 1) (pa_cons pe_int pa_nil))) pa_nil)) (pg_name (i := 5) scLaw.nd rfl (Or.inl rfl))
      (Evl.pss_cut (ps_setLc (i := 6) (own := [("_law_n", 7)]) (g := gName 7) rfl scLaw.nd rfl rfl (sw_true rfl rfl rfl (by decide +kernel)) (pi_range1 (by rfl) B.range_ (pa_cons (pe_callB call_len_seq (by rfl) B.len_ (by decide +kernel) (pa_cons (pv 3) pa_nil)) pa_nil)) (blkOk_by (N := lawN) (sc := defScope lLaw) (by decide +kernel)) (fun _ _ _ _ _ => (pg_name (i := 7) scLaw.nd rfl (Or.inl rfl))) (fun _ _ _ _ _ => (pts_one (pt_cmpR (show OpR _ _ (rIn K false) from op_in_seq) (pe_ix (show IxR _ (rIxT K) from ix_tup) (pe_ix (show IxR _ (rIxT K) from ix_tup) (pv 3) (pv 7) (fun _ _ => rfl)) pe_int (fun _ _ => rfl)) (pe_tup (pa_cons pe_str (pa_cons pe_str pa_nil))) (by rfl)))) (fun _ _ _ _ _ => (pe_tup (pa_cons (pe_ix (show IxR _ (rIxT K) from ix_tup) (pv 3) (pv 7) (fun _ _ => rfl)) (pa_cons (pv 7) (pa_cons (pe_tup pa_nil) pa_nil))))))
      (Evl.pss_cut (ps_for PassesOwn.never rfl (pi_range1 (by rfl) B.range_ (pa_cons (pe_callB call_len_seq (by rfl) B.len_ (by decide +kernel) (pa_cons (pv 3) pa_nil)) pa_nil)) (pg_name (i := 7) scLaw.nd rfl (Or.inr rfl))
      (pss_one (ps_for PassesOwn.never rfl (pi_range1 (by rfl) B.range_ (pa_cons (pe_callB call_len_seq (by rfl) B.len_ (by decide +kernel) (pa_cons (pv 4) pa_nil)) pa_nil)) (pg_name (i := 8) scLaw.nd rfl (Or.inr rfl))
      (Evl.pss_cut (ps_set (i := 6) scLaw.nd rfl (.inl rfl) (pe_op op_cat (pv 6) (pe_lc (own := [("_law_x", 16)]) (g := gName 16) rfl scLaw.nd (pi_list (pe_call cLed.ok (hr.mono (by decide)) (by rfl) cLed.g cLed.kp cLed.b .nil pass0 (pa_cons (pe_ix (show IxR _ (rIxT K) from ix_tup) (pv 3) (pv 7) (fun _ _ => rfl)) (pa_cons (pe_ix (show IxR _ (rIxT K) from ix_tup) (pe_ix (show IxR _ (rIxL K) from ix_list) (pv 4) (pv 8) (fun _ _ => rfl)) pe_int (fun _ _ => rfl)) pa_nil)))) (blkOk_by (N := lawN) (sc := defScope lLaw) (by decide +kernel)) (fun _ _ _ _ _ => (pg_name (i := 16) scLaw.nd rfl (Or.inl rfl))) (fun _ _ _ _ _ => pts_nil) (fun _ _ _ _ _ => (pe_tup (pa_cons (pv 16) (pa_cons (pv 7) (pa_cons (pe_tup (pa_cons (pv 8) pa_nil)) pa_nil))))))))
      (pss_one (ps_for PassesOwn.never rfl (pi_range1 (by rfl) B.range_ (pa_cons (pe_callB call_len_seq (by rfl) B.len_ (by decide +kernel) (pa_cons (pv 4) pa_nil)) pa_nil)) (pg_name (i := 9) scLaw.nd rfl (Or.inr rfl))
      (Evl.pss_cut (ps_set (i := 10) scLaw.nd rfl (.inl rfl) (pe_call cBoth.ok (hr.mono (by decide)) (by rfl) cBoth.g cBoth.kp cBoth.b .nil pass0 (pa_cons (pe_ix (show IxR _ (rIxT K) from ix_tup) (pv 3) (pv 7) (fun _ _ => rfl)) (pa_cons (pe_ix (show IxR _ (rIxT K) from ix_tup) (pe_ix (show IxR _ (rIxL K) from ix_list) (pv 4) (pv 8) (fun _ _ => rfl)) pe_int (fun _ _ => rfl)) (pa_cons (pe_ix (show IxR _ (rIxT K) from ix_tup) (pe_ix (show IxR _ (rIxL K) from ix_list) (pv 4) (pv 9) (fun _ _ => rfl)) pe_int (fun _ _ => rfl)) pa_nil)))))
      (pss_one (ps_set (i := 6) scLaw.nd rfl (.inl rfl) (pe_op op_cat (pv 6) (pe_lc (own := [("_law_x", 16)]) (g := gName 16) rfl scLaw.nd (pi_list (pv 10)) (blkOk_by (N := lawN) (sc := defScope lLaw) (by decide +kernel)) (fun _ _ _ _ _ => (pg_name (i := 16) scLaw.nd rfl (Or.inl rfl))) (fun _ _ _ _ _ => pts_nil) (fun _ _ _ _ _ => (pe_tup (pa_cons (pv 16) (pa_cons (pv 7) (pa_cons (pe_tup (pa_cons (pv 8) (pa_cons (pv 9) pa_nil))) pa_nil))))))))))))))))
      (pss_one (ps_if (pt_cmpR (show OpR _ _ (rNeD K) from op_neD hr.units) (pv 6) (pe_lst pa_nil) (nomark _)) (pss_one (ps_expr (pe_bm PySem.F.plainAttrs_list PySem.F.slot_list_append PySem.F.type_list_append mt_append (pv 4) (pa_cons (pe_ix (show IxR _ (rIxL K) from ix_list) (pv 6) (pe_call cTaken.ok (hr.mono (by decide)) (by rfl) cTaken.g cTaken.kp cTaken.b .nil pass0 (pa_cons (pv 1) (pa_cons (pe_callB call_len_seq (by rfl) B.len_ (by decide +kernel) (pa_cons (pv 6) pa_nil)) pa_nil))) (fun _ _ => rfl)) pa_nil)))) pss_nil)))))
      (Evl.pss_cut (ps_set (i := 11) scLaw.nd rfl (.inl rfl) (pe_tup (pa_cons pe_str (pa_cons pe_int pa_nil))))
      (Evl.pss_cut (ps_if (pt_cmpR (show OpR _ _ (rNeD K) from op_neD hr.units) (pv 4) (pe_lst pa_nil) (nomark _)) (pss_one (ps_set (i := 11) scLaw.nd rfl (.inl rfl) (pe_tup (pa_cons pe_str (pa_cons (pe_tup (pa_cons (pe_ix (show IxR _ (rIxT K) from ix_tup) (pe_ix (show IxR _ (rIxL K) from ix_list) (pv 4) (pe_un un_neg pe_int) (fun _ _ => rfl)) pe_int (fun _ _ => rfl)) (pa_cons (pe_callB (call_sortedDI rfl) (by rfl) B.sorted_ (by decide +kernel) (pa_cons (pe_callTy (call_dictP rfl) (by rfl) B.dict_ (by decide +kernel) (pa_cons (pe_lc (own := [("_law_step", 17)]) (g := gName 17) rfl scLaw.nd (pi_list (pv 4)) (blkOk_by (N := lawN) (sc := defScope lLaw) (by decide +kernel)) (fun _ _ _ _ _ => (pg_name (i := 17) scLaw.nd rfl (Or.inl rfl))) (fun _ _ _ _ _ => pts_nil) (fun _ _ _ _ _ => (pe_tup (pa_cons (pe_ix (show IxR _ (rIxT K) from ix_tup) (pv 17) pe_int (fun _ _ => rfl)) (pa_cons pe_bl pa_nil))))) pa_nil)) pa_nil)) pa_nil))) pa_nil))))) pss_nil)
      (Evl.pss_cut (ps_if (pt_not (pt_val (pe_call cAlike.ok (hr.mono (by decide)) (by rfl) cAlike.g cAlike.kp cAlike.b .nil pass0 (pa_cons (pe_word1 (P := P2) (k := 12) (by rfl) gWm kW wlk wcd bW scW2 rfl (.inl rfl) (word_givesG WF) (hr.mono (by decide)) (pe_lamK0 TB rfl (lamSD_by (N := lawN) lamS_ok0).free rfl) (lamSD_by (N := lawN) lamS_ok0) ⟨fun _ _ _ _ _ _ => rfl, fun z => nomatch z⟩ (fun A1 outer1 s1 H1 E1 f1' c1' hr' => (pe_call (X := (lamCx (cxOf CX0 P w K mg base lawN "law" (defScope lLaw) f (.ref c) A outer s H E).nox A1 outer1 s1 H1 E1 (lamS 0) f1' c1')) FRd (hr'.mono (by decide)) (by rfl) gRd kRd bRd .nil (passes_call (takes_of rfl rfl rfl rfl) (fun _ _ _ _ h => h)) (pa_cons (pv 3) (pa_cons (pv 4) pa_nil))))) (pa_cons (pv 11) pa_nil))))) (pss_one (ps_ret pe_bl)) pss_nil)
      (Evl.pss_cut (ps_set (i := 8) scLaw.nd rfl (.inr rfl) (pe_call cTaken.ok (hr.mono (by decide)) (by rfl) cTaken.g cTaken.kp cTaken.b .nil pass0 (pa_cons (pv 1) (pa_cons (pe_op op_add (pe_callB call_len_seq (by rfl) B.len_ (by decide +kernel) (pa_cons (pv 4) pa_nil)) pe_int) pa_nil))))
      (Evl.pss_cut (ps_set (i := 12) scLaw.nd rfl (.inr rfl) (pe_call cOdd.ok (hr.mono (by decide)) (by rfl) cOdd.g cOdd.kp cOdd.b .nil pass0 (pa_cons (pv 1) (pa_cons (pv 3) (pa_cons (pe_slice (show SlR _ (rSlL K) from sl_list) (pv 4) po_none (po_some (pv 8))) pa_nil)))))
      (Evl.pss_cut (ps_if (PW.pt (pw_and (pt_cmpR op_gt (pv 8) pe_int (nomark _)) (pw_and (pt_cmpR op_eq (pv 8) (pe_callB call_len_seq (by rfl) B.len_ (by decide +kernel) (pa_cons (pv 4) pa_nil)) (nomark _)) (pw_and1 (pt_cmpR op_eq (pe_call cTaken.ok (hr.mono (by decide)) (by rfl) cTaken.g cTaken.kp cTaken.b .nil pass0 (pa_cons (pv 1) (pa_cons pe_int pa_nil))) pe_int (nomark _)))))) (pss_one (ps_set (i := 12) scLaw.nd rfl (.inr rfl) (pe_call cNear.ok (hr.mono (by decide)) (by rfl) cNear.g cNear.kp cNear.b .nil pass0 (pa_cons (pv 1) (pa_cons (pv 3) (pa_cons (pv 4) pa_nil)))))) pss_nil)
      (Evl.pss_cut (ps_if (pt_not (pt_val (pe_call cAlike.ok (hr.mono (by decide)) (by rfl) cAlike.g cAlike.kp cAlike.b .nil pass0 (pa_cons (pe_word1 (P := P2) (k := 12) (by rfl) gWm kW wlk wcd bW scW2 rfl (.inl rfl) (word_givesG WF) (hr.mono (by decide)) (pe_lamK0 TB rfl (lamSD_by (N := lawN) lamS_ok1).free rfl) (lamSD_by (N := lawN) lamS_ok1) ⟨fun _ _ _ _ _ _ => rfl, fun z => nomatch z⟩ (fun A1 outer1 s1 H1 E1 f1' c1' hr' => (pe_call (X := (lamCx (cxOf CX0 P w K mg base lawN "law" (defScope lLaw) f (.ref c) A outer s H E).nox A1 outer1 s1 H1 E1 (lamS 1) f1' c1')) FRd (hr'.mono (by decide)) (by rfl) gRd kRd bRd .nil (passes_call (takes_of rfl rfl rfl rfl) (fun _ _ _ _ h => h)) (pa_cons (pv 3) (pa_cons (pe_op op_cat (pe_op op_cat (pe_slice (show SlR _ (rSlL K) from sl_list) (pv 4) po_none (po_some (pv 8))) (pe_lst (pa_cons (pv 12) pa_nil))) (pe_slice (show SlR _ (rSlL K) from sl_list) (pv 4) (po_some (pv 8)) po_none)) pa_nil))))) (pa_cons (pe_tup (pa_cons pe_str (pa_cons (pv 8) pa_nil))) pa_nil))))) (pss_one (ps_ret pe_bl)) pss_nil)
      (Evl.pss_cut (ps_set (i := 13) scLaw.nd rfl (.inr rfl) (pe_ix (show IxR _ (rIxL K) from ix_list) (pe_lst (pa_cons pe_non (pa_cons (pe_tup pa_nil) (pa_cons pe_int (pa_cons (pe_callTy call_tuple_of (by rfl) B.tuple_ (by decide +kernel) (pa_cons (pv 4) pa_nil)) (pa_cons (pe_lst pa_nil) pa_nil)))))) (pe_call cTaken.ok (hr.mono (by decide)) (by rfl) cTaken.g cTaken.kp cTaken.b .nil pass0 (pa_cons (pv 1) (pa_cons pe_int pa_nil))) (fun _ _ => rfl)))
      (pss_one (ps_if (pt_cmpR (show OpR _ _ (rNeD K) from op_neD hr.units) (pe_word1 (P := P2) (k := 12) (by rfl) gWm kW wlk wcd bW scW2 rfl (.inl rfl) (word_givesG WF) (hr.mono (by decide)) (pe_lamK0 TB rfl (lamSD_by (N := lawN) lamS_ok2).free rfl) (lamSD_by (N := lawN) lamS_ok2) ⟨fun _ _ _ _ _ _ => rfl, fun z => nomatch z⟩ (fun A1 outer1 s1 H1 E1 f1' c1' hr' => (pe_call (X := (lamCx (cxOf CX0 P w K mg base lawN "law" (defScope lLaw) f (.ref c) A outer s H E).nox A1 outer1 s1 H1 E1 (lamS 2) f1' c1')) FRd (hr'.mono (by decide)) (by rfl) gRd kRd bRd .nil (passes_call (takes_of rfl rfl rfl rfl) (fun _ _ _ _ h => h)) (pa_cons (pv 3) (pa_cons (pv 13) pa_nil))))) (pe_tup (pa_cons pe_str (pa_cons pe_int pa_nil))) (nomark _)) (pss_one (ps_ret pe_bl)) pss_nil)))))))))))))
      (Evl.pss_cut (ps_set (i := 14) scLaw.nd rfl (.inr rfl) (pe_op op_rep (pe_lst (pa_cons (pe_tup (pa_cons (pe_tup (pa_cons pe_str (pa_cons pe_str (pa_cons pe_str pa_nil)))) (pa_cons pe_int (pa_cons (pe_tup pa_nil) pa_nil)))) pa_nil)) pe_int))
      (Evl.pss_cut (ps_set (i := 15) scLaw.nd rfl (.inl rfl) (pe_cmpR (op_eqD hr.units) (pe_call FRd (hr.mono (by decide)) (by rfl) gRd kRd bRd .nil passNo (pa_cons (pe_tup (pa_cons (pe_tup (pa_cons pe_str (pa_cons pe_str (pa_cons pe_str pa_nil)))) pa_nil)) (pa_cons (pv 14) pa_nil))) (pe_tup (pa_cons (pe_tup (pa_cons pe_str (pa_cons pe_str (pa_cons pe_str pa_nil)))) (pa_cons (pe_lst (pa_cons pe_int pa_nil)) pa_nil))) (nomark _)))
      (pss_one (ps_ret (pe_and (pv 15) (pe_one (pe_cmpR (op_eqD hr.units) (pe_word1 (P := P2) (k := 12) (by rfl) gWm kW wlk wcd bW scW2 rfl (.inl rfl) (word_givesG WF) (hr.mono (by decide)) (pe_lamK0 TB rfl (lamSD_by (N := lawN) lamS_ok3).free rfl) (lamSD_by (N := lawN) lamS_ok3) ⟨fun _ _ _ _ _ _ => rfl, fun z => nomatch z⟩ (fun A1 outer1 s1 H1 E1 f1' c1' hr' => (pe_call (X := (lamCx (cxOf CX0 P w K mg base lawN "law" (defScope lLaw) f (.ref c) A outer s H E).nox A1 outer1 s1 H1 E1 (lamS 3) f1' c1')) FRd (hr'.mono (by decide)) (by rfl) gRd kRd bRd .nil (passes_call (takes_of rfl rfl rfl rfl) (fun _ _ _ _ h => h)) (pa_cons (pe_tup (pa_cons (pe_tup (pa_cons pe_str (pa_cons pe_str (pa_cons pe_str pa_nil)))) pa_nil)) (pa_cons (pe_op op_cat (pv 14) (pe_slice (show SlR _ (rSlL K) from sl_list) (pv 14) po_none (po_some pe_int))) pa_nil))))) (pe_tup (pa_cons pe_str (pa_cons pe_int pa_nil))) (nomark _)))))))))), ?_⟩
    -- the draws
    refine ⟨fun σ H' => ∃ p, σ = [some (.ref sc), some (.ref p), none, none, none, none, none, none, none, none, none, none, none, none, none, none, none, none] ∧ LS K T P2 p sc ns H', ?_, ?_⟩
    · refine ⟨_, rfl, sc, ns, rfl, hs, hl, fun p m np => ?_⟩
      have kA : Kept [] H (L2.upd H p (.lst [.ref sc, .int 0, .int 0, .int m])) := (Kept.refl H).upd np
      have kt : ∀ {P : Addr} {q : Str}, TabS H P q → TabS (L2.upd H p (.lst [.ref sc, .int 0, .int 0, .int m])) P q := fun t => tabS_by t fun b o e _ => kA b o e (by simp)
      refine ⟨p, rfl, ⟨0, 0, m, upd_same, Int.le_refl _, Int.le_refl _, ?_⟩, (Kp.of' ht kA).tab, kt t2⟩
      rcases hs with (h | ⟨o, h⟩) | h
      · exact .inl (.inl (kA _ _ h (by simp)))
      · exact .inl (.inr ⟨o, kA _ _ h (by simp)⟩)
      · exact .inr h
    clear hs ht t2
    rintro σ H0 ⟨p, rfl, L0⟩
    -- the turns
    refine ⟨fun σ H' => ∃ v2 v3 v4 v5 v6 v7 v8 v9 v10 v11 v12 v13, σ = [some (.ref sc), some (.ref p), v2, v3, v4, v5, v6, v7, v8, v9, v10, v11, v12, v13, none, none, none, none] ∧ LS K T P2 p sc ns H', ?_, ?_⟩
    · refine ⟨3, rfl, by omega, by omega, for_it (walk_range (lo := 0) (n := 3)) (fun _ σ H' => ∃ v2 v3 v4 v5 v6 v7 v8 v9 v10 v11 v12 v13, σ = [some (.ref sc), some (.ref p), v2, v3, v4, v5, v6, v7, v8, v9, v10, v11, v12, v13, none, none, none, none] ∧ LS K T P2 p sc ns H') ⟨none, none, none, none, none, none, none, none, none, none, none, none, rfl, L0⟩ (fun _ _ _ _ _ => trivial) ?_ (fun σ H' h => h)⟩
      clear L0 k
      rintro i0 y0 σ Hy Hb hi0 ⟨v2, v3, v4, v5, v6, v7, v8, v9, v10, v11, v12, v13, rfl, L⟩ ⟨rfl, rfl⟩
      clear hi0
      -- the text
      refine ⟨fun σ H' => ∃ v2 b l rs, σ = [some (.ref sc), some (.ref p), v2, some (.ref b), some (.ref l), v5, v6, v7, v8, v9, v10, v11, v12, v13, none, none, none, none] ∧ LS K T P2 p sc ns H' ∧ Tx b rs H' ∧ H' l = some (.lst []) ∧ l ≠ p ∧ NS K sc ns l, ?_, ?_⟩
      · refine ⟨_, rfl, p, sc, ns, 10, rfl, L.S, by omega, by omega, fun q rs H1 few len S1 k1 tx => ?_⟩
        have L1 := L.draw S1 k1
        refine ⟨Nat.zero_le _, fun l nl => ⟨by show (2 : Nat) ≤ sizeLine; decide, fun pp npp => ⟨pp, _, rfl, SqT.of upd_same, rfl, _, _, rfl, _, _, rfl, rfl, _, q, l, rs, rfl, ?_, ?_, ?_, ?_, ns_new L1.S nl⟩⟩⟩
        · exact (L1.k0 ((Kept.refl H1).upd nl)).k0 ((Kept.refl _).upd npp)
        · exact (Tx.mk tx few (by omega)).tk (.k0 (((Kept.refl H1).upd nl).upd npp))
        · exact ((Kept.refl (M := []) _).upd npp) _ _ upd_same (by simp)
        · exact fr_p L1.S (Kept.refl _) nl
      clear L v2 v3 v4
      rintro σ H1 ⟨v2, b, l, rs, rfl, L, X, el, nlp, nsc⟩
      -- the steps
      refine ⟨fun σ H' => ∃ us ss nn v5 v6 v7 v8 v9 v10, σ = [some (.ref sc), some (.ref p), v2, some (.ref b), some (.ref l), v5, v6, v7, v8, v9, v10, v11, v12, v13, none, none, none, none] ∧ LS K T P2 p sc ns H' ∧ Tx b rs H' ∧ Sx l rs us ss nn H' ∧ us.length ≤ 10, ?_, ?_⟩
      · refine ⟨_, rfl, p, sc, ns, 10, rfl, L.S, by omega, by omega, fun z H2 z0 z1 S2 k2 => ⟨z, rfl, by omega, by omega, ?_⟩⟩
        have L2 := L.draw S2 k2
        have t2 : Tk H1 H2 := .kd L.S S2 k2
        refine for_it (walk_range (lo := 0) (n := z.toNat)) (fun k σ H' => ∃ us ss nn v5 v6 v7 v8 v9 v10, σ = [some (.ref sc), some (.ref p), v2, some (.ref b), some (.ref l), v5, v6, v7, v8, v9, v10, v11, v12, v13, none, none, none, none] ∧ LS K T P2 p sc ns H' ∧ Tx b rs H' ∧ Sx l rs us ss nn H' ∧ us.length ≤ k) ⟨[], [], [], v5, v6, v7, v8, v9, v10, rfl, L2, X.tk t2, Sx.nil (k2 _ _ el (by simpa using nlp)), Nat.le_refl _⟩ (fun _ _ _ _ _ => trivial) ?_ (fun σ H' h => ?_)
        rotate_left
        · obtain ⟨us, ss, nn, v5, v6, v7, v8, v9, v10, e, L, X, Y, hle⟩ := h
          exact ⟨us, ss, nn, v5, v6, v7, v8, v9, v10, e, L, X, Y, by omega⟩
        clear L X el L2 t2 S2 k2 v5 v6 v7 v8 v9 v10
        rintro k0 y0 σ Hy Hb hk ⟨us, ss, nn, v5, v6, v7, v8, v9, v10, rfl, L, X, Y, hle⟩ ⟨rfl, rfl⟩
        have hk9 : us.length ≤ 9 := by omega
        obtain ⟨ys, St⟩ := stat_of X.tx Y.hl Y.good.len.symm Y.good.ah
        have frows : ∀ {n : Nat} {r : Rw}, rs[n]? = some r → r.few := fun e => X.few _ (List.mem_of_getElem? e)
        have fss : ∀ {n : Nat} {s : Say}, ss[n]? = some s → s.few ∧ s ≠ .clash := fun e => Y.few _ (List.mem_of_getElem? e)
        have hys : ys.length ≤ 10 := by rw [St.yl]; exact X.len
        have hsl : us.length = ss.length := St.ul
        -- the rows' own sayings
        refine ⟨fun σ H' => ∃ v5 so, σ = [some (.ref sc), some (.ref p), v2, some (.ref b), some (.ref l), v5, some (.ref so), v7, v8, v9, v10, v11, v12, v13, none, none, none, none] ∧ BI K T P2 p sc b l ns ys us rs ss nn so (10) H', ?_, ?_⟩
        · refine ⟨_, rfl, b, ys, rfl, .inr (.inl (.of St.hb)), ys.length, rfl, by omega, by omega, fun D nD => ?_⟩
          refine rd_comp (G := GS rs ss true) (walk_range (lo := 0) (n := ys.length)) GS.tk (by omega) (fun _ _ _ _ y => y.1) (fun _ _ => trivial) nD ?_ ?_
          · rintro i x Ha hi ⟨_, ex⟩ ka R R0 hR hR0
            obtain rfl : x = .int (i : Int) := by rw [ex]; show V.int (0 + (i : Int)) = _; rw [Int.zero_add]
            have Sa := St.mv (.k0 ka) (ka _ _ St.hl (by simp))
            obtain ⟨ra, r, ey1, er, hra⟩ := Sa.row i (by rw [← St.yl]; exact hi)
            rcases say_cases (frows er) with ⟨x, fx, nx, hd, rest, ews, exs, hin⟩ | ⟨hd, rest, ews, hin⟩
            · have hrw := hra
              rw [ews] at hrw
              refine ⟨rfl, _, rfl, _, rfl, b, ys, (i : Int), .ref ra, rfl, rfl, SqT.of Sa.hb, atI_nat ey1, ra, _, 0, .str hd, rfl, rfl, SqT.of hrw, at_of (j := 0) rfl rfl, by show (2 : Nat) ≤ sizeLine; decide, fun Tp nT => ⟨Tp, _, rfl, .inr (.inl (.of upd_same)), rfl, rfl, _, rfl, ?_⟩⟩
              show (if inV (V.str hd) [.str "is", .str "has"] = true then _ else _)
              rw [hin]
              have kT := (Kept.refl (M := []) _).upd (o := .tup [.str "is", .str "has"]) nT
              refine iteT ⟨_, rfl, _, rfl, b, ys, (i : Int), .ref ra, rfl, rfl, SqT.of (kT _ _ Sa.hb (by simp)), atI_nat ey1, _, rfl, Nat.zero_le _, fun t nt => ⟨by show (3 : Nat) ≤ sizeLine; decide, fun e ne => hR _ _ ((kT.upd nt).upd ne) ?_⟩⟩
              have k1 := kT.upd (o := .tup []) nt
              have k2 := (Kept.refl (M := []) _).upd (o := .tup [.ref ra, .int (i : Int), .ref t]) ne
              have hra2 := (k1.trans k2) _ _ hra (by simp)
              rw [← exs] at hra2
              have O := few_say fx nx
              have ht := k2 t _ upd_same (by simp)
              refine ⟨x, i, [], ⟨e, ra, t, rfl, upd_same, hra2, ht, by simp⟩, O, fun _ => ⟨fx, by rw [← St.yl]; exact hi⟩, ?_⟩
              have q := step_T (ah := []) (ss := ss) upd_same hra2 O er ht (by simp) (by simp)
              rw [show ByB r (([] : List Nat).map fun i => ss.getD i .clash) x = true from decide_eq_true exs] at q
              exact q
            · have hrw := hra
              rw [ews] at hrw
              refine ⟨rfl, _, rfl, _, rfl, b, ys, (i : Int), .ref ra, rfl, rfl, SqT.of Sa.hb, atI_nat ey1, ra, _, 0, .str hd, rfl, rfl, SqT.of hrw, at_of (j := 0) rfl rfl, by show (2 : Nat) ≤ sizeLine; decide, fun Tp nT => ⟨Tp, _, rfl, .inr (.inl (.of upd_same)), rfl, rfl, _, rfl, ?_⟩⟩
              show (if inV (V.str hd) [.str "is", .str "has"] = true then _ else _)
              rw [hin]
              exact iteF (hR0 _ ((Kept.refl (M := []) _).upd nT))
          · intro Ha acc ka eD lacc gacc
            refine ⟨_, D, rfl, L.k0 ka, St.mv (.k0 ka) (ka _ _ St.hl (by simp)), X.tk (.k0 ka), Y.mv (.k0 ka) (ka _ _ Y.hl (by simp)), ⟨acc, eD, by omega, gacc⟩, fun z => ?_⟩
            obtain ⟨xs, e⟩ := L.S.ob
            rw [z, e] at nD
            cases nD
        clear L X Y St v5 v6
        rintro σ H2 ⟨v5, so, rfl, N⟩
        -- and what comes of the steps
        refine ⟨fun σ H' => ∃ so v7 v8 v9 v10, σ = [some (.ref sc), some (.ref p), v2, some (.ref b), some (.ref l), v5, some (.ref so), v7, v8, v9, v10, v11, v12, v13, none, none, none, none] ∧ BI K T P2 p sc b l ns ys us rs ss nn so (2010) H', ?_, ?_⟩
        · refine ⟨_, rfl, b, ys, rfl, .inr (.inl (.of N.X.hb)), ys.length, rfl, by omega, by omega, for_it (walk_range (lo := 0) (n := ys.length)) (fun i σ H' => ∃ so v7 v8 v9 v10, σ = [some (.ref sc), some (.ref p), v2, some (.ref b), some (.ref l), v5, some (.ref so), v7, v8, v9, v10, v11, v12, v13, none, none, none, none] ∧ BI K T P2 p sc b l ns ys us rs ss nn so (10 + 200 * i) H') ⟨so, v7, v8, v9, v10, rfl, N.mono (by omega)⟩ (fun _ _ _ _ _ => trivial) ?_ (fun σ H' h => ?_)⟩
          rotate_left
          · obtain ⟨so, v7, v8, v9, v10, e, N⟩ := h
            exact ⟨so, v7, v8, v9, v10, e, N.mono (by omega)⟩
          clear N so v7 v8 v9 v10
          rintro i y σ Hy Hb hi ⟨so, v7, v8, v9, v10, rfl, N⟩ ⟨rfl, ey⟩
          obtain rfl : y = .int (i : Int) := by rw [ey]; show V.int (0 + (i : Int)) = _; rw [Int.zero_add]
          have hir : i < rs.length := by rw [← N.X.yl]; exact hi
          obtain ⟨ra, r, ey1, er, hra⟩ := N.X.row i hir
          have fr := frows er
          clear hra ey
          refine ⟨_, rfl, l, us, rfl, .inl (SqL.of N.X.hl), us.length, rfl, by omega, by omega, for_it (walk_range (lo := 0) (n := us.length)) (fun j σ H' => ∃ so v8 v9 v10, σ = [some (.ref sc), some (.ref p), v2, some (.ref b), some (.ref l), v5, some (.ref so), some (.int (i : Int)), v8, v9, v10, v11, v12, v13, none, none, none, none] ∧ BI K T P2 p sc b l ns ys us rs ss nn so (10 + 200 * i + 20 * j) H') ⟨so, v8, v9, v10, rfl, N.mono (by omega)⟩ (fun _ _ _ _ _ => trivial) ?_ (fun σ H' h => ?_)⟩
          rotate_left
          · obtain ⟨so, v8, v9, v10, e, N⟩ := h
            exact ⟨so, _, v8, v9, v10, e, N.mono (by omega)⟩
          clear N so v8 v9 v10
          rintro j y σ Hy Hb hj ⟨so, v8, v9, v10, rfl, N⟩ ⟨rfl, ey⟩
          obtain rfl : y = .int (j : Int) := by rw [ey]; show V.int (0 + (j : Int)) = _; rw [Int.zero_add]
          obtain ⟨a1, sa1, nv1, av1, s1, eu1, es1, ha1, hs1, ok1⟩ := N.X.stp j (by omega)
          obtain ⟨fs1, nc1⟩ := fss es1
          obtain ⟨ra, r', ey1, er', hra⟩ := N.X.row i hir
          obtain rfl : r = r' := Option.some.inj (er.symm.trans er')
          -- by one
          refine ⟨fun σ H' => ∃ so v9 v10, σ = [some (.ref sc), some (.ref p), v2, some (.ref b), some (.ref l), v5, some (.ref so), some (.int (i : Int)), some (.int (j : Int)), v9, v10, v11, v12, v13, none, none, none, none] ∧ BI K T P2 p sc b l ns ys us rs ss nn so (10 + 200 * i + 20 * j + 1) H', ?_, ?_⟩
          · obtain ⟨os, eos, los, gos⟩ := N.so_
            refine ⟨_, rfl, _, rfl, _, rfl, b, ys, (i : Int), .ref ra, rfl, rfl, SqT.of N.X.hb, atI_nat ey1, _, rfl, _, rfl, l, us, (j : Int), .ref a1, rfl, rfl, SqL.of N.X.hl, atI_nat eu1, a1, _, 0, .ref sa1, rfl, rfl, SqT.of ha1, at_of (j := 0) rfl rfl, ra, sa1, r, s1, rfl, .inl (.of hra), .inl (.of hs1), nc1, fun q H2 k2 nq hq => ?_⟩
            obtain ⟨vs, eq, pq⟩ := hq
            refine ⟨q, rfl, ⟨vs, .inl (.of eq)⟩, fun D nD => ?_⟩
            have lvs : vs.length ≤ 1 := by rw [pq.length]; exact len_led r s1
            refine rd_comp (G := GS rs ss true) (walk_list (K := K) (a := q) (xs := vs)) GS.tk (by omega) (fun _ _ _ _ y => y.1) (fun H k => .inl (.of (k _ _ eq (by simp)))) nD ?_ ?_
            · rintro v x Ha hv ⟨_, ev⟩ ka R R0 hR _
              obtain ⟨s', es', xa, rfl, hx⟩ := paired_at pq ev
              have hm := List.mem_of_getElem? es'
              obtain ⟨fx, nx⟩ := few_led fr fs1 hm
              have hxa := ka _ _ hx (by simp)
              refine ⟨rfl, yes_if ⟨_, rfl, _, rfl, _, rfl, by show (1 : Nat) ≤ sizeLine; decide, fun t nt => ⟨by show (3 : Nat) ≤ sizeLine; decide, fun e ne => hR _ _ (((Kept.refl (M := []) Ha).upd nt).upd ne) ?_⟩⟩⟩
              have k1 := (Kept.refl (M := []) Ha).upd (o := .tup [.int (j : Int)]) nt
              have k2 := (Kept.refl (M := []) _).upd (o := .tup [.ref xa, .int (i : Int), .ref t]) ne
              have ht := k2 t _ upd_same (by simp)
              have hx2 := (k1.trans k2) _ _ hxa (by simp)
              have O := few_say fx nx
              refine ⟨s', i, [(j : Int)], ⟨e, xa, t, rfl, upd_same, hx2, ht, by simp⟩, O, fun _ => ⟨fx, hir⟩, ?_⟩
              have q := step_T (ah := [j]) (ss := ss) upd_same hx2 O er ht (by simp) (by simp; omega)
              rw [show (([j] : List Nat).map fun i => ss.getD i .clash) = [s1] by simp [es1], led_by nx, decide_eq_true hm] at q
              exact q
            · intro Ha acc ka eD lacc gacc
              refine ⟨so, D, os, acc, rfl, rfl, (k2.trans ka) _ _ eos (by simp), eD, ?_, fun so2 nso2 => ?_⟩
              · exact Nat.le_trans (show os.length + acc.length ≤ 5000 by omega) (by decide)
              · exact ⟨so2, v9, v10, rfl, (N.some_ (k2.trans ka) nso2 ((k2.trans ka) _ _ eos (by simp)) (Nat.le_trans lacc lvs) gacc).mono (by omega)⟩
          clear N so hra ha1 hs1 v8
          rintro σ H2 ⟨so, v9, v10, rfl, N⟩
          -- by two
          refine ⟨_, rfl, l, us, rfl, .inl (SqL.of N.X.hl), us.length, rfl, by omega, by omega, for_it (walk_range (lo := 0) (n := us.length)) (fun m σ H' => ∃ so v9 v10, σ = [some (.ref sc), some (.ref p), v2, some (.ref b), some (.ref l), v5, some (.ref so), some (.int (i : Int)), some (.int (j : Int)), v9, v10, v11, v12, v13, none, none, none, none] ∧ BI K T P2 p sc b l ns ys us rs ss nn so (10 + 200 * i + 20 * j + 1 + m) H') ⟨so, v9, v10, rfl, N.mono (by omega)⟩ (fun _ _ _ _ _ => trivial) ?_ (fun σ H' h => ?_)⟩
          rotate_left
          · obtain ⟨so, v9, v10, e, N⟩ := h
            exact ⟨so, _, v9, v10, e, N.mono (by omega)⟩
          clear N so v9 v10
          rintro m y σ Hy Hb hm ⟨so, v9, v10, rfl, N⟩ ⟨rfl, ey⟩
          obtain rfl : y = .int (m : Int) := by rw [ey]; show V.int (0 + (m : Int)) = _; rw [Int.zero_add]
          obtain ⟨a1, sa1, nv1, av1, s1', eu1, es1', ha1, hs1, ok1⟩ := N.X.stp j (by omega)
          obtain rfl : s1 = s1' := Option.some.inj (es1.symm.trans es1')
          obtain ⟨a2, sa2, nv2, av2, s2, eu2, es2, ha2, hs2, ok2⟩ := N.X.stp m (by omega)
          obtain ⟨fs2, nc2⟩ := fss es2
          obtain ⟨ra, r', ey1, er', hra⟩ := N.X.row i hir
          obtain rfl : r = r' := Option.some.inj (er.symm.trans er')
          refine ⟨fun σ H' => ∃ q, σ = [some (.ref sc), some (.ref p), v2, some (.ref b), some (.ref l), v5, some (.ref so), some (.int (i : Int)), some (.int (j : Int)), some (.int (m : Int)), some (.ref q), v11, v12, v13, none, none, none, none] ∧ BI K T P2 p sc b l ns ys us rs ss nn so (10 + 200 * i + 20 * j + 1 + m) H' ∧ SaysAt K H' q (lawBoth r s1 s2), ?_, ?_⟩
          · exact ⟨_, rfl, _, rfl, b, ys, (i : Int), .ref ra, rfl, rfl, SqT.of N.X.hb, atI_nat ey1, _, rfl, _, rfl, l, us, (j : Int), .ref a1, rfl, rfl, SqL.of N.X.hl, atI_nat eu1, a1, _, 0, .ref sa1, rfl, rfl, SqT.of ha1, at_of (j := 0) rfl rfl, _, rfl, _, rfl, l, us, (m : Int), .ref a2, rfl, rfl, SqL.of N.X.hl, atI_nat eu2, a2, _, 0, .ref sa2, rfl, rfl, SqT.of ha2, at_of (j := 0) rfl rfl, ra, sa1, sa2, r, s1, s2, rfl, .inl (.of hra), .inl (.of hs1), .inl (.of hs2), nc1, nc2, few_ok fr, ok1, ok2, fun q H2 k2 nq hq => ⟨q, rfl, N.k0 k2, hq⟩⟩
          clear N hra ha1 hs1 ha2 hs2
          rintro σ H2 ⟨q, rfl, N, vs, eq, pq⟩
          obtain ⟨os, eos, los, gos⟩ := N.so_
          have lvs : vs.length ≤ 1 := by rw [pq.length]; exact len_both r s1 s2
          refine ⟨_, rfl, _, rfl, q, rfl, ⟨vs, .inl (.of eq)⟩, fun D nD => ?_⟩
          refine rd_comp (G := GS rs ss true) (walk_list (K := K) (a := q) (xs := vs)) GS.tk (by omega) (fun _ _ _ _ y => y.1) (fun H k => .inl (.of (k _ _ eq (by simp)))) nD ?_ ?_
          · rintro v x Ha hv ⟨_, ev⟩ ka R R0 hR _
            obtain ⟨s', es', xa, rfl, hx⟩ := paired_at pq ev
            have hm' := List.mem_of_getElem? es'
            obtain ⟨fx, nx⟩ := few_both fr fs1 fs2 hm'
            have hxa := ka _ _ hx (by simp)
            refine ⟨rfl, yes_if ⟨_, rfl, _, rfl, _, rfl, _, rfl, by show (2 : Nat) ≤ sizeLine; decide, fun t nt => ⟨by show (3 : Nat) ≤ sizeLine; decide, fun e ne => hR _ _ (((Kept.refl (M := []) Ha).upd nt).upd ne) ?_⟩⟩⟩
            have k1 := (Kept.refl (M := []) Ha).upd (o := .tup [.int (j : Int), .int (m : Int)]) nt
            have k2 := (Kept.refl (M := []) _).upd (o := .tup [.ref xa, .int (i : Int), .ref t]) ne
            have ht := k2 t _ upd_same (by simp)
            have hx2 := (k1.trans k2) _ _ hxa (by simp)
            have O := few_say fx nx
            refine ⟨s', i, [(j : Int), (m : Int)], ⟨e, xa, t, rfl, upd_same, hx2, ht, by simp⟩, O, fun _ => ⟨fx, hir⟩, ?_⟩
            have q := step_T (ah := [j, m]) (ss := ss) upd_same hx2 O er ht (by simp) (by simp; omega)
            rw [show (([j, m] : List Nat).map fun i => ss.getD i .clash) = [s1, s2] by simp [es1, es2], both_by nc1 nc2 nx, decide_eq_true hm'] at q
            exact q
          · intro Ha acc ka eD lacc gacc
            refine ⟨so, D, os, acc, rfl, rfl, ka _ _ eos (by simp), eD, ?_, fun so2 nso2 => ?_⟩
            · exact Nat.le_trans (show os.length + acc.length ≤ 5000 by omega) (by decide)
            · exact ⟨so2, _, _, rfl, (N.some_ ka nso2 (ka _ _ eos (by simp)) (Nat.le_trans lacc lvs) gacc).mono (by omega)⟩
        clear N so v7 v8 v9 v10
        rintro σ H2 ⟨so, v7, v8, v9, v10, rfl, N⟩
        -- one of them
        obtain ⟨os, eos, los, gos⟩ := N.so_
        refine ⟨_, rfl, by show (0 : Nat) ≤ sizeLine; decide, fun e ne => ?_⟩
        have k2 := (Kept.refl (M := []) H2).upd (o := .lst []) ne
        have N2 := N.k0 k2
        have eos2 := k2 _ _ eos (by simp)
        refine rd_neNil eos2 upd_same (fun v hv => ((gos v hv).tk _ _ _ (.k0 k2)).ds) ⟨_, rfl, ?_⟩
        cases os with
        | nil => exact iteF ⟨us, ss, nn, _, _, _, _, _, _, rfl, N2.L, N2.tx, N2.sx, by omega⟩
        | cons u os =>
          have hpos : (0 : Int) < ((u :: os).length : Int) := by rw [List.length_cons]; omega
          refine iteT ⟨_, rfl, .inl ⟨rfl, _, SqL.of N2.sx.hl⟩, _, rfl, _, rfl, _, rfl, so, u :: os, rfl, .inl (SqL.of eos2), p, sc, ns, ((u :: os).length : Int), rfl, N2.L.S, hpos, by omega, fun z H3 z0 z1 S3 k3 => ?_⟩
          have L3 := N2.L.draw S3 k3
          obtain ⟨v, hv, hm⟩ := at_int z0 z1 rfl
          have t : Tk H2 H3 := (Tk.k0 k2).trans (.kd N2.L.S S3 k3)
          have Y3 := N.sx.mv t (k3 _ _ (k2 _ _ N.sx.hl (by simp)) (by simpa using nlp))
          obtain ⟨x, n, Y4⟩ := Y3.push ((gos v hm).tk _ _ _ t)
          refine ⟨so, _, _, v, rfl, rfl, SqL.of (k3 _ _ eos2 (by simpa using N.n1)), hv, l, us, v, rfl, rfl, Y3.hl, Nat.lt_of_le_of_lt (show us.length ≤ 1000 by omega) (by decide), us ++ [v], ss ++ [x], nn ++ [n], _, _, _, _, _, _, rfl, L3.put Y3.hl nlp nsc, (N.tx.tk t).tk (.put Y3.hl), Y4, ?_⟩
          rw [List.length_append, List.length_singleton]
          omega
      clear L X el v5 v6 v7 v8 v9 v10
      rintro σ H2 ⟨us, ss, nn, v5, v6, v7, v8, v9, v10, rfl, L, X, Y, hle⟩
      -- what is due
      refine ⟨fun σ H' => ∃ d v5 v6 v7 v8 v9 v10 v12 v13, σ = [some (.ref sc), some (.ref p), v2, some (.ref b), some (.ref l), v5, v6, v7, v8, v9, v10, some (.ref d), v12, v13, none, none, none, none] ∧ LS K T P2 p sc ns H' ∧ Tx b rs H' ∧ Sx l rs us ss nn H' ∧ H' d = some (.tup [.str "steps", .int 0]), ?_, ?_⟩
      · refine ⟨by show (2 : Nat) ≤ sizeLine; decide, fun d nd => ⟨d, _, _, _, _, _, _, _, _, rfl, ?_⟩⟩
        have k := (Kept.refl (M := []) H2).upd (o := .tup [.str "steps", .int 0]) nd
        exact ⟨L.k0 k, X.tk (.k0 k), Y.mv (.k0 k) (k _ _ Y.hl (by simp)), upd_same⟩
      clear L X Y v5 v6 v7 v8 v9 v10
      rintro σ H2 ⟨d0, v5, v6, v7, v8, v9, v10, v12, v13, rfl, L, X, Y, hd0⟩
      refine ⟨fun σ H' => ∃ d v5 v6 v7 v8 v9 v10 v12 v13, σ = [some (.ref sc), some (.ref p), v2, some (.ref b), some (.ref l), v5, v6, v7, v8, v9, v10, some (.ref d), v12, v13, none, none, none, none] ∧ LS K T P2 p sc ns H' ∧ Tx b rs H' ∧ Sx l rs us ss nn H' ∧ DueOk p us nn d H', ?_, ?_⟩
      · refine ⟨_, rfl, by show (0 : Nat) ≤ sizeLine; decide, fun e0 ne0 => ?_⟩
        have k2 := (Kept.refl (M := []) H2).upd (o := .lst []) ne0
        have hl2 := k2 _ _ Y.hl (by simp)
        have Y2 := Y.mv (.k0 k2) hl2
        refine rd_neNil hl2 upd_same Y2.ds ⟨_, rfl, ?_⟩
        by_cases hne : us = []
        · subst hne
          exact iteF ⟨d0, _, _, _, _, _, _, _, _, rfl, L.k0 k2, X.tk (.k0 k2), Y2, .inl ⟨rfl, k2 _ _ hd0 (by simp)⟩⟩
        · have hbe : (!us.isEmpty) = true := by cases us with
            | nil => exact absurd rfl hne
            | cons _ _ => rfl
          rw [hbe]
          obtain ⟨a, sa, nv, av, s, u1, u2, u3, u4⟩ := Y2.last hne
          have hnl : us.length = nn.length := Y2.nums.length
          refine iteT ⟨_, rfl, 1, rfl, l, us, _, .ref a, rfl, rfl, SqL.of hl2, at_last u1, a, _, 0, .ref sa, rfl, rfl, SqT.of u2, at_of (j := 0) rfl rfl, _, rfl, l, rfl, ⟨us, .inl (.of hl2)⟩, fun D nD => ?_⟩
          refine lc_it (walk_list (K := K) (a := l) (xs := us)) (fun i Ha => Kept [] (L2.upd H2 e0 (.lst [])) Ha ∧ ∃ ps : List Addr, Ha D = some (.lst (ps.map V.ref)) ∧ ps.length = i ∧ Paired (fun p (kv : Key × V) => Ha p = some (.tup [kV kv.1, kv.2])) ps (numK (nn.take i)))
            ⟨(Kept.refl _).upd nD, [], upd_same, rfl, .nil⟩ (fun i Ha _ pv => SqL.of (pv.1 _ _ hl2 (by simp))) ?_ ?_
          · rintro i y Ha0 Ha hi ⟨kk, ps, eD, lps, pr⟩ ⟨rfl, ey⟩
            obtain ⟨n, en, a', x', av', rfl, ha'⟩ := paired_at Y2.nums ey
            refine ⟨rfl, yes_if ⟨_, rfl, a', _, 1, .int (n : Int), rfl, rfl, SqT.of (kk _ _ ha' (by simp)), at_of (j := 1) rfl rfl, by show (2 : Nat) ≤ sizeLine; decide, fun e ne => ?_⟩⟩
            have ke := (Kept.refl (M := []) Ha).upd (o := .tup [.int (n : Int), .bl true]) ne
            have eD2 := ke _ _ eD (by simp)
            have nDe : D ≠ e := fun z => by rw [← z, eD] at ne; cases ne
            refine ⟨_, eD2, by rw [List.length_map]; exact Nat.lt_of_le_of_lt (show ps.length ≤ 1000 by omega) (by decide), Kept.far (Kept.refl _) nD (kk.trans ke), ps ++ [e], by rw [List.map_append]; exact upd_same, by rw [List.length_append, lps]; rfl, ?_⟩
            rw [List.take_add_one, en]
            unfold numK
            rw [List.map_append]
            refine paired_app (Paired.mapP pr fun p kv hp => ?_) (.cons ((upd_ne (Ne.symm nDe)).trans upd_same) .nil)
            refine (upd_ne fun z => ?_).trans (ke _ _ hp (by simp))
            rw [z, eD] at hp
            cases hp
          · rintro Ha ⟨kk, ps, eD, lps, pr⟩
            rw [hnl, List.take_length] at pr
            obtain ⟨ks, a1, a2, a3, a4⟩ := keys_of nn [] [] rfl List.nodup_nil
            refine ⟨D, ps, numK nn, rfl, SqL.of eD, Paired.mapP pr fun _ _ h => SqT.of h, fun pd npd => ⟨pd, _, ks, rfl, Rd.of upd_same, a1, by have : ks.length ≤ 0 + nn.length := a3; omega, fun ys q perm le nq => ⟨by show (2 : Nat) ≤ sizeLine; decide, fun e ne => ⟨by show (2 : Nat) ≤ sizeLine; decide, fun d nd => ?_⟩⟩⟩⟩
            have c1 := kk.upd (o := .dK (mergeK [] (numK nn))) npd
            have c2 := c1.upd (o := .lst (ys.map V.int)) nq
            have c3 := c2.upd (o := .tup [.ref sa, .ref q]) ne
            have c4 := c3.upd (o := .tup [.str "", .ref e]) nd
            have kA := k2.trans c4
            have q3 := (Kept.refl (M := []) _).upd (o := .tup [.ref sa, .ref q]) ne
            have q4 := (Kept.refl (M := []) _).upd (o := .tup [.str "", .ref e]) nd
            have lks : ks.length ≤ 0 + nn.length := a3
            refine ⟨d, _, _, _, _, _, _, _, _, rfl, L.k0 kA, X.tk (.k0 kA), Y.mv (.k0 kA) (kA _ _ Y.hl (by simp)), .inr ⟨hne, e, sa, q, ys, upd_same, q4 _ _ upd_same (by simp), (q3.trans q4) _ _ upd_same (by simp), asc_of perm a2 le, fun k => ?_, ⟨a, nv, av, u1, c4 _ _ u2 (by simp)⟩, by rw [perm.length_eq]; omega, fr_p L.S (k2.trans c1) nq⟩⟩
            rw [perm.mem_iff, a4]
            exact ⟨fun h => h.elim (fun z => nomatch z) id, .inr⟩
      clear L X Y hd0 d0 v5 v6 v7 v8 v9 v10 v12 v13
      rintro σ H3 ⟨d, v5, v6, v7, v8, v9, v10, v12, v13, rfl, L, X, Y, O⟩
      -- the steps are read
      refine ⟨fun σ H' => ∃ d v5 v6 v7 v8 v9 v10 v12 v13, σ = [some (.ref sc), some (.ref p), v2, some (.ref b), some (.ref l), v5, v6, v7, v8, v9, v10, some (.ref d), v12, v13, none, none, none, none] ∧ LS K T P2 p sc ns H' ∧ Tx b rs H' ∧ Sx l rs us ss nn H', ?_, ?_⟩
      · refine ⟨L.t2, fun H1 e1 t1 lf nlf => ?_⟩
        have L1 := L.lam nT2 e1 t1
        have kf := (Kept.refl (M := []) H1).upd (o := .lst []) nlf
        have M2 := L1.k0 kf
        have r2 : Rl p H3 _ := (Rl.tab L.t2 e1).trans (.k0 kf)
        have t2 := L.tk M2 r2
        have X2 := X.tk t2
        obtain ⟨w1, w2, w3⟩ := X2.words
        have Y2 := Y.rl L M2 r2 nlp
        have nlfp : lf ≠ p := fr_p L1.S (Kept.refl _) nlf
        have nslf : NS K sc ns lf := ns_new L1.S nlf
        refine ⟨_, rfl, _, rfl, b, rs, .ref l, rfl, X2.tx, w1, w2, w3, M2.ht, ?_⟩
        rcases O with ⟨eu, hd⟩ | ⟨ne, e, sa, q, ms, D⟩
        · have hl0 := Y2.hl
          rw [eu] at hl0
          refine .inl ⟨.inr (.inr (.inr ⟨l, rfl, hl0⟩)), w_steps hC fun H4 H5 q kp k5 nq => ?_⟩
          have M4 := M2.kp nT2 kp
          have kq := k5.upd (o := .tup [.str "steps", .int ((0 : Nat) : Int)]) nq
          have M5 := M4.k0 kq
          have r5 : Rl p H3 _ := (r2.trans (.kp M2.ht kp)).trans (.k0 kq)
          refine ⟨_, rfl, .ref q, .ref d, rfl, at_steps upd_same ((L.tk M5 r5).tup _ _ hd), fun H6 k6 => ⟨_, rfl, iteF ?_⟩⟩
          have M6 := M5.k0 k6
          have r6 := r5.trans (.k0 k6)
          exact ⟨d, _, _, _, _, _, _, _, _, rfl, M6, X.tk (L.tk M6 r6), Y.rl L M6 r6 nlp⟩
        · have hnl : us.length = nn.length := Y2.nums.length
          have hrl := X.len
          refine .inr ⟨l, us, ss, us.length, rfl, Y2.hl, ne, by omega, by omega, Y2.good, .inl ⟨rfl, nn, Y2.nums, fun n hn => Nat.lt_of_lt_of_le (Y2.lt n hn) (by omega), fun t sa' pp ms' H4 s kp ht hs last hp asc mem => ?_⟩⟩
          have hlf4 := kp.obj M2.ht (upd_same (H := H1) (a := lf) (o := .lst []))
          refine ⟨hlf4, fun f nf => ?_⟩
          have M4 := M2.kp nT2 kp
          have k5 := (Kept.refl (M := []) _).upd (o := .tup [.str "", .ref t]) nf
          have M5 := (M4.put (xs := [.ref t]) hlf4 nlfp nslf).k0 k5
          have r5 : Rl p H3 _ := (Rl.tab L.t2 e1).trans ((Rl.far nlf (.kp M2.ht kp)).trans (.k0 k5))
          have T5 := L.tk M5 r5
          have T4 : Tk H4 _ := (Tk.put (xs := [.ref t]) hlf4).trans (.k0 k5)
          have hpf : pp ≠ lf := fun z => by
            rw [z, hlf4] at hp
            have : ms' = [] := by
              cases ms' with
              | nil => rfl
              | cons _ _ => cases hp
            cases nn with
            | nil => exact ne (List.length_eq_zero_iff.mp hnl)
            | cons n nn =>
              have h := (mem (n : Int)).mpr ⟨n, List.mem_cons_self, rfl⟩
              rw [this] at h
              cases h
          obtain ⟨la, lnv, lav, le1, le2⟩ := last
          refine ⟨_, rfl, .ref f, .ref d, rfl, at_due (D.rl T5 r5) (Y.rl L M5 r5 nlp) ne upd_same (T4.tup _ _ ht) (k5 _ _ ((upd_ne hpf).trans hp) (by simp)) asc mem ⟨la, lnv, lav, le1, T4.tup _ _ ((M2.tk M4 (.kp M2.ht kp)).tup _ _ le2)⟩, fun H6 k6 => ⟨_, rfl, iteF ?_⟩⟩
          have M6 := M5.k0 k6
          have r6 := r5.trans (.k0 k6)
          exact ⟨d, _, _, _, _, _, _, _, _, rfl, M6, X.tk (L.tk M6 r6), Y.rl L M6 r6 nlp⟩
      clear L X Y O d v5 v6 v7 v8 v9 v10 v12 v13
      rintro σ H3 ⟨d, v5, v6, v7, v8, v9, v10, v12, v13, rfl, L, X, Y⟩
      -- the place
      refine ⟨fun σ H' => ∃ n : Nat, ∃ v5 v6 v7 v9 v10 v11 v12 v13, σ = [some (.ref sc), some (.ref p), v2, some (.ref b), some (.ref l), v5, v6, v7, some (.int (n : Int)), v9, v10, v11, v12, v13, none, none, none, none] ∧ n ≤ us.length ∧ LS K T P2 p sc ns H' ∧ Tx b rs H' ∧ Sx l rs us ss nn H', ?_, ?_⟩
      · refine ⟨_, rfl, _, rfl, l, us, rfl, .inl (SqL.of Y.hl), _, _, rfl, rfl, p, sc, ns, (us.length : Int) + 1, rfl, L.S, by omega, by omega, fun z H4 z0 z1 S4 k4 => ?_⟩
        obtain ⟨n, rfl⟩ : ∃ n : Nat, z = (n : Int) := ⟨z.toNat, by omega⟩
        have t4 := Tk.kd L.S S4 k4
        exact ⟨n, _, _, _, _, _, _, _, _, rfl, by omega, L.draw S4 k4, X.tk t4, Y.mv t4 (k4 _ _ Y.hl (by simpa using nlp))⟩
      clear L X Y d v5 v6 v7 v8 v9 v10 v12 v13
      rintro σ H3 ⟨n, v5, v6, v7, v9, v10, v11, v12, v13, rfl, hn, L, X, Y⟩
      -- what can't be
      refine ⟨fun σ H' => ∃ bad v5 v6 v7 v9 v10 v11 v13, σ = [some (.ref sc), some (.ref p), v2, some (.ref b), some (.ref l), v5, v6, v7, some (.int (n : Int)), v9, v10, v11, some bad, v13, none, none, none, none] ∧ LS K T P2 p sc ns H' ∧ Tx b rs H' ∧ Sx l rs us ss nn H' ∧ StepV H' rs (ss.take n) bad false, ?_, ?_⟩
      · refine ⟨_, rfl, _, rfl, _, rfl, _, rfl, (n : Int), rfl, l, us, rfl, SqL.of Y.hl, fun q nq => ?_⟩
        rw [cutV_take hn]
        have kq := (Kept.refl (M := []) H3).upd (o := .lst (us.take n)) nq
        have Lq := L.k0 kq
        have Xq := X.tk (.k0 kq)
        have Yq := Y.mv (.k0 kq) (kq _ _ Y.hl (by simp))
        have hsl : ss.length = us.length := Y.good.len
        refine ⟨p, sc, b, q, ns, rs, us.take n, ss.take n, rfl, fr_p L.S (Kept.refl _) nq, Lq.S, Xq.tx, X.few, X.len, upd_same, by rw [List.length_take, List.length_take, hsl], by rw [List.length_take]; omega, fun s hs => Y.few s (List.mem_of_mem_take hs), fun v H4 S4 k4 hst => ?_⟩
        have t4 := Tk.kd Lq.S S4 k4
        exact ⟨v, _, _, _, _, _, _, _, rfl, Lq.draw S4 k4, Xq.tk t4, Yq.mv t4 (k4 _ _ Yq.hl (by simpa using nlp)), hst⟩
      clear L X Y v5 v6 v7 v9 v10 v11 v12 v13
      rintro σ H3 ⟨bad, v5, v6, v7, v9, v10, v11, v13, rfl, L, X, Y, SV⟩
      -- or what is nearly so
      refine ⟨fun σ H' => ∃ bad v5 v6 v7 v9 v10 v11 v13, σ = [some (.ref sc), some (.ref p), v2, some (.ref b), some (.ref l), v5, v6, v7, some (.int (n : Int)), v9, v10, v11, some bad, v13, none, none, none, none] ∧ LS K T P2 p sc ns H' ∧ Tx b rs H' ∧ Sx l rs us ss nn H' ∧ StepV H' rs (ss.take n) bad false, ?_, ?_⟩
      · have hsl : ss.length = us.length := Y.good.len
        refine ⟨_, rfl, (n : Int), 0, rfl, rfl, _, rfl, ?_⟩
        by_cases h1 : (0 : Int) < (n : Int)
        · rw [decide_eq_true h1]
          refine iteT ⟨_, rfl, _, rfl, l, us, rfl, .inl (SqL.of Y.hl), rfl, _, rfl, ?_⟩
          by_cases h2 : V.int (n : Int) = V.int (us.length : Int)
          · rw [decide_eq_true h2]
            refine iteT ⟨_, rfl, p, sc, ns, 2, rfl, L.S, by omega, by omega, fun z H4 z0 z1 S4 k4 => ⟨rfl, _, rfl, ?_⟩⟩
            have t4 := Tk.kd L.S S4 k4
            have L4 := L.draw S4 k4
            have Y4 := Y.mv t4 (k4 _ _ Y.hl (by simpa using nlp))
            by_cases hz : V.int z = V.int 0
            · rw [decide_eq_true hz]
              have hn2 : n = us.length := by
                have q := V.int.inj h2
                omega
              refine iteT ⟨_, rfl, _, rfl, _, rfl, p, sc, b, l, ns, rs, us, ss, rfl, nlp, S4, (X.tk t4).tx, X.few, X.len, Y4.hl, hsl, hle, Y4.good.ah, Y.few, fun v H5 S5 k5 hst => ?_⟩
              have t5 := Tk.kd S4 S5 k5
              refine ⟨v, _, _, _, _, _, _, _, rfl, L4.draw S5 k5, (X.tk t4).tk t5, Y4.mv t5 (k5 _ _ Y4.hl (by simpa using nlp)), ?_⟩
              rw [List.take_of_length_le (by omega)]
              exact hst
            · rw [decide_eq_false hz]
              exact iteF ⟨bad, _, _, _, _, _, _, _, rfl, L4, X.tk t4, Y4, SV.tk t4⟩
          · rw [decide_eq_false h2]
            exact iteF (iteF ⟨bad, _, _, _, _, _, _, _, rfl, L, X, Y, SV⟩)
        · rw [decide_eq_false h1]
          exact iteF (iteF ⟨bad, _, _, _, _, _, _, _, rfl, L, X, Y, SV⟩)
      clear L X Y SV bad v5 v6 v7 v9 v10 v11 v13
      rintro σ H3 ⟨bad, v5, v6, v7, v9, v10, v11, v13, rfl, L, X, Y, SV⟩
      -- with it set in
      refine ⟨fun σ H' => ∃ v5 v6 v7 v8 v9 v10 v11 v12 v13, σ = [some (.ref sc), some (.ref p), v2, some (.ref b), some (.ref l), v5, v6, v7, v8, v9, v10, v11, v12, v13, none, none, none, none] ∧ LS K T P2 p sc ns H' ∧ Tx b rs H' ∧ Sx l rs us ss nn H', ?_, ?_⟩
      · refine ⟨L.t2, fun H1 e1 t1 lf nlf => ?_⟩
        have L1 := L.lam nT2 e1 t1
        have kf := (Kept.refl (M := []) H1).upd (o := .lst []) nlf
        have M2 := L1.k0 kf
        have r2 : Rl p H3 _ := (Rl.tab L.t2 e1).trans (.k0 kf)
        have t2 := L.tk M2 r2
        have X2 := X.tk t2
        obtain ⟨w1, w2, w3⟩ := X2.words
        have Y2 := Y.rl L M2 r2 nlp
        have hsl : ss.length = us.length := Y.good.len
        have l1 : (us.take n).length = n := by rw [List.length_take]; omega
        have l2 : (us.drop n).length = us.length - n := List.length_drop
        refine ⟨_, rfl, _, rfl, _, rfl, (n : Int), rfl, l, us, rfl, SqL.of Y2.hl, fun q1 n1 => ?_⟩
        rw [cutV_take hn]
        have k1 := (Kept.refl (M := []) _).upd (o := .lst (us.take n)) n1
        refine ⟨_, rfl, by show (1 : Nat) ≤ sizeLine; decide, fun q2 n2 => ?_⟩
        have k2 := k1.upd (o := .lst [bad]) n2
        refine ⟨q1, q2, us.take n, [bad], rfl, rfl, ((Kept.refl (M := []) _).upd n2) _ _ upd_same (by simp), upd_same, Nat.le_trans (show (us.take n).length + 1 ≤ 1000 by omega) (by decide), fun q3 n3 => ?_⟩
        have k3 := k2.upd (o := .lst (us.take n ++ [bad])) n3
        refine ⟨_, rfl, _, rfl, (n : Int), rfl, l, us, rfl, SqL.of (k3 _ _ Y2.hl (by simp)), fun q4 n4 => ?_⟩
        rw [cutV_drop hn]
        have k4 := k3.upd (o := .lst (us.drop n)) n4
        refine ⟨q3, q4, _, us.drop n, rfl, rfl, ((Kept.refl (M := []) _).upd n4) _ _ upd_same (by simp), upd_same, Nat.le_trans (show (us.take n ++ [bad]).length + (us.drop n).length ≤ 1000 by rw [List.length_append, l1, l2, List.length_singleton]; omega) (by decide), fun q5 n5 => ?_⟩
        have k5 := k4.upd (o := .lst (us.take n ++ [bad] ++ us.drop n)) n5
        have M5 := M2.k0 k5
        have r5 := r2.trans (.k0 k5)
        have t5 := L.tk M5 r5
        have X5 := X.tk t5
        refine ⟨b, rs, .ref q5, rfl, X5.tx, w1, w2, w3, M5.ht, .inr ⟨q5, _, ss.take n, n, rfl, upd_same, by simp, by simp; omega, by omega, Good.ins Y.good hn t5 bad, .inr ⟨.inr ⟨bad, ins_at hn bad, SV.tk t5⟩, w_steps hC fun H6 H7 q kp k7 nq => ?_⟩⟩⟩
        refine ⟨_, rfl, by show (2 : Nat) ≤ sizeLine; decide, fun d nd => ?_⟩
        have kd := (Kept.refl (M := []) _).upd (o := .tup [.str "steps", .int (n : Int)]) nd
        refine ⟨.ref q, .ref d, rfl, at_steps (kd _ _ upd_same (by simp)) upd_same, fun H8 k8 => ⟨_, rfl, iteF ?_⟩⟩
        have kz := ((k7.upd (o := .tup [.str "steps", .int (n : Int)]) nq).trans kd).trans k8
        have M8 := (M5.kp nT2 kp).k0 kz
        have r8 : Rl p H3 _ := (r5.trans (.kp M5.ht kp)).trans (.k0 kz)
        exact ⟨_, _, _, _, _, _, _, _, _, rfl, M8, X.tk (L.tk M8 r8), Y.rl L M8 r8 nlp⟩
      clear L X Y SV bad v5 v6 v7 v9 v10 v11 v13
      rintro σ H3 ⟨v5, v6, v7, v8, v9, v10, v11, v12, v13, rfl, L, X, Y⟩
      -- what is none
      refine ⟨fun σ H' => ∃ u v5 v6 v7 v8 v9 v10 v11 v12, σ = [some (.ref sc), some (.ref p), v2, some (.ref b), some (.ref l), v5, v6, v7, v8, v9, v10, v11, v12, some u, none, none, none, none] ∧ LS K T P2 p sc ns H' ∧ Tx b rs H' ∧ NoStX p H' u, ?_, ?_⟩
      · refine ⟨by show (0 : Nat) ≤ sizeLine; decide, fun q1 n1 => ?_⟩
        have k1 := (Kept.refl (M := []) H3).upd (o := .tup []) n1
        refine ⟨_, rfl, l, us, rfl, .inl ⟨SqL.of (k1 _ _ Y.hl (by simp)), fun q2 n2 => ?_⟩⟩
        have k2 := k1.upd (o := .tup us) n2
        refine ⟨by show (0 : Nat) ≤ sizeLine; decide, fun q3 n3 => ⟨by show (5 : Nat) ≤ sizeLine; decide, fun q4 n4 => ?_⟩⟩
        have k3 := k2.upd (o := .lst []) n3
        have k4 := k3.upd (o := .lst [.non, .ref q1, .int 5, .ref q2, .ref q3]) n4
        have L4 := L.k0 k4
        refine ⟨_, rfl, p, sc, ns, 5, rfl, L4.S, by omega, by omega, fun z H4 z0 z1 S4 k5 => ?_⟩
        obtain ⟨v, hv, hm⟩ := at_int (xs := [.non, .ref q1, .int 5, .ref q2, .ref q3]) z0 z1 rfl
        refine ⟨q4, _, _, v, rfl, rfl, SqL.of (k5 _ _ upd_same (by simpa using fr_p L.S k3 n4)), hv, v, _, _, _, _, _, _, _, _, rfl, L4.draw S4 k5, (X.tk (.k0 k4)).tk (.kd L4.S S4 k5), ?_⟩
        have t : Tk _ H4 := .kd L4.S S4 k5
        have j4 := (Kept.refl (M := []) _).upd (o := .lst [.non, .ref q1, .int 5, .ref q2, .ref q3]) n4
        have j3 := ((Kept.refl (M := []) _).upd (o := .lst []) n3).trans j4
        have j2 := ((Kept.refl (M := []) _).upd (o := .tup us) n2).trans j3
        simp only [List.mem_cons, List.not_mem_nil, or_false] at hm
        rcases hm with rfl | rfl | rfl | rfl | rfl
        · exact .inl rfl
        · exact .inr (.inr (.inl ⟨_, _, rfl, t.tup _ _ (j2 _ _ upd_same (by simp))⟩))
        · exact .inr (.inl ⟨_, rfl⟩)
        · exact .inr (.inr (.inl ⟨_, _, rfl, t.tup _ _ (j3 _ _ upd_same (by simp))⟩))
        · have nq3 := fr_p L.S k2 n3
          exact .inr (.inr (.inr ⟨_, rfl, nq3, k5 _ _ (j4 _ _ upd_same (by simp)) (by simpa using nq3)⟩))
      clear L X Y v5 v6 v7 v8 v9 v10 v11 v12 v13
      rintro σ H3 ⟨u, v5, v6, v7, v8, v9, v10, v11, v12, rfl, L, X, N⟩
      refine ⟨L.t2, fun H1 e1 t1 lf nlf => ?_⟩
      have L1 := L.lam nT2 e1 t1
      have kf := (Kept.refl (M := []) H1).upd (o := .lst []) nlf
      have M2 := L1.k0 kf
      have r2 : Rl p H3 _ := (Rl.tab L.t2 e1).trans (.k0 kf)
      have t2 := L.tk M2 r2
      have X2 := X.tk t2
      obtain ⟨w1, w2, w3⟩ := X2.words
      refine ⟨_, rfl, _, rfl, b, rs, u, rfl, X2.tx, w1, w2, w3, M2.ht, .inl ⟨(N.rl t2 r2).no, w_steps hC fun H4 H5 q kp k5 nq => ?_⟩⟩
      refine ⟨by show (2 : Nat) ≤ sizeLine; decide, fun d nd => ?_⟩
      have kd := (Kept.refl (M := []) _).upd (o := .tup [.str "steps", .int 0]) nd
      refine ⟨dStp 0, dStp 0, dp_stp (kd _ _ upd_same (by simp)), dp_stp upd_same, by decide +kernel, by decide +kernel, ?_⟩
      rw [show PyData.eqv (dStp 0) (dStp 0) = true by decide +kernel]
      have kz := (k5.upd (o := .tup [.str "steps", .int ((0 : Nat) : Int)]) nq).trans kd
      exact ⟨_, rfl, iteF ⟨_, _, _, _, _, _, _, _, _, _, _, _, rfl, (M2.kp nT2 kp).k0 kz⟩⟩
    clear L0
    rintro σ H1 ⟨v2, v3, v4, v5, v6, v7, v8, v9, v10, v11, v12, v13, rfl, L⟩
    -- many steps
    refine ⟨fun σ H' => ∃ s t st l, σ = [some (.ref sc), some (.ref p), v2, v3, v4, v5, v6, v7, v8, v9, v10, v11, v12, v13, some (.ref l), none, none, none] ∧ LS K T P2 p sc ns H' ∧ MS s t st l H', ?_, ?_⟩
    · refine ⟨by show (3 : Nat) ≤ sizeLine; decide, fun s n1 => ⟨by show (0 : Nat) ≤ sizeLine; decide, fun t n2 => ⟨by show (3 : Nat) ≤ sizeLine; decide, fun st n3 => ⟨by show (1 : Nat) ≤ sizeLine; decide, fun l1 n4 => ?_⟩⟩⟩⟩
      refine ⟨l1, 200, [.ref st], rfl, rfl, upd_same, by decide, by decide, by show 1 * 200 ≤ sizeLine; decide, fun l n5 => ?_⟩
      have k1 := (Kept.refl (M := []) H1).upd (o := .tup [.str "is", .str "ann", .str "cat"]) n1
      have j5 := (Kept.refl (M := []) _).upd (o := .lst (List.replicate (200 : Int).toNat [V.ref st]).flatten) n5
      have j4 := ((Kept.refl (M := []) _).upd (o := .lst [.ref st]) n4).trans j5
      have j3 := ((Kept.refl (M := []) _).upd (o := .tup [.ref s, .int 0, .ref t]) n3).trans j4
      have j2 := ((Kept.refl (M := []) _).upd (o := .tup []) n2).trans j3
      exact ⟨s, t, st, l, rfl, L.k0 (k1.trans j2), ⟨j2 _ _ upd_same (by simp), j3 _ _ upd_same (by simp), j4 _ _ upd_same (by simp), upd_same.trans (congrArg (fun z => some (HO.lst z)) (rep_flat (V.ref st) 200))⟩⟩
    clear L
    rintro σ H2 ⟨s, t, st, l, rfl, L, M⟩
    -- two hundred can be
    refine ⟨fun σ H' => σ = [some (.ref sc), some (.ref p), v2, v3, v4, v5, v6, v7, v8, v9, v10, v11, v12, v13, some (.ref l), some (.bl true), none, none] ∧ LS K T P2 p sc ns H' ∧ MS s t st l H', ?_, ?_⟩
    · refine ⟨by show (3 : Nat) ≤ sizeLine; decide, fun s2 n1 => ⟨by show (1 : Nat) ≤ sizeLine; decide, fun b n2 => ?_⟩⟩
      have k1 := (Kept.refl (M := []) H2).upd (o := .tup [.str "is", .str "ann", .str "cat"]) n1
      have j2 := (Kept.refl (M := []) _).upd (o := .tup [.ref s2]) n2
      have k2 := k1.trans j2
      have L2 := L.k0 k2
      have M2 := M.mv (.k0 k2) (k2 _ _ M.hl (by simp))
      obtain ⟨w1, w2, w3⟩ := r0_words
      refine ⟨_, rfl, b, [r0], .ref l, rfl, ⟨[s2], upd_same, .cons (j2 _ _ upd_same (by simp)) .nil⟩, w1, w2, w3, L2.ht, .inr ⟨l, _, List.replicate 200 x0, 200, rfl, M2.hl, (fun z => by have := congrArg List.length z; rw [List.length_replicate] at this; cases this), by rw [List.length_replicate]; decide, by decide, M2.good (by rw [List.length_replicate]; decide) (fun i hi => by rw [List.getElem?_replicate, if_pos hi]), .inl ⟨by rw [List.length_replicate], List.replicate 200 0, M2.nums, fun n hn => by rw [(List.mem_replicate.mp hn).2]; decide, fun t2 sa p2 ms H3 s3 kp ht2 _ last hp asc mem => ?_⟩⟩⟩
      obtain ⟨a, nv, av, e1, e2⟩ := last
      rw [List.length_replicate, List.getElem?_replicate, if_pos (by decide)] at e1
      cases e1
      rw [M2.hst] at e2
      cases e2
      obtain rfl : ms = [0] := asc_eqI asc (by simp) fun k => by
        rw [mem, List.mem_singleton]
        exact ⟨fun ⟨n, hn, e⟩ => by rw [e, (List.mem_replicate.mp hn).2]; rfl, fun e => ⟨0, List.mem_replicate.mpr ⟨by decide, rfl⟩, e⟩⟩
      refine ⟨by show (3 : Nat) ≤ sizeLine; decide, fun s4 n4 => ⟨by show (1 : Nat) ≤ sizeLine; decide, fun p4 n5 => ⟨by show (2 : Nat) ≤ sizeLine; decide, fun t4 n6 => ?_⟩⟩⟩
      have k4 := (Kept.refl (M := []) H3).upd (o := .tup [.str "is", .str "ann", .str "cat"]) n4
      have j6 := (Kept.refl (M := []) _).upd (o := .tup [.ref s4, .ref p4]) n6
      have j5 := ((Kept.refl (M := []) _).upd (o := .lst [.int 0]) n5).trans j6
      have k6 := k4.trans j5
      have L6 := (L2.kp nT2 kp).k0 k6
      have r6 : Rl p H2 _ := ((Rl.k0 k2).trans (.kp L2.ht kp)).trans (.k0 k6)
      have M6 := M.mv (L.tk L6 r6) (k6 _ _ (kp.obj L2.ht M2.hl) (by simp))
      refine ⟨dGood, dGood, dp_good (k6 _ _ ht2 (by simp)) M6.hs (k6 _ _ hp (by simp)), dp_good upd_same (j5 _ _ upd_same (by simp)) (j6 _ _ upd_same (by simp)), by decide +kernel, by decide +kernel, ?_⟩
      rw [show PyData.eqv dGood dGood = true by decide +kernel]
      exact ⟨rfl, L6, M6⟩
    clear L M
    rintro σ H3 ⟨rfl, L, M⟩
    -- one more can't
    refine ⟨_, rfl, _, rfl, iteT ⟨L.t2, fun H1 e1 t1 lf nlf => ?_⟩⟩
    have L1 := L.lam nT2 e1 t1
    have kf := (Kept.refl (M := []) H1).upd (o := .lst []) nlf
    have M2 := L1.k0 kf
    have r2 : Rl p H3 _ := (Rl.tab L.t2 e1).trans (.k0 kf)
    have t2 := L.tk M2 r2
    have nlp : l ≠ p := fun z => by
      obtain ⟨i, r, m, e, _⟩ := L.S
      rw [← z, M.hl] at e
      have := congrArg (fun o => match o with | some (HO.lst xs) => xs.length | _ => 0) e
      simp at this
    have D2 := M.mv t2 (r2 _ _ M.hl nlp (fun _ z => nomatch z))
    refine ⟨by show (3 : Nat) ≤ sizeLine; decide, fun s2 n1 => ⟨by show (1 : Nat) ≤ sizeLine; decide, fun b n2 => ?_⟩⟩
    have k1 := (Kept.refl (M := []) _).upd (o := .tup [.str "is", .str "ann", .str "cat"]) n1
    have j2 := (Kept.refl (M := []) _).upd (o := .tup [.ref s2]) n2
    have k2 := k1.trans j2
    have ec : cutV (List.replicate 200 (V.ref st)) none (some 1) = [V.ref st] := cutV_take (n := 1) (by rw [List.length_replicate]; decide)
    refine ⟨_, rfl, _, rfl, 1, rfl, l, _, rfl, SqL.of (k2 _ _ D2.hl (by simp)), fun q3 n3 => ?_⟩
    rw [ec]
    have j3 := (Kept.refl (M := []) _).upd (o := .lst [V.ref st]) n3
    refine ⟨l, q3, _, [V.ref st], rfl, rfl, j3 _ _ (k2 _ _ D2.hl (by simp)) (by simp), upd_same, by rw [List.length_replicate, List.length_singleton]; decide, fun q4 n4 => ?_⟩
    have j4 := j3.upd (o := .lst (List.replicate 200 (V.ref st) ++ [V.ref st])) n4
    have k4 := k2.trans j4
    have M4 := M2.k0 k4
    have D4 := D2.mv (.k0 k4) (k4 _ _ D2.hl (by simp))
    obtain ⟨w1, w2, w3⟩ := r0_words
    refine ⟨b, [r0], .ref q4, rfl, ⟨[s2], j4 _ _ upd_same (by simp), .cons ((j2.trans j4) _ _ upd_same (by simp)) .nil⟩, w1, w2, w3, M4.ht, .inr ⟨q4, _, List.replicate 200 x0, 200, rfl, upd_same, by simp, by rw [List.length_append, List.length_replicate, List.length_singleton]; decide, by decide, D4.good (by rw [List.length_append, List.length_replicate, List.length_singleton]; decide) (fun i hi => by rw [List.getElem?_append_left (by rw [List.length_replicate]; exact hi), List.getElem?_replicate, if_pos hi]), .inr ⟨.inl ⟨rfl, by rw [List.length_append, List.length_replicate, List.length_singleton]; decide⟩, w_steps hC fun H5 H6 q kp k5 nq => ?_⟩⟩⟩
    refine ⟨by show (2 : Nat) ≤ sizeLine; decide, fun d nd => ?_⟩
    have kd := (Kept.refl (M := []) _).upd (o := .tup [.str "steps", .int 200]) nd
    refine ⟨dStp 200, dStp 200, dp_stp (kd _ _ upd_same (by simp)), dp_stp upd_same, by decide +kernel, by decide +kernel, ?_⟩
    rw [show PyData.eqv (dStp 200) (dStp 200) = true by decide +kernel]
    exact k _
end
end Ah
end
section
set_option Elab.async false
set_option linter.all false
set_option maxRecDepth 100000
set_option maxHeartbeats 400000
namespace Ah
open PySem PySem.Spec PyProof.Rows L2
/-- the def by its statement st -/
theorem sup_of {P : Program} {K : PySem.W.Frag} {mg : Str → Option Value} {qual : Str} {fI C : Addr} {st : Stmt} {N : List Str} {slf : Str} {rest : List Stmt} {p0 p1 p2 p3 p4 p5 : Pos} {txt : Str} {kk : Nat} {ar : Arg}
    (hf : fnY K fI = valY qual st) (hb : supB K P.main.file qual fI C = true) (hbody : defBody st = .Expr (.Call (.Attribute (.Call (.Name "super" p0) [] [] p1) "__init__" p2) [.Constant (.str txt) kk p3] [] p4) p5 :: rest)
    (har : ((defArgs st).posonlyargs ++ (defArgs st).args).head? = some ar) (hsl : ar.arg = slf) (nd : N.Nodup) (hd : N[0]? = some slf) (sup : mg "super" = none) (top : (P.main.scope.names.lookup ("super" : Str)).isSome = false)
    (h1 : (defScope st).kind = .function ∧ (defScope st).isCoroutine = false ∧ (defScope st).isGenerator = false ∧ (∀ x ∈ (defScope st).names, x.2 ≠ .cell) ∧ (∀ x ∈ N, (defScope st).names.lookup x = some .local) ∧ (∀ x, (defScope st).names.lookup x = some .free → x = "__class__") ∧ (defScope st).names.lookup ("super" : Str) = some .globalImplicit ∧ (defScope st).names.lookup ("__class__" : Str) = some .free)
    (hin : ∀ (L : Addr) (cda cc : Addr), interactive (PySem.W.ksEnv qual (defScope st) L fI (.ref cda) cc) = false)
    (hsw : ∀ (L : Addr) (cda cc : Addr), swapsWith (.Call (.Attribute (.Call (.Name "super" p0) [] [] p1) "__init__" p2) [.Constant (.str txt) kk p3] [] p4) none p5.line (PySem.W.ksEnv qual (defScope st) L fI (.ref cda) cc) = pure false)
    (hev : ∃ pl : Addr → Addr → Addr → Sem Bool, ∀ (L : Addr) (cda cc : Addr), eval (.Call (.Attribute (.Call (.Name "super" p0) [] [] p1) "__init__" p2) [.Constant (.str txt) kk p3] [] p4) (PySem.W.ksEnv qual (defScope st) L fI (.ref cda) cc) = (do
      let ov ← attributeBase (.Call (.Name "super" p0) [] [] p1) "__init__" (PySem.W.ksEnv qual (defScope st) L fI (.ref cda) cc) (eval (.Call (.Name "super" p0) [] [] p1) (PySem.W.ksEnv qual (defScope st) L fI (.ref cda) cc))
      standAt p2.atName
      let (g, first) ← holding [ov] (getMethod ov "__init__" (pl cda cc L))
      callWith p4 g first (backTo p4 (starEach [.Constant (.str txt) kk p3] (PySem.W.ksEnv qual (defScope st) L fI (.ref cda) cc))) []))
    (hst : ∀ (L : Addr) (cda cc : Addr), starEach [.Constant (.str txt) kk p3] (PySem.W.ksEnv qual (defScope st) L fI (.ref cda) cc) = (false, eval (.Constant (.str txt) kk p3) (PySem.W.ksEnv qual (defScope st) L fI (.ref cda) cc)) :: starEach [] (PySem.W.ksEnv qual (defScope st) L fI (.ref cda) cc))
    (hpl : ∀ (L : Addr) (cda cc : Addr), (backTo p4 (starEach [] (PySem.W.ksEnv qual (defScope st) L fI (.ref cda) cc))).any (·.1) = false)
    (hbind : ∀ (kV doc pm ct : Value) (an : Option Addr) (cdv : Value) (cc : Addr) (us : List Value), us.length = N.length → bindArgs (PySem.W.ksFn "__init__" qual (defArgs st) (defBody st) (defScope st) .none kV doc pm an cdv ct cc) ⟨us, []⟩ = pure (N.zip us)) :
    ∃ fd, SupFn P K mg fI C fd N slf rest ∧ L2.Binds K fd N [] := by
  obtain ⟨b1, b2⟩ := band hb
  obtain ⟨b3, b4⟩ := band b2
  obtain ⟨b5, b6⟩ := band b4
  obtain ⟨b7, b8⟩ := band b6
  unfold fnY valY at hf
  cases q : K.lookup fI with
  | none =>
    rw [q] at hf
    cases hf
  | some o =>
    obtain ⟨oc, od, dt, osl⟩ := o
    rw [q] at hf b1
    cases dt with
    | func fd =>
      obtain ⟨n1, n2, n3, n4, n5, n6, n7, n8, n9, n10, n11, n12, n13, n14, n15⟩ := fd
      have e2 : (some (n1, n2, n3, n4, n5, n6, n7.map (·.1), n15) : FnY) = some (("__init__" : Str), qual, defArgs st, FuncBody.stmts (defBody st), defScope st, mainGlobals, [("__class__" : Str)], builtinsNs) := hf
      simp only [Option.some.injEq, Prod.mk.injEq] at e2
      obtain ⟨z1, z2, z3, z4, z5, z6, z7, z8⟩ := e2
      subst z1 z2 z3 z4 z5 z6 z8
      obtain ⟨c1, c2⟩ := band b1
      obtain ⟨c0, c1⟩ := band c1
      have c0 : n8 = .none := of_decide_eq_true c0
      subst c0
      obtain ⟨c3, c4⟩ := band c2
      obtain ⟨cda, e1⟩ : ∃ cda, n13 = .ref cda := by
        cases n13 with
        | ref cda => exact ⟨cda, rfl⟩
        | _ => cases c3
      subst e1
      obtain ⟨cc, e3⟩ : ∃ cc, n7 = [(("__class__" : Str), cc)] := by
        match n7, z7 with
        | [(x, cc)], z7 =>
          have e : x = ("__class__" : Str) := (List.cons.inj z7).1
          exact ⟨cc, by rw [e]⟩
      subst e3
      have c3 : (match K.lookup cda with
          | some ⟨_, _, .fields vs, _⟩ => (match (vs : Array Value)[2]? with
            | some (Value.str f _) => P.main.file == f
            | _ => false)
          | _ => false) = true := c3
      have c4 : (match K.lookup cc with
          | some ⟨_, _, .cell (some (.ref c)), _⟩ => decide (c = C)
          | _ => false) = true := c4
      obtain ⟨ccl, cdd, vs, ccs, file, tf, e4, e5, e6⟩ : ∃ ccl cdd vs ccs file tf, K.lookup cda = some ⟨ccl, cdd, .fields vs, ccs⟩ ∧ vs[2]? = some (.str file tf) ∧ (P.main.file == file) = true := by
        cases r : K.lookup cda with
        | none => rw [r] at c3; cases c3
        | some o =>
          obtain ⟨o1, o2, o3, o4⟩ := o
          rw [r] at c3
          cases o3 with
          | fields vs =>
            have c3 : (match (vs : Array Value)[2]? with
              | some (Value.str f _) => P.main.file == f
              | _ => false) = true := c3
            cases r2 : vs[2]? with
            | none => rw [r2] at c3; cases c3
            | some v =>
              rw [r2] at c3
              cases v with
              | str file tf => exact ⟨o1, o2, vs, o4, file, tf, rfl, r2, c3⟩
              | _ => cases c3
          | _ => cases c3
      obtain ⟨cl, cld, csl, e7⟩ : ∃ cl cld csl, K.lookup cc = some ⟨cl, cld, .cell (some (.ref C)), csl⟩ := by
        cases r : K.lookup cc with
        | none => rw [r] at c4; cases c4
        | some o =>
          obtain ⟨o1, o2, o3, o4⟩ := o
          rw [r] at c4
          cases o3 with
          | cell v =>
            cases v with
            | none => cases c4
            | some u =>
              cases u with
              | ref c =>
                have e : c = C := of_decide_eq_true c4
                rw [e]
                exact ⟨o1, o2, o4, rfl⟩
              | _ => cases c4
          | _ => cases c4
      obtain ⟨pl, hev⟩ := hev
      obtain ⟨s1, s2, s3, s4, s5, s6, s7, s8⟩ := h1
      rw [hbody] at q hbind
      have ex : SupFn P K mg fI C (PySem.W.ksFn "__init__" n2 (defArgs st) (.Expr (.Call (.Attribute (.Call (.Name "super" p0) [] [] p1) "__init__" p2) [.Constant (.str txt) kk p3] [] p4) p5 :: rest) (defScope st) .none n9 n10 n11 n12 (.ref cda) n14 cc) N slf rest := by
        refine ⟨⟨oc, od, "__init__", n2, defArgs st, defScope st, .none, n9, n10, n11, n14, n12, cda, cc, osl, p0, p1, p2, p3, p4, p5, txt, kk, ar, ccl, cl, cdd, cld, ccs, csl, vs, file, tf, pl cda cc, rfl, ?_⟩, nd, hd, sup, top, of_decide_eq_true b3, of_decide_eq_true b5, of_decide_eq_true b7, of_decide_eq_true b8⟩
        refine ⟨q, c1, har, hsl, e4, e5, e6, e7, s1, s2, s3, s4, s5, s6, s7, s8, ?_⟩
        exact ⟨fun L => hin L cda cc, fun L => hsw L cda cc, fun L => hev L cda cc, fun L => hst L cda cc, fun L => hpl L cda cc⟩
      exact ⟨_, ex, .all fun us hl => hbind _ _ _ _ _ _ _ us hl⟩
    | _ => cases b1
end Ah
end
section
set_option Elab.async false
set_option linter.all false
set_option maxRecDepth 100000
set_option maxHeartbeats 2000000
namespace Ah
open PySem PySem.Spec PyProof.Rows L2
theorem num_cases {i : Nat} (hi : i < 7) (h : numW i = true) : i = 0 ∨ i = 3 ∨ i = 6 := by
  match i, hi with
  | 0, _ => exact .inl rfl
  | 1, _ => cases h
  | 2, _ => cases h
  | 3, _ => exact .inr (.inl rfl)
  | 4, _ => cases h
  | 5, _ => cases h
  | 6, _ => exact .inr (.inr rfl)
abbrev PROG14 : Program := PySem.Challenge.pw_answerhouse_k14_steps_read
/-- BadSteps.__init__ -/
theorem row_init {K : PySem.W.Frag} {mg : Str → Option Value} {w : World} {base : Heap} {fI C : Addr} (hf : fnY K fI = valY "BadSteps.__init__" sBadstepsInit) (hb : supB K PROG14.main.file "BadSteps.__init__" fI C = true) (sup : mg "super" = none)
    (T : OexC K C) (hno : PySem.W.findIn K (.ref C) "number" = some none) :
    ∃ fd, FnOk PROG14 w K mg base (L2.CX PROG14 w) 1 fI fd ["self", "number"] (spErr1 C "number") ∧ L2.Binds K fd ["self", "number"] [] := by
  obtain ⟨fd, S, b⟩ := sup_of (P := PROG14) (mg := mg) (N := ["self", "number"]) (slf := "self") hf hb rfl rfl rfl (by decide) rfl sup (by decide +kernel)
    ⟨rfl, rfl, rfl, by decide +kernel, by decide +kernel, fun x h => by
      have e := PySem.mem_of_lookup h
      revert e
      have q : ∀ p ∈ (defScope sBadstepsInit).names, p.2 = NameKind.free → p.1 = ("__class__" : Str) := by decide +kernel
      exact fun e => q _ e rfl, rfl, rfl⟩
    (fun _ _ _ => rfl) (fun _ _ _ => rfl) ⟨_, fun _ _ _ => rfl⟩ (fun _ _ _ => rfl) (fun _ _ _ => rfl)
    (fun kV doc pm ct an cdv cc us hl => by
      match us, hl with
      | [a, b], _ => rfl)
  exact ⟨fd, sup_one S T hno (by decide) (by decide) (by decide) (by decide), b⟩
end Ah
end
section
set_option Elab.async false
set_option linter.all false
set_option maxRecDepth 100000
set_option maxHeartbeats 4000000
namespace Ah
open PySem PySem.Spec PyProof.Rows L2
open GxR (TabB TabG Tabbed)
theorem forms_ok {K : PySem.W.Frag} (h : formsB K = true) {z : Str} {ps : List Str} (e : formsL.lookup z = some ps) : ∃ a, PySem.W.nsIn K (He.ga K "FORMS") z = some (some (.ref a)) ∧ ∀ H, SqT K H a (ps.map V.str) := by
  have m := lookup_in e
  have h2 := List.all_eq_true.mp h _ m
  have h3 : (match PySem.W.nsIn K (He.ga K "FORMS") z with
    | some (some (.ref a)) => tupK K a ps
    | _ => false) = true := h2
  cases q : PySem.W.nsIn K (He.ga K "FORMS") z with
  | none =>
    rw [q] at h3
    cases h3
  | some r =>
    rw [q] at h3
    cases r with
    | none => cases h3
    | some u =>
      cases u with
      | ref a => exact ⟨a, rfl, tupK_ok h3⟩
      | _ => cases h3
theorem mapK_len {α β : Type} {f : α → β} {l : List α} {m : List β} (h : l.map f = m) (i : Nat) {a : α} (ha : l[i]? = some a) : m[i]? = some (f a) := by
  rw [← h, List.getElem?_map, ha] <;> rfl
theorem facts {w : World} {K : PySem.W.Frag} {h : Heap} {mg : Str → Option Value} {f : Addr} (X : K.In h) (G : h.Ns mainGlobals mg) (hfa : mg ("law" : Str) = some (.ref f)) (c : He.SaysX fa fn ts tf exB w h K) (cv : sup14 K = val14) :
    LamX.LawAtS PySem.Challenge.rw_answerhouse_k14_steps_read w K CX0 18 63 "_law_script" mg f h := by
  have d := c.t.d
  obtain ⟨fd0, F0⟩ : ∃ fd, FnP K "leads_from_kind" sLKind (He.ga K "leads_from_kind") fd := d.def_ 0 (d := dF "leads_from_kind" sLKind) rfl
  obtain ⟨fd1, F1⟩ : ∃ fd, FnP K "leads_on" sLOn (He.ga K "leads_on") fd := d.def_ 1 (d := dF "leads_on" sLOn) rfl
  obtain ⟨fd2, F2⟩ : ∃ fd, FnP K "leads_from_tie" sLTie (He.ga K "leads_from_tie") fd := d.def_ 2 (d := dF "leads_from_tie" sLTie) rfl
  obtain ⟨fd3, F3⟩ : ∃ fd, FnP K "leads_by" sLBy (He.ga K "leads_by") fd := d.def_ 3 (d := dF "leads_by" sLBy) rfl
  obtain ⟨fd4, F4⟩ : ∃ fd, FnP K "is_word" sIsWord (He.ga K "is_word") fd := d.def_ 4 (d := dF "is_word" sIsWord) rfl
  obtain ⟨fd5, F5⟩ : ∃ fd, FnP K "is_row" sIsRow (He.ga K "is_row") fd := d.def_ 5 (d := dF "is_row" sIsRow) rfl
  obtain ⟨fd6, F6⟩ : ∃ fd, FnP K "is_saying" sIsSaying (He.ga K "is_saying") fd := d.def_ 6 (d := dF "is_saying" sIsSaying) rfl
  obtain ⟨fd7, F7⟩ : ∃ fd, FnP K "is_number" sIsNumber (He.ga K "is_number") fd := d.def_ 7 (d := dF "is_number" sIsNumber) rfl
  obtain ⟨fd8, F8⟩ : ∃ fd, FnP K "check_text" sCheck (He.ga K "check_text") fd := d.def_ 8 (d := dF "check_text" sCheck) rfl
  obtain ⟨fd9, F9⟩ : ∃ fd, FnP K "told_of" sToldOf (He.ga K "told_of") fd := d.def_ 9 (d := dF "told_of" sToldOf) rfl
  obtain ⟨fd10, F10⟩ : ∃ fd, FnP K "names_of" sNamesOf (He.ga K "names_of") fd := d.def_ 10 (d := dF "names_of" sNamesOf) rfl
  obtain ⟨fd11, F11⟩ : ∃ fd, FnP K "read_steps" sReadSteps (He.ga K "read_steps") fd := d.def_ 11 (d := dF "read_steps" sReadSteps) rfl
  obtain ⟨fd12, F12⟩ : ∃ fd, FnP K "check_steps" sCheckSteps (He.ga K "check_steps") fd := d.def_ 12 (d := dF "check_steps" sCheckSteps) rfl
  obtain ⟨fd13, F13⟩ : ∃ fd, FnP K "can_be" sCanBe (He.ga K "can_be") fd := d.def_ 13 (d := dF "can_be" sCanBe) rfl
  obtain ⟨fd14, F14⟩ : ∃ fd, FnP K "comes_by" sComesBy (He.ga K "comes_by") fd := d.def_ 14 (d := dF "comes_by" sComesBy) rfl
  obtain ⟨fd15, F15⟩ : ∃ fd, FnP K "_law_row" lRow (He.ga K "_law_row") fd := d.def_ 15 (d := dF "_law_row" lRow) rfl
  obtain ⟨fd16, F16⟩ : ∃ fd, FnP K "_law_taken" lTaken (He.ga K "_law_taken") fd := d.def_ 16 (d := dF "_law_taken" lTaken) rfl
  obtain ⟨fd17, F17⟩ : ∃ fd, FnP K "_law_one" lOne (He.ga K "_law_one") fd := d.def_ 17 (d := dF "_law_one" lOne) rfl
  obtain ⟨fd18, F18⟩ : ∃ fd, FnP K "_law_text" lText (He.ga K "_law_text") fd := d.def_ 18 (d := dF "_law_text" lText) rfl
  obtain ⟨fd19, F19⟩ : ∃ fd, FnP K "_law_led" lLed (He.ga K "_law_led") fd := d.def_ 19 (d := dF "_law_led" lLed) rfl
  obtain ⟨fd20, F20⟩ : ∃ fd, FnP K "_law_both" lBoth (He.ga K "_law_both") fd := d.def_ 20 (d := dF "_law_both" lBoth) rfl
  obtain ⟨fd21, F21⟩ : ∃ fd, FnP K "_law_alike" lAlike (He.ga K "_law_alike") fd := d.def_ 21 (d := dF "_law_alike" lAlike) rfl
  obtain ⟨fd22, F22⟩ : ∃ fd, FnP K "_law_word" lWord (He.ga K "_law_word") fd := d.def_ 22 (d := dF "_law_word" lWord) rfl
  obtain ⟨fd23, F23⟩ : ∃ fd, FnP K "_law_saying" lSaying (He.ga K "_law_saying") fd := d.def_ 23 (d := dF "_law_saying" lSaying) rfl
  obtain ⟨fd24, F24⟩ : ∃ fd, FnP K "_law_odd_step" lOddStep (He.ga K "_law_odd_step") fd := d.def_ 24 (d := dF "_law_odd_step" lOddStep) rfl
  obtain ⟨fd25, F25⟩ : ∃ fd, FnP K "_law_nearly" lNearly (He.ga K "_law_nearly") fd := d.def_ 25 (d := dF "_law_nearly" lNearly) rfl
  obtain ⟨fd26, F26⟩ : ∃ fd, FnP K "law" lLaw (He.ga K "law") fd := d.def_ 26 (d := dF "law" lLaw) rfl
  have e := hfa.symm.trans (He.glo_ok X G (d.fact 26 (f := .glo "law") rfl))
  cases e
  have gl : ∀ (i : Nat) (x : Str), fa[i]? = some (.glo x) → mg x = some (.ref (He.ga K x)) := fun i x q => He.glo_ok X G (d.fact i q)
  have fr : ∀ (i : Nat) (x : Str), fa[i]? = some (.free x) → mg x = none := fun i x q => He.free_ok X G (d.fact i q)
  have z_isinstance := fr 27 "isinstance" rfl
  have z_len := fr 28 "len" rfl
  have z_tuple := fr 29 "tuple" rfl
  have z_list := fr 30 "list" rfl
  have z_str := fr 31 "str" rfl
  have z_bool := fr 32 "bool" rfl
  have z_range := fr 33 "range" rfl
  have z_enumerate := fr 34 "enumerate" rfl
  have z_sorted := fr 35 "sorted" rfl
  have z_zip := fr 36 "zip" rfl
  have z_dict := fr 37 "dict" rfl
  have z_all := fr 38 "all" rfl
  have z_super := fr 39 "super" rfl
  have z_ValueError := fr 40 "ValueError" rfl
  have z_int := fr 41 "int" rfl
  have g_FORMS := gl 42 "FORMS" rfl
  have g_BARRED := gl 43 "BARRED" rfl
  have g_CLASH := gl 44 "CLASH" rfl
  have g_AnswerError := gl 45 "AnswerError" rfl
  have g_BadRow := gl 46 "BadRow" rfl
  have g_BadSaying := gl 47 "BadSaying" rfl
  have g_BadCount := gl 48 "BadCount" rfl
  have g_BadSteps := gl 49 "BadSteps" rfl
  have g_NoRow := gl 50 "NoRow" rfl
  have g_NoFollow := gl 51 "NoFollow" rfl
  have g_BadDeed := gl 52 "BadDeed" rfl
  have g_Halted := gl 53 "Halted" rfl
  have g_BadText := gl 54 "BadText" rfl
  obtain ⟨hex, hex2⟩ := He.ba (show (formsB K && (tupK K (He.ga K "BARRED") barred && (tupK K (He.ga K "CLASH") ["clash"] && (tabsB K && (bdB K && wordB K (He.ga K "AnswerError")))))) = true from c.more)
  obtain ⟨hbar, hex3⟩ := He.ba hex2
  obtain ⟨hcl, hex4⟩ := He.ba hex3
  obtain ⟨htb, hex5⟩ := He.ba hex4
  obtain ⟨hbd, hwo⟩ := He.ba hex5
  obtain ⟨n1, htb⟩ := He.ba htb
  obtain ⟨n2, n3⟩ := He.ba htb
  have neq : ∀ {a b : Addr}, neT a b = true → a ≠ b := fun {a b} h z => by
    unfold neT at h
    rw [decide_eq_true z] at h
    cases h
  have B : Bl mg := ⟨z_isinstance, z_len, z_tuple, z_list, z_str, z_bool, z_range, z_enumerate, z_sorted, z_zip, z_dict, z_all⟩
  have W : TW K mg := ⟨z_isinstance, z_len, z_all, z_str, z_tuple, z_enumerate, He.int_ok X G (d.fact 55 (f := .int "LONGEST_WORD" 6) rfl), He.str_ok X G (d.fact 57 (f := .str "LETTERS" letters) rfl), He.ga K "BARRED", g_BARRED, tupK_ok hbar⟩
  have e2 : ts.map (fun t => He.dicW K (t.1 K)) = ts.map fun t => some (He.keysIn w.params t.2) := congrArg (fun z : He.AlT => z.2) c.t
  have e3 := List.cons.inj (show He.dicW K (He.ga K "FORMS") :: _ = some (He.keysIn w.params (formsL.map (·.1))) :: _ from e2)
  have hdic : He.dicW K (He.ga K "FORMS") = some (He.keysIn w.params (formsL.map (·.1))) := e3.1
  have D : TF K w mg (He.ga K "FORMS") := ⟨g_FORMS, He.dicW_ok hdic, fun z ps hz => forms_ok hex hz, fun z hz => out_of hdic (lookup_none hz)⟩
  have C : TClash K mg (He.ga K "CLASH") := ⟨g_CLASH, tupK_ok hcl⟩
  have hMost := He.int_ok X G (d.fact 56 (f := .int "MOST_ROWS" 24) rfl)
  have hSteps := He.int_ok X G (d.fact 58 (f := .int "MOST_STEPS" 200) rfl)
  obtain ⟨bd1, bd⟩ := He.ba hbd
  obtain ⟨bd2, bd⟩ := He.ba bd
  obtain ⟨bd3, bd⟩ := He.ba bd
  obtain ⟨bd4, bd⟩ := He.ba bd
  obtain ⟨bd5, bd6⟩ := He.ba bd
  have R1 : One K (He.ga K "BadSteps") (He.ma K (He.ga K "BadSteps") "__init__") "number" := ⟨oexB_ok bd2, xfB_ok bd3, of_decide_eq_true bd4, of_decide_eq_true bd5, of_decide_eq_true bd6⟩
  obtain ⟨k1, k2, k3, k4, k5⟩ := wordB_ok hwo
  have WF : WordG K mg (He.ga K "AnswerError") (cW K) := ⟨g_AnswerError, g_BadRow, g_BadSaying, g_BadCount, g_BadSteps, g_NoRow, g_NoFollow, g_BadDeed, g_Halted, g_BadText, z_isinstance, z_ValueError, k1, k2, k3, k4, fun i hi hn => k5 i (num_cases hi hn)⟩
  have hsup : fnY K (He.ma K (He.ga K "BadSteps") "__init__") = valY "BadSteps.__init__" sBadstepsInit := (List.cons.inj cv).1
  have bLaw := FunD.bindsA (ps := ["_law_script"]) F26 fun _ _ _ _ _ _ us hl => match us, hl with | [_], _ => rfl
  have code : ∀ {p : He.Defn} {x q : Str} {st : Stmt} {fd : FuncData}, FunD K x q (defArgs st) (defBody st) (defScope st) [] [] (He.fAd K p) fd → fd.code = .ref (He.cT K p).1 := by
    intro p x q st fd F
    obtain ⟨oc, od, dV, kV, doc, pm, an, cdv, ct, osl, rfl, lk, hcd, _, _⟩ := F.ex
    obtain ⟨c0, e0⟩ := He.codeIn_ref hcd
    have e1 := He.codeOf_eq (p := p) lk (show (PySem.W.fnOf x q (defArgs st) (defBody st) (defScope st) dV kV doc pm an cdv ct).code = .ref c0 from e0)
    show cdv = .ref (He.codeOf K p)
    rw [e1, e0]
  refine ⟨fd26, tf.map (He.cT K), spLaw K [(He.cT K ("is_word", none)).2, (He.cT K ("is_row", none)).2, (He.cT K ("can_be", none)).2] (He.cT K ("law", none)).2, fun p hp => ?_, fun p hp => ?_, fun p hp => ?_, fun s u => bLaw s [u] rfl, fun H a ns hl _ hT hS => ⟨a, ns, rfl, hS, hl, fun P hP => ?_, ?_, fun _ => rfl⟩, fun base hK hN hTB => ?_⟩
  · obtain ⟨q, hq, rfl⟩ := List.mem_map.mp hp
    exact c.empty q hq
  · obtain ⟨q, hq, rfl⟩ := List.mem_map.mp hp
    exact c.out q hq
  · obtain ⟨q, hq, rfl⟩ := List.mem_map.mp hp
    exact PySem.W.codeHd_of_K X (c.hd q hq)
  · rcases List.mem_cons.mp hP with e | hP
    · exact ⟨#[], e ▸ (hT _ (List.mem_map_of_mem (f := He.cT K) (show (("is_word", none) : He.Defn) ∈ tf from (List.mem_cons_self)))), trivial⟩
    · rcases List.mem_cons.mp hP with e | hP
      · exact ⟨#[], e ▸ (hT _ (List.mem_map_of_mem (f := He.cT K) (show (("is_row", none) : He.Defn) ∈ tf from (List.mem_cons_of_mem _ (List.mem_cons_self))))), trivial⟩
      · exact ⟨#[], (List.mem_singleton.mp hP) ▸ (hT _ (List.mem_map_of_mem (f := He.cT K) (show (("can_be", none) : He.Defn) ∈ tf from (List.mem_cons_of_mem _ (List.mem_cons_of_mem _ (List.mem_cons_self)))))), trivial⟩
  · exact LamX.TabS.nil (hT _ (List.mem_map_of_mem (f := He.cT K) (show (("law", none) : He.Defn) ∈ tf from (List.mem_cons_of_mem _ (List.mem_cons_of_mem _ (List.mem_cons_of_mem _ (List.mem_cons_self)))))))
  · have tb : ∀ q ∈ tf, TabB base mg (He.cT K q).1 (He.cT K q).2 := fun q hq => by
      have z := hTB _ (List.mem_map_of_mem (f := He.cT K) hq)
      exact ⟨z.code, z.bm, z.gP⟩
    have inT : ∀ q ∈ tf, (He.cT K q).2 ∈ (tf.map (He.cT K)).map (·.2) := fun q hq => List.mem_map_of_mem (List.mem_map_of_mem hq)
    have m0 : (("is_word", none) : He.Defn) ∈ tf := (List.mem_cons_self)
    have m1 : (("is_row", none) : He.Defn) ∈ tf := (List.mem_cons_of_mem _ (List.mem_cons_self))
    have m2 : (("can_be", none) : He.Defn) ∈ tf := (List.mem_cons_of_mem _ (List.mem_cons_of_mem _ (List.mem_cons_self)))
    have m3 : (("law", none) : He.Defn) ∈ tf := (List.mem_cons_of_mem _ (List.mem_cons_of_mem _ (List.mem_cons_of_mem _ (List.mem_cons_self))))
    have tbL : ∀ q ∈ tf, LamX.TabB base mg (He.cT K q).1 (He.cT K q).2 := fun q hq => ⟨(tb q hq).code, (tb q hq).bm, (tb q hq).gP⟩
    have i9 : (He.cT K ("is_word", none)).2 ∈ [(He.cT K ("is_word", none)).2, (He.cT K ("is_row", none)).2, (He.cT K ("can_be", none)).2] := List.mem_cons_self
    have i10 : (He.cT K ("is_row", none)).2 ∈ [(He.cT K ("is_word", none)).2, (He.cT K ("is_row", none)).2, (He.cT K ("can_be", none)).2] := List.mem_cons_of_mem _ List.mem_cons_self
    have i11 : (He.cT K ("can_be", none)).2 ∈ [(He.cT K ("is_word", none)).2, (He.cT K ("is_row", none)).2, (He.cT K ("can_be", none)).2] := List.mem_cons_of_mem _ (List.mem_cons_of_mem _ List.mem_cons_self)
    have nLT : (He.cT K ("law", none)).2 ∉ [(He.cT K ("is_word", none)).2, (He.cT K ("is_row", none)).2, (He.cT K ("can_be", none)).2] := fun z => by
      rcases List.mem_cons.mp z with z | z
      · exact neq n1 z
      · rcases List.mem_cons.mp z with z | z
        · exact neq n2 z
        · exact neq n3 (List.mem_singleton.mp z)
    generalize [(He.cT K ("is_word", none)).2, (He.cT K ("is_row", none)).2, (He.cT K ("can_be", none)).2] = T at i9 i10 i11 nLT ⊢
    obtain ⟨fdI, FI, bI⟩ := row_init (w := w) (base := base) hsup bd1 z_super R1.T R1.hno
    have c9 := code (p := ("is_word", none)) F4
    have c10 := code (p := ("is_row", none)) F5
    have cC := code (p := ("can_be", none)) F13
    have cL := code (p := ("law", none)) F26
    have t9 := tb _ m0
    have t10 := tb _ m1
    have tC := tb _ m2
    have tL := tbL _ m3
    have bW : L2.Binds K fd22 ["_law_work"] [] := F22.bindsN fun _ _ _ _ _ _ us hl => match us, hl with | [_], _ => rfl
    have b_4 : Binds K fd4 ["word"] [] := F4.bindsN fun _ _ _ _ _ _ us hl => match us, hl with | [_], _ => rfl
    have o_is_word : Own (PySem.Challenge.rw_answerhouse_k14_steps_read).prog w K mg base "is_word" 3 _ fd4 ["word"] (spWord T) := ⟨ok_word F4 c9 t9 i9 W, gl 4 "is_word" rfl, F4.kp, b_4⟩
    have b_5 : Binds K fd5 ["row"] [] := F5.bindsN fun _ _ _ _ _ _ us hl => match us, hl with | [_], _ => rfl
    have o_is_row : Own (PySem.Challenge.rw_answerhouse_k14_steps_read).prog w K mg base "is_row" 5 _ fd5 ["row"] (spRow K T) := ⟨ok_row F5 c10 t10 i10 W D o_is_word.g o_is_word.ok o_is_word.kp o_is_word.b, gl 5 "is_row" rfl, F5.kp, b_5⟩
    have b_8 : Binds K fd8 ["rows"] [] := F8.bindsN fun _ _ _ _ _ _ us hl => match us, hl with | [_], _ => rfl
    have o_check : Own (PySem.Challenge.rw_answerhouse_k14_steps_read).prog w K mg base "check_text" 6 _ fd8 ["rows"] (spCheck0 K T) := ⟨ok_check F8 W hMost o_is_row.g o_is_row.ok o_is_row.kp o_is_row.b, gl 8 "check_text" rfl, F8.kp, b_8⟩
    have b_7 : Binds K fd7 ["number", "many"] [] := F7.bindsN fun _ _ _ _ _ _ us hl => match us, hl with | [_, _], _ => rfl
    have o_isnum : Own (PySem.Challenge.rw_answerhouse_k14_steps_read).prog w K mg base "is_number" 1 _ fd7 ["number", "many"] spNum := ⟨ok_isnum F7 z_isinstance z_int z_bool, gl 7 "is_number" rfl, F7.kp, b_7⟩
    have b_6 : Binds K fd6 ["row"] [] := F6.bindsN fun _ _ _ _ _ _ us hl => match us, hl with | [_], _ => rfl
    have o_issay : Own (PySem.Challenge.rw_answerhouse_k14_steps_read).prog w K mg base "is_saying" 6 _ fd6 ["row"] (spIsS T) := ⟨ok_isS F6 o_is_row.g o_is_row.ok o_is_row.kp o_is_row.b, gl 6 "is_saying" rfl, F6.kp, b_6⟩
    have b_1 : Binds K fd1 ["saying", "names"] [] := F1.bindsN fun _ _ _ _ _ _ us hl => match us, hl with | [_, _], _ => rfl
    have o_lon : Own (PySem.Challenge.rw_answerhouse_k14_steps_read).prog w K mg base "leads_on" 1 _ fd1 ["saying", "names"] (spOn K) := ⟨ok_lon F1, gl 1 "leads_on" rfl, F1.kp, b_1⟩
    have b_0 : Binds K fd0 ["row", "saying", "names"] [] := F0.bindsN fun _ _ _ _ _ _ us hl => match us, hl with | [_, _, _], _ => rfl
    have o_lkind : Own (PySem.Challenge.rw_answerhouse_k14_steps_read).prog w K mg base "leads_from_kind" 1 _ fd0 ["row", "saying", "names"] (spLK K) := ⟨ok_lkind F0 C, gl 0 "leads_from_kind" rfl, F0.kp, b_0⟩
    have b_2 : Binds K fd2 ["row", "saying", "names"] [] := F2.bindsN fun _ _ _ _ _ _ us hl => match us, hl with | [_, _, _], _ => rfl
    have o_ltie : Own (PySem.Challenge.rw_answerhouse_k14_steps_read).prog w K mg base "leads_from_tie" 2 _ fd2 ["row", "saying", "names"] (spLT K) := ⟨ok_ltie F2 C o_lon, gl 2 "leads_from_tie" rfl, F2.kp, b_2⟩
    have b_3 : Binds K fd3 ["row", "saying", "names"] [] := F3.bindsN fun _ _ _ _ _ _ us hl => match us, hl with | [_, _, _], _ => rfl
    have o_lby : Own (PySem.Challenge.rw_answerhouse_k14_steps_read).prog w K mg base "leads_by" 3 _ fd3 ["row", "saying", "names"] (spBy K) := ⟨ok_lby F3 o_lkind o_ltie, gl 3 "leads_by" rfl, F3.kp, b_3⟩
    have b_9 : Binds K fd9 ["rows", "place"] [] := F9.bindsN fun _ _ _ _ _ _ us hl => match us, hl with | [_, _], _ => rfl
    have o_told : Own (PySem.Challenge.rw_answerhouse_k14_steps_read).prog w K mg base "told_of" 1 _ fd9 ["rows", "place"] spToldL := ⟨ok_toldL F9 D B, gl 9 "told_of" rfl, F9.kp, b_9⟩
    have b_10 : Binds K fd10 ["rows"] [] := F10.bindsN fun _ _ _ _ _ _ us hl => match us, hl with | [_], _ => rfl
    have o_names : Own (PySem.Challenge.rw_answerhouse_k14_steps_read).prog w K mg base "names_of" 2 _ fd10 ["rows"] spNamesL := ⟨ok_namesL F10 o_told, gl 10 "names_of" rfl, F10.kp, b_10⟩
    have b_14 : Binds K fd14 ["row", "ahead", "saying"] [] := F14.bindsN fun _ _ _ _ _ _ us hl => match us, hl with | [_, _, _], _ => rfl
    have o_cb : Own (PySem.Challenge.rw_answerhouse_k14_steps_read).prog w K mg base "comes_by" 4 _ fd14 ["row", "ahead", "saying"] spCB := ⟨ok_comesby F14 B o_lby o_names, gl 14 "comes_by" rfl, F14.kp, b_14⟩
    have b_13 : Binds K fd13 ["rows", "steps", "at"] [] := F13.bindsN fun _ _ _ _ _ _ us hl => match us, hl with | [_, _, _], _ => rfl
    have o_canbe : Own (PySem.Challenge.rw_answerhouse_k14_steps_read).prog w K mg base "can_be" 7 _ fd13 ["rows", "steps", "at"] (spCan T) := ⟨ok_canbe F13 cC tC i11 B o_issay o_isnum o_cb, gl 13 "can_be" rfl, F13.kp, b_13⟩
    have b_15 : Binds K fd15 ["_law_script"] [] := F15.bindsN fun _ _ _ _ _ _ us hl => match us, hl with | [_], _ => rfl
    have o_lrow : Own (PySem.Challenge.rw_answerhouse_k14_steps_read).prog w K mg base "_law_row" 1 _ fd15 ["_law_script"] (spLRow K) := ⟨ok_lrow F15, gl 15 "_law_row" rfl, F15.kp, b_15⟩
    have b_16 : Binds K fd16 ["_law_row_here", "_law_many"] [] := F16.bindsN fun _ _ _ _ _ _ us hl => match us, hl with | [_, _], _ => rfl
    have o_ltaken : Own (PySem.Challenge.rw_answerhouse_k14_steps_read).prog w K mg base "_law_taken" 1 _ fd16 ["_law_row_here", "_law_many"] (spTaken K) := ⟨ok_ltaken F16 z_len, gl 16 "_law_taken" rfl, F16.kp, b_16⟩
    have b_17 : Binds K fd17 ["_law_row_here"] [] := F17.bindsN fun _ _ _ _ _ _ us hl => match us, hl with | [_], _ => rfl
    have o_lone : Own (PySem.Challenge.rw_answerhouse_k14_steps_read).prog w K mg base "_law_one" 2 _ fd17 ["_law_row_here"] (spOne K) := ⟨ok_lone F17 o_ltaken.g o_ltaken.ok o_ltaken.kp o_ltaken.b, gl 17 "_law_one" rfl, F17.kp, b_17⟩
    have b_18 : Binds K fd18 ["_law_row_here", "_law_many"] [] := F18.bindsN fun _ _ _ _ _ _ us hl => match us, hl with | [_, _], _ => rfl
    have o_ltext : Own (PySem.Challenge.rw_answerhouse_k14_steps_read).prog w K mg base "_law_text" 3 _ fd18 ["_law_row_here", "_law_many"] (spText K) := ⟨ok_ltext F18 o_ltaken.g o_ltaken.ok o_ltaken.kp o_ltaken.b o_lone.g o_lone.ok o_lone.kp o_lone.b z_tuple z_range, gl 18 "_law_text" rfl, F18.kp, b_18⟩
    have b_19 : Binds K fd19 ["_law_one_here", "_law_x"] [] := F19.bindsN fun _ _ _ _ _ _ us hl => match us, hl with | [_, _], _ => rfl
    have o_lled : Own (PySem.Challenge.rw_answerhouse_k14_steps_read).prog w K mg base "_law_led" 1 _ fd19 ["_law_one_here", "_law_x"] (spLed K) := ⟨ok_led F19, gl 19 "_law_led" rfl, F19.kp, b_19⟩
    have b_20 : Binds K fd20 ["_law_one_here", "_law_x", "_law_y"] [] := F20.bindsN fun _ _ _ _ _ _ us hl => match us, hl with | [_, _, _], _ => rfl
    have o_lboth : Own (PySem.Challenge.rw_answerhouse_k14_steps_read).prog w K mg base "_law_both" 1 _ fd20 ["_law_one_here", "_law_x", "_law_y"] (spBoth K) := ⟨ok_both F20, gl 20 "_law_both" rfl, F20.kp, b_20⟩
    have b_23 : Binds K fd23 ["_law_row_here"] [] := F23.bindsN fun _ _ _ _ _ _ us hl => match us, hl with | [_], _ => rfl
    have o_lsay : Own (PySem.Challenge.rw_answerhouse_k14_steps_read).prog w K mg base "_law_saying" 2 _ fd23 ["_law_row_here"] (spLSay K) := ⟨ok_lsaying F23 o_ltaken, gl 23 "_law_saying" rfl, F23.kp, b_23⟩
    have b_24 : Binds K fd24 ["_law_row_here", "_law_rows", "_law_ahead"] [] := F24.bindsN fun _ _ _ _ _ _ us hl => match us, hl with | [_, _, _], _ => rfl
    have o_odd : Own (PySem.Challenge.rw_answerhouse_k14_steps_read).prog w K mg base "_law_odd_step" 3 _ fd24 ["_law_row_here", "_law_rows", "_law_ahead"] (spOddS K) := ⟨ok_loddstep F24 B o_ltaken o_lsay, gl 24 "_law_odd_step" rfl, F24.kp, b_24⟩
    have b_25 : Binds K fd25 ["_law_row_here", "_law_rows", "_law_steps"] [] := F25.bindsN fun _ _ _ _ _ _ us hl => match us, hl with | [_, _, _], _ => rfl
    have o_near : Own (PySem.Challenge.rw_answerhouse_k14_steps_read).prog w K mg base "_law_nearly" 2 _ fd25 ["_law_row_here", "_law_rows", "_law_steps"] (spNear K) := ⟨ok_lnearly F25 B z_int o_ltaken o_lled o_lboth, gl 25 "_law_nearly" rfl, F25.kp, b_25⟩
    have b_21 : Binds K fd21 ["_law_found", "_law_due"] [] := F21.bindsN fun _ _ _ _ _ _ us hl => match us, hl with | [_, _], _ => rfl
    have o_alike4 : Own (PySem.Challenge.rw_answerhouse_k14_steps_read).prog w K mg base "_law_alike" 4 _ fd21 ["_law_found", "_law_due"] (spAlike K 4) := ⟨ok_lalike F21 (gl 21 "_law_alike" rfl) b_21 B 4, gl 21 "_law_alike" rfl, F21.kp, b_21⟩
    exact (by
      have o_chs : FnOk (PySem.Challenge.rw_answerhouse_k14_steps_read).prog w K mg base (L2.CX (PySem.Challenge.rw_answerhouse_k14_steps_read).prog w) 8 _ fd12 ["rows", "steps"] (spSteps T (He.ga K "BadSteps")) := ok_checksteps F12 B hSteps o_canbe R1 FI bI g_BadSteps
      have bD_cs : L2.Binds K fd12 ["rows", "steps"] [] := ((F12).bindsN fun _ _ _ _ _ _ us hl => match us, hl with | [_, _], _ => rfl)
      have o_rds : FnOk (PySem.Challenge.rw_answerhouse_k14_steps_read).prog w K mg base (L2.CX (PySem.Challenge.rw_answerhouse_k14_steps_read).prog w) 9 _ fd11 ["rows", "steps"] (spRead T (He.ga K "BadSteps")) := ok_readsteps F11 B o_check (gl 12 "check_steps" rfl) o_chs (F12).kp bD_cs
      have bD_rs : L2.Binds K fd11 ["rows", "steps"] [] := ((F11).bindsN fun _ _ _ _ _ _ us hl => match us, hl with | [_, _], _ => rfl)
      exact ok_law F26 cL tL nLT B o_lrow o_ltext o_ltaken o_lled o_lboth o_odd o_near o_alike4 F22 (gl 22 "_law_word" rfl) (F22).kp bW WF rfl o_rds (gl 11 "read_steps" rfl) (F11).kp bD_rs)
end Ah
end
section
open PySem PySem.W PySem.Calls PyProof.Rows
set_option Elab.async false
set_option maxRecDepth 100000
set_option maxHeartbeats 0
theorem PySem.Challenge.cw_answerhouse_k14_steps_read_holds : PySem.Challenge.rw_answerhouse_k14_steps_read.Holds := by
  w_on; o_law
  refine HandSHeadRun.head_any (r := OpenLaw.row PySem.Challenge.rw_answerhouse_k14_steps_read) (q := view (OpenLaw.row PySem.Challenge.rw_answerhouse_k14_steps_read).prog [48]) (H := Ah.hk) (ob := Ah.ob) (M := 7000) (loose := Ah.loose) (d := HandSHeadRun.topDef (OpenLaw.row PySem.Challenge.rw_answerhouse_k14_steps_read).prog 48) (kwd := []) Ah.ob_eq
    (by kernel_rfl) (fun s => by kernel_rfl) Ah.run (by kernel_rfl) (by kernel_rfl) (by kernel_rfl) (by rfl) (by first | assumption | decide +kernel) (by decide +kernel) ⟨rfl, rfl, rfl, rfl, rfl, by decide +kernel⟩ ?hw ?hc
  case hw => w_witness2
  case hc =>
    refine LamX.walk_ofTsE (l := PySem.Challenge.rw_answerhouse_k14_steps_read) (n := 63) (k := 18) (x := "_law_script") (CX := fun _ => L2.CX0) rfl (by decide) (by kernel_rfl) ⟨rfl, by decide, by decide⟩ ?F (fun _ _ _ _ _ z => z)
    intro w mg fa h Y G hmg0
    obtain ⟨K, KX, c, cv⟩ := Y
    have hmg : mg ("law" : PySem.Str) = some (.ref fa) := by
      have e : (HandSHeadRun.topDef (OpenLaw.row PySem.Challenge.rw_answerhouse_k14_steps_read).prog 48).name = ("law" : PySem.Str) := by kernel_rfl
      rw [← e]
      exact hmg0
    exact ⟨K, KX, Ah.facts KX G hmg c cv⟩
end
