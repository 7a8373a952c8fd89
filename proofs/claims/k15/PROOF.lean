import PyProof.Rows.All
import Wide.All
import OpenK.AllK
import Wide.FinOn
import HandS.ForMost
import HandS.AnyAll
import HandS.GenList
import HandS.Walk
import KE.GoesEnum
import HandS.IsInst
import HandS.Defaults
import HandS.HeadHook4
import HandS.HeadWalk
import HandS.ExcInit
import HandS.ExcField
import HandS.ExcIs
import HandS.Head2
import HandS.HeadEnd
import HandS.WordsExc
import KE.KExcSuper
import KE.KSuper
import KE.KExcIs
import HandS.Conv
import HandS.TupAny
import HandS.Star
import HandS.Lambda
import HandS.Evl
import HandS.EndTab
import PySem.Challenge.RW_answerhouse_k15_houses_deed_by_deed
section
set_option Elab.async false
set_option linter.all false
set_option maxRecDepth 100000
set_option maxHeartbeats 2000000
/-! all(elt for x in iter) where elt may call defs: the generator's block as a context of its own. -/
namespace GxG
open PySem PySem.Spec PyProof.Rows L2 GenW
open GxR (TabB TabG Tabbed inv_tab sh_eta)

/-- the generator expression's own scope: one name of its own, nothing captured, no cells -/
structure GenS (env : Env) (scope : Scope) (x : Str) : Prop where
  kind : scope.kind = .function
  co : scope.isCoroutine = false
  nocf : ∀ y ∈ scope.names, y.2 ≠ .cell ∧ y.2 ≠ .free
  dot : scope.names.lookup (".0" : Str) = some NameKind.local
  loc : scope.names.lookup x = some .local
  clo : cloFrom env.cells scope.names [] = []

/-- the generator has been made: the state sB ahead of its frame, and s5 behind it -/
structure Made (X : Cx) (pins : List (Addr × Obj)) (σ : L2.St) (P : Addr) (H1 H2 : Hp) (tg : Expr) (c0 : Expr) (scope : Scope) (J : It) (it : Addr) (fp : List Addr) (tn : Nat → Heap → Prop) (code : Value) (sB s5 : Shared) : Prop where
  tab : Tabbed P H1 H2
  inv : Inv X pins σ H2 sB
  turn : Turn X.prog X.w X.K tg J fp it tn
  tn0 : tn 0 sB.heap
  fpo : ∀ b ∈ fp, FpOk X pins H2 b ∧ b < sB.heap.objs.size
  os : s5.os = sB.os
  bare : AllBare s5.gens
  keep : ∀ b o, sB.heap.get? b = some o → s5.heap.get? b = some o
  ns : s5.heap.Ns sB.heap.objs.size (fun y => if y = (".0" : Str) then some (.ref it) else none)
  gen : ∃ go nm qn, s5.heap.get? (sB.heap.objs.size + 1) = some go ∧ go.cls = .type "generator" ∧ go.data = .fields #[.int sB.gens.size 0, nm, qn] ∧ go.slots = #[]
  gs : s5.gens[sB.gens.size]? = some (.fresh (.compStart c0 0 (.ref it) .none (genEnv scope [] sB.heap.objs.size code builtinsNs X.env)))

section
variable {X : Cx} {pins : List (Addr × Obj)} {σ : L2.St} {H : Hp} {s : Shared}
theorem gen_it {c P : Addr} {elt iter tg : Expr} {x : Str} {gpos : Pos} {scope : Scope} {wi : TI} {k : Nat} {Q' : Value → Shared → Prop} {R : It → Hp → Prop}
    (hr : Room k X.A) (TB : TabB X.base X.mg c P) (hcode : X.env.code = .ref c) (S : GenS X.env scope x) (hi : PI X tg iter wi)
    (hs : ∀ v, genFold iter X.env v = pure v) (I : Inv X pins σ H s) (h : wi σ H fun J H1 => TabG H1 P ∧ R J H1)
    (hQ : ∀ J H1 H2 it fp tn code sB s5, R J H1 → Made X pins σ P H1 H2 tg (.GeneratorExp elt [⟨tg, iter, [], 0⟩] scope gpos) scope J it fp tn code sB s5 → Q' (.ref (sB.heap.objs.size + 1)) s5) :
    wpAny (model X.prog X.w) X.A (eval (.GeneratorExp elt [⟨tg, iter, [], 0⟩] scope gpos) X.env) Q' X.xe s := by
  refine wpAny_GeneratorExp_make (cl := []) S.co (by rw [← S.clo]; exact closure_ok fun y hy e => absurd e (S.nocf y hy).2) (fun y hy => (S.nocf y hy).1) S.dot S.kind (by have := hr.dp; omega) ?_ hs
  refine thn (hi.run pins s σ H _ I h) fun xv s1 h1 => thn h1 fun itv s2 h2 => ?_
  obtain ⟨it, fp, tn, J, H1, rfl, I1, T, st1, f1, ⟨ps, hP, ht⟩, hR⟩ := h2
  have hPs : s2.heap.get? P = some { cls := .none, data := .fields ps } := I1.hok P _ hP
  have cd : PySem.W.CodeHd s2.heap c P := TB.code.keeps fun b u e => I1.bk b u e
  refine ⟨I1.nolimit, ?_⟩
  have fpl : ∀ b ∈ fp, b < s2.heap.objs.size := fun b hb => let ⟨o, e, _⟩ := T.obj _ _ st1 b hb; Heap.lt_size e
  have fpP : ∀ b ∈ fp, b ≠ P := fun b hb z => by
    have := (f1 b hb).1
    rw [z, hP] at this
    cases this
  have cont : ∀ (code : Value) (h3 : Heap) (tk : Nat) (more : Array Value), Heap.ExtBut P s2.heap h3 → s2.heap.objs.size ≤ h3.objs.size → h3.get? P = some { cls := .none, data := .fields (ps ++ more) } → TriplesOk (ps ++ more).toList →
      wpAny (model X.prog X.w) X.A (builtinsFor X.env.globals X.env.builtins) (fun bi s₄ => ∀ h', h'.Ns s₄.heap.objs.size (fun y => if y = (".0" : Str) then some (.ref it) else none) → Heap.SameBut s₄.heap.objs.size (s₄.heap.push { cls := .type "frame", data := .dict #[] }) h' →
          Q' (.ref h'.objs.size) { s₄ with
            gens := s₄.gens.push (.fresh (.compStart (.GeneratorExp elt [⟨tg, iter, [], 0⟩] scope gpos) 0 (.ref it) .none (genEnv scope [] s₄.heap.objs.size code bi X.env))),
            toks := s₄.toks + 1 + 1 + 1,
            heap := h'.push { cls := .type "generator", data := .fields #[.int s₄.gens.size 0, .str "<genexpr>" (s₄.toks + 1), .str (X.env.qual ++ "<genexpr>") (s₄.toks + 1 + 1)] } }) X.xe { s2 with heap := h3, toks := tk } := by
    intro code h3 tk more hx hsz hP3 ht3
    obtain ⟨bm, ob, e1, e2, e3, e4, e5, e6, e7, e8⟩ := TB.bm
    refine wpAny_builtinsFor (m := X.mg) (by rw [I1.ok.glob]; exact (I1.mod.glob.keeps I1.bk).extBut hx TB.gP) e1 e2 (hx _ _ e4 (I1.bk _ _ e5)) e6 e7 e8 ?_
    intro h' hn' hs'
    have J3 : Inv X pins σ (upd H1 P (.tbl (ps ++ more))) { s2 with heap := h3, toks := tk } :=
      inv_tab (more := more) (h' := h3) (g' := s2.gens) (d' := s2.drawn) (t' := tk) I1 hP (fun b u hb e => hx b u hb e) hP3 I1.bare
    have hsz' : h'.objs.size = h3.objs.size + 1 := by rw [hs'.1, Heap.size_push]
    have keep' : ∀ b o, h3.get? b = some o → h'.get? b = some o := fun b o e => hs'.extBut b o (Nat.ne_of_lt (Heap.lt_size e)) (Heap.get?_push_of_some _ e)
    have e9 : Value.ref h'.objs.size = Value.ref (h3.objs.size + 1) := by rw [hsz']
    rw [e9]
    refine hQ J H1 (upd H1 P (.tbl (ps ++ more))) it fp tn code { s2 with heap := h3, toks := tk } _ hR
      ⟨⟨⟨_, upd_same, ht3⟩, fun b hb => upd_ne hb⟩, J3, T, T.keep _ _ _ st1 fun b hb o e => hx b o (fpP b hb) e, fun b hb => ⟨?_, Nat.lt_of_lt_of_le (fpl b hb) hsz⟩, rfl, I1.bare.push rfl, fun b o e => Heap.get?_push_of_some _ (keep' b o e), hn'.push _, ?_, Array.getElem?_push_size ..⟩
    · obtain ⟨q0, q1⟩ := f1 b hb
      exact ⟨by rw [upd_ne (fpP b hb)]; exact q0, q1⟩
    · have hg := Heap.get?_push_size (h := h') (o := { cls := .type "generator", data := .fields #[.int s2.gens.size 0, .str "<genexpr>" (tk + 1), .str (X.env.qual ++ "<genexpr>") (tk + 1 + 1)] }) rfl
      rw [hsz'] at hg
      exact ⟨_, _, _, hg, rfl, rfl, rfl⟩
  cases hf : codeAmong gpos ps.toList with
  | none =>
    refine wpAny_genexprCodeX hcode (cd.code hPs ht) (cd.tab hPs) hf fun c' h' tk hx hge hlt hco' _ htab' _ => ?_
    obtain ⟨o1, vs, f1', tf, fl, tg', inF, tx, tt, op, _, _, _, _, _, _, _, _, _, htr, _⟩ := hco'
    exact cont _ h' tk _ hx (Nat.le_trans hge (Nat.le_of_lt hlt)) htab'.2 htr
  | some cv =>
    refine wpAny_genexprCode_hit hcode (cd.code hPs ht) hf ?_
    have e0 : ps ++ (#[] : Array Value) = ps := by simp
    exact cont cv s2.heap s2.toks #[] (Heap.ExtBut.refl _ _) (Nat.le_refl _) (by rw [e0]; exact hPs) (by rw [e0]; exact ht)
end
end GxG
end
section
set_option Elab.async false
set_option linter.all false
set_option maxRecDepth 100000
set_option maxHeartbeats 2000000
namespace GxG
open PySem PySem.Spec PyProof.Rows L2 GenW
open GxR (TabB TabG Tabbed inv_tab sh_eta)
abbrev gEnv (X : Cx) (sB : Shared) (scope : Scope) (code : Value) : Env := genEnv scope [] sB.heap.objs.size code builtinsNs X.env
/-- the generator's block -/
def gcx (X : Cx) (A : Around) (sB : Shared) (H : Hp) (x : Str) (scope : Scope) (code : Value) (fp : List Addr) (pn : List (Addr × Obj)) : Cx :=
  { X with A := A.deeper (gEnv X sB scope code), N := [x], s_0 := sB, H_0 := H, env := gEnv X sB scope code, outer := X.stack, stack := gEnv X sB scope code :: X.stack, ex := fp, fn := fun _ => true, calm := true, pn := pn, xe := fun _ _ => False }
theorem over_gen {A : Around} {elt tg iter : Expr} {ifs : List Expr} {scope : Scope} {pos : Pos} {it acc : Value} {env : Env} :
    A.over (.compLoop (.GeneratorExp elt [⟨tg, iter, ifs, 0⟩] scope pos) 0 it acc env) [] = A.deeper env := by
  obtain ⟨hd, d, fr, gs, u⟩ := A
  simp [Around.over, Around.deeper, marksOver, frameCount, unitsOf, envsOf, guardsOf, pushEnvs, pushGuards, Code.envs, Code.env?, Code.isFrame, Code.guards, Code.isGuard, Code.weight, Code.frames, Code.isCreation, Code.isCaller, Code.cUnits]
theorem over_gen0 {A : Around} {elt tg iter : Expr} {ifs : List Expr} {scope : Scope} {pos : Pos} {it acc : Value} {env : Env} :
    A.over (.compStart (.GeneratorExp elt [⟨tg, iter, ifs, 0⟩] scope pos) 0 it acc env) [] = A.deeper env := by
  obtain ⟨hd, d, fr, gs, u⟩ := A
  simp [Around.over, Around.deeper, marksOver, frameCount, unitsOf, envsOf, guardsOf, pushEnvs, pushGuards, Code.envs, Code.env?, Code.isFrame, Code.guards, Code.isGuard, Code.weight, Code.frames, Code.isCreation, Code.isCaller, Code.cUnits]
end GxG
namespace GxG
open PySem PySem.Spec PyProof.Rows L2 GenW
open GxR (TabB TabG Tabbed inv_tab sh_eta)
section
variable {X : Cx} {pins : List (Addr × Obj)} {σ : L2.St} {P : Addr} {H1 H2 : Hp} {tg c0 : Expr} {scope : Scope} {J : It} {it : Addr} {fp : List Addr} {tn : Nat → Heap → Prop} {code : Value} {sB s5 : Shared} {A : Around} {x : Str} {pn : List (Addr × Obj)}
theorem gcx_ok (M : Made X pins σ P H1 H2 tg c0 scope J it fp tn code sB s5) (S : GenS X.env scope x) (hA : A.frames = some X.stack) (hh : A.handled = none) : (gcx X A sB H2 x scope code fp pn).Ok := by
  have I := M.inv
  have noc : ∀ (y : Str) (c : Addr), (gEnv X sB scope code).cells.lookup y = some c → False := fun y c e => by
    have e' : ([] : List (Str × Addr)).lookup y = some c := e
    cases e'
  refine ⟨I.ok.mod, S.kind, I.ok.glob, rfl, Nat.le_refl _, fun y z c e => (noc y c e).elim, fun y hy => ?_, fun y c _ e => (noc y c e).elim, fun _ => hh, ?_, .inr ⟨rfl, rfl⟩, fun b hb => ⟨Nat.ne_of_lt (M.fpo b hb).2, fun y c e => (noc y c e).elim⟩, I.bs, Nat.le_trans I.ok.bsz I.sz, fun b o e hb => ?_, fun b hb z => ?_, I.stack, I.stkFree⟩
  · have key : ∀ k, scope.names.lookup y = some k → k = .cell ∨ k = .free → False := fun k hk hk' => by
      have q := S.nocf (y, k) (PySem.mem_of_lookup hk)
      rcases hk' with z | z
      · exact q.1 z
      · exact q.2 z
    rcases hy with hy | hy
    · exact (key _ hy (.inl rfl)).elim
    · exact (key _ hy (.inr rfl)).elim
  · show (A.frames.map _) = some (gEnv X sB scope code :: X.stack)
    rw [hA] <;> rfl
  · rcases (M.fpo b hb).1.2.2.2.1 with z | z
    · exact I.ok.noex b o e z
    · exact absurd (Nat.lt_of_lt_of_le (Heap.lt_size e) (Nat.le_trans I.ok.bsz z)) (Nat.lt_irrefl _)
  · rcases List.mem_cons.mp (I.stkSub b z) with z | z
    · exact (M.fpo b hb).1.2.1 z
    · exact (M.fpo b hb).1.2.2.1 z
theorem inv_gen {go : Obj} {nm qn : Value} (M : Made X pins σ P H1 H2 tg c0 scope J it fp tn code sB s5) (S : GenS X.env scope x) (hA : A.frames = some X.stack) (hh : A.handled = none)
    (hg : s5.heap.get? (sB.heap.objs.size + 1) = some go) (hd : go.data = .fields #[.int sB.gens.size 0, nm, qn]) : Inv (gcx X A sB H2 x scope code fp [(sB.heap.objs.size + 1, go)]) [] [none] H2 s5 := by
  have I := M.inv
  refine ⟨gcx_ok M S hA hh, M.os, M.bare, Un.kept M.keep, ⟨_, M.ns, fun i y v e1 e2 e3 => ?_⟩, fun y c e => ?_, I.hok.fresh (Nat.le_refl _), fun y c e => ?_, fun p hp => ?_, I.hok.kept M.keep, rfl⟩
  · cases i with
    | zero => cases e2
    | succ i => cases e2
  · have e' : ([] : List (Str × Addr)).lookup y = some c := e
    cases e'
  · have e' : ([] : List (Str × Addr)).lookup y = some c := e
    cases e'
  · rcases List.mem_append.mp hp with z | z
    · rw [List.mem_singleton.mp z]
      refine ⟨hg, I.hok.fresh (Nat.le_succ _), Nat.succ_ne_self _, fun hm => ?_, fun v q => by rw [hd] at q; cases q⟩
      have q := I.stkSub _ hm
      rcases List.mem_cons.mp q with z2 | z2
      · have h1 : X.env.locals < sB.heap.objs.size := I.lt
        have h2 : sB.heap.objs.size + 1 = X.env.locals := z2
        rw [← h2] at h1
        exact absurd h1 (Nat.not_lt_of_le (Nat.le_succ _))
      · exact I.nofs (Nat.le_succ _) z2
    · cases z
/-- what a state with the same heap inherits -/
theorem inv_same {Y : Cx} {pins : List (Addr × Obj)} {σ : L2.St} {H : Hp} {s s' : Shared} (I : Inv Y pins σ H s) (ho : s'.os = s.os) (hg : AllBare s'.gens) (hk : ∀ b o, s.heap.get? b = some o → s'.heap.get? b = some o) : Inv Y pins σ H s' :=
  I.call' (ch := []) ho (Un.kept hk) (I.hok.kept hk) hg fun b hb => absurd hb (by simp)
/-- back in the def -/
theorem inv_back {σ' : L2.St} {pins' : List (Addr × Obj)} {H' : Hp} {s' : Shared} (M : Made X pins σ P H1 H2 tg c0 scope J it fp tn code sB s5) (I' : Inv (gcx X A sB H2 x scope code fp pn) pins' σ' H' s') : Inv X pins σ H' s' :=
  M.inv.call' (ch := fp) I'.os I'.base I'.hok I'.bare fun b hb => ⟨(M.fpo b hb).1.2.2.2.1, (M.fpo b hb).1.2.1, (M.fpo b hb).1.2.2.2.2.1, (M.fpo b hb).1.2.2.2.2.2⟩
end
end GxG
end
section
set_option Elab.async false
set_option linter.all false
set_option maxRecDepth 100000
set_option maxHeartbeats 2000000
namespace GxG
open PySem PySem.Spec PyProof.Rows L2 GenW
open GxR (TabB TabG Tabbed inv_tab sh_eta)
/-- what the generator keeps to: the end, an item -/
def GEnd (B : Cx) (QT : Hp → Prop) : GenEnd := fun _ _ r s1 => ((r = .ok (.ret .none) ∨ r = .ok .next) ∧ ∃ H', Inv B [] [none] H' s1 ∧ QT H') ∨ ∃ e, r = .error e ∧ False
def GItem (B : Cx) (QF : Hp → Prop) : Protocol := fun _ _ v s1 kap => ∃ c H' σ' pins', v = .bool c ∧ Inv B pins' σ' H' s1 ∧ (c = false → QF H') ∧ (c = true → ∀ s', s'.heap = s1.heap → s'.os = s1.os → AllBare s'.gens → kap (.send .none) s')
/-- the walk's invariant and its turns -/
def GTurns (J : It) (g : TG) (te : TE) (W : Nat → Nat → Hp → Prop) (QT QF : Hp → Prop) : Prop :=
  ∀ i m H, W i m H → (J.stop i H ∧ QT H) ∨ (J.go i H ∧ ∃ Nx : Hp → Prop, (∀ H', Nx H' → ∃ m', m' < m ∧ W (i + 1) m' H') ∧ ∀ y H', J.yld i H y H' → g y [none] H' fun σ2 H2 => te σ2 H2 fun z H3 => ∃ c, z = .bl c ∧ if c = true then Nx H3 else QF H3)
section
variable {X : Cx} {pins : List (Addr × Obj)} {σ : L2.St} {P : Addr} {H1 H2 : Hp} {elt tg iter : Expr} {scope : Scope} {gpos : Pos} {J : It} {it : Addr} {fp : List Addr} {tn : Nat → Heap → Prop} {code : Value} {sB s5 : Shared} {A : Around} {x : Str} {pn : List (Addr × Obj)}
theorem seg_loop {g : TG} {te : TE} {W : Nat → Nat → Hp → Prop} {QT QF : Hp → Prop} (hco : scope.isCoroutine = false) (T : Turn X.prog X.w X.K tg J fp it tn)
    (hg : PG (gcx X A sB H2 x scope code fp pn) tg g) (he : PE (gcx X A sB H2 x scope code fp pn) elt te) (turn : GTurns J g te W QT QF) :
    ∀ (m n i : Nat) (s₀ s : Shared) (H : Hp), m < n → W i m H → Inv (gcx X A sB H2 x scope code fp pn) [] [none] H s → tn i s.heap → (∀ b ∈ fp, FpOk (gcx X A sB H2 x scope code fp pn) [] H b) →
      Seg (model X.prog X.w) A (GEnd (gcx X A sB H2 x scope code fp pn) QT) (GItem (gcx X A sB H2 x scope code fp pn) QF) n s₀
        (.compLoop (.GeneratorExp elt [⟨tg, iter, [], 0⟩] scope gpos) 0 (.ref it) .none (gEnv X sB scope code))
        ((model X.prog X.w).den (.compLoop (.GeneratorExp elt [⟨tg, iter, [], 0⟩] scope gpos) 0 (.ref it) .none (gEnv X sB scope code))) [] s := by
  intro m
  induction m using Nat.strongRecOn with
  | ind m ih =>
    intro n i s₀ s H hn hW I hst hfp
    obtain ⟨n, rfl⟩ : ∃ q, n = q + 1 := ⟨n - 1, by omega⟩
    show Seg _ A _ _ _ s₀ _ ((compTurn (.GeneratorExp elt [⟨tg, iter, [], 0⟩] scope gpos) 0 (.ref it) .none (gEnv X sB scope code)).onRaise (leaving (gEnv X sB scope code))) [] s
    rw [compTurn_gen, Sem.onRaise_eq_wrap]
    refine seg_bind_wrap (wpAny_standAt ?_)
    rcases turn i m H hW with ⟨stop, q⟩ | ⟨go, Nx, hNx, step⟩
    · refine seg_bind_wrap ?_
      rw [over_gen]
      refine thnF (T.done (gcx X A sB H2 x scope code fp pn) rfl rfl rfl rfl i [] s [none] H (fun _ _ => False) I hfp hst stop) fun r s1 ⟨hr, I1⟩ => ?_
      subst hr
      exact seg_end (.ok .next) (.inl ⟨.inr rfl, H, I1, q⟩)
    · refine seg_bind_wrap ?_
      rw [over_gen]
      refine thnF (T.item (gcx X A sB H2 x scope code fp pn) rfl rfl rfl rfl i [] s [none] H (fun _ _ => False) I hfp hst go) fun r s1 ⟨u, hr, h1⟩ => ?_
      subst hr
      dsimp only
      refine seg_bind_wrap ?_
      rw [over_gen]
      refine thnF h1 fun _ s2 ⟨y, H', I2, r2, y2, st2, n2⟩ => ?_
      have f2 : ∀ b ∈ fp, FpOk (gcx X A sB H2 x scope code fp pn) [] H' b := fun b hb => ⟨n2 b hb, (hfp b hb).2⟩
      have I2' := I2.pinned f2 (T.obj _ _ st2)
      refine seg_bind_wrap ?_
      rw [over_gen]
      refine thnF (hg.run _ s2 _ H' y u _ I2' r2 (step y H' y2)) fun _ s3 ⟨σ3, H3, I3, q3⟩ => ?_
      simp only [List.forIn_nil]
      refine seg_bind_wrap (wpAny_pure ?_)
      simp only [if_true]
      have hy : ∀ v, yieldOut (gEnv X sB scope code) v = yieldValue v := fun v => by
        have e : (gEnv X sB scope code).scope.isCoroutine = false := hco
        simp only [yieldOut, e, Bool.false_eq_true, if_false]
      simp only [hy]
      rw [Sem.bind_eq_wrap', Sem.bind_eq_wrap', Sem.wrap_wrap, Sem.wrap_wrap]
      refine seg_wrap ?_
      rw [over_gen]
      refine thnF (he.run _ s3 σ3 H3 _ I3 q3) fun v s4 ⟨z, H4, I4, r4, c, ez, q4⟩ => ?_
      subst ez
      cases (show v = Value.bool c from r4)
      refine seg_at (seg_yield rfl rfl rfl ⟨c, H4, _, _, rfl, I4, fun e => ?_, fun e s'' eh eo eb => ?_⟩)
      · subst e
        exact q4
      · subst e
        obtain ⟨m', hm', hW'⟩ := hNx H4 q4
        have pin' : ∀ b ∈ fp, ∀ o, s2.heap.get? b = some o → s4.heap.get? b = some o ∧ H4 b = none := fun b hb o e =>
          let z := I4.pin (b, o) (List.mem_append_right _ (List.mem_append_right _ (mem_pinsAt hb e)))
          ⟨z.1, z.2.1⟩
        have I5 : Inv (gcx X A sB H2 x scope code fp pn) [] [none] H4 s'' := inv_same ((I4.unpinned (pins := [])).weak (by rw [I4.len]; rfl) (fun j v e => by
          cases j with
          | zero => cases e
          | succ j => cases e)) eo eb fun b o e => by rw [eh]; exact e
        refine seg_again rfl (ih m' hm' n (i + 1) s'' s'' H4 (by omega) hW' I5 (T.keep _ _ _ st2 fun b hb o e => by rw [eh]; exact (pin' b hb o e).1) fun b hb => ⟨?_, (hfp b hb).2⟩)
        obtain ⟨o, e, _⟩ := T.obj _ _ st2 b hb
        exact (pin' b hb o e).2
end
end GxG
end
section
set_option Elab.async false
set_option linter.all false
set_option maxRecDepth 100000
set_option maxHeartbeats 2000000
namespace GxG
open PySem PySem.Spec PyProof.Rows L2 GenW
open GxR (TabB TabG Tabbed inv_tab sh_eta)
section
variable {A : Around} {R : Result → Shared → Prop} {B : Cx} {QT QF : Hp → Prop} {a : Addr} {g : Nat} {go : Obj} {nm qn : Value}
theorem drain_all (hh : A.handled = none) (hd : A.depth < recursionLimit) (hpn : (a, go) ∈ B.pn) (hgo : go.cls = .type "generator" ∧ go.data = .fields #[.int g 0, nm, qn] ∧ go.slots = #[])
    (hT : ∀ H' s1 s', Inv B [] [none] H' s1 → QT H' → s'.os = s1.os → AllBare s'.gens → (∀ b o, s1.heap.get? b = some o → s'.heap.get? b = some o) → R (.ok (.ret (.bool true))) s')
    (hF : ∀ H' σ' pins' s1 s', Inv B pins' σ' H' s1 → QF H' → s'.os = s1.os → AllBare s'.gens → (∀ b o, s1.heap.get? b = some o → s'.heap.get? b = some o) → R (.ok (.ret (.bool false))) s') :
    ∀ (n : Nat) (s : Shared), s.heap.IsGen a g → s.heap.NoLimit →
      (∃ gs, s.gens[g]? = some gs ∧ gs.Goes (model B.prog B.w) A.in1.in1 (GEnd B QT) (GItem B QF) n (.send .none) (s.setGen g .running)) →
      codeAny (model B.prog B.w) A (.builtin "all.loop" ⟨[.ref a], []⟩) R s := by
  have goes : ∀ {gs : GenState} {A' : Around} {n : Nat} {r : Resume} {s : Shared}, gs.Goes (model B.prog B.w) A' (GEnd B QT) (GItem B QF) n r s →
      gs.Goes (model B.prog B.w) A' (fun n s₀ r s1 => ((r = .ok (.ret .none) ∨ r = .ok .next) ∧ (∃ H', Inv B [] [none] H' s1 ∧ QT H')) ∨ ∃ e, r = .error e ∧ False) (GItem B QF) n r s := fun h => h
  have isg : ∀ {pins' σ' H' s'}, Inv B pins' σ' H' s' → s'.heap.IsGen a g := fun {pins' σ' H' s'} I =>
    ⟨go, nm, qn, (I.pin (a, go) (List.mem_append_left _ hpn)).1, hgo.1, hgo.2.1, hgo.2.2⟩
  intro n
  induction n with
  | zero =>
    intro s hg hl ⟨gs, hgs, hgo'⟩
    refine codeAny_builtin F.entry_all_loop ?_
    rw [Around.under_plainId F.plain_all_loop _]
    show wpAny _ A.in1 (pyNext (.ref a) >>= _) _ _ s
    refine wpAny_bind (next_genG (A := A.in1) (Er := fun _ _ => False) hh hl hd hg hgs (goes hgo') (fun v s₁ gs' hbare hv => ?_) (fun s₁ hp h' hk => ?_) fun e s₁ he => he.elim)
    · obtain ⟨c, H', σ', pins', rfl, I', q1, q2⟩ := hv
      refine wpAny_bind (wpAny_holding (wpAny_truthy_bool ?_))
      refine wpAny_bind (wpAny_letGo ?_)
      cases c with
      | true => exact False.elim (q2 rfl s₁ rfl rfl I'.bare)
      | false =>
        simp only [Bool.false_eq_true, if_false]
        exact wpAny_bind (wpAny_rule (wpAny_pure (hF H' σ' pins' s₁ _ I' (q1 rfl) rfl (allBare_setGen I'.bare hbare) fun b o e => e)))
    · obtain ⟨H', I', q⟩ := hp
      exact wpAny_bind (wpAny_rule (wpAny_pure (hT H' s₁ _ I' q rfl (allBare_setGen I'.bare rfl) hk)))
  | succ n ih =>
    intro s hg hl ⟨gs, hgs, hgo'⟩
    have hgl : g < s.gens.size := (Array.getElem?_eq_some_iff.mp hgs).1
    refine codeAny_builtin F.entry_all_loop ?_
    rw [Around.under_plainId F.plain_all_loop _]
    show wpAny _ A.in1 (pyNext (.ref a) >>= _) _ _ s
    refine wpAny_bind (wpAny_gsz (n := g + 1) hgl (next_genG (A := A.in1) (Er := fun _ _ => False) hh hl hd hg hgs (goes hgo') (fun v s₁ gs' hbare hv => ?_) (fun s₁ hp h' hk => ?_) fun e s₁ he => he.elim))
    · intro hsz
      obtain ⟨c, H', σ', pins', rfl, I', q1, q2⟩ := hv
      refine wpAny_bind (wpAny_holding (wpAny_truthy_bool ?_))
      refine wpAny_bind (wpAny_letGo ?_)
      cases c with
      | true =>
        simp only [if_true]
        have hsz1 : g < s₁.gens.size := by
          have q : (s₁.setGen g gs').gens.size = s₁.gens.size := setGen_size _ _ _
          have hsz' : g + 1 ≤ (s₁.setGen g gs').gens.size := hsz
          omega
        refine wpAny_pure ⟨plainId_quiet F.plain_all_loop _, ih (s₁.setGen g gs') (show s₁.heap.IsGen a g from isg I') (show s₁.heap.NoLimit from I'.nolimit) ⟨gs', setGen_at hsz1, ?_⟩⟩
        exact q2 rfl _ rfl rfl (allBare_setGen (s := s₁.setGen g gs') (allBare_setGen I'.bare hbare) rfl)
      | false =>
        simp only [Bool.false_eq_true, if_false]
        exact wpAny_bind (wpAny_rule (wpAny_pure (hF H' σ' pins' s₁ _ I' (q1 rfl) rfl (allBare_setGen I'.bare hbare) fun b o e => e)))
    · intro hsz
      obtain ⟨H', I', q⟩ := hp
      exact wpAny_bind (wpAny_rule (wpAny_pure (hT H' s₁ _ I' q rfl (allBare_setGen I'.bare rfl) hk)))
end
/-- all(elt for tg in iter): the walk's invariant W by turn and measure; behind it the def's table may have grown -/
def tAllG (P : Addr) (wi : TI) (g : TG) (te : TE) : TE := fun σ H Q => wi σ H fun J H1 => TabG H1 P ∧ ∀ H2, Tabbed P H1 H2 → ∃ W : Nat → Nat → Hp → Prop, (∃ m, W 0 m H2) ∧ GTurns J g te W (Q (.bl true)) (Q (.bl false))
section
variable {X : Cx}
theorem pe_allG {c P : Addr} {elt iter tg : Expr} {x : Str} {p pos gpos : Pos} {scope : Scope} {wi : TI} {g : TG} {te : TE} {k : Nat}
    (hr : Room (k + 1) X.A) (hg : Gl X "all") (hm : X.mg "all" = none) (TB : TabB X.base X.mg c P) (hcode : X.env.code = .ref c) (S : GenS X.env scope x) (hi : PI X tg iter wi)
    (hpg : ∀ (A : Around) (sB : Shared) (H : Hp) (code : Value) (fp : List Addr) (pn : List (Addr × Obj)), PG (gcx X A sB H x scope code fp pn) tg g)
    (hel : ∀ (A : Around) (sB : Shared) (H : Hp) (code : Value) (fp : List Addr) (pn : List (Addr × Obj)), Room k (gcx X A sB H x scope code fp pn).A → PE (gcx X A sB H x scope code fp pn) elt te)
    (hs : ∀ v, genFold iter X.env v = pure v := by intro _; rfl)
    (he : starEach [.GeneratorExp elt [⟨tg, iter, [], 0⟩] scope gpos] X.env = (false, eval (.GeneratorExp elt [⟨tg, iter, [], 0⟩] scope gpos) X.env) :: starEach [] X.env := by rfl) :
    PE X (.Call (.Name "all" p) [.GeneratorExp elt [⟨tg, iter, [], 0⟩] scope gpos] [] pos) (tAllG P wi g te) := by
  refine ⟨fun pins s σ H Q I h => ?_⟩
  refine wpAny_Call_Name_kw (ld_blt I hg hm (by decide +kernel : bootBuiltins "all" = some (.builtin "all")) ?_)
  refine PyProof.Rows.callWith_builtin1 ?_ he (by rfl)
  rw [he]
  show wpAny _ _ (spliced ((false, eval (.GeneratorExp elt [⟨tg, iter, [], 0⟩] scope gpos) X.env) :: backTo pos (starEach [] X.env))) _ _ s
  refine Calls.spliced_cons (gen_it (R := fun J H1 => ∀ H2, Tabbed P H1 H2 → ∃ W : Nat → Nat → Hp → Prop, (∃ m, W 0 m H2) ∧ GTurns J g te W (Q (.bl true)) (Q (.bl false))) hr TB hcode S hi hs I h fun J H1 H2 it fp tn code sB s5 hR M => ?_)
  refine Calls.spliced_nil ?_
  obtain ⟨W, ⟨m0, w0⟩, turn⟩ := hR H2 M.tab
  obtain ⟨go, nm, qn, hgo, hc, hd, hsl⟩ := M.gen
  have hh : X.A.handled = none := hr.hd
  have hA : X.A.in1.in1.frames = some X.stack := I.ok.frames
  have I5 := inv_gen (A := X.A.in1.in1) M S hA hh hgo hd
  have hroom : Room k (gcx X X.A.in1.in1 sB H2 x scope code fp [(sB.heap.objs.size + 1, go)]).A := by
    refine ⟨hh, ?_, ?_⟩
    · have := hr.dp
      show X.A.depth + 1 + 3 * k + 5 < _
      omega
    · have := hr.un
      show X.A.units + 1 + 1 + 3 + 16 * k + 200 < _
      omega
  have hgl : sB.gens.size < s5.gens.size := (Array.getElem?_eq_some_iff.mp M.gs).1
  refine call_function_tree F.kind_all F.plain_all F.entry_all (F.args_all1 _) ?_
  unfold Builtin.«all»
  refine wpAny_bind (m := oneArg "all" _) (wpAny_pure ?_)
  refine wpAny_bind (wpAny_pyIter_gen (g := sB.gens.size) ⟨go, nm, qn, hgo, hc, hd, hsl⟩ ?_)
  refine wpAny_pure ⟨plainId_quiet F.plain_all_loop _, ?_⟩
  refine drain_all (B := gcx X X.A.in1.in1 sB H2 x scope code fp [(sB.heap.objs.size + 1, go)]) (QT := Q (.bl true)) (QF := Q (.bl false)) (g := sB.gens.size) hh hr.depth (List.mem_singleton.mpr rfl) ⟨hc, hd, hsl⟩
    (fun H' s1 s' I' q ho hb hk => ⟨.bl true, H', inv_back M (inv_same I' ho hb hk), rfl, q⟩) (fun H' σ' pins' s1 s' I' q ho hb hk => ⟨.bl false, H', inv_back M (inv_same I' ho hb hk), rfl, q⟩)
    (m0 + 1) s5 ⟨go, nm, qn, hgo, hc, hd, hsl⟩ I5.nolimit ⟨_, M.gs, rfl, ?_⟩
  -- the generator starts
  have I6 : Inv (gcx X X.A.in1.in1 sB H2 x scope code fp [(sB.heap.objs.size + 1, go)]) [] [none] H2 (s5.setGen sB.gens.size .running) := inv_same I5 rfl (allBare_setGen M.bare rfl) fun b o e => e
  have f6 : ∀ b ∈ fp, FpOk (gcx X X.A.in1.in1 sB H2 x scope code fp [(sB.heap.objs.size + 1, go)]) [] H2 b := fun b hb => by
    refine ⟨(M.fpo b hb).1.1, Nat.ne_of_lt (M.fpo b hb).2, fun z => I5.ok.exfs b hb z, .inl hb, fun y c e => ?_, fun p hp => ?_⟩
    · have e' : ([] : List (Str × Addr)).lookup y = some c := e
      cases e'
    · rw [List.mem_singleton.mp hp]
      exact Nat.ne_of_gt (Nat.lt_succ_of_lt (M.fpo b hb).2)
  have tn6 : tn 0 (s5.setGen sB.gens.size .running).heap := M.turn.keep _ _ _ M.tn0 fun b _ o e => M.keep b o e
  have loop := seg_loop (A := X.A.in1.in1) (elt := elt) (iter := iter) (gpos := gpos) (g := g) (te := te) (W := W) (QT := Q (.bl true)) (QF := Q (.bl false)) S.co M.turn (hpg _ sB H2 code fp [(sB.heap.objs.size + 1, go)]) (hel _ sB H2 code fp [(sB.heap.objs.size + 1, go)] hroom) turn
    m0 (m0 + 1) 0 (s5.setGen sB.gens.size .running) (s5.setGen sB.gens.size .running) H2 (Nat.lt_succ_self _) w0 I6 tn6 f6
  show Seg _ _ _ _ _ _ _ ((compStart (.GeneratorExp elt [⟨tg, iter, [], 0⟩] scope gpos) 0 (.ref it) .none (gEnv X sB scope code)).onRaise (leaving (gEnv X sB scope code))) [] _
  unfold compStart
  rw [Sem.onRaise_eq_wrap]
  show Seg _ _ _ _ _ _ _ ((ask >>= _).wrap _ _ _ _) [] _
  refine seg_bind_wrap (wpAny_askSetting ?_)
  split
  · exact seg_again rfl loop
  · refine seg_bind_wrap (wpAny_rule ?_)
    show Seg _ _ _ _ _ _ _ ((standAt iter.pos >>= _).wrap _ _ _ _) [] _
    refine seg_bind_wrap (wpAny_standAt (seg_bind_wrap ?_))
    exact M.turn.self _ 0 _ _ _ tn6 (seg_again rfl loop)
end
end GxG
end
section
set_option Elab.async false
set_option linter.all false
set_option maxRecDepth 100000
namespace GxG
open PySem PySem.Spec PyProof.Rows L2 GenW
theorem nd1 (x : Str) : [x].Nodup := by simp
/-- the turns of all(..) over a walk -/
theorem ga_it {J : It} {n : Nat} {G : Hp → Prop} {Y : Nat → Hp → V → Hp → Prop} (w : Walk J n G Y) {g : TG} {te : TE} {H0 : Hp} {QT QF : Hp → Prop} (Pv : Nat → Hp → Prop) (h0 : Pv 0 H0) (hG : ∀ i H, i ≤ n → Pv i H → G H)
    (hs : ∀ i y H H', i < n → Pv i H → Y i H y H' → g y [none] H' fun σ2 H2 => te σ2 H2 fun z H3 => ∃ c, z = .bl c ∧ if c = true then Pv (i + 1) H3 else QF H3) (hd : ∀ H, Pv n H → QT H) :
    ∃ W : Nat → Nat → Hp → Prop, (∃ m, W 0 m H0) ∧ GTurns J g te W QT QF := by
  refine ⟨fun i m H => m = n - i ∧ i ≤ n ∧ Pv i H, ⟨n, by simp, Nat.zero_le _, h0⟩, ?_⟩
  rintro i m H ⟨rfl, hi, p⟩
  have q := hG i H hi p
  by_cases hlt : i < n
  · exact .inr ⟨w.goes i H hlt q, Pv (i + 1), fun H' p' => ⟨n - (i + 1), by omega, rfl, hlt, p'⟩, fun y H' yy => hs i y H H' hlt p (w.yields i H y H' hlt q yy)⟩
  · have e : i = n := by omega
    subst e
    exact .inl ⟨w.stops H q, hd H p⟩
/-- all of a list, by its first parts -/
theorem all_take {α : Type} {l : List α} {p : α → Bool} {i : Nat} {c : α} (h : (l.take i).all p = true) (hc : l[i]? = some c) : (p c = true → (l.take (i + 1)).all p = true) ∧ (p c = false → l.all p = false) := by
  have e : l.take (i + 1) = l.take i ++ [c] := by rw [List.take_add_one, hc] <;> rfl
  refine ⟨fun z => by rw [e, List.all_append, h]; simp [z], fun z => ?_⟩
  cases q : l.all p with
  | false => rfl
  | true =>
    have := List.all_eq_true.mp q c (List.mem_of_getElem? hc)
    rw [z] at this
    cases this
end GxG
end
section
set_option Elab.async false
set_option linter.all false
set_option maxRecDepth 100000
set_option maxHeartbeats 2000000
/-! enumerate(t), t a tuple, in a for -/
namespace EnT
open PySem PySem.Spec PyProof.Rows L2
theorem meets_new {t : Addr} (items : Array Value) :
    Meets (Builtin.«enumerate.__new__» ⟨[.type "enumerate", .ref t], []⟩) (fun _ R s => s.heap.IsTuple t items ∧
      R (.ok (.ret (.ref (s.heap.push { cls := .type "tuple_iterator", data := .fields #[.ref t, .int 0 0] }).objs.size)))
        { s with heap := (s.heap.push { cls := .type "tuple_iterator", data := .fields #[.ref t, .int 0 0] }).push { cls := .type "enumerate", data := .fields #[.none, .bool false, .ref s.heap.objs.size, rawInt 0, .none, .none] } }) :=
  .of_wp fun prog w A R s h => by
    obtain ⟨hp, g, d, tk, os⟩ := s; obtain ⟨h1, h⟩ := h
    have hsub := sub_enumerate
    have q1 : ∀ {A' : Around} {E : Value → Shared → Prop} {Q : Value → Shared → Prop}, Q (.ref hp.objs.size) ⟨hp.push { cls := .type "tuple_iterator", data := .fields #[.ref t, .int 0 0] }, g, d, tk, os⟩ → wpAny (model prog w) A' (pyIter (.ref t)) Q E ⟨hp, g, d, tk, os⟩ :=
      fun q => (begins_tuple t items).iter prog w _ _ ⟨hp, g, d, tk, os⟩ _ h1 q
    wp_walk using q1
    refine wpAny_stack_any fun st => wpAny_pure ?_
    split
    · rename_i c _ _ _ _ _
      cases (c == Value.type "enumerate")
      · wp_walk using q1
        exact ⟨_, rfl, h⟩
      · wp_walk using q1
        exact ⟨_, rfl, h⟩
    · wp_walk using q1
      exact ⟨_, rfl, h⟩
section
variable {prog : Program} {w : World} {A : Around} {E : Value → Shared → Prop} {s : Shared}
theorem call_enum {t : Addr} {items : Array Value} {Q : Value → Shared → Prop} (h1 : s.heap.IsTuple t items)
    (h : ∀ h', IsEnum h' (s.heap.objs.size + 1) s.heap.objs.size 0 .none → h'.IsTupleIter s.heap.objs.size t 0 →
      (∀ b o, s.heap.get? b = some o → h'.get? b = some o) → Q (.ref (s.heap.objs.size + 1)) { s with heap := h' }) :
    wpAny (model prog w) A (call (.type "enumerate") [.ref t]) Q E s := by
  refine callType_new F.called_enumerate (by decide) (F.typeCall_enumerate_1 _) (F.newCall_enumerate_1 _) (fun obj => F.args_object_init_2 obj _) F.entry_enumerate_new (meets_new items) ⟨h1, ?_⟩
  generalize hob : ({ cls := .type "tuple_iterator", data := .fields #[.ref t, .int 0 0] } : Obj) = ob
  have hfree : ob.isFreed = false := by rw [← hob]; rfl
  have hz : (s.heap.push ob).objs.size = s.heap.objs.size + 1 := Heap.size_push ..
  show _ ∧ _
  rw [hz]
  have he : IsEnum ((s.heap.push ob).push { cls := .type "enumerate", data := .fields #[.none, .bool false, .ref s.heap.objs.size, rawInt 0, .none, .none] }) (s.heap.objs.size + 1) s.heap.objs.size 0 .none := by
    have q := Heap.get?_push_size (s.heap.push ob) (o := { cls := .type "enumerate", data := .fields #[.none, .bool false, .ref s.heap.objs.size, rawInt 0, .none, .none] }) rfl
    rw [hz] at q
    exact q
  refine ⟨⟨_, he, rfl⟩, h _ he ⟨ob, Heap.get?_push_of_some _ (Heap.get?_push_size _ hfree), by subst hob; rfl, by subst hob; rfl⟩ fun b o x => Heap.get?_push_of_some _ (Heap.get?_push_of_some _ x)⟩
end
def IteT (K : PySem.W.Frag) (a : Addr) : It :=
  ⟨fun i H => ∃ (xs : List V) (x : V), SqT K H a xs ∧ xs[i]? = some x, fun i H v H' => ∃ T x, v = .ref T ∧ H T = none ∧ H' = upd H T (.tup [.int (i : Nat), x]) ∧ ∀ xs, SqT K H a xs → xs[i]? = some x, fun i H => ∃ xs : List V, SqT K H a xs ∧ xs.length ≤ i⟩
theorem turn_enumT {P : Program} {w : World} {K : PySem.W.Frag} {elts : List Expr} {kk : Nat} {tpos : Pos} (a e it : Addr) :
    Turn P w K (.Tuple elts kk tpos) (IteT K a) [e, it] e (fun i h => (∃ old, IsEnum h e it ((i : Nat) : Int) old) ∧ h.IsTupleIter it a i ∧ e ≠ it ∧ a ≠ it ∧ e ≠ a) where
  mem := by simp
  obj := fun i h st b hb => by
    obtain ⟨⟨old, he⟩, ⟨o, ho, hc, hd⟩, _⟩ := st
    have e' : b = e ∨ b = it := by simpa using hb
    rcases e' with z | z
    · rw [z]; exact ⟨_, he, fun v q => nomatch q⟩
    · rw [z]; exact ⟨o, ho, fun v q => by rw [hd] at q; cases q⟩
  keep := fun i h h' st k => let ⟨⟨old, he⟩, hi, hne⟩ := st; ⟨⟨old, k e (by simp) _ he⟩, hi.at fun o q => k it (by simp) o q, hne⟩
  item := by
    intro X hP hw hK hc i pins s σ H E I hf st hg
    subst hP hw hK
    obtain ⟨⟨old, he⟩, hit, hne, hai, hea⟩ := st
    obtain ⟨xs, x, hq, hx⟩ := hg
    obtain ⟨its, rv, p, hz⟩ := I.tuple hq
    obtain ⟨u, hu, ru⟩ := rv.get hx
    have hel : e < s.heap.objs.size := Heap.lt_size he
    have hil : it < s.heap.objs.size := by obtain ⟨_, q, _⟩ := hit; exact Heap.lt_size q
    have hsz0 : i < its.toArray.size := by
      have := (List.getElem?_eq_some_iff.mp hu).1
      simpa using this
    refine wpAny_pyNext_enum_itemD (Draws.tuple (A := X.A.in1) (I.ok.hd hc) it a hai its.toArray) he ⟨hit, p⟩ hsz0 hne (by simp [hne, hea]) fun y h' tk hy ho hst hT hsz hk => ?_
    obtain rfl : y = u := by
      rw [show its.toArray[i]? = some u by simpa using hu] at hy
      exact (Option.some.inj hy).symm
    refine ⟨_, rfl, wpAny_letOwnedTupleGo_enum (s := { s with heap := h', toks := tk + 1 }) ho fun h'' he' sb => ?_⟩
    have hT2 : h''.get? s.heap.objs.size = some { cls := .type "tuple", data := .seq #[.int i tk, y] } := (sb.2 _ (Nat.ne_of_gt hel)).trans hT
    have new : ObjOk X.prog X.w (upd H s.heap.objs.size (.tup [.int (i : Nat), x])) h'' s.heap.objs.size (.tup [.int (i : Nat), x]) :=
      ⟨by show 2 ≤ sizeLine; decide, [.int i tk, y], .cons ⟨_, rfl⟩ (.cons ru .nil), ⟨_, hT2, rfl, _, rfl⟩⟩
    have I1 : Inv X pins σ (upd H s.heap.objs.size (.tup [.int (i : Nat), x])) { s with heap := h'', toks := tk + 1 } :=
      I.turnedNew (ch := [e, it]) (fun b ob hb q => (sb.2 b (fun z => hb (by simp [z]))).trans (hk b ob (fun z => hb (by simp [z])) (fun z => hb (by simp [z])) q)) hf (Nat.le_refl _) new
    refine ⟨.ref s.heap.objs.size, _, I1, rfl, ⟨_, x, rfl, I.hok.fresh (Nat.le_refl _), rfl, fun ys hy => by rw [I.tuple_inj hy hq]; exact hx⟩, ⟨⟨y, ?_⟩, hst.1.at fun o q => (sb.2 it (Ne.symm hne)).trans q, hne, hai, hea⟩, fun b hb => ?_⟩
    · have e1 : ((i + 1 : Nat) : Int) = (i : Int) + 1 := by omega
      rw [e1]; exact he'
    · have hb' : b < s.heap.objs.size := by
        have e' : b = e ∨ b = it := by simpa using hb
        rcases e' with z | z
        · rw [z]; exact hel
        · rw [z]; exact hil
      rw [upd_ne (Nat.ne_of_lt hb')]
      exact (hf b hb).1
  done := by
    intro X hP hw hK hc i pins s σ H E I hf st hg
    subst hP hw hK
    obtain ⟨⟨old, he⟩, hit, hne, hai, hea⟩ := st
    obtain ⟨xs, hq, hx⟩ := hg
    obtain ⟨its, rv, p, hz⟩ := I.tuple hq
    obtain ⟨f0, f1, f2, f3, f4, f5⟩ := hf it (by simp)
    have hl := rv.length
    have hT : s.TypeIs (.ref e) "enumerate" := ⟨_, he, rfl⟩
    unfold pyNext
    refine wpAny_bind (wpAny_attempt (wpAny_callSpecial?_slot (name := Str.ofString "__next__") hT F.slot_enumerate_next (wpAny_call_entry F.slot_enumerate_next hT F.entry_enumerate_next ?_ (F.args_enumerate_next_1 _))))
    show wpAny _ _ (field (.ref e) 2 >>= _) _ _ _
    refine wpAny_bind (wpAny_field he rfl (x := .ref it) rfl ?_)
    refine wpAny_bind (wpAny_nextOf_tuple_end (I.ok.hd hc) hit p (by simp; omega) fun h' x he' hx' => ?_)
    obtain ⟨o, ho, hc⟩ := hx'
    refine wpAny_bind (wpAny_isInstance (T := "StopIteration") (b := true) ⟨o, ho, hc⟩ isSubtype_stop ?_)
    exact wpAny_pure ⟨rfl, I.turned (t' := s.toks) (fun b o hb q => he' b o hb q) f0 f1 f3 f4 f5⟩
  self := fun A i s Q E st h => let ⟨⟨_, he⟩, _⟩ := st; wpAny_pyIter_enum he h
def iEnumT (K : PySem.W.Frag) (ta : TA) : TI := fun σ H R => ta σ H fun vs H1 => ∃ a xs, vs = [.ref a] ∧ SqT K H1 a xs ∧ R (IteT K a) H1
theorem pi_enumT {X : Cx} {e : Expr} {ta : TA} {p pos tpos : Pos} {elts : List Expr} {kk : Nat} (hg : Gl X "enumerate") (hm : X.mg "enumerate" = none) (ha : PA X [e] ta) (hs : starEach [e] X.env = [(false, eval e X.env)] := by rfl) :
    PI X (.Tuple elts kk tpos) (.Call (.Name "enumerate" p) [e] [] pos) (iEnumT X.K ta) := by
  refine ⟨fun pins s σ H R I h => ?_⟩
  refine Call_ (ld_blt I hg hm boot_enumerate (PyProof.Rows.callWith_type1 (thn (ha.run pos pins s σ H _ I h) fun us s1 ⟨vs, H1, I1, r1, q1⟩ => ?_) hs rfl))
  obtain ⟨a, xs, ex, hq, q⟩ := q1
  subst ex
  cases r1 with
  | cons r rr =>
    cases rr
    cases r
    obtain ⟨its, rv, p', hz⟩ := I1.tuple hq
    have hal : a < s1.heap.objs.size := let ⟨_, h, _⟩ := p'; Heap.lt_size h
    refine call_enum (items := its.toArray) p' fun h' he hit hk => wpAny_pyIter_enum he ?_
    have I2 : Inv X pins σ H1 { s1 with heap := h' } := I1.kept (t' := s1.toks) hk
    refine ⟨s1.heap.objs.size + 1, [s1.heap.objs.size + 1, s1.heap.objs.size], _, _, H1, rfl, I2, turn_enumT a (s1.heap.objs.size + 1) s1.heap.objs.size, ⟨⟨.none, he⟩, hit, Nat.succ_ne_self _, Nat.ne_of_lt hal, Nat.ne_of_gt (Nat.lt_succ_of_lt hal)⟩, fun b hb => ?_, q⟩
    have e' : b = s1.heap.objs.size + 1 ∨ b = s1.heap.objs.size := by simpa using hb
    have hle : s1.heap.objs.size ≤ b := by
      rcases e' with z | z
      · rw [z]; exact Nat.le_add_right _ _
      · rw [z]; exact Nat.le_refl _
    exact I1.fpOk hle (I1.hok.fresh hle)
theorem walk_enumT {K : PySem.W.Frag} {a : Addr} {xs : List V} : Walk (IteT K a) xs.length (fun H => SqT K H a xs) (YPair (fun i => some (.int (i : Nat))) (fun i => xs[i]?)) := by
  refine ⟨fun i _ hi q => ⟨xs, xs[i], q, by simp [hi]⟩, fun _ q => ⟨xs, q, Nat.le_refl _⟩, fun i H v H' _ q y => ?_⟩
  obtain ⟨T, x, h1, h2, h3, h4⟩ := y
  exact ⟨T, .int (i : Nat), x, h1, h2, h3, rfl, h4 xs q⟩
end EnT
end
section
set_option Elab.async false
set_option linter.all false
set_option maxRecDepth 100000
set_option maxHeartbeats 2000000
namespace Ah
open PySem PySem.Spec PyProof.Rows L2
open GxR (TabB TabG Tabbed)
/-! ### the text by places -/
def top (i : Nat) : Stmt := PySem.Challenge.pw_answerhouse_k15_houses_deed_by_deed.main.body.getD i (.Pass ⟨0, 0, 0, 0⟩)
abbrev sWall : Stmt := top 0
abbrev sPlaces : Stmt := top 3
abbrev sLKind : Stmt := top 4
abbrev sLOn : Stmt := top 5
abbrev sLTie : Stmt := top 6
abbrev sLBy : Stmt := top 7
abbrev sRInit : Stmt := inClass (top 8) 0
abbrev sRLeads : Stmt := inClass (top 8) 1
abbrev sRWork : Stmt := inClass (top 8) 2
abbrev sAll : Stmt := top 9
abbrev sSizeOf : Stmt := top 11
abbrev sSearchInit : Stmt := inClass (top 12) 0
abbrev sSearchRun : Stmt := inClass (top 12) 1
abbrev sSearchRunLevel : Stmt := inClass (top 12) 2
abbrev sSearchFindsOther : Stmt := inClass (top 12) 3
abbrev sSearchHasPart : Stmt := inClass (top 12) 4
abbrev sSearchPut : Stmt := inClass (top 12) 5
abbrev sSearchTake : Stmt := inClass (top 12) 6
abbrev sSearchJoinSecond : Stmt := inClass (top 12) 7
abbrev sSearchJoinFirst : Stmt := inClass (top 12) 8
abbrev sSearchMasks : Stmt := inClass (top 12) 9
abbrev sMasksOf : Stmt := top 13
abbrev sBadrowInit : Stmt := inClass (top 16) 0
abbrev sBadstepsInit : Stmt := inClass (top 19) 0
abbrev sBaddeedInit : Stmt := inClass (top 22) 0
abbrev sHaltedInit : Stmt := inClass (top 23) 0
abbrev sBadtextInit : Stmt := inClass (top 24) 0
abbrev sIsWord : Stmt := top 31
abbrev sIsRow : Stmt := top 32
abbrev sIsNumber : Stmt := top 33
abbrev sCheck : Stmt := top 34
abbrev sCheckNumber : Stmt := top 35
abbrev sToldOf : Stmt := top 36
abbrev sNamesOf : Stmt := top 37
abbrev sFirstBits : Stmt := top 40
abbrev sTrialInit : Stmt := inClass (top 41) 0
abbrev sTrialBits : Stmt := inClass (top 41) 1
abbrev sTrialOtherLotsClash : Stmt := inClass (top 41) 2
abbrev sTrialDisturbing : Stmt := inClass (top 41) 3
abbrev sTrialFirstFit : Stmt := inClass (top 41) 4
abbrev sTrialFirstWay : Stmt := inClass (top 41) 5
abbrev sTrialHelpful : Stmt := inClass (top 41) 6
abbrev sWordOf : Stmt := top 43
abbrev sWordsOf : Stmt := top 44
abbrev sIsDeed : Stmt := top 47
abbrev sCheckDeeds : Stmt := top 48
abbrev sHouseInit : Stmt := inClass (top 49) 0
abbrev sHouseText : Stmt := inClass (top 49) 1
abbrev sHousePut : Stmt := inClass (top 49) 2
abbrev sHouseDrop : Stmt := inClass (top 49) 3
abbrev sHouseTell : Stmt := inClass (top 49) 4
abbrev sHouseAsk : Stmt := inClass (top 49) 5
abbrev sHouseKept : Stmt := inClass (top 49) 6
abbrev sHouseTurned : Stmt := inClass (top 49) 7
abbrev sHouseBatch : Stmt := inClass (top 49) 8
abbrev sHouseBegin : Stmt := inClass (top 49) 9
abbrev sHouseEnd : Stmt := inClass (top 49) 10
abbrev sHouseDo : Stmt := inClass (top 49) 11
abbrev sHouseTold : Stmt := inClass (top 49) 12
abbrev sHouseIsIdle : Stmt := inClass (top 49) 13
abbrev lRow : Stmt := top 51
abbrev lTaken : Stmt := top 52
abbrev lOne : Stmt := top 53
abbrev lText : Stmt := top 54
abbrev lDeed : Stmt := top 55
abbrev lDone : Stmt := top 56
abbrev lAlike : Stmt := top 57
abbrev lWord : Stmt := top 58
abbrev lTold : Stmt := top 59
abbrev lLaw : Stmt := top 60
abbrev FnP (K : PySem.W.Frag) (x : Str) (st : Stmt) (f : Addr) (fd : FuncData) : Prop := FunD K x x (defArgs st) (defBody st) (defScope st) [] [] f fd
/-- the rule for a def whose code object is known -/
theorem okC {P : Program} {w : World} {K : PySem.W.Frag} {mg : Str → Option Value} {base : Heap} {x qual : Str} {params : Arguments} {body : List Stmt} {scope : Scope} {dvs : List V} {kws : List (Str × V)} {f c : Addr} {fd : FuncData}
    {CX : CXT} {N ps : List Str} {k : Nat} {sp : Sp} (F : FunD K x qual params body scope dvs kws f fd) (hc : fd.code = .ref c) (S : FnScope N ps scope) (len : ∀ vs H Q E, sp vs H Q E → vs.length = ps.length)
    (hbody : ∀ (A : Around) (outer : List Env) (s : Shared) (H : Hp) (vs : List V) (Q : VK) (E : XK), Room k (A.deeper (envOfC qual scope s.heap.objs.size f (.ref c))) → sp vs H Q E →
      ∃ t, PSs (cxOf CX P w K mg base N qual scope f (.ref c) A outer s H E) body t ∧ t { nx := fun _ H' => Q .non H', rt := Q } (start N vs) H) : FnOk P w K mg base CX (k + 1) f fd ps sp := by
  obtain ⟨oc, od, dV, kV, doc, pm, an, cdv, ct, osl, rfl, lk, hcd, _, _⟩ := F.ex
  have e : cdv = .ref c := hc
  subst e
  exact fn_of lk hcd S len fun A outer s H vs Q E hr hsp => hbody A outer s H vs Q E hr hsp
/-! ### words -/
def letters : Str := "abcdefghijklmnopqrstuvwxyz"
def barred : List Str := ["is", "isnt", "has", "hasnt", "to", "all", "are", "no", "each", "who", "some", "turned", "goes", "on", "comes", "from", "leads", "also"]
def isWord (z : Str) : Bool := decide (1 ≤ z.length) && decide (z.length ≤ 6) && !(barred.contains z) && z.cps.toList.all fun c => decide (c ∈ letters.cps.toList)
structure TW (K : PySem.W.Frag) (mg : Str → Option Value) : Prop where
  isi : mg "isinstance" = none
  len : mg "len" = none
  all_ : mg "all" = none
  str : mg "str" = none
  tup : mg "tuple" = none
  enu : mg "enumerate" = none
  lw : ∃ t, mg "LONGEST_WORD" = some (.int 6 t)
  let_ : ∃ t, mg "LETTERS" = some (.str letters t)
  bar : ∃ a, mg "BARRED" = some (.ref a) ∧ ∀ H, SqT K H a (barred.map V.str)
/-- the tables may have grown, all else that was held is held -/
structure Kp (T : List Addr) (H H' : Hp) : Prop where
  tab : ∀ P ∈ T, TabG H' P
  keep : ∀ b o, H b = some o → b ∉ T → H' b = some o
end Ah
end
section
set_option Elab.async false
set_option linter.all false
set_option maxRecDepth 100000
set_option maxHeartbeats 2000000
namespace Ah
open PySem PySem.Spec PyProof.Rows L2
open GxR (TabB TabG Tabbed)
open GxG
/-- what may be looked at as a word -/
def PlainV (H : Hp) (v : V) : Prop := (∃ z, v = .str z ∧ z.length ≤ sizeLine) ∨ v = .non ∨ (∃ i, v = .int i) ∨ ∃ a xs, v = .ref a ∧ (H a = some (.tup xs) ∨ H a = some (.lst xs))
theorem PlainV.kp {T : List Addr} {H H' : Hp} {v : V} (ht : ∀ P ∈ T, TabG H P) (k : Kp T H H') (h : PlainV H v) : PlainV H' v := by
  have out : ∀ {a : Addr} {o : HO}, H a = some o → (∀ ps, o ≠ .tbl ps) → H' a = some o := fun {a o} e n => k.keep a o e fun hm => by
    obtain ⟨ps, e2, _⟩ := ht a hm
    rw [e] at e2
    exact n ps (Option.some.inj e2)
  rcases h with h | h | h | ⟨a, xs, rfl, e | e⟩
  · exact .inl h
  · exact .inr (.inl h)
  · exact .inr (.inr (.inl h))
  · exact .inr (.inr (.inr ⟨a, xs, rfl, .inl (out e fun ps q => by cases q)⟩))
  · exact .inr (.inr (.inr ⟨a, xs, rfl, .inr (out e fun ps q => by cases q)⟩))
def isWordV : V → Bool
  | .str z => isWord z
  | _ => false
def spWord (T : List Addr) : Sp := fun vs H Q _ => ∃ v : V, vs = [v] ∧ PlainV H v ∧ (∀ P ∈ T, TabG H P) ∧ ∀ H', Kp T H H' → Q (.bl (isWordV v)) H'
theorem scW : FnScope ["word"] ["word"] (defScope sIsWord) := ⟨rfl, rfl, rfl, by decide +kernel, rfl, by decide +kernel, by decide +kernel⟩
theorem inV_strs (z : Str) (l : List Str) : inV (V.str z) (l.map V.str) = l.contains z := by
  unfold inV
  induction l with
  | nil => rfl
  | cons a r ih =>
    rw [List.map_cons, List.any_cons, List.contains_cons, ih]
    congr 1
    show (a == z) = (z == a)
    exact Bool.beq_comm
section
variable {P : Program} {w : World} {K : PySem.W.Frag} {mg : Str → Option Value} {base : Heap} {f c P1 : Addr} {fd : FuncData} {T : List Addr}
theorem ok_word (F : FnP K "is_word" sIsWord f fd) (hc : fd.code = .ref c) (TB : TabB base mg c P1) (hT : P1 ∈ T) (W : TW K mg) : FnOk P w K mg base CX0 3 f fd ["word"] (spWord T) := by
  refine okC F hc scW (fun vs H Q E h => ?_) (fun A outer s H vs Q E hr h => ?_)
  · obtain ⟨v, rfl, _⟩ := h
    rfl
  · obtain ⟨v, rfl, hv, ht, k⟩ := h
    obtain ⟨lwt, lw⟩ := W.lw
    obtain ⟨ltt, lt⟩ := W.let_
    obtain ⟨ba, bg, bs⟩ := W.bar
    refine ⟨_, pss_cons (ps_if (PW.pt (pw_or (pt_not (pt_val (pe_callB call_isi (by rfl) W.isi (by decide +kernel) (pa_cons (pv 0) (pa_cons (pe_bltn (v := .ty "str") (by rfl) W.str (by decide +kernel) rfl) pa_nil)))))
        (pw_or (pt_not (pt_chain op_le op_le pe_int (pe_callB call_len_str (by rfl) W.len (by decide +kernel) (pa_cons (pv 0) pa_nil)) (pe_glob (v := .int 6) (by rfl) lw ⟨_, rfl⟩)))
        (pw_or1 (pt_cmpR op_in_seq (pv 0) (pe_glob (v := .ref ba) (by rfl) bg rfl) (by rfl))))))
        (pss_one (ps_ret pe_bl)) pss_nil)
      (pss_one (ps_ret (pe_allG (k := 1) (x := "letter") (P := P1) hr (by rfl) W.all_ TB rfl ⟨rfl, rfl, by decide +kernel, by decide +kernel, by decide +kernel, by rfl⟩ (pi_str (pv 0))
        (fun A sB H code fp pn => pg_name (i := 0) (nd1 _) rfl (Or.inl rfl))
        (fun A sB H code fp pn hr' => pe_cmpR op_in_sign (pv 0) (pe_glob (v := .str letters) (by rfl) lt ⟨_, rfl⟩) (by rfl))))), ?_⟩
    rcases hv with ⟨z, rfl, hz⟩ | hn
    · have fin : ∀ b, isWordV (V.str z) = b → Q (.bl b) H := fun b e => by
        rw [← e]
        exact k H ⟨ht, fun _ _ e _ => e⟩
      refine ⟨_, rfl, _, _, _, _, true, rfl, ClsV.ty _, TyX.base (.str z), kit_ty (by decide +kernel), true, rfl, ?_⟩
      refine iteF ?_
      refine ⟨_, rfl, z, rfl, hz, 1, _, rfl, rfl, _, rfl, ?_⟩
      by_cases h1 : (1 : Int) ≤ z.length
      · rw [decide_eq_true h1]
        refine iteT ⟨_, _, rfl, rfl, _, rfl, ?_⟩
        by_cases h6 : (z.length : Int) ≤ 6
        · rw [decide_eq_true h6]
          refine iteF ⟨_, rfl, ba, _, rfl, .inr (bs H), rfl, by decide +kernel, _, rfl, ?_⟩
          show (fun b H1 => _) (inV (V.str z) (List.map V.str barred)) H
          rw [inV_strs]
          cases hb : barred.contains z with
          | true => exact iteT (fin false (by show isWord z = false; unfold isWord; rw [hb]; simp))
          | false =>
            refine iteF ⟨_, rfl, z, rfl, ht P1 hT, fun H2 tb => ?_⟩
            have kp : Kp T H H2 := ⟨fun p hp => by
              by_cases e : p = P1
              · rw [e]; exact tb.1
              · obtain ⟨ps, h2, h3⟩ := ht p hp
                exact ⟨ps, (tb.2 p e).trans h2, h3⟩, fun b o e hb => (tb.2 b fun z => hb (by rw [z]; exact hT)).trans e⟩
            have fin2 : ∀ b, z.cps.toList.all (fun c => decide (c ∈ letters.cps.toList)) = b → Q (.bl b) H2 := fun b e => by
              have q := k H2 kp
              have e2 : isWordV (V.str z) = b := by
                show isWord z = b
                unfold isWord
                rw [hb, e, decide_eq_true (show 1 ≤ z.length by omega), decide_eq_true (show z.length ≤ 6 by omega)] <;> simp
              rw [e2] at q
              exact q
            refine ga_it (walk_str (z := z)) (fun i H' => H' = H2 ∧ (z.cps.toList.take i).all (fun c => decide (c ∈ letters.cps.toList)) = true) ⟨rfl, rfl⟩ (fun _ _ _ _ => trivial) (fun i y Ha Hb hi p yy => ?_) (fun H' p => ?_)
            · obtain ⟨rfl, p⟩ := p
              obtain ⟨rfl, cc, e, rfl⟩ := yy
              have e' : z.cps.toList[i]? = some cc := by rw [Array.getElem?_toList]; exact e
              obtain ⟨a1, a2⟩ := all_take p e'
              refine ⟨_, rfl, cc, letters, rfl, rfl, _, rfl, ?_⟩
              cases hd : decide (cc ∈ letters.cps.toList) with
              | true => exact iteT ⟨rfl, a1 hd⟩
              | false => exact iteF (fin2 false (a2 hd))
            · obtain ⟨rfl, p⟩ := p
              rw [List.take_of_length_le (by simp)] at p
              exact fin2 true p
        · rw [decide_eq_false h6]
          exact iteT (fin false (by simp [isWordV, isWord]; omega))
      · rw [decide_eq_false h1]
        refine iteF ⟨_, rfl, ?_⟩
        exact iteT (fin false (by simp [isWordV, isWord]; omega))
    · rcases hn with rfl | ⟨i, rfl⟩ | ⟨a, xs, rfl, e | e⟩
      · exact ⟨_, rfl, _, _, _, _, false, rfl, ClsV.ty _, TyX.base .non, kit_ty (by decide +kernel), false, rfl, iteT (iteT (k H ⟨ht, fun _ _ e _ => e⟩))⟩
      · exact ⟨_, rfl, _, _, _, _, false, rfl, ClsV.ty _, TyX.base (.int i), kit_ty (by decide +kernel), false, rfl, iteT (iteT (k H ⟨ht, fun _ _ e _ => e⟩))⟩
      · exact ⟨_, rfl, _, _, _, _, false, rfl, ClsV.ty _, TyX.base (.tup e), kit_ty (by decide +kernel), false, rfl, iteT (iteT (k H ⟨ht, fun _ _ e _ => e⟩))⟩
      · exact ⟨_, rfl, _, _, _, _, false, rfl, ClsV.ty _, TyX.base (.lst e), kit_ty (by decide +kernel), false, rfl, iteT (iteT (k H ⟨ht, fun _ _ e _ => e⟩))⟩
end
end Ah
end
section
set_option Elab.async false
set_option linter.all false
set_option maxRecDepth 100000
set_option maxHeartbeats 2000000
namespace Ah
open PySem PySem.Spec PyProof.Rows L2
open GxR (TabB TabG Tabbed)
open GxG
/-! ### rows -/
def formsL : List (Str × List Str) := [("is", ["name", "kind"]), ("isnt", ["name", "kind"]), ("has", ["name", "tie", "name"]), ("hasnt", ["name", "tie", "name"]), ("all", ["kind", "kind"]), ("no", ["kind", "kind"]),
  ("each", ["kind", "tie", "name"]), ("who", ["tie", "kind", "kind"]), ("turned", ["tie", "tie"]), ("on", ["tie"]), ("from", ["tie", "kind"]), ("to", ["tie", "kind"]), ("under", ["tie", "tie"])]
/-- the module's dict FORMS -/
structure TF (K : PySem.W.Frag) (w : World) (mg : Str → Option Value) (d : Addr) : Prop where
  at_ : mg "FORMS" = some (.ref d)
  kd : ∃ es n, KDict K w d es n
  val : ∀ z ps, formsL.lookup z = some ps → ∃ a, PySem.W.nsIn K d z = some (some (.ref a)) ∧ ∀ H, SqT K H a (ps.map V.str)
  out : ∀ z, formsL.lookup z = none → PySem.W.nsIn K d z = some none
def isRowL : List V → Bool
  | .str h :: rest => (match formsL.lookup h with
    | some ps => decide (rest.length = ps.length) && rest.all isWordV
    | none => false)
  | _ => false
/-- what may be looked at as a row, and the answer -/
theorem tyTup {K : PySem.W.Frag} {H : Hp} {a : Addr} {xs : List V} (h : SqT K H a xs) : TyX K H (.ref a) (.type "tuple") := by
  rcases h with (e | ⟨o, e⟩) | ⟨o, its, n, h1, h2, _⟩
  · exact .base (.tup e)
  · exact .fTuple e
  · exact .kTuple h1 h2
def RowV (K : PySem.W.Frag) (H : Hp) (v : V) (b : Bool) : Prop := (((∃ z, v = .str z) ∨ v = .non ∨ (∃ i, v = .int i) ∨ ∃ a xs, v = .ref a ∧ H a = some (.lst xs)) ∧ b = false) ∨ ∃ a xs, v = .ref a ∧ SqT K H a xs ∧ xs.length ≤ 1000 ∧ (∀ x ∈ xs, PlainV H x) ∧ b = isRowL xs
def spRow (K : PySem.W.Frag) (T : List Addr) : Sp := fun vs H Q _ => ∃ (v : V) (b : Bool), vs = [v] ∧ RowV K H v b ∧ (∀ P ∈ T, TabG H P) ∧ ∀ H', Kp T H H' → Q (.bl b) H'
theorem scR : FnScope ["row"] ["row"] (defScope sIsRow) := ⟨rfl, rfl, rfl, by decide +kernel, rfl, by decide +kernel, by decide +kernel⟩
theorem cut_tail (h : V) (rest : List V) : cutV (h :: rest) (some 1) none = rest := by
  have h1 : HT.sIx (h :: rest).length 0 (some 1) = 1 := by
    rw [show (1 : Int) = ((1 : Nat) : Int) from rfl, HT.sIx_nat, List.length_cons]
    omega
  unfold cutV
  rw [h1, HT.sIx_none]
  simp
theorem Kp.trans {T : List Addr} {H H1 H2 : Hp} (a : Kp T H H1) (b : Kp T H1 H2) : Kp T H H2 := ⟨b.tab, fun p o e n => b.keep p o (a.keep p o e n) n⟩
/-- what is no table is held -/
theorem Kp.obj {T : List Addr} {H H' : Hp} {a : Addr} {o : HO} (k : Kp T H H') (ht : ∀ P ∈ T, TabG H P) (e : H a = some o) (n : ∀ ps, o ≠ .tbl ps := by intro ps q; cases q) : H' a = some o := k.keep a o e fun hm => by
  obtain ⟨ps, e2, _⟩ := ht a hm
  rw [e] at e2
  exact n ps (Option.some.inj e2)
section
variable {P : Program} {w : World} {K : PySem.W.Frag} {mg : Str → Option Value} {base : Heap} {f c P1 fW d : Addr} {fd fdW : FuncData} {T : List Addr}
theorem ok_row (F : FnP K "is_row" sIsRow f fd) (hc : fd.code = .ref c) (TB : TabB base mg c P1) (hT : P1 ∈ T) (W : TW K mg) (D : TF K w mg d) (gW : mg "is_word" = some (.ref fW)) (FW : FnOk P w K mg base CX0 3 fW fdW ["word"] (spWord T))
    (kW : PySem.W.keepIn K (.ref fW) = true) (bW : Binds K fdW ["word"] []) : FnOk P w K mg base CX0 5 f fd ["row"] (spRow K T) := by
  refine okC F hc scR (fun vs H Q E h => ?_) (fun A outer s H vs Q E hr h => ?_)
  · obtain ⟨v, b, rfl, _⟩ := h
    rfl
  · obtain ⟨v, b, rfl, hv, ht, k⟩ := h
    obtain ⟨es, nn, kd⟩ := D.kd
    refine ⟨_, pss_cons (ps_if (PW.pt (pw_or (pt_not (pt_val (pe_callB call_isi (by rfl) W.isi (by decide +kernel) (pa_cons (pv 0) (pa_cons (pe_bltn (v := .ty "tuple") (by rfl) W.tup (by decide +kernel) rfl) pa_nil)))))
        (pw_or (pt_not (pt_truth (pv 0) (by intro _; rfl)))
        (pw_or (pt_not (pt_val (pe_callB call_isi (by rfl) W.isi (by decide +kernel) (pa_cons (pe_ix ix_tup (pv 0) pe_int (fun _ _ => rfl)) (pa_cons (pe_bltn (v := .ty "str") (by rfl) W.str (by decide +kernel) rfl) pa_nil)))))
        (pw_or1 (pt_cmpR (op_notIn_kd kd) (pe_ix ix_tup (pv 0) pe_int (fun _ _ => rfl)) (pe_glob (v := .ref d) (by rfl) D.at_ rfl) (by rfl)))))))
        (pss_one (ps_ret pe_bl)) pss_nil)
      (pss_one (ps_ret (pe_and (pe_cmpR op_eq (pe_callB call_len_seq (by rfl) W.len (by decide +kernel) (pa_cons (pv 0) pa_nil)) (pe_op op_add pe_int (pe_callB call_len_seq (by rfl) W.len (by decide +kernel) (pa_cons
          (pe_ix ix_kdict (pe_glob (v := .ref d) (by rfl) D.at_ rfl) (pe_ix ix_tup (pv 0) pe_int (fun _ _ => rfl)) (fun _ _ => rfl)) pa_nil))) (nomark _))
        (pe_one (pe_allG (k := 3) (x := "word") (P := P1) hr (by rfl) W.all_ TB rfl ⟨rfl, rfl, by decide +kernel, by decide +kernel, by decide +kernel, by rfl⟩ (pi_tup (pe_slice sl_tup (pv 0) (po_some pe_int) po_none))
          (fun A sB H code fp pn => pg_name (i := 0) (nd1 _) rfl (Or.inl rfl))
          (fun A sB H code fp pn hr' => pe_call FW hr' (by rfl) gW kW bW .nil pass0 (pa_cons (pv 0) pa_nil))))))), ?_⟩
    have kp0 : Kp T H H := ⟨ht, fun _ _ e _ => e⟩
    rcases hv with ⟨hn, rfl⟩ | ⟨a, xs, rfl, hx, hl, hp, rfl⟩
    · rcases hn with ⟨z, rfl⟩ | rfl | ⟨i, rfl⟩ | ⟨a, xs, rfl, e⟩
      · exact ⟨_, rfl, _, _, _, _, false, rfl, ClsV.ty _, TyX.base (.str z), kit_ty (by decide +kernel), false, rfl, iteT (iteT (k H kp0))⟩
      · exact ⟨_, rfl, _, _, _, _, false, rfl, ClsV.ty _, TyX.base .non, kit_ty (by decide +kernel), false, rfl, iteT (iteT (k H kp0))⟩
      · exact ⟨_, rfl, _, _, _, _, false, rfl, ClsV.ty _, TyX.base (.int i), kit_ty (by decide +kernel), false, rfl, iteT (iteT (k H kp0))⟩
      · exact ⟨_, rfl, _, _, _, _, false, rfl, ClsV.ty _, TyX.base (.lst e), kit_ty (by decide +kernel), false, rfl, iteT (iteT (k H kp0))⟩
    · have sx : SqT K H a xs := hx
      refine ⟨_, rfl, _, _, _, _, true, rfl, ClsV.ty _, tyTup hx, kit_ty (by decide +kernel), true, rfl, ?_⟩
      refine iteF ⟨_, rfl, !xs.isEmpty, .inr (.inl ⟨xs, sx, rfl⟩), ?_⟩
      cases xs with
      | nil => exact iteT (iteT (k H kp0))
      | cons h rest =>
        have ph := hp h List.mem_cons_self
        refine iteF ⟨_, rfl, a, _, 0, h, rfl, rfl, sx, at_of (j := 0) rfl rfl, ?_⟩
        rcases ph with ⟨z, rfl, hz⟩ | rfl | ⟨i, rfl⟩ | ⟨a', ys, rfl, e | e⟩
        · refine ⟨_, _, _, _, true, rfl, ClsV.ty _, TyX.base (.str z), kit_ty (by decide +kernel), true, rfl, ?_⟩
          refine iteF ⟨_, rfl, a, _, 0, .str z, rfl, rfl, sx, at_of (j := 0) rfl rfl, ?_⟩
          cases hf : formsL.lookup z with
          | none =>
            refine ⟨z, _, rfl, rfl, D.out z hf, _, rfl, ?_⟩
            refine iteT ?_
            have e : isRowL (.str z :: rest) = false := by
              show (match formsL.lookup z with
                | some ps => decide (rest.length = ps.length) && rest.all isWordV
                | none => false) = false
              rw [hf]
            have q := k H kp0
            rw [e] at q
            exact q
          | some ps =>
            obtain ⟨ap, e1, e2⟩ := D.val z ps hf
            have er : isRowL (.str z :: rest) = (decide (rest.length = ps.length) && rest.all isWordV) := by
              show (match formsL.lookup z with
                | some ps => decide (rest.length = ps.length) && rest.all isWordV
                | none => false) = _
              rw [hf]
            rw [er] at k
            refine ⟨z, _, rfl, rfl, e1, _, rfl, ?_⟩
            refine iteF ?_
            refine ⟨_, rfl, a, _, rfl, .inr sx, ?_⟩
            refine ⟨_, rfl, a, _, 0, .str z, rfl, rfl, sx, at_of (j := 0) rfl rfl, d, z, .ref ap, rfl, rfl, ⟨es, nn, _, kd.at_, kd.lit, e1, rfl⟩, ap, _, rfl, .inr (e2 H), _, _, rfl, rfl, rfl, _, rfl, ?_⟩
            have ed : decide (V.int (((V.str z :: rest).length : Nat) : Int) = V.int (1 + ((ps.map V.str).length : Int))) = decide (rest.length = ps.length) := by
              rw [List.length_cons, List.length_map]
              by_cases e : rest.length = ps.length
              · rw [decide_eq_true e, e]
                exact decide_eq_true (by congr 1; omega)
              · rw [decide_eq_false e]
                refine decide_eq_false fun q => e ?_
                have := V.int.inj q
                omega
            rw [ed]
            cases hl2 : decide (rest.length = ps.length) with
            | false =>
              refine iteF ?_
              have q := k H kp0
              rw [hl2] at q
              exact q
            | true =>
              rw [hl2, Bool.true_and] at k
              refine iteT ⟨_, rfl, 1, rfl, a, _, rfl, sx, fun q => ?_, fun p np => ⟨p, rfl, ⟨rest, .inl (.of ?_)⟩, ?_, fun H2 tb => ?_⟩⟩
              · have h1 : HT.sIx (V.str z :: rest).length 0 (some 1) = 1 := by
                  rw [show (1 : Int) = ((1 : Nat) : Int) from rfl, HT.sIx_nat, List.length_cons]
                  omega
                have h2 := q.1
                rw [h1] at h2
                cases h2
              · rw [cut_tail]; exact upd_same
              · obtain ⟨qs, h2, h3⟩ := ht P1 hT
                exact ⟨qs, by rw [upd_ne (ne_of_none h2 np)]; exact h2, h3⟩
              · rw [cut_tail] at tb
                have hpP : p ≠ P1 := fun e => by
                  obtain ⟨qs, h2, h3⟩ := ht P1 hT
                  rw [e, h2] at np
                  cases np
                have kp2 : Kp T H H2 := ⟨fun q hq => by
                  by_cases e : q = P1
                  · rw [e]; exact tb.1
                  · obtain ⟨qs, h2, h3⟩ := ht q hq
                    exact ⟨qs, by rw [tb.2 q e, upd_ne (ne_of_none h2 np)]; exact h2, h3⟩, fun b o e hb => by
                    rw [tb.2 b fun z => hb (by rw [z]; exact hT), upd_ne (ne_of_none e np)]
                    exact e⟩
                have hp2 : H2 p = some (.tup rest) := by rw [tb.2 p hpP, upd_same]
                refine ga_it (walk_tup (K := K) (a := p) (xs := rest)) (fun i H' => Kp T H2 H' ∧ (rest.take i).all isWordV = true) ⟨⟨kp2.tab, fun _ _ e _ => e⟩, rfl⟩ (fun i H' _ pv => ?_) (fun i y Ha Hb hi pv yy => ?_) (fun H' pv => ?_)
                · exact .inl (.of (pv.1.obj kp2.tab hp2))
                · obtain ⟨k1, p1⟩ := pv
                  obtain ⟨rfl, ey⟩ := yy
                  obtain ⟨a1, a2⟩ := all_take p1 ey
                  have py : PlainV Hb y := (hp y (List.mem_cons_of_mem _ (List.mem_of_getElem? ey))).kp ht (kp2.trans k1)
                  refine ⟨y, rfl, y, rfl, py, k1.tab, fun H3 k3 => ⟨_, rfl, ?_⟩⟩
                  cases hw : isWordV y with
                  | true => exact iteT ⟨k1.trans k3, a1 hw⟩
                  | false =>
                    have q := k H3 (kp2.trans (k1.trans k3))
                    rw [a2 hw] at q
                    exact iteF q
                · obtain ⟨k1, p1⟩ := pv
                  rw [List.take_of_length_le (Nat.le_refl _)] at p1
                  have q := k H' (kp2.trans k1)
                  rw [p1] at q
                  exact q
        · exact ⟨_, _, _, _, false, rfl, ClsV.ty _, TyX.base .non, kit_ty (by decide +kernel), false, rfl, iteT (iteT (k H kp0))⟩
        · exact ⟨_, _, _, _, false, rfl, ClsV.ty _, TyX.base (.int i), kit_ty (by decide +kernel), false, rfl, iteT (iteT (k H kp0))⟩
        · exact ⟨_, _, _, _, false, rfl, ClsV.ty _, TyX.base (.tup e), kit_ty (by decide +kernel), false, rfl, iteT (iteT (k H kp0))⟩
        · exact ⟨_, _, _, _, false, rfl, ClsV.ty _, TyX.base (.lst e), kit_ty (by decide +kernel), false, rfl, iteT (iteT (k H kp0))⟩
end
end Ah
end
section
set_option Elab.async false
set_option linter.all false
set_option maxRecDepth 100000
set_option maxHeartbeats 2000000
namespace Ah
open PySem PySem.Spec PyProof.Rows L2
/-! ### what the head tells of a def that closes over its class -/
abbrev FnY : Type := Option (Str × Str × Arguments × FuncBody × Scope × Addr × List Str × Addr)
def fnY (K : PySem.W.Frag) (a : Addr) : FnY := match K.lookup a with
  | some ⟨_, _, .func fd, _⟩ => some (fd.name, fd.qualname, fd.params, fd.body, fd.scope, fd.globals, fd.closure.map (·.1), fd.builtins)
  | _ => none
def valY (qual : Str) (st : Stmt) : FnY := some ("__init__", qual, defArgs st, .stmts (defBody st), defScope st, mainGlobals, [("__class__" : Str)], builtinsNs)
def supB (K : PySem.W.Frag) (file : Str) (qual : Str) (fI C : Addr) : Bool := (match K.lookup fI with
    | some ⟨_, _, .func fd, _⟩ => (decide (fd.defaults = .none) && PySem.W.codeIn K fd.code qual) && ((match fd.code with
        | .ref cda => (match K.lookup cda with
          | some ⟨_, _, .fields vs, _⟩ => (match (vs : Array Value)[2]? with
            | some (Value.str f _) => file == f
            | _ => false)
          | _ => false)
        | _ => false) && (match fd.closure with
        | [(_, cc)] => (match K.lookup cc with
          | some ⟨_, _, .cell (some (.ref c)), _⟩ => decide (c = C)
          | _ => false)
        | _ => false))
    | _ => false) &&
  (decide (PySem.W.nsIn K cStatics "thirdparty.any" = some none) && (decide (PySem.W.ks_superIn K C C "__init__" = some (some (.builtin "ValueError.__init__"))) &&
    (decide (PySem.W.subIn K (.ref C) (.type "ValueError") = some true) && decide (PySem.W.mroIn K C (.ref C) = some true))))
theorem band {a b : Bool} (h : (a && b) = true) : a = true ∧ b = true := Bool.and_eq_true_iff.mp h
/-- the module's dict DEEDS, as a list -/
def deedsL : List (Str × Nat) := [("put", 3), ("drop", 2), ("tell", 3)]
end Ah
end
section
set_option Elab.async false
set_option linter.all false
set_option maxRecDepth 100000
set_option maxHeartbeats 2000000
namespace Ah
open PySem PySem.Spec PyProof.Rows L2
/-! ### the hook that also tells of defs that close over their class; what is read holds the statics' namespace too -/
def frY (g : Addr → Option Obj) (n : Nat) : PySem.W.Frag := He.frT g (cStatics :: He.asD g n)
abbrev AlY : Type := He.AlX × List FnY
def obsY (n : Nat) (fa : List He.Fa) (fn : List He.DefD) (ts : List He.Tab) (tf : List He.Defn) (ex : PySem.W.Frag → Bool) (sup : PySem.W.Frag → List FnY) (g : Addr → Option Obj) : AlY :=
  ((He.obsT fa fn ts (frY g n), ex (frY g n) && He.tabsB g tf (frY g n)), sup (frY g n))
theorem saysY_of {n : Nat} {fa : List He.Fa} {fn : List He.DefD} {ts : List He.Tab} {tf : List He.Defn} {ex : PySem.W.Frag → Bool} {w : World} {h : Heap} (e1 : He.obsT fa fn ts (frY h.get? n) = He.valT fn ts w) (e2 : (ex (frY h.get? n) && He.tabsB h.get? tf (frY h.get? n)) = true) : He.SaysX fa fn ts tf ex w h (frY h.get? n) := by
  obtain ⟨x1, x2⟩ := band e2
  have all : ∀ q ∈ tf, PySem.W.codeHdIn (frY h.get? n) (He.cT (frY h.get? n) q).1 (He.cT (frY h.get? n) q).2 = true ∧ ∃ u, h.get? (He.cT (frY h.get? n) q).2 = some u ∧ He.emptyTab u = true := by
    intro q hq
    have y := band (List.all_eq_true.mp x2 q hq)
    refine ⟨y.1, ?_⟩
    have y2 := y.2
    cases r : h.get? (He.cT (frY h.get? n) q).2 with
    | none => rw [r] at y2; cases y2
    | some u => rw [r] at y2; exact ⟨u, rfl, y2⟩
  refine ⟨e1, x1, fun q hq => (all q hq).1, fun q hq => ?_, fun q hq => ?_⟩
  · obtain ⟨u, r, z⟩ := (all q hq).2
    exact He.frT_none r z
  · obtain ⟨u, r, z⟩ := (all q hq).2
    rw [r, He.emptyTab_eq z]
def hookY (n : Nat) (fa : List He.Fa) (fn : List He.DefD) (ts : List He.Tab) (tf : List He.Defn) (ex : PySem.W.Frag → Bool) (sup : PySem.W.Frag → List FnY) (val : List FnY) : PySem.W.Hook where
  α := AlY
  obs := fun s => obsY n fa fn ts tf ex sup s.heap.get?
  val := fun w => (He.valX fn ts w, val)
  says := fun w h => ∃ K : PySem.W.Frag, K.In h ∧ He.SaysX fa fn ts tf ex w h K ∧ sup K = val
  of := fun _ _ e => ⟨_, He.frT_in, saysY_of (congrArg (fun z : AlY => z.1.1) e) (congrArg (fun z : AlY => z.1.2) e), congrArg (fun z : AlY => z.2) e⟩
  keeps := fun _ _ _ ⟨K, hK, c, v⟩ k => ⟨K, PySem.W.Frag.In.keeps hK k, ⟨c.t, c.more, c.hd, c.out, fun p hp => k _ _ (c.empty p hp)⟩, v⟩
theorem obsY_eq {n : Nat} {fa : List He.Fa} {fn : List He.DefD} {ts : List He.Tab} {tf : List He.Defn} {ex : PySem.W.Frag → Bool} {sup : PySem.W.Frag → List FnY} {val : List FnY} {g : Addr → Option Obj} {s : Shared} (h : ∀ a, g a = s.heap.get? a) : obsY n fa fn ts tf ex sup g = (hookY n fa fn ts tf ex sup val).obs s := by
  have e : g = s.heap.get? := funext h
  rw [e] <;> rfl
end Ah
end
section
set_option Elab.async false
set_option linter.all false
set_option maxRecDepth 100000
set_option maxHeartbeats 2000000
namespace Ah
open PySem PySem.Spec PyProof.Rows L2
/-! ### the classes' facts by a Bool -/
def oexB (K : PySem.W.Frag) (C : Addr) : Bool := (match K.lookup C with
  | some ⟨.type c, _, .cls cd, sl⟩ => decide (c = "type") && ((match cd.mro with
      | .ref C' :: bm => decide (C' = C) && PySem.HandSPX.refsVE bm
      | _ => false) && (cd.hasDict && (!cd.hasDel && (match sl.toList with
      | [_, _, _, _, some (.builtin n), _] => decide (n = "ValueError.__new__")
      | _ => false))))
  | _ => false) && (decide (PySem.W.findIn K (.ref C) "__setattr__" = some (some (.builtin "object.__setattr__"))) && (decide (PySem.W.subIn K (.ref C) (.type "BaseException") = some true) && (decide (PySem.W.typeIn K (.ref C) = some (.type "type")) && PySem.W.keepIn K (.ref C))))
theorem oexB_ok {K : PySem.W.Frag} {C : Addr} (h : oexB K C = true) : OexC K C := by
  obtain ⟨h1, h2⟩ := band h
  obtain ⟨h2, h3⟩ := band h2
  obtain ⟨h3, h4⟩ := band h3
  obtain ⟨h4, h5⟩ := band h4
  refine ⟨?_, of_decide_eq_true h2, of_decide_eq_true h3, of_decide_eq_true h4, h5⟩
  cases q : K.lookup C with
  | none => rw [q] at h1; cases h1
  | some o =>
    obtain ⟨oc, od, dt, sl⟩ := o
    rw [q] at h1
    cases oc with
    | type c =>
      cases dt with
      | cls cd =>
        have h1 : (decide (c = "type") && ((match cd.mro with
          | .ref C' :: bm => decide (C' = C) && PySem.HandSPX.refsVE bm
          | _ => false) && (cd.hasDict && (!cd.hasDel && (match sl.toList with
          | [_, _, _, _, some (.builtin n), _] => decide (n = "ValueError.__new__")
          | _ => false))))) = true := h1
        obtain ⟨a1, r1⟩ := band h1
        obtain ⟨a2, r2⟩ := band r1
        obtain ⟨a3, r3⟩ := band r2
        obtain ⟨a4, a5⟩ := band r3
        clear r1 r2 r3
        have a1 : c = "type" := of_decide_eq_true a1
        subst a1
        obtain ⟨nm, bs, mro, N, qn, hd, sn, sb, ab, col, del⟩ := cd
        dsimp only at a2 a3 a4
        have a4 : del = false := by simpa using a4
        subst a3 a4
        match mro, a2 with
        | .ref C' :: bm, a2 =>
          obtain ⟨b1, b2⟩ := band a2
          have b1 : C' = C := of_decide_eq_true b1
          subst b1
          obtain ⟨sl⟩ := sl
          match sl, a5 with
          | [k0, k1, k2, k3, some (.builtin n), k5], a5 =>
            have a5 : n = "ValueError.__new__" := of_decide_eq_true a5
            subst a5
            exact ⟨nm, qn, N, bs, bm, sn, sb, ab, col, od, k0, k1, k2, k3, k5, rfl, b2⟩
      | _ => cases h1
    | _ => cases dt <;> cases h1
def xcB (K : PySem.W.Frag) (D : Addr) : Bool := decide (PySem.W.findIn K (.ref D) "__getattribute__" = some (some (.builtin "BaseException.__getattribute__"))) && (decide (PySem.W.findIn K (.ref D) "__getattr__" = some none) && (decide (PySem.W.subIn K (.ref D) (.type "BaseException") = some true) && (PySem.W.hasDictIn K D &&
  (decide (PySem.W.findIn K (.ref D) "__class__" = some (some (.builtin "object.__class__"))) && (decide (PySem.W.specialIn K (.builtin "object.__class__") "__get__" = some (some (.builtin "getset_descriptor.__get__"))) && (decide (PySem.W.takesIn K (.builtin "object.__class__") = some true) && decide (PySem.W.mroIn K D (.type "object") = some true)))))))
theorem xcB_ok {K : PySem.W.Frag} {D : Addr} (h : xcB K D = true) : ExcC K D := by
  obtain ⟨h1, h⟩ := band h
  obtain ⟨h2, h⟩ := band h
  obtain ⟨h3, h⟩ := band h
  obtain ⟨h4, h⟩ := band h
  obtain ⟨h5, h⟩ := band h
  obtain ⟨h6, h⟩ := band h
  obtain ⟨h7, h8⟩ := band h
  exact ⟨of_decide_eq_true h1, of_decide_eq_true h2, of_decide_eq_true h3, h4, of_decide_eq_true h5, of_decide_eq_true h6, of_decide_eq_true h7, of_decide_eq_true h8⟩
/-- the nine classes -/
def nine : List Str := ["BadRow", "BadSaying", "BadCount", "BadSteps", "NoRow", "NoFollow", "BadDeed", "Halted", "BadText"]
def cW (K : PySem.W.Frag) (i : Nat) : Addr := He.ga K (nine.getD i "")
def wordB (K : PySem.W.Frag) (CA : Addr) : Bool := (List.range 9).all (fun i => (List.range 9).all fun j => decide (PySem.W.kitOne K (.ref (cW K i)) (.ref (cW K j)) = some (decide (i = j)))) &&
  ((List.range 9).all (fun i => decide (PySem.W.kitOne K (.ref (cW K i)) (.type "ValueError") = some true) && (decide (PySem.W.exmOne K (.ref (cW K i)) (.ref CA) = some true) && xcB K (cW K i))) &&
  [0, 3, 6].all fun i => xfB K (cW K i) && decide (PySem.W.findIn K (.ref (cW K i)) "number" = some none))
theorem wordB_ok {K : PySem.W.Frag} {CA : Addr} (h : wordB K CA = true) : (∀ i j, i < 9 → j < 9 → PySem.W.kitOne K (.ref (cW K i)) (.ref (cW K j)) = some (decide (i = j))) ∧ (∀ i, i < 9 → PySem.W.kitOne K (.ref (cW K i)) (.type "ValueError") = some true) ∧
    (∀ i, i < 9 → PySem.W.exmOne K (.ref (cW K i)) (.ref CA) = some true) ∧ (∀ i, i < 9 → ExcC K (cW K i)) ∧ ∀ i, i = 0 ∨ i = 3 ∨ i = 6 → XfC K (cW K i) ∧ PySem.W.findIn K (.ref (cW K i)) "number" = some none := by
  obtain ⟨h1, h⟩ := band h
  obtain ⟨h2, h3⟩ := band h
  have g2 : ∀ i, i < 9 → _ := fun i hi => band (List.all_eq_true.mp h2 i (List.mem_range.mpr hi))
  refine ⟨fun i j hi hj => of_decide_eq_true (List.all_eq_true.mp (List.all_eq_true.mp h1 i (List.mem_range.mpr hi)) j (List.mem_range.mpr hj)), fun i hi => of_decide_eq_true (g2 i hi).1, fun i hi => of_decide_eq_true (band (g2 i hi).2).1, fun i hi => xcB_ok (band (g2 i hi).2).2, fun i hi => ?_⟩
  obtain ⟨a, b⟩ := band (List.all_eq_true.mp h3 i (by simp; exact hi))
  exact ⟨xfB_ok a, of_decide_eq_true b⟩
def deedsB (K : PySem.W.Frag) : Bool := deedsL.all fun q => match PySem.W.nsIn K (He.ga K "DEEDS") q.1 with
  | some (some (.int i _)) => decide (i = (q.2 : Int))
  | _ => false
theorem deedsB_ok {K : PySem.W.Frag} (h : deedsB K = true) {z : Str} {n : Nat} (m : (z, n) ∈ deedsL) : ∃ t, PySem.W.nsIn K (He.ga K "DEEDS") z = some (some (.int (n : Int) t)) := by
  have h2 : (match PySem.W.nsIn K (He.ga K "DEEDS") z with
    | some (some (.int i _)) => decide (i = (n : Int))
    | _ => false) = true := List.all_eq_true.mp h _ m
  cases q : PySem.W.nsIn K (He.ga K "DEEDS") z with
  | none => rw [q] at h2; cases h2
  | some r =>
    rw [q] at h2
    cases r with
    | none => cases h2
    | some u =>
      cases u with
      | int i t =>
        have e : i = (n : Int) := of_decide_eq_true h2
        exact ⟨t, by rw [e]⟩
      | _ => cases h2
end Ah
end
section
set_option Elab.async false
set_option linter.all false
set_option maxRecDepth 100000
set_option maxHeartbeats 0
namespace Ah
open PySem PySem.Spec PyProof.Rows L2
/-! ### the head -/
def dF (x : Str) (st : Stmt) : He.DefD := ⟨(x, none), x, x, defArgs st, defBody st, defScope st, [], []⟩
def dM (c x q : Str) (st : Stmt) : He.DefD := ⟨(c, some x), x, q, defArgs st, defBody st, defScope st, [], []⟩
def fn0 : List He.DefD := [dF "is_word" sIsWord, dF "is_row" sIsRow, dF "is_number" sIsNumber, dF "check_text" sCheck, dF "check_number" sCheckNumber, dM "House" "__init__" "House.__init__" sHouseInit, dM "House" "text" "House.text" sHouseText, dM "House" "put" "House.put" sHousePut, dM "House" "drop" "House.drop" sHouseDrop, dM "House" "tell" "House.tell" sHouseTell, dM "House" "kept" "House.kept" sHouseKept, dM "House" "told" "House.told" sHouseTold, dM "House" "is_idle" "House.is_idle" sHouseIsIdle, dF "_law_row" lRow, dF "_law_taken" lTaken, dF "_law_one" lOne, dF "_law_text" lText, dF "_law_deed" lDeed, dF "_law_done" lDone, dF "_law_alike" lAlike]
def fn1 : List He.DefD := [dF "_law_word" lWord, dF "_law_told" lTold, dF "law" lLaw]
def fn : List He.DefD := fn0 ++ fn1
def fa0 : List He.Fa := [.glo "is_word", .glo "is_row", .glo "is_number", .glo "check_text", .glo "check_number", .glo "_law_row", .glo "_law_taken", .glo "_law_one", .glo "_law_text", .glo "_law_deed", .glo "_law_done", .glo "_law_alike", .glo "_law_word", .glo "_law_told", .glo "law", .free "isinstance", .free "len", .free "tuple", .free "list", .free "str", .free "bool", .free "range", .free "enumerate", .free "sorted", .free "zip"]
def fa1 : List He.Fa := [.free "dict", .free "all", .free "super", .free "ValueError", .free "int", .glo "FORMS", .glo "BARRED", .glo "House", .glo "AnswerError", .glo "BadRow", .glo "BadSaying", .glo "BadCount", .glo "BadSteps", .glo "NoRow", .glo "NoFollow", .glo "BadDeed", .glo "Halted", .glo "BadText", .int "LONGEST_WORD" 6, .int "MOST_ROWS" 24, .str "LETTERS" letters, .cls "House", .noat "House" "standing", .noat "House" "asked", .noat "House" "events"]
def fa2 : List He.Fa := [.noat "House" "idle", .meth "House" "text", .meth "House" "put", .meth "House" "drop", .meth "House" "tell", .meth "House" "kept", .meth "House" "told", .meth "House" "is_idle", .mkr "House", .exc "NoRow"]
def fa : List He.Fa := fa0 ++ fa1 ++ fa2
abbrev R : PySem.W.OpenRow := PySem.W.OpenLaw.row PySem.Challenge.rw_answerhouse_k15_houses_deed_by_deed
def ts : List He.Tab := [(fun K => He.ga K "FORMS", formsL.map (·.1))]
def tf : List He.Defn := [("is_word", none), ("is_row", none), ("law", none), ("_law_told", none)]
def tupK (K : PySem.W.Frag) (a : Addr) (ws : List Str) : Bool := match K.lookup a with
  | some ⟨.type c, _, .seq its _, _⟩ => decide (c = "tuple") && (decide (its.size ≤ 1000) && He.relAll (ws.map V.str) its.toList)
  | _ => false
def formsB (K : PySem.W.Frag) : Bool := formsL.all fun q => match PySem.W.nsIn K (He.ga K "FORMS") q.1 with
  | some (some (.ref a)) => tupK K a q.2
  | _ => false
def neT (a b : Addr) : Bool := !decide (a = b)
def tabsB (K : PySem.W.Frag) : Bool := neT (He.cT K ("law", none)).2 (He.cT K ("is_word", none)).2 && (neT (He.cT K ("law", none)).2 (He.cT K ("is_row", none)).2 && (neT (He.cT K ("_law_told", none)).2 (He.cT K ("is_word", none)).2 && (neT (He.cT K ("_law_told", none)).2 (He.cT K ("is_row", none)).2 && neT (He.cT K ("law", none)).2 (He.cT K ("_law_told", none)).2)))
def bdB (K : PySem.W.Frag) : Bool := supB K PySem.Challenge.pw_answerhouse_k15_houses_deed_by_deed.main.file "BadRow.__init__" (He.ma K (He.ga K "BadRow") "__init__") (He.ga K "BadRow") && (oexB K (He.ga K "BadRow") && (xfB K (He.ga K "BadRow") && (decide (PySem.W.findIn K (.ref (He.ga K "BadRow")) "__init__" = some (some (.ref (He.ma K (He.ga K "BadRow") "__init__")))) && (decide (PySem.W.typeIn K (.ref (He.ma K (He.ga K "BadRow") "__init__")) = some (.type "function")) && decide (PySem.W.findIn K (.ref (He.ga K "BadRow")) "number" = some none)))))
def exB (K : PySem.W.Frag) : Bool := formsB K && (tupK K (He.ga K "BARRED") barred && (tabsB K && (bdB K && wordB K (He.ga K "AnswerError"))))
def sup15 (K : PySem.W.Frag) : List FnY := [fnY K (He.ma K (He.ga K "BadRow") "__init__")]
def val15 : List FnY := [valY "BadRow.__init__" sBadrowInit]
abbrev hk : PySem.W.Hook := hookY 5 fa fn ts tf exB sup15 val15
def ob (s : PySem.W.SharedT) : AlY := obsY 5 fa fn ts tf exB sup15 (HandSHeadRun.getT s)
theorem ob_eq (s : PySem.W.SharedT) : ob s = hk.obs s.abs := obsY_eq (HandSHeadRun.getT_eq s)
def loose0 : List Str := ["_wall", "CLASH", "places_of", "leads_from_kind", "leads_on", "leads_from_tie", "leads_by", "Rules", "all_results", "size_of", "Search", "masks_of", "AnswerError", "BadRow", "BadSaying", "BadCount", "BadSteps", "NoRow", "NoFollow", "BadDeed", "Halted", "BadText", "MOST_ROWS", "LONGEST_WORD", "LETTERS", "BARRED", "FORMS", "is_word", "is_row", "is_number"]
def loose1 : List Str := ["check_text", "check_number", "told_of", "names_of", "BATCH", "first_bits", "Trial", "word_of", "words_of", "DEEDS", "is_deed", "check_deeds", "House", "_law_row", "_law_taken", "_law_one", "_law_text", "_law_deed", "_law_done", "_law_alike", "_law_word", "_law_told"]
def loose : List Str := loose0 ++ loose1
theorem run2a (w : World) : HandSHeadRun.RunEq R (PySem.W.view R.prog [60]) hk ob 7000 loose (w.withFollow "special-get-raises" false) := by
  intro os
  kernel_rfl
theorem run2b (w : World) : HandSHeadRun.RunEq R (PySem.W.view R.prog [60]) hk ob 7000 loose (w.withFollow "special-get-raises" true) := by
  intro os
  kernel_rfl
theorem run2 (b : Bool) (w : World) : HandSHeadRun.RunEq R (PySem.W.view R.prog [60]) hk ob 7000 loose (w.withFollow "special-get-raises" b) := by
  cases b
  · exact run2a w
  · exact run2b w
theorem run (w : World) : HandSHeadRun.RunEq R (PySem.W.view R.prog [60]) hk ob 7000 loose w := by
  have h := run2 (w.params.followText "special-get-raises") w
  rwa [World.withFollow_self] at h
end Ah
end
section
set_option Elab.async false
set_option linter.all false
set_option maxRecDepth 100000
set_option maxHeartbeats 4000000
namespace Ah
open PySem PySem.Spec PyProof.Rows L2
open GxR (TabB TabG Tabbed)
/-! ### what the head tells, for the defs -/
theorem tupK_ok {K : PySem.W.Frag} {a : Addr} {ws : List Str} (h : tupK K a ws = true) (H : Hp) : SqT K H a (ws.map V.str) := by
  unfold tupK at h
  cases q : K.lookup a with
  | none =>
    rw [q] at h
    cases h
  | some o =>
    obtain ⟨oc, od, dt, osl⟩ := o
    rw [q] at h
    cases oc with
    | type c =>
      cases dt with
      | seq its n =>
        obtain ⟨h1, h2⟩ := He.ba h
        obtain ⟨h3, h4⟩ := He.ba h2
        have e : c = "tuple" := of_decide_eq_true h1
        have l : its.size ≤ 1000 := of_decide_eq_true h3
        exact .inr ⟨_, its, n, q, by rw [e], rfl, Nat.le_trans l (by decide), He.relAll_ok h4⟩
      | _ => cases h
    | _ => cases dt <;> cases h
theorem out_of {K : PySem.W.Frag} {P : Params} {a : Addr} {ks : List Str} (h : He.dicW K a = some (He.keysIn P ks)) {z : Str} (hz : z ∉ ks) : PySem.W.nsIn K a z = some none := by
  unfold He.dicW at h
  cases q : K.lookup a with
  | none =>
    rw [q] at h
    cases h
  | some o =>
    obtain ⟨oc, od, dt, osl⟩ := o
    rw [q] at h
    cases oc with
    | type c =>
      cases od with
      | none =>
        cases dt with
        | dict es n =>
          have h1 : (match decide (c = "dict") && (osl.isEmpty && !(a == sysModules)) with
            | true => some (es.toList.map He.keyOf)
            | false => none) = some (He.keysIn P ks) := h
          have h2 : es.toList.map He.keyOf = He.keysIn P ks := by
            cases y : decide (c = "dict") && (osl.isEmpty && !(a == sysModules)) with
            | false =>
              rw [y] at h1
              cases h1
            | true =>
              rw [y] at h1
              exact Option.some.inj h1
          have key : ∀ e ∈ es.toList, e.key.isStr z = false ∧ e.refKey = false := by
            intro e he
            have m : He.keyOf e ∈ He.keysIn P ks := by
              rw [← h2]
              exact List.mem_map_of_mem he
            obtain ⟨k, hk, ek⟩ := List.mem_map.mp m
            unfold He.keyOf at ek
            cases qk : e.key with
            | str x t =>
              rw [qk] at ek
              have ex : k = x := (Prod.mk.inj (Option.some.inj ek)).1
              refine ⟨?_, ?_⟩
              · rw [PySem.W.isStr_of]
                unfold Value.isStrOf
                cases y : (x == z) with
                | false => simpa using y
                | true =>
                  rw [ex, beq_iff_eq.mp y] at hk
                  exact absurd hk hz
              · unfold DictEntry.refKey
                rw [qk]
            | _ =>
              rw [qk] at ek
              cases ek
          unfold PySem.W.nsIn
          rw [q]
          show (match es.toList.find? (·.key.isStr z) with | some e => some (some e.val) | none => if es.toList.any (·.refKey) then none else some none) = some none
          rw [List.find?_eq_none.mpr fun e he => by rw [(key e he).1]; decide]
          show (if es.toList.any (·.refKey) then none else some none) = some none
          rw [if_neg]
          intro y
          obtain ⟨e, he, hr⟩ := List.any_eq_true.mp y
          rw [(key e he).2] at hr
          cases hr
        | _ => cases h
      | some d => cases dt <;> cases h
    | _ => cases od <;> cases dt <;> cases h
theorem lookup_none {β : Type} {z : Str} : ∀ {l : List (Str × β)}, l.lookup z = none → z ∉ l.map (·.1)
  | [], _ => by simp
  | (k, v) :: r, h => by
    have h2 : (match z == k with | true => some v | false => r.lookup z) = none := h
    cases q : (z == k) with
    | true =>
      rw [q] at h2
      cases h2
    | false =>
      rw [q] at h2
      have ne : z ≠ k := fun e => by rw [e, beq_self_eq_true] at q; cases q
      intro m
      rcases List.mem_cons.mp (show z ∈ k :: r.map (·.1) from m) with e | e
      · exact ne e
      · exact lookup_none h2 e
theorem lookup_in {β : Type} {z : Str} {b : β} : ∀ {l : List (Str × β)}, l.lookup z = some b → (z, b) ∈ l
  | [], h => by cases h
  | (k, v) :: r, h => by
    have h2 : (match z == k with | true => some v | false => r.lookup z) = some b := h
    cases q : (z == k) with
    | true =>
      rw [q] at h2
      rw [beq_iff_eq.mp q, Option.some.inj h2]
      exact List.mem_cons_self
    | false =>
      rw [q] at h2
      exact List.mem_cons_of_mem _ (lookup_in h2)
end Ah
end
section
set_option Elab.async false
set_option linter.all false
set_option maxRecDepth 100000
set_option maxHeartbeats 2000000
namespace Ah
open PySem PySem.Spec PyProof.Rows L2
open GxR (TabB TabG Tabbed)
open GxG EnT
/-! ### texts -/
def spCheck0 (K : PySem.W.Frag) (T : List Addr) : Sp := fun vs H Q _ => ∃ (a : Addr) (rs : List V), vs = [.ref a] ∧ H a = some (.tup rs) ∧ rs.length ≤ 24 ∧ (∀ r ∈ rs, RowV K H r true) ∧ (∀ P ∈ T, TabG H P) ∧ ∀ H', Kp T H H' → Q .non H'
theorem Kp.sqT {K : PySem.W.Frag} {T : List Addr} {H H' : Hp} {a : Addr} {xs : List V} (ht : ∀ P ∈ T, TabG H P) (k : Kp T H H') (h : SqT K H a xs) : SqT K H' a xs := by
  rcases h with (h | ⟨o, h⟩) | h
  · exact .inl (.inl (k.obj ht h))
  · exact .inl (.inr ⟨o, k.obj ht h⟩)
  · exact .inr h
theorem RowV.kp {K : PySem.W.Frag} {T : List Addr} {H H' : Hp} {v : V} {b : Bool} (ht : ∀ P ∈ T, TabG H P) (k : Kp T H H') (h : RowV K H v b) : RowV K H' v b := by
  rcases h with ⟨h, e⟩ | ⟨a, xs, e, h1, h2, h3, h4⟩
  · refine .inl ⟨?_, e⟩
    rcases h with h | h | h | ⟨a, xs, e, h⟩
    · exact .inl h
    · exact .inr (.inl h)
    · exact .inr (.inr (.inl h))
    · exact .inr (.inr (.inr ⟨a, xs, e, k.obj ht h⟩))
  · exact .inr ⟨a, xs, e, Kp.sqT ht k h1, h2, fun x hx => (h3 x hx).kp ht k, h4⟩
theorem scC : FnScope ["rows", "number", "row"] ["rows"] (defScope sCheck) := ⟨rfl, rfl, rfl, by decide +kernel, rfl, by decide +kernel, by decide +kernel⟩
theorem Kp.upd {T : List Addr} {H H1 : Hp} {p : Addr} {o : HO} (k : Kp T H H1) (n : H1 p = none) : Kp T H (upd H1 p o) := ⟨fun q hq => by
    obtain ⟨ps, e, h⟩ := k.tab q hq
    exact ⟨ps, by rw [upd_ne (ne_of_none e n)]; exact e, h⟩, fun b u e hb => by
    have q := k.keep b u e hb
    rw [upd_ne (ne_of_none q n)]
    exact q⟩
section
variable {P : Program} {w : World} {K : PySem.W.Frag} {mg : Str → Option Value} {base : Heap} {f fR : Addr} {fd fdR : FuncData} {T : List Addr}
theorem ok_check (F : FnP K "check_text" sCheck f fd) (W : TW K mg) (hm : ∃ t, mg "MOST_ROWS" = some (.int 24 t)) (gR : mg "is_row" = some (.ref fR)) (FR : FnOk P w K mg base CX0 5 fR fdR ["row"] (spRow K T))
    (kR : PySem.W.keepIn K (.ref fR) = true) (bR : Binds K fdR ["row"] []) : FnOk P w K mg base CX0 6 f fd ["rows"] (spCheck0 K T) := by
  refine F.ok scC (fun vs H Q E h => ?_) (fun cdv A outer s H vs Q E hr h => ?_)
  · obtain ⟨a, rs, rfl, _⟩ := h
    rfl
  · obtain ⟨a, rs, rfl, ha, hl, hrs, ht, k⟩ := h
    obtain ⟨mt, hm⟩ := hm
    have sa : SqT K H a rs := .inl (.of ha)
    refine ⟨_, PSs.nox (pss_cons (ps_if (pt_not (pt_val (pe_callB call_isi (by rfl) W.isi (by decide +kernel) (pa_cons (pv 0) (pa_cons (pe_bltn (v := .ty "tuple") (by rfl) W.tup (by decide +kernel) rfl) pa_nil))))) (pss_one ps_never) pss_nil)
      (pss_one (ps_for PassesOwn.never rfl (pi_enumT (by rfl) W.enu (pa_cons (pv 0) pa_nil)) (pg_tup rfl (pgs_cons (pg_name (i := 1) scC.nd rfl (.inl rfl)) (pgs_cons (pg_name (i := 2) scC.nd rfl (.inl rfl)) pgs_nil)))
        (pss_one (ps_if (PW.pt (pw_or (pt_cmpR op_eq (pv 1) (pe_glob (v := .int 24) (by rfl) hm ⟨_, rfl⟩) (nomark _)) (pw_or1 (pt_not (pt_val (pe_call FR hr (by rfl) gR kR bR .nil pass0 (pa_cons (pv 2) pa_nil))))))) (pss_one ps_never) pss_nil))))), ?_⟩
    refine ⟨_, rfl, _, _, _, _, true, rfl, ClsV.ty _, TyX.base (.tup ha), kit_ty (by decide +kernel), true, rfl, ?_⟩
    refine iteF ?_
    refine ⟨_, rfl, a, rs, rfl, sa, for_it (walk_enumT (K := K) (a := a) (xs := rs)) (fun i σ H' => (∃ v1 v2, σ = [some (.ref a), v1, v2]) ∧ Kp T H H') ⟨⟨_, _, rfl⟩, ht, fun _ _ e _ => e⟩ (fun i σ H' _ pv => .inl (.of (pv.2.obj ht ha))) ?_ ?_⟩
    · rintro i x σ Ha Hb hi ⟨⟨v1, v2, rfl⟩, kp⟩ ⟨Tp, x1, x2, rfl, nT, rfl, e1, e2⟩
      cases e1
      have kp1 : Kp T H (L2.upd Ha Tp (.tup [.int (i : Nat), x2])) := kp.upd nT
      refine ⟨Tp, _, rfl, .inl (.of upd_same), rfl, ?_⟩
      refine ⟨_, _, rfl, _, _, rfl, rfl, ?_⟩
      refine ⟨_, rfl, rfl, _, rfl, ?_⟩
      have hi24 : ¬ V.int ((i : Nat) : Int) = V.int 24 := fun e => by
        have := V.int.inj e
        omega
      rw [decide_eq_false hi24]
      refine iteF ⟨_, rfl, ?_⟩
      refine ⟨_, true, rfl, (hrs x2 (List.mem_of_getElem? e2)).kp ht kp1, kp1.tab, fun H2 k2 => ⟨_, rfl, iteF ⟨⟨_, _, rfl⟩, kp1.trans k2⟩⟩⟩
    · rintro σ H' ⟨_, kp⟩
      exact k H' kp
end
end Ah
end
section
set_option Elab.async false
set_option linter.all false
set_option maxRecDepth 100000
set_option maxHeartbeats 2000000
/-! an own exception whose __init__ begins with super().__init__('..'): the def by its further statements. -/
namespace Ah
open PySem PySem.Spec PyProof.Rows L2

theorem look_mem {κ : Type} {x : Str} {u : κ} : ∀ {l : List (Str × κ)}, (l.map (·.1)).Nodup → (x, u) ∈ l → l.lookup x = some u
  | [], _, h => nomatch h
  | (y, v) :: l, nd, h => by
    rw [List.map_cons, List.nodup_cons] at nd
    rcases List.mem_cons.mp h with e | e
    · cases e
      simp [List.lookup]
    · have hne : (x == y) = false := beq_eq_false_iff_ne.mpr fun z => nd.1 (List.mem_map.mpr ⟨_, e, z⟩)
      rw [List.lookup, hne]
      exact look_mem nd.2 e
theorem zip_fst {κ : Type} : ∀ {ps : List Str} {us : List κ}, ps.length = us.length → (ps.zip us).map (·.1) = ps
  | [], [], _ => rfl
  | p :: ps, u :: us, h => by rw [List.zip_cons_cons, List.map_cons, zip_fst (by simpa using h)]
  | [], _ :: _, h => by simp at h
  | _ :: _, [], h => by simp at h
theorem zip_look {ps : List Str} {us : List Value} {i : Nat} {y : Str} {u : Value} (nd : ps.Nodup) (hl : ps.length = us.length) (hp : ps[i]? = some y) (hu : us[i]? = some u) : (ps.zip us).reverse.lookup y = some u := by
  refine look_mem ?_ (List.mem_reverse.mpr ?_)
  · rw [List.map_reverse, zip_fst hl]
    exact (List.reverse_perm ps).nodup_iff.mpr nd
  · refine List.mem_of_getElem? (i := i) ?_
    rw [List.getElem?_zip_eq_some]
    exact ⟨hp, hu⟩

/-- the context of such a def's body, at its entry -/
def cxSup (CX : CXT) (P : Program) (w : World) (K : PySem.W.Frag) (mg : Str → Option Value) (base : Heap) (N : List Str) (qual : Str) (scope : Scope) (f : Addr) (cd : Value) (cc : Addr) (A : Around) (outer : List Env) (s : Shared) (H : Hp) (E : XK) : Cx where
  prog := P
  w := w
  K := K
  mg := mg
  base := base
  A := A.deeper (PySem.W.ksEnv qual scope s.heap.objs.size f cd cc)
  N := N
  s_0 := s
  H_0 := H
  env := PySem.W.ksEnv qual scope s.heap.objs.size f cd cc
  outer := outer
  stack := PySem.W.ksEnv qual scope s.heap.objs.size f cd cc :: outer
  ex := []
  calm := true
  fn := fun _ => false
  pn := []
  xe := fun e s' => wpAny (model P w) (A.deeper (PySem.W.ksEnv qual scope s.heap.objs.size f cd cc)) (leaving (PySem.W.ksEnv qual scope s.heap.objs.size f cd cc) e) (fun _ s'' => CX outer H s E e s'') (fun e' s'' => CX outer H s E e' s'') s'

/-- what the written part says of such a def -/
structure SupFn (P : Program) (K : PySem.W.Frag) (mg : Str → Option Value) (f C : Addr) (fd : FuncData) (N : List Str) (slf : Str) (rest : List Stmt) : Prop where
  ex : ∃ (oc : Value) (od : Option Addr) (name qual : Str) (params : Arguments) (scope : Scope) (dV kV doc pm ct : Value) (an : Option Addr) (cda cc : Addr) (osl : Array (Option Value)) (p0 p1 p2 p3 p4 p5 : Pos) (txt : Str) (kk : Nat) (ar : Arg)
    (ccl cl : Value) (cdd cld : Option Addr) (ccs csl : Array (Option Value)) (vs : Array Value) (file : Str) (tf : Tok) (pl : Addr → Sem Bool),
    fd = PySem.W.ksFn name qual params (.Expr (.Call (.Attribute (.Call (.Name "super" p0) [] [] p1) "__init__" p2) [.Constant (.str txt) kk p3] [] p4) p5 :: rest) scope dV kV doc pm an (.ref cda) ct cc ∧
    K.lookup f = some ⟨oc, od, .func fd, osl⟩ ∧ PySem.W.codeIn K (.ref cda) qual = true ∧ (params.posonlyargs ++ params.args).head? = some ar ∧ ar.arg = slf ∧
    K.lookup cda = some ⟨ccl, cdd, .fields vs, ccs⟩ ∧ vs[2]? = some (.str file tf) ∧ ((P.main.file : Str) == file) = true ∧
    K.lookup cc = some ⟨cl, cld, .cell (some (.ref C)), csl⟩ ∧
    scope.kind = .function ∧ scope.isCoroutine = false ∧ scope.isGenerator = false ∧ (∀ x ∈ scope.names, x.2 ≠ .cell) ∧ (∀ x ∈ N, scope.names.lookup x = some .local) ∧
    (∀ x, scope.names.lookup x = some .free → x = "__class__") ∧
    scope.names.lookup ("super" : Str) = some .globalImplicit ∧ scope.names.lookup ("__class__" : Str) = some .free ∧
    (∀ L : Addr, interactive (PySem.W.ksEnv qual scope L f (.ref cda) cc) = false) ∧
    (∀ L : Addr, swapsWith (.Call (.Attribute (.Call (.Name "super" p0) [] [] p1) "__init__" p2) [.Constant (.str txt) kk p3] [] p4) none p5.line (PySem.W.ksEnv qual scope L f (.ref cda) cc) = pure false) ∧
    (∀ L : Addr, eval (.Call (.Attribute (.Call (.Name "super" p0) [] [] p1) "__init__" p2) [.Constant (.str txt) kk p3] [] p4) (PySem.W.ksEnv qual scope L f (.ref cda) cc) = (do
      let ov ← attributeBase (.Call (.Name "super" p0) [] [] p1) "__init__" (PySem.W.ksEnv qual scope L f (.ref cda) cc) (eval (.Call (.Name "super" p0) [] [] p1) (PySem.W.ksEnv qual scope L f (.ref cda) cc))
      standAt p2.atName
      let (g, first) ← holding [ov] (getMethod ov "__init__" (pl L))
      callWith p4 g first (backTo p4 (starEach [.Constant (.str txt) kk p3] (PySem.W.ksEnv qual scope L f (.ref cda) cc))) [])) ∧
    (∀ L : Addr, starEach [.Constant (.str txt) kk p3] (PySem.W.ksEnv qual scope L f (.ref cda) cc) = (false, eval (.Constant (.str txt) kk p3) (PySem.W.ksEnv qual scope L f (.ref cda) cc)) :: starEach [] (PySem.W.ksEnv qual scope L f (.ref cda) cc)) ∧
    (∀ L : Addr, (backTo p4 (starEach [] (PySem.W.ksEnv qual scope L f (.ref cda) cc))).any (·.1) = false)
  nd : N.Nodup
  hd : N[0]? = some slf
  sup : mg "super" = none
  top : (P.main.scope.names.lookup ("super" : Str)).isSome = false
  opq : PySem.W.nsIn K cStatics "thirdparty.any" = some none
  meth : PySem.W.ks_superIn K C C "__init__" = some (some (.builtin "ValueError.__init__"))
  val : PySem.W.subIn K (.ref C) (.type "ValueError") = some true
  own : PySem.W.mroIn K C (.ref C) = some true

section
variable {CX : CXT} {P : Program} {w : World} {K : PySem.W.Frag} {mg : Str → Option Value} {base : Heap} {f C : Addr} {N : List Str} {E : XK} {A : Around} {outer : List Env} {s : Shared} {H : Hp} {us : List Value} {vs : List V}
theorem inv_sup {qual : Str} {scope : Scope} {cd : Value} {cc : Addr} {h1 : Heap} {tk : Nat} {o : Obj} {v0 : Option Value} (hd : A.handled = none) (e0 : Env0 P w K mg base A outer s H) (nd : N.Nodup) (hl : vs.length = N.length) (r : Vals vs us)
    (hkind : scope.kind = .function) (hloc : ∀ x ∈ N, scope.names.lookup x = some .local) (hcell : ∀ x ∈ scope.names, x.2 ≠ .cell) (hfree : ∀ x, scope.names.lookup x = some .free → x = "__class__")
    (hcc : K.lookup cc = some o) (ho : o.data = .cell v0)
    (hns : h1.Ns s.heap.objs.size (fun x => (N.zip us).reverse.lookup x)) (hk : ∀ b o, s.heap.get? b = some o → h1.get? b = some o) :
    Inv (cxSup CX P w K mg base N qual scope f cd cc A outer s H E) [] (L2.start N vs) H { s with heap := h1, toks := tk } := by
  have KB : ∀ b o, K.lookup b = some o → base.get? b = some o := fun b o q => e0.mod.kin _ _ q
  have lkc : ∀ {x : Str} {c : Addr}, (cxSup CX P w K mg base N qual scope f cd cc A outer s H E).env.cells.lookup x = some c → x = "__class__" ∧ c = cc := fun {x c} h => by
    have h : List.lookup x [(("__class__" : Str), cc)] = some c := h
    by_cases hx : x = "__class__"
    · subst hx
      simp [List.lookup] at h
      exact ⟨rfl, h.symm⟩
    · rw [List.lookup, beq_eq_false_iff_ne.mpr hx] at h
      cases h
  have noA : ∀ b : Addr, b ∉ (cxSup CX P w K mg base N qual scope f cd cc A outer s H E).ex := fun b z => absurd (show b ∈ ([] : List Addr) from z) (by simp)
  have hlu : N.length = us.length := by rw [← hl]; exact r.length
  have bcc := e0.bs _ _ (KB _ _ hcc)
  refine ⟨⟨e0.mod, hkind, rfl, rfl, Nat.le_refl _, fun y z c h1 h2 => (lkc h1).1.trans (lkc h2).1.symm, fun y hy => ?_, fun y c z _ => ?_, fun _ => hd, Around.frames_deeper e0.frames, .inr ⟨rfl, rfl⟩, fun b z => absurd z (noA b), e0.bs, e0.bsz, fun b _ _ => noA b, fun b z => absurd z (noA b), e0.funs, e0.frf⟩,
    rfl, e0.bare, Un.kept hk, ⟨_, hns, fun i y v h1 h2 h3 => ?_⟩, fun y c h => ⟨v0, o, ?_, ho⟩, e0.hok.fresh (Nat.le_refl _), fun y c h => ?_, fun p hp => absurd (show p ∈ ([] : List (Addr × Obj)) from hp) (by simp), e0.hok.kept hk, ?_⟩
  · have hy : scope.names.lookup y = some .cell ∨ scope.names.lookup y = some .free := hy
    rcases hy with hy | hy
    · exact absurd rfl (hcell _ (PySem.mem_of_lookup hy))
    · refine ⟨cc, ?_⟩
      rw [hfree y hy]
      show List.lookup ("__class__" : Str) [(("__class__" : Str), cc)] = some cc
      simp [List.lookup]
  · cases (show false = true from z)
  · have hi : i < vs.length := by
      unfold L2.start at h2
      by_cases hi : i < vs.length
      · exact hi
      · rw [List.getElem?_append_right (by simpa using hi)] at h2
        rw [List.getElem?_replicate] at h2
        split at h2 <;> cases h2
    have ha : vs[i]? = some v := by
      unfold L2.start at h2
      rw [List.getElem?_append_left (by simpa using hi), List.getElem?_map] at h2
      cases e : vs[i]? with
      | none => rw [e] at h2; cases h2
      | some a => rw [e] at h2; cases h2; rfl
    obtain ⟨u, hu, rv⟩ := r.get ha
    exact ⟨u, rv, .inl ⟨hloc y (List.mem_of_getElem? h1), zip_look nd hlu h1 hu⟩⟩
  · rw [(lkc h).2]
    exact hk _ _ bcc.1
  · rw [(lkc h).2]
    exact bcc.2
  · unfold L2.start
    show _ = N.length
    rw [List.length_append, List.length_map, List.length_replicate]
    omega

/-- THE RULE -/
theorem sup_fn {k : Nat} {fd : FuncData} {slf : Str} {rest : List Stmt} {sp : Sp} (S : SupFn P K mg f C fd N slf rest) (T : OexC K C)
    (len : ∀ vs H Q E, sp vs H Q E → vs.length = N.length)
    (hbody : ∀ (qual : Str) (scope : Scope) (cd : Value) (cc : Addr) (A : Around) (outer : List Env) (s : Shared) (H : Hp) (vs : List V) (Q : VK) (E : XK), (∀ x ∈ N, scope.names.lookup x = some .local) → sp vs H Q E →
      (∃ a vr, vs = .ref a :: vr ∧ H a = some (exo a C none)) ∧ ∃ t, PSs (cxSup CX P w K mg base N qual scope f cd cc A outer s H E) rest t ∧ t { nx := fun _ H' => Q .non H', rt := Q } (L2.start N vs) H) :
    FnOk P w K mg base CX (k + 1) f fd N sp := by
  refine ⟨len, fun A outer s H args us vs Q E hr e0 hb r hsp => ?_⟩
  obtain ⟨oc, od, name, qual, params, scope, dV, kV, doc, pm, ct, an, cda, cc, osl, p0, p1, p2, p3, p4, p5, txt, kk, ar, ccl, cl, cdd, cld, ccs, csl, xs, file, tf, pl, rfl, lk, hcd, hhd, har, hcda, hxs, hfile, hcc, hkind, hco, hgen, hcell, hloc, hfree, hsup, hcls, hin, hsw, hev, hst, hpl⟩ := S.ex
  have hl := len _ _ _ _ hsp
  have hlu : N.length = us.length := by rw [← hl]; exact r.length
  have KX : K.In s.heap := e0.mod.kin.keeps fun b o e => (e0.bs b o e).1
  have lim : s.heap.NoLimit := e0.mod.nolimit.keeps fun b o e => (e0.bs b o e).1
  refine PySem.ks_codeAny_call_defAt hr.depth (KX _ _ lk) rfl lim (PySem.W.codeRec_of KX hcd) rfl hb hcell (fun x hx => hloc _ (List.of_mem_zip (show (x.1, x.2) ∈ N.zip us from hx)).1) (fun h1 hns hk => ?_) hco hgen hkind
  have I : Inv (cxSup CX P w K mg base N qual scope f (.ref cda) cc A outer s H E) [] (L2.start N vs) H { s with heap := h1, toks := s.toks + (N.zip us).length } :=
    inv_sup hr.hd e0 S.nd hl r hkind hloc hcell hfree hcc rfl hns hk
  obtain ⟨⟨a, vr, rfl, ea⟩, t, ht, hq⟩ := hbody qual scope (.ref cda) cc A outer s H vs Q E hloc hsp
  obtain ⟨t1, hat⟩ := exo_at I.hok ea
  have hat : h1.get? a = some ({ cls := .ref C, dict := none, data := .fields #[.ref t1, .none, .none, .none, .bool false, .none] } : Obj) := hat
  obtain ⟨nm, q, Nm, bs, bm, sn, sub, ab, col, dd, k0, k1, k2, k3, k5, hC, hbm⟩ := T.cls
  have K1 : K.In h1 := KX.keeps hk
  have hcl : PySem.W.clsIn K C = some { name := nm, bases := bs, mro := .ref C :: bm, ns := Nm, qualname := q, hasDict := true, slotNames := sn, subclasses := sub, abstract := ab, collection := col, hasDel := false } := by unfold PySem.W.clsIn; rw [hC] <;> rfl
  have us0 : ∃ ur, us = .ref a :: ur := by
    cases r with
    | @cons _ u0 _ ur ra rw' =>
      obtain rfl : u0 = Value.ref a := ra
      exact ⟨ur, rfl⟩
  have hself : (N.zip us).reverse.lookup ar.arg = some (.ref a) := by
    obtain ⟨ur, e⟩ := us0
    rw [har]
    exact zip_look S.nd hlu S.hd (by rw [e]; rfl)
  have hlself : scope.names.lookup ar.arg = some .local := by rw [har]; exact hloc _ (List.mem_of_getElem? S.hd)
  show _root_.PySem.wpAt (model P w) (A.deeper (PySem.W.ksEnv qual scope s.heap.objs.size f (.ref cda) cc)) (.func _ (PySem.W.ksEnv qual scope s.heap.objs.size f (.ref cda) cc)) (execs _ (PySem.W.ksEnv qual scope s.heap.objs.size f (.ref cda) cc)) _ _ _
  refine PySem.ks_wpAt_execs_cons (PySem.ks_wpAt_Expr_any (PySem.ks_wpAt_MethodCall (PySem.ks_wpAt_super_base (env := PySem.W.ksEnv qual scope s.heap.objs.size f (.ref cda) cc) hsup hcls (by decide) rfl (K1 _ _ lk) rfl hhd rfl (K1 _ _ hcda) rfl hxs hfile S.top ?_) (hev _)) (hin _) (hsw _))
  obtain ⟨mb, hm1, hm2⟩ := I.mod.blt
  refine PySem.W.ks_loadName_global hkind hsup (Calls.loadGlobal_builtin (env := PySem.W.ksEnv qual scope s.heap.objs.size f (.ref cda) cc) (I.mod.glob.keeps I.bk) S.sup (hm1.keeps I.bk) ((hm2 "super" (by decide)).trans PyProof.Rows.Boot.«super») ⟨rfl, ?_⟩)
  refine wpAny_loadName_free hkind hcls rfl ⟨_, K1 _ _ hcc, rfl⟩ ?_
  refine wpAny_loadName_local hkind hlself hns hself ?_
  refine PySem.ks_wpAny_isType_cls (K1 _ _ hC) rfl ⟨rfl, ?_⟩
  refine PySem.ks_wpAny_call_super (K1 _ _ hC) rfl hat rfl (fun c e => by cases e) (PySem.W.looks_mroIn K1 S.own) (fun h2 e2 k2 => ?_)
  have K2 : K.In h2 := K1.keeps k2
  have hat2 := k2 _ _ hat
  have I2 : PySem.W.InstAt h2 a { cls := .ref C, dict := none, data := .fields #[.ref t1, .none, .none, .none, .bool false, .none] } C none := ⟨hat2, rfl, rfl, trivial⟩
  have hal := S.meth
  unfold PySem.W.ks_superIn at hal
  rw [hcl] at hal
  refine PySem.W.kxs_getMethod PySem.W.kxs_ValueError e2 (PySem.W.looks_opaque K2 S.opq) (l₀ := .ref C :: bm) (fun A Q E s k q => wpAny_bind ((PySem.W.looks_clsIn K2 hcl) A _ E s k (wpAny_pure q))) rfl K2 hal (I2.type.andThen (PySem.W.looks_subIn K2 S.val)) (PySem.W.ks_ne K2 I2 hcl) (by decide) ?_
  have k3 : ∀ b o, h1.get? b = some o → (h2.push (PySem.W.kxs_mw "ValueError.__init__" a)).get? b = some o := fun b o q => Heap.get?_push_of_some _ (k2 b o q)
  have e3 : (h2.push (PySem.W.kxs_mw "ValueError.__init__" a)).get? h2.objs.size = some (PySem.W.kxs_mw "ValueError.__init__" a) := Heap.get?_push_at rfl rfl
  generalize h2.push (PySem.W.kxs_mw "ValueError.__init__" a) = h3 at k3 e3 ⊢
  generalize h2.objs.size = u at e3 ⊢
  have I3 : Inv (cxSup CX P w K mg base N qual scope f (.ref cda) cc A outer s H E) [] (L2.start N (.ref a :: vr)) H { s with heap := h3, toks := s.toks + (N.zip us).length + 1 } := I.kept k3
  dsimp only
  rw [hst]
  refine PySem.W.kxs_callWith (i := "ValueError.__init__") (x := a) (by show (false || (backTo p4 (starEach [] (PySem.W.ksEnv qual scope s.heap.objs.size f (.ref cda) cc))).any (·.1)) = false; rw [hpl]; rfl) (Calls.evalArgs_plain ?_)
  refine Calls.spliced_cons (Calls.Constant_str (k := kk) (pos := p3) (Calls.spliced_nil ⟨e3, ?_⟩))
  refine wpAny_call (codeAny_of_tree ?_)
  show wpAny _ (A.deeper (PySem.W.ksEnv qual scope s.heap.objs.size f (.ref cda) cc)).in1 (callAny (.ref u) ⟨[.str txt _], []⟩) _ _ _
  simp only [callAny]
  refine wpAny_bind (wpAny_load e3 ?_)
  simp only [PySem.W.kxs_mw, show (Value.type "method-wrapper" == Value.type "method" || Value.type "method-wrapper" == Value.type "builtin_function_or_method" || Value.type "method-wrapper" == Value.type "method-wrapper") = true by decide, if_true]
  refine PySem.W.KFB.if_so (by decide) ?_
  refine wpAny_bind (PySem.W.check_bound_init F.excBase_ValueError.toExcCallFacts (K1.keeps k3 _ _ hC) (k3 _ _ hat) rfl ?_)
  refine wpAny_bind (wpAny_pure (wpAny_pure ?_))
  refine ⟨plainId_quiet F.excBase_ValueError.init.plain _, codeAny_builtin F.excBase_ValueError.initEntry ?_⟩
  refine PySem.W.exc_init_tree (cls := .ref C) (t0 := t1) (dv := none) (c2 := .none) (c3 := .none) (b4 := .bool false) (k3 _ _ hat) (by rw [sizeLine_eq]; show 1 ≤ 16777216; decide) fun h5 k5 e5 _ => ?_
  have I5 : Inv (cxSup CX P w K mg base N qual scope f (.ref cda) cc A outer s H E) [] (L2.start N (.ref a :: vr)) (upd H a (exo a C none)) { s with heap := h5, toks := s.toks + (N.zip us).length + 1 + 1 } :=
    (I3.tok (s.toks + (N.zip us).length + 1 + 1)).write (x := a) (e := a) (o := exo a C none) (by rw [ea]; exact True.intro) (.inl rfl) k5 ⟨_, e5⟩ (exo_ok e5)
  have eu : upd H a (exo a C none) = H := by
    funext b
    by_cases hb : b = a
    · rw [hb, upd_same, ea]
    · rw [upd_ne hb]
  rw [eu] at I5
  refine wpAt_of_wpAny (wpAny_mono (ht.run [] _ (L2.start N (.ref a :: vr)) H _ I5 hq) (fun fl s' hs => ?_) fun e s' hs => hs)
  have fin : ∀ {σ' : L2.St} {H' : Hp} {v : V} {u : Value}, Inv (cxSup CX P w K mg base N qual scope f (.ref cda) cc A outer s H E) [] σ' H' s' → RelV v u → Q v H' → CE outer P w H s Q u s' :=
    fun {σ' H' v u} J rv q => ⟨v, H', J.os, J.bare, J.base, J.hok, rv, q⟩
  cases fl with
  | ret u =>
    obtain ⟨v, σ', H', J, rv, q⟩ := hs
    exact fin J rv q
  | next =>
    obtain ⟨σ', H', J, q⟩ := hs
    exact fin (v := V.non) (u := Value.none) J rfl q
  | brk =>
    obtain ⟨_, _, _, q⟩ := hs
    exact False.elim q
  | cont =>
    obtain ⟨_, _, _, q⟩ := hs
    exact False.elim q
end
end Ah
end
section
set_option Elab.async false
set_option linter.all false
set_option maxRecDepth 100000
set_option maxHeartbeats 2000000
/-! own exceptions with one field: made, raised, caught, read; isinstance of them. -/
namespace Ah
open PySem PySem.Spec PyProof.Rows L2
def spErr1 (C : Addr) (fld : Str) : Sp := fun vs H Q _ => ∃ a y, vs = [.ref a, y] ∧ H a = some (exo a C none) ∧ ∀ dx, H dx = none → dx ≠ a → Q .non (upd (upd H dx (exd dx [(fld, y)])) a (exo a C (some dx)))
section
variable {CX : CXT} {P : Program} {w : World} {K : PySem.W.Frag} {mg : Str → Option Value} {base : Heap} {f C : Addr}
theorem sup_one {fd : FuncData} {slf arg fld : Str} {p6 p7 p8 p9 : Pos} (S : SupFn P K mg f C fd [slf, arg] slf [.Assign [.Attribute (.Name slf p6) fld p7] (.Name arg p8) p9]) (T : OexC K C) (hno : PySem.W.findIn K (.ref C) fld = some none)
    (hd1 : (slf == ("__debug__" : Str)) = false) (hd2 : (slf == ("__classdict__" : Str)) = false) (hd3 : (arg == ("__debug__" : Str)) = false) (hd4 : (arg == ("__classdict__" : Str)) = false) :
    FnOk P w K mg base CX 1 f fd [slf, arg] (spErr1 C fld) := by
  refine sup_fn S T (fun vs H Q E h => by obtain ⟨a, y, rfl, _⟩ := h; rfl) (fun qual scope cd cc A outer s H vs Q E hv h => ?_)
  obtain ⟨a, y, rfl, ea, q⟩ := h
  refine ⟨⟨a, _, rfl, ea⟩, _, pss_one (ps_ost (pe_var (i := 0) rfl (.inl (hv _ (by simp))) hd1 hd2) (pe_var (i := 1) rfl (.inl (hv _ (by simp))) hd3 hd4) (by rfl)), ?_⟩
  exact ⟨y, rfl, .ref a, rfl, a, C, rfl, T, hno, .inl ⟨ea, fun dx hn hne => q dx hn hne⟩⟩
end
/-- what the written part says of a class of one field -/
structure One (K : PySem.W.Frag) (C fI : Addr) (fld : Str) : Prop where
  T : OexC K C
  xf : XfC K C
  iC : PySem.W.findIn K (.ref C) "__init__" = some (some (.ref fI))
  tI : PySem.W.typeIn K (.ref fI) = some (.type "function")
  hno : PySem.W.findIn K (.ref C) fld = some none
theorem one_q {H1 : Hp} {C : Addr} {fld : Str} {y : V} {Q : XK} (h : ∀ d, H1 d = none → Q (.ref C) (some d) (upd H1 d (.xd [(fld, y)]))) :
    [y].length ≤ 1000 ∧ ∀ a, H1 a = none → spErr1 C fld (.ref a :: ([y] ++ [])) (upd H1 a (exo a C none))
      (fun v H2 => v = .non ∧ ∃ (d : Addr) (fs : List (Str × V)), H2 a = some (exo a C (some d)) ∧ H2 d = some (exd d fs) ∧ H1 d = none ∧ Q (.ref C) (some d) (upd (del H2 a) d (.xd fs))) (fun _ _ _ => False) := by
  refine ⟨by simp, fun a na => ⟨a, y, rfl, upd_same, fun dx hn hne => ⟨rfl, dx, [(fld, y)], upd_same, ?_, ?_, ?_⟩⟩⟩
  · rw [upd_ne hne, upd_same]
  · rw [upd_ne hne] at hn
    exact hn
  · have e : upd (del (upd (upd (upd H1 a (exo a C none)) dx (exd dx [(fld, y)])) a (exo a C (some dx))) a) dx (.xd [(fld, y)]) = upd H1 dx (.xd [(fld, y)]) := by
      funext b
      by_cases hb : b = dx
      · rw [hb, upd_same, upd_same]
      · rw [upd_ne hb, upd_ne hb]
        by_cases ha : b = a
        · rw [ha, del_same, na]
        · rw [del_ne ha, upd_ne ha, upd_ne hb, upd_ne ha]
    rw [e]
    rw [upd_ne hne] at hn
    exact h dx hn
section
variable {X : Cx} {C fI : Addr} {fld : Str} {W : WX} {e : Expr} {te : TE} {x : Str} {p pos pos' : Pos} {fd : FuncData} {ps : List Str}
/-- raise X(e): behind [e]: one_q -/
theorem ps_raise1 (hc : X.calm = true) (tk : Takes X W) (R : One X.K C fI fld) (F1 : FnOk X.prog X.w X.K X.mg X.base (L2.CX X.prog X.w) 1 fI fd ps (spErr1 C fld)) (hr : Room 2 X.A) (hb : Binds X.K fd ps []) (hg : Gl X x) (hm : X.mg x = some (.ref C)) (he : PE X e te)
    (hdb : (x == ("__debug__" : Str)) = false := by decide) (hst : starEach [e] X.env = (false, eval e X.env) :: starEach [] X.env := by rfl) (hpl : (backTo pos (starEach [] X.env)).any (·.1) = false := by rfl) :
    PS X (.Raise (some (.Call (.Name x p) [e] [] pos)) none pos') (fun _ σ H => tMkO C (spErr1 C fld) [] (tCons te tNil) σ H fun cls d H' => W cls d σ H') :=
  ps_raise hc tk (pmk_oex (p := p) (pos := pos) R.T R.iC R.tI F1 hr hb .nil passL hg hm (pa_cons he pa_nil hst) hdb hst hpl)
end

/-! ### isinstance(e, c), e the exception that the suite holds, with a dict or none -/
def rIsD (K : PySem.W.Frag) (D a : Addr) (d : Option Addr) : List V → Hp → VK → Prop := fun xs H Q => ∃ (c : V) (cv : Value) (b : Bool), xs = [.ref a, c] ∧ (∀ u, RelV c u → u = cv) ∧ PySem.W.kitOne K (.ref D) cv = some b ∧ (∀ dd, d = some dd → ∃ fs, H dd = some (.xd fs)) ∧ Q (.bl b) H
theorem call_isD {X : Cx} {a D : Addr} {oe : Obj} {d : Option Addr} {pn : List (Addr × Obj)} (C : ExcC X.K D) (hz : Zc (.ref D) d oe) (hf : ∃ vs, oe.data = .fields vs) : CallR (X.suite a ((a, oe) :: pn)) (.builtin "isinstance") (rIsD X.K D a d) := by
  intro pins s σ H xs us Q I r h
  obtain ⟨c, cv, b, rfl, hcv, e, hdd, q⟩ := h
  cases r with
  | cons rx rr =>
    cases rr with
    | cons rt rr =>
      cases rr
      cases rx
      have ec := hcv _ rt
      subst ec
      obtain ⟨hget, _⟩ := I.pin (a, oe) (List.mem_append.mpr (.inl List.mem_cons_self))
      obtain ⟨vs, hv⟩ := hf
      obtain ⟨cd, hcl, _⟩ := PySem.W.any_some C.hd
      have J : ∃ od, PySem.W.InstAt s.heap a oe D od := by
        obtain ⟨oc, od, oda, osl⟩ := oe
        obtain ⟨h1, h2⟩ := hz
        dsimp only at h1 h2 hv
        subst h1 h2 hv
        cases od with
        | none => exact ⟨none, hget, rfl, rfl, trivial⟩
        | some dd =>
          obtain ⟨fs, hfs⟩ := hdd dd rfl
          have hx : ObjOk X.prog X.w H s.heap dd (.xd fs) := I.hok dd _ hfs
          obtain ⟨mA, hns, _⟩ := hx
          obtain ⟨o, ho, _⟩ := lookIn_ns hns
          exact ⟨some o, hget, rfl, rfl, ho⟩
      obtain ⟨od, J⟩ := J
      exact PySem.W.kia_one (PySem.W.kitx_exc (by rw [hcl]; rfl) C.hg C.hk C.hs C.ha C.hn C.ht C.hm) I.kIn J e (fun z => nomatch z) fun tk => ⟨.bl b, H, I.kept (t' := tk) fun _ _ z => z, rfl, q⟩
end Ah
end
section
set_option Elab.async false
set_option linter.all false
set_option maxRecDepth 100000
set_option maxHeartbeats 2000000
namespace Ah
open PySem PySem.Spec PyProof.Rows L2
open GxR (TabB TabG Tabbed)
open GxG
/-! ### numbers of rows -/
/-- whether it is a number from 0 to below m -/
def isNumL (m : Int) : V → Bool
  | .int i => decide (0 ≤ i) && decide (i < m)
  | _ => false
def NumV (v : V) : Prop := (∃ i, v = .int i) ∨ v = .non ∨ (∃ b, v = .bl b) ∨ ∃ z, v = .str z
def spNum : Sp := fun vs H Q _ => ∃ (v : V) (m : Int), vs = [v, .int m] ∧ NumV v ∧ Q (.bl (isNumL m v)) H
theorem scNum : FnScope ["number", "many"] ["number", "many"] (defScope sIsNumber) := ⟨rfl, rfl, rfl, by decide +kernel, rfl, by decide +kernel, by decide +kernel⟩
section
variable {P : Program} {w : World} {K : PySem.W.Frag} {mg : Str → Option Value} {base : Heap} {f fN C : Addr} {fd fdN : FuncData}
theorem ok_isnum (F : FnP K "is_number" sIsNumber f fd) (hi : mg "isinstance" = none) (hI : mg "int" = none) (hB : mg "bool" = none) : FnOk P w K mg base CX0 1 f fd ["number", "many"] spNum := by
  refine F.ok scNum (fun vs H Q E h => ?_) (fun cdv A outer s H vs Q E hr h => ?_)
  · obtain ⟨v, m, rfl, _⟩ := h
    rfl
  · obtain ⟨v, m, rfl, hv, k⟩ := h
    refine ⟨_, PSs.nox (pss_one (ps_ret (pe_and (pe_callB call_isi (by rfl) hi (by decide +kernel) (pa_cons (pv 0) (pa_cons (pe_bltn (v := .ty "int") (by rfl) hI (by decide +kernel) rfl) pa_nil)))
      (pe_and (pe_not (pe_callB call_isi (by rfl) hi (by decide +kernel) (pa_cons (pv 0) (pa_cons (pe_bltn (v := .ty "bool") (by rfl) hB (by decide +kernel) rfl) pa_nil))))
        (pe_one (pe_chain op_le op_lt pe_int (pv 0) (pv 1))))))), ?_⟩
    rcases hv with ⟨i, rfl⟩ | rfl | ⟨b, rfl⟩ | ⟨z, rfl⟩
    · refine ⟨_, rfl, _, _, _, _, true, rfl, ClsV.ty _, TyX.base (.int i), kit_ty (by decide +kernel), true, rfl, ?_⟩
      refine iteT ⟨_, rfl, _, _, _, _, false, rfl, ClsV.ty _, TyX.base (.int i), kit_ty (by decide +kernel), false, rfl, ?_⟩
      refine ⟨true, rfl, iteT ⟨_, rfl, 0, i, rfl, rfl, decide (0 ≤ i), rfl, ?_⟩⟩
      have k2 : Q (.bl (decide (0 ≤ i) && decide (i < m))) H := k
      cases h0 : decide (0 ≤ i) with
      | false =>
        rw [h0] at k2
        exact iteF k2
      | true =>
        rw [h0] at k2
        exact iteT ⟨_, rfl, i, m, rfl, rfl, k2⟩
    · exact ⟨_, rfl, _, _, _, _, false, rfl, ClsV.ty _, TyX.base .non, kit_ty (by decide +kernel), false, rfl, iteF k⟩
    · refine ⟨_, rfl, _, _, _, _, true, rfl, ClsV.ty _, TyX.base (.bl b), kit_ty (by decide +kernel), true, rfl, ?_⟩
      refine iteT ⟨_, rfl, _, _, _, _, true, rfl, ClsV.ty _, TyX.base (.bl b), kit_ty (by decide +kernel), true, rfl, ?_⟩
      exact ⟨false, rfl, iteF k⟩
    · exact ⟨_, rfl, _, _, _, _, false, rfl, ClsV.ty _, TyX.base (.str z), kit_ty (by decide +kernel), false, rfl, iteF k⟩
/-- check_number -/
def spChNum (C : Addr) : Sp := fun vs H Q E => ∃ (v : V) (m : Int), vs = [v, .int m] ∧ NumV v ∧ (isNumL m v = true → Q .non H) ∧ (isNumL m v = false → E (.ref C) none H)
theorem scChN : FnScope ["number", "many"] ["number", "many"] (defScope sCheckNumber) := ⟨rfl, rfl, rfl, by decide +kernel, rfl, by decide +kernel, by decide +kernel⟩
theorem ok_chnum (F : FnP K "check_number" sCheckNumber f fd) (gN : mg "is_number" = some (.ref fN)) (FN : FnOk P w K mg base CX0 1 fN fdN ["number", "many"] spNum) (kN : PySem.W.keepIn K (.ref fN) = true) (bN : Binds K fdN ["number", "many"] [])
    (gC : mg "NoRow" = some (.ref C)) (xC : PySem.W.excIn K C He.veBase "ValueError.__new__" = true) (kC : PySem.W.keepIn K (.ref C) = true) (bC : PySem.W.subIn K (.ref C) (.type "BaseException") = some true) (tC' : PySem.W.typeIn K (.ref C) = some (.type "type")) :
    FnOk P w K mg base (L2.CX P w) 2 f fd ["number", "many"] (spChNum C) := by
  refine F.ok scChN (fun vs H Q E h => ?_) (fun cdv A outer s H vs Q E hr h => ?_)
  · obtain ⟨v, m, rfl, _⟩ := h
    rfl
  · obtain ⟨v, m, rfl, hv, k1, k2⟩ := h
    refine ⟨_, pss_one (ps_if (pt_not (pt_val (pe_call FN (hr.mono (by decide)) (by rfl) gN kN bN .nil pass0 (pa_cons (pv 0) (pa_cons (pv 1) pa_nil)))))
      (pss_one (ps_raise rfl (takes_of rfl rfl rfl rfl) (pmk_own PySem.F.excBase_ValueError xC gC kC (raises_own bC tC') rfl))) pss_nil), ?_⟩
    refine ⟨_, rfl, _, rfl, v, m, rfl, hv, _, rfl, ?_⟩
    cases hb : isNumL m v with
    | true => exact iteF (k1 hb)
    | false => exact iteT (k2 hb)
end
end Ah
end
section
set_option Elab.async false
set_option linter.all false
set_option maxRecDepth 100000
set_option maxHeartbeats 2000000
namespace Ah
open PySem PySem.Spec PyProof.Rows L2
/-! ### the law's draws -/
theorem scLR : FnScope ["_law_script", "_law_mixed", "_law_cell"] ["_law_script"] (defScope lRow) := ⟨rfl, rfl, rfl, by decide +kernel, rfl, by decide +kernel, by decide +kernel⟩
theorem scLT : FnScope ["_law_row_here", "_law_many", "_law_found", "_law_cell"] ["_law_row_here", "_law_many"] (defScope lTaken) := ⟨rfl, rfl, rfl, by decide +kernel, rfl, by decide +kernel, by decide +kernel⟩
def spLRow (K : PySem.W.Frag) : Sp := fun vs H Q _ => ∃ (a : Addr) (ns : List Int), vs = [.ref a] ∧ SqL K H a (ns.map V.int) ∧ ns.length ≤ 63 ∧ ∀ (p : Addr) (m : Int), H p = none → Q (.ref p) (upd H p (.lst [.ref a, .int 0, .int 0, .int m]))
/-- the draws' state: the script, the place, what is left, the mixed number -/
def StAt (K : PySem.W.Frag) (H : Hp) (p a : Addr) (ns : List Int) : Prop := ∃ i r m : Int, H p = some (.lst [.ref a, .int i, .int r, .int m]) ∧ 0 ≤ i ∧ 0 ≤ r ∧ SqL K H a (ns.map V.int)
/-- all that was held is held, but at M -/
def Kept (M : List Addr) (H H' : Hp) : Prop := ∀ b o, H b = some o → b ∉ M → H' b = some o
def spTaken (K : PySem.W.Frag) : Sp := fun vs H Q _ => ∃ (p a : Addr) (ns : List Int) (many : Int), vs = [.ref p, .int many] ∧ StAt K H p a ns ∧ 0 < many ∧ many < 1000000 ∧
  ∀ (n : Int) (H' : Hp), 0 ≤ n → n < many → StAt K H' p a ns → Kept [p] H H' → Q (.int n) H'
theorem seqL_upd {K : PySem.W.Frag} {H : Hp} {a p : Addr} {o : HO} {xs ys : List V} (hp : H p = some (.lst ys)) (h : SqL K H a xs) (n : ys ≠ xs) : SqL K (upd H p o) a xs := by
  rcases h with (h | ⟨ob, h⟩) | h
  · exact .inl (.inl (by rw [upd_ne (fun e => n (by rw [e, hp] at h; cases h; rfl))]; exact h))
  · exact .inl (.inr ⟨ob, by rw [upd_ne (fun e => by rw [e, hp] at h; cases h)]; exact h⟩)
  · exact .inr h
section
variable {P : Program} {w : World} {K : PySem.W.Frag} {mg : Str → Option Value} {base : Heap} {f : Addr} {fd : FuncData}
theorem ok_lrow (F : FnP K "_law_row" lRow f fd) : FnOk P w K mg base CX0 1 f fd ["_law_script"] (spLRow K) := by
  refine F.ok scLR (fun vs H Q E h => ?_) (fun cdv A outer s H vs Q E hr h => ?_)
  · obtain ⟨a, ns, rfl, _⟩ := h
    rfl
  · obtain ⟨a, ns, rfl, hs, hl, k⟩ := h
    refine ⟨_, PSs.nox (pss_cons (ps_set (i := 1) scLR.nd rfl (.inl rfl) pe_int) (pss_cons (ps_for PassesOwn.never rfl (pi_list (pv 0)) (pg_name (i := 2) scLR.nd rfl (.inl rfl))
        (pss_one (ps_set (i := 1) scLR.nd rfl (.inl rfl) (pe_op op_mod (pe_op op_add (pe_op op_add (pe_op op_mul (pv 1) pe_int) (pv 2)) pe_int) pe_int))))
      (pss_one (ps_ret (pe_lst (pa_cons (pv 0) (pa_cons pe_int (pa_cons pe_int (pa_cons (pv 1) pa_nil))))))))), ?_⟩
    refine ⟨_, rfl, a, rfl, ⟨_, hs⟩, for_list (K := K) (a := a) (xs := ns.map V.int) (fun i σ H' => (∃ (m : Int) (v : Option V), σ = [some (.ref a), some (.int m), v]) ∧ H' = H) ⟨⟨7, none, rfl⟩, rfl⟩ (fun i σ H' _ pv => by rw [pv.2]; exact hs) ?_ ?_⟩
    · rintro i x σ Ha hi ⟨⟨m, v, rfl⟩, rfl⟩
      obtain ⟨c, rfl⟩ : ∃ c, x = V.int c := by
        obtain ⟨c, _, e⟩ := List.mem_map.mp (List.mem_of_getElem? hi)
        exact ⟨c, e.symm⟩
      exact ⟨_, rfl, _, _, rfl, rfl, .inr ⟨by decide, by decide⟩, _, rfl, _, _, rfl, rfl, _, _, rfl, rfl, _, _, rfl, rfl, (by decide : (0 : Int) < 2147483647), ⟨_, _, rfl⟩, rfl⟩
    · rintro σ Ha ⟨⟨m, v, rfl⟩, rfl⟩
      exact ⟨_, rfl, _, rfl, (by show 4 ≤ sizeLine; decide), fun p np => k p m np⟩
theorem ok_ltaken (F : FnP K "_law_taken" lTaken f fd) (hlen : mg "len" = none) : FnOk P w K mg base CX0 1 f fd ["_law_row_here", "_law_many"] (spTaken K) := by
  refine F.ok scLT (fun vs H Q E h => ?_) (fun cdv A outer s H vs Q E hr h => ?_)
  · obtain ⟨p, a, ns, many, rfl, _⟩ := h
    rfl
  · obtain ⟨p, a, ns, many, rfl, ⟨i, r, m, hp, hi, hr0, hs⟩, hm, hm2, k⟩ := h
    have ne : ∀ z1 z2 z3 : Int, ([.ref a, .int z1, .int z2, .int z3] : List V) ≠ ns.map V.int := fun z1 z2 z3 e => by
      cases ns with
      | nil => cases e
      | cons q qs => cases e
    have k : ∀ (n i r m : Int), 0 ≤ n → n < many → 0 ≤ i → 0 ≤ r → Q (.int n) (upd H p (.lst [.ref a, .int i, .int r, .int m])) := fun n i' r' m' h1 h2 h3 h4 =>
      k n _ h1 h2 ⟨i', r', m', upd_same, h3, h4, seqL_upd hp hs (ne _ _ _)⟩ fun b o e hb => by rw [upd_ne (fun z => hb (by simp [z]))]; exact e
    have sp : SqL K H p [.ref a, .int i, .int r, .int m] := .inl (.of hp)
    have cd : CDiv 5 many := ⟨hm, by omega⟩
    have a0 : ∀ {xs : List V} {j : Nat} {v : V} {z : Int}, z = (j : Int) → xs[j]? = some v → atI xs z = some v := fun h1 h2 => at_of h1 h2
    refine ⟨_, PSs.nox (pss_cons (ps_if (pt_cmpR op_gt (pe_ix ix_list (pv 0) pe_int (fun _ _ => rfl)) pe_int (nomark _))
        (pss_cons (ps_set (i := 2) scLT.nd rfl (.inl rfl) (pe_op op_mod (pe_ix ix_list (pv 0) pe_int (fun _ _ => rfl)) (pv 1)))
        (pss_cons (ps_asg (pe_op op_fdiv (pe_ix ix_list (pv 0) pe_int (fun _ _ => rfl)) (pv 1)) (pg_sub (pv 0) pe_int set_list))
        (pss_one (ps_ret (pv 2))))) pss_nil)
      (pss_cons (ps_if (pt_cmpR op_lt (pe_ix ix_list (pv 0) pe_int (fun _ _ => rfl)) (pe_callB call_len_seq (by rfl) hlen PySem.boot_len (pa_cons (pe_ix ix_list (pv 0) pe_int (fun _ _ => rfl)) pa_nil)) (nomark _))
        (pss_cons (ps_set (i := 3) scLT.nd rfl (.inl rfl) (pe_ix ix_list (pe_ix ix_list (pv 0) pe_int (fun _ _ => rfl)) (pe_ix ix_list (pv 0) pe_int (fun _ _ => rfl)) (fun _ _ => rfl)))
        (pss_cons (ps_asg (pe_op op_add (pe_ix ix_list (pv 0) pe_int (fun _ _ => rfl)) pe_int) (pg_sub (pv 0) pe_int set_list))
        (pss_cons (ps_if (pt_cmpR op_ge (pv 3) (pe_op op_pow pe_int pe_int) (nomark _)) (pss_one (ps_asg (pe_op op_fdiv (pv 3) (pv 1)) (pg_sub (pv 0) pe_int set_list))) pss_nil)
        (pss_one (ps_ret (pe_op op_mod (pv 3) (pv 1))))))) pss_nil)
      (pss_cons (ps_asg (pe_op op_mod (pe_op op_add (pe_op op_mul (pe_ix ix_list (pv 0) pe_int (fun _ _ => rfl)) pe_int) pe_int) pe_int) (pg_sub (pv 0) pe_int set_list))
      (pss_one (ps_ret (pe_op op_mod (pe_op op_fdiv (pe_ix ix_list (pv 0) pe_int (fun _ _ => rfl)) pe_int) (pv 1))))))), ?_⟩
    refine ⟨_, rfl, p, _, 2, _, rfl, rfl, sp, a0 (j := 2) rfl rfl, _, _, rfl, rfl, _, rfl, ?_⟩
    by_cases h2 : 0 < r
    · rw [decide_eq_true h2]
      refine iteT ⟨_, rfl, p, _, 2, _, rfl, rfl, sp, a0 (j := 2) rfl rfl, _, rfl, _, _, rfl, rfl, hm, ?_⟩
      refine ⟨_, rfl, p, _, 2, _, rfl, rfl, sp, a0 (j := 2) rfl rfl, _, rfl, _, _, rfl, rfl, ⟨hm, by omega⟩, ?_⟩
      refine ⟨_, rfl, p, _, 2, 2, rfl, rfl, hp, rfl, ?_⟩
      refine ⟨_, rfl, ?_⟩
      exact k (r % many) i (r / many) m (Int.emod_nonneg _ (by omega)) (Int.emod_lt_of_pos _ hm) hi (Int.ediv_nonneg hr0 (by omega))
    · rw [decide_eq_false h2]
      refine iteF ?_
      refine ⟨_, rfl, p, _, 1, _, rfl, rfl, sp, a0 (j := 1) rfl rfl, _, rfl, p, _, 0, _, rfl, rfl, sp, a0 (j := 0) rfl rfl, a, _, rfl, .inl hs, _, _, rfl, rfl, _, rfl, ?_⟩
      rw [List.length_map]
      by_cases h3 : i < (ns.length : Int)
      · rw [decide_eq_true h3]
        obtain ⟨j, rfl⟩ : ∃ j : Nat, i = (j : Int) := ⟨i.toNat, by omega⟩
        have hj : j < ns.length := by omega
        have ej : (ns.map V.int)[j]? = some (.int ns[j]) := by rw [List.getElem?_map, List.getElem?_eq_getElem hj]; rfl
        have up1 : upd H p (.lst [.ref a, .int ((j : Int) + 1), .int r, .int m]) p = some (.lst [.ref a, .int ((j : Int) + 1), .int r, .int m]) := upd_same
        refine iteT ⟨_, rfl, p, _, 0, _, rfl, rfl, sp, a0 (j := 0) rfl rfl, _, rfl, p, _, 1, _, rfl, rfl, sp, a0 (j := 1) rfl rfl, a, _, _, _, rfl, rfl, hs, a0 rfl ej, ?_⟩
        refine ⟨_, rfl, p, _, 1, _, rfl, rfl, sp, a0 (j := 1) rfl rfl, _, _, rfl, rfl, ?_⟩
        refine ⟨_, rfl, p, _, 1, 1, rfl, rfl, hp, rfl, ?_⟩
        refine ⟨_, rfl, _, _, rfl, rfl, ⟨by decide, by decide, by decide⟩, _, _, rfl, rfl, _, rfl, ?_⟩
        have md : 0 ≤ ns[j] % many ∧ ns[j] % many < many := ⟨Int.emod_nonneg _ (by omega), Int.emod_lt_of_pos _ hm⟩
        refine ite2 (fun hb => ?_) (fun _ => ?_)
        · refine ⟨_, rfl, _, rfl, _, _, rfl, rfl, ⟨hm, by omega⟩, ?_⟩
          refine ⟨_, rfl, p, _, 2, 2, rfl, rfl, up1, rfl, ?_⟩
          refine ⟨_, rfl, _, rfl, _, _, rfl, rfl, hm, ?_⟩
          have q := k (ns[j] % many) ((j : Int) + 1) (ns[j] / many) m md.1 md.2 (by omega) (Int.ediv_nonneg (by
            have hb' := of_decide_eq_true hb
            have : (0 : Int) ≤ 10 ^ (18 : Int).toNat := by decide
            omega) (by omega))
          rw [upd_upd]
          exact q
        · refine ⟨_, rfl, _, rfl, _, _, rfl, rfl, hm, ?_⟩
          exact k _ ((j : Int) + 1) r m md.1 md.2 (by omega) hr0
      · rw [decide_eq_false h3]
        refine iteF ?_
        refine ⟨_, rfl, p, _, 3, _, rfl, rfl, sp, a0 (j := 3) rfl rfl, _, _, rfl, rfl, .inr ⟨by decide, by decide⟩, _, _, rfl, rfl, _, _, rfl, rfl, (by decide : (0 : Int) < 2147483647), ?_⟩
        refine ⟨_, rfl, p, _, 3, 3, rfl, rfl, hp, rfl, ?_⟩
        refine ⟨_, rfl, p, _, 3, _, rfl, rfl, .inl (.of upd_same), a0 (j := 3) rfl rfl, _, _, rfl, rfl, ⟨by decide, by decide⟩, _, rfl, _, _, rfl, rfl, hm, ?_⟩
        exact k _ i r _ (Int.emod_nonneg _ (by omega)) (Int.emod_lt_of_pos _ hm) hi hr0
end
end Ah
end
section
set_option Elab.async false
set_option linter.all false
set_option maxRecDepth 100000
set_option maxHeartbeats 2000000
namespace Ah
open PySem PySem.Spec PyProof.Rows L2
/-! ### rows and sayings as data -/
inductive Rw where
  | is (n k : Str) | isnt (n k : Str) | has (n t m : Str) | hasnt (n t m : Str) | all (k l : Str) | no (k l : Str) | each (k t m : Str) | who (t k l : Str) | turned (t s : Str) | on (t : Str) | fr (t k : Str) | to (t k : Str) | under (t s : Str)
  deriving DecidableEq
def Rw.ws : Rw → List Str
  | .is n k => ["is", n, k] | .isnt n k => ["isnt", n, k] | .has n t m => ["has", n, t, m] | .hasnt n t m => ["hasnt", n, t, m] | .all k l => ["all", k, l] | .no k l => ["no", k, l]
  | .each k t m => ["each", k, t, m] | .who t k l => ["who", t, k, l] | .turned t s => ["turned", t, s] | .on t => ["on", t] | .fr t k => ["from", t, k] | .to t k => ["to", t, k] | .under t s => ["under", t, s]
def namesL : List Str := ["ann", "ben", "cy"]
def kindsL : List Str := ["cat", "dog", "owl"]
def tiesL : List Str := ["likes", "owns"]
/-- a row of the law's few words -/
def Rw.few : Rw → Prop
  | .is n k => n ∈ namesL ∧ k ∈ kindsL | .isnt n k => n ∈ namesL ∧ k ∈ kindsL | .has n t m => n ∈ namesL ∧ t ∈ tiesL ∧ m ∈ namesL | .hasnt n t m => n ∈ namesL ∧ t ∈ tiesL ∧ m ∈ namesL
  | .all k l => k ∈ kindsL ∧ l ∈ kindsL | .no k l => k ∈ kindsL ∧ l ∈ kindsL | .each k t m => k ∈ kindsL ∧ t ∈ tiesL ∧ m ∈ namesL | .who t k l => t ∈ tiesL ∧ k ∈ kindsL ∧ l ∈ kindsL
  | .turned t s => t ∈ tiesL ∧ s ∈ tiesL | .on t => t ∈ tiesL | .fr t k => t ∈ tiesL ∧ k ∈ kindsL | .to t k => t ∈ tiesL ∧ k ∈ kindsL | .under t s => t ∈ tiesL ∧ s ∈ tiesL
theorem Kept.refl {M : List Addr} (H : Hp) : Kept M H H := fun _ _ e _ => e
theorem Kept.trans {M : List Addr} {H H1 H2 : Hp} (a : Kept M H H1) (b : Kept M H1 H2) : Kept M H H2 := fun p o e n => b p o (a p o e n) n
theorem Kept.mono {M M' : List Addr} {H H1 : Hp} (a : Kept M H H1) (h : ∀ b ∈ M, b ∈ M') : Kept M' H H1 := fun p o e n => a p o e fun z => n (h p z)
theorem Kept.upd {M : List Addr} {H H1 : Hp} {p : Addr} {o : HO} (a : Kept M H H1) (n : H1 p = none) : Kept M H (upd H1 p o) := fun b u e hb => by
  have q := a b u e hb
  rw [upd_ne (ne_of_none q n)]
  exact q
/-- what stands at an address not in M: it is another than M's -/
theorem notin1 {H : Hp} {a p : Addr} {o u : HO} (h : H a = some o) (hp : H p = some u) (d : o ≠ u) : a ∉ [p] := fun z => by
  rw [List.mem_singleton.mp z, hp] at h
  exact d (Option.some.inj h).symm
theorem StAt.ob {K : PySem.W.Frag} {H : Hp} {p a : Addr} {ns : List Int} (S : StAt K H p a ns) : ∃ xs, H p = some (.lst xs) := let ⟨_, _, _, h, _⟩ := S; ⟨_, h⟩
theorem StAt.upd {K : PySem.W.Frag} {H : Hp} {p a q : Addr} {ns : List Int} {o : HO} (S : StAt K H p a ns) (n : H q = none) : StAt K (upd H q o) p a ns := by
  obtain ⟨i, r, m, h, h1, h2, h3⟩ := S
  refine ⟨i, r, m, by rw [upd_ne (ne_of_none h n)]; exact h, h1, h2, ?_⟩
  rcases h3 with (h3 | ⟨ob, h3⟩) | h3
  · exact .inl (.inl (by rw [upd_ne (ne_of_none h3 n)]; exact h3))
  · exact .inl (.inr ⟨ob, by rw [upd_ne (ne_of_none h3 n)]; exact h3⟩)
  · exact .inr h3
/-! ### displays -/
/-- arguments that are evaluated without a change: their values -/
def ValA (t : TA) (σ : L2.St) (vs : List V) : Prop := ∀ H (Q : List V → Hp → Prop), Q vs H → t σ H Q
theorem valA_nil {σ : L2.St} : ValA tNil σ [] := fun _ _ h => h
theorem valA_str {σ : L2.St} {t : TA} {z : Str} {vs : List V} (h : ValA t σ vs) : ValA (tCons (tC (.str z)) t) σ (.str z :: vs) := fun H Q q => h H _ q
theorem valA_var {σ : L2.St} {t : TA} {i : Nat} {v : V} {vs : List V} (e : σ[i]? = some (some v)) (h : ValA t σ vs) : ValA (tCons (tVar i) t) σ (v :: vs) := fun H Q q => ⟨v, e, h H _ q⟩
/-- arguments that are new tuples -/
def MkA (t : TA) (σ : L2.St) (xss : List (List V)) : Prop := ∀ H (Q : List V → Hp → Prop), (∀ (ps : List Addr) H', Kept [] H H' → Paired (fun p xs => H' p = some (.tup xs)) ps xss → Q (ps.map V.ref) H') → t σ H Q
theorem mkA_nil {σ : L2.St} : MkA tNil σ [] := fun H Q h => h [] H (Kept.refl H) .nil
theorem mkA_cons {σ : L2.St} {s t : TA} {xs : List V} {xss : List (List V)} (hs : ValA s σ xs) (h : MkA t σ xss) (hl : xs.length ≤ 100 := by exact Nat.le_of_ble_eq_true rfl) : MkA (tCons (tTup s) t) σ (xs :: xss) := fun H Q q =>
  hs H _ ⟨Nat.le_trans hl (by decide), fun p np => h _ _ fun ps H' k r => q (p :: ps) H' (fun b o e hb => k b o (by rw [upd_ne (ne_of_none e np)]; exact e) hb) (.cons (k p _ upd_same (by simp)) r)⟩
/-- [..][_law_taken(row, m)]: one of them -/
theorem rd_pick {K : PySem.W.Frag} {σ : L2.St} {H : Hp} {Q : VK} {tl : TA} {l : List Str} {m : Int} {p a : Addr} {ns : List Int} {E : XK} (hl : ValA tl σ (l.map V.str)) (hm : m = (l.length : Int)) (h0 : 0 < l.length) (h1 : l.length ≤ 100)
    (hσ : σ[0]? = some (some (.ref p))) (S : StAt K H p a ns) (h : ∀ z ∈ l, ∀ H', StAt K H' p a ns → Kept [p] H H' → Q (.str z) H') :
    tOp (rIxL K) (tLst tl) (tCall (spTaken K) [] E (tCons (tVar 0) (tCons (tC (.int m)) tNil))) σ H Q := by
  refine hl H _ ⟨by rw [List.length_map]; exact Nat.le_trans h1 (by decide), fun q nq => ?_⟩
  refine ⟨_, hσ, p, a, ns, m, rfl, S.upd nq, by omega, by omega, fun n H' hn0 hn1 S' k => ?_⟩
  obtain ⟨j, rfl⟩ : ∃ j : Nat, n = (j : Int) := ⟨n.toNat, by omega⟩
  have hj : j < l.length := by omega
  obtain ⟨xs, hp⟩ := S.ob
  have hq : q ∉ [p] := fun z => by
    rw [List.mem_singleton.mp z, hp] at nq
    cases nq
  refine ⟨q, l.map V.str, (j : Int), .str l[j], rfl, rfl, .inl (.of (k q _ upd_same hq)), at_of (j := j) rfl (by rw [List.getElem?_map, List.getElem?_eq_getElem hj]; rfl), ?_⟩
  exact h _ (List.getElem_mem hj) H' S' fun b o e hb => k b o (by rw [upd_ne (ne_of_none e nq)]; exact e) hb
theorem mkL {t : TA} {σ : L2.St} {xss : List (List V)} {H : Hp} {Q : VK} (h : MkA t σ xss) (hl : xss.length ≤ 100) (k : ∀ (ps : List Addr) (l : Addr) H', Kept [] H H' → Paired (fun p xs => H' p = some (.tup xs)) ps xss → H' l = some (.lst (ps.map V.ref)) → Q (.ref l) H') : tLst t σ H Q :=
  h H _ fun ps H' k1 r => ⟨by rw [List.length_map, r.length]; exact Nat.le_trans hl (by decide), fun l nl => k ps l _ (k1.upd nl) (Paired.mapP r fun p xs e => by rw [upd_ne (ne_of_none e nl)]; exact e) upd_same⟩
/-- statement by statement -/
theorem seq_set {te : TE} {i : Nat} {rest : TS} {D : Ends} {σ : L2.St} {H : Hp} (h : te σ H fun x H1 => rest D (σ.set i (some x)) H1) : tSeq (tAsg te (gName i)) rest D σ H := h
theorem ret_of {te : TE} {D : Ends} {σ : L2.St} {H : Hp} (h : te σ H D.rt) : tRet te D σ H := h
theorem op_of {r : R2} {ta tb : TE} {σ : L2.St} {H : Hp} {Q : VK} (h : ta σ H fun x H1 => tb σ H1 fun y H2 => r x y H2 Q) : tOp r ta tb σ H Q := h
theorem paired_app {α β : Type} {F : α → β → Prop} : ∀ {l₁ m₁ : List α} {l₂ m₂ : List β}, Paired F l₁ l₂ → Paired F m₁ m₂ → Paired F (l₁ ++ m₁) (l₂ ++ m₂)
  | _, _, _, _, .nil, h => h
  | _, _, _, _, .cons r t, h => .cons r (paired_app t h)
theorem paired_at {α β : Type} {F : α → β → Prop} : ∀ {l₁ : List α} {l₂ : List β} {i : Nat} {a : α}, Paired F l₁ l₂ → l₁[i]? = some a → ∃ b, l₂[i]? = some b ∧ F a b
  | _, _, _, _, .nil, h => by simp at h
  | _, _, 0, _, .cons r t, h => by
    simp at h
    subst h
    exact ⟨_, rfl, r⟩
  | _, _, i + 1, _, .cons r t, h => by
    obtain ⟨b, e, f⟩ := paired_at (i := i) t (by simpa using h)
    exact ⟨b, by simpa using e, f⟩
theorem StAt.kept {K : PySem.W.Frag} {H H' : Hp} {p a : Addr} {ns : List Int} (S : StAt K H p a ns) (k : Kept [] H H') : StAt K H' p a ns := by
  obtain ⟨i, r, m, h, h1, h2, h3⟩ := S
  refine ⟨i, r, m, k _ _ h (by simp), h1, h2, ?_⟩
  rcases h3 with (h3 | ⟨ob, h3⟩) | h3
  · exact .inl (.inl (k _ _ h3 (by simp)))
  · exact .inl (.inr ⟨ob, k _ _ h3 (by simp)⟩)
  · exact .inr h3
theorem few16 {n m c d t u : Str} (hn : n ∈ namesL) (hm : m ∈ namesL) (hc : c ∈ kindsL) (hd : d ∈ kindsL) (ht : t ∈ tiesL) (hu : u ∈ tiesL) :
    ∀ xs ∈ ([[.str "is", .str n, .str c], [.str "is", .str n, .str c], [.str "has", .str n, .str t, .str m], [.str "has", .str n, .str t, .str m], [.str "has", .str n, .str t, .str m], [.str "all", .str c, .str d]] ++
      [[.str "isnt", .str n, .str c], [.str "hasnt", .str n, .str t, .str m], [.str "no", .str c, .str d], [.str "each", .str c, .str t, .str m], [.str "who", .str t, .str c, .str d]] ++
      [[.str "turned", .str t, .str u], [.str "on", .str t], [.str "from", .str t, .str c], [.str "to", .str t, .str c], [.str "under", .str t, .str u]] : List (List V)), ∃ r : Rw, r.few ∧ xs = r.ws.map V.str := by
  intro xs hx
  simp only [List.mem_append, List.mem_cons, List.not_mem_nil, or_false] at hx
  rcases hx with ((e | e | e | e | e | e) | (e | e | e | e | e)) | (e | e | e | e | e)
  · exact ⟨.is n c, ⟨hn, hc⟩, e⟩
  · exact ⟨.is n c, ⟨hn, hc⟩, e⟩
  · exact ⟨.has n t m, ⟨hn, ht, hm⟩, e⟩
  · exact ⟨.has n t m, ⟨hn, ht, hm⟩, e⟩
  · exact ⟨.has n t m, ⟨hn, ht, hm⟩, e⟩
  · exact ⟨.all c d, ⟨hc, hd⟩, e⟩
  · exact ⟨.isnt n c, ⟨hn, hc⟩, e⟩
  · exact ⟨.hasnt n t m, ⟨hn, ht, hm⟩, e⟩
  · exact ⟨.no c d, ⟨hc, hd⟩, e⟩
  · exact ⟨.each c t m, ⟨hc, ht, hm⟩, e⟩
  · exact ⟨.who t c d, ⟨ht, hc, hd⟩, e⟩
  · exact ⟨.turned t u, ⟨ht, hu⟩, e⟩
  · exact ⟨.on t, ht, e⟩
  · exact ⟨.fr t c, ⟨ht, hc⟩, e⟩
  · exact ⟨.to t c, ⟨ht, hc⟩, e⟩
  · exact ⟨.under t u, ⟨ht, hu⟩, e⟩
/-- the slots -/
def sg (p : Addr) (n m c d t u : Str) (v : Option V) : L2.St := [some (.ref p), some (.str n), some (.str m), some (.str c), some (.str d), some (.str t), some (.str u), v]
theorem scLOne : FnScope ["_law_row_here", "_law_n", "_law_m", "_law_k", "_law_l", "_law_t", "_law_s", "_law_some"] ["_law_row_here"] (defScope lOne) := ⟨rfl, rfl, rfl, by decide +kernel, rfl, by decide +kernel, by decide +kernel⟩
def spOne (K : PySem.W.Frag) : Sp := fun vs H Q _ => ∃ (p a : Addr) (ns : List Int), vs = [.ref p] ∧ StAt K H p a ns ∧
  ∀ (q : Addr) (r : Rw) (H' : Hp), r.few → StAt K H' p a ns → Kept [p] H H' → H' q = some (.tup (r.ws.map V.str)) → Q (.ref q) H'
section
variable {P : Program} {w : World} {K : PySem.W.Frag} {mg : Str → Option Value} {base : Heap} {f fT : Addr} {fd fdT : FuncData}
theorem ok_lone (F : FnP K "_law_one" lOne f fd) (gT : mg "_law_taken" = some (.ref fT)) (FT : FnOk P w K mg base CX0 1 fT fdT ["_law_row_here", "_law_many"] (spTaken K)) (kT : PySem.W.keepIn K (.ref fT) = true) (bT : Binds K fdT ["_law_row_here", "_law_many"] []) :
    FnOk P w K mg base CX0 2 f fd ["_law_row_here"] (spOne K) := by
  refine F.ok scLOne (fun vs H Q E h => ?_) (fun cdv A outer s H vs Q E hr h => ?_)
  · obtain ⟨p, a, ns, rfl, _⟩ := h
    rfl
  · obtain ⟨p, a, ns, rfl, S, k⟩ := h
    refine ⟨_, PSs.nox (pss_cons (ps_par (by rfl) scLOne.nd (i := 1) (j := 2) rfl rfl (by decide) rfl rfl (pa_cons (pe_ix ix_list (pe_lst (pa_cons pe_str (pa_cons pe_str (pa_cons pe_str pa_nil)))) (pe_call FT hr (by rfl) gT kT bT .nil pass0 (pa_cons (pv 0) (pa_cons pe_int pa_nil))) (fun _ _ => rfl)) (pa_cons (pe_ix ix_list (pe_lst (pa_cons pe_str (pa_cons pe_str (pa_cons pe_str pa_nil)))) (pe_call FT hr (by rfl) gT kT bT .nil pass0 (pa_cons (pv 0) (pa_cons pe_int pa_nil))) (fun _ _ => rfl)) pa_nil)) (by rfl))
      (pss_cons (ps_par (by rfl) scLOne.nd (i := 3) (j := 4) rfl rfl (by decide) rfl rfl (pa_cons (pe_ix ix_list (pe_lst (pa_cons pe_str (pa_cons pe_str (pa_cons pe_str pa_nil)))) (pe_call FT hr (by rfl) gT kT bT .nil pass0 (pa_cons (pv 0) (pa_cons pe_int pa_nil))) (fun _ _ => rfl)) (pa_cons (pe_ix ix_list (pe_lst (pa_cons pe_str (pa_cons pe_str (pa_cons pe_str pa_nil)))) (pe_call FT hr (by rfl) gT kT bT .nil pass0 (pa_cons (pv 0) (pa_cons pe_int pa_nil))) (fun _ _ => rfl)) pa_nil)) (by rfl))
      (pss_cons (ps_par (by rfl) scLOne.nd (i := 5) (j := 6) rfl rfl (by decide) rfl rfl (pa_cons (pe_ix ix_list (pe_lst (pa_cons pe_str (pa_cons pe_str pa_nil))) (pe_call FT hr (by rfl) gT kT bT .nil pass0 (pa_cons (pv 0) (pa_cons pe_int pa_nil))) (fun _ _ => rfl)) (pa_cons (pe_ix ix_list (pe_lst (pa_cons pe_str (pa_cons pe_str pa_nil))) (pe_call FT hr (by rfl) gT kT bT .nil pass0 (pa_cons (pv 0) (pa_cons pe_int pa_nil))) (fun _ _ => rfl)) pa_nil)) (by rfl))
      (pss_cons (ps_set (i := 7) scLOne.nd rfl (.inl rfl) (pe_lst (pa_cons (pe_tup (pa_cons pe_str (pa_cons (pv 1) (pa_cons (pv 3) pa_nil)))) (pa_cons (pe_tup (pa_cons pe_str (pa_cons (pv 1) (pa_cons (pv 3) pa_nil)))) (pa_cons (pe_tup (pa_cons pe_str (pa_cons (pv 1) (pa_cons (pv 5) (pa_cons (pv 2) pa_nil))))) (pa_cons (pe_tup (pa_cons pe_str (pa_cons (pv 1) (pa_cons (pv 5) (pa_cons (pv 2) pa_nil))))) (pa_cons (pe_tup (pa_cons pe_str (pa_cons (pv 1) (pa_cons (pv 5) (pa_cons (pv 2) pa_nil))))) (pa_cons (pe_tup (pa_cons pe_str (pa_cons (pv 3) (pa_cons (pv 4) pa_nil)))) pa_nil))))))))
      (pss_cons (ps_set (i := 7) scLOne.nd rfl (.inl rfl) (pe_op op_cat (pv 7) (pe_lst (pa_cons (pe_tup (pa_cons pe_str (pa_cons (pv 1) (pa_cons (pv 3) pa_nil)))) (pa_cons (pe_tup (pa_cons pe_str (pa_cons (pv 1) (pa_cons (pv 5) (pa_cons (pv 2) pa_nil))))) (pa_cons (pe_tup (pa_cons pe_str (pa_cons (pv 3) (pa_cons (pv 4) pa_nil)))) (pa_cons (pe_tup (pa_cons pe_str (pa_cons (pv 3) (pa_cons (pv 5) (pa_cons (pv 2) pa_nil))))) (pa_cons (pe_tup (pa_cons pe_str (pa_cons (pv 5) (pa_cons (pv 3) (pa_cons (pv 4) pa_nil))))) pa_nil))))))))
      (pss_cons (ps_set (i := 7) scLOne.nd rfl (.inl rfl) (pe_op op_cat (pv 7) (pe_lst (pa_cons (pe_tup (pa_cons pe_str (pa_cons (pv 5) (pa_cons (pv 6) pa_nil)))) (pa_cons (pe_tup (pa_cons pe_str (pa_cons (pv 5) pa_nil))) (pa_cons (pe_tup (pa_cons pe_str (pa_cons (pv 5) (pa_cons (pv 3) pa_nil)))) (pa_cons (pe_tup (pa_cons pe_str (pa_cons (pv 5) (pa_cons (pv 3) pa_nil)))) (pa_cons (pe_tup (pa_cons pe_str (pa_cons (pv 5) (pa_cons (pv 6) pa_nil)))) pa_nil))))))))
      (pss_one (ps_ret (pe_ix ix_list (pv 7) (pe_call FT hr (by rfl) gT kT bT .nil pass0 (pa_cons (pv 0) (pa_cons pe_int pa_nil))) (fun _ _ => rfl)))))))))), ?_⟩
    refine rd_pick (l := namesL) (valA_str (valA_str (valA_str valA_nil))) rfl (by decide) (by decide) rfl S fun n hn H1 S1 k1 => ?_
    refine rd_pick (l := namesL) (valA_str (valA_str (valA_str valA_nil))) rfl (by decide) (by decide) rfl S1 fun m hm H2 S2 k2 => ⟨_, _, rfl, ?_⟩
    refine rd_pick (l := kindsL) (valA_str (valA_str (valA_str valA_nil))) rfl (by decide) (by decide) rfl S2 fun c hc H3 S3 k3 => ?_
    refine rd_pick (l := kindsL) (valA_str (valA_str (valA_str valA_nil))) rfl (by decide) (by decide) rfl S3 fun d hd H4 S4 k4 => ⟨_, _, rfl, ?_⟩
    refine rd_pick (l := tiesL) (valA_str (valA_str valA_nil)) rfl (by decide) (by decide) rfl S4 fun t ht H5 S5 k5 => ?_
    refine rd_pick (l := tiesL) (valA_str (valA_str valA_nil)) rfl (by decide) (by decide) rfl S5 fun u hu H6 S6 k6 => ⟨_, _, rfl, ?_⟩
    have A1 : MkA _ (sg p n m c d t u none) [[.str "is", .str n, .str c], [.str "is", .str n, .str c], [.str "has", .str n, .str t, .str m], [.str "has", .str n, .str t, .str m], [.str "has", .str n, .str t, .str m], [.str "all", .str c, .str d]] :=
      mkA_cons (valA_str (valA_var (i := 1) rfl (valA_var (i := 3) rfl valA_nil))) (mkA_cons (valA_str (valA_var (i := 1) rfl (valA_var (i := 3) rfl valA_nil))) (mkA_cons (valA_str (valA_var (i := 1) rfl (valA_var (i := 5) rfl (valA_var (i := 2) rfl valA_nil)))) (mkA_cons (valA_str (valA_var (i := 1) rfl (valA_var (i := 5) rfl (valA_var (i := 2) rfl valA_nil)))) (mkA_cons (valA_str (valA_var (i := 1) rfl (valA_var (i := 5) rfl (valA_var (i := 2) rfl valA_nil)))) (mkA_cons (valA_str (valA_var (i := 3) rfl (valA_var (i := 4) rfl valA_nil))) mkA_nil)))))
    dsimp only
    refine seq_set ?_
    change tLst _ (sg p n m c d t u none) H6 _
    refine mkL A1 (by exact Nat.le_of_ble_eq_true rfl) fun ps1 l1 H7 k7 r7 e7 => ?_
    change tSeq (tAsg _ (gName 7)) _ _ (sg p n m c d t u (some (.ref l1))) H7
    refine seq_set (op_of ⟨_, rfl, ?_⟩)
    change tLst _ (sg p n m c d t u (some (.ref l1))) H7 _
    have A2 : MkA _ (sg p n m c d t u (some (.ref l1))) [[.str "isnt", .str n, .str c], [.str "hasnt", .str n, .str t, .str m], [.str "no", .str c, .str d], [.str "each", .str c, .str t, .str m], [.str "who", .str t, .str c, .str d]] :=
      mkA_cons (valA_str (valA_var (i := 1) rfl (valA_var (i := 3) rfl valA_nil))) (mkA_cons (valA_str (valA_var (i := 1) rfl (valA_var (i := 5) rfl (valA_var (i := 2) rfl valA_nil)))) (mkA_cons (valA_str (valA_var (i := 3) rfl (valA_var (i := 4) rfl valA_nil))) (mkA_cons (valA_str (valA_var (i := 3) rfl (valA_var (i := 5) rfl (valA_var (i := 2) rfl valA_nil)))) (mkA_cons (valA_str (valA_var (i := 5) rfl (valA_var (i := 3) rfl (valA_var (i := 4) rfl valA_nil)))) mkA_nil))))
    refine mkL A2 (by exact Nat.le_of_ble_eq_true rfl) fun ps2 l2 H8 k8 r8 e8 => ?_
    refine ⟨l1, l2, _, _, rfl, rfl, k8 l1 _ e7 (by simp), e8, ?_, fun l3 n3 => ?_⟩
    · rw [List.length_map, List.length_map, r7.length, r8.length]; exact Nat.le_of_ble_eq_true rfl
    change tSeq (tAsg _ (gName 7)) _ _ (sg p n m c d t u (some (.ref l3))) _
    refine seq_set (op_of ⟨_, rfl, ?_⟩)
    change tLst _ (sg p n m c d t u (some (.ref l3))) _ _
    have A3 : MkA _ (sg p n m c d t u (some (.ref l3))) [[.str "turned", .str t, .str u], [.str "on", .str t], [.str "from", .str t, .str c], [.str "to", .str t, .str c], [.str "under", .str t, .str u]] :=
      mkA_cons (valA_str (valA_var (i := 5) rfl (valA_var (i := 6) rfl valA_nil))) (mkA_cons (valA_str (valA_var (i := 5) rfl valA_nil)) (mkA_cons (valA_str (valA_var (i := 5) rfl (valA_var (i := 3) rfl valA_nil))) (mkA_cons (valA_str (valA_var (i := 5) rfl (valA_var (i := 3) rfl valA_nil))) (mkA_cons (valA_str (valA_var (i := 5) rfl (valA_var (i := 6) rfl valA_nil))) mkA_nil))))
    refine mkL A3 (by exact Nat.le_of_ble_eq_true rfl) fun ps3 l4 H9 k9 r9 e9 => ?_
    refine ⟨l3, l4, _, _, rfl, rfl, k9 l3 _ upd_same (by simp), e9, ?_, fun l5 n5 => ?_⟩
    · rw [List.length_append, List.length_map, List.length_map, List.length_map, r7.length, r8.length, r9.length]; exact Nat.le_of_ble_eq_true rfl
    change tRet _ _ (sg p n m c d t u (some (.ref l5))) _
    refine ret_of (op_of ⟨_, rfl, ?_⟩)
    have kA : Kept [] H6 (L2.upd H8 l3 (.lst (ps1.map V.ref ++ ps2.map V.ref))) := (k7.trans k8).upd n3
    have kB : Kept [] H6 (L2.upd H9 l5 (.lst (ps1.map V.ref ++ ps2.map V.ref ++ ps3.map V.ref))) := (kA.trans k9).upd n5
    have k89 : Kept [] H8 (L2.upd H9 l5 (.lst (ps1.map V.ref ++ ps2.map V.ref ++ ps3.map V.ref))) := (((Kept.refl H8).upd n3).trans k9).upd n5
    have k99 : Kept [] H9 (L2.upd H9 l5 (.lst (ps1.map V.ref ++ ps2.map V.ref ++ ps3.map V.ref))) := (Kept.refl H9).upd n5
    have rr := (paired_app (paired_app (Paired.mapP r7 fun q xs e => k89 q _ (k8 q _ e (by simp)) (by simp)) (Paired.mapP r8 fun q xs e => k89 q _ e (by simp))) (Paired.mapP r9 fun q xs e => k99 q _ e (by simp)))
    have e5 : L2.upd H9 l5 (.lst (ps1.map V.ref ++ ps2.map V.ref ++ ps3.map V.ref)) l5 = some (.lst ((ps1 ++ ps2 ++ ps3).map V.ref)) := by rw [upd_same, List.map_append, List.map_append]
    have SB := S6.kept kB
    generalize hHf : L2.upd H9 l5 (.lst (ps1.map V.ref ++ ps2.map V.ref ++ ps3.map V.ref)) = Hf at kB rr e5 SB
    have hl5 : l5 ∉ [p] := fun z => by
      obtain ⟨xs, hp⟩ := S6.ob
      have q := k9 p _ (kA p _ hp (by simp)) (by simp)
      rw [List.mem_singleton.mp z, q] at n5
      cases n5
    refine ⟨_, rfl, p, a, ns, 16, rfl, SB, by decide, by decide, fun i H' h0 h1 S' k' => ?_⟩
    obtain ⟨j, rfl⟩ : ∃ j : Nat, i = (j : Int) := ⟨i.toNat, by omega⟩
    have hlen := rr.length
    have hj : j < (ps1 ++ ps2 ++ ps3).length := by
      rw [hlen]
      exact Nat.lt_of_lt_of_le (show j < 16 by omega) (by exact Nat.le_of_ble_eq_true rfl)
    obtain ⟨xs, hx, hq⟩ := paired_at rr (List.getElem?_eq_getElem hj)
    obtain ⟨r, hr, er⟩ := few16 hn hm hc hd ht hu xs (List.mem_of_getElem? hx)
    subst er
    refine ⟨l5, _, _, _, rfl, rfl, .inl (.of (k' l5 _ e5 hl5)), at_of (j := j) rfl (by rw [List.getElem?_map, List.getElem?_eq_getElem hj]; rfl), ?_⟩
    obtain ⟨ys, hp6⟩ := SB.ob
    refine k _ r H' hr S' ?_ (k' _ _ hq (notin1 hq hp6 (by intro z; cases z)))
    exact ((((((k1.trans k2).trans k3).trans k4).trans k5).trans k6).trans (kB.mono (by simp))).trans k'
end
end Ah
end
section
set_option Elab.async false
set_option linter.all false
set_option maxRecDepth 100000
set_option maxHeartbeats 2000000
namespace Ah
open PySem PySem.Spec PyProof.Rows L2
/-! ### texts -/
def TextAt (H : Hp) (q : Addr) (rs : List Rw) : Prop := ∃ ps : List Addr, H q = some (.tup (ps.map V.ref)) ∧ Paired (fun a r => H a = some (.tup ((Rw.ws r).map V.str))) ps rs
theorem scLTx : FnScope ["_law_row_here", "_law_many", "_law_k"] ["_law_row_here", "_law_many"] (defScope lText) := ⟨rfl, rfl, rfl, by decide +kernel, rfl, by decide +kernel, by decide +kernel⟩
def spText (K : PySem.W.Frag) : Sp := fun vs H Q _ => ∃ (p a : Addr) (ns : List Int) (many : Int), vs = [.ref p, .int many] ∧ StAt K H p a ns ∧ 0 ≤ many ∧ many < 1000 ∧
  ∀ (q : Addr) (rs : List Rw) (H' : Hp), (∀ r ∈ rs, r.few) → (rs.length : Int) ≤ many → StAt K H' p a ns → Kept [p] H H' → TextAt H' q rs → Q (.ref q) H'
theorem seqL_far {K : PySem.W.Frag} {H1 H' : Hp} {a D : Addr} {o : HO} {xs : List V} (h1 : SqL K H1 a xs) (n : H1 D = none) (h : SqL K H' a xs) : SqL K (upd H' D o) a xs := by
  rcases h1 with h1 | h1
  · have ne : a ≠ D := fun e => by
      rcases h1 with h1 | ⟨ob, h1⟩ <;> rw [e, n] at h1 <;> cases h1
    rcases h with (h | ⟨ob, h⟩) | h
    · exact .inl (.inl (by rw [upd_ne ne]; exact h))
    · exact .inl (.inr ⟨ob, by rw [upd_ne ne]; exact h⟩)
    · exact .inr h
  · exact .inr h1
/-- the state stands where another new object changes -/
theorem StAt.far {K : PySem.W.Frag} {H1 H' : Hp} {p a D : Addr} {ns : List Int} {o : HO} (S1 : StAt K H1 p a ns) (n : H1 D = none) (S : StAt K H' p a ns) : StAt K (L2.upd H' D o) p a ns := by
  obtain ⟨i, r, m, h, g1, g2, g3⟩ := S
  obtain ⟨i1, r1, m1, h1, _, _, q3⟩ := S1
  exact ⟨i, r, m, by rw [upd_ne (ne_of_none h1 n)]; exact h, g1, g2, seqL_far q3 n g3⟩
theorem Kept.far {M : List Addr} {H H1 H' : Hp} {D : Addr} {o : HO} (k1 : Kept M H H1) (n : H1 D = none) (k : Kept M H H') : Kept M H (L2.upd H' D o) := fun b u e hb => by
  rw [upd_ne (ne_of_none (k1 b u e hb) n)]
  exact k b u e hb
theorem yes_if {X Y : Hp → Prop} {σ : L2.St} {H : Hp} (h : X H) : tYes σ H fun b H3 => if b = true then X H3 else Y H3 := by
  show if true = true then X H else Y H
  rw [if_pos rfl]
  exact h
section
variable {P : Program} {w : World} {K : PySem.W.Frag} {mg : Str → Option Value} {base : Heap} {f fT fO : Addr} {fd fdT fdO : FuncData}
theorem ok_ltext (F : FnP K "_law_text" lText f fd) (gT : mg "_law_taken" = some (.ref fT)) (FT : FnOk P w K mg base CX0 1 fT fdT ["_law_row_here", "_law_many"] (spTaken K)) (kT : PySem.W.keepIn K (.ref fT) = true) (bT : Binds K fdT ["_law_row_here", "_law_many"] [])
    (gO : mg "_law_one" = some (.ref fO)) (FO : FnOk P w K mg base CX0 2 fO fdO ["_law_row_here"] (spOne K)) (kO : PySem.W.keepIn K (.ref fO) = true) (bO : Binds K fdO ["_law_row_here"] []) (zt : mg "tuple" = none) (zr : mg "range" = none) :
    FnOk P w K mg base CX0 3 f fd ["_law_row_here", "_law_many"] (spText K) := by
  refine F.ok scLTx (fun vs H Q E h => ?_) (fun cdv A outer s H vs Q E hr h => ?_)
  · obtain ⟨p, a, ns, many, rfl, _⟩ := h
    rfl
  · obtain ⟨p, a, ns, many, rfl, S, h0, h1, k⟩ := h
    refine ⟨_, PSs.nox (pss_one (ps_ret (pe_callTy call_tuple_of (by rfl) zt (by decide +kernel) (pa_cons
      (pe_lc (own := [("_law_k", 2)]) (g := gName 2) (tt := tYes) rfl scLTx.nd (pi_range1 rfl zr (pa_cons (pe_call FT (hr.mono (by decide)) (by rfl) gT kT bT .nil pass0 (pa_cons (pv 0) (pa_cons (pe_op op_add (pv 1) pe_int) pa_nil))) pa_nil))
        (blkOk_by (N := ["_law_row_here", "_law_many", "_law_k"]) (sc := defScope lText) (by decide +kernel)) (fun _ _ _ _ _ => pg_name (i := 2) scLTx.nd rfl (Or.inl rfl)) (fun _ _ _ _ _ => pts_nil)
        (fun _ _ _ _ _ => pe_call FO hr (by rfl) gO kO bO .nil pass0 (pa_cons (pv 0) pa_nil))) pa_nil)))), ?_⟩
    refine ⟨_, rfl, _, rfl, _, _, rfl, rfl, p, a, ns, many + 1, rfl, S, by omega, by omega, fun n H1 hn0 hn1 S1 k1 => ⟨n, rfl, by omega, by omega, fun D nD => ?_⟩⟩
    refine lc_range (lo := 0) (n := n.toNat) (fun i H' => ∃ (ps : List Addr) (rs : List Rw), H' D = some (.lst (ps.map V.ref)) ∧ Paired (fun a r => H' a = some (.tup ((Rw.ws r).map V.str))) ps rs ∧ rs.length = i ∧ (∀ r ∈ rs, r.few) ∧ StAt K H' p a ns ∧ Kept [p] H H')
      ⟨[], [], upd_same, .nil, rfl, fun _ z => (by simp at z), S1.upd nD, k1.upd nD⟩ ?_ ?_
    · rintro i Ha hi ⟨ps, rs, e1, r1, hl, hf, S2, k2⟩
      refine ⟨rfl, yes_if ?_⟩
      refine ⟨_, rfl, p, a, ns, rfl, S2, fun q r H3 hr' S3 k3 eq => ?_⟩
      obtain ⟨ys, hp2⟩ := S2.ob
      have hDp : D ∉ [p] := fun z => by
        obtain ⟨zs, hz⟩ := S1.ob
        rw [List.mem_singleton.mp z, hz] at nD
        cases nD
      have hl2 : ps.length = rs.length := r1.length
      have eD := k3 D _ e1 hDp
      refine ⟨_, eD, ?_, ps ++ [q], rs ++ [r], ?_, ?_, ?_, ?_, ?_, ?_⟩
      · rw [List.length_map, hl2, hl]
        exact Nat.lt_of_lt_of_le (show i < 2000 by omega) (by decide)
      · rw [upd_same, List.map_append] <;> rfl
      · have neD : ∀ {b : Addr} {xs : List V}, H3 b = some (.tup xs) → b ≠ D := fun e z => by
          rw [z, eD] at e
          cases e
        refine paired_app (Paired.mapP r1 fun b r' e => ?_) (.cons ?_ .nil)
        · have e' := k3 b _ e (notin1 e hp2 (by intro z; cases z))
          rw [upd_ne (neD e')]
          exact e'
        · rw [upd_ne (neD eq)]
          exact eq
      · rw [List.length_append, hl] <;> rfl
      · intro r' hr2
        rcases List.mem_append.mp hr2 with z | z
        · exact hf r' z
        · rw [List.mem_singleton.mp z]
          exact hr'
      · exact S1.far nD S3
      · exact k1.far nD (k2.trans k3)
    · rintro Ha ⟨ps, rs, e1, r1, hl, hf, S2, k2⟩
      refine ⟨D, _, rfl, .inl ⟨.inl (.of e1), fun q nq => ?_⟩⟩
      refine k q rs _ hf (by omega) (S2.upd nq) (k2.upd nq) ⟨ps, upd_same, Paired.mapP r1 fun b r' e => by rw [upd_ne (ne_of_none e nq)]; exact e⟩
end
end Ah
end
section
set_option Elab.async false
set_option linter.all false
set_option maxRecDepth 100000
set_option maxHeartbeats 2000000
namespace Ah
open PySem PySem.Spec PyProof.Rows L2
/-! ### alike -/
def Flat : V → Prop
  | .non => True | .bl _ => True | .int _ => True | .str _ => True | _ => False
/-- the same data to the depth n -/
def At (K : PySem.W.Frag) (H : Hp) : Nat → V → V → Prop
  | 0, x, y => x = y ∧ Flat x
  | n + 1, x, y => (x = y ∧ Flat x) ∨ ∃ a b xs ys, x = .ref a ∧ y = .ref b ∧ ((SqT K H a xs ∧ SqT K H b ys) ∨ (H a = some (.lst xs) ∧ H b = some (.lst ys))) ∧ xs.length ≤ 1000000 ∧ Paired (At K H n) xs ys
theorem sqT_kept {K : PySem.W.Frag} {H H' : Hp} {a : Addr} {xs : List V} (k : Kept [] H H') (h : SqT K H a xs) : SqT K H' a xs := by
  rcases h with (h | ⟨o, h⟩) | h
  · exact .inl (.inl (k _ _ h (by simp)))
  · exact .inl (.inr ⟨o, k _ _ h (by simp)⟩)
  · exact .inr h
theorem At.kept {K : PySem.W.Frag} {H H' : Hp} (k : Kept [] H H') : ∀ {n : Nat} {x y : V}, At K H n x y → At K H' n x y
  | 0, _, _, h => h
  | n + 1, _, _, h => by
    rcases h with h | ⟨a, b, xs, ys, e1, e2, h, hl, r⟩
    · exact .inl h
    · refine .inr ⟨a, b, xs, ys, e1, e2, ?_, hl, Paired.mapP r fun x y q => At.kept k q⟩
      rcases h with ⟨h1, h2⟩ | ⟨h1, h2⟩
      · exact .inl ⟨sqT_kept k h1, sqT_kept k h2⟩
      · exact .inr ⟨k _ _ h1 (by simp), k _ _ h2 (by simp)⟩
def spAlike (K : PySem.W.Frag) : Nat → Sp
  | 0 => fun _ _ _ _ => False
  | n + 1 => fun vs H Q _ => ∃ x y : V, vs = [x, y] ∧ At K H n x y ∧ ∀ H', Kept [] H H' → Q (.bl true) H'
theorem scLA : FnScope ["_law_found", "_law_due", "_law_same_kind", "_law_k"] ["_law_found", "_law_due"] (defScope lAlike) := ⟨rfl, rfl, rfl, by decide +kernel, rfl, by decide +kernel, by decide +kernel⟩
/-- built-in names that the module leaves alone -/
structure Bl (mg : Str → Option Value) : Prop where
  isinstance_ : mg "isinstance" = none
  len_ : mg "len" = none
  tuple_ : mg "tuple" = none
  list_ : mg "list" = none
  str_ : mg "str" = none
  bool_ : mg "bool" = none
  range_ : mg "range" = none
  enumerate_ : mg "enumerate" = none
  sorted_ : mg "sorted" = none
  zip_ : mg "zip" = none
  dict_ : mg "dict" = none
  all_ : mg "all" = none
/-- a def of the module's own, its promise, its binding -/
structure Own (P : Program) (w : World) (K : PySem.W.Frag) (mg : Str → Option Value) (base : Heap) (x : Str) (k : Nat) (f : Addr) (fd : FuncData) (ps : List Str) (sp : Sp) : Prop where
  ok : FnOk P w K mg base CX0 k f fd ps sp
  g : mg x = some (.ref f)
  kp : PySem.W.keepIn K (.ref f) = true
  b : Binds K fd ps []
/-- a value's built-in class -/
inductive TyS (K : PySem.W.Frag) (H : Hp) : V → String → Prop where
  | non : TyS K H .non "NoneType"
  | bl (b : Bool) : TyS K H (.bl b) "bool"
  | int (i : Int) : TyS K H (.int i) "int"
  | str (z : Str) : TyS K H (.str z) "str"
  | tup {a : Addr} {xs : List V} (e : SqT K H a xs) : TyS K H (.ref a) "tuple"
  | lst {a : Addr} {xs : List V} (e : H a = some (.lst xs)) : TyS K H (.ref a) "list"
theorem TyS.x {K : PySem.W.Frag} {H : Hp} {v : V} {a : String} (h : TyS K H v a) : TyX K H v (.type a) := by
  cases h with
  | non => exact .base .non
  | bl b => exact .base (.bl b)
  | int i => exact .base (.int i)
  | str z => exact .base (.str z)
  | tup e =>
    rcases e with (e | ⟨o, e⟩) | ⟨o, its, n, h1, h2, _⟩
    · exact .base (.tup e)
    · exact .fTuple e
    · exact .kTuple h1 h2
  | lst e => exact .base (.lst e)
theorem TyS.kept {K : PySem.W.Frag} {H H' : Hp} {v : V} {a : String} (h : TyS K H v a) (k : Kept [] H H') : TyS K H' v a := by
  cases h with
  | non => exact .non
  | bl b => exact .bl b
  | int i => exact .int i
  | str z => exact .str z
  | tup e => exact .tup (sqT_kept k e)
  | lst e => exact .lst (k _ _ e (by simp))
theorem Flat.ty {K : PySem.W.Frag} {H : Hp} {v : V} (h : Flat v) : ∃ a, TyS K H v a ∧ kitB a "tuple" = some false ∧ kitB a "list" = some false ∧ (∃ b, kitB a "str" = some b) ∧ ∃ b, kitB a "bool" = some b := by
  cases v with
  | non => exact ⟨_, .non, by decide +kernel, by decide +kernel, ⟨false, by decide +kernel⟩, false, by decide +kernel⟩
  | bl b => exact ⟨_, .bl b, by decide +kernel, by decide +kernel, ⟨false, by decide +kernel⟩, true, by decide +kernel⟩
  | int b => exact ⟨_, .int b, by decide +kernel, by decide +kernel, ⟨false, by decide +kernel⟩, false, by decide +kernel⟩
  | str b => exact ⟨_, .str b, by decide +kernel, by decide +kernel, ⟨true, by decide +kernel⟩, false, by decide +kernel⟩
  | _ => exact h.elim
theorem iteNF {A B : Prop} {x : V} (hx : x = x) (h : B) : if (!decide (x = x)) = true then A else B := by
  rw [decide_eq_true hx]
  exact iteF h
theorem rd_isi {K : PySem.W.Frag} {σ : L2.St} {H : Hp} {Q : VK} {i : Nat} {v : V} {a c : String} {b : Bool} (hσ : σ[i]? = some (some v)) (ty : TyS K H v a) (kb : kitB a c = some b) (q : Q (.bl b) H) : tCB (rIsi K) (tCons (tVar i) (tCons (tC (.ty c)) tNil)) σ H Q :=
  ⟨v, hσ, v, .ty c, .type a, .type c, b, rfl, .ty c, ty.x, kit_ty kb, q⟩
theorem rd_isi2 {K : PySem.W.Frag} {σ : L2.St} {H : Hp} {Q : VK} {i : Nat} {v : V} {a : String} {b1 b2 : Bool} (hσ : σ[i]? = some (some v)) (ty : TyS K H v a) (k1 : kitB a "tuple" = some b1) (k2 : kitB a "list" = some b2)
    (q : ∀ H', Kept [] H H' → Q (.bl (b1 || b2)) H') : tCB (rIsiT K) (tCons (tVar i) (tCons (tTup (tCons (tC (.ty "tuple")) (tCons (tC (.ty "list")) tNil))) tNil)) σ H Q := by
  refine ⟨v, hσ, by show 2 ≤ sizeLine; decide, fun T nT => ?_⟩
  have k : Kept [] H (upd H T (.tup [.ty "tuple", .ty "list"])) := (Kept.refl H).upd nT
  refine ⟨v, T, _, .type a, [.type "tuple", .type "list"], b1 || b2, rfl, upd_same, .cons (.ty _) (.cons (.ty _) .nil), (ty.kept k).x, ?_, q _ k⟩
  refine kitAny_cons (kit_ty k1) (fun e => ?_) fun e => by rw [e]; rfl
  rw [e]
  exact kitAny_cons (kit_ty k2) (fun e2 => by rw [e2]; exact kitAny_nil) fun e2 => by rw [e2]; rfl
section
variable {P : Program} {w : World} {K : PySem.W.Frag} {mg : Str → Option Value} {base : Heap} {f : Addr} {fd : FuncData}
theorem ok_lalike (F : FnP K "_law_alike" lAlike f fd) (gA : mg "_law_alike" = some (.ref f)) (bA : Binds K fd ["_law_found", "_law_due"] []) (B : Bl mg) : ∀ n : Nat, FnOk P w K mg base CX0 n f fd ["_law_found", "_law_due"] (spAlike K n) := by
  intro n
  induction n with
  | zero => exact ⟨fun vs H Q E h => (show False from h).elim, fun A outer s H args us vs Q E _ _ _ _ h => (show False from h).elim⟩
  | succ n ih =>
    have c__law_alike : Own P w K mg base "_law_alike" n f fd ["_law_found", "_law_due"] (spAlike K n) := ⟨ih, gA, F.kp, bA⟩
    refine F.ok scLA (fun vs H Q E h => ?_) (fun cdv A outer s H vs Q E hr h => ?_)
    · obtain ⟨x, y, rfl, _⟩ := h
      rfl
    · obtain ⟨x, y, rfl, hxy, k⟩ := h
      refine ⟨_, PSs.nox (pss_cons (ps_if (pt_val (pe_callB call_isiT (by rfl) B.isinstance_ (by decide +kernel) (pa_cons (pv 1) (pa_cons (pe_tup (pa_cons (pe_bltn (v := .ty "tuple") (by rfl) B.tuple_ (by decide +kernel) rfl) (pa_cons (pe_bltn (v := .ty "list") (by rfl) B.list_ (by decide +kernel) rfl) pa_nil))) pa_nil)))) (pss_cons (ps_if (PW.pt (pw_or (pt_cmpR op_ne (pe_callB call_isi (by rfl) B.isinstance_ (by decide +kernel) (pa_cons (pv 0) (pa_cons (pe_bltn (v := .ty "tuple") (by rfl) B.tuple_ (by decide +kernel) rfl) pa_nil))) (pe_callB call_isi (by rfl) B.isinstance_ (by decide +kernel) (pa_cons (pv 1) (pa_cons (pe_bltn (v := .ty "tuple") (by rfl) B.tuple_ (by decide +kernel) rfl) pa_nil))) (nomark _)) (pw_or1 (pt_not (pt_val (pe_callB call_isiT (by rfl) B.isinstance_ (by decide +kernel) (pa_cons (pv 0) (pa_cons (pe_tup (pa_cons (pe_bltn (v := .ty "tuple") (by rfl) B.tuple_ (by decide +kernel) rfl) (pa_cons (pe_bltn (v := .ty "list") (by rfl) B.list_ (by decide +kernel) rfl) pa_nil))) pa_nil)))))))) (pss_one (ps_ret pe_bl)) pss_nil)
      (pss_cons (ps_if (pt_cmpR op_ne (pe_callB call_len_seq (by rfl) B.len_ (by decide +kernel) (pa_cons (pv 0) pa_nil)) (pe_callB call_len_seq (by rfl) B.len_ (by decide +kernel) (pa_cons (pv 1) pa_nil)) (nomark _)) (pss_one (ps_ret pe_bl)) pss_nil)
      (pss_one (ps_ret (pe_cmpR (op_eqD hr.units) (pe_lc (own := [("_law_k", 3)]) rfl scLA.nd (pi_range1 (by rfl) B.range_ (pa_cons (pe_callB call_len_seq (by rfl) B.len_ (by decide +kernel) (pa_cons (pv 1) pa_nil)) pa_nil)) (blkOk_by (N := ["_law_found", "_law_due", "_law_same_kind", "_law_k"]) (sc := defScope lAlike) (by decide +kernel)) (fun _ _ _ _ _ => (pg_name (i := 3) scLA.nd rfl (Or.inl rfl))) (fun _ _ _ _ _ => (pts_one (pt_not (pt_val (pe_call c__law_alike.ok hr (by rfl) c__law_alike.g c__law_alike.kp c__law_alike.b .nil pass0 (pa_cons (pe_ix (show IxR _ (rIx K) from ix_seq) (pv 0) (pv 3) (fun _ _ => rfl)) (pa_cons (pe_ix (show IxR _ (rIx K) from ix_seq) (pv 1) (pv 3) (fun _ _ => rfl)) pa_nil))))))) (fun _ _ _ _ _ => (pv 3))) (pe_lst pa_nil) (nomark _)))))) pss_nil)
      (pss_cons (ps_if (PW.pt (pw_or (pt_cmpR op_isN (pv 1) pe_non (nomark _)) (pw_or1 (pt_cmpR op_isN (pv 0) pe_non (nomark _))))) (pss_one (ps_ret (pe_and (pe_cmpR op_isN (pv 1) pe_non (nomark _)) (pe_one (pe_cmpR op_isN (pv 0) pe_non (nomark _)))))) pss_nil)
      (pss_cons (ps_set (i := 2) scLA.nd rfl (.inl rfl) (pe_cmpR op_eq (pe_callB call_isi (by rfl) B.isinstance_ (by decide +kernel) (pa_cons (pv 1) (pa_cons (pe_bltn (v := .ty "str") (by rfl) B.str_ (by decide +kernel) rfl) pa_nil))) (pe_callB call_isi (by rfl) B.isinstance_ (by decide +kernel) (pa_cons (pv 0) (pa_cons (pe_bltn (v := .ty "str") (by rfl) B.str_ (by decide +kernel) rfl) pa_nil))) (nomark _)))
      (pss_one (ps_ret (pe_and (pv 2) (pe_and (pe_cmpR op_eq (pe_callB call_isi (by rfl) B.isinstance_ (by decide +kernel) (pa_cons (pv 1) (pa_cons (pe_bltn (v := .ty "bool") (by rfl) B.bool_ (by decide +kernel) rfl) pa_nil))) (pe_callB call_isi (by rfl) B.isinstance_ (by decide +kernel) (pa_cons (pv 0) (pa_cons (pe_bltn (v := .ty "bool") (by rfl) B.bool_ (by decide +kernel) rfl) pa_nil))) (nomark _)) (pe_one (pe_cmpR op_eq (pv 0) (pv 1) (nomark _)))))))))), ?_⟩
      have flat : ∀ (exy : x = y) (hf : Flat x), ∃ a b1 b2, TyS K H x a ∧ kitB a "tuple" = some false ∧ kitB a "list" = some false ∧ kitB a "str" = some b1 ∧ kitB a "bool" = some b2 := fun _ hf => by
        obtain ⟨a, h1, h2, h3, ⟨b1, h4⟩, b2, h5⟩ := hf.ty (K := K) (H := H)
        exact ⟨a, b1, b2, h1, h2, h3, h4, h5⟩
      have main : (x = y ∧ Flat x) ∨ ∃ m, n = m + 1 ∧ ∃ a b xs ys, x = .ref a ∧ y = .ref b ∧ ((SqT K H a xs ∧ SqT K H b ys) ∨ (H a = some (.lst xs) ∧ H b = some (.lst ys))) ∧ xs.length ≤ 1000000 ∧ Paired (At K H m) xs ys := by
        cases n with
        | zero => exact .inl hxy
        | succ m => exact hxy.imp id fun h => ⟨m, rfl, h⟩
      rcases main with ⟨exy, hf⟩ | ⟨m, rfl, a, b, xs, ys, rfl, rfl, hab, hl, r⟩
      · subst exy
        obtain ⟨a, b1, b2, ty, t1, t2, t3, t4⟩ := flat rfl hf
        refine rd_isi2 rfl ty t1 t2 fun H1 k1 => ⟨_, rfl, ?_⟩
        refine iteF ?_
        by_cases hx : x = .non
        · subst hx
          refine ⟨_, rfl, rfl, _, rfl, ?_⟩
          rw [decide_eq_true rfl]
          refine iteT (iteT ⟨_, rfl, rfl, _, rfl, ?_⟩)
          rw [decide_eq_true rfl]
          exact iteT ⟨_, rfl, rfl, k H1 k1⟩
        · refine ⟨_, rfl, rfl, _, rfl, ?_⟩
          rw [decide_eq_false hx]
          refine iteF ⟨_, rfl, rfl, _, rfl, ?_⟩
          rw [decide_eq_false hx]
          refine iteF ?_
          have ty1 := ty.kept k1
          refine op_of (rd_isi rfl ty1 t3 (rd_isi rfl ty1 t3 ⟨by cases b1 <;> rfl, ?_⟩))
          rw [decide_eq_true rfl]
          refine ⟨_, rfl, _, rfl, iteT ?_⟩
          refine op_of (rd_isi rfl ty1 t4 (rd_isi rfl ty1 t4 ⟨by cases b2 <;> rfl, ?_⟩))
          rw [decide_eq_true rfl]
          refine ⟨_, rfl, iteT ⟨_, rfl, _, rfl, ?_, ?_⟩⟩
          · cases x <;> first | rfl | exact hf.elim | exact (hx rfl).elim
          · rw [decide_eq_true rfl]
            exact k H1 k1
      · obtain ⟨ta, tya, tyb, ka, kb⟩ : ∃ ta, TyS K H (.ref a) ta ∧ TyS K H (.ref b) ta ∧ (∃ b1, kitB ta "tuple" = some b1 ∧ kitB ta "list" = some !b1) ∧ True := by
          rcases hab with ⟨h1, h2⟩ | ⟨h1, h2⟩
          · exact ⟨_, .tup h1, .tup h2, ⟨true, by decide +kernel, by decide +kernel⟩, trivial⟩
          · exact ⟨_, .lst h1, .lst h2, ⟨false, by decide +kernel, by decide +kernel⟩, trivial⟩
        obtain ⟨b1, ka1, ka2⟩ := ka
        have hb : (b1 || !b1) = true := by cases b1 <;> rfl
        refine rd_isi2 rfl tyb ka1 ka2 fun H1 k1 => ⟨_, rfl, ?_⟩
        rw [hb]
        refine iteT ?_
        refine op_of (rd_isi rfl (tya.kept k1) ka1 (rd_isi rfl (tyb.kept k1) ka1 ⟨by cases b1 <;> rfl, ⟨_, rfl, ?_⟩⟩))
        refine iteNF rfl ?_
        refine rd_isi2 rfl (tya.kept k1) ka1 ka2 fun H2 k2 => ⟨_, rfl, ?_⟩
        rw [hb]
        refine iteF ?_
        have hlen : xs.length = ys.length := r.length
        have k12 := k1.trans k2
        have sq : ∀ {H'}, Kept [] H H' → (SqL K H' a xs ∨ SqT K H' a xs) ∧ (SqL K H' b ys ∨ SqT K H' b ys) := fun k' => by
          rcases hab with ⟨h1, h2⟩ | ⟨h1, h2⟩
          · exact ⟨.inr (sqT_kept k' h1), .inr (sqT_kept k' h2)⟩
          · exact ⟨.inl (.inl (.of (k' _ _ h1 (by simp)))), .inl (.inl (.of (k' _ _ h2 (by simp))))⟩
        refine ⟨_, rfl, a, xs, rfl, (sq k12).1, ⟨_, rfl, b, ys, rfl, (sq k12).2, rfl, ⟨_, rfl, ?_⟩⟩⟩
        rw [hlen]
        refine iteNF rfl ?_
        refine ⟨_, rfl, b, ys, rfl, (sq k12).2, _, rfl, by omega, by omega, fun D nD => ?_⟩
        rw [Int.toNat_natCast]
        refine lc_range (lo := 0) (n := ys.length) (fun i H' => Kept [] H H' ∧ H' D = some (.lst [])) ⟨k12.upd nD, upd_same⟩ ?_ ?_
        · rintro i Ha hi ⟨ka, eD⟩
          refine ⟨rfl, ?_⟩
          have hi' : i < xs.length := by omega
          obtain ⟨y1, ey, hxy'⟩ := paired_at r (List.getElem?_eq_getElem hi')
          have ix : ∀ {c : Addr} {zs : List V} {v : V} {QQ : VK}, (SqL K Ha c zs ∨ SqT K Ha c zs) → zs[i]? = some v → QQ v Ha → rIx K (.ref c) (.int (0 + (i : Int))) Ha QQ := fun {c zs v QQ} h e q => by
            have e' : atI zs (0 + (i : Int)) = some v := at_of (by omega) e
            rcases h with h | h
            · exact .inl ⟨c, zs, _, v, rfl, rfl, h, e', q⟩
            · exact .inr (.inl ⟨c, zs, _, v, rfl, rfl, h, e', q⟩)
          refine ⟨_, rfl, _, rfl, ix (sq ka).1 (List.getElem?_eq_getElem hi') ⟨_, rfl, _, rfl, ix (sq ka).2 ey ?_⟩⟩
          refine ⟨_, _, rfl, hxy'.kept ka, fun H3 k3 => ⟨_, rfl, ?_⟩⟩
          exact iteF (B := Kept [] H H3 ∧ H3 D = some (.lst [])) ⟨ka.trans k3, k3 _ _ eD (by simp)⟩
        · rintro Ha ⟨ka, eD⟩
          refine ⟨by show 0 ≤ sizeLine; decide, fun q nq => ?_⟩
          refine ⟨.list [], .list [], .lst (.inl (.of (by rw [upd_ne (ne_of_none eD nq)]; exact eD))) .nil, .lst (.inl (.of upd_same)) .nil, rfl, rfl, ?_⟩
          exact k _ (ka.upd nq)
end
end Ah
end
section
set_option Elab.async false
set_option linter.all false
set_option maxRecDepth 100000
set_option maxHeartbeats 2000000
namespace Ah
open PySem PySem.Spec PyProof.Rows L2
open GxR (TabB TabG Tabbed)
open GxG
/-! ### deeds -/
/-- the module's dict DEEDS -/
structure TD (K : PySem.W.Frag) (w : World) (mg : Str → Option Value) (d : Addr) : Prop where
  at_ : mg "DEEDS" = some (.ref d)
  kd : ∃ es n, KDict K w d es n
  val : ∀ z n, deedsL.lookup z = some n → ∃ t, PySem.W.nsIn K d z = some (some (.int (n : Int) t))
  out : ∀ z, deedsL.lookup z = none → PySem.W.nsIn K d z = some none
def isDeedL : List V → Bool
  | .str h :: rest => (match deedsL.lookup h with
    | some n => decide (rest.length + 1 = n)
    | none => false)
  | _ => false
def DeedV (K : PySem.W.Frag) (H : Hp) (v : V) (b : Bool) : Prop := (((∃ z, v = .str z) ∨ v = .non ∨ (∃ i, v = .int i) ∨ ∃ a xs, v = .ref a ∧ H a = some (.lst xs)) ∧ b = false) ∨ ∃ a xs, v = .ref a ∧ SqT K H a xs ∧ xs.length ≤ 1000 ∧ (∀ h, xs.head? = some h → PlainV H h) ∧ b = isDeedL xs
def spDeed (K : PySem.W.Frag) : Sp := fun vs H Q _ => ∃ (v : V) (b : Bool), vs = [v] ∧ DeedV K H v b ∧ Q (.bl b) H
theorem scDd : FnScope ["deed"] ["deed"] (defScope sIsDeed) := ⟨rfl, rfl, rfl, by decide +kernel, rfl, by decide +kernel, by decide +kernel⟩
section
variable {P : Program} {w : World} {K : PySem.W.Frag} {mg : Str → Option Value} {base : Heap} {f d : Addr} {fd : FuncData}
theorem ok_deed (F : FnP K "is_deed" sIsDeed f fd) (W : TW K mg) (D : TD K w mg d) : FnOk P w K mg base CX0 1 f fd ["deed"] (spDeed K) := by
  refine F.ok scDd (fun vs H Q E h => ?_) (fun cdv A outer s H vs Q E hr h => ?_)
  · obtain ⟨v, b, rfl, _⟩ := h
    rfl
  · obtain ⟨v, b, rfl, hv, k⟩ := h
    obtain ⟨es, nn, kd⟩ := D.kd
    refine ⟨_, pss_cons (ps_if (PW.pt (pw_or (pt_not (pt_val (pe_callB call_isi (by rfl) W.isi (by decide +kernel) (pa_cons (pv 0) (pa_cons (pe_bltn (v := .ty "tuple") (by rfl) W.tup (by decide +kernel) rfl) pa_nil)))))
        (pw_or (pt_not (pt_truth (pv 0) (by intro _; rfl)))
        (pw_or1 (pt_not (pt_val (pe_callB call_isi (by rfl) W.isi (by decide +kernel) (pa_cons (pe_ix ix_tup (pv 0) pe_int (fun _ _ => rfl)) (pa_cons (pe_bltn (v := .ty "str") (by rfl) W.str (by decide +kernel) rfl) pa_nil)))))))))
        (pss_one (ps_ret pe_bl)) pss_nil)
      (pss_one (ps_ret (pe_and (pe_cmpR (op_in_kd kd) (pe_ix ix_tup (pv 0) pe_int (fun _ _ => rfl)) (pe_glob (v := .ref d) (by rfl) D.at_ rfl) (by rfl))
        (pe_one (pe_cmpR op_eq (pe_callB call_len_seq (by rfl) W.len (by decide +kernel) (pa_cons (pv 0) pa_nil))
          (pe_ix ix_kdict (pe_glob (v := .ref d) (by rfl) D.at_ rfl) (pe_ix ix_tup (pv 0) pe_int (fun _ _ => rfl)) (fun _ _ => rfl)) (nomark _)))))), ?_⟩
    rcases hv with ⟨hn, rfl⟩ | ⟨a, xs, rfl, hx, hl, hp, rfl⟩
    · rcases hn with ⟨z, rfl⟩ | rfl | ⟨i, rfl⟩ | ⟨a, xs, rfl, e⟩
      · exact ⟨_, rfl, _, _, _, _, false, rfl, ClsV.ty _, TyX.base (.str z), kit_ty (by decide +kernel), false, rfl, iteT (iteT k)⟩
      · exact ⟨_, rfl, _, _, _, _, false, rfl, ClsV.ty _, TyX.base .non, kit_ty (by decide +kernel), false, rfl, iteT (iteT k)⟩
      · exact ⟨_, rfl, _, _, _, _, false, rfl, ClsV.ty _, TyX.base (.int i), kit_ty (by decide +kernel), false, rfl, iteT (iteT k)⟩
      · exact ⟨_, rfl, _, _, _, _, false, rfl, ClsV.ty _, TyX.base (.lst e), kit_ty (by decide +kernel), false, rfl, iteT (iteT k)⟩
    · have sx : SqT K H a xs := hx
      refine ⟨_, rfl, _, _, _, _, true, rfl, ClsV.ty _, tyTup hx, kit_ty (by decide +kernel), true, rfl, ?_⟩
      refine iteF ⟨_, rfl, !xs.isEmpty, .inr (.inl ⟨xs, sx, rfl⟩), ?_⟩
      cases xs with
      | nil => exact iteT (iteT k)
      | cons h rest =>
        have ph := hp h rfl
        refine iteF ⟨_, rfl, a, _, 0, h, rfl, rfl, sx, at_of (j := 0) rfl rfl, ?_⟩
        rcases ph with ⟨z, rfl, hz⟩ | rfl | ⟨i, rfl⟩ | ⟨a', ys, rfl, e | e⟩
        · refine ⟨_, _, _, _, true, rfl, ClsV.ty _, TyX.base (.str z), kit_ty (by decide +kernel), true, rfl, ?_⟩
          refine iteF ?_
          refine ⟨_, rfl, a, _, 0, .str z, rfl, rfl, sx, at_of (j := 0) rfl rfl, ?_⟩
          cases hf : deedsL.lookup z with
          | none =>
            have e : isDeedL (.str z :: rest) = false := by
              show (match deedsL.lookup z with
                | some n => decide (rest.length + 1 = n)
                | none => false) = false
              rw [hf]
            rw [e] at k
            refine ⟨z, _, rfl, rfl, D.out z hf, _, rfl, ?_⟩
            exact iteF k
          | some n =>
            obtain ⟨t, e1⟩ := D.val z n hf
            have er : isDeedL (.str z :: rest) = decide (rest.length + 1 = n) := by
              show (match deedsL.lookup z with
                | some n => decide (rest.length + 1 = n)
                | none => false) = _
              rw [hf]
            rw [er] at k
            refine ⟨z, _, rfl, rfl, e1, _, rfl, ?_⟩
            refine iteT ?_
            refine ⟨_, rfl, a, _, rfl, .inr sx, ?_⟩
            refine ⟨_, rfl, a, _, 0, .str z, rfl, rfl, sx, at_of (j := 0) rfl rfl, d, z, .int n, rfl, rfl, ⟨es, nn, _, kd.at_, kd.lit, e1, ⟨_, rfl⟩⟩, ?_⟩
            refine ⟨rfl, ?_⟩
            have ed : decide (V.int (((V.str z :: rest).length : Nat) : Int) = V.int (n : Int)) = decide (rest.length + 1 = n) := by
              rw [List.length_cons]
              by_cases e : rest.length + 1 = n
              · rw [decide_eq_true e, e]
                exact decide_eq_true rfl
              · rw [decide_eq_false e]
                refine decide_eq_false fun q => e ?_
                have := V.int.inj q
                omega
            rw [ed]
            exact k
        · exact ⟨_, _, _, _, false, rfl, ClsV.ty _, TyX.base .non, kit_ty (by decide +kernel), false, rfl, iteT k⟩
        · exact ⟨_, _, _, _, false, rfl, ClsV.ty _, TyX.base (.int i), kit_ty (by decide +kernel), false, rfl, iteT k⟩
        · exact ⟨_, _, _, _, false, rfl, ClsV.ty _, TyX.base (.tup e), kit_ty (by decide +kernel), false, rfl, iteT k⟩
        · exact ⟨_, _, _, _, false, rfl, ClsV.ty _, TyX.base (.lst e), kit_ty (by decide +kernel), false, rfl, iteT k⟩
end
end Ah
end
section
set_option Elab.async false
set_option linter.all false
set_option maxRecDepth 100000
set_option maxHeartbeats 2000000
namespace Ah
open PySem PySem.Spec PyProof.Rows L2
open GxR (TabB TabG Tabbed)
open GxG
/-! ### check_deeds -/
theorem noT {H : Hp} : ∀ P ∈ ([] : List Addr), TabG H P := fun P h => nomatch h
theorem Kp.nil {H : Hp} : Kp [] H H := ⟨noT, fun _ _ e _ => e⟩
theorem Kp.at {H H' : Hp} {a : Addr} {o : HO} (k : Kp [] H H') (e : H a = some o) : H' a = some o := k.keep a o e fun h => nomatch h
theorem DeedV.kp {K : PySem.W.Frag} {H H' : Hp} {v : V} {b : Bool} (k : Kp [] H H') (h : DeedV K H v b) : DeedV K H' v b := by
  rcases h with ⟨hn, rfl⟩ | ⟨a, xs, rfl, hx, hl, hp, rfl⟩
  · refine .inl ⟨?_, rfl⟩
    rcases hn with h | h | h | ⟨a, xs, e, ha⟩
    · exact .inl h
    · exact .inr (.inl h)
    · exact .inr (.inr (.inl h))
    · exact .inr (.inr (.inr ⟨a, xs, e, k.at ha⟩))
  · exact .inr ⟨a, xs, rfl, Kp.sqT noT k hx, hl, fun h e => (hp h e).kp noT k, rfl⟩
/-- what is no list -/
def NotL (K : PySem.W.Frag) (H : Hp) (v : V) : Prop := (∃ z, v = .str z) ∨ v = .non ∨ (∃ i, v = .int i) ∨ ∃ a xs, v = .ref a ∧ SqT K H a xs
def wBad (E : XK) (C : Addr) (H : Hp) (j : Int) : Prop := ∀ H' d, Kp [] H H' → H' d = none → E (.ref C) (some d) (upd H' d (.xd [("number", .int j)]))
def spChD (K : PySem.W.Frag) (C : Addr) : Sp := fun vs H Q E => ∃ v, vs = [v] ∧ ((NotL K H v ∧ wBad E C H 0) ∨
  ∃ (l : Addr) (ds : List V) (good : V → Bool), v = .ref l ∧ H l = some (.lst ds) ∧ (∀ x ∈ ds, DeedV K H x (good x)) ∧ (ds.all good = true → ∀ H', Kp [] H H' → Q .non H') ∧
    ∀ (j : Nat) x, ds[j]? = some x → good x = false → (∀ (m : Nat) y, m < j → ds[m]? = some y → good y = true) → wBad E C H (j : Int))
theorem scCD : FnScope ["deeds", "number", "deed"] ["deeds"] (defScope sCheckDeeds) := ⟨rfl, rfl, rfl, by decide +kernel, rfl, by decide +kernel, by decide +kernel⟩
section
variable {P : Program} {w : World} {K : PySem.W.Frag} {mg : Str → Option Value} {base : Heap} {f fD fI C : Addr} {fd fdD fdI : FuncData} {psI : List Str}
theorem ok_checkdeeds (F : FnP K "check_deeds" sCheckDeeds f fd) (W : TW K mg) (hL : mg "list" = none) (gD : mg "is_deed" = some (.ref fD)) (FD : FnOk P w K mg base CX0 1 fD fdD ["deed"] (spDeed K)) (kD : PySem.W.keepIn K (.ref fD) = true) (bD : Binds K fdD ["deed"] [])
    (R : One K C fI "number") (FI : FnOk P w K mg base (L2.CX P w) 1 fI fdI psI (spErr1 C "number")) (bI : Binds K fdI psI []) (gB : mg "BadDeed" = some (.ref C)) : FnOk P w K mg base (L2.CX P w) 3 f fd ["deeds"] (spChD K C) := by
  refine F.ok scCD (fun vs H Q E h => ?_) (fun cdv A outer s H vs Q E hr h => ?_)
  · obtain ⟨v, rfl, _⟩ := h
    rfl
  · obtain ⟨v, rfl, h⟩ := h
    refine ⟨_, pss_cons (ps_if (pt_not (pt_val (pe_callB call_isi (by rfl) W.isi (by decide +kernel) (pa_cons (pv 0) (pa_cons (pe_bltn (v := .ty "list") (by rfl) hL (by decide +kernel) rfl) pa_nil)))))
        (pss_one (ps_raise1 rfl (takes_of rfl rfl rfl rfl) R FI hr bI (by rfl) gB pe_int)) pss_nil)
      (pss_one (ps_for (passes_of rfl) rfl (pi_enum (by rfl) W.enu (pa_cons (pv 0) pa_nil)) (pg_tup rfl (pgs_cons (pg_name (i := 1) scCD.nd rfl (.inl rfl)) (pgs_cons (pg_name (i := 2) scCD.nd rfl (.inl rfl)) pgs_nil)))
        (pss_one (ps_if (pt_not (pt_val (pe_call FD (hr.mono (by decide)) (by rfl) gD kD bD .nil pass0 (pa_cons (pv 2) pa_nil))))
          (pss_one (ps_raise1 rfl (takes_of rfl rfl rfl rfl) R FI hr bI (by rfl) gB (pv 1))) pss_nil)))), ?_⟩
    rcases h with ⟨hn, hw⟩ | ⟨l, ds, good, rfl, hl, hd, hgood, hbad⟩
    · rcases hn with ⟨z, rfl⟩ | rfl | ⟨i, rfl⟩ | ⟨a, xs, rfl, e⟩
      · exact ⟨_, rfl, _, _, _, _, false, rfl, ClsV.ty _, TyX.base (.str z), kit_ty (by decide +kernel), false, rfl, iteT (one_q fun d hd => hw H d .nil hd)⟩
      · exact ⟨_, rfl, _, _, _, _, false, rfl, ClsV.ty _, TyX.base .non, kit_ty (by decide +kernel), false, rfl, iteT (one_q fun d hd => hw H d .nil hd)⟩
      · exact ⟨_, rfl, _, _, _, _, false, rfl, ClsV.ty _, TyX.base (.int i), kit_ty (by decide +kernel), false, rfl, iteT (one_q fun d hd => hw H d .nil hd)⟩
      · exact ⟨_, rfl, _, _, _, _, false, rfl, ClsV.ty _, tyTup e, kit_ty (by decide +kernel), false, rfl, iteT (one_q fun d hd => hw H d .nil hd)⟩
    · refine ⟨_, rfl, _, _, _, _, true, rfl, ClsV.ty _, TyX.base (.lst hl), kit_ty (by decide +kernel), true, rfl, ?_⟩
      refine iteF ?_
      refine ⟨_, rfl, l, ds, rfl, SqL.of hl, for_it (walk_enum (K := K) (a := l) (xs := ds)) (fun i σ H' => (∃ v1 v2, σ = [some (.ref l), v1, v2]) ∧ Kp [] H H' ∧ ∀ (m : Nat) y, m < i → ds[m]? = some y → good y = true) ⟨⟨_, _, rfl⟩, .nil, fun m _ hm => absurd hm (Nat.not_lt_zero m)⟩ (fun i σ H' _ pv => SqL.of (pv.2.1.at hl)) ?_ ?_⟩
      · rintro i x σ Ha Hb hi ⟨⟨v1, v2, rfl⟩, kp, hg⟩ ⟨Tp, x1, x2, rfl, nT, rfl, e1, e2⟩
        cases e1
        have e2 : ds[i]? = some x2 := e2
        have kp1 : Kp [] H (L2.upd Ha Tp (.tup [.int (i : Nat), x2])) := kp.upd nT
        refine ⟨Tp, _, rfl, .inl (.of upd_same), rfl, ?_⟩
        have dx := (hd x2 (List.mem_of_getElem? e2)).kp kp1
        refine ⟨_, _, rfl, _, _, rfl, rfl, ?_⟩
        refine ⟨_, rfl, x2, good x2, rfl, dx, _, rfl, ?_⟩
        cases hgx : good x2 with
        | true =>
          refine iteF ⟨⟨_, _, rfl⟩, kp1, fun m y hm hy => ?_⟩
          by_cases e : m = i
          · rw [e, e2] at hy
            cases hy
            exact hgx
          · exact hg m y (by omega) hy
        | false =>
          refine iteT ⟨_, rfl, one_q fun d hd => ?_⟩
          exact hbad i x2 e2 hgx hg _ d kp1 hd
      · rintro σ H' ⟨_, kp, hg⟩
        exact hgood (List.all_eq_true.mpr fun x hx => by
          obtain ⟨m, hm, e⟩ := List.mem_iff_getElem.mp hx
          exact hg m x hm (by rw [List.getElem?_eq_getElem hm, e])) H' kp
end
end Ah
end
section
set_option Elab.async false
set_option linter.all false
set_option maxRecDepth 100000
set_option maxHeartbeats 2000000
namespace Ah
open PySem PySem.Spec PyProof.Rows L2
open GxR (TabB TabG Tabbed)
open GxG
/-! ### houses -/
abbrev MthP (K : PySem.W.Frag) (x q : Str) (st : Stmt) (f : Addr) (fd : FuncData) : Prop := FunD K x q (defArgs st) (defBody st) (defScope st) [] [] f fd
structure ClsH (K : PySem.W.Frag) (C : Addr) : Prop where
  c : Cls K C
  n1 : NoAttr K C "standing"
  n2 : NoAttr K C "asked"
  n3 : NoAttr K C "events"
  n4 : NoAttr K C "idle"
def fsH (rv ak ev : V) (b : Bool) : List (Str × V) := [("standing", rv), ("asked", ak), ("events", ev), ("idle", .bl b)]
structure HSt (H : Hp) (x dx C ak ev : Addr) (rv : V) (evs : List Str) (b : Bool) : Prop where
  ob : H x = some (.ins C dx (fsH rv (.ref ak) (.ref ev) b))
  ev : H ev = some (.lst (evs.map V.str))
  le : evs.length ≤ 100
theorem HSt.kept {H H' : Hp} {x dx C ak ev : Addr} {rv : V} {evs : List Str} {b : Bool} (S : HSt H x dx C ak ev rv evs b) (k : Kept [] H H') : HSt H' x dx C ak ev rv evs b := ⟨k _ _ S.ob (by simp), k _ _ S.ev (by simp), S.le⟩
def spHNo (C : Addr) (g : V → List Str → Bool → V) : Sp := fun vs H Q _ => ∃ (x dx ak ev : Addr) (rv : V) (evs : List Str) (b : Bool), vs = [.ref x] ∧ HSt H x dx C ak ev rv evs b ∧ Q (g rv evs b) H
def spHTold (C : Addr) : Sp := fun vs H Q _ => ∃ (x dx ak ev : Addr) (rv : V) (evs : List Str) (b : Bool), vs = [.ref x] ∧ HSt H x dx C ak ev rv evs b ∧ ∀ l, H l = none → Q (.ref l) (upd H l (.lst (evs.map V.str)))
def spHEv (C : Addr) (z : Str) (b1 : Bool) : Sp := fun vs H Q _ => ∃ (x dx ak ev : Addr) (rv : V) (evs : List Str) (b : Bool), vs = [.ref x] ∧ HSt H x dx C ak ev rv evs b ∧ evs.length < 100 ∧
  ∀ H', Kept [x, ev] H H' → HSt H' x dx C ak ev rv (evs ++ [z]) b1 → Q .non H'
theorem sc1 {st : Stmt} (h : FnScope ["self"] ["self"] (defScope st)) : FnScope ["self"] ["self"] (defScope st) := h
theorem scHT : FnScope ["self"] ["self"] (defScope sHouseText) := ⟨rfl, rfl, rfl, by decide +kernel, rfl, by decide +kernel, by decide +kernel⟩
theorem scHI : FnScope ["self"] ["self"] (defScope sHouseIsIdle) := ⟨rfl, rfl, rfl, by decide +kernel, rfl, by decide +kernel, by decide +kernel⟩
theorem scHTo : FnScope ["self"] ["self"] (defScope sHouseTold) := ⟨rfl, rfl, rfl, by decide +kernel, rfl, by decide +kernel, by decide +kernel⟩
theorem scHB : FnScope ["self"] ["self"] (defScope sHouseBegin) := ⟨rfl, rfl, rfl, by decide +kernel, rfl, by decide +kernel, by decide +kernel⟩
theorem scHE : FnScope ["self"] ["self"] (defScope sHouseEnd) := ⟨rfl, rfl, rfl, by decide +kernel, rfl, by decide +kernel, by decide +kernel⟩
section
variable {P : Program} {w : World} {K : PySem.W.Frag} {mg : Str → Option Value} {base : Heap} {f C : Addr} {fd : FuncData}
theorem ok_htext (F : MthP K "text" "House.text" sHouseText f fd) (CH : ClsH K C) : FnOk P w K mg base CX0 1 f fd ["self"] (spHNo C fun rv _ _ => rv) := by
  refine F.ok scHT (fun vs H Q E h => ?_) (fun cdv A outer s H vs Q E hr h => ?_)
  · obtain ⟨x, dx, ak, ev, rv, evs, b, rfl, _⟩ := h
    rfl
  · obtain ⟨x, dx, ak, ev, rv, evs, b, rfl, S, k⟩ := h
    refine ⟨_, PSs.nox (pss_one (ps_ret (pe_fld (pv 0) rfl))), ?_⟩
    exact ⟨_, rfl, x, C, dx, _, _, rfl, S.ob, CH.c, CH.n1, rfl, k⟩
theorem ok_hidle (F : MthP K "is_idle" "House.is_idle" sHouseIsIdle f fd) (CH : ClsH K C) : FnOk P w K mg base CX0 1 f fd ["self"] (spHNo C fun _ _ b => .bl b) := by
  refine F.ok scHI (fun vs H Q E h => ?_) (fun cdv A outer s H vs Q E hr h => ?_)
  · obtain ⟨x, dx, ak, ev, rv, evs, b, rfl, _⟩ := h
    rfl
  · obtain ⟨x, dx, ak, ev, rv, evs, b, rfl, S, k⟩ := h
    refine ⟨_, PSs.nox (pss_one (ps_ret (pe_fld (pv 0) rfl))), ?_⟩
    exact ⟨_, rfl, x, C, dx, _, _, rfl, S.ob, CH.c, CH.n4, rfl, k⟩
theorem ok_htold (F : MthP K "told" "House.told" sHouseTold f fd) (CH : ClsH K C) (hL : mg "list" = none) : FnOk P w K mg base CX0 1 f fd ["self"] (spHTold C) := by
  refine F.ok scHTo (fun vs H Q E h => ?_) (fun cdv A outer s H vs Q E hr h => ?_)
  · obtain ⟨x, dx, ak, ev, rv, evs, b, rfl, _⟩ := h
    rfl
  · obtain ⟨x, dx, ak, ev, rv, evs, b, rfl, S, k⟩ := h
    refine ⟨_, PSs.nox (pss_one (ps_ret (pe_callTy call_list_of (by rfl) hL (by decide +kernel) (pa_cons (pe_fld (pv 0) rfl) pa_nil)))), ?_⟩
    exact ⟨_, rfl, x, C, dx, _, _, rfl, S.ob, CH.c, CH.n3, rfl, ev, _, rfl, .inl (SqL.of S.ev), fun l hl => k l hl⟩
theorem ok_hbegin (F : MthP K "begin" "House.begin" sHouseBegin f fd) (CH : ClsH K C) : FnOk P w K mg base CX0 1 f fd ["self"] (spHEv C "begun" false) := by
  refine F.ok scHB (fun vs H Q E h => ?_) (fun cdv A outer s H vs Q E hr h => ?_)
  · obtain ⟨x, dx, ak, ev, rv, evs, b, rfl, _⟩ := h
    rfl
  · obtain ⟨x, dx, ak, ev, rv, evs, b, rfl, S, hl, k⟩ := h
    refine ⟨_, PSs.nox (pss_cons (ps_fld (pv 0) pe_bl rfl)
      (pss_one (ps_expr (pe_bm PySem.F.plainAttrs_list PySem.F.slot_list_append PySem.F.type_list_append mt_append (pe_fld (pv 0) rfl) (pa_cons pe_str pa_nil))))), ?_⟩
    refine ⟨_, rfl, x, C, dx, _, rfl, S.ob, CH.c, CH.n4, by show (4 : Nat) < 1000; decide, ?_⟩
    have ne : ev ≠ x := fun z => by
      have e := S.ev
      rw [z, S.ob] at e
      cases e
    refine ⟨_, rfl, x, C, dx, _, _, rfl, upd_same, CH.c, CH.n3, rfl, .inl ⟨rfl, _, SqL.of (by rw [upd_ne ne]; exact S.ev)⟩, ev, _, _, rfl, rfl, by rw [upd_ne ne]; exact S.ev, by rw [List.length_map, sizeLine_eq]; omega, ?_⟩
    refine k _ (fun b o e hb => ?_) ⟨?_, ?_, by simp; omega⟩
    · simp only [List.mem_cons, List.mem_nil_iff, or_false, not_or] at hb
      rw [upd_ne hb.2, upd_ne hb.1]
      exact e
    · rw [upd_ne (Ne.symm ne), upd_same]
      rfl
    · rw [upd_same, List.map_append]
      rfl
theorem ok_hend (F : MthP K "end" "House.end" sHouseEnd f fd) (CH : ClsH K C) : FnOk P w K mg base CX0 1 f fd ["self"] (spHEv C "ended" true) := by
  refine F.ok scHE (fun vs H Q E h => ?_) (fun cdv A outer s H vs Q E hr h => ?_)
  · obtain ⟨x, dx, ak, ev, rv, evs, b, rfl, _⟩ := h
    rfl
  · obtain ⟨x, dx, ak, ev, rv, evs, b, rfl, S, hl, k⟩ := h
    refine ⟨_, PSs.nox (pss_cons (ps_expr (pe_bm PySem.F.plainAttrs_list PySem.F.slot_list_append PySem.F.type_list_append mt_append (pe_fld (pv 0) rfl) (pa_cons pe_str pa_nil)))
      (pss_one (ps_fld (pv 0) pe_bl rfl))), ?_⟩
    have ne : ev ≠ x := fun z => by
      have e := S.ev
      rw [z, S.ob] at e
      cases e
    refine ⟨_, rfl, x, C, dx, _, _, rfl, S.ob, CH.c, CH.n3, rfl, .inl ⟨rfl, _, SqL.of S.ev⟩, ev, _, _, rfl, rfl, S.ev, by rw [List.length_map, sizeLine_eq]; omega, ?_⟩
    refine ⟨_, rfl, x, C, dx, _, rfl, by rw [upd_ne (Ne.symm ne)]; exact S.ob, CH.c, CH.n4, by show (4 : Nat) < 1000; decide, ?_⟩
    refine k _ (fun b o e hb => ?_) ⟨?_, ?_, by simp; omega⟩
    · simp only [List.mem_cons, List.mem_nil_iff, or_false, not_or] at hb
      rw [upd_ne hb.1, upd_ne hb.2]
      exact e
    · rw [upd_same]
      rfl
    · rw [upd_ne ne, upd_same, List.map_append]
      rfl
end
end Ah
end
section
set_option Elab.async false
set_option linter.all false
set_option maxRecDepth 100000
set_option maxHeartbeats 2000000
namespace Ah
open PySem PySem.Spec PyProof.Rows L2
open GxR (TabB TabG Tabbed)
open GxG
/-! ### slices and sums of tuples -/
theorem slA_v {K : PySem.W.Frag} {H : Hp} {a : Addr} {xs : List V} {lo hi : Option Int} {Q : VK} (h : H a = some (.tup xs)) (k : ∀ q H', Kept [] H H' → H' q = some (.tup (cutV xs lo hi)) → Q (.ref q) H') : rSlA K (.ref a) lo hi H Q := by
  refine ⟨a, xs, rfl, .inl (.of h), fun ⟨w1, w2⟩ => ?_, fun _ p np => k p _ ((Kept.refl H).upd np) upd_same⟩
  have e : cutV xs lo hi = xs := by
    unfold cutV
    rw [w1, w2, List.drop_zero, Nat.sub_zero, List.take_of_length_le (Nat.le_refl _)]
  refine k a H (Kept.refl H) ?_
  rw [e]
  exact h
theorem catA_v {K : PySem.W.Frag} {H : Hp} {q1 q2 : Addr} {xs ys : List V} {Q : VK} (h1 : H q1 = some (.tup xs)) (h2 : H q2 = some (.tup ys)) (hl : xs.length + ys.length ≤ 1000) (k : ∀ q' H', Kept [] H H' → H' q' = some (.tup (xs ++ ys)) → Q (.ref q') H') : rCatA K (.ref q1) (.ref q2) H Q := by
  refine ⟨q1, q2, xs, ys, rfl, rfl, .inl (.of h1), .inl (.of h2), Nat.le_trans hl (by decide), fun e => ?_, fun e1 e2 => ?_, fun e1 e2 p np => k p _ ((Kept.refl H).upd np) upd_same⟩
  · refine k q2 H (Kept.refl H) ?_
    rw [e, List.nil_append]
    exact h2
  · refine k q1 H (Kept.refl H) ?_
    rw [e2, List.append_nil]
    exact h1
theorem cutV_take {xs : List V} {n : Nat} (h : n ≤ xs.length) : cutV xs none (some (n : Int)) = xs.take n := by
  unfold cutV
  rw [HT.sIx_none, HT.sIx_nat]
  simp [Nat.min_eq_left h]
theorem cutV_drop {xs : List V} {n : Nat} (h : n ≤ xs.length) : cutV xs (some (n : Int)) none = xs.drop n := by
  unfold cutV
  rw [HT.sIx_none, HT.sIx_nat, Nat.min_eq_left h]
  rw [List.take_of_length_le]
  rw [List.length_drop]
  exact Nat.le_refl _
/-! ### a house, its text a tuple -/
structure HSx (H : Hp) (x dx C ak ev a : Addr) (xs : List V) (evs : List Str) (b : Bool) : Prop where
  S : HSt H x dx C ak ev (.ref a) evs b
  ask : H ak = some (.lst [])
  rows : H a = some (.tup xs)
/-- all stands but the tables and the house itself -/
structure KpX (T : List Addr) (x : Addr) (H H' : Hp) : Prop where
  tab : ∀ P ∈ T, TabG H' P
  keep : ∀ b o, H b = some o → b ∉ T → b ≠ x → H' b = some o
theorem KpX.of {T : List Addr} {x : Addr} {H H' : Hp} (ht : ∀ P ∈ T, TabG H P) (k : Kept [] H H') : KpX T x H H' := ⟨fun P hP => let ⟨qs, h2, h3⟩ := ht P hP; ⟨qs, k _ _ h2 (by simp), h3⟩, fun b o e _ _ => k b o e (by simp)⟩
theorem KpX.ofKp {T : List Addr} {x : Addr} {H H' : Hp} (k : Kp T H H') : KpX T x H H' := ⟨k.tab, fun b o e h _ => k.keep b o e h⟩
theorem KpX.trans {T : List Addr} {x : Addr} {H H1 H2 : Hp} (a : KpX T x H H1) (b : KpX T x H1 H2) : KpX T x H H2 := ⟨b.tab, fun p o e h n => b.keep p o (a.keep p o e h n) h n⟩
theorem KpX.put {T : List Addr} {x : Addr} {H H1 : Hp} {o : HO} (a : KpX T x H H1) (hx : ∀ ps, H1 x ≠ some (.tbl ps)) : KpX T x H (upd H1 x o) := ⟨fun P hP => by
    obtain ⟨qs, h2, h3⟩ := a.tab P hP
    exact ⟨qs, (upd_ne (fun z => hx qs (by rw [← z]; exact h2))).trans h2, h3⟩, fun b u e h n => (upd_ne n).trans (a.keep b u e h n)⟩
theorem KpX.obj {T : List Addr} {x a : Addr} {H H' : Hp} {o : HO} (k : KpX T x H H') (ht : ∀ P ∈ T, TabG H P) (e : H a = some o) (hx : a ≠ x) (n : ∀ ps, o ≠ .tbl ps := by intro ps q; cases q) : H' a = some o := k.keep a o e (fun hm => by
  obtain ⟨ps, e2, _⟩ := ht a hm
  rw [e] at e2
  exact n ps (Option.some.inj e2)) hx
theorem HSx.kp {T : List Addr} {H H' : Hp} {x dx C ak ev a : Addr} {xs : List V} {evs : List Str} {b : Bool} (h : HSx H x dx C ak ev a xs evs b) (ht : ∀ P ∈ T, TabG H P) (k : Kp T H H') : HSx H' x dx C ak ev a xs evs b := ⟨⟨k.obj ht h.S.ob, k.obj ht h.S.ev, h.S.le⟩, k.obj ht h.ask, k.obj ht h.rows⟩
theorem HSx.kept {H H' : Hp} {x dx C ak ev a : Addr} {xs : List V} {evs : List Str} {b : Bool} (h : HSx H x dx C ak ev a xs evs b) (k : Kept [] H H') : HSx H' x dx C ak ev a xs evs b := ⟨h.S.kept k, k _ _ h.ask (by simp), k _ _ h.rows (by simp)⟩
theorem HSx.set {H : Hp} {x dx C ak ev a a' : Addr} {xs ys : List V} {evs : List Str} {b : Bool} (h : HSx H x dx C ak ev a xs evs b) (h' : H a' = some (.tup ys)) : HSx (upd H x (.ins C dx (fsH (.ref a') (.ref ak) (.ref ev) b))) x dx C ak ev a' ys evs b :=
  have ne : ∀ {p : Addr} {o : HO}, H p = some o → (∀ fs, o ≠ .ins C dx fs) → p ≠ x := fun {p o} e n z => by
    rw [z, h.S.ob] at e
    exact n _ (Option.some.inj e).symm
  ⟨⟨upd_same, (upd_ne (ne h.S.ev (fun _ z => nomatch z))).trans h.S.ev, h.S.le⟩, (upd_ne (ne h.ask (fun _ z => nomatch z))).trans h.ask, (upd_ne (ne h' (fun _ z => nomatch z))).trans h'⟩
def spHKept (C : Addr) : Sp := fun vs H Q _ => ∃ (x dx ak ev a : Addr) (xs : List V) (evs : List Str) (b : Bool), vs = [.ref x] ∧ HSx H x dx C ak ev a xs evs b ∧ ∀ l, H l = none → Q (.ref l) (upd H l (.lst []))
def spHPut (K : PySem.W.Frag) (T : List Addr) (C CN CR : Addr) : Sp := fun vs H Q E => ∃ (x dx ak ev a : Addr) (xs : List V) (evs : List Str) (b : Bool) (nv rv : V) (rb : Bool), vs = [.ref x, nv, rv] ∧ HSx H x dx C ak ev a xs evs b ∧ xs.length ≤ 24 ∧ NumV nv ∧ RowV K H rv rb ∧ (∀ P ∈ T, TabG H P) ∧
  (isNumL ((xs.length : Int) + 1) nv = false → E (.ref CN) none H) ∧
  (isNumL ((xs.length : Int) + 1) nv = true → (rb = false ∨ xs.length = 24) → ∀ H' d, Kp T H H' → H' d = none → E (.ref CR) (some d) (upd H' d (.xd [("number", nv)]))) ∧
  ∀ n : Nat, nv = .int n → n ≤ xs.length → rb = true → xs.length < 24 → ∀ H' a', KpX T x H H' → HSx H' x dx C ak ev a' (xs.take n ++ rv :: xs.drop n) evs b → Q .non H'
def spHTell (K : PySem.W.Frag) (T : List Addr) (C CN CR : Addr) : Sp := fun vs H Q E => ∃ (x dx ak ev a : Addr) (xs : List V) (evs : List Str) (b : Bool) (nv rv : V) (rb : Bool), vs = [.ref x, nv, rv] ∧ HSx H x dx C ak ev a xs evs b ∧ xs.length ≤ 24 ∧ NumV nv ∧ RowV K H rv rb ∧ (∀ P ∈ T, TabG H P) ∧
  (isNumL (xs.length : Int) nv = false → E (.ref CN) none H) ∧
  (isNumL (xs.length : Int) nv = true → rb = false → ∀ H' d, Kp T H H' → H' d = none → E (.ref CR) (some d) (upd H' d (.xd [("number", nv)]))) ∧
  ∀ (n : Nat) (v : V), nv = .int n → xs[n]? = some v → rb = true → ∀ H' a', KpX T x H H' → HSx H' x dx C ak ev a' (xs.take n ++ rv :: xs.drop (n + 1)) evs b → Q v H'
def spHDrop (T : List Addr) (C CN : Addr) : Sp := fun vs H Q E => ∃ (x dx ak ev a : Addr) (xs : List V) (evs : List Str) (b : Bool) (nv : V), vs = [.ref x, nv] ∧ HSx H x dx C ak ev a xs evs b ∧ xs.length ≤ 24 ∧ NumV nv ∧ (∀ P ∈ T, TabG H P) ∧
  (isNumL (xs.length : Int) nv = false → E (.ref CN) none H) ∧
  ∀ (n : Nat) (v : V), nv = .int n → xs[n]? = some v → ∀ H' a', KpX T x H H' → HSx H' x dx C ak ev a' (xs.take n ++ xs.drop (n + 1)) evs b → Q v H'
theorem scHK : FnScope ["self"] ["self"] (defScope sHouseKept) := ⟨rfl, rfl, rfl, by decide +kernel, rfl, by decide +kernel, by decide +kernel⟩
theorem scHP : FnScope ["self", "number", "row"] ["self", "number", "row"] (defScope sHousePut) := ⟨rfl, rfl, rfl, by decide +kernel, rfl, by decide +kernel, by decide +kernel⟩
theorem scHD : FnScope ["self", "number", "row"] ["self", "number"] (defScope sHouseDrop) := ⟨rfl, rfl, rfl, by decide +kernel, rfl, by decide +kernel, by decide +kernel⟩
theorem scHTl : FnScope ["self", "number", "row", "other"] ["self", "number", "row"] (defScope sHouseTell) := ⟨rfl, rfl, rfl, by decide +kernel, rfl, by decide +kernel, by decide +kernel⟩
theorem num_of {m : Int} {v : V} (hv : NumV v) (h : isNumL m v = true) : ∃ n : Nat, v = .int n ∧ (n : Int) < m := by
  rcases hv with ⟨i, rfl⟩ | rfl | ⟨b, rfl⟩ | ⟨z, rfl⟩
  · have h : (decide (0 ≤ i) && decide (i < m)) = true := h
    simp at h
    exact ⟨i.toNat, by rw [Int.toNat_of_nonneg h.1], by omega⟩
  · cases h
  · cases h
  · cases h
section
variable {P : Program} {w : World} {K : PySem.W.Frag} {mg : Str → Option Value} {base : Heap} {f fC fR fI C CN CR : Addr} {fd fdC fdR fdI : FuncData} {T : List Addr} {psI : List Str}
theorem ok_hkept (F : MthP K "kept" "House.kept" sHouseKept f fd) (CH : ClsH K C) (hL : mg "list" = none) : FnOk P w K mg base CX0 1 f fd ["self"] (spHKept C) := by
  refine F.ok scHK (fun vs H Q E h => ?_) (fun cdv A outer s H vs Q E hr h => ?_)
  · obtain ⟨x, dx, ak, ev, a, xs, evs, b, rfl, _⟩ := h
    rfl
  · obtain ⟨x, dx, ak, ev, a, xs, evs, b, rfl, S, k⟩ := h
    refine ⟨_, PSs.nox (pss_one (ps_ret (pe_callTy call_list_of (by rfl) hL (by decide +kernel) (pa_cons (pe_fld (pv 0) rfl) pa_nil)))), ?_⟩
    exact ⟨_, rfl, x, C, dx, _, _, rfl, S.S.ob, CH.c, CH.n2, rfl, ak, _, rfl, .inl (SqL.of S.ask), fun l hl => k l hl⟩
theorem ok_hput (F : MthP K "put" "House.put" sHousePut f fd) (CH : ClsH K C) (hLen : mg "len" = none) (gC : mg "check_number" = some (.ref fC)) (FC : FnOk P w K mg base (L2.CX P w) 2 fC fdC ["number", "many"] (spChNum CN)) (kC : PySem.W.keepIn K (.ref fC) = true) (bC : Binds K fdC ["number", "many"] [])
    (gR : mg "is_row" = some (.ref fR)) (FR : FnOk P w K mg base CX0 5 fR fdR ["row"] (spRow K T)) (kR : PySem.W.keepIn K (.ref fR) = true) (bR : Binds K fdR ["row"] []) (hm : ∃ t, mg "MOST_ROWS" = some (.int 24 t))
    (R : One K CR fI "number") (FI : FnOk P w K mg base (L2.CX P w) 1 fI fdI psI (spErr1 CR "number")) (bI : Binds K fdI psI []) (gB : mg "BadRow" = some (.ref CR)) :
    FnOk P w K mg base (L2.CX P w) 6 f fd ["self", "number", "row"] (spHPut K T C CN CR) := by
  refine F.ok scHP (fun vs H Q E h => ?_) (fun cdv A outer s H vs Q E hr h => ?_)
  · obtain ⟨x, dx, ak, ev, a, xs, evs, b, nv, rv, rb, rfl, _⟩ := h
    rfl
  · obtain ⟨x, dx, ak, ev, a, xs, evs, b, nv, rv, rb, rfl, S, hl, hn, hrv, ht, k1, k2, k3⟩ := h
    obtain ⟨mt, hm⟩ := hm
    refine ⟨_, pss_cons (ps_expr (pe_call FC (hr.mono (by decide)) (by rfl) gC kC bC .nil (passes_call (takes_of rfl rfl rfl rfl) (fun _ _ _ _ h => h)) (pa_cons (pv 1) (pa_cons (pe_op op_add (pe_callB call_len_seq (by rfl) hLen (by decide +kernel) (pa_cons (pe_fld (pv 0) rfl) pa_nil)) pe_int) pa_nil))))
      (pss_cons (ps_if (PW.pt (pw_or (pt_not (pt_val (pe_call FR (hr.mono (by decide)) (by rfl) gR kR bR .nil pass0 (pa_cons (pv 2) pa_nil)))) (pw_or1 (pt_cmpR op_eq (pe_callB call_len_seq (by rfl) hLen (by decide +kernel) (pa_cons (pe_fld (pv 0) rfl) pa_nil)) (pe_glob (v := .int 24) (by rfl) hm ⟨_, rfl⟩) (nomark _)))))
        (pss_one (ps_raise1 rfl (takes_of rfl rfl rfl rfl) R FI (hr.mono (by decide)) bI (by rfl) gB (pv 1))) pss_nil)
      (pss_one (ps_fld (pv 0) (pe_tup (show PA _ _ (StX.tStar K _ _) from StX.pa_star (pe_slice (show SlR _ (rSlA K) from sl_tupA) (pe_fld (pv 0) rfl) po_none (po_some (pv 1))) (pa_cons (pv 2) (show PA _ _ (StX.tStar K _ _) from StX.pa_star (pe_slice (show SlR _ (rSlA K) from sl_tupA) (pe_fld (pv 0) rfl) (po_some (pv 1)) po_none) pa_nil)))) rfl))), ?_⟩
    refine ⟨_, rfl, _, rfl, x, C, dx, _, _, rfl, S.S.ob, CH.c, CH.n1, rfl, a, _, rfl, .inr (.inl (.of S.rows)), _, _, rfl, rfl, nv, _, rfl, hn, fun h1 => ?_, k1⟩
    obtain ⟨n, rfl, hn2⟩ := num_of hn h1
    refine ⟨_, rfl, rv, rb, rfl, hrv, ht, fun H1 kp1 => ?_⟩
    have S1 := S.kp ht kp1
    have raise : (rb = false ∨ xs.length = 24) → _ := fun hb => one_q (fld := "number") (y := .int (n : Int)) (C := CR) (Q := E) fun d hd => k2 h1 hb H1 d kp1 hd
    have go : rb = true → xs.length < 24 → _ := fun hb hl2 => k3 n rfl (by omega) hb hl2
    cases rb with
    | false =>
      refine ⟨_, rfl, iteT ⟨_, rfl, ?_⟩⟩
      exact raise (.inl rfl)
    | true =>
      refine ⟨_, rfl, iteF ?_⟩
      refine ⟨_, rfl, x, C, dx, _, _, rfl, S1.S.ob, CH.c, CH.n1, rfl, a, _, rfl, .inr (.inl (.of S1.rows)), rfl, _, rfl, ?_⟩
      have e24 : decide (V.int (xs.length : Int) = V.int 24) = decide (xs.length = 24) := by
        by_cases e : xs.length = 24
        · rw [decide_eq_true e, e]
          exact decide_eq_true rfl
        · rw [decide_eq_false e]
          refine decide_eq_false fun q => e ?_
          have := V.int.inj q
          omega
      rw [e24]
      cases h24 : decide (xs.length = 24) with
      | true => exact iteT ⟨_, rfl, raise (.inr (of_decide_eq_true h24))⟩
      | false =>
        have n24 : xs.length < 24 := by
          have := of_decide_eq_false h24
          omega
        refine iteF ?_
        refine ⟨_, rfl, x, C, dx, _, _, rfl, S1.S.ob, CH.c, CH.n1, rfl, _, rfl, n, rfl, slA_v S1.rows fun q1 H2 kk2 e2 => ?_⟩
        have S2 := S1.kept kk2
        refine ⟨q1, _, rfl, .inl (.inl (.of e2)), _, rfl, ?_⟩
        refine ⟨_, rfl, x, C, dx, _, _, rfl, S2.S.ob, CH.c, CH.n1, rfl, _, rfl, n, rfl, ?_⟩
        unfold tNoPart
        show rSlA K (.ref a) (some (n : Int)) none H2 _
        refine slA_v S2.rows fun q2 H3 kk3 e3 => ?_
        have S3 := S2.kept kk3
        rw [cutV_take (by omega)] at e2 ⊢
        rw [cutV_drop (by omega)] at e3
        refine ⟨q2, _, rfl, .inl (.inl (.of e3)), ?_⟩
        have hlen : (xs.take n ++ rv :: xs.drop n).length ≤ 25 := by
          rw [List.length_append, List.length_take, List.length_cons, List.length_drop]
          omega
        refine ⟨Nat.le_trans (show (xs.take n ++ rv :: (xs.drop n ++ [])).length ≤ 1000 by rw [List.append_nil]; omega) (by decide), fun a' na => ?_⟩
        have S4 := S3.kept ((Kept.refl H3).upd (o := .tup (xs.take n ++ rv :: (xs.drop n ++ []))) na)
        have e4 : upd H3 a' (.tup (xs.take n ++ rv :: (xs.drop n ++ []))) a' = some (.tup (xs.take n ++ rv :: xs.drop n)) := by rw [upd_same, List.append_nil]
        refine ⟨_, rfl, x, C, dx, _, rfl, S4.S.ob, CH.c, CH.n1, by show (4 : Nat) < 1000; decide, ?_⟩
        have kx : KpX T x H (upd H3 a' (.tup (xs.take n ++ rv :: (xs.drop n ++ [])))) := ((((KpX.ofKp kp1).trans (.of kp1.tab kk2)).trans (.of (KpX.of (x := x) kp1.tab kk2).tab kk3)).trans (.of ((KpX.of (x := x) kp1.tab kk2).trans (.of (KpX.of (x := x) kp1.tab kk2).tab kk3)).tab ((Kept.refl H3).upd na)))
        exact go rfl n24 _ a' (kx.put fun ps z => by rw [S4.S.ob] at z; cases z) (S4.set e4)
theorem ok_hdrop (F : MthP K "drop" "House.drop" sHouseDrop f fd) (CH : ClsH K C) (hLen : mg "len" = none) (gC : mg "check_number" = some (.ref fC)) (FC : FnOk P w K mg base (L2.CX P w) 2 fC fdC ["number", "many"] (spChNum CN)) (kC : PySem.W.keepIn K (.ref fC) = true) (bC : Binds K fdC ["number", "many"] []) :
    FnOk P w K mg base (L2.CX P w) 6 f fd ["self", "number"] (spHDrop T C CN) := by
  refine F.ok scHD (fun vs H Q E h => ?_) (fun cdv A outer s H vs Q E hr h => ?_)
  · obtain ⟨x, dx, ak, ev, a, xs, evs, b, nv, rfl, _⟩ := h
    rfl
  · obtain ⟨x, dx, ak, ev, a, xs, evs, b, nv, rfl, S, hl, hn, ht, k1, k3⟩ := h
    refine ⟨_, pss_cons (ps_expr (pe_call FC (hr.mono (by decide)) (by rfl) gC kC bC .nil (passes_call (takes_of rfl rfl rfl rfl) (fun _ _ _ _ h => h)) (pa_cons (pv 1) (pa_cons (pe_callB call_len_seq (by rfl) hLen (by decide +kernel) (pa_cons (pe_fld (pv 0) rfl) pa_nil)) pa_nil))))
      (pss_cons (ps_set (i := 2) scHD.nd rfl (.inl rfl) (pe_ix ix_tup (pe_fld (pv 0) rfl) (pv 1) (fun _ _ => rfl)))
      (pss_cons (ps_fld (pv 0) (pe_op (show OpR _ _ (rCatA K) from op_catA) (pe_slice (show SlR _ (rSlA K) from sl_tupA) (pe_fld (pv 0) rfl) po_none (po_some (pv 1))) (pe_slice (show SlR _ (rSlA K) from sl_tupA) (pe_fld (pv 0) rfl) (po_some (pe_op op_add (pv 1) pe_int)) po_none)) rfl)
      (pss_one (ps_ret (pv 2))))), ?_⟩
    refine ⟨_, rfl, _, rfl, x, C, dx, _, _, rfl, S.S.ob, CH.c, CH.n1, rfl, a, _, rfl, .inr (.inl (.of S.rows)), nv, _, rfl, hn, fun h1 => ?_, k1⟩
    obtain ⟨n, rfl, hn2⟩ := num_of hn h1
    obtain ⟨v, hv⟩ : ∃ v, xs[n]? = some v := ⟨xs[n]'(by omega), List.getElem?_eq_getElem (by omega)⟩
    refine ⟨_, rfl, x, C, dx, _, _, rfl, S.S.ob, CH.c, CH.n1, rfl, _, rfl, a, _, n, v, rfl, rfl, .inl (.of S.rows), atI_nat hv, ?_⟩
    refine ⟨_, rfl, x, C, dx, _, _, rfl, S.S.ob, CH.c, CH.n1, rfl, _, rfl, n, rfl, slA_v S.rows fun q1 H2 kk2 e2 => ?_⟩
    have S2 := S.kept kk2
    refine ⟨_, rfl, x, C, dx, _, _, rfl, S2.S.ob, CH.c, CH.n1, rfl, _, rfl, _, _, rfl, rfl, _, rfl, ?_⟩
    unfold tNoPart
    show rSlA K (.ref a) (some ((n : Int) + 1)) none H2 _
    rw [show ((n : Int) + 1) = ((n + 1 : Nat) : Int) by omega]
    refine slA_v S2.rows fun q2 H3 kk3 e3 => ?_
    rw [cutV_take (by omega)] at e2
    rw [cutV_drop (by omega)] at e3
    have S3 := S2.kept kk3
    refine catA_v (kk3 _ _ e2 (by simp)) e3 (by rw [List.length_take, List.length_drop]; omega) fun a' H4 kk4 e4 => ?_
    have S4 := S3.kept kk4
    refine ⟨_, rfl, x, C, dx, _, rfl, S4.S.ob, CH.c, CH.n1, by show (4 : Nat) < 1000; decide, ?_⟩
    refine ⟨_, rfl, ?_⟩
    exact k3 n v rfl hv _ a' ((KpX.of ht ((kk2.trans kk3).trans kk4)).put fun ps z => by rw [S4.S.ob] at z; cases z) (S4.set e4)
theorem ok_htell (F : MthP K "tell" "House.tell" sHouseTell f fd) (CH : ClsH K C) (hLen : mg "len" = none) (gC : mg "check_number" = some (.ref fC)) (FC : FnOk P w K mg base (L2.CX P w) 2 fC fdC ["number", "many"] (spChNum CN)) (kC : PySem.W.keepIn K (.ref fC) = true) (bC : Binds K fdC ["number", "many"] [])
    (gR : mg "is_row" = some (.ref fR)) (FR : FnOk P w K mg base CX0 5 fR fdR ["row"] (spRow K T)) (kR : PySem.W.keepIn K (.ref fR) = true) (bR : Binds K fdR ["row"] [])
    (R : One K CR fI "number") (FI : FnOk P w K mg base (L2.CX P w) 1 fI fdI psI (spErr1 CR "number")) (bI : Binds K fdI psI []) (gB : mg "BadRow" = some (.ref CR)) :
    FnOk P w K mg base (L2.CX P w) 6 f fd ["self", "number", "row"] (spHTell K T C CN CR) := by
  refine F.ok scHTl (fun vs H Q E h => ?_) (fun cdv A outer s H vs Q E hr h => ?_)
  · obtain ⟨x, dx, ak, ev, a, xs, evs, b, nv, rv, rb, rfl, _⟩ := h
    rfl
  · obtain ⟨x, dx, ak, ev, a, xs, evs, b, nv, rv, rb, rfl, S, hl, hn, hrv, ht, k1, k2, k3⟩ := h
    refine ⟨_, pss_cons (ps_expr (pe_call FC (hr.mono (by decide)) (by rfl) gC kC bC .nil (passes_call (takes_of rfl rfl rfl rfl) (fun _ _ _ _ h => h)) (pa_cons (pv 1) (pa_cons (pe_callB call_len_seq (by rfl) hLen (by decide +kernel) (pa_cons (pe_fld (pv 0) rfl) pa_nil)) pa_nil))))
      (pss_cons (ps_if (pt_not (pt_val (pe_call FR (hr.mono (by decide)) (by rfl) gR kR bR .nil pass0 (pa_cons (pv 2) pa_nil))))
        (pss_one (ps_raise1 rfl (takes_of rfl rfl rfl rfl) R FI (hr.mono (by decide)) bI (by rfl) gB (pv 1))) pss_nil)
      (pss_cons (ps_set (i := 3) scHTl.nd rfl (.inl rfl) (pe_ix ix_tup (pe_fld (pv 0) rfl) (pv 1) (fun _ _ => rfl)))
      (pss_cons (ps_fld (pv 0) (pe_tup (show PA _ _ (StX.tStar K _ _) from StX.pa_star (pe_slice (show SlR _ (rSlA K) from sl_tupA) (pe_fld (pv 0) rfl) po_none (po_some (pv 1))) (pa_cons (pv 2) (show PA _ _ (StX.tStar K _ _) from StX.pa_star (pe_slice (show SlR _ (rSlA K) from sl_tupA) (pe_fld (pv 0) rfl) (po_some (pe_op op_add (pv 1) pe_int)) po_none) pa_nil)))) rfl)
      (pss_one (ps_ret (pv 3)))))), ?_⟩
    refine ⟨_, rfl, _, rfl, x, C, dx, _, _, rfl, S.S.ob, CH.c, CH.n1, rfl, a, _, rfl, .inr (.inl (.of S.rows)), nv, _, rfl, hn, fun h1 => ?_, k1⟩
    obtain ⟨n, rfl, hn2⟩ := num_of hn h1
    obtain ⟨v, hv⟩ : ∃ v, xs[n]? = some v := ⟨xs[n]'(by omega), List.getElem?_eq_getElem (by omega)⟩
    refine ⟨_, rfl, rv, rb, rfl, hrv, ht, fun H1 kp1 => ?_⟩
    have S1 := S.kp ht kp1
    have raise : rb = false → _ := fun hb => one_q (fld := "number") (y := .int (n : Int)) (C := CR) (Q := E) fun d hd => k2 h1 hb H1 d kp1 hd
    have go : rb = true → _ := fun hb => k3 n v rfl hv hb
    cases rb with
    | false => exact ⟨_, rfl, iteT ⟨_, rfl, raise rfl⟩⟩
    | true =>
      refine ⟨_, rfl, iteF ?_⟩
      refine ⟨_, rfl, x, C, dx, _, _, rfl, S1.S.ob, CH.c, CH.n1, rfl, _, rfl, a, _, n, v, rfl, rfl, .inl (.of S1.rows), atI_nat hv, ?_⟩
      refine ⟨_, rfl, x, C, dx, _, _, rfl, S1.S.ob, CH.c, CH.n1, rfl, _, rfl, n, rfl, slA_v S1.rows fun q1 H2 kk2 e2 => ?_⟩
      have S2 := S1.kept kk2
      refine ⟨q1, _, rfl, .inl (.inl (.of e2)), _, rfl, ?_⟩
      refine ⟨_, rfl, x, C, dx, _, _, rfl, S2.S.ob, CH.c, CH.n1, rfl, _, rfl, _, _, rfl, rfl, _, rfl, ?_⟩
      unfold tNoPart
      show rSlA K (.ref a) (some ((n : Int) + 1)) none H2 _
      rw [show ((n : Int) + 1) = ((n + 1 : Nat) : Int) by omega]
      refine slA_v S2.rows fun q2 H3 kk3 e3 => ?_
      have S3 := S2.kept kk3
      rw [cutV_take (by omega)] at e2 ⊢
      rw [cutV_drop (by omega)] at e3
      refine ⟨q2, _, rfl, .inl (.inl (.of e3)), ?_⟩
      have hlen : (xs.take n ++ rv :: xs.drop (n + 1)).length ≤ 25 := by
        rw [List.length_append, List.length_take, List.length_cons, List.length_drop]
        omega
      refine ⟨Nat.le_trans (show (xs.take n ++ rv :: (xs.drop (n + 1) ++ [])).length ≤ 1000 by rw [List.append_nil]; omega) (by decide), fun a' na => ?_⟩
      have S4 := S3.kept ((Kept.refl H3).upd (o := .tup (xs.take n ++ rv :: (xs.drop (n + 1) ++ []))) na)
      have e4 : upd H3 a' (.tup (xs.take n ++ rv :: (xs.drop (n + 1) ++ []))) a' = some (.tup (xs.take n ++ rv :: xs.drop (n + 1))) := by rw [upd_same, List.append_nil]
      refine ⟨_, rfl, x, C, dx, _, rfl, S4.S.ob, CH.c, CH.n1, by show (4 : Nat) < 1000; decide, ?_⟩
      refine ⟨_, rfl, ?_⟩
      have kx : KpX T x H (upd H3 a' (.tup (xs.take n ++ rv :: (xs.drop (n + 1) ++ [])))) := (KpX.ofKp kp1).trans (.of kp1.tab ((kk2.trans kk3).trans ((Kept.refl H3).upd na)))
      exact go rfl _ a' (kx.put fun ps z => by rw [S4.S.ob] at z; cases z) (S4.set e4)
end
end Ah
end
section
set_option Elab.async false
set_option linter.all false
set_option maxRecDepth 100000
set_option maxHeartbeats 2000000
namespace Ah
open PySem PySem.Spec PyProof.Rows L2
open GxR (TabB TabG Tabbed)
open GxG
/-! ### House.__init__, all its fields -/
def spHI2 (K : PySem.W.Frag) (T : List Addr) (C : Addr) : Sp := fun vs H Q _ => ∃ (x dx a : Addr) (rs : List V), vs = [.ref x, .ref a] ∧ H x = some (.ins C dx []) ∧ H a = some (.tup rs) ∧ rs.length ≤ 24 ∧ (∀ r ∈ rs, RowV K H r true) ∧ (∀ P ∈ T, TabG H P) ∧
  ∀ H' ak ev, KpX T x H H' → H ak = none → H ev = none → HSx H' x dx C ak ev a rs [] true → Q .non H'
theorem scHI3 : FnScope ["self", "rows"] ["self", "rows"] (defScope sHouseInit) := ⟨rfl, rfl, rfl, by decide +kernel, rfl, by decide +kernel, by decide +kernel⟩
section
variable {P : Program} {w : World} {K : PySem.W.Frag} {mg : Str → Option Value} {base : Heap} {f fC C : Addr} {fd fdC : FuncData} {T : List Addr}
theorem ok_hinit2 (F : MthP K "__init__" "House.__init__" sHouseInit f fd) (CH : ClsH K C) (gC : mg "check_text" = some (.ref fC)) (FC : FnOk P w K mg base CX0 6 fC fdC ["rows"] (spCheck0 K T)) (kC : PySem.W.keepIn K (.ref fC) = true) (bC : Binds K fdC ["rows"] []) :
    FnOk P w K mg base CX0 7 f fd ["self", "rows"] (spHI2 K T C) := by
  refine F.ok scHI3 (fun vs H Q E h => ?_) (fun cdv A outer s H vs Q E hr h => ?_)
  · obtain ⟨x, dx, a, rs, rfl, _⟩ := h
    rfl
  · obtain ⟨x, dx, a, rs, rfl, hx, ha, hl, hrs, ht, k⟩ := h
    refine ⟨_, PSs.nox (pss_cons (ps_expr (pe_call FC hr (by rfl) gC kC bC .nil pass0 (pa_cons (pv 1) pa_nil)))
      (pss_cons (ps_fld (pv 0) (pv 1) rfl) (pss_cons (ps_fld (pv 0) (pe_lst pa_nil) rfl) (pss_cons (ps_fld (pv 0) (pe_lst pa_nil) rfl) (pss_one (ps_fld (pv 0) pe_bl rfl)))))), ?_⟩
    refine ⟨_, rfl, a, rs, rfl, ha, hl, hrs, ht, fun H1 k1 => ?_⟩
    have x1 : H1 x = some (.ins C dx []) := k1.obj ht hx
    refine ⟨_, rfl, _, rfl, x, C, dx, _, rfl, x1, CH.c, CH.n1, by decide, ?_⟩
    refine ⟨by decide, fun ak nk => ?_⟩
    have nk1 : ak ≠ x := fun z => by rw [z, upd_same] at nk; cases nk
    rw [upd_ne nk1] at nk
    refine ⟨_, rfl, x, C, dx, _, rfl, by rw [upd_ne (Ne.symm nk1)]; exact upd_same, CH.c, CH.n2, by show (1 : Nat) < 1000; decide, ?_⟩
    refine ⟨by decide, fun ev ne => ?_⟩
    have ne1 : ev ≠ x := fun z => by rw [z, upd_same] at ne; cases ne
    rw [upd_ne ne1] at ne
    have ne2 : ev ≠ ak := fun z => by rw [z, upd_same] at ne; cases ne
    rw [upd_ne ne2, upd_ne ne1] at ne
    refine ⟨_, rfl, x, C, dx, _, rfl, by rw [upd_ne (Ne.symm ne1)]; exact upd_same, CH.c, CH.n3, by show (2 : Nat) < 1000; decide, ?_⟩
    refine ⟨_, rfl, x, C, dx, _, rfl, upd_same, CH.c, CH.n4, by show (3 : Nat) < 1000; decide, ?_⟩
    have old : ∀ b : Addr, b ≠ x → b ≠ ak → b ≠ ev → upd (upd (upd (upd (upd (upd H1 x (.ins C dx (putF "standing" (V.ref a) []))) ak (.lst [])) x (.ins C dx (putF "asked" (V.ref ak) (putF "standing" (V.ref a) [])))) ev (.lst [])) x (.ins C dx (putF "events" (V.ref ev) (putF "asked" (V.ref ak) (putF "standing" (V.ref a) []))))) x (.ins C dx (putF "idle" (V.bl true) (putF "events" (V.ref ev) (putF "asked" (V.ref ak) (putF "standing" (V.ref a) []))))) b = H1 b := fun b h1 h2 h3 => by
      rw [upd_ne h1, upd_ne h1, upd_ne h3, upd_ne h1, upd_ne h2, upd_ne h1]
    have none0 : ∀ {b : Addr}, H1 b = none → H b = none := fun {b} n => by
      cases e : H b with
      | none => rfl
      | some o =>
        by_cases hb : b ∈ T
        · obtain ⟨ps, e1, _⟩ := k1.tab b hb
          rw [e1] at n
          cases n
        · rw [k1.keep b o e hb] at n
          cases n
    refine k _ ak ev ⟨fun P hP => ?_, fun b o e hb hbx => ?_⟩ (none0 nk) (none0 ne) ⟨⟨?_, ?_, by simp⟩, ?_, ?_⟩
    · obtain ⟨ps, e1, e2⟩ := k1.tab P hP
      refine ⟨ps, ?_, e2⟩
      rw [old P (fun z => by rw [z, x1] at e1; cases e1) (ne_of_none e1 nk) (ne_of_none e1 ne)]
      exact e1
    · have e1 := k1.keep b o e hb
      rw [old b hbx (ne_of_none e1 nk) (ne_of_none e1 ne)]
      exact e1
    · rw [upd_same]
      rfl
    · rw [upd_ne ne1, upd_ne ne1, upd_same]
      rfl
    · rw [upd_ne nk1, upd_ne nk1, upd_ne (Ne.symm ne2), upd_ne nk1, upd_same]
    · have e1 := k1.obj ht ha
      rw [old a (fun z => by rw [z, x1] at e1; cases e1) (ne_of_none e1 nk) (ne_of_none e1 ne)]
      exact e1
end
end Ah
end
section
set_option Elab.async false
set_option linter.all false
set_option maxRecDepth 100000
set_option maxHeartbeats 2000000
namespace Ah
open PySem PySem.Spec PyProof.Rows L2
open GxR (TabB TabG Tabbed)
/-! ### the law's deeds -/
/-- a deed's row: a row of few words, or one of two that are none -/
def DRow (H : Hp) (rv : V) (rb : Bool) : Prop := ∃ (r : Addr) (ws : List Str), rv = .ref r ∧ H r = some (.tup (ws.map V.str)) ∧ ((rb = true ∧ ∃ q : Rw, q.few ∧ ws = q.ws) ∨ (rb = false ∧ (ws = [("is" : Str), "Ann", "cat"] ∨ ws = [("on" : Str)])))
theorem DRow.kept {M : List Addr} {H H' : Hp} {rv : V} {rb : Bool} (h : DRow H rv rb) (k : Kept M H H') (hM : ∀ b ∈ M, ∃ xs, H b = some (.lst xs)) : DRow H' rv rb := by
  obtain ⟨r, ws, e, h, q⟩ := h
  refine ⟨r, ws, e, k _ _ h (fun hm => ?_), q⟩
  obtain ⟨xs, z⟩ := hM r hm
  rw [h] at z
  cases z
inductive Dk where
  | put (rv : V) (rb : Bool)
  | drop
  | tell (rv : V) (rb : Bool)
def Dk.ws (n : Nat) : Dk → List V
  | .put rv _ => [.str "put", .int (n : Int), rv]
  | .drop => [.str "drop", .int (n : Int)]
  | .tell rv _ => [.str "tell", .int (n : Int), rv]
def Dk.ok (H : Hp) : Dk → Prop
  | .put rv rb => DRow H rv rb
  | .drop => True
  | .tell rv rb => DRow H rv rb
theorem Dk.ok.kept {M : List Addr} {H H' : Hp} {k : Dk} (h : k.ok H) (kk : Kept M H H') (hM : ∀ b ∈ M, ∃ xs, H b = some (.lst xs)) : k.ok H' := by
  cases k with
  | put rv rb => exact DRow.kept (show DRow H rv rb from h) kk hM
  | drop => trivial
  | tell rv rb => exact DRow.kept (show DRow H rv rb from h) kk hM
def spLDeed (K : PySem.W.Frag) : Sp := fun vs H Q _ => ∃ (p a : Addr) (ns : List Int) (many : Nat), vs = [.ref p, .int (many : Int)] ∧ StAt K H p a ns ∧ many ≤ 1000 ∧
  ∀ (d : Addr) (n : Nat) (k : Dk) (H' : Hp), StAt K H' p a ns → Kept [p] H H' → H' d = some (.tup (k.ws n)) → k.ok H' → n < many + 2 → Q (.ref d) H'
theorem scLD : FnScope ["_law_row_here", "_law_many", "_law_way", "_law_number"] ["_law_row_here", "_law_many"] (defScope lDeed) := ⟨rfl, rfl, rfl, by decide +kernel, rfl, by decide +kernel, by decide +kernel⟩
section
variable {P : Program} {w : World} {K : PySem.W.Frag} {mg : Str → Option Value} {base : Heap} {f fT fO : Addr} {fd fdT fdO : FuncData}
theorem stAt_ob {H : Hp} {p a : Addr} {ns : List Int} (S : StAt K H p a ns) : ∀ b ∈ [p], ∃ xs, H b = some (.lst xs) := fun b hb => by
  rw [List.mem_singleton.mp hb]
  obtain ⟨i, r, m, h, _⟩ := S
  exact ⟨_, h⟩
theorem ok_ldeed (F : FnP K "_law_deed" lDeed f fd) (c__law_taken : Own P w K mg base "_law_taken" 1 fT fdT ["_law_row_here", "_law_many"] (spTaken K)) (c__law_one : Own P w K mg base "_law_one" 2 fO fdO ["_law_row_here"] (spOne K)) :
    FnOk P w K mg base CX0 3 f fd ["_law_row_here", "_law_many"] (spLDeed K) := by
  refine F.ok scLD (fun vs H Q E h => ?_) (fun cdv A outer s H vs Q E hr h => ?_)
  · obtain ⟨p, a, ns, many, rfl, _⟩ := h
    rfl
  · obtain ⟨p, a, ns, many, rfl, S, hm, k⟩ := h
    refine ⟨_, PSs.nox (pss_cons (ps_par (by rfl) scLD.nd (i := 2) (j := 3) rfl rfl (by decide) rfl rfl (pa_cons (pe_call c__law_taken.ok (hr.mono (by decide)) (by rfl) c__law_taken.g c__law_taken.kp c__law_taken.b .nil pass0 (pa_cons (pv 0) (pa_cons pe_int pa_nil))) (pa_cons (pe_call c__law_taken.ok (hr.mono (by decide)) (by rfl) c__law_taken.g c__law_taken.kp c__law_taken.b .nil pass0 (pa_cons (pv 0) (pa_cons (pe_op op_add (pv 1) pe_int) pa_nil))) pa_nil)) (by rfl))
      (pss_cons (ps_if (pt_cmpR op_lt (pv 2) pe_int (nomark _)) (pss_one (ps_ret (pe_tup (pa_cons pe_str (pa_cons (pv 3) (pa_cons (pe_ifExp (pt_cmpR op_gt (pe_call c__law_taken.ok (hr.mono (by decide)) (by rfl) c__law_taken.g c__law_taken.kp c__law_taken.b .nil pass0 (pa_cons (pv 0) (pa_cons pe_int pa_nil))) pe_int (nomark _)) (pe_call c__law_one.ok hr (by rfl) c__law_one.g c__law_one.kp c__law_one.b .nil pass0 (pa_cons (pv 0) pa_nil)) (pe_tup (pa_cons pe_str (pa_cons pe_str (pa_cons pe_str pa_nil))))) pa_nil)))))) pss_nil)
      (pss_cons (ps_if (pt_cmpR op_eq (pv 2) pe_int (nomark _)) (pss_one (ps_ret (pe_tup (pa_cons pe_str (pa_cons (pv 3) pa_nil))))) pss_nil)
      (pss_one (ps_ret (pe_tup (pa_cons pe_str (pa_cons (pv 3) (pa_cons (pe_ifExp (pt_cmpR op_gt (pe_call c__law_taken.ok (hr.mono (by decide)) (by rfl) c__law_taken.g c__law_taken.kp c__law_taken.b .nil pass0 (pa_cons (pv 0) (pa_cons pe_int pa_nil))) pe_int (nomark _)) (pe_call c__law_one.ok hr (by rfl) c__law_one.g c__law_one.kp c__law_one.b .nil pass0 (pa_cons (pv 0) pa_nil)) (pe_tup (pa_cons pe_str pa_nil))) pa_nil))))))))), ?_⟩
    refine ⟨_, rfl, p, a, ns, 5, rfl, S, by omega, by omega, fun way H1 w0 w1 S1 k1 => ?_⟩
    refine ⟨_, rfl, _, rfl, _, _, rfl, rfl, p, a, ns, (many : Int) + 2, rfl, S1, by omega, by omega, fun num H2 n0 n1 S2 k2 => ?_⟩
    obtain ⟨n, rfl⟩ : ∃ n : Nat, num = (n : Int) := ⟨num.toNat, by omega⟩
    have kk2 := k1.trans k2
    refine ⟨_, _, rfl, ?_⟩
    refine ⟨_, rfl, _, _, rfl, rfl, _, rfl, ?_⟩
    by_cases hw : way < 2
    · rw [decide_eq_true hw]
      refine iteT ⟨_, rfl, _, rfl, p, a, ns, 8, rfl, S2, by omega, by omega, fun c H3 c0 c1 S3 k3 => ?_⟩
      have kk3 := kk2.trans k3
      refine ⟨_, _, rfl, rfl, _, rfl, ?_⟩
      by_cases hc : 0 < c
      · rw [decide_eq_true hc]
        refine iteT ⟨_, rfl, p, a, ns, rfl, S3, fun q r H4 hr4 S4 k4 e4 => ?_⟩
        refine ⟨by show (3 : Nat) ≤ sizeLine; decide, fun d nd => k d n (.put (.ref q) true) _ (S4.upd nd) ((kk3.trans k4).upd nd) upd_same ⟨q, r.ws, rfl, (upd_ne (ne_of_none e4 nd)).trans e4, .inl ⟨rfl, r, hr4, rfl⟩⟩ (by omega)⟩
      · rw [decide_eq_false hc]
        refine iteF ⟨by show (3 : Nat) ≤ sizeLine; decide, fun q nq => ?_⟩
        have S4 := S3.upd (o := .tup [.str "is", .str "Ann", .str "cat"]) nq
        refine ⟨by show (3 : Nat) ≤ sizeLine; decide, fun d nd => k d n (.put (.ref q) false) _ (S4.upd nd) ((kk3.upd nq).upd nd) upd_same ⟨q, [("is" : Str), ("Ann" : Str), ("cat" : Str)], rfl, (upd_ne (ne_of_none upd_same nd)).trans upd_same, .inr ⟨rfl, .inl rfl⟩⟩ (by omega)⟩
    · rw [decide_eq_false hw]
      refine iteF ?_
      refine ⟨_, rfl, rfl, _, rfl, ?_⟩
      by_cases h2 : V.int way = V.int 2
      · rw [decide_eq_true h2]
        refine iteT ⟨_, rfl, by show (2 : Nat) ≤ sizeLine; decide, fun d nd => k d n .drop _ (S2.upd nd) (kk2.upd nd) upd_same trivial (by omega)⟩
      rw [decide_eq_false h2]
      refine iteF ⟨_, rfl, _, rfl, p, a, ns, 8, rfl, S2, by omega, by omega, fun c H3 c0 c1 S3 k3 => ?_⟩
      have kk3 := kk2.trans k3
      refine ⟨_, _, rfl, rfl, _, rfl, ?_⟩
      by_cases hc : 0 < c
      · rw [decide_eq_true hc]
        refine iteT ⟨_, rfl, p, a, ns, rfl, S3, fun q r H4 hr4 S4 k4 e4 => ?_⟩
        refine ⟨by show (3 : Nat) ≤ sizeLine; decide, fun d nd => k d n (.tell (.ref q) true) _ (S4.upd nd) ((kk3.trans k4).upd nd) upd_same ⟨q, r.ws, rfl, (upd_ne (ne_of_none e4 nd)).trans e4, .inl ⟨rfl, r, hr4, rfl⟩⟩ (by omega)⟩
      · rw [decide_eq_false hc]
        refine iteF ⟨by show (1 : Nat) ≤ sizeLine; decide, fun q nq => ?_⟩
        have S4 := S3.upd (o := .tup [.str "on"]) nq
        refine ⟨by show (3 : Nat) ≤ sizeLine; decide, fun d nd => k d n (.tell (.ref q) false) _ (S4.upd nd) ((kk3.upd nq).upd nd) upd_same ⟨q, [("on" : Str)], rfl, (upd_ne (ne_of_none upd_same nd)).trans upd_same, .inr ⟨rfl, .inr rfl⟩⟩ (by omega)⟩
end
end Ah
end
section
set_option Elab.async false
set_option linter.all false
set_option maxRecDepth 100000
set_option maxHeartbeats 2000000
namespace Ah
open PySem PySem.Spec PyProof.Rows L2
open GxR (TabB TabG Tabbed)
/-! ### x in a tuple of data of any depth -/
def rInDT (K : PySem.W.Frag) : R2 := fun x y H Q => ∃ d ds, Dp K H x d ∧ Dp K H y (.tuple ds) ∧ SeqAt.shaped d = true ∧ SeqAt.shaped (.tuple ds) = true ∧ Q (.bl (ds.any fun z => PyData.eqv z d)) H
theorem op_inDT {X : Cx} (hu : X.A.units + 65 < cLine) : OpR X (compareOp .In) (rInDT X.K) := by
  intro pins s σ H x y v u Q I rx ry h
  obtain ⟨d, ds, hd, he, sd, se, q⟩ := h
  obtain ⟨as, r1⟩ := Dp.reads I d x v hd rx
  obtain ⟨bs, r2⟩ := Dp.reads I (.tuple ds) y u he ry
  exact SeqAt.in_tuple_reads r2 r1 (SeqAt.canLay_of_shaped se) (SeqAt.canLay_of_shaped sd) (room_in_shaped sd hu) ⟨.bl _, H, I, rfl, q⟩
theorem room65 {k : Nat} {A : Around} (r : Room k A) : A.units + 65 < cLine := by
  have := r.un
  omega
/-! ### what a deed is due -/
def dueD (xs : List V) (n : Nat) : Dk → (Str × V) × List V
  | .put rv rb => if xs.length < n then (("norow", .non), xs) else if rb = false ∨ xs.length = 24 then (("row", .int n), xs) else (("", .non), xs.take n ++ rv :: xs.drop n)
  | .drop => match xs[n]? with
    | none => (("norow", .non), xs)
    | some v => (("", v), xs.take n ++ xs.drop (n + 1))
  | .tell rv rb => match xs[n]? with
    | none => (("norow", .non), xs)
    | some v => if rb = true then (("", v), xs.take n ++ rv :: xs.drop (n + 1)) else (("row", .int n), xs)
def dT (ws : List Str) : PyData := .tuple (ws.map PyData.str)
abbrev dOdd : List PyData := [dT ["is", "Ann", "cat"], dT ["on"]]
def fewRows : List (List Str) := namesL.flatMap fun n => kindsL.flatMap fun k => kindsL.flatMap fun l => namesL.flatMap fun m => tiesL.flatMap fun t => tiesL.flatMap fun s => [Rw.is n k, Rw.isnt n k, Rw.has n t m, Rw.hasnt n t m, Rw.all k l, Rw.no k l, Rw.each k t m, Rw.who t k l, Rw.turned t s, Rw.on t, Rw.fr t k, Rw.to t k, Rw.under t s].map Rw.ws
theorem odd_few {r : Rw} (h : r.few) : SeqAt.shaped (dT r.ws) = true ∧ (dOdd.any fun z => PyData.eqv z (dT r.ws)) = false := by
  have nk : ∀ n ∈ namesL, ∀ k ∈ kindsL, ∀ l ∈ kindsL, ∀ m ∈ namesL, ∀ t ∈ tiesL, ∀ s ∈ tiesL, ∀ x ∈ [Rw.is n k, Rw.isnt n k, Rw.has n t m, Rw.hasnt n t m, Rw.all k l, Rw.no k l, Rw.each k t m, Rw.who t k l, Rw.turned t s, Rw.on t, Rw.fr t k, Rw.to t k, Rw.under t s],
      (SeqAt.shaped (dT x.ws) && !dOdd.any fun z => PyData.eqv z (dT x.ws)) = true := by decide +kernel
  have fin : (SeqAt.shaped (dT r.ws) && !dOdd.any fun z => PyData.eqv z (dT r.ws)) = true := by
    have n0 : ("ann" : Str) ∈ namesL := by decide
    have k0 : ("cat" : Str) ∈ kindsL := by decide
    have t0 : ("likes" : Str) ∈ tiesL := by decide
    cases r <;> simp only [Rw.few] at h
    · exact nk _ h.1 _ h.2 _ k0 _ n0 _ t0 _ t0 _ (by simp)
    · exact nk _ h.1 _ h.2 _ k0 _ n0 _ t0 _ t0 _ (by simp)
    · exact nk _ h.1 _ k0 _ k0 _ h.2.2 _ h.2.1 _ t0 _ (by simp)
    · exact nk _ h.1 _ k0 _ k0 _ h.2.2 _ h.2.1 _ t0 _ (by simp)
    · exact nk _ n0 _ h.1 _ h.2 _ n0 _ t0 _ t0 _ (by simp)
    · exact nk _ n0 _ h.1 _ h.2 _ n0 _ t0 _ t0 _ (by simp)
    · exact nk _ n0 _ h.1 _ k0 _ h.2.2 _ h.2.1 _ t0 _ (by simp)
    · exact nk _ n0 _ h.2.1 _ h.2.2 _ n0 _ h.1 _ t0 _ (by simp)
    · exact nk _ n0 _ k0 _ k0 _ n0 _ h.1 _ h.2 _ (by simp)
    · exact nk _ n0 _ k0 _ k0 _ n0 _ h _ t0 _ (by simp)
    · exact nk _ n0 _ h.2 _ k0 _ n0 _ h.1 _ t0 _ (by simp)
    · exact nk _ n0 _ h.2 _ k0 _ n0 _ h.1 _ t0 _ (by simp)
    · exact nk _ n0 _ k0 _ k0 _ n0 _ h.1 _ h.2 _ (by simp)
  obtain ⟨a, b⟩ := Bool.and_eq_true_iff.mp fin
  exact ⟨a, by simpa using b⟩
theorem odd_row {H : Hp} {rv : V} {rb : Bool} {K : PySem.W.Frag} (h : DRow H rv rb) : ∃ d, Dp K H rv d ∧ SeqAt.shaped d = true ∧ (dOdd.any fun z => PyData.eqv z d) = !rb := by
  obtain ⟨r, ws, rfl, e, h⟩ := h
  refine ⟨dT ws, .tup (.inl (.of e)) ?_, ?_⟩
  · have go : ∀ ws : List Str, DpAll K H (ws.map V.str) (ws.map PyData.str) := fun ws => by
      induction ws with
      | nil => exact .nil
      | cons w ws ih => exact .cons (.str _) ih
    exact go ws
  · rcases h with ⟨rfl, q, hq, rfl⟩ | ⟨rfl, rfl | rfl⟩
    · exact odd_few hq
    · exact ⟨by decide +kernel, by decide +kernel⟩
    · exact ⟨by decide +kernel, by decide +kernel⟩
theorem odd_row' {H H' : Hp} {rv : V} {rb : Bool} {K : PySem.W.Frag} (h : DRow H rv rb) (k : Kept [] H H') : ∃ d, Dp K H' rv d ∧ SeqAt.shaped d = true ∧ (dOdd.any fun z => PyData.eqv z d) = !rb := odd_row (h.kept k (fun b hb => nomatch hb))
theorem dp_odd {H : Hp} {K : PySem.W.Frag} {t1 t2 t3 : Addr} (h1 : H t1 = some (.tup [.str "is", .str "Ann", .str "cat"])) (h2 : H t2 = some (.tup [.str "on"])) (h3 : H t3 = some (.tup [.ref t1, .ref t2])) : Dp K H (.ref t3) (.tuple dOdd) :=
  .tup (.inl (.of h3)) (.cons (.tup (.inl (.of h1)) (.cons (.str _) (.cons (.str _) (.cons (.str _) .nil)))) (.cons (.tup (.inl (.of h2)) (.cons (.str _) .nil)) .nil))
def spLDone (K : PySem.W.Frag) : Sp := fun vs H Q _ => ∃ (wl d a : Addr) (xs : List V) (n : Nat) (k : Dk), vs = [.ref wl, .ref d] ∧ H wl = some (.lst [.ref a]) ∧ H a = some (.tup xs) ∧ xs.length ≤ 24 ∧ H d = some (.tup (k.ws n)) ∧ k.ok H ∧
  ∀ p a' H', Kept [wl] H H' → H' wl = some (.lst [.ref a']) → H' a' = some (.tup (dueD xs n k).2) → H' p = some (.tup [.str (dueD xs n k).1.1, (dueD xs n k).1.2]) → Q (.ref p) H'
theorem scLDn : FnScope ["_law_w", "_law_deed_here", "_law_rows"] ["_law_w", "_law_deed_here"] (defScope lDone) := ⟨rfl, rfl, rfl, by decide +kernel, rfl, by decide +kernel, by decide +kernel⟩
section
variable {P : Program} {w : World} {K : PySem.W.Frag} {mg : Str → Option Value} {base : Heap} {f : Addr} {fd : FuncData}
theorem ok_ldone (F : FnP K "_law_done" lDone f fd) (B : Bl mg) (zInt : mg "int" = none) : FnOk P w K mg base CX0 1 f fd ["_law_w", "_law_deed_here"] (spLDone K) := by
  refine F.ok scLDn (fun vs H Q E h => ?_) (fun cdv A outer s H vs Q E hr h => ?_)
  · obtain ⟨wl, d, a, xs, n, k, rfl, _⟩ := h
    rfl
  · obtain ⟨wl, d, a, xs, n, k, rfl, hw, ha, hl, hd, hk, q⟩ := h
    refine ⟨_, PSs.nox (pss_cons (ps_set (i := 2) scLDn.nd rfl (.inl rfl) (pe_ix ix_list (pv 0) pe_int (fun _ _ => rfl)))
      (pss_cons (ps_if (pt_cmpR op_gt (pe_ix ix_tup (pv 1) pe_int (fun _ _ => rfl)) (pe_op op_sub (pe_callB call_len_seq (by rfl) B.len_ (by decide +kernel) (pa_cons (pv 2) pa_nil)) (pe_callTy call_int1 (by rfl) zInt (by decide +kernel) (pa_cons (pe_cmpR op_ne (pe_ix ix_tup (pv 1) pe_int (fun _ _ => rfl)) pe_str (nomark _)) pa_nil))) (nomark _)) (pss_one (ps_ret (pe_tup (pa_cons pe_str (pa_cons pe_non pa_nil))))) pss_nil)
      (pss_cons (ps_if (pt_cmpR op_eq (pe_ix ix_tup (pv 1) pe_int (fun _ _ => rfl)) pe_str (nomark _)) (pss_cons (ps_asg (pe_op (show OpR _ _ (rCatA K) from op_catA) (pe_slice (show SlR _ (rSlA K) from sl_tupA) (pv 2) po_none (po_some (pe_ix ix_tup (pv 1) pe_int (fun _ _ => rfl)))) (pe_slice (show SlR _ (rSlA K) from sl_tupA) (pv 2) (po_some (pe_op op_add (pe_ix ix_tup (pv 1) pe_int (fun _ _ => rfl)) pe_int)) po_none)) (pg_sub (pv 0) pe_int set_list))
      (pss_one (ps_ret (pe_tup (pa_cons pe_str (pa_cons (pe_ix ix_tup (pv 2) (pe_ix ix_tup (pv 1) pe_int (fun _ _ => rfl)) (fun _ _ => rfl)) pa_nil)))))) pss_nil)
      (pss_cons (ps_if (PW.pt (pw_or (pt_cmpR (op_inDT (room65 hr)) (pe_ix ix_tup (pv 1) pe_int (fun _ _ => rfl)) (pe_tup (pa_cons (pe_tup (pa_cons pe_str (pa_cons pe_str (pa_cons pe_str pa_nil)))) (pa_cons (pe_tup (pa_cons pe_str pa_nil)) pa_nil))) (by rfl)) (pw_or1 (PW.pt (pw_and (pt_cmpR op_eq (pe_ix ix_tup (pv 1) pe_int (fun _ _ => rfl)) pe_str (nomark _)) (pw_and1 (pt_cmpR op_eq (pe_callB call_len_seq (by rfl) B.len_ (by decide +kernel) (pa_cons (pv 2) pa_nil)) pe_int (nomark _)))))))) (pss_one (ps_ret (pe_tup (pa_cons pe_str (pa_cons (pe_ix ix_tup (pv 1) pe_int (fun _ _ => rfl)) pa_nil))))) pss_nil)
      (pss_cons (ps_if (pt_cmpR op_eq (pe_ix ix_tup (pv 1) pe_int (fun _ _ => rfl)) pe_str (nomark _)) (pss_cons (ps_asg (pe_op (show OpR _ _ (rCatA K) from op_catA) (pe_op (show OpR _ _ (rCatA K) from op_catA) (pe_slice (show SlR _ (rSlA K) from sl_tupA) (pv 2) po_none (po_some (pe_ix ix_tup (pv 1) pe_int (fun _ _ => rfl)))) (pe_tup (pa_cons (pe_ix ix_tup (pv 1) pe_int (fun _ _ => rfl)) pa_nil))) (pe_slice (show SlR _ (rSlA K) from sl_tupA) (pv 2) (po_some (pe_ix ix_tup (pv 1) pe_int (fun _ _ => rfl))) po_none)) (pg_sub (pv 0) pe_int set_list))
      (pss_one (ps_ret (pe_tup (pa_cons pe_str (pa_cons pe_non pa_nil)))))) pss_nil)
      (pss_cons (ps_asg (pe_op (show OpR _ _ (rCatA K) from op_catA) (pe_op (show OpR _ _ (rCatA K) from op_catA) (pe_slice (show SlR _ (rSlA K) from sl_tupA) (pv 2) po_none (po_some (pe_ix ix_tup (pv 1) pe_int (fun _ _ => rfl)))) (pe_tup (pa_cons (pe_ix ix_tup (pv 1) pe_int (fun _ _ => rfl)) pa_nil))) (pe_slice (show SlR _ (rSlA K) from sl_tupA) (pv 2) (po_some (pe_op op_add (pe_ix ix_tup (pv 1) pe_int (fun _ _ => rfl)) pe_int)) po_none)) (pg_sub (pv 0) pe_int set_list))
      (pss_one (ps_ret (pe_tup (pa_cons pe_str (pa_cons (pe_ix ix_tup (pv 2) (pe_ix ix_tup (pv 1) pe_int (fun _ _ => rfl)) (fun _ _ => rfl)) pa_nil))))))))))), ?_⟩
    refine ⟨_, rfl, wl, _, 0, .ref a, rfl, rfl, SqL.of hw, at_of (j := 0) rfl rfl, ?_⟩
    cases k with
    | put rv rb =>
      have hd : H d = some (.tup [.str "put", .int (n : Int), rv]) := hd
      have hk : DRow H rv rb := hk
      refine ⟨_, rfl, d, _, 1, .int (n : Int), rfl, rfl, .inl (.of hd), at_of (j := 1) rfl rfl, ?_⟩
      refine ⟨_, rfl, a, _, rfl, .inr (.inl (.of ha)), _, rfl, d, _, 0, .str "put", rfl, rfl, .inl (.of hd), at_of (j := 0) rfl rfl, ?_⟩
      refine ⟨rfl, .inr ⟨_, rfl, _, _, rfl, rfl, _, _, rfl, rfl, _, rfl, ?_⟩⟩
      have e1 : decide (((xs.length : Int) - if (!decide (V.str ("put" : Str) = V.str "put")) = true then (1 : Int) else 0) < (n : Int)) = decide (xs.length < n) := by simp
      rw [e1]
      by_cases hn : xs.length < n
      · rw [decide_eq_true hn]
        have due : dueD xs n (.put rv rb) = ((("norow" : Str), V.non), xs) := if_pos hn
        rw [due] at q
        refine iteT ⟨by show (2 : Nat) ≤ sizeLine; decide, fun p np => q p a _ ((Kept.refl H).upd np) ((upd_ne (ne_of_none hw np)).trans hw) ((upd_ne (ne_of_none ha np)).trans ha) upd_same⟩
      rw [decide_eq_false hn]
      refine iteF ⟨_, rfl, d, _, 0, .str "put", rfl, rfl, .inl (.of hd), at_of (j := 0) rfl rfl, rfl, _, rfl, iteF ?_⟩ 
      refine ⟨_, rfl, d, _, 2, rv, rfl, rfl, .inl (.of hd), at_of (j := 2) rfl rfl, by show (3 : Nat) ≤ sizeLine; decide, fun t1 n1 => ⟨by show (1 : Nat) ≤ sizeLine; decide, fun t2 n2 => ⟨by show (2 : Nat) ≤ sizeLine; decide, fun t3 n3 => ?_⟩⟩⟩
      have K3 := (((Kept.refl (M := []) H).upd (o := .tup [.str "is", .str "Ann", .str "cat"]) n1).upd (o := .tup [.str "on"]) n2).upd (o := .tup [.ref t1, .ref t2]) n3
      obtain ⟨dv, dp, sd, ed⟩ := odd_row' (K := K) hk K3
      refine ⟨dv, dOdd, dp, dp_odd ((((Kept.refl (M := []) _).upd n2).upd n3) _ _ upd_same (by simp)) (((Kept.refl (M := []) _).upd n3) _ _ upd_same (by simp)) upd_same, sd, by decide +kernel, ?_⟩
      rw [ed]
      refine ⟨_, rfl, ?_⟩
      have hd3 := K3 _ _ hd (by simp)
      have hw3 := K3 _ _ hw (by simp)
      have ha3 := K3 _ _ ha (by simp)
      generalize upd (upd (upd H t1 (.tup [.str "is", .str "Ann", .str "cat"])) t2 (.tup [.str "on"])) t3 (.tup [.ref t1, .ref t2]) = H3 at K3 hd3 hw3 ha3 ⊢
      clear dp
      cases rb with
      | false =>
        have due : dueD xs n (.put rv false) = ((("row" : Str), V.int n), xs) := by
          unfold dueD
          dsimp only
          rw [if_neg hn, if_pos (.inl rfl)]
        rw [due] at q
        refine iteT (iteT ⟨_, rfl, d, _, 1, .int (n : Int), rfl, rfl, .inl (.of hd3), at_of (j := 1) rfl rfl, by show (2 : Nat) ≤ sizeLine; decide, fun p np => q p a _ ((fun b o e _ => (K3.upd np) b o e (by simp))) ((upd_ne (ne_of_none hw3 np)).trans hw3) ((upd_ne (ne_of_none ha3 np)).trans ha3) upd_same⟩)
      | true =>
        refine iteF ⟨_, rfl, d, _, 0, .str "put", rfl, rfl, .inl (.of hd3), at_of (j := 0) rfl rfl, rfl, _, rfl, iteT ⟨_, rfl, a, _, rfl, .inr (.inl (.of ha3)), rfl, _, rfl, ?_⟩⟩ 
        have e24 : decide (V.int (xs.length : Int) = V.int 24) = decide (xs.length = 24) := by
          by_cases e : xs.length = 24
          · rw [decide_eq_true e, e]
            exact decide_eq_true rfl
          · rw [decide_eq_false e]
            refine decide_eq_false fun q => e ?_
            have := V.int.inj q
            omega
        rw [e24]
        by_cases h24 : xs.length = 24
        · rw [decide_eq_true h24]
          have due : dueD xs n (.put rv true) = ((("row" : Str), V.int n), xs) := by
            unfold dueD
            dsimp only
            rw [if_neg hn, if_pos (.inr h24)]
          rw [due] at q
          refine iteT ⟨_, rfl, d, _, 1, .int (n : Int), rfl, rfl, .inl (.of hd3), at_of (j := 1) rfl rfl, by show (2 : Nat) ≤ sizeLine; decide, fun p np => q p a _ ((fun b o e _ => (K3.upd np) b o e (by simp))) ((upd_ne (ne_of_none hw3 np)).trans hw3) ((upd_ne (ne_of_none ha3 np)).trans ha3) upd_same⟩
        rw [decide_eq_false h24]
        have due : dueD xs n (.put rv true) = ((("" : Str), V.non), xs.take n ++ rv :: xs.drop n) := by
          unfold dueD
          dsimp only
          rw [if_neg hn, if_neg (fun z => z.elim (fun z => nomatch z) h24)]
        rw [due] at q
        refine iteF ⟨_, rfl, d, _, 0, .str "put", rfl, rfl, .inl (.of hd3), at_of (j := 0) rfl rfl, rfl, _, rfl, iteT ?_⟩ 
        refine ⟨_, rfl, _, rfl, d, _, 1, .int (n : Int), rfl, rfl, .inl (.of hd3), at_of (j := 1) rfl rfl, n, rfl, slA_v ha3 fun q1 H4 k4 e4 => ?_⟩
        have hd4 := k4 _ _ hd3 (by simp)
        have hw4 := k4 _ _ hw3 (by simp)
        have ha4 := k4 _ _ ha3 (by simp)
        rw [cutV_take (by omega)] at e4
        refine ⟨_, rfl, d, _, 2, rv, rfl, rfl, .inl (.of hd4), at_of (j := 2) rfl rfl, by show (1 : Nat) ≤ sizeLine; decide, fun tt ntt => ?_⟩
        have k5 := (Kept.refl (M := []) H4).upd (o := .tup [rv]) ntt
        refine catA_v (k5 _ _ e4 (by simp)) upd_same (by rw [List.length_take]; show _ + 1 ≤ 1000; omega) fun q2 H6 k6 e6 => ?_
        have k46 := k5.trans k6
        have hd6 := k46 _ _ hd4 (by simp)
        have hw6 := k46 _ _ hw4 (by simp)
        have ha6 := k46 _ _ ha4 (by simp)
        refine ⟨_, rfl, _, rfl, d, _, 1, .int (n : Int), rfl, rfl, .inl (.of hd6), at_of (j := 1) rfl rfl, n, rfl, ?_⟩
        unfold tNoPart
        show rSlA K (.ref a) (some (n : Int)) none H6 _
        refine slA_v ha6 fun q3 H7 k7 e7 => ?_
        rw [cutV_drop (by omega)] at e7
        refine catA_v (k7 _ _ e6 (by simp)) e7 (by simp only [List.length_append, List.length_take, List.length_drop, List.length_cons, List.length_nil]; omega) fun a' H8 k8 e8 => ?_
        have kA : Kept [] H H8 := K3.trans (k4.trans (k46.trans (k7.trans k8)))
        have hd8 := kA _ _ hd (by simp)
        have hw8 := kA _ _ hw (by simp)
        have ha8 := kA _ _ ha (by simp)
        have e8 : H8 a' = some (.tup (xs.take n ++ rv :: xs.drop n)) := by rw [e8, List.append_assoc]; rfl
        refine ⟨_, rfl, wl, _, 0, 0, rfl, rfl, hw8, rfl, ?_⟩
        have nw : ∀ {p : Addr} {ys : List V}, H8 p = some (.tup ys) → p ≠ wl := fun {p ys} e z => by
          rw [z, hw8] at e
          cases e
        have kB : Kept [wl] H (upd H8 wl (.lst [.ref a'])) := fun b o e hb => (upd_ne (by simpa using hb)).trans (kA b o e (by simp))
        have hdB := (upd_ne (o := .lst [.ref a']) (nw hd8)).trans hd8
        have haB := (upd_ne (o := .lst [.ref a']) (nw ha8)).trans ha8
        have eB := (upd_ne (o := .lst [.ref a']) (nw e8)).trans e8
        refine ⟨by show (2 : Nat) ≤ sizeLine; decide, fun p np => q p a' _ (kB.upd np) ((upd_ne (ne_of_none upd_same np)).trans upd_same) ((upd_ne (ne_of_none eB np)).trans eB) upd_same⟩
    | drop =>
      have hd : H d = some (.tup [.str "drop", .int (n : Int)]) := hd
      refine ⟨_, rfl, d, _, 1, .int (n : Int), rfl, rfl, .inl (.of hd), at_of (j := 1) rfl rfl, ?_⟩
      refine ⟨_, rfl, a, _, rfl, .inr (.inl (.of ha)), _, rfl, d, _, 0, .str "drop", rfl, rfl, .inl (.of hd), at_of (j := 0) rfl rfl, ?_⟩
      refine ⟨rfl, .inr ⟨_, rfl, _, _, rfl, rfl, _, _, rfl, rfl, _, rfl, ?_⟩⟩
      have e1 : decide (((xs.length : Int) - if (!decide (V.str ("drop" : Str) = V.str "put")) = true then (1 : Int) else 0) < (n : Int)) = decide (xs.length ≤ n) := by
        rw [show decide (V.str ("drop" : Str) = V.str "put") = false by decide]
        exact decide_eq_decide.mpr (by simp; omega)
      rw [e1]
      by_cases hn : xs.length ≤ n
      · rw [decide_eq_true hn]
        have due : dueD xs n .drop = ((("norow" : Str), V.non), xs) := by
          unfold dueD
          dsimp only
          rw [List.getElem?_eq_none hn]
        rw [due] at q
        refine iteT ⟨by show (2 : Nat) ≤ sizeLine; decide, fun p np => q p a _ ((Kept.refl H).upd np) ((upd_ne (ne_of_none hw np)).trans hw) ((upd_ne (ne_of_none ha np)).trans ha) upd_same⟩
      rw [decide_eq_false hn]
      obtain ⟨v, hv⟩ : ∃ v, xs[n]? = some v := ⟨xs[n]'(by omega), List.getElem?_eq_getElem (by omega)⟩
      have due : dueD xs n .drop = ((("" : Str), v), xs.take n ++ xs.drop (n + 1)) := by
        unfold dueD
        dsimp only
        rw [hv]
      rw [due] at q
      refine iteF ⟨_, rfl, d, _, 0, .str "drop", rfl, rfl, .inl (.of hd), at_of (j := 0) rfl rfl, rfl, _, rfl, iteT ?_⟩ 
      have K3 : Kept [] H H := Kept.refl H
      have hd3 := hd
      have hw3 := hw
      have ha3 := ha
      · skip
        refine ⟨_, rfl, _, rfl, d, _, 1, .int (n : Int), rfl, rfl, .inl (.of hd3), at_of (j := 1) rfl rfl, n, rfl, slA_v ha3 fun q1 H4 k4 e4 => ?_⟩
        have hd4 := k4 _ _ hd3 (by simp)
        have hw4 := k4 _ _ hw3 (by simp)
        have ha4 := k4 _ _ ha3 (by simp)
        rw [cutV_take (by omega)] at e4
        refine ⟨_, rfl, _, rfl, d, _, 1, .int (n : Int), rfl, rfl, .inl (.of hd4), at_of (j := 1) rfl rfl, _, _, rfl, rfl, _, rfl, ?_⟩
        unfold tNoPart
        show rSlA K (.ref a) (some ((n : Int) + 1)) none H4 _
        rw [show ((n : Int) + 1) = ((n + 1 : Nat) : Int) by omega]
        refine slA_v ha4 fun q3 H7 k7 e7 => ?_
        rw [cutV_drop (by omega)] at e7
        refine catA_v (k7 _ _ e4 (by simp)) e7 (by simp only [List.length_append, List.length_take, List.length_drop, List.length_cons, List.length_nil]; omega) fun a' H8 k8 e8 => ?_
        have kA : Kept [] H H8 := K3.trans (k4.trans (k7.trans k8))
        have hd8 := kA _ _ hd (by simp)
        have hw8 := kA _ _ hw (by simp)
        have ha8 := kA _ _ ha (by simp)
        have e8 : H8 a' = some (.tup (xs.take n ++ xs.drop (n + 1))) := by exact e8
        refine ⟨_, rfl, wl, _, 0, 0, rfl, rfl, hw8, rfl, ?_⟩
        have nw : ∀ {p : Addr} {ys : List V}, H8 p = some (.tup ys) → p ≠ wl := fun {p ys} e z => by
          rw [z, hw8] at e
          cases e
        have kB : Kept [wl] H (upd H8 wl (.lst [.ref a'])) := fun b o e hb => (upd_ne (by simpa using hb)).trans (kA b o e (by simp))
        have hdB := (upd_ne (o := .lst [.ref a']) (nw hd8)).trans hd8
        have haB := (upd_ne (o := .lst [.ref a']) (nw ha8)).trans ha8
        have eB := (upd_ne (o := .lst [.ref a']) (nw e8)).trans e8
        refine ⟨_, rfl, _, rfl, d, _, 1, .int (n : Int), rfl, rfl, .inl (.of hdB), at_of (j := 1) rfl rfl, a, _, n, v, rfl, rfl, .inl (.of haB), atI_nat hv, by show (2 : Nat) ≤ sizeLine; decide, fun p np => q p a' _ (kB.upd np) ((upd_ne (ne_of_none upd_same np)).trans upd_same) ((upd_ne (ne_of_none eB np)).trans eB) upd_same⟩
    | tell rv rb =>
      have hd : H d = some (.tup [.str "tell", .int (n : Int), rv]) := hd
      have hk : DRow H rv rb := hk
      refine ⟨_, rfl, d, _, 1, .int (n : Int), rfl, rfl, .inl (.of hd), at_of (j := 1) rfl rfl, ?_⟩
      refine ⟨_, rfl, a, _, rfl, .inr (.inl (.of ha)), _, rfl, d, _, 0, .str "tell", rfl, rfl, .inl (.of hd), at_of (j := 0) rfl rfl, ?_⟩
      refine ⟨rfl, .inr ⟨_, rfl, _, _, rfl, rfl, _, _, rfl, rfl, _, rfl, ?_⟩⟩
      have e1 : decide (((xs.length : Int) - if (!decide (V.str ("tell" : Str) = V.str "put")) = true then (1 : Int) else 0) < (n : Int)) = decide (xs.length ≤ n) := by
        rw [show decide (V.str ("tell" : Str) = V.str "put") = false by decide]
        exact decide_eq_decide.mpr (by simp; omega)
      rw [e1]
      by_cases hn : xs.length ≤ n
      · rw [decide_eq_true hn]
        have due : dueD xs n (.tell rv rb) = ((("norow" : Str), V.non), xs) := by
          unfold dueD
          dsimp only
          rw [List.getElem?_eq_none hn]
        rw [due] at q
        refine iteT ⟨by show (2 : Nat) ≤ sizeLine; decide, fun p np => q p a _ ((Kept.refl H).upd np) ((upd_ne (ne_of_none hw np)).trans hw) ((upd_ne (ne_of_none ha np)).trans ha) upd_same⟩
      rw [decide_eq_false hn]
      obtain ⟨v, hv⟩ : ∃ v, xs[n]? = some v := ⟨xs[n]'(by omega), List.getElem?_eq_getElem (by omega)⟩
      refine iteF ⟨_, rfl, d, _, 0, .str "tell", rfl, rfl, .inl (.of hd), at_of (j := 0) rfl rfl, rfl, _, rfl, iteF ?_⟩ 
      refine ⟨_, rfl, d, _, 2, rv, rfl, rfl, .inl (.of hd), at_of (j := 2) rfl rfl, by show (3 : Nat) ≤ sizeLine; decide, fun t1 n1 => ⟨by show (1 : Nat) ≤ sizeLine; decide, fun t2 n2 => ⟨by show (2 : Nat) ≤ sizeLine; decide, fun t3 n3 => ?_⟩⟩⟩
      have K3 := (((Kept.refl (M := []) H).upd (o := .tup [.str "is", .str "Ann", .str "cat"]) n1).upd (o := .tup [.str "on"]) n2).upd (o := .tup [.ref t1, .ref t2]) n3
      obtain ⟨dv, dp, sd, ed⟩ := odd_row' (K := K) hk K3
      refine ⟨dv, dOdd, dp, dp_odd ((((Kept.refl (M := []) _).upd n2).upd n3) _ _ upd_same (by simp)) (((Kept.refl (M := []) _).upd n3) _ _ upd_same (by simp)) upd_same, sd, by decide +kernel, ?_⟩
      rw [ed]
      refine ⟨_, rfl, ?_⟩
      have hd3 := K3 _ _ hd (by simp)
      have hw3 := K3 _ _ hw (by simp)
      have ha3 := K3 _ _ ha (by simp)
      generalize upd (upd (upd H t1 (.tup [.str "is", .str "Ann", .str "cat"])) t2 (.tup [.str "on"])) t3 (.tup [.ref t1, .ref t2]) = H3 at K3 hd3 hw3 ha3 ⊢
      clear dp
      cases rb with
      | false =>
        have due : dueD xs n (.tell rv false) = ((("row" : Str), V.int n), xs) := by
          unfold dueD
          dsimp only
          rw [hv]
          rfl
        rw [due] at q
        refine iteT (iteT ⟨_, rfl, d, _, 1, .int (n : Int), rfl, rfl, .inl (.of hd3), at_of (j := 1) rfl rfl, by show (2 : Nat) ≤ sizeLine; decide, fun p np => q p a _ ((fun b o e _ => (K3.upd np) b o e (by simp))) ((upd_ne (ne_of_none hw3 np)).trans hw3) ((upd_ne (ne_of_none ha3 np)).trans ha3) upd_same⟩)
      | true =>
        refine iteF ⟨_, rfl, d, _, 0, .str "tell", rfl, rfl, .inl (.of hd3), at_of (j := 0) rfl rfl, rfl, _, rfl, iteF (iteF ?_)⟩ 
        have due : dueD xs n (.tell rv true) = ((("" : Str), v), xs.take n ++ rv :: xs.drop (n + 1)) := by
          unfold dueD
          dsimp only
          rw [hv]
          rfl
        rw [due] at q
        refine ⟨_, rfl, d, _, 0, .str "tell", rfl, rfl, .inl (.of hd3), at_of (j := 0) rfl rfl, rfl, _, rfl, iteF ?_⟩ 
        refine ⟨_, rfl, _, rfl, d, _, 1, .int (n : Int), rfl, rfl, .inl (.of hd3), at_of (j := 1) rfl rfl, n, rfl, slA_v ha3 fun q1 H4 k4 e4 => ?_⟩
        have hd4 := k4 _ _ hd3 (by simp)
        have hw4 := k4 _ _ hw3 (by simp)
        have ha4 := k4 _ _ ha3 (by simp)
        rw [cutV_take (by omega)] at e4
        refine ⟨_, rfl, d, _, 2, rv, rfl, rfl, .inl (.of hd4), at_of (j := 2) rfl rfl, by show (1 : Nat) ≤ sizeLine; decide, fun tt ntt => ?_⟩
        have k5 := (Kept.refl (M := []) H4).upd (o := .tup [rv]) ntt
        refine catA_v (k5 _ _ e4 (by simp)) upd_same (by rw [List.length_take]; show _ + 1 ≤ 1000; omega) fun q2 H6 k6 e6 => ?_
        have k46 := k5.trans k6
        have hd6 := k46 _ _ hd4 (by simp)
        have hw6 := k46 _ _ hw4 (by simp)
        have ha6 := k46 _ _ ha4 (by simp)
        refine ⟨_, rfl, _, rfl, d, _, 1, .int (n : Int), rfl, rfl, .inl (.of hd6), at_of (j := 1) rfl rfl, _, _, rfl, rfl, _, rfl, ?_⟩
        unfold tNoPart
        show rSlA K (.ref a) (some ((n : Int) + 1)) none H6 _
        rw [show ((n : Int) + 1) = ((n + 1 : Nat) : Int) by omega]
        refine slA_v ha6 fun q3 H7 k7 e7 => ?_
        rw [cutV_drop (by omega)] at e7
        refine catA_v (k7 _ _ e6 (by simp)) e7 (by simp only [List.length_append, List.length_take, List.length_drop, List.length_cons, List.length_nil]; omega) fun a' H8 k8 e8 => ?_
        have kA : Kept [] H H8 := K3.trans (k4.trans (k46.trans (k7.trans k8)))
        have hd8 := kA _ _ hd (by simp)
        have hw8 := kA _ _ hw (by simp)
        have ha8 := kA _ _ ha (by simp)
        have e8 : H8 a' = some (.tup (xs.take n ++ rv :: xs.drop (n + 1))) := by rw [e8, List.append_assoc]; rfl
        refine ⟨_, rfl, wl, _, 0, 0, rfl, rfl, hw8, rfl, ?_⟩
        have nw : ∀ {p : Addr} {ys : List V}, H8 p = some (.tup ys) → p ≠ wl := fun {p ys} e z => by
          rw [z, hw8] at e
          cases e
        have kB : Kept [wl] H (upd H8 wl (.lst [.ref a'])) := fun b o e hb => (upd_ne (by simpa using hb)).trans (kA b o e (by simp))
        have hdB := (upd_ne (o := .lst [.ref a']) (nw hd8)).trans hd8
        have haB := (upd_ne (o := .lst [.ref a']) (nw ha8)).trans ha8
        have eB := (upd_ne (o := .lst [.ref a']) (nw e8)).trans e8
        refine ⟨_, rfl, _, rfl, d, _, 1, .int (n : Int), rfl, rfl, .inl (.of hdB), at_of (j := 1) rfl rfl, a, _, n, v, rfl, rfl, .inl (.of haB), atI_nat hv, by show (2 : Nat) ≤ sizeLine; decide, fun p np => q p a' _ (kB.upd np) ((upd_ne (ne_of_none upd_same np)).trans upd_same) ((upd_ne (ne_of_none eB np)).trans eB) upd_same⟩
end
end Ah
end
section
set_option Elab.async false
set_option linter.all false
set_option maxRecDepth 100000
set_option maxHeartbeats 2000000
namespace Ah
open PySem PySem.Spec PyProof.Rows L2
open GxR (TabB TabG Tabbed)
open GxG
/-! ### House.__init__, House.batch -/
def spHI (K : PySem.W.Frag) (T : List Addr) (C : Addr) : Sp := fun vs H Q _ => ∃ (x dx a : Addr) (rs : List V), vs = [.ref x, .ref a] ∧ H x = some (.ins C dx []) ∧ H a = some (.tup rs) ∧ rs.length ≤ 24 ∧ (∀ r ∈ rs, RowV K H r true) ∧ (∀ P ∈ T, TabG H P) ∧
  ∀ H' ak ev, (∀ b o, H b = some o → b ∉ T → b ≠ x → H' b = some o) → (∀ P ∈ T, TabG H' P) → H ak = none → H ev = none → HSt H' x dx C ak ev (.ref a) [] true → Q .non H'
theorem scHI2 : FnScope ["self", "rows"] ["self", "rows"] (defScope sHouseInit) := ⟨rfl, rfl, rfl, by decide +kernel, rfl, by decide +kernel, by decide +kernel⟩
theorem scHBa : FnScope ["self", "deeds", "keep", "ahead", "answers", "number", "deed"] ["self", "deeds", "keep"] (defScope sHouseBatch) := ⟨rfl, rfl, rfl, by decide +kernel, rfl, by decide +kernel, by decide +kernel⟩
def spBatch (K : PySem.W.Frag) (C Cb : Addr) : Sp := fun vs H Q E => ∃ (x dx ak ev : Addr) (rv : V) (evs : List Str) (b : Bool) (v kv : V), vs = [.ref x, v, kv] ∧ HSt H x dx C ak ev rv evs b ∧
  ((∀ Q' : VK, spChD K Cb [v] H Q' E) ∨ ∃ l : Addr, v = .ref l ∧ H l = some (.lst []) ∧ l ≠ ev ∧ evs.length < 99 ∧
    ∀ H' out, Kept [x, ev] H H' → H out = none → H' out = some (.lst []) → HSt H' x dx C ak ev rv (evs ++ [("begun" : Str), ("ended" : Str)]) true → Q (.ref out) H')
section
variable {P : Program} {w : World} {K : PySem.W.Frag} {mg : Str → Option Value} {base : Heap} {f fC fB fE C Cb : Addr} {fd fdC fdB fdE : FuncData} {T : List Addr}
theorem ok_hinit (F : MthP K "__init__" "House.__init__" sHouseInit f fd) (CH : ClsH K C) (gC : mg "check_text" = some (.ref fC)) (FC : FnOk P w K mg base CX0 6 fC fdC ["rows"] (spCheck0 K T)) (kC : PySem.W.keepIn K (.ref fC) = true) (bC : Binds K fdC ["rows"] []) :
    FnOk P w K mg base CX0 7 f fd ["self", "rows"] (spHI K T C) := by
  refine F.ok scHI2 (fun vs H Q E h => ?_) (fun cdv A outer s H vs Q E hr h => ?_)
  · obtain ⟨x, dx, a, rs, rfl, _⟩ := h
    rfl
  · obtain ⟨x, dx, a, rs, rfl, hx, ha, hl, hrs, ht, k⟩ := h
    refine ⟨_, PSs.nox (pss_cons (ps_expr (pe_call FC hr (by rfl) gC kC bC .nil pass0 (pa_cons (pv 1) pa_nil)))
      (pss_cons (ps_fld (pv 0) (pv 1) rfl) (pss_cons (ps_fld (pv 0) (pe_lst pa_nil) rfl) (pss_cons (ps_fld (pv 0) (pe_lst pa_nil) rfl) (pss_one (ps_fld (pv 0) pe_bl rfl)))))), ?_⟩
    refine ⟨_, rfl, a, rs, rfl, ha, hl, hrs, ht, fun H1 k1 => ?_⟩
    have x1 : H1 x = some (.ins C dx []) := k1.obj ht hx
    refine ⟨_, rfl, _, rfl, x, C, dx, _, rfl, x1, CH.c, CH.n1, by decide, ?_⟩
    refine ⟨by decide, fun ak nk => ?_⟩
    have nk1 : ak ≠ x := fun z => by rw [z, upd_same] at nk; cases nk
    rw [upd_ne nk1] at nk
    refine ⟨_, rfl, x, C, dx, _, rfl, by rw [upd_ne (Ne.symm nk1)]; exact upd_same, CH.c, CH.n2, by show (1 : Nat) < 1000; decide, ?_⟩
    refine ⟨by decide, fun ev ne => ?_⟩
    have ne1 : ev ≠ x := fun z => by rw [z, upd_same] at ne; cases ne
    rw [upd_ne ne1] at ne
    have ne2 : ev ≠ ak := fun z => by rw [z, upd_same] at ne; cases ne
    rw [upd_ne ne2, upd_ne ne1] at ne
    refine ⟨_, rfl, x, C, dx, _, rfl, by rw [upd_ne (Ne.symm ne1)]; exact upd_same, CH.c, CH.n3, by show (2 : Nat) < 1000; decide, ?_⟩
    refine ⟨_, rfl, x, C, dx, _, rfl, upd_same, CH.c, CH.n4, by show (3 : Nat) < 1000; decide, ?_⟩
    have old : ∀ b : Addr, b ≠ x → b ≠ ak → b ≠ ev → upd (upd (upd (upd (upd (upd H1 x (.ins C dx (putF "standing" (V.ref a) []))) ak (.lst [])) x (.ins C dx (putF "asked" (V.ref ak) (putF "standing" (V.ref a) [])))) ev (.lst [])) x (.ins C dx (putF "events" (V.ref ev) (putF "asked" (V.ref ak) (putF "standing" (V.ref a) []))))) x (.ins C dx (putF "idle" (V.bl true) (putF "events" (V.ref ev) (putF "asked" (V.ref ak) (putF "standing" (V.ref a) []))))) b = H1 b := fun b h1 h2 h3 => by
      rw [upd_ne h1, upd_ne h1, upd_ne h3, upd_ne h1, upd_ne h2, upd_ne h1]
    have none0 : ∀ {b : Addr}, H1 b = none → H b = none := fun {b} n => by
      cases e : H b with
      | none => rfl
      | some o =>
        by_cases hb : b ∈ T
        · obtain ⟨ps, e1, _⟩ := k1.tab b hb
          rw [e1] at n
          cases n
        · rw [k1.keep b o e hb] at n
          cases n
    refine k _ ak ev (fun b o e hb hbx => ?_) (fun P hP => ?_) (none0 nk) (none0 ne) ⟨?_, ?_, by simp⟩
    · have e1 := k1.keep b o e hb
      rw [old b hbx (ne_of_none e1 nk) (ne_of_none e1 ne)]
      exact e1
    · obtain ⟨ps, e1, e2⟩ := k1.tab P hP
      refine ⟨ps, ?_, e2⟩
      rw [old P (fun z => by rw [z, x1] at e1; cases e1) (ne_of_none e1 nk) (ne_of_none e1 ne)]
      exact e1
    · rw [upd_same]
      rfl
    · rw [upd_ne ne1, upd_ne ne1, upd_same]
      rfl
theorem ok_hbatch (F : FunD K "batch" "House.batch" (defArgs sHouseBatch) (defBody sHouseBatch) (defScope sHouseBatch) [] [("keep", .bl true)] f fd) (CH : ClsH K C) (W : TW K mg)
    (gC : mg "check_deeds" = some (.ref fC)) (FC : FnOk P w K mg base (L2.CX P w) 3 fC fdC ["deeds"] (spChD K Cb)) (kC : PySem.W.keepIn K (.ref fC) = true) (bC : Binds K fdC ["deeds"] [])
    (mB : Meth K C "begin" fB) (FB : FnOk P w K mg base CX0 1 fB fdB ["self"] (spHEv C "begun" false)) (bB : Binds K fdB ["self"] [])
    (mE : Meth K C "end" fE) (FE : FnOk P w K mg base CX0 1 fE fdE ["self"] (spHEv C "ended" true)) (bE : Binds K fdE ["self"] []) :
    FnOk P w K mg base (L2.CX P w) 4 f fd ["self", "deeds", "keep"] (spBatch K C Cb) := by
  refine F.ok scHBa (fun vs H Q E h => ?_) (fun cdv A outer s H vs Q E hr h => ?_)
  · obtain ⟨x, dx, ak, ev, rv, evs, b, v, kv, rfl, _⟩ := h
    rfl
  · obtain ⟨x, dx, ak, ev, rv, evs, b, v, kv, rfl, S, h⟩ := h
    refine ⟨_, pss_cons (ps_expr (pe_call FC hr (by rfl) gC kC bC .nil (passes_call (takes_of rfl rfl rfl rfl) (fun _ _ _ _ h => h)) (pa_cons (pv 1) pa_nil)))
      (pss_cons (ps_set (i := 3) scHBa.nd rfl (.inl rfl) (pe_fld (pv 0) rfl)) (pss_cons (ps_set (i := 4) scHBa.nd rfl (.inl rfl) (pe_lst pa_nil))
      (pss_cons (ps_expr (pe_meth0 (pv 0) CH.c mB FB (hr.mono (by decide)) bB .nil pass0))
      (pss_cons (ps_for (passes_of rfl) rfl (pi_enum (by rfl) W.enu (pa_cons (pv 1) pa_nil)) (pg_tup rfl (pgs_cons (pg_name (i := 5) scHBa.nd rfl (.inl rfl)) (pgs_cons (pg_name (i := 6) scHBa.nd rfl (.inl rfl)) pgs_nil)))
        (pss_one ps_never))
      (pss_cons (ps_expr (pe_meth0 (pv 0) CH.c mE FE (hr.mono (by decide)) bE .nil pass0)) (pss_one (ps_ret (pv 4)))))))), ?_⟩
    rcases h with h | ⟨l, rfl, hl, hle, hlen, k⟩
    · refine ⟨_, rfl, ?_⟩
      dsimp only
      unfold tNil
      dsimp only
      rw [List.append_nil]
      exact h _
    · refine ⟨_, rfl, _, rfl, .inr ⟨l, [], fun _ => true, rfl, hl, (fun x hx => nomatch hx), fun _ H1 k1 => ?_, fun j x e => by simp at e⟩⟩
      have K1 : Kept [] H H1 := fun b o e _ => k1.at e
      have S1 := S.kept K1
      refine ⟨_, rfl, x, C, dx, _, _, rfl, S1.ob, CH.c, CH.n1, rfl, ?_⟩
      refine ⟨by decide, fun out nout => ?_⟩
      have K2 : Kept [] H1 (upd H1 out (.lst [])) := (Kept.refl H1).upd nout
      have S2 := S1.kept K2
      refine ⟨_, rfl, x, dx, _, rfl, S2.ob, rfl, x, dx, ak, ev, rv, evs, b, rfl, S2, by omega, fun H3 k3 S3 => ?_⟩
      have nx : x ≠ out := ne_of_none S1.ob nout
      have ne : ev ≠ out := ne_of_none S1.ev nout
      have nlx : l ≠ x := fun z => by
        rw [z, S.ob] at hl
        cases hl
      have lo : l ≠ out := ne_of_none (K1 _ _ hl (by simp)) nout
      have hl3 : H3 l = some (.lst []) := k3 _ _ (K2 _ _ (K1 _ _ hl (by simp)) (by simp)) (by simp [nlx, hle])
      have ho3 : H3 out = some (.lst []) := k3 _ _ upd_same (by simp [Ne.symm nx, Ne.symm ne])
      refine ⟨_, rfl, l, [], rfl, SqL.of hl3, for_it (walk_enum (K := K) (a := l) (xs := [])) (fun i σ H' => σ = [some (.ref x), some (.ref l), some kv, some rv, some (.ref out), none, none] ∧ H' = H3) ⟨rfl, rfl⟩ (fun i σ H' _ pv => by rw [pv.2]; exact SqL.of hl3) (fun i y σ Ha Hb hi => absurd hi (Nat.not_lt_zero i)) ?_⟩
      rintro σ H' ⟨rfl, rfl⟩
      refine ⟨_, rfl, x, dx, _, rfl, S3.ob, rfl, x, dx, ak, ev, rv, _, _, rfl, S3, by simp; omega, fun H4 k4 S4 => ?_⟩
      refine ⟨_, rfl, ?_⟩
      refine k H4 out (fun b o e hb => ?_) ?_ (k4 _ _ ho3 (by simp [Ne.symm nx, Ne.symm ne])) ?_
      · exact k4 _ _ (k3 _ _ (K2 _ _ (K1 _ _ e (by simp)) (by simp)) hb) hb
      · cases e : H out with
        | none => rfl
        | some o =>
          rw [K1 _ _ e (by simp)] at nout
          cases nout
      · rw [List.append_assoc] at S4
        exact S4
end
end Ah
end
section
set_option Elab.async false
set_option linter.all false
set_option maxRecDepth 100000
set_option maxHeartbeats 2000000
namespace Ah
open PySem PySem.Spec PyProof.Rows L2
/-! ### a lambda with a default: its object bears the tuple of it -/
abbrev lamFd (q : Str) (params : Arguments) (body : Expr) (scope : Scope) (cl : List (Str × Addr)) (pm cdv ct dV : Value) : FuncData := { PySem.W.kla_fn "<lambda>" q params body scope cl pm cdv ct with defaults := dV }
abbrev lamOb (q : Str) (params : Arguments) (body : Expr) (scope : Scope) (cl : List (Str × Addr)) (pm cdv ct dV : Value) : Obj := { cls := .type "function", data := .func (lamFd q params body scope cl pm cdv ct dV) }
section
variable {M : Model} {A : Around} {E : Value → Shared → Prop} {s : Shared} {q : Str} {params : Arguments} {body : Expr} {scope : Scope} {env : Env} {c P : Addr} {ps : Array Value} {pos : Pos} {n : Nat} {mg : Str → Option Value} {clos : List (Str × Addr)} {Q : Value → Shared → Prop} {dV : Value}
/-- the closure's tuple, if there is one, is laid; the rest follows in any heap that keeps what was -/
theorem lamd_tail (hcl : closureFor scope env = pure clos)
    (h : ∀ ctv h', (∀ b o, s.heap.get? b = some o → h'.get? b = some o) → s.heap.objs.size ≤ h'.objs.size →
      wpAny M A (functionCode env pos n "<lambda>" q params scope (.expr body)) (fun cv s1 => wpAny M A (builtinsFor env.globals env.builtins) (fun bv s2 => wpAny M A (nsGet env.globals "__name__") (fun nv s3 =>
        Q (.ref s3.heap.objs.size) { s3 with heap := s3.heap.push { cls := .type "function", data := .func { name := "<lambda>", qualname := q, params := params, body := .expr body, scope := scope, globals := env.globals, closure := clos, closureTuple := ctv, code := cv, builtins := bv, defaults := dV, kwdefaults := .none, annotations := none, pyModule := nv.getD .none, doc := .none } } }) E s2) E s1) E { s with heap := h' }) :
    wpAny M A (makeTail "<lambda>" q params (.expr body) scope env dV .none none pos n) Q E s := by
  unfold makeTail
  rw [hcl]
  refine wpAny_bind (wpAny_pure ?_)
  cases clos with
  | nil =>
    simp only [List.isEmpty_nil, if_true]
    refine wpAny_bind (wpAny_pure (wpAny_bind (wpAny_mono (h .none s.heap (fun _ _ e => e) (Nat.le_refl _)) (fun cv s1 h1 => wpAny_bind (wpAny_mono h1 (fun bv s2 h2 => wpAny_bind (wpAny_mono h2 (fun nv s3 h3 => ?_) fun _ _ x => x)) fun _ _ x => x)) fun _ _ x => x)))
    exact wpAny_bind (wpAny_pure (wpAny_newObj_type h3 (by size_fits)))
  | cons p r =>
    simp only [List.isEmpty_cons, Bool.false_eq_true, if_false]
    refine wpAny_bind (wpAny_newTextTuple ?_)
    refine (wpAny_bind (wpAny_mono (h (.ref s.heap.objs.size) _ (fun b o e => Heap.get?_push_of_some _ e) (by rw [Heap.size_push]; omega)) (fun cv s1 h1 => wpAny_bind (wpAny_mono h1 (fun bv s2 h2 => wpAny_bind (wpAny_mono h2 (fun nv s3 h3 => ?_) fun _ _ x => x)) fun _ _ x => x)) fun _ _ x => x))
    exact wpAny_bind (wpAny_pure (wpAny_newObj_type h3 (by size_fits)))
end
section
variable {X : Cx} {pins : List (Addr × Obj)} {σ : L2.St} {H : Hp} {s : Shared}
open LamX in
theorem lam_makeD {T : List (Addr × Str)} {c P : Addr} {params : Arguments} {body : Expr} {scope : Scope} {pos p0 : Pos} {k : Int} {j : Nat} {E : Value → Shared → Prop} {Q : Value → Shared → Prop} (I : L2.Inv X pins σ H s) (TB : LamX.TabB X.base X.mg c P) (hcode : X.env.code = .ref c)
    (hm : (P, X.env.qual ++ "<lambda>") ∈ T) (hu : ∀ p ∈ T, p.1 = P → p.2 = X.env.qual ++ "<lambda>") (hT : LamX.Tabs T H) (hdef : defaultsOf params X.env = ([eval (.Constant (.int k) j p0) X.env], [])) (hfree : ∀ y ∈ scope.names, y.2 = .free → ∃ c, X.env.cells.lookup y.1 = some c)
    (h : ∀ (f t c' : Addr) (tk : Tok) (pm ctv : Value) (H1 : Hp) (s' : Shared), L2.Inv X pins σ H1 s' → LamX.ExtN H H1 → LamX.Tabs T H1 →
      s'.heap.get? f = some (lamOb (X.env.qual ++ "<lambda>") params body scope (cloFrom X.env.cells scope.names []) pm (.ref c') ctv (.ref t)) → s'.heap.get? t = some { cls := .type "tuple", data := .seq [Value.int k tk].toArray } →
      H1 f = none → H1 t = none → f ∉ frs X.stack → t ∉ frs X.stack → H1 c' = some (LamX.CodeO c' (X.env.qual ++ "<lambda>")) → Q (.ref f) s') :
    wpAny (model X.prog X.w) X.A (eval (.Lambda params body scope pos) X.env) Q E s := by
  obtain ⟨ps, hP, ht, ha⟩ := hT _ hm
  rw [arm_eval_Lambda, hdef]
  show wpAny _ _ (do let dv ← evalAll [eval (.Constant (.int k) j p0) X.env]; let kdv ← holding dv (evalAllOpt []); makeFunction "<lambda>" (X.env.qual ++ "<lambda>") params (.expr body) scope X.env dv kdv [] pos pos.line) Q E s
  refine wpAny_bind (wpAny_bind (wpAny_Constant_int (wpAny_bind (wpAny_holding (wpAny_pure (wpAny_pure ?_))))))
  refine wpAny_bind (wpAny_holding (wpAny_pure ?_))
  rw [makeFunction_eq]
  simp only [List.zip_nil_right, List.filterMap_nil, List.isEmpty_nil, List.isEmpty_cons, Bool.false_eq_true, if_false, if_true, pure_bind]
  refine wpAny_bind (wpAny_newTextTuple ?_)
  refine lamd_tail (closure_ok hfree) fun ctv h1 k1 l1 => ?_
  have k0 : ∀ b o, s.heap.get? b = some o → h1.get? b = some o := fun b o e => k1 b o (Heap.get?_push_of_some _ e)
  have e0 : h1.get? s.heap.objs.size = some { cls := .type "tuple", data := .seq [Value.int k s.toks].toArray } := k1 _ _ (Heap.get?_push_at rfl rfl)
  have l0 : s.heap.objs.size < h1.objs.size := by
    have z := l1
    dsimp only at z
    rw [Heap.size_push] at z
    exact z
  have bP : s.heap.BuiltinsAt X.mg P := TB.bm.keeps I.bk
  have hP' : s.heap.get? P = some { cls := .none, data := .fields ps } := I.hok P _ hP
  have nofr : ∀ f, s.heap.objs.size ≤ f → f ∉ frs X.stack := fun f hf z => by
    rcases List.mem_cons.mp (I.stkSub _ z) with e | e
    · have h1 := I.lt
      rw [← e] at h1
      exact Nat.lt_irrefl _ (Nat.lt_of_lt_of_le h1 hf)
    · exact I.nofs hf e
  have nt : H s.heap.objs.size = none := I.hok.fresh (Nat.le_refl _)
  have htP : s.heap.objs.size ≠ P := Nat.ne_of_gt (Heap.lt_size hP')
  obtain ⟨bm, ob, hbm, hne0, hneG, hneP, hbo, hcls, hdict, hdata⟩ := bP
  have hG := (I.mod.glob.keeps I.bk).keeps k0
  have hC := (TB.code.keeps I.bk).keeps k0
  rw [I.ok.glob]
  cases hc : codeAmong pos ps.toList with
  | none =>
    refine PySem.wpAny_functionCodeX hcode (hC.code (k0 _ _ hP') ht) (hC.tab (k0 _ _ hP')) hc fun c' h' tk hx hge hlt _ hrec htb _ => ?_
    obtain ⟨c2, oc, vs, t, e2, hoc, hd, hv⟩ := hrec
    cases e2
    have kx : ∀ b o, b ≠ P → s.heap.get? b = some o → h'.get? b = some o := fun b o hb e => hx b o hb (k0 b o e)
    have hG' := hG.extBut hx TB.gP
    refine wpAny_builtinsFor hG' hbm hne0 (kx _ _ hneP hbo) hcls hdict hdata ?_
    refine wpAny_nsGet hG' ?_
    have hsz : s.heap.objs.size ≤ h'.objs.size := Nat.le_of_lt (Nat.lt_of_lt_of_le l0 (Nat.le_trans hge (Nat.le_of_lt hlt)))
    have hcs : s.heap.objs.size ≤ c' := Nat.le_of_lt (Nat.lt_of_lt_of_le l0 hge)
    have nC : H c' = none := I.hok.fresh hcs
    have I1 := LamX.inv_table (q := X.env.qual ++ "<lambda>") (t' := tk) (more := #[rawInt pos.line, rawInt pos.col, .ref c']) (h' := h'.push (lamOb (X.env.qual ++ "<lambda>") params body scope (cloFrom X.env.cells scope.names []) ((X.mg "__name__").getD .none) (.ref c') ctv (.ref s.heap.objs.size))) I hP
      (fun b o hb e => Heap.get?_push_of_some _ (kx b o hb e)) (Heap.get?_push_of_some _ htb.2) hcs ⟨oc, vs, t, Heap.get?_push_of_some _ hoc, hd, hv⟩
    have hE : LamX.ExtN H (L2.upd (L2.upd H P (.tbl (ps ++ #[rawInt pos.line, rawInt pos.col, .ref c']))) c' (LamX.CodeO c' (X.env.qual ++ "<lambda>"))) := fun b o e n => by
      rw [upd_ne (ne_of_none e nC), upd_ne (fun z => n ps (Option.some.inj (e.symm.trans (by rw [z]; exact hP))))]
      exact e
    have eL : (ps ++ #[rawInt pos.line, rawInt pos.col, .ref c']).toList = ps.toList ++ [rawInt pos.line, rawInt pos.col, .ref c'] := by simp
    have htc : s.heap.objs.size ≠ c' := Nat.ne_of_lt (Nat.lt_of_lt_of_le l0 hge)
    have et : h'.get? s.heap.objs.size = some { cls := .type "tuple", data := .seq [Value.int k s.toks].toArray } := hx _ _ htP e0
    refine h h'.objs.size s.heap.objs.size c' s.toks ((X.mg "__name__").getD .none) ctv _ _ I1 hE (fun p hp => ?_) (Heap.get?_push_size _ rfl) (Heap.get?_push_of_some _ et) ?_ ?_ (nofr _ hsz) (nofr _ (Nat.le_refl _)) upd_same
    · by_cases hb : p.1 = P
      · rw [hu p hp hb, hb]
        refine ⟨_, by rw [upd_ne (ne_of_none hP nC), upd_same], by rw [eL]; exact PySem.TriplesOk_snoc _ _ _ _ ht, fun p' cv hcv => ?_⟩
        rw [eL] at hcv
        rcases LamX.among_app _ ht hcv with z | z
        · obtain ⟨c0, e1, e2⟩ := ha p' cv z
          exact ⟨c0, e1, hE _ _ e2 LamX.codeO_ne⟩
        · exact ⟨c', z, upd_same⟩
      · obtain ⟨ps', a1, a2, a3⟩ := hT p hp
        refine ⟨ps', by rw [upd_ne (ne_of_none a1 nC), upd_ne hb]; exact a1, a2, fun p' cv hcv => ?_⟩
        obtain ⟨c0, e1, e2⟩ := a3 p' cv hcv
        exact ⟨c0, e1, hE _ _ e2 LamX.codeO_ne⟩
    · have n1 : h'.objs.size ≠ c' := Nat.ne_of_gt hlt
      have n2 : h'.objs.size ≠ P := Nat.ne_of_gt (Nat.lt_of_lt_of_le (Heap.lt_size hP') hsz)
      rw [upd_ne n1, upd_ne n2]
      exact I.hok.fresh hsz
    · rw [upd_ne htc, upd_ne htP]
      exact nt
  | some cv =>
    obtain ⟨c', e, hco⟩ := ha pos cv hc
    subst e
    refine wpAny_functionCode_hit hcode (hC.code (k0 _ _ hP') ht) hc ?_
    refine wpAny_builtinsFor hG hbm hne0 (k0 _ _ hbo) hcls hdict hdata ?_
    refine wpAny_nsGet hG ?_
    have kk : ∀ o' b o, s.heap.get? b = some o → (h1.push o').get? b = some o := fun o' b o e => Heap.get?_push_of_some _ (k0 b o e)
    refine h h1.objs.size s.heap.objs.size c' s.toks ((X.mg "__name__").getD .none) ctv H _ (I.kept (kk _)) (LamX.ExtN.refl H) hT (Heap.get?_push_size _ rfl) (Heap.get?_push_of_some _ e0) (I.hok.fresh (Nat.le_of_lt l0)) nt (nofr _ (Nat.le_of_lt l0)) (nofr _ (Nat.le_refl _)) hco
end
end Ah
end
section
set_option Elab.async false
set_option linter.all false
set_option maxRecDepth 100000
set_option maxHeartbeats 2000000
namespace Ah
open PySem PySem.Spec PyProof.Rows L2 LamX
/-! ### such a lambda called, what it lets out wished for at the caller's slots -/
/-- its own names are none of the maker's slots -/
structure LamSD (N : List Str) (sc scope : Scope) : Prop where
  kind : scope.kind = .function
  co : scope.isCoroutine = false
  gen : scope.isGenerator = false
  own : ∀ y ∈ scope.names, y.2 ≠ .cell
  loc : ∀ y ∈ scope.names, y.2 = .local → y.1 ∉ N
  free : ∀ y ∈ scope.names, y.2 = .free → sc.names.lookup y.1 = some .cell ∨ sc.names.lookup y.1 = some .free
def lamSDB (N : List Str) (sc scope : Scope) : Bool :=
  decide (scope.kind = .function) && !scope.isCoroutine && !scope.isGenerator && scope.names.all fun y => !decide (y.2 = .cell) && (!decide (y.2 = .local) || !N.contains y.1) && (!decide (y.2 = .free) || decide (sc.names.lookup y.1 = some .cell) || decide (sc.names.lookup y.1 = some .free))
theorem lamSD_by {N : List Str} {sc scope : Scope} (h : lamSDB N sc scope = true) : LamSD N sc scope := by
  unfold lamSDB at h
  simp only [Bool.and_eq_true, Bool.or_eq_true, Bool.not_eq_true', decide_eq_true_eq, decide_eq_false_iff_not, List.all_eq_true] at h
  obtain ⟨⟨⟨h1, h2⟩, h3⟩, h4⟩ := h
  refine ⟨h1, h2, h3, fun y hy => (h4 y hy).1.1, fun y hy e hm => ?_, fun y hy e => ?_⟩
  · rcases (h4 y hy).1.2 with z | z
    · exact z e
    · rw [List.contains_iff_mem.mpr hm] at z
      cases z
  · rcases (h4 y hy).2 with (z | z) | z
    · exact absurd e z
    · exact .inl z
    · exact .inr z
theorem LamSD.has {X : Cx} {N : List Str} {scope : Scope} (L : LamSD N X.env.scope scope) (ok : X.Ok) : ∀ y ∈ scope.names, y.2 = .free → ∃ c, X.env.cells.lookup y.1 = some c := fun y hy e => by
  rcases L.free y hy e with k | k
  · exact ok.has _ (.inl k)
  · exact ok.has _ (.inr k)
section
variable {X : Cx} {pins : List (Addr × Obj)} {σ : L2.St} {H HZ : Hp} {s s1 : Shared}
theorem lam_startD {A : Around} {outer : List Env} {E : XK} {scope : Scope} {f c' : Addr} {h₁ : Heap} {tk : Nat} {m : Str → Option Value} (I : L2.Inv X pins σ H s) (L : LamSD X.N X.env.scope scope) (e0 : Env0 X.prog X.w X.K X.mg X.base A outer s1 HZ) (hd : A.handled = none)
    (un : Un (frs X.stack) [] H HZ s.heap s1.heap) (hns : h₁.Ns s1.heap.objs.size m) (kp : ∀ b o, s1.heap.get? b = some o → h₁.get? b = some o) :
    L2.Inv (lamCx X A outer s1 HZ E scope f c') [] σ HZ { s1 with heap := h₁, toks := tk } := by
  have hfree := L.has I.ok
  have cm : ∀ {y c}, (cloFrom X.env.cells scope.names []).lookup y = some c → X.env.cells.lookup y = some c := fun {y c} e => by
    rcases cloFrom_mem (PySem.mem_of_lookup e) with hm | ⟨h1, h2⟩
    · cases hm
    · obtain ⟨c1, hc⟩ := hfree _ h1 rfl
      have hc : X.env.cells.lookup y = some c1 := hc
      rw [hc] at h2
      rw [h2]
      exact hc
  have look : ∀ {y}, scope.names.lookup y = some .free → ∃ c, (cloFrom X.env.cells scope.names []).lookup y = some c := fun {y} hl =>
    mem_lookup (cloFrom_has (cells := X.env.cells) (acc := []) (PySem.mem_of_lookup hl))
  have cellK : ∀ {c : Addr} {v : Option Value}, H c = none → s.heap.IsCell c v → h₁.IsCell c v := fun {c v} n ⟨o, ho, hd⟩ => by
    obtain ⟨sl, q⟩ := un.any ho n (by simp)
    exact ⟨_, kp _ _ q, hd⟩
  have noA : ∀ b : Addr, b ∉ (lamCx X A outer s1 HZ E scope f c').ex := fun b z => absurd (show b ∈ ([] : List Addr) from z) (by simp)
  refine ⟨⟨e0.mod, L.kind, rfl, rfl, Nat.le_refl _, fun y z c e1 e2 => I.ok.inj y z c (cm e1) (cm e2), fun y hy => ?_, fun y c z _ => absurd (show false = true from z) Bool.false_ne_true, fun _ => hd, Around.frames_deeper e0.frames, .inr ⟨rfl, rfl⟩, fun b z => absurd z (noA b), e0.bs, e0.bsz, fun b _ _ => noA b,
      fun b z => absurd z (noA b), e0.funs, e0.frf⟩,
    rfl, e0.bare, Un.kept kp, ⟨_, hns, fun i y v e1 e2 e3 => ?_⟩, fun y c e => ?_, e0.hok.fresh (Nat.le_refl _), fun y c e => ?_, fun q hq => absurd (show q ∈ ([] : List (Addr × Obj)) ++ [] from hq) (by simp), e0.hok.kept kp, I.len⟩
  · have hy : scope.names.lookup y = some .cell ∨ scope.names.lookup y = some .free := hy
    rcases hy with hy | hy
    · exact absurd rfl (L.own _ (PySem.mem_of_lookup hy))
    · exact look hy
  · have e3 : Vis scope y := e3
    rcases e3 with k | k | k
    · exact absurd (List.mem_of_getElem? (show X.N[i]? = some y from e1)) (L.loc _ (PySem.mem_of_lookup k) rfl)
    · exact absurd rfl (L.own _ (PySem.mem_of_lookup k))
    · obtain ⟨m, hn, hl⟩ := I.loc
      have hvis : Vis X.env.scope y := (L.free _ (PySem.mem_of_lookup k) rfl).elim (fun k => .inr (.inl k)) (fun k => .inr (.inr k))
      obtain ⟨w', r, q⟩ := hl i y v e1 e2 hvis
      obtain ⟨c2, h2⟩ := look k
      refine ⟨w', r, .inr ⟨.inr k, c2, h2, ?_⟩⟩
      have c1 := cm h2
      rcases q with ⟨k', _⟩ | ⟨_, c3, e', z⟩
      · have k' : X.env.scope.names.lookup y = some .local := k'
        rcases L.free _ (PySem.mem_of_lookup k) rfl with k2 | k2 <;> rw [show X.env.scope.names.lookup y = _ from k2] at k' <;> cases k'
      · rw [c1] at e'
        cases e'
        exact cellK (I.freeC y _ c1) z
  · obtain ⟨w', z⟩ := I.cell y c (cm e)
    exact ⟨w', cellK (I.freeC y c (cm e)) z⟩
  · obtain ⟨v, o, ho, hd⟩ := I.cell y c (cm e)
    exact un.free c o ho (I.freeC y c (cm e)) (by simp)
/-- x(), in the def that got the lambda -/
theorem pe_actS {CXg : CXT} {Eg : XK} {Ng : List Str} {qg : Str} {sg : Scope} {g f c' : Addr} {cdg pm ctv dV : Value} {params : Arguments} {body : Expr} {scope : Scope} {k i : Nat} {a : Str} {pn : List (Addr × Obj)} {xe : Value → Shared → Prop} {W : WX} {E : XK} {tb : TE} {p1 p2 : Pos} {binds : List (Str × Value)} {σ0 : L2.St}
    (I : L2.Inv X pins σ H s) (L : LamSD X.N X.env.scope scope) (hf : s.heap.get? f = some (lamOb (X.env.qual ++ "<lambda>") params body scope (cloFrom X.env.cells scope.names []) pm (.ref c') ctv dV)) (hfn : H f = none) (hfr : f ∉ frs X.stack)
    (hbind : ∀ s1 : Shared, (∀ b o, s.heap.get? b = some o → H b = none → b ∉ frs X.stack → s1.heap.get? b = some o) → BindsTo s1 (lamFd (X.env.qual ++ "<lambda>") params body scope (cloFrom X.env.cells scope.names []) pm (.ref c') ctv dV) ⟨[], []⟩ binds) (hloc : ∀ y ∈ binds, scope.names.lookup y.1 = some .local)
    (tk : Takes ((cxOf CXg X.prog X.w X.K X.mg X.base Ng qg sg g cdg X.A X.stack s H Eg).tr pn xe) W) (hW : ∀ cls d H', E cls d H' → W cls d σ0 H') (hr : Room (k + 1) (X.A.deeper (envOfC qg sg s.heap.objs.size g cdg)))
    (hbody : ∀ (A : Around) (outer : List Env) (s : Shared) (H : Hp), Room k (A.deeper (lamEnv X scope s.heap.objs.size f c')) → PE (lamCx X A outer s H E scope f c') body tb)
    (hN : Ng[i]? = some a) (hv : Vis sg a) (hd : (a == ("__debug__" : Str)) = false) (hcd : (a == ("__classdict__" : Str)) = false) :
    PE ((cxOf CXg X.prog X.w X.K X.mg X.base Ng qg sg g cdg X.A X.stack s H Eg).tr pn xe) (.Call (.Name a p1) [] [] p2)
      (fun σZ HZ Q => σZ = σ0 ∧ σZ[i]? = some (some (.ref f)) ∧ HZ c' = some (CodeO c' (X.env.qual ++ "<lambda>")) ∧ tb σ HZ Q) := by
  refine ⟨fun pinsZ sZ σZ HZ Q IZ h => ?_⟩
  obtain ⟨e0, hs, hc, ht⟩ := h
  subst e0
  refine wpAny_Call_Name_kw (thn ((pe_var (pos := p1) (i := i) hN hv hd hcd).run pinsZ sZ σZ HZ (fun v H1 => v = .ref f ∧ H1 = HZ) IZ ⟨.ref f, hs, rfl, rfl⟩) fun u s1 ⟨v, H1, I1, r1, q1⟩ => ?_)
  obtain ⟨ev, eH⟩ := q1
  subst ev
  rw [eH] at I1
  obtain rfl : u = Value.ref f := r1
  have kb : ∀ b o, s.heap.get? b = some o → H b = none → b ∉ frs X.stack → s1.heap.get? b = some o := fun b o e n nf => I1.base.keep b o e n nf (fun z => nomatch (show b ∈ ([] : List Addr) from z))
  have of1 := kb f _ hf hfn hfr
  refine PySem.W.callWith_F0 ⟨_, _, _, _, of1⟩ ?_
  have un : Un (frs X.stack) [] H HZ s.heap s1.heap := I1.base
  obtain ⟨⟨oc, vs, t, hoc, hdc, hvc⟩, _, _⟩ := I1.hok c' _ hc
  have rc : codeAny (model X.prog X.w) (X.A.deeper (envOfC qg sg s.heap.objs.size g cdg)) (.call (.ref f) ⟨[], []⟩) (CR (L2.CX X.prog X.w) (envOfC qg sg s.heap.objs.size g cdg :: X.stack) X.prog X.w HZ s1 Q E) s1 := by
    refine PySem.W.kla_callFunE hr.depth of1 rfl L.co L.gen rfl ⟨c', oc, vs, t, rfl, hoc, hdc, hvc⟩ ?_
    refine hbind s1 kb _ _ _ _ (wpAny_newFunctionEnv L.own hloc (fun h₁ hns hsb => ⟨I1.nolimit.fresh _ hsb, ?_⟩) L.kind)
    show codeAny _ _ (.expr body (lamEnv X scope s1.heap.objs.size f c')) _ _
    have kp : ∀ b o, s1.heap.get? b = some o → h₁.get? b = some o := fun b o e => hsb.extBut b o (Nat.ne_of_lt (Heap.lt_size e)) (Heap.get?_push_of_some _ e)
    have J : L2.Inv (lamCx X (X.A.deeper (envOfC qg sg s.heap.objs.size g cdg)) (envOfC qg sg s.heap.objs.size g cdg :: X.stack) s1 HZ E scope f c') [] σ HZ { s1 with heap := h₁, toks := s1.toks + binds.length } :=
      lam_startD I L I1.env0 hr.hd un hns kp
    refine PySem.W.kla_codeExpr (wpAny_mono ((hbody _ _ s1 HZ (hr.deeper _)).run [] _ _ HZ Q J ht) (fun v s' hq => ?_) fun e s' hq => hq)
    obtain ⟨w', H', J', rv, q⟩ := hq
    exact ⟨w', H', J'.os, J'.bare, J'.base, J'.hok, rv, q⟩
  refine wpAny_call (codeAny_mono rc fun r s' hq => ?_)
  cases r with
  | error e => exact tk e s' (XE.of_call I1 (fun cls d H' h => hW cls d H' h) hq)
  | ok fl =>
    cases fl with
    | ret u => exact I1.after hq
    | next => exact False.elim hq
    | brk => exact False.elim hq
    | cont => exact False.elim hq
end
end Ah
end
section
set_option Elab.async false
set_option linter.all false
set_option maxRecDepth 100000
set_option maxHeartbeats 2000000
namespace Ah
open PySem PySem.Spec PyProof.Rows L2 LamX
/-! ### x(lambda: ..), x(lambda a=0: ..) -/
/-- how a lambda is made, whatever its defaults -/
def LamMk (X : Cx) (T : List (Addr × Str)) (params : Arguments) (body : Expr) (scope : Scope) (pos : Pos) : Prop :=
  ∀ (pins : List (Addr × Obj)) (σ : L2.St) (H : Hp) (s : Shared) (E : Value → Shared → Prop) (Q : Value → Shared → Prop), L2.Inv X pins σ H s → Tabs T H →
    (∀ (f c' : Addr) (pm ctv dV : Value) (H1 : Hp) (s' : Shared) (binds : List (Str × Value)), L2.Inv X pins σ H1 s' → ExtN H H1 → Tabs T H1 →
      s'.heap.get? f = some (lamOb (X.env.qual ++ "<lambda>") params body scope (cloFrom X.env.cells scope.names []) pm (.ref c') ctv dV) → H1 f = none → f ∉ frs X.stack → H1 c' = some (CodeO c' (X.env.qual ++ "<lambda>")) →
      (∀ s1 : Shared, (∀ b o, s'.heap.get? b = some o → H1 b = none → b ∉ frs X.stack → s1.heap.get? b = some o) → BindsTo s1 (lamFd (X.env.qual ++ "<lambda>") params body scope (cloFrom X.env.cells scope.names []) pm (.ref c') ctv dV) ⟨[], []⟩ binds) →
      (∀ y ∈ binds, scope.names.lookup y.1 = some .local) → Q (.ref f) s') →
    wpAny (model X.prog X.w) X.A (eval (.Lambda params body scope pos) X.env) Q E s
section
variable {X : Cx} {T : List (Addr × Str)} {c P : Addr} {params : Arguments} {body : Expr} {scope : Scope} {pos p0 : Pos} {k : Int} {j : Nat} {n : Str}
theorem lamMk0 (TB : TabB X.base X.mg c P) (hcode : X.env.code = .ref c) (hm : (P, X.env.qual ++ "<lambda>") ∈ T) (hu : ∀ p ∈ T, p.1 = P → p.2 = X.env.qual ++ "<lambda>") (L : LamSD X.N X.env.scope scope) (hdef : defaultsOf params X.env = ([], []))
    (hbind : ∀ (q : Str) (cl : List (Str × Addr)) (pm cv ctv : Value), bindArgs (PySem.W.kla_fn "<lambda>" q params body scope cl pm cv ctv) ⟨[], []⟩ = pure []) : LamMk X T params body scope pos := by
  intro pins σ H s E Q I hT h
  refine lam_make2 I TB hcode hm hu hT hdef (L.has I.ok) fun f c' pm ctv H1 s' I1 eN T1 hf hfn hfr hco => ?_
  exact h f c' pm ctv .none H1 s' [] I1 eN T1 hf hfn hfr hco (fun s1 _ => .of_eq (hbind _ _ _ _ _)) (fun y hy => nomatch hy)
theorem lamMkD (TB : TabB X.base X.mg c P) (hcode : X.env.code = .ref c) (hm : (P, X.env.qual ++ "<lambda>") ∈ T) (hu : ∀ p ∈ T, p.1 = P → p.2 = X.env.qual ++ "<lambda>") (L : LamSD X.N X.env.scope scope) (hdef : defaultsOf params X.env = ([eval (.Constant (.int k) j p0) X.env], []))
    (hbind : ∀ (q : Str) (cl : List (Str × Addr)) (pm cv ctv : Value) (t : Addr), ∃ kk : Option (Array Value) → Sem (List (Str × Value)), bindArgs (lamFd q params body scope cl pm cv ctv (.ref t)) ⟨[], []⟩ = seqItems? (.ref t) >>= kk ∧ ∀ v, kk (some [v].toArray) = pure [(n, v)])
    (hn : scope.names.lookup n = some .local) : LamMk X T params body scope pos := by
  intro pins σ H s E Q I hT h
  refine lam_makeD I TB hcode hm hu hT hdef (L.has I.ok) fun f t c' tk pm ctv H1 s' I1 eN T1 hf ht hfn htn hfr htr hco => ?_
  refine h f c' pm ctv (.ref t) H1 s' [(n, .int k tk)] I1 eN T1 hf hfn hfr hco (fun s1 kb => ?_) (fun y hy => ?_)
  · obtain ⟨kk, e1, e2⟩ := hbind (X.env.qual ++ "<lambda>") (cloFrom X.env.cells scope.names []) pm (.ref c') ctv t
    intro M A E Q q
    rw [e1]
    refine wpAny_bind (wpAny_seqItems (kb t _ ht htn htr) rfl ?_)
    rw [e2]
    exact wpAny_pure q
  · rw [List.mem_singleton.mp hy]
    exact hn
end
/-- the def that calls what it got; what is let out is wished for at its slots -/
def GivesS (X : Cx) (Ng : List Str) (x : Str) (sg : Scope) (g : Addr) (cdg : Value) (bg : List Stmt) (a : Str) (q : Str) (TT : (XK → Hp → VK → Prop) → Hp → VK → Prop) : Prop :=
  ∀ (f c' : Addr) (s : Shared) (H : Hp) (Q : VK) (tl : XK → Hp → VK → Prop),
    (∀ (W : WX) (pn : List (Addr × Obj)) (xe : Value → Shared → Prop) (E : XK) (p1 p2 : Pos) (σ0 : L2.St), Takes ((cxOf C8.CX0 X.prog X.w X.K X.mg X.base Ng x sg g cdg X.A X.stack s H C8.E0).tr pn xe) W → (∀ cls d H', E cls d H' → W cls d σ0 H') →
      PE ((cxOf C8.CX0 X.prog X.w X.K X.mg X.base Ng x sg g cdg X.A X.stack s H C8.E0).tr pn xe) (.Call (.Name a p1) [] [] p2) (fun σZ HZ Q => σZ = σ0 ∧ σZ[0]? = some (some (.ref f)) ∧ HZ c' = some (CodeO c' q) ∧ tl E HZ Q)) →
    H c' = some (CodeO c' q) → TT tl H Q →
    ∃ t, PSs (cxOf C8.CX0 X.prog X.w X.K X.mg X.base Ng x sg g cdg X.A X.stack s H C8.E0).nox bg t ∧ t { nx := fun _ H' => Q .non H', rt := Q } (L2.start Ng [.ref f]) H
section
variable {X : Cx}
theorem pe_lamS {T : List (Addr × Str)} {TT : (XK → Hp → VK → Prop) → Hp → VK → Prop} {x a : Str} {g : Addr} {k : Nat} {pg : Arguments} {bg : List Stmt} {sg : Scope} {dV kV doc pm cdv ct oc : Value} {an od : Option Addr} {osl : Array (Option Value)} {Ng : List Str}
    {params : Arguments} {body : Expr} {scope : Scope} {t : XK → TE} {p lpos pos : Pos} (hg : Gl X x) (hm : X.mg x = some (.ref g)) (hk : PySem.W.keepIn X.K (.ref g) = true)
    (lk : X.K.lookup g = some ⟨oc, od, .func (PySem.W.fnOf x x pg bg sg dV kV doc pm an cdv ct), osl⟩) (hcg : PySem.W.codeIn X.K cdv x = true) (hb : L2.Binds X.K (PySem.W.fnOf x x pg bg sg dV kV doc pm an cdv ct) [a] []) (Sg : FnScope Ng [a] sg) (hNg : Ng[0]? = some a) (hva : Vis sg a)
    (hG : GivesS X Ng x sg g cdv bg a (X.env.qual ++ "<lambda>") TT) (hr : Room (k + 2) X.A) (L : LamSD X.N X.env.scope scope) (mk : LamMk X T params body scope lpos)
    (hbody : ∀ (A : Around) (outer : List Env) (s : Shared) (H : Hp) (E : XK) (f c' : Addr), Room k (A.deeper (lamEnv X scope s.heap.objs.size f c')) → PE (lamCx X A outer s H E scope f c') body (t E))
    (hdb : (x == ("__debug__" : Str)) = false := by decide) (hd : (a == ("__debug__" : Str)) = false := by decide) (hcd : (a == ("__classdict__" : Str)) = false := by decide) :
    PE X (.Call (.Name x p) [.Lambda params body scope lpos] [] pos) (tLam T TT t) := by
  refine ⟨fun pins s σ H Q I h => ?_⟩
  obtain ⟨hT, h⟩ := h
  refine wpAny_Call_Name_kw (ld_glob I hg hm ?_ hdb)
  refine PySem.W.callWith_K (h₀ := X.base) I.ok.mod.kin hk ?_ (by rfl) (by rfl)
  show wpAny _ _ (spliced ((false, eval (.Lambda params body scope lpos) X.env) :: backTo pos (starEach [] X.env))) _ _ s
  refine Calls.spliced_cons (mk pins σ H s _ _ I hT fun f c' pm' ctv dV' H1 s' binds I1 eN T1 hf hfn hfr hco hbd hlc => ?_)
  refine Calls.spliced_nil ⟨I1.kIn, ?_⟩
  have rc : codeAny (model X.prog X.w) X.A (.call (.ref g) ⟨[.ref f], []⟩) (CR C8.CX0 X.stack X.prog X.w H1 s' Q C8.E0) s' := by
    refine run_ofS (N := Ng) (ps := [a]) (us := [.ref f]) (vs := [.ref f]) lk hcg Sg hr I1.env0 (hb s' [.ref f] I1.kIn rfl) (.cons rfl .nil) rfl fun hr' => ?_
    obtain ⟨t', ht', hq'⟩ := hG f c' s' H1 Q (fun E H' Q' => t E σ H' Q') (fun W pn xe E p1 p2 σ0 tk hW => pe_actS (i := 0) I1 L hf hfn hfr hbd hlc tk hW hr' (fun A outer s H hr2 => hbody A outer s H E f c' hr2) hNg hva hd hcd) hco (h H1 eN T1)
    exact ⟨t', ht'.nox, hq'⟩
  refine wpAny_call (codeAny_mono rc fun r s2 hq => ?_)
  cases r with
  | error e => exact (show False from hq).elim
  | ok fl =>
    cases fl with
    | ret u => exact I1.after hq
    | next => exact False.elim hq
    | brk => exact False.elim hq
    | cont => exact False.elim hq
end
end Ah
end
section
set_option Elab.async false
set_option linter.all false
set_option maxRecDepth 100000
set_option maxHeartbeats 2000000
namespace Ah
open PySem PySem.Spec PyProof.Rows L2 LamX
/-! ### xs.count(y), flat items -/
def rCntF (K : PySem.W.Frag) : V → List V → Hp → VK → Prop := fun x xs H Q => ∃ (p : Addr) (ys : List V) (y : V), x = .ref p ∧ xs = [y] ∧ SqL K H p ys ∧ flatV y = true ∧ ys.all flatV = true ∧ Q (.int ((ys.countP fun z => eqV z y : Nat) : Int)) H
theorem countU {y : V} : ∀ {xs : List V} {us : List Value}, Vals xs us → xs.all flatV = true → us.countP (eqU y) = xs.countP fun z => eqV z y
  | _, _, .nil, _ => rfl
  | x :: xs, u :: us, .cons r t, f => by
    rw [List.all_cons, Bool.and_eq_true] at f
    rw [List.countP_cons, List.countP_cons, countU t f.2, eqU_of r f.1]
theorem mt_lcountF {X : Cx} : MtR X "list.count" (rCntF X.K) := by
  intro pins s σ H x xs v us Q I rx rxs h
  obtain ⟨p, ys, y, rfl, rfl, hs, fy, fys, q⟩ := h
  cases rx
  obtain ⟨u, rfl, ru⟩ := vals1 rxs
  obtain ⟨its, rv, ⟨⟨cls, dd, data, sl⟩, n, ho, hc, hdn, hd⟩, hlen⟩ := I.list hs
  simp only at hc hd
  subst hc hd
  refine call_meets PySem.F.slot_list_count ⟨_, ho, rfl⟩ PySem.F.entry_list_count (PySem.F.args_list_count_2 _ _)
    (SeqAt.list_countAt p its.toArray n dd sl u (eqU y)) ⟨ho, fun u' hu' => mem_eqAt ru fy rv fys u' (by simpa using hu'), ?_⟩
  refine ⟨.int ((ys.countP fun z => eqV z y : Nat) : Int), H, I.tok _, ⟨s.toks, ?_⟩, q⟩
  show Value.int ((its.toArray.toList.countP (eqU y) : Nat) : Int) s.toks = Value.int ((ys.countP fun z => eqV z y : Nat) : Int) s.toks
  rw [show its.toArray.toList.countP (eqU y) = ys.countP fun z => eqV z y from countU rv fys]
/-! ### _law_word -/
structure WordF (K : PySem.W.Frag) (mg : Str → Option Value) (CA : Addr) (c : Nat → Addr) : Prop where
  ca : mg "AnswerError" = some (.ref CA)
  m0 : mg "BadRow" = some (.ref (c 0))
  m1 : mg "BadSaying" = some (.ref (c 1))
  m2 : mg "BadCount" = some (.ref (c 2))
  m3 : mg "BadSteps" = some (.ref (c 3))
  m4 : mg "NoRow" = some (.ref (c 4))
  m5 : mg "NoFollow" = some (.ref (c 5))
  m6 : mg "BadDeed" = some (.ref (c 6))
  m7 : mg "Halted" = some (.ref (c 7))
  m8 : mg "BadText" = some (.ref (c 8))
  isi : mg "isinstance" = none
  ve : mg "ValueError" = none
  kit : ∀ i j, i < 9 → j < 9 → PySem.W.kitOne K (.ref (c i)) (.ref (c j)) = some (decide (i = j))
  kitV : ∀ i, i < 9 → PySem.W.kitOne K (.ref (c i)) (.type "ValueError") = some true
  exm : ∀ i, i < 9 → PySem.W.exmOne K (.ref (c i)) (.ref CA) = some true
  xc : ∀ i, i < 9 → ExcC K (c i)
  xf : ∀ i, i = 0 ∨ i = 3 ∨ i = 6 → XfC K (c i) ∧ PySem.W.findIn K (.ref (c i)) "number" = some none
def nameW : Nat → Str
  | 0 => "row"
  | 3 => "steps"
  | _ => "deed"
abbrev NW : List Str := ["_law_work", "_law_found", "e", "_law_kinds", "_law_names", "_law_name"]
theorem scW2 : FnScope NW ["_law_work"] (defScope lWord) := ⟨rfl, rfl, rfl, by decide +kernel, rfl, by decide +kernel, by decide +kernel⟩
/-- the suite, for an exception of the i-th class, which bears a number -/
def tsW (c : Nat → Addr) (i : Nat) (a : Addr) (cls : Value) (d : Option Addr) : TS := fun D σ H => ∃ (dd : Addr) (j : Int) (f lf : V), cls = .ref (c i) ∧ d = some dd ∧ H dd = some (.xd [("number", .int j)]) ∧ σ = [some f, some lf, some (.ref a), none, none, none] ∧
  ∀ H' p, Kept [] H H' → H' p = none → D.rt (.ref p) (upd H' p (.tup [.str (nameW i), .int j]))
def suiteW : List Stmt := match defBody lWord with
  | _ :: .Try _ [.ExceptHandler _ _ b _] _ _ _ :: _ => b
  | _ => []
section
variable {K : PySem.W.Frag} {P : Program} {w : World} {mg : Str → Option Value} {base : Heap} {CA : Addr} {c : Nat → Addr} {g : Addr} {cdg : Value} {A : Around} {outer : List Env} {s00 : Shared} {H0 : Hp}
theorem suite_word (W : WordF K mg CA c) {i : Nat} (hi : i = 0 ∨ i = 3 ∨ i = 6) (a : Addr) (oe : Obj) (cls : Value) (d : Option Addr) (pn : List (Addr × Obj)) (hz : Zc cls d oe) (hf : ∃ vs, oe.data = .fields vs) :
    PSs (((cxOf C8.CX0 P w K mg base NW "_law_word" (defScope lWord) g cdg A outer s00 H0 C8.E0).nox).suite a ((a, oe) :: pn)) suiteW (tsW c i a cls d) := by
  refine ⟨fun pins s σ H D I h => ?_⟩
  obtain ⟨dd, j, f, lf, rfl, rfl, hdd, rfl, k⟩ := h
  have hi9 : i < 9 := by omega
  have XC := W.xc i hi9
  obtain ⟨XF, hno⟩ := W.xf i hi
  obtain ⟨t, T, q⟩ : ∃ t, PSs (((cxOf C8.CX0 P w K mg base NW "_law_word" (defScope lWord) g cdg A outer s00 H0 C8.E0).nox).suite a ((a, oe) :: pn)) suiteW t ∧ t D [some f, some lf, some (.ref a), none, none, none] H := by
    refine ⟨_, pss_cons
      (ps_set (i := 3) scW2.nd rfl (.inl rfl) (pe_lst (pa_cons (pe_callB (call_isD XC hz hf) (by rfl) W.isi (by decide +kernel) (pa_cons (pv 2) (pa_cons (pe_glob (v := .ref (c 0)) (by rfl) W.m0 rfl) pa_nil)))
        (pa_cons (pe_callB (call_isD XC hz hf) (by rfl) W.isi (by decide +kernel) (pa_cons (pv 2) (pa_cons (pe_glob (v := .ref (c 1)) (by rfl) W.m1 rfl) pa_nil)))
        (pa_cons (pe_callB (call_isD XC hz hf) (by rfl) W.isi (by decide +kernel) (pa_cons (pv 2) (pa_cons (pe_glob (v := .ref (c 2)) (by rfl) W.m2 rfl) pa_nil)))
        (pa_cons (pe_callB (call_isD XC hz hf) (by rfl) W.isi (by decide +kernel) (pa_cons (pv 2) (pa_cons (pe_glob (v := .ref (c 3)) (by rfl) W.m3 rfl) pa_nil))) pa_nil))))))
    (pss_cons (ps_set (i := 3) scW2.nd rfl (.inl rfl) (pe_op op_cat (pv 3) (pe_lst (pa_cons (pe_callB (call_isD XC hz hf) (by rfl) W.isi (by decide +kernel) (pa_cons (pv 2) (pa_cons (pe_glob (v := .ref (c 4)) (by rfl) W.m4 rfl) pa_nil)))
        (pa_cons (pe_callB (call_isD XC hz hf) (by rfl) W.isi (by decide +kernel) (pa_cons (pv 2) (pa_cons (pe_glob (v := .ref (c 5)) (by rfl) W.m5 rfl) pa_nil)))
        (pa_cons (pe_callB (call_isD XC hz hf) (by rfl) W.isi (by decide +kernel) (pa_cons (pv 2) (pa_cons (pe_glob (v := .ref (c 6)) (by rfl) W.m6 rfl) pa_nil)))
        (pa_cons (pe_callB (call_isD XC hz hf) (by rfl) W.isi (by decide +kernel) (pa_cons (pv 2) (pa_cons (pe_glob (v := .ref (c 7)) (by rfl) W.m7 rfl) pa_nil))) pa_nil)))))))
    (pss_cons (ps_expr (pe_bm PySem.F.plainAttrs_list PySem.F.slot_list_append PySem.F.type_list_append mt_append (pv 3) (pa_cons (pe_callB (call_isD XC hz hf) (by rfl) W.isi (by decide +kernel) (pa_cons (pv 2) (pa_cons (pe_glob (v := .ref (c 8)) (by rfl) W.m8 rfl) pa_nil))) pa_nil)))
    (pss_cons (ps_set (i := 4) scW2.nd rfl (.inl rfl) (pe_lst (pa_cons pe_str (pa_cons pe_str (pa_cons pe_str (pa_cons pe_str (pa_cons pe_str (pa_cons pe_str (pa_cons pe_str (pa_cons pe_str (pa_cons pe_str pa_nil)))))))))))
    (pss_cons (ps_if (PW.pt (pw_or (pt_cmpR op_ne (pe_bm PySem.F.plainAttrs_list PySem.F.slot_list_count PySem.F.type_list_count mt_lcountF (pv 3) (pa_cons pe_bl pa_nil)) pe_int (nomark _))
        (pw_or1 (pt_not (pt_val (pe_callB (call_isD XC hz hf) (by rfl) W.isi (by decide +kernel) (pa_cons (pv 2) (pa_cons (pe_bltn (v := .ty "ValueError") (by rfl) W.ve (by decide +kernel) rfl) pa_nil))))))))
        (pss_one ps_never) pss_nil)
    (pss_cons (ps_set (i := 5) scW2.nd rfl (.inl rfl) (pe_ix ix_list (pv 4) (pe_bm PySem.F.plainAttrs_list PySem.F.slot_list_index PySem.F.type_list_index mt_index (pv 3) (pa_cons pe_bl pa_nil)) (fun _ _ => rfl)))
    (pss_cons (ps_if (pt_cmpR op_eq (pv 5) pe_str (nomark _)) (pss_one ps_never) pss_nil)
    (pss_cons (ps_if (pt_cmpR op_eq (pv 5) pe_str (nomark _)) (pss_one ps_never) pss_nil)
    (pss_one (ps_ret (pe_ifExp (pt_cmpR op_in_seq (pv 5) (pe_tup (pa_cons pe_str (pa_cons pe_str (pa_cons pe_str pa_nil)))) (by rfl)) (pe_tup (pa_cons (pv 5) (pa_cons (pe_xf XF hno hz hf (pv 2)) pa_nil))) (pe_tup (pa_cons (pv 5) (pa_cons pe_non pa_nil))))))))))))), ?_⟩
    have hx : ∀ H' : Hp, H' dd = some (.xd [("number", V.int j)]) → ∀ dd', some dd = some dd' → ∃ fs, H' dd' = some (.xd fs) := fun H' h dd' e => by
      cases e
      exact ⟨_, h⟩
    refine ⟨_, rfl, _, _, _, rfl, fun u h => h, W.kit i 0 hi9 (by decide), hx _ hdd, _, rfl, _, _, _, rfl, fun u h => h, W.kit i 1 hi9 (by decide), hx _ hdd, _, rfl, _, _, _, rfl, fun u h => h, W.kit i 2 hi9 (by decide), hx _ hdd, _, rfl, _, _, _, rfl, fun u h => h, W.kit i 3 hi9 (by decide), hx _ hdd, by show (4 : Nat) ≤ sizeLine; rw [sizeLine_eq]; decide, fun l1 n1 => ?_⟩
    have d1 := show upd H l1 (.lst [.bl (decide (i = 0)), .bl (decide (i = 1)), .bl (decide (i = 2)), .bl (decide (i = 3))]) dd = _ from (upd_ne (ne_of_none hdd n1)).trans hdd
    refine ⟨_, rfl, _, rfl, _, _, _, rfl, fun u h => h, W.kit i 4 hi9 (by decide), hx _ d1, _, rfl, _, _, _, rfl, fun u h => h, W.kit i 5 hi9 (by decide), hx _ d1, _, rfl, _, _, _, rfl, fun u h => h, W.kit i 6 hi9 (by decide), hx _ d1, _, rfl, _, _, _, rfl, fun u h => h, W.kit i 7 hi9 (by decide), hx _ d1, by show (4 : Nat) ≤ sizeLine; rw [sizeLine_eq]; decide, fun l2 n2 => ?_⟩
    have n21 : l1 ≠ l2 := fun z => by rw [← z, upd_same] at n2; cases n2
    refine ⟨l1, l2, _, _, rfl, rfl, by rw [upd_ne n21]; exact upd_same, upd_same, by show (4 : Nat) + 4 ≤ sizeLine; rw [sizeLine_eq]; decide, fun l3 n3 => ?_⟩
    have d2 := show upd (upd H l1 (.lst [.bl (decide (i = 0)), .bl (decide (i = 1)), .bl (decide (i = 2)), .bl (decide (i = 3))])) l2 (.lst [.bl (decide (i = 4)), .bl (decide (i = 5)), .bl (decide (i = 6)), .bl (decide (i = 7))]) dd = _ from (upd_ne (ne_of_none d1 n2)).trans d1
    refine ⟨_, rfl, .inl ⟨rfl, _, SqL.of upd_same⟩, _, rfl, _, _, _, rfl, fun u h => h, W.kit i 8 hi9 (by decide), hx _ ((upd_ne (ne_of_none d2 n3)).trans d2), l3, _, _, rfl, rfl, upd_same, by show (8 : Nat) < sizeLine; rw [sizeLine_eq]; decide, ?_⟩
    refine ⟨by show (9 : Nat) ≤ sizeLine; rw [sizeLine_eq]; decide, fun l4 n4 => ?_⟩
    have n43 : l3 ≠ l4 := fun z => by rw [← z, upd_same] at n4; cases n4
    have n30 : H l3 = none := by
      cases e : H l3 with
      | none => rfl
      | some o => exact nomatch n3.symm.trans ((((Kept.refl (M := []) H).upd n1).upd n2) l3 o e (by simp))
    have K5 : Kept [] H (upd (upd (upd (upd (upd H l1 (.lst [.bl (decide (i = 0)), .bl (decide (i = 1)), .bl (decide (i = 2)), .bl (decide (i = 3))])) l2 (.lst [.bl (decide (i = 4)), .bl (decide (i = 5)), .bl (decide (i = 6)), .bl (decide (i = 7))])) l3 (.lst ([.bl (decide (i = 0)), .bl (decide (i = 1)), .bl (decide (i = 2)), .bl (decide (i = 3))] ++ [.bl (decide (i = 4)), .bl (decide (i = 5)), .bl (decide (i = 6)), .bl (decide (i = 7))]))) l3 (.lst ([.bl (decide (i = 0)), .bl (decide (i = 1)), .bl (decide (i = 2)), .bl (decide (i = 3))] ++ [.bl (decide (i = 4)), .bl (decide (i = 5)), .bl (decide (i = 6)), .bl (decide (i = 7))] ++ [.bl (decide (i = 8))]))) l4 (.lst [.str "row", .str "saying", .str "count", .str "steps", .str "norow", .str "nofollow", .str "deed", .str "halted", .str "text"])) := by
      refine Kept.upd (fun b o e hb => ?_) n4
      rw [upd_ne (ne_of_none e n30)]
      exact ((((Kept.refl (M := []) H).upd n1).upd n2).upd n3) b o e hb
    have e3 : SqL K (upd (upd (upd (upd (upd H l1 (.lst [.bl (decide (i = 0)), .bl (decide (i = 1)), .bl (decide (i = 2)), .bl (decide (i = 3))])) l2 (.lst [.bl (decide (i = 4)), .bl (decide (i = 5)), .bl (decide (i = 6)), .bl (decide (i = 7))])) l3 (.lst ([.bl (decide (i = 0)), .bl (decide (i = 1)), .bl (decide (i = 2)), .bl (decide (i = 3))] ++ [.bl (decide (i = 4)), .bl (decide (i = 5)), .bl (decide (i = 6)), .bl (decide (i = 7))]))) l3 (.lst ([.bl (decide (i = 0)), .bl (decide (i = 1)), .bl (decide (i = 2)), .bl (decide (i = 3))] ++ [.bl (decide (i = 4)), .bl (decide (i = 5)), .bl (decide (i = 6)), .bl (decide (i = 7))] ++ [.bl (decide (i = 8))]))) l4 (.lst [.str "row", .str "saying", .str "count", .str "steps", .str "norow", .str "nofollow", .str "deed", .str "halted", .str "text"])) l3 ([.bl (decide (i = 0)), .bl (decide (i = 1)), .bl (decide (i = 2)), .bl (decide (i = 3))] ++ [.bl (decide (i = 4)), .bl (decide (i = 5)), .bl (decide (i = 6)), .bl (decide (i = 7))] ++ [.bl (decide (i = 8))]) := SqL.of ((upd_ne n43).trans upd_same)
    have e4 : SqL K (upd (upd (upd (upd (upd H l1 (.lst [.bl (decide (i = 0)), .bl (decide (i = 1)), .bl (decide (i = 2)), .bl (decide (i = 3))])) l2 (.lst [.bl (decide (i = 4)), .bl (decide (i = 5)), .bl (decide (i = 6)), .bl (decide (i = 7))])) l3 (.lst ([.bl (decide (i = 0)), .bl (decide (i = 1)), .bl (decide (i = 2)), .bl (decide (i = 3))] ++ [.bl (decide (i = 4)), .bl (decide (i = 5)), .bl (decide (i = 6)), .bl (decide (i = 7))]))) l3 (.lst ([.bl (decide (i = 0)), .bl (decide (i = 1)), .bl (decide (i = 2)), .bl (decide (i = 3))] ++ [.bl (decide (i = 4)), .bl (decide (i = 5)), .bl (decide (i = 6)), .bl (decide (i = 7))] ++ [.bl (decide (i = 8))]))) l4 (.lst [.str "row", .str "saying", .str "count", .str "steps", .str "norow", .str "nofollow", .str "deed", .str "halted", .str "text"])) l4 [.str "row", .str "saying", .str "count", .str "steps", .str "norow", .str "nofollow", .str "deed", .str "halted", .str "text"] := SqL.of upd_same
    generalize upd (upd (upd (upd (upd H l1 (.lst [.bl (decide (i = 0)), .bl (decide (i = 1)), .bl (decide (i = 2)), .bl (decide (i = 3))])) l2 (.lst [.bl (decide (i = 4)), .bl (decide (i = 5)), .bl (decide (i = 6)), .bl (decide (i = 7))])) l3 (.lst ([.bl (decide (i = 0)), .bl (decide (i = 1)), .bl (decide (i = 2)), .bl (decide (i = 3))] ++ [.bl (decide (i = 4)), .bl (decide (i = 5)), .bl (decide (i = 6)), .bl (decide (i = 7))]))) l3 (.lst ([.bl (decide (i = 0)), .bl (decide (i = 1)), .bl (decide (i = 2)), .bl (decide (i = 3))] ++ [.bl (decide (i = 4)), .bl (decide (i = 5)), .bl (decide (i = 6)), .bl (decide (i = 7))] ++ [.bl (decide (i = 8))]))) l4 (.lst [.str "row", .str "saying", .str "count", .str "steps", .str "norow", .str "nofollow", .str "deed", .str "halted", .str "text"]) = H5 at K5 e3 e4 ⊢
    have d5 := K5 _ _ hdd (by simp)
    rcases hi with rfl | rfl | rfl
    · refine ⟨_, rfl, .inl ⟨rfl, _, e3⟩, l3, _, .bl true, rfl, rfl, e3, rfl, rfl, rfl, _, rfl, ?_⟩
      refine iteF ⟨_, rfl, _, _, _, rfl, fun u h => h, W.kitV 0 hi9, hx _ d5, _, rfl, iteF ?_⟩
      refine ⟨_, rfl, _, rfl, .inl ⟨rfl, _, e3⟩, l3, _, .bl true, 0, .bl true, rfl, rfl, e3, rfl, rfl, rfl, rfl, (fun m z' hm hz => ?_), l4, _, 0, .str (nameW 0), rfl, rfl, e4, at_of (j := 0) rfl rfl, ?_⟩
      · have q : ∀ m, m < 0 → (([.bl (decide ((0 : Nat) = 0)), .bl (decide ((0 : Nat) = 1)), .bl (decide ((0 : Nat) = 2)), .bl (decide ((0 : Nat) = 3))] ++ [.bl (decide ((0 : Nat) = 4)), .bl (decide ((0 : Nat) = 5)), .bl (decide ((0 : Nat) = 6)), .bl (decide ((0 : Nat) = 7))] ++ [.bl (decide ((0 : Nat) = 8))] : List V)[m]?).all (fun z => !eqV z (.bl true)) = true := by decide
        have q2 := q m hm
        rw [hz] at q2
        simpa using q2
      refine ⟨_, rfl, rfl, _, rfl, iteF ?_⟩
      refine ⟨_, rfl, rfl, _, rfl, iteF ?_⟩
      refine ⟨_, rfl, by show (3 : Nat) ≤ sizeLine; rw [sizeLine_eq]; decide, fun p np => ?_⟩
      refine ⟨p, _, rfl, .inr (SqT.of upd_same), rfl, rfl, _, rfl, iteT ?_⟩
      refine ⟨_, rfl, _, rfl, rfl, rfl, dd, _, .int j, rfl, (upd_ne (ne_of_none d5 np)).trans d5, rfl, by show (2 : Nat) ≤ sizeLine; rw [sizeLine_eq]; decide, fun p2 np2 => ?_⟩
      exact k _ p2 (K5.upd np) np2
    · refine ⟨_, rfl, .inl ⟨rfl, _, e3⟩, l3, _, .bl true, rfl, rfl, e3, rfl, rfl, rfl, _, rfl, ?_⟩
      refine iteF ⟨_, rfl, _, _, _, rfl, fun u h => h, W.kitV 3 hi9, hx _ d5, _, rfl, iteF ?_⟩
      refine ⟨_, rfl, _, rfl, .inl ⟨rfl, _, e3⟩, l3, _, .bl true, 3, .bl true, rfl, rfl, e3, rfl, rfl, rfl, rfl, (fun m z' hm hz => ?_), l4, _, 3, .str (nameW 3), rfl, rfl, e4, at_of (j := 3) rfl rfl, ?_⟩
      · have q : ∀ m, m < 3 → (([.bl (decide ((3 : Nat) = 0)), .bl (decide ((3 : Nat) = 1)), .bl (decide ((3 : Nat) = 2)), .bl (decide ((3 : Nat) = 3))] ++ [.bl (decide ((3 : Nat) = 4)), .bl (decide ((3 : Nat) = 5)), .bl (decide ((3 : Nat) = 6)), .bl (decide ((3 : Nat) = 7))] ++ [.bl (decide ((3 : Nat) = 8))] : List V)[m]?).all (fun z => !eqV z (.bl true)) = true := by decide
        have q2 := q m hm
        rw [hz] at q2
        simpa using q2
      refine ⟨_, rfl, rfl, _, rfl, iteF ?_⟩
      refine ⟨_, rfl, rfl, _, rfl, iteF ?_⟩
      refine ⟨_, rfl, by show (3 : Nat) ≤ sizeLine; rw [sizeLine_eq]; decide, fun p np => ?_⟩
      refine ⟨p, _, rfl, .inr (SqT.of upd_same), rfl, rfl, _, rfl, iteT ?_⟩
      refine ⟨_, rfl, _, rfl, rfl, rfl, dd, _, .int j, rfl, (upd_ne (ne_of_none d5 np)).trans d5, rfl, by show (2 : Nat) ≤ sizeLine; rw [sizeLine_eq]; decide, fun p2 np2 => ?_⟩
      exact k _ p2 (K5.upd np) np2
    · refine ⟨_, rfl, .inl ⟨rfl, _, e3⟩, l3, _, .bl true, rfl, rfl, e3, rfl, rfl, rfl, _, rfl, ?_⟩
      refine iteF ⟨_, rfl, _, _, _, rfl, fun u h => h, W.kitV 6 hi9, hx _ d5, _, rfl, iteF ?_⟩
      refine ⟨_, rfl, _, rfl, .inl ⟨rfl, _, e3⟩, l3, _, .bl true, 6, .bl true, rfl, rfl, e3, rfl, rfl, rfl, rfl, (fun m z' hm hz => ?_), l4, _, 6, .str (nameW 6), rfl, rfl, e4, at_of (j := 6) rfl rfl, ?_⟩
      · have q : ∀ m, m < 6 → (([.bl (decide ((6 : Nat) = 0)), .bl (decide ((6 : Nat) = 1)), .bl (decide ((6 : Nat) = 2)), .bl (decide ((6 : Nat) = 3))] ++ [.bl (decide ((6 : Nat) = 4)), .bl (decide ((6 : Nat) = 5)), .bl (decide ((6 : Nat) = 6)), .bl (decide ((6 : Nat) = 7))] ++ [.bl (decide ((6 : Nat) = 8))] : List V)[m]?).all (fun z => !eqV z (.bl true)) = true := by decide
        have q2 := q m hm
        rw [hz] at q2
        simpa using q2
      refine ⟨_, rfl, rfl, _, rfl, iteF ?_⟩
      refine ⟨_, rfl, rfl, _, rfl, iteF ?_⟩
      refine ⟨_, rfl, by show (3 : Nat) ≤ sizeLine; rw [sizeLine_eq]; decide, fun p np => ?_⟩
      refine ⟨p, _, rfl, .inr (SqT.of upd_same), rfl, rfl, _, rfl, iteT ?_⟩
      refine ⟨_, rfl, _, rfl, rfl, rfl, dd, _, .int j, rfl, (upd_ne (ne_of_none d5 np)).trans d5, rfl, by show (2 : Nat) ≤ sizeLine; rw [sizeLine_eq]; decide, fun p2 np2 => ?_⟩
      exact k _ p2 (K5.upd np) np2
  exact T.run pins _ _ H D I q
end
end Ah
end
section
set_option Elab.async false
set_option linter.all false
set_option maxRecDepth 100000
set_option maxHeartbeats 2000000
namespace Ah
open PySem PySem.Spec PyProof.Rows L2 LamX
/-! ### _law_word, for all classes but Halted and BadText -/
def nameG : Nat → Str
  | 0 => "row"
  | 1 => "saying"
  | 2 => "count"
  | 3 => "steps"
  | 4 => "norow"
  | 5 => "nofollow"
  | 6 => "deed"
  | 7 => "halted"
  | _ => "text"
/-- whether the class bears a number -/
def numW : Nat → Bool
  | 0 => true
  | 3 => true
  | 6 => true
  | _ => false
structure WordG (K : PySem.W.Frag) (mg : Str → Option Value) (CA : Addr) (c : Nat → Addr) : Prop where
  ca : mg "AnswerError" = some (.ref CA)
  m0 : mg "BadRow" = some (.ref (c 0))
  m1 : mg "BadSaying" = some (.ref (c 1))
  m2 : mg "BadCount" = some (.ref (c 2))
  m3 : mg "BadSteps" = some (.ref (c 3))
  m4 : mg "NoRow" = some (.ref (c 4))
  m5 : mg "NoFollow" = some (.ref (c 5))
  m6 : mg "BadDeed" = some (.ref (c 6))
  m7 : mg "Halted" = some (.ref (c 7))
  m8 : mg "BadText" = some (.ref (c 8))
  isi : mg "isinstance" = none
  ve : mg "ValueError" = none
  kit : ∀ i j, i < 9 → j < 9 → PySem.W.kitOne K (.ref (c i)) (.ref (c j)) = some (decide (i = j))
  kitV : ∀ i, i < 9 → PySem.W.kitOne K (.ref (c i)) (.type "ValueError") = some true
  exm : ∀ i, i < 9 → PySem.W.exmOne K (.ref (c i)) (.ref CA) = some true
  xc : ∀ i, i < 9 → ExcC K (c i)
  xf : ∀ i, i < 7 → numW i = true → XfC K (c i) ∧ PySem.W.findIn K (.ref (c i)) "number" = some none
/-- an exception of the i-th class: its dict, what is told of it -/
def ErrAt (H : Hp) (i : Nat) (d : Option Addr) (v : V) : Prop := (numW i = true ∧ ∃ (dd : Addr) (j : Int), d = some dd ∧ H dd = some (.xd [("number", .int j)]) ∧ v = .int j) ∨ (numW i = false ∧ d = none ∧ v = .non)
def XD (d : Option Addr) (H : Hp) : Prop := ∀ dd, d = some dd → ∃ fs, H dd = some (.xd fs)
theorem XD.upd {d : Option Addr} {H : Hp} {l : Addr} {o : HO} (h : XD d H) (n : H l = none) : XD d (upd H l o) := fun dd e => let ⟨fs, q⟩ := h dd e; ⟨fs, (upd_ne (ne_of_none q n)).trans q⟩
theorem XD.kept {d : Option Addr} {H H' : Hp} (h : XD d H) (k : Kept [] H H') : XD d H' := fun dd e => let ⟨fs, q⟩ := h dd e; ⟨fs, k _ _ q (by simp)⟩
theorem ErrAt.xd {H : Hp} {i : Nat} {d : Option Addr} {v : V} (h : ErrAt H i d v) : XD d H := fun dd e => by
  rcases h with ⟨_, d2, j, e2, h2, _⟩ | ⟨_, e2, _⟩
  · rw [e2] at e
    cases e
    exact ⟨_, h2⟩
  · rw [e2] at e
    cases e
def tsG (c : Nat → Addr) (i : Nat) (a : Addr) (cls : Value) (d : Option Addr) : TS := fun D σ H => ∃ (v f lf : V), cls = .ref (c i) ∧ ErrAt H i d v ∧ σ = [some f, some lf, some (.ref a), none, none, none] ∧
  ∀ H' p, Kept [] H H' → H' p = none → D.rt (.ref p) (upd H' p (.tup [.str (nameG i), v]))
theorem pe_when {X : Cx} {e : Expr} {t : TE} {P : Prop} (h : P → PE X e t) : PE X e (fun σ H Q => P ∧ t σ H Q) := ⟨fun pins s σ H Q I ⟨p, r⟩ => (h p).run pins s σ H Q I r⟩
abbrev kindsG (i : Nat) : List V := [.bl (decide (i = 0)), .bl (decide (i = 1)), .bl (decide (i = 2)), .bl (decide (i = 3))] ++ [.bl (decide (i = 4)), .bl (decide (i = 5)), .bl (decide (i = 6)), .bl (decide (i = 7))] ++ [.bl (decide (i = 8))]
theorem kinds1 : ∀ i, i < 9 → (kindsG i).countP (fun z => eqV z (.bl true)) = 1 := by decide
theorem kinds2 : ∀ i, i < 9 → (kindsG i)[i]? = some (.bl true) := by
  intro i h
  match i, h with
  | 0, _ => rfl
  | 1, _ => rfl
  | 2, _ => rfl
  | 3, _ => rfl
  | 4, _ => rfl
  | 5, _ => rfl
  | 6, _ => rfl
  | 7, _ => rfl
  | 8, _ => rfl
theorem kinds3 : ∀ i, i < 9 → ∀ m, m < i → ((kindsG i)[m]?).all (fun z => !eqV z (.bl true)) = true := by decide
abbrev namesG : List V := [.str "row", .str "saying", .str "count", .str "steps", .str "norow", .str "nofollow", .str "deed", .str "halted", .str "text"]
theorem names2 : ∀ i, i < 9 → namesG[i]? = some (.str (nameG i)) := by
  intro i h
  match i, h with
  | 0, _ => rfl
  | 1, _ => rfl
  | 2, _ => rfl
  | 3, _ => rfl
  | 4, _ => rfl
  | 5, _ => rfl
  | 6, _ => rfl
  | 7, _ => rfl
  | 8, _ => rfl
theorem names3 {i : Nat} (h : i < 7) : decide (V.str (nameG i) = V.str "halted") = false ∧ decide (V.str (nameG i) = V.str "text") = false := by
  match i, h with
  | 0, _ => exact ⟨by decide, by decide⟩
  | 1, _ => exact ⟨by decide, by decide⟩
  | 2, _ => exact ⟨by decide, by decide⟩
  | 3, _ => exact ⟨by decide, by decide⟩
  | 4, _ => exact ⟨by decide, by decide⟩
  | 5, _ => exact ⟨by decide, by decide⟩
  | 6, _ => exact ⟨by decide, by decide⟩
theorem names4 : ∀ i, i < 7 → inV (.str (nameG i)) [V.str "row", V.str "steps", V.str "deed"] = numW i := by
  intro i h
  match i, h with
  | 0, _ => rfl
  | 1, _ => rfl
  | 2, _ => rfl
  | 3, _ => rfl
  | 4, _ => rfl
  | 5, _ => rfl
  | 6, _ => rfl
section
variable {K : PySem.W.Frag} {P : Program} {w : World} {mg : Str → Option Value} {base : Heap} {CA : Addr} {c : Nat → Addr} {g : Addr} {cdg : Value} {A : Around} {outer : List Env} {s00 : Shared} {H0 : Hp}
theorem suite_wordG (W : WordG K mg CA c) {i : Nat} (hi : i < 7) (a : Addr) (oe : Obj) (cls : Value) (d : Option Addr) (pn : List (Addr × Obj)) (hz : Zc cls d oe) (hf : ∃ vs, oe.data = .fields vs) :
    PSs (((cxOf C8.CX0 P w K mg base NW "_law_word" (defScope lWord) g cdg A outer s00 H0 C8.E0).nox).suite a ((a, oe) :: pn)) suiteW (tsG c i a cls d) := by
  refine ⟨fun pins s σ H D I h => ?_⟩
  obtain ⟨v, f, lf, rfl, he, rfl, k⟩ := h
  have hdd := he.xd
  have hi9 : i < 9 := by omega
  have XC := W.xc i hi9
  obtain ⟨t, T, q⟩ : ∃ t, PSs (((cxOf C8.CX0 P w K mg base NW "_law_word" (defScope lWord) g cdg A outer s00 H0 C8.E0).nox).suite a ((a, oe) :: pn)) suiteW t ∧ t D [some f, some lf, some (.ref a), none, none, none] H := by
    refine ⟨_, pss_cons
      (ps_set (i := 3) scW2.nd rfl (.inl rfl) (pe_lst (pa_cons (pe_callB (call_isD XC hz hf) (by rfl) W.isi (by decide +kernel) (pa_cons (pv 2) (pa_cons (pe_glob (v := .ref (c 0)) (by rfl) W.m0 rfl) pa_nil)))
        (pa_cons (pe_callB (call_isD XC hz hf) (by rfl) W.isi (by decide +kernel) (pa_cons (pv 2) (pa_cons (pe_glob (v := .ref (c 1)) (by rfl) W.m1 rfl) pa_nil)))
        (pa_cons (pe_callB (call_isD XC hz hf) (by rfl) W.isi (by decide +kernel) (pa_cons (pv 2) (pa_cons (pe_glob (v := .ref (c 2)) (by rfl) W.m2 rfl) pa_nil)))
        (pa_cons (pe_callB (call_isD XC hz hf) (by rfl) W.isi (by decide +kernel) (pa_cons (pv 2) (pa_cons (pe_glob (v := .ref (c 3)) (by rfl) W.m3 rfl) pa_nil))) pa_nil))))))
    (pss_cons (ps_set (i := 3) scW2.nd rfl (.inl rfl) (pe_op op_cat (pv 3) (pe_lst (pa_cons (pe_callB (call_isD XC hz hf) (by rfl) W.isi (by decide +kernel) (pa_cons (pv 2) (pa_cons (pe_glob (v := .ref (c 4)) (by rfl) W.m4 rfl) pa_nil)))
        (pa_cons (pe_callB (call_isD XC hz hf) (by rfl) W.isi (by decide +kernel) (pa_cons (pv 2) (pa_cons (pe_glob (v := .ref (c 5)) (by rfl) W.m5 rfl) pa_nil)))
        (pa_cons (pe_callB (call_isD XC hz hf) (by rfl) W.isi (by decide +kernel) (pa_cons (pv 2) (pa_cons (pe_glob (v := .ref (c 6)) (by rfl) W.m6 rfl) pa_nil)))
        (pa_cons (pe_callB (call_isD XC hz hf) (by rfl) W.isi (by decide +kernel) (pa_cons (pv 2) (pa_cons (pe_glob (v := .ref (c 7)) (by rfl) W.m7 rfl) pa_nil))) pa_nil)))))))
    (pss_cons (ps_expr (pe_bm PySem.F.plainAttrs_list PySem.F.slot_list_append PySem.F.type_list_append mt_append (pv 3) (pa_cons (pe_callB (call_isD XC hz hf) (by rfl) W.isi (by decide +kernel) (pa_cons (pv 2) (pa_cons (pe_glob (v := .ref (c 8)) (by rfl) W.m8 rfl) pa_nil))) pa_nil)))
    (pss_cons (ps_set (i := 4) scW2.nd rfl (.inl rfl) (pe_lst (pa_cons pe_str (pa_cons pe_str (pa_cons pe_str (pa_cons pe_str (pa_cons pe_str (pa_cons pe_str (pa_cons pe_str (pa_cons pe_str (pa_cons pe_str pa_nil)))))))))))
    (pss_cons (ps_if (PW.pt (pw_or (pt_cmpR op_ne (pe_bm PySem.F.plainAttrs_list PySem.F.slot_list_count PySem.F.type_list_count mt_lcountF (pv 3) (pa_cons pe_bl pa_nil)) pe_int (nomark _))
        (pw_or1 (pt_not (pt_val (pe_callB (call_isD XC hz hf) (by rfl) W.isi (by decide +kernel) (pa_cons (pv 2) (pa_cons (pe_bltn (v := .ty "ValueError") (by rfl) W.ve (by decide +kernel) rfl) pa_nil))))))))
        (pss_one ps_never) pss_nil)
    (pss_cons (ps_set (i := 5) scW2.nd rfl (.inl rfl) (pe_ix ix_list (pv 4) (pe_bm PySem.F.plainAttrs_list PySem.F.slot_list_index PySem.F.type_list_index mt_index (pv 3) (pa_cons pe_bl pa_nil)) (fun _ _ => rfl)))
    (pss_cons (ps_if (pt_cmpR op_eq (pv 5) pe_str (nomark _)) (pss_one ps_never) pss_nil)
    (pss_cons (ps_if (pt_cmpR op_eq (pv 5) pe_str (nomark _)) (pss_one ps_never) pss_nil)
    (pss_one (ps_ret (pe_ifExp (pt_cmpR op_in_seq (pv 5) (pe_tup (pa_cons pe_str (pa_cons pe_str (pa_cons pe_str pa_nil)))) (by rfl)) (pe_tup (pa_cons (pv 5) (pa_cons (pe_when (fun hn : numW i = true => pe_xf (W.xf i hi hn).1 (W.xf i hi hn).2 hz hf (pv 2))) pa_nil))) (pe_tup (pa_cons (pv 5) (pa_cons pe_non pa_nil))))))))))))), ?_⟩
    refine ⟨_, rfl, _, _, _, rfl, fun u h => h, W.kit i 0 hi9 (by decide), hdd, _, rfl, _, _, _, rfl, fun u h => h, W.kit i 1 hi9 (by decide), hdd, _, rfl, _, _, _, rfl, fun u h => h, W.kit i 2 hi9 (by decide), hdd, _, rfl, _, _, _, rfl, fun u h => h, W.kit i 3 hi9 (by decide), hdd, by show (4 : Nat) ≤ sizeLine; rw [sizeLine_eq]; decide, fun l1 n1 => ?_⟩
    have d1 := XD.upd (o := .lst [.bl (decide (i = 0)), .bl (decide (i = 1)), .bl (decide (i = 2)), .bl (decide (i = 3))]) hdd n1
    refine ⟨_, rfl, _, rfl, _, _, _, rfl, fun u h => h, W.kit i 4 hi9 (by decide), d1, _, rfl, _, _, _, rfl, fun u h => h, W.kit i 5 hi9 (by decide), d1, _, rfl, _, _, _, rfl, fun u h => h, W.kit i 6 hi9 (by decide), d1, _, rfl, _, _, _, rfl, fun u h => h, W.kit i 7 hi9 (by decide), d1, by show (4 : Nat) ≤ sizeLine; rw [sizeLine_eq]; decide, fun l2 n2 => ?_⟩
    have n21 : l1 ≠ l2 := fun z => by rw [← z, upd_same] at n2; cases n2
    refine ⟨l1, l2, _, _, rfl, rfl, by rw [upd_ne n21]; exact upd_same, upd_same, by show (4 : Nat) + 4 ≤ sizeLine; rw [sizeLine_eq]; decide, fun l3 n3 => ?_⟩
    have d2 := XD.upd (o := .lst [.bl (decide (i = 4)), .bl (decide (i = 5)), .bl (decide (i = 6)), .bl (decide (i = 7))]) d1 n2
    refine ⟨_, rfl, .inl ⟨rfl, _, SqL.of upd_same⟩, _, rfl, _, _, _, rfl, fun u h => h, W.kit i 8 hi9 (by decide), (XD.upd d2 n3), l3, _, _, rfl, rfl, upd_same, by show (8 : Nat) < sizeLine; rw [sizeLine_eq]; decide, ?_⟩
    refine ⟨by show (9 : Nat) ≤ sizeLine; rw [sizeLine_eq]; decide, fun l4 n4 => ?_⟩
    have n43 : l3 ≠ l4 := fun z => by rw [← z, upd_same] at n4; cases n4
    have n30 : H l3 = none := by
      cases e : H l3 with
      | none => rfl
      | some o => exact nomatch n3.symm.trans ((((Kept.refl (M := []) H).upd n1).upd n2) l3 o e (by simp))
    have K5 : Kept [] H (upd (upd (upd (upd (upd H l1 (.lst [.bl (decide (i = 0)), .bl (decide (i = 1)), .bl (decide (i = 2)), .bl (decide (i = 3))])) l2 (.lst [.bl (decide (i = 4)), .bl (decide (i = 5)), .bl (decide (i = 6)), .bl (decide (i = 7))])) l3 (.lst ([.bl (decide (i = 0)), .bl (decide (i = 1)), .bl (decide (i = 2)), .bl (decide (i = 3))] ++ [.bl (decide (i = 4)), .bl (decide (i = 5)), .bl (decide (i = 6)), .bl (decide (i = 7))]))) l3 (.lst ([.bl (decide (i = 0)), .bl (decide (i = 1)), .bl (decide (i = 2)), .bl (decide (i = 3))] ++ [.bl (decide (i = 4)), .bl (decide (i = 5)), .bl (decide (i = 6)), .bl (decide (i = 7))] ++ [.bl (decide (i = 8))]))) l4 (.lst [.str "row", .str "saying", .str "count", .str "steps", .str "norow", .str "nofollow", .str "deed", .str "halted", .str "text"])) := by
      refine Kept.upd (fun b o e hb => ?_) n4
      rw [upd_ne (ne_of_none e n30)]
      exact ((((Kept.refl (M := []) H).upd n1).upd n2).upd n3) b o e hb
    have e3 : SqL K (upd (upd (upd (upd (upd H l1 (.lst [.bl (decide (i = 0)), .bl (decide (i = 1)), .bl (decide (i = 2)), .bl (decide (i = 3))])) l2 (.lst [.bl (decide (i = 4)), .bl (decide (i = 5)), .bl (decide (i = 6)), .bl (decide (i = 7))])) l3 (.lst ([.bl (decide (i = 0)), .bl (decide (i = 1)), .bl (decide (i = 2)), .bl (decide (i = 3))] ++ [.bl (decide (i = 4)), .bl (decide (i = 5)), .bl (decide (i = 6)), .bl (decide (i = 7))]))) l3 (.lst ([.bl (decide (i = 0)), .bl (decide (i = 1)), .bl (decide (i = 2)), .bl (decide (i = 3))] ++ [.bl (decide (i = 4)), .bl (decide (i = 5)), .bl (decide (i = 6)), .bl (decide (i = 7))] ++ [.bl (decide (i = 8))]))) l4 (.lst [.str "row", .str "saying", .str "count", .str "steps", .str "norow", .str "nofollow", .str "deed", .str "halted", .str "text"])) l3 ([.bl (decide (i = 0)), .bl (decide (i = 1)), .bl (decide (i = 2)), .bl (decide (i = 3))] ++ [.bl (decide (i = 4)), .bl (decide (i = 5)), .bl (decide (i = 6)), .bl (decide (i = 7))] ++ [.bl (decide (i = 8))]) := SqL.of ((upd_ne n43).trans upd_same)
    have e4 : SqL K (upd (upd (upd (upd (upd H l1 (.lst [.bl (decide (i = 0)), .bl (decide (i = 1)), .bl (decide (i = 2)), .bl (decide (i = 3))])) l2 (.lst [.bl (decide (i = 4)), .bl (decide (i = 5)), .bl (decide (i = 6)), .bl (decide (i = 7))])) l3 (.lst ([.bl (decide (i = 0)), .bl (decide (i = 1)), .bl (decide (i = 2)), .bl (decide (i = 3))] ++ [.bl (decide (i = 4)), .bl (decide (i = 5)), .bl (decide (i = 6)), .bl (decide (i = 7))]))) l3 (.lst ([.bl (decide (i = 0)), .bl (decide (i = 1)), .bl (decide (i = 2)), .bl (decide (i = 3))] ++ [.bl (decide (i = 4)), .bl (decide (i = 5)), .bl (decide (i = 6)), .bl (decide (i = 7))] ++ [.bl (decide (i = 8))]))) l4 (.lst [.str "row", .str "saying", .str "count", .str "steps", .str "norow", .str "nofollow", .str "deed", .str "halted", .str "text"])) l4 [.str "row", .str "saying", .str "count", .str "steps", .str "norow", .str "nofollow", .str "deed", .str "halted", .str "text"] := SqL.of upd_same
    generalize upd (upd (upd (upd (upd H l1 (.lst [.bl (decide (i = 0)), .bl (decide (i = 1)), .bl (decide (i = 2)), .bl (decide (i = 3))])) l2 (.lst [.bl (decide (i = 4)), .bl (decide (i = 5)), .bl (decide (i = 6)), .bl (decide (i = 7))])) l3 (.lst ([.bl (decide (i = 0)), .bl (decide (i = 1)), .bl (decide (i = 2)), .bl (decide (i = 3))] ++ [.bl (decide (i = 4)), .bl (decide (i = 5)), .bl (decide (i = 6)), .bl (decide (i = 7))]))) l3 (.lst ([.bl (decide (i = 0)), .bl (decide (i = 1)), .bl (decide (i = 2)), .bl (decide (i = 3))] ++ [.bl (decide (i = 4)), .bl (decide (i = 5)), .bl (decide (i = 6)), .bl (decide (i = 7))] ++ [.bl (decide (i = 8))]))) l4 (.lst [.str "row", .str "saying", .str "count", .str "steps", .str "norow", .str "nofollow", .str "deed", .str "halted", .str "text"]) = H5 at K5 e3 e4 ⊢
    have d5 := XD.kept hdd K5
    have hi9 : i < 9 := by omega
    refine ⟨_, rfl, .inl ⟨rfl, _, e3⟩, l3, _, .bl true, rfl, rfl, e3, rfl, rfl, rfl, _, rfl, ?_⟩
    have c1 : List.countP (fun z => eqV z (.bl true)) (kindsG i) = 1 := kinds1 i hi9
    rw [c1]
    refine iteF ⟨_, rfl, _, _, _, rfl, fun u h => h, W.kitV i hi9, d5, _, rfl, iteF ?_⟩
    refine ⟨_, rfl, _, rfl, .inl ⟨rfl, _, e3⟩, l3, _, .bl true, i, .bl true, rfl, rfl, e3, rfl, rfl, kinds2 i hi9, rfl, (fun m z' hm hz => ?_), l4, _, i, .str (nameG i), rfl, rfl, e4, at_of rfl (names2 i hi9), ?_⟩
    · have q2 := kinds3 i hi9 m hm
      rw [hz] at q2
      simpa using q2
    refine ⟨_, rfl, rfl, _, rfl, ?_⟩
    rw [(names3 hi).1]
    refine iteF ⟨_, rfl, rfl, _, rfl, ?_⟩
    rw [(names3 hi).2]
    refine iteF ⟨_, rfl, by show (3 : Nat) ≤ sizeLine; rw [sizeLine_eq]; decide, fun p np => ?_⟩
    rcases he with ⟨hn, dd, j, rfl, hdd0, rfl⟩ | ⟨hn, rfl, rfl⟩
    · have d6 := K5 _ _ hdd0 (by simp)
      have hin : inV (.str (nameG i)) [V.str "row", V.str "steps", V.str "deed"] = true := (names4 i hi).trans hn
      refine ⟨p, _, rfl, .inr (SqT.of upd_same), rfl, rfl, _, rfl, ?_⟩
      rw [if_neg Bool.false_ne_true, hin]
      refine iteT ⟨_, rfl, hn, _, rfl, rfl, rfl, dd, _, .int j, rfl, (upd_ne (ne_of_none d6 np)).trans d6, rfl, by show (2 : Nat) ≤ sizeLine; rw [sizeLine_eq]; decide, fun p2 np2 => ?_⟩
      exact k _ p2 (K5.upd np) np2
    · have hin : inV (.str (nameG i)) [V.str "row", V.str "steps", V.str "deed"] = false := (names4 i hi).trans hn
      refine ⟨p, _, rfl, .inr (SqT.of upd_same), rfl, rfl, _, rfl, ?_⟩
      rw [if_neg Bool.false_ne_true, hin]
      refine iteF ⟨_, rfl, by show (2 : Nat) ≤ sizeLine; rw [sizeLine_eq]; decide, fun p2 np2 => ?_⟩
      exact k _ p2 (K5.upd np) np2
  exact T.run pins _ _ H D I q
end
end Ah
end
section
set_option Elab.async false
set_option linter.all false
set_option maxRecDepth 100000
set_option maxHeartbeats 2000000
/-! a list comprehension whose parts may look at the state that it starts from -/
namespace Ah
open PySem PySem.Spec PyProof.Rows L2
section
variable {X : Cx}
/-- .. the parts' readings are asked for only where the def's own state holds -/
theorem lcI_core {pins : List (Addr × Obj)} {sA : Shared} {σ : L2.St} {HA : Hp} {Q : VK} {el tgt itr : Expr} {fs : List Expr} {scp : Scope} {own : List (Str × Nat)} {pA pB : Pos} {rI : TI} {rG : TG} {rT : TT} {rE : TE} {use : Option (Value → Sem Unit)} {Qf : Value → Shared → Prop}
    (calm : X.calm = true) (nd : X.N.Nodup) (IA : L2.Inv X pins σ HA sA) (dI : PI X tgt itr rI) (bok : BlkOk X.N X.env.scope scp own)
    (dG : ∀ (u : Shared) (G : Hp) (C : Addr) (cl : List (Str × Addr)) (fp : List Addr), L2.Inv X pins σ G u → (∀ b ∈ fp, ∀ x c, X.env.cells.lookup x = some c → c ≠ b) → PG (X.blk u G scp (compEnvC scp cl C X.env) fp) tgt rG)
    (dT : ∀ (u : Shared) (G : Hp) (C : Addr) (cl : List (Str × Addr)) (fp : List Addr), L2.Inv X pins σ G u → (∀ b ∈ fp, ∀ x c, X.env.cells.lookup x = some c → c ≠ b) → PTs (X.blk u G scp (compEnvC scp cl C X.env) fp) fs rT)
    (dE : ∀ (u : Shared) (G : Hp) (C : Addr) (cl : List (Str × Addr)) (fp : List Addr), L2.Inv X pins σ G u → (∀ b ∈ fp, ∀ x c, X.env.cells.lookup x = some c → c ≠ b) → PE (X.blk u G scp (compEnvC scp cl C X.env) fp) el rE) (fold : ∀ x, foldedSetIterable itr X.env x = pure x)
    (rd : tLc rI rG rT rE (own.map (·.2)) σ HA Q)
    (back : ∀ D C u m G, L2.Inv X pins σ G u → Q (.ref D) G → u.heap.Ns C m → FpOk X pins G C → compPost (model X.prog X.w) X.A X.xe use Qf (.ref D) C (.ok .next) u) :
    wpAny (model X.prog X.w) X.A (comprehension (.ListComp el [⟨tgt, itr, fs, 0⟩] scp pA) scp X.env pB (newList []) false (eval itr X.env) use) Qf X.xe sA := by
  have hasC : ∀ z ∈ scp.names, z.2 = .free → ∃ k, X.env.cells.lookup z.1 = some k := fun z hz e => (bok.free z hz e).elim (fun q => IA.ok.has _ (.inl q)) (fun q => IA.ok.has _ (.inr q))
  refine wpAny_comprehension_free (use := use) rfl fold (closure_ok hasC) bok.kind (fun z hz e => (bok.uniq z hz).trans (congrArg some e))
    (thn (dI.run pins sA σ HA _ IA rd) fun v0 u1 r1 => thn r1 fun v1 u2 r2 => ?_)
  obtain ⟨ita, fp, tn, J, H2, ev, I2, T, at2, ok2, q⟩ := r2
  subst ev
  refine wpAny_newObj_type (newEnv_comp ?_) (by show 0 ≤ sizeLine; decide)
  generalize eD : u2.heap.objs.size = D
  have nD : H2 D = none := I2.hok.fresh (Nat.le_of_eq eD)
  obtain ⟨W, ⟨mm, ww⟩, step0⟩ := q D nD
  generalize eu3 : ({ u2 with heap := u2.heap.push { cls := .type "list", data := .seq ([] : List Value).toArray } } : Shared) = u3
  have hu3 : u3.heap = u2.heap.push { cls := .type "list", data := .seq ([] : List Value).toArray } := by rw [← eu3]
  have I3 : L2.Inv X pins σ (upd H2 D (.lst [])) u3 := by
    rw [← eu3]
    refine I2.laid (t' := u2.toks) (fun b o e => Heap.get?_push_of_some _ e) (Nat.le_of_eq eD) ⟨Nat.zero_le _, [], 0, .nil, ?_⟩
    rw [← eD]
    exact Heap.get?_push_size _ rfl
  have lts : ∀ b ∈ fp, b < u2.heap.objs.size := fun b hb => let ⟨_, e, _⟩ := T.obj _ _ at2 b hb; Heap.lt_size e
  have ok3 : ∀ b ∈ fp, FpOk X pins (upd H2 D (.lst [])) b ∧ b < u3.heap.objs.size := fun b hb => by
    have lt := lts b hb
    have nb : b ≠ D := by rw [← eD]; exact Nat.ne_of_lt lt
    exact ⟨⟨(upd_ne nb).trans (ok2 b hb).1, (ok2 b hb).2⟩, by rw [hu3, Heap.size_push]; exact Nat.lt_succ_of_lt lt⟩
  have at3 : tn 0 u3.heap := T.keep _ _ _ at2 fun b _ o e => by rw [hu3]; exact Heap.get?_push_of_some _ e
  have I4 := block_start I3 bok nd ok3
  have hfp3 : ∀ b ∈ fp, ∀ x c, X.env.cells.lookup x = some c → c ≠ b := fun b hb => (ok3 b hb).1.2.2.2.2.1
  have pg := dG u3 (upd H2 D (.lst [])) u3.heap.objs.size (cellsFrom (u3.heap.objs.size + 1) scp.names (cloFrom X.env.cells scp.names [])) fp I3 hfp3
  have pt := dT u3 (upd H2 D (.lst [])) u3.heap.objs.size (cellsFrom (u3.heap.objs.size + 1) scp.names (cloFrom X.env.cells scp.names [])) fp I3 hfp3
  have pe := dE u3 (upd H2 D (.lst [])) u3.heap.objs.size (cellsFrom (u3.heap.objs.size + 1) scp.names (cloFrom X.env.cells scp.names [])) fp I3 hfp3
  show codeAny _ _ (.compStart (.ListComp el [⟨tgt, itr, fs, 0⟩] scp pA) 0 (.ref ita) (.ref D) (compEnvC scp (cellsFrom (u3.heap.objs.size + 1) scp.names (cloFrom X.env.cells scp.names [])) u3.heap.objs.size X.env)) (compPost (model X.prog X.w) X.A X.xe use Qf (.ref D) u3.heap.objs.size) { u3 with heap := pushCells (u3.heap.push { cls := .type "dict", data := .dict #[] }) scp.names }
  have nfp : ∀ b ∈ fp, (upd H2 D (.lst [])) b = none := fun b hb => (ok3 b hb).1.1
  generalize ee : compEnvC scp (cellsFrom (u3.heap.objs.size + 1) scp.names (cloFrom X.env.cells scp.names [])) u3.heap.objs.size X.env = en at I4 pg pt pe ⊢
  have enL : en.locals = u3.heap.objs.size := by subst ee; rfl
  generalize eH3 : upd H2 D (.lst []) = H3 at I3 I4 pg pt pe ww nfp ok3
  generalize eu4 : ({ u3 with heap := pushCells (u3.heap.push { cls := .type "dict", data := .dict #[] }) scp.names } : Shared) = u4 at I4 ⊢
  have at4 : tn 0 u4.heap := T.keep _ _ _ at3 fun b _ o e => by rw [← eu4]; exact pushCells_keeps _ _ _ _ (Heap.get?_push_of_some _ e)
  have fpo : ∀ {τ : L2.St} {G : Hp} {u : Shared}, L2.Inv (X.blk u3 H3 scp en fp) [] τ G u → (∀ b ∈ fp, G b = none) → ∀ b ∈ fp, FpOk (X.blk u3 H3 scp en fp) [] G b := fun {τ G u} J' hn b hb =>
    ⟨hn b hb, (J'.ok.exf b hb).1, J'.ok.exfs b hb, .inl hb, fun x c e => (J'.ok.exf b hb).2 x c e, fun p hp => absurd (show p ∈ ([] : List (Addr × Obj)) ++ [] from hp) (by simp)⟩
  have run : codeAny (model X.prog X.w) X.A (.compLoop (.ListComp el [⟨tgt, itr, fs, 0⟩] scp pA) 0 (.ref ita) (.ref D) en) (compPost (model X.prog X.w) X.A X.xe use Qf (.ref D) u3.heap.objs.size) u4 := by
    refine compLoop_any (fun n u => ∃ i G, L2.Inv (X.blk u3 H3 scp en fp) [] (wipe σ (own.map (·.2))) G u ∧ tn i u.heap ∧ (∀ b ∈ fp, G b = none) ∧ W i n G) ?_ mm ⟨0, H3, I4, at4, nfp, ww⟩
    rintro n u5 ⟨i, H5, I5, at5, n5, w5⟩
    rcases step0 i n H5 w5 with ⟨halt, qq⟩ | ⟨more, Nx, hNx, st⟩
    · refine thnF (T.done (X.blk u3 H3 scp en fp) rfl rfl rfl calm i [] u5 _ H5 (fun _ _ => False) I5 (fpo I5 n5) at5 halt) fun r u6 ⟨er, I6⟩ => ?_
      subst er
      have nC : H5 u3.heap.objs.size = none := by
        have z : H5 en.locals = none := I6.free
        rwa [enL] at z
      have I7 : L2.Inv X pins σ H5 u6 := I3.call' (ch := fp) I6.os I6.base I6.hok I6.bare fun b hb => ⟨(ok3 b hb).1.2.2.2.1, (ok3 b hb).1.2.1, (ok3 b hb).1.2.2.2.2.1, (ok3 b hb).1.2.2.2.2.2⟩
      obtain ⟨m, hn, _⟩ := I6.loc
      have hn : u6.heap.Ns u3.heap.objs.size m := by
        have z : u6.heap.Ns en.locals m := hn
        rwa [enL] at z
      exact back D u3.heap.objs.size u6 m H5 I7 qq hn (I3.fpOk (Nat.le_refl _) nC)
    · refine thnF (T.item (X.blk u3 H3 scp en fp) rfl rfl rfl calm i [] u5 _ H5 (fun _ _ => False) I5 (fpo I5 n5) at5 more) fun r u6 ⟨x0, er, h6⟩ => ?_
      subst er
      refine thnF h6 fun _ u7 ⟨x, H7, I7, r7, y7, at7, n7⟩ => ?_
      refine thnF (pg.run _ u7 _ H7 x x0 _ (I7.pinned (fpo I7 n7) (T.obj _ _ at7)) r7 (st x H7 y7)) fun _ u8 ⟨σ8, H8, I8, e8, q8⟩ => ?_
      refine thnF (pt.run _ u8 σ8 H8 _ I8 q8) fun b u9 ⟨H9, I9, q9⟩ => ?_
      have fin : ∀ {u : Shared} {G : Hp}, L2.Inv (X.blk u3 H3 scp en fp) ([] ++ pinsAt fp u7.heap) σ8 G u → Nx G → ∃ m, m < n ∧ ∃ i G, L2.Inv (X.blk u3 H3 scp en fp) [] (wipe σ (own.map (·.2))) G u ∧ tn i u.heap ∧ (∀ b ∈ fp, G b = none) ∧ W i m G := fun {u G} J' nx => by
        obtain ⟨m2, lt2, w2⟩ := hNx G nx
        have pinned : ∀ b ∈ fp, ∀ o, u7.heap.get? b = some o → u.heap.get? b = some o ∧ G b = none := fun b hb o e =>
          let z := J'.pin (b, o) (List.mem_append_right _ (List.mem_append_right _ (mem_pinsAt hb e)))
          ⟨z.1, z.2.1⟩
        have same : (wipe σ (own.map (·.2))).length = σ8.length := by rw [← e8, wipe_length]
        refine ⟨m2, lt2, i + 1, G, (J'.unpinned (pins := [])).weak same (fun j v e => ?_), T.keep _ _ _ at7 fun b hb o e => (pinned b hb o e).1, fun b hb => ?_, w2⟩
        · rw [← e8] at e
          exact (wipe_some e).1
        · obtain ⟨o, e, _⟩ := T.obj _ _ at7 b hb
          exact (pinned b hb o e).2
      cases b with
      | false =>
        simp only [Bool.false_eq_true, if_false] at q9 ⊢
        exact fin I9 q9
      | true =>
        simp only [if_true] at q9 ⊢
        refine thnF (pe.run _ u9 σ8 H9 _ I9 q9) fun z u10 ⟨yv, H10, I10, r10, acc, hacc, lacc, nx⟩ => ?_
        exact app_ok (X := X.blk u3 H3 scp en fp) I10 hacc lacc r10 fun u11 I11 => fin I11 nx
  exact codeAny_compStart_list run (T.self X.A 0 _ _ _ at4 run)
theorem pe_lcI {el tgt itr : Expr} {fs : List Expr} {scp : Scope} {own : List (Str × Nat)} {pA : Pos} {rI : TI} {rG : TG} {rT : L2.St → TT} {rE : L2.St → TE} (calm : X.calm = true) (nd : X.N.Nodup) (dI : PI X tgt itr rI) (bok : BlkOk X.N X.env.scope scp own)
    (dG : ∀ (pins : List (Addr × Obj)) (σ : L2.St) (u : Shared) (G : Hp) (C : Addr) (cl : List (Str × Addr)) (fp : List Addr), L2.Inv X pins σ G u → (∀ b ∈ fp, ∀ x c, X.env.cells.lookup x = some c → c ≠ b) → PG (X.blk u G scp (compEnvC scp cl C X.env) fp) tgt rG)
    (dT : ∀ (pins : List (Addr × Obj)) (σ : L2.St) (u : Shared) (G : Hp) (C : Addr) (cl : List (Str × Addr)) (fp : List Addr), L2.Inv X pins σ G u → (∀ b ∈ fp, ∀ x c, X.env.cells.lookup x = some c → c ≠ b) → PTs (X.blk u G scp (compEnvC scp cl C X.env) fp) fs (rT σ))
    (dE : ∀ (pins : List (Addr × Obj)) (σ : L2.St) (u : Shared) (G : Hp) (C : Addr) (cl : List (Str × Addr)) (fp : List Addr), L2.Inv X pins σ G u → (∀ b ∈ fp, ∀ x c, X.env.cells.lookup x = some c → c ≠ b) → PE (X.blk u G scp (compEnvC scp cl C X.env) fp) el (rE σ)) (fold : ∀ x, foldedSetIterable itr X.env x = pure x := by intro _; rfl) :
    PE X (.ListComp el [⟨tgt, itr, fs, 0⟩] scp pA) (fun σ H Q => tLc rI rG (rT σ) (rE σ) (own.map (·.2)) σ H Q) := by
  refine ⟨fun pins s σ H Q I h => ?_⟩
  rw [eval_ListComp]
  refine lcI_core calm nd I dI bok (dG pins σ) (dT pins σ) (dE pins σ) fold h fun D C u m G J q hn f => ⟨m, hn, fun h'' sb => ?_⟩
  obtain ⟨_, f1, f2, f3, f4, f5⟩ := f
  exact ⟨.ref D, G, J.turned (t' := u.toks) (fun b o hb e => (sb.2 b hb).trans e) (by assumption) f1 f3 f4 f5, rfl, q⟩
end
end Ah
end
section
set_option Elab.async false
set_option linter.all false
set_option maxRecDepth 100000
set_option maxHeartbeats 2000000
/-! a lambda that is kept: its object tracked -/
namespace Ah
open PySem PySem.Spec PyProof.Rows L2 LamX
section
variable {X : Cx} {pins : List (Addr × Obj)} {σ : L2.St} {H H1 : Hp} {s s1 : Shared}
/-- an object that came behind s is tracked from now on -/
theorem inv_track {a : Addr} {o : HO} (I : L2.Inv X pins σ H s) (J : L2.Inv X pins σ H1 s1) (ha : s.heap.objs.size ≤ a) (hn : H1 a = none) (new : ObjOk X.prog X.w (upd H1 a o) s1.heap a o) : L2.Inv X pins σ (upd H1 a o) s1 := by
  have lt : ∀ {b : Addr} {u : Obj}, s.heap.get? b = some u → b ≠ a := fun {b u} e z => by
    rw [z] at e
    exact absurd (Nat.lt_of_lt_of_le (Heap.lt_size e) ha) (Nat.lt_irrefl _)
  have lt0 : ∀ {b : Addr} {u : Obj}, X.s_0.heap.get? b = some u → b ≠ a := fun {b u} e z => by
    rw [z] at e
    exact absurd (Nat.lt_of_lt_of_le (Nat.lt_of_lt_of_le (Heap.lt_size e) I.sz) ha) (Nat.lt_irrefl _)
  refine ⟨J.ok, J.os, J.bare, ⟨J.base.keep, J.base.slot, fun b u e n x => ?_, J.base.there, fun b xs e => ?_, fun b u v e => ?_, fun b ps e => ?_⟩, J.loc, J.cell, ?_, fun x c e => ?_, fun p hp => ?_, fun b u e => ?_, J.len⟩
  · rw [upd_ne (lt0 e)]
    exact J.base.free b u e n x
  · have q := J.base.tups b xs e
    rw [upd_ne (ne_of_none q hn)]
    exact q
  · have q := J.base.frzs b u v e
    rw [upd_ne (ne_of_none q hn)]
    exact q
  · obtain ⟨more, q⟩ := J.base.tbls b ps e
    exact ⟨more, by rw [upd_ne (ne_of_none q hn)]; exact q⟩
  · rw [upd_ne (Nat.ne_of_lt (Nat.lt_of_lt_of_le I.lt ha))]
    exact J.free
  · obtain ⟨v, q⟩ := I.cell x c e
    obtain ⟨o', ho, _⟩ := q
    rw [upd_ne (lt ho)]
    exact J.freeC x c e
  · obtain ⟨q1, q2, q3⟩ := J.pin p hp
    refine ⟨q1, ?_, q3⟩
    rw [upd_ne (lt (I.pin p hp).1)]
    exact q2
  · by_cases hb : b = a
    · rw [hb, upd_same] at e
      cases e
      rw [hb]
      exact new
    · rw [upd_ne hb] at e
      exact (J.hok b u e).stay (fun _ _ _ q => q) (fun c q => by rw [upd_ne (ne_of_none q hn)]; exact q) fun c xs q => by rw [upd_ne (ne_of_none q hn)]; exact q
end
def dvV : Option Addr → Value
  | none => .none
  | some t => .ref t
def LamO (q : Str) (params : Arguments) (body : Expr) (scope : Scope) (clo : List (Str × Addr)) (f c' : Addr) (dv : Option Addr) : HO := .ext fun h => ∃ pm ctv, h.get? f = some (lamOb q params body scope clo pm (.ref c') ctv (dvV dv))
/-- the lambda at f; tup: whether it bears a default -/
def LamAt (H : Hp) (q : Str) (params : Arguments) (body : Expr) (scope : Scope) (clo : List (Str × Addr)) (tup : Bool) (f : Addr) : Prop :=
  ∃ (c' : Addr) (dv : Option Addr), H f = some (LamO q params body scope clo f c' dv) ∧ H c' = some (CodeO c' q) ∧ tup = dv.isSome ∧ ∀ t, dv = some t → ∃ k, H t = some (.tup [.int k])
theorem lamO_ne {q : Str} {params : Arguments} {body : Expr} {scope : Scope} {clo : List (Str × Addr)} {f c' : Addr} {dv : Option Addr} (ps : Array Value) : LamO q params body scope clo f c' dv ≠ .tbl ps := fun z => by
  unfold LamO at z
  cases z
theorem LamAt.keep {H H' : Hp} {q : Str} {params : Arguments} {body : Expr} {scope : Scope} {clo : List (Str × Addr)} {tup : Bool} {f : Addr} (h : LamAt H q params body scope clo tup f) (k : ∀ b o, H b = some o → (∀ ps, o ≠ .tbl ps) → (∀ xs, o ≠ .lst xs) → H' b = some o) : LamAt H' q params body scope clo tup f := by
  obtain ⟨c', dv, h1, h2, h3, h4⟩ := h
  refine ⟨c', dv, k _ _ h1 lamO_ne (fun xs z => by unfold LamO at z; cases z), k _ _ h2 codeO_ne (fun xs z => by unfold CodeO at z; cases z), h3, fun t e => ?_⟩
  obtain ⟨kk, e2⟩ := h4 t e
  exact ⟨kk, k _ _ e2 (fun _ z => nomatch z) (fun _ z => nomatch z)⟩
section
variable {X : Cx} {pins : List (Addr × Obj)} {σ : L2.St} {H : Hp} {s : Shared}
/-- behind the default: the function itself -/
theorem lam_core {T : List (Addr × Str)} {c P : Addr} {params : Arguments} {body : Expr} {scope : Scope} {pos : Pos} {n : Nat} {E : Value → Shared → Prop} {Q : Value → Shared → Prop} {dv : Option Addr} (I : L2.Inv X pins σ H s) (TB : LamX.TabB X.base X.mg c P) (hcode : X.env.code = .ref c)
    (hm : (P, X.env.qual ++ "<lambda>") ∈ T) (hu : ∀ p ∈ T, p.1 = P → p.2 = X.env.qual ++ "<lambda>") (hT : LamX.Tabs T H) (hfree : ∀ y ∈ scope.names, y.2 = .free → ∃ c, X.env.cells.lookup y.1 = some c)
    (h : ∀ (f c' : Addr) (H1 : Hp) (s' : Shared), L2.Inv X pins σ H1 s' → (∀ b o, H b = some o → b ≠ P → H1 b = some o) → LamX.Tabs T H1 → H f = none → H1 f = some (LamO (X.env.qual ++ "<lambda>") params body scope (cloFrom X.env.cells scope.names []) f c' dv) → H1 c' = some (LamX.CodeO c' (X.env.qual ++ "<lambda>")) → Q (.ref f) s') :
    wpAny (model X.prog X.w) X.A (makeTail "<lambda>" (X.env.qual ++ "<lambda>") params (.expr body) scope X.env (dvV dv) .none none pos n) Q E s := by
  obtain ⟨ps, hP, ht, ha⟩ := hT _ hm
  refine lamd_tail (closure_ok hfree) fun ctv h1 k1 l1 => ?_
  have bP : s.heap.BuiltinsAt X.mg P := TB.bm.keeps I.bk
  have hP' : s.heap.get? P = some { cls := .none, data := .fields ps } := I.hok P _ hP
  obtain ⟨bm, ob, hbm, hne0, hneG, hneP, hbo, hcls, hdict, hdata⟩ := bP
  have hG := (I.mod.glob.keeps I.bk).keeps k1
  have hC := (TB.code.keeps I.bk).keeps k1
  rw [I.ok.glob]
  have fin : ∀ {c' : Addr} {H2 : Hp} {h2 : Heap} {tk : Nat} {pm : Value}, L2.Inv X pins σ H2 { s with heap := h2, toks := tk } → s.heap.objs.size ≤ h2.objs.size → H2 c' = some (LamX.CodeO c' (X.env.qual ++ "<lambda>")) → (∀ b o, H b = some o → b ≠ P → H2 b = some o) → LamX.Tabs T H2 →
      Q (.ref h2.objs.size) { s with heap := h2.push (lamOb (X.env.qual ++ "<lambda>") params body scope (cloFrom X.env.cells scope.names []) pm (.ref c') ctv (dvV dv)), toks := tk } := fun {c' H2 h2 tk pm} J hs hco hE hTb => by
    have nf : H2 h2.objs.size = none := J.hok.fresh (Nat.le_refl _)
    have new : ObjOk X.prog X.w (upd H2 h2.objs.size (LamO (X.env.qual ++ "<lambda>") params body scope (cloFrom X.env.cells scope.names []) h2.objs.size c' dv)) (h2.push (lamOb (X.env.qual ++ "<lambda>") params body scope (cloFrom X.env.cells scope.names []) pm (.ref c') ctv (dvV dv))) h2.objs.size
        (LamO (X.env.qual ++ "<lambda>") params body scope (cloFrom X.env.cells scope.names []) h2.objs.size c' dv) := ⟨⟨pm, ctv, Heap.get?_push_size _ rfl⟩, ⟨_, Heap.get?_push_size _ rfl⟩, fun g1 g2 ⟨p1, p2, e⟩ k => ⟨p1, p2, k _ e⟩⟩
    have J2 := J.laid (h' := h2.push (lamOb (X.env.qual ++ "<lambda>") params body scope (cloFrom X.env.cells scope.names []) pm (.ref c') ctv (dvV dv))) (t' := tk) (fun b o e => Heap.get?_push_of_some _ e) (Nat.le_refl _) new
    refine h h2.objs.size c' _ _ J2 (fun b o e n => by rw [upd_ne (ne_of_none (hE b o e n) nf)]; exact hE b o e n) (hTb.ext fun b o e => by rw [upd_ne (ne_of_none e nf)]; exact e) (I.hok.fresh hs) upd_same ?_
    rw [upd_ne (ne_of_none hco nf)]
    exact hco
  cases hc : codeAmong pos ps.toList with
  | none =>
    refine PySem.wpAny_functionCodeX hcode (hC.code (k1 _ _ hP') ht) (hC.tab (k1 _ _ hP')) hc fun c' h' tk hx hge hlt _ hrec htb _ => ?_
    obtain ⟨c2, oc, vs, t, e2, hoc, hd, hv⟩ := hrec
    cases e2
    have kx : ∀ b o, b ≠ P → s.heap.get? b = some o → h'.get? b = some o := fun b o hb e => hx b o hb (k1 b o e)
    have hG' := hG.extBut hx TB.gP
    refine wpAny_builtinsFor hG' hbm hne0 (kx _ _ hneP hbo) hcls hdict hdata ?_
    refine wpAny_nsGet hG' ?_
    have l1 : s.heap.objs.size ≤ h1.objs.size := l1
    have hcs : s.heap.objs.size ≤ c' := Nat.le_trans l1 hge
    have hsz : s.heap.objs.size ≤ h'.objs.size := Nat.le_of_lt (Nat.lt_of_le_of_lt hcs hlt)
    have nC : H c' = none := I.hok.fresh hcs
    have I1 := LamX.inv_table (q := X.env.qual ++ "<lambda>") (t' := tk) (more := #[rawInt pos.line, rawInt pos.col, .ref c']) (h' := h') I hP kx htb.2 hcs ⟨oc, vs, t, hoc, hd, hv⟩
    have hE : LamX.ExtN H (L2.upd (L2.upd H P (.tbl (ps ++ #[rawInt pos.line, rawInt pos.col, .ref c']))) c' (LamX.CodeO c' (X.env.qual ++ "<lambda>"))) := fun b o e n => by
      rw [upd_ne (ne_of_none e nC), upd_ne (fun z => n ps (Option.some.inj (e.symm.trans (by rw [z]; exact hP))))]
      exact e
    have eL : (ps ++ #[rawInt pos.line, rawInt pos.col, .ref c']).toList = ps.toList ++ [rawInt pos.line, rawInt pos.col, .ref c'] := by simp
    refine fin I1 hsz upd_same (fun b o e n => by rw [upd_ne (ne_of_none e nC), upd_ne n]; exact e) (fun p hp => ?_)
    by_cases hb : p.1 = P
    · rw [hu p hp hb, hb]
      refine ⟨_, by rw [upd_ne (ne_of_none hP nC), upd_same], by rw [eL]; exact PySem.TriplesOk_snoc _ _ _ _ ht, fun p' cv hcv => ?_⟩
      rw [eL] at hcv
      rcases LamX.among_app _ ht hcv with z | z
      · obtain ⟨c0, e1, e2⟩ := ha p' cv z
        exact ⟨c0, e1, hE _ _ e2 LamX.codeO_ne⟩
      · exact ⟨c', z, upd_same⟩
    · obtain ⟨ps', a1, a2, a3⟩ := hT p hp
      refine ⟨ps', by rw [upd_ne (ne_of_none a1 nC), upd_ne hb]; exact a1, a2, fun p' cv hcv => ?_⟩
      obtain ⟨c0, e1, e2⟩ := a3 p' cv hcv
      exact ⟨c0, e1, hE _ _ e2 LamX.codeO_ne⟩
  | some cv =>
    obtain ⟨c', e, hco⟩ := ha pos cv hc
    subst e
    refine wpAny_functionCode_hit hcode (hC.code (k1 _ _ hP') ht) hc ?_
    refine wpAny_builtinsFor hG hbm hne0 (k1 _ _ hbo) hcls hdict hdata ?_
    refine wpAny_nsGet hG ?_
    exact fin (I.kept (h' := h1) (t' := s.toks) k1) l1 hco (fun _ _ e _ => e) hT
/-- what a kept lambda's making asks -/
def tLamK (P : Addr) (q : Str) (params : Arguments) (body : Expr) (scope : Scope) (cells : List (Str × Addr)) (tup : Bool) : TE := fun _ H Q => TabS H P q ∧ ∀ (H1 : Hp) (f : Addr), (∀ b o, H b = some o → b ≠ P → H1 b = some o) → TabS H1 P q → H f = none → LamAt H1 q params body scope (cloFrom cells scope.names []) tup f → Q (.ref f) H1
theorem pe_lamK0 {c P : Addr} {params : Arguments} {body : Expr} {scope : Scope} {pos : Pos} (TB : LamX.TabB X.base X.mg c P) (hcode : X.env.code = .ref c) 
    (hcell : ∀ y ∈ scope.names, y.2 = .free → X.env.scope.names.lookup y.1 = some .cell ∨ X.env.scope.names.lookup y.1 = some .free) (hdef : defaultsOf params X.env = ([], [])) : PE X (.Lambda params body scope pos) (tLamK P (X.env.qual ++ "<lambda>") params body scope X.env.cells false) := by
  refine ⟨fun pins s σ H Q I h => ?_⟩
  obtain ⟨hT0, h⟩ := h
  have hT : LamX.Tabs [(P, X.env.qual ++ "<lambda>")] H := fun p hp => by
    rw [List.mem_singleton.mp hp]
    exact hT0
  have hm : (P, X.env.qual ++ "<lambda>") ∈ [(P, X.env.qual ++ "<lambda>")] := List.mem_singleton.mpr rfl
  have hu : ∀ p ∈ [(P, X.env.qual ++ "<lambda>")], p.1 = P → p.2 = X.env.qual ++ "<lambda>" := fun p hp _ => by rw [List.mem_singleton.mp hp]
  have hfree : ∀ y ∈ scope.names, y.2 = .free → ∃ c, X.env.cells.lookup y.1 = some c := fun y hy e => (hcell y hy e).elim (fun k => I.ok.has _ (.inl k)) (fun k => I.ok.has _ (.inr k))
  rw [arm_eval_Lambda, hdef]
  show wpAny _ _ (do let dv ← evalAll []; let kdv ← holding dv (evalAllOpt []); makeFunction "<lambda>" (X.env.qual ++ "<lambda>") params (.expr body) scope X.env dv kdv [] pos pos.line) _ _ s
  refine wpAny_bind (wpAny_pure ?_)
  refine wpAny_bind (wpAny_holding (wpAny_pure ?_))
  rw [makeFunction_eq]
  simp only [List.zip_nil_right, List.filterMap_nil, List.isEmpty_nil, if_true, pure_bind]
  refine lam_core (dv := none) I TB hcode hm hu hT hfree fun f c' H1 s' I1 eN T1 nf hf hc => ⟨.ref f, H1, I1, rfl, h H1 f eN (T1 _ hm) nf ⟨c', none, hf, hc, rfl, fun t e => nomatch e⟩⟩
theorem pe_lamKD {c P : Addr} {params : Arguments} {body : Expr} {scope : Scope} {pos p0 : Pos} {k : Int} {j : Nat} (TB : LamX.TabB X.base X.mg c P) (hcode : X.env.code = .ref c) 
    (hcell : ∀ y ∈ scope.names, y.2 = .free → X.env.scope.names.lookup y.1 = some .cell ∨ X.env.scope.names.lookup y.1 = some .free) (hdef : defaultsOf params X.env = ([eval (.Constant (.int k) j p0) X.env], [])) : PE X (.Lambda params body scope pos) (tLamK P (X.env.qual ++ "<lambda>") params body scope X.env.cells true) := by
  refine ⟨fun pins s σ H Q I h => ?_⟩
  obtain ⟨hT0, h⟩ := h
  have hT : LamX.Tabs [(P, X.env.qual ++ "<lambda>")] H := fun p hp => by
    rw [List.mem_singleton.mp hp]
    exact hT0
  have hm : (P, X.env.qual ++ "<lambda>") ∈ [(P, X.env.qual ++ "<lambda>")] := List.mem_singleton.mpr rfl
  have hu : ∀ p ∈ [(P, X.env.qual ++ "<lambda>")], p.1 = P → p.2 = X.env.qual ++ "<lambda>" := fun p hp _ => by rw [List.mem_singleton.mp hp]
  have hfree : ∀ y ∈ scope.names, y.2 = .free → ∃ c, X.env.cells.lookup y.1 = some c := fun y hy e => (hcell y hy e).elim (fun k => I.ok.has _ (.inl k)) (fun k => I.ok.has _ (.inr k))
  rw [arm_eval_Lambda, hdef]
  show wpAny _ _ (do let dv ← evalAll [eval (.Constant (.int k) j p0) X.env]; let kdv ← holding dv (evalAllOpt []); makeFunction "<lambda>" (X.env.qual ++ "<lambda>") params (.expr body) scope X.env dv kdv [] pos pos.line) _ _ s
  refine wpAny_bind (wpAny_bind (wpAny_Constant_int (wpAny_bind (wpAny_holding (wpAny_pure (wpAny_pure ?_))))))
  refine wpAny_bind (wpAny_holding (wpAny_pure ?_))
  rw [makeFunction_eq]
  simp only [List.zip_nil_right, List.filterMap_nil, List.isEmpty_nil, List.isEmpty_cons, Bool.false_eq_true, if_false, if_true, pure_bind]
  refine wpAny_bind (wpAny_newTextTuple ?_)
  have nt : H s.heap.objs.size = none := I.hok.fresh (Nat.le_refl _)
  have It : L2.Inv X pins σ (upd H s.heap.objs.size (.tup [.int k])) { s with heap := s.heap.push { cls := .type "tuple", data := .seq [Value.int k s.toks].toArray }, toks := s.toks + 1 } :=
    I.laid (fun b o e => Heap.get?_push_of_some _ e) (Nat.le_refl _) ⟨by show (1 : Nat) ≤ sizeLine; decide, [Value.int k s.toks], .cons ⟨s.toks, rfl⟩ .nil, ⟨_, Heap.get?_push_size _ rfl, rfl, ⟨_, rfl⟩⟩⟩
  have TT2 : LamX.Tabs [(P, X.env.qual ++ "<lambda>")] (upd H s.heap.objs.size (.tup [.int k])) := hT.ext fun b o e => by rw [upd_ne (ne_of_none e nt)]; exact e
  refine lam_core (dv := some s.heap.objs.size) It TB hcode hm hu TT2 hfree fun f c' H1 s' I1 eN T1 nf hf hc => ⟨.ref f, H1, I1, rfl, h H1 f (fun b o e n => eN b o (by rw [upd_ne (ne_of_none e nt)]; exact e) n) (T1 _ hm) ?_ ⟨c', some s.heap.objs.size, hf, hc, rfl, fun t e => ⟨k, ?_⟩⟩⟩
  · cases e : H f with
    | none => rfl
    | some o =>
      rw [upd_ne (ne_of_none e nt), e] at nf
      cases nf
  · cases e
    refine eN _ _ upd_same fun z => ?_
    obtain ⟨ps, hP, _⟩ := hT0
    rw [← z, nt] at hP
    cases hP
end
end Ah
end
section
set_option Elab.async false
set_option linter.all false
set_option maxRecDepth 100000
set_option maxHeartbeats 2000000
/-! a kept lambda handed to a def that calls it -/
namespace Ah
open PySem PySem.Spec PyProof.Rows L2 LamX
section
variable {X : Cx} {pins : List (Addr × Obj)} {σ : L2.St} {G HZ : Hp} {u s1 : Shared}
theorem lam_startT {A : Around} {outer : List Env} {E : XK} {scope : Scope} {f c' : Addr} {h₁ : Heap} {tk : Nat} {m : Str → Option Value} (J : L2.Inv X pins σ G u) (L : LamSD X.N X.env.scope scope) (e0 : Env0 X.prog X.w X.K X.mg X.base A outer s1 HZ) (hd : A.handled = none)
    (cT : ∀ x c v, X.env.cells.lookup x = some c → u.heap.IsCell c v → s1.heap.IsCell c v ∧ HZ c = none) (hns : h₁.Ns s1.heap.objs.size m) (kp : ∀ b o, s1.heap.get? b = some o → h₁.get? b = some o) :
    L2.Inv (lamCx X A outer s1 HZ E scope f c') [] σ HZ { s1 with heap := h₁, toks := tk } := by
  have hfree := L.has J.ok
  have cm : ∀ {y c}, (cloFrom X.env.cells scope.names []).lookup y = some c → X.env.cells.lookup y = some c := fun {y c} e => by
    rcases cloFrom_mem (PySem.mem_of_lookup e) with hm | ⟨h1, h2⟩
    · cases hm
    · obtain ⟨c1, hc⟩ := hfree _ h1 rfl
      have hc : X.env.cells.lookup y = some c1 := hc
      rw [hc] at h2
      rw [h2]
      exact hc
  have look : ∀ {y}, scope.names.lookup y = some .free → ∃ c, (cloFrom X.env.cells scope.names []).lookup y = some c := fun {y} hl =>
    mem_lookup (cloFrom_has (cells := X.env.cells) (acc := []) (PySem.mem_of_lookup hl))
  have cellK : ∀ {y : Str} {c : Addr} {v : Option Value}, X.env.cells.lookup y = some c → u.heap.IsCell c v → h₁.IsCell c v := fun {y c v} n z => by
    obtain ⟨o, ho, hdd⟩ := (cT y c v n z).1
    exact ⟨o, kp _ _ ho, hdd⟩
  have noA : ∀ b : Addr, b ∉ (lamCx X A outer s1 HZ E scope f c').ex := fun b z => absurd (show b ∈ ([] : List Addr) from z) (by simp)
  refine ⟨⟨e0.mod, L.kind, rfl, rfl, Nat.le_refl _, fun y z c e1 e2 => J.ok.inj y z c (cm e1) (cm e2), fun y hy => ?_, fun y c z _ => absurd (show false = true from z) Bool.false_ne_true, fun _ => hd, Around.frames_deeper e0.frames, .inr ⟨rfl, rfl⟩, fun b z => absurd z (noA b), e0.bs, e0.bsz, fun b _ _ => noA b,
      fun b z => absurd z (noA b), e0.funs, e0.frf⟩,
    rfl, e0.bare, Un.kept kp, ⟨_, hns, fun i y v e1 e2 e3 => ?_⟩, fun y c e => ?_, e0.hok.fresh (Nat.le_refl _), fun y c e => ?_, fun q hq => absurd (show q ∈ ([] : List (Addr × Obj)) ++ [] from hq) (by simp), e0.hok.kept kp, J.len⟩
  · have hy : scope.names.lookup y = some .cell ∨ scope.names.lookup y = some .free := hy
    rcases hy with hy | hy
    · exact absurd rfl (L.own _ (PySem.mem_of_lookup hy))
    · exact look hy
  · have e3 : Vis scope y := e3
    rcases e3 with k | k | k
    · exact absurd (List.mem_of_getElem? (show X.N[i]? = some y from e1)) (L.loc _ (PySem.mem_of_lookup k) rfl)
    · exact absurd rfl (L.own _ (PySem.mem_of_lookup k))
    · obtain ⟨m, hn, hl⟩ := J.loc
      have hvis : Vis X.env.scope y := (L.free _ (PySem.mem_of_lookup k) rfl).elim (fun k => .inr (.inl k)) (fun k => .inr (.inr k))
      obtain ⟨w', r, q⟩ := hl i y v e1 e2 hvis
      obtain ⟨c2, h2⟩ := look k
      refine ⟨w', r, .inr ⟨.inr k, c2, h2, ?_⟩⟩
      have c1 := cm h2
      rcases q with ⟨k', _⟩ | ⟨_, c3, e', z⟩
      · have k' : X.env.scope.names.lookup y = some .local := k'
        rcases L.free _ (PySem.mem_of_lookup k) rfl with k2 | k2 <;> rw [show X.env.scope.names.lookup y = _ from k2] at k' <;> cases k'
      · rw [c1] at e'
        cases e'
        exact cellK c1 z
  · obtain ⟨w', z⟩ := J.cell y c (cm e)
    exact ⟨w', cellK (cm e) z⟩
  · obtain ⟨v, z⟩ := J.cell y c (cm e)
    exact (cT y c v (cm e) z).2
/-- how a lambda of such a form takes no arguments -/
structure LamB (params : Arguments) (body : Expr) (scope : Scope) (tup : Bool) : Prop where
  b0 : tup = false → ∀ (q : Str) (cl : List (Str × Addr)) (pm cv ctv : Value), bindArgs (lamFd q params body scope cl pm cv ctv .none) ⟨[], []⟩ = pure []
  bD : tup = true → ∃ n, scope.names.lookup n = some .local ∧ ∀ (q : Str) (cl : List (Str × Addr)) (pm cv ctv : Value) (t : Addr), ∃ kk : Option (Array Value) → Sem (List (Str × Value)), bindArgs (lamFd q params body scope cl pm cv ctv (.ref t)) ⟨[], []⟩ = seqItems? (.ref t) >>= kk ∧ ∀ v, kk (some [v].toArray) = pure [(n, v)]
theorem LamB.binds {params : Arguments} {body : Expr} {scope : Scope} {tup : Bool} (b : LamB params body scope tup) {P : Program} {w : World} {H : Hp} {s : Shared} (hok : HOk P w H s.heap) {dv : Option Addr} (e : tup = dv.isSome) (ht : ∀ t, dv = some t → ∃ k, H t = some (.tup [.int k])) (q : Str) (cl : List (Str × Addr)) (pm cv ctv : Value) :
    ∃ binds, BindsTo s (lamFd q params body scope cl pm cv ctv (dvV dv)) ⟨[], []⟩ binds ∧ ∀ y ∈ binds, scope.names.lookup y.1 = some .local := by
  cases dv with
  | none => exact ⟨[], .of_eq (b.b0 e q cl pm cv ctv), fun y hy => nomatch hy⟩
  | some t =>
    obtain ⟨n, hn, hb⟩ := b.bD e
    obtain ⟨kk, e1, e2⟩ := hb q cl pm cv ctv t
    obtain ⟨k, et⟩ := ht t rfl
    obtain ⟨_, its, rv, ob, eo, hc, m, hdt⟩ := hok t _ et
    cases rv with
    | @cons _ u1 _ _ r1 r2 =>
      cases r2
      refine ⟨[(n, u1)], ?_, fun y hy => ?_⟩
      · intro M A E Q q2
        show wpAny M A (bindArgs (lamFd q params body scope cl pm cv ctv (.ref t)) ⟨[], []⟩) Q E s
        rw [e1]
        refine wpAny_bind (wpAny_seqItems eo hdt ?_)
        rw [e2]
        exact wpAny_pure q2
      · rw [List.mem_singleton.mp hy]
        exact hn
/-- x(), in the def that got the kept lambda -/
theorem pe_actT {CXg : CXT} {Eg : XK} {Ng : List Str} {qg : Str} {sg : Scope} {g f : Addr} {cdg : Value} {params : Arguments} {body : Expr} {scope : Scope} {tup : Bool} {k i : Nat} {a : Str} {pn : List (Addr × Obj)} {xe : Value → Shared → Prop} {W : WX} {E : XK} {tb : TE} {p1 p2 : Pos} {σ0 : L2.St} {s8 : Shared} {H8 : Hp}
    (J : L2.Inv X pins σ G u) (L : LamSD X.N X.env.scope scope) (hbind : LamB params body scope tup)
    (cT : ∀ x c v, X.env.cells.lookup x = some c → u.heap.IsCell c v → s8.heap.IsCell c v ∧ H8 c = none)
    (tk : Takes ((cxOf CXg X.prog X.w X.K X.mg X.base Ng qg sg g cdg X.A X.stack s8 H8 Eg).tr pn xe) W) (hW : ∀ cls d H', E cls d H' → W cls d σ0 H') (hr : Room (k + 1) (X.A.deeper (envOfC qg sg s8.heap.objs.size g cdg)))
    (hbody : ∀ (A : Around) (outer : List Env) (s : Shared) (H : Hp) (c' : Addr), Room k (A.deeper (lamEnv X scope s.heap.objs.size f c')) → PE (lamCx X A outer s H E scope f c') body tb)
    (hN : Ng[i]? = some a) (hv : Vis sg a) (hd : (a == ("__debug__" : Str)) = false) (hcd : (a == ("__classdict__" : Str)) = false) :
    PE ((cxOf CXg X.prog X.w X.K X.mg X.base Ng qg sg g cdg X.A X.stack s8 H8 Eg).tr pn xe) (.Call (.Name a p1) [] [] p2)
      (fun σZ HZ Q => σZ = σ0 ∧ σZ[i]? = some (some (.ref f)) ∧ LamAt HZ (X.env.qual ++ "<lambda>") params body scope (cloFrom X.env.cells scope.names []) tup f ∧ tb σ HZ Q) := by
  refine ⟨fun pinsZ sZ σZ HZ Q IZ h => ?_⟩
  obtain ⟨e0, hs, hc, ht⟩ := h
  subst e0
  refine wpAny_Call_Name_kw (thn ((pe_var (pos := p1) (i := i) hN hv hd hcd).run pinsZ sZ σZ HZ (fun v H1 => v = .ref f ∧ H1 = HZ) IZ ⟨.ref f, hs, rfl, rfl⟩) fun u' s1 ⟨v, H1, I1, r1, q1⟩ => ?_)
  obtain ⟨ev, eH⟩ := q1
  subst ev
  rw [eH] at I1
  obtain rfl : u' = Value.ref f := r1
  obtain ⟨c', dv, hf, hco, htup, hdt⟩ := hc
  obtain ⟨⟨pm, ctv, of1⟩, _, _⟩ := I1.hok f _ hf
  obtain ⟨⟨oc, vs, t, hoc, hdc, hvc⟩, _, _⟩ := I1.hok c' _ hco
  obtain ⟨binds, hbd, hloc⟩ := hbind.binds I1.hok htup hdt (X.env.qual ++ "<lambda>") (cloFrom X.env.cells scope.names []) pm (.ref c') ctv
  refine PySem.W.callWith_F0 ⟨_, _, _, _, of1⟩ ?_
  have cT1 : ∀ x c v, X.env.cells.lookup x = some c → u.heap.IsCell c v → s1.heap.IsCell c v ∧ HZ c = none := fun x c v hx hz => by
    obtain ⟨⟨o, ho, hdo⟩, n8⟩ := cT x c v hx hz
    have un : Un (frs X.stack) [] H8 HZ s8.heap s1.heap := I1.base
    obtain ⟨sl, q⟩ := un.any ho n8 (by simp)
    exact ⟨⟨_, q, hdo⟩, un.free c o ho n8 (by simp)⟩
  have rc : codeAny (model X.prog X.w) (X.A.deeper (envOfC qg sg s8.heap.objs.size g cdg)) (.call (.ref f) ⟨[], []⟩) (CR (L2.CX X.prog X.w) (envOfC qg sg s8.heap.objs.size g cdg :: X.stack) X.prog X.w HZ s1 Q E) s1 := by
    refine PySem.W.kla_callFunE hr.depth of1 rfl L.co L.gen rfl ⟨c', oc, vs, t, rfl, hoc, hdc, hvc⟩ ?_
    refine hbd _ _ _ _ (wpAny_newFunctionEnv L.own hloc (fun h₁ hns hsb => ⟨I1.nolimit.fresh _ hsb, ?_⟩) L.kind)
    show codeAny _ _ (.expr body (lamEnv X scope s1.heap.objs.size f c')) _ _
    have kp : ∀ b o, s1.heap.get? b = some o → h₁.get? b = some o := fun b o e => hsb.extBut b o (Nat.ne_of_lt (Heap.lt_size e)) (Heap.get?_push_of_some _ e)
    have J2 : L2.Inv (lamCx X (X.A.deeper (envOfC qg sg s8.heap.objs.size g cdg)) (envOfC qg sg s8.heap.objs.size g cdg :: X.stack) s1 HZ E scope f c') [] σ HZ { s1 with heap := h₁, toks := s1.toks + binds.length } :=
      lam_startT J L I1.env0 hr.hd cT1 hns kp
    refine PySem.W.kla_codeExpr (wpAny_mono ((hbody _ _ s1 HZ c' (hr.deeper _)).run [] _ _ HZ Q J2 ht) (fun v s' hq => ?_) fun e s' hq => hq)
    obtain ⟨w', H', J', rv, q⟩ := hq
    exact ⟨w', H', J'.os, J'.bare, J'.base, J'.hok, rv, q⟩
  refine wpAny_call (codeAny_mono rc fun r s' hq => ?_)
  cases r with
  | error e => exact tk e s' (XE.of_call I1 (fun cls d H' h => hW cls d H' h) hq)
  | ok fl =>
    cases fl with
    | ret u => exact I1.after hq
    | next => exact False.elim hq
    | brk => exact False.elim hq
    | cont => exact False.elim hq
end
/-- the def that calls what it got; D: what it leaves as it is -/
def GivesP (P : Program) (w : World) (K : PySem.W.Frag) (mg : Str → Option Value) (base : Heap) (Ng : List Str) (x : Str) (sg : Scope) (g : Addr) (cdg : Value) (bg : List Stmt) (a : Str) (TT : (XK → Hp → VK → Prop) → Hp → VK → Prop) : Prop :=
  ∀ (A : Around) (stack : List Env) (f : Addr) (s : Shared) (H : Hp) (Q : VK) (tl : XK → Hp → VK → Prop) (D : Hp → Prop), (∀ H1 H2, Kept [] H1 H2 → D H1 → D H2) →
    (∀ (W : WX) (pn : List (Addr × Obj)) (xe : Value → Shared → Prop) (E : XK) (p1 p2 : Pos) (σ0 : L2.St), Takes ((cxOf C8.CX0 P w K mg base Ng x sg g cdg A stack s H C8.E0).tr pn xe) W → (∀ cls d H', E cls d H' → W cls d σ0 H') →
      PE ((cxOf C8.CX0 P w K mg base Ng x sg g cdg A stack s H C8.E0).tr pn xe) (.Call (.Name a p1) [] [] p2) (fun σZ HZ Q => σZ = σ0 ∧ σZ[0]? = some (some (.ref f)) ∧ D HZ ∧ tl E HZ Q)) →
    D H → TT tl H Q →
    ∃ t, PSs (cxOf C8.CX0 P w K mg base Ng x sg g cdg A stack s H C8.E0).nox bg t ∧ t { nx := fun _ H' => Q .non H', rt := Q } (L2.start Ng [.ref f]) H
/-- a lambda that may be handed over -/
structure LamE where
  params : Arguments
  body : Expr
  scope : Scope
  tup : Bool
  t : XK → TE
structure LamOk (X : Cx) (k : Nat) (d : LamE) : Prop where
  sd : LamSD X.N X.env.scope d.scope
  b : LamB d.params d.body d.scope d.tup
  body : ∀ (A : Around) (outer : List Env) (s : Shared) (H : Hp) (E : XK) (f c' : Addr), Room k (A.deeper (lamEnv X d.scope s.heap.objs.size f c')) → PE (lamCx X A outer s H E d.scope f c') d.body (d.t E)
/-- x(e), e telling one of the lambdas; the reading looks at the slots where they were made -/
def tWordL (Ls : List LamE) (q : Str) (cells : List (Str × Addr)) (TT : (XK → Hp → VK → Prop) → Hp → VK → Prop) (σ : L2.St) (te : TE) : TE := fun σ8 H8 Q => tCons te tNil σ8 H8 fun vs H9 => ∃ (f : Addr) (d : LamE), vs = [.ref f] ∧ d ∈ Ls ∧ LamAt H9 q d.params d.body d.scope (cloFrom cells d.scope.names []) d.tup f ∧ TT (fun E H' Q' => d.t E σ H' Q') H9 Q
section
variable {X : Cx}
theorem word_run {TT : (XK → Hp → VK → Prop) → Hp → VK → Prop} {x a : Str} {g : Addr} {k : Nat} {pg : Arguments} {bg : List Stmt} {sg : Scope} {dV kV doc pm cdv ct oc : Value} {an od : Option Addr} {osl : Array (Option Value)} {Ng : List Str} {Ls : List LamE}
    (lk : X.K.lookup g = some ⟨oc, od, .func (PySem.W.fnOf x x pg bg sg dV kV doc pm an cdv ct), osl⟩) (hcg : PySem.W.codeIn X.K cdv x = true) (hb : L2.Binds X.K (PySem.W.fnOf x x pg bg sg dV kV doc pm an cdv ct) [a] []) (Sg : FnScope Ng [a] sg) (hNg : Ng[0]? = some a) (hva : Vis sg a)
    (hG : GivesP X.prog X.w X.K X.mg X.base Ng x sg g cdv bg a TT) (hr : Room (k + 2) X.A) (hL : ∀ d ∈ Ls, LamOk X k d) (hd : (a == ("__debug__" : Str)) = false) (hcd : (a == ("__classdict__" : Str)) = false)
    {pins : List (Addr × Obj)} {σ : L2.St} {G H9 : Hp} {u s9 : Shared} {Q : VK} (J : L2.Inv X pins σ G u) (e0 : Env0 X.prog X.w X.K X.mg X.base X.A X.stack s9 H9) (kin : X.K.In s9.heap) (cT : ∀ x c v, X.env.cells.lookup x = some c → u.heap.IsCell c v → s9.heap.IsCell c v ∧ H9 c = none)
    {f : Addr} {d : LamE} (hdm : d ∈ Ls) (ha : LamAt H9 (X.env.qual ++ "<lambda>") d.params d.body d.scope (cloFrom X.env.cells d.scope.names []) d.tup f) (ht : TT (fun E H' Q' => d.t E σ H' Q') H9 Q) :
    codeAny (model X.prog X.w) X.A (.call (.ref g) ⟨[.ref f], []⟩) (CR C8.CX0 X.stack X.prog X.w H9 s9 Q C8.E0) s9 := by
  refine run_ofS (N := Ng) (ps := [a]) (us := [.ref f]) (vs := [.ref f]) lk hcg Sg hr e0 (hb s9 [.ref f] kin rfl) (.cons rfl .nil) rfl fun hr' => ?_
  have L := hL d hdm
  obtain ⟨t', ht', hq'⟩ := hG X.A X.stack f s9 H9 Q (fun E H' Q' => d.t E σ H' Q') (fun HZ => LamAt HZ (X.env.qual ++ "<lambda>") d.params d.body d.scope (cloFrom X.env.cells d.scope.names []) d.tup f) (fun H1 H2 kk h => h.keep fun b o e _ _ => kk b o e (by simp))
    (fun W pn xe E p1 p2 σ0 tk hW => pe_actT (i := 0) J L.sd L.b cT tk hW hr' (fun A outer s H c' hr2 => L.body A outer s H E f c' hr2) hNg hva hd hcd) ha ht
  exact ⟨t', ht'.nox, hq'⟩
/-- in the block of a comprehension -/
theorem pe_wordB {TT : (XK → Hp → VK → Prop) → Hp → VK → Prop} {x a : Str} {g : Addr} {k : Nat} {pg : Arguments} {bg : List Stmt} {sg : Scope} {dV kV doc pm cdv ct oc : Value} {an od : Option Addr} {osl : Array (Option Value)} {Ng : List Str} {Ls : List LamE} {e : Expr} {te : TE} {p pos : Pos}
    {pins : List (Addr × Obj)} {σ : L2.St} {G : Hp} {u : Shared} {scp : Scope} {en : Env} {fp : List Addr} (J : L2.Inv X pins σ G u) (hfp : ∀ b ∈ fp, ∀ x c, X.env.cells.lookup x = some c → c ≠ b)
    (hg : Gl (X.blk u G scp en fp) x) (hm : X.mg x = some (.ref g)) (hk : PySem.W.keepIn X.K (.ref g) = true)
    (lk : X.K.lookup g = some ⟨oc, od, .func (PySem.W.fnOf x x pg bg sg dV kV doc pm an cdv ct), osl⟩) (hcg : PySem.W.codeIn X.K cdv x = true) (hb : L2.Binds X.K (PySem.W.fnOf x x pg bg sg dV kV doc pm an cdv ct) [a] []) (Sg : FnScope Ng [a] sg) (hNg : Ng[0]? = some a) (hva : Vis sg a)
    (hG : GivesP X.prog X.w X.K X.mg X.base Ng x sg g cdv bg a TT) (hr : Room (k + 2) X.A) (hL : ∀ d ∈ Ls, LamOk X k d) (he : PE (X.blk u G scp en fp) e te)
    (hdb : (x == ("__debug__" : Str)) = false := by decide) (hd : (a == ("__debug__" : Str)) = false := by decide) (hcd : (a == ("__classdict__" : Str)) = false := by decide)
    (hst : starEach [e] en = (false, eval e en) :: starEach [] en := by rfl) (hpl : (backTo pos (starEach [] en)).any (·.1) = false := by rfl) :
    PE (X.blk u G scp en fp) (.Call (.Name x p) [e] [] pos) (tWordL Ls (X.env.qual ++ "<lambda>") X.env.cells TT σ te) := by
  refine ⟨fun pins8 s σ8 H8 Q I h => ?_⟩
  refine wpAny_Call_Name_kw (ld_glob (X := X.blk u G scp en fp) I hg hm ?_ hdb)
  refine PySem.W.callWith_K (h₀ := X.base) J.ok.mod.kin hk (thn ((pa_cons he pa_nil hst).run pos pins8 s σ8 H8 _ I h) fun us s9 ⟨vs, H9, I9, r, f, d, e1, hdm, ha, ht⟩ => ⟨I9.kIn, ?_⟩) hst hpl
  subst e1
  obtain ⟨uu, rfl, r1⟩ := vals1 r
  obtain rfl : uu = Value.ref f := r1
  have cT : ∀ x c v, X.env.cells.lookup x = some c → u.heap.IsCell c v → s9.heap.IsCell c v ∧ H9 c = none := fun x c v hx hz => by
    obtain ⟨o, ho, hdo⟩ := hz
    have n0 := J.freeC x c hx
    have nf : c ∉ fp := fun z => hfp c z x c hx rfl
    have un : Un (frs X.stack) fp G H9 u.heap s9.heap := I9.base
    obtain ⟨sl, q⟩ := un.any ho n0 nf
    exact ⟨⟨_, q, hdo⟩, un.free c o ho n0 nf⟩
  have rc := word_run lk hcg hb Sg hNg hva hG hr hL hd hcd J I9.env0 I9.kIn cT hdm ha ht
  refine wpAny_call (codeAny_mono rc fun r s2 hq => ?_)
  cases r with
  | error e => exact (show False from hq).elim
  | ok fl =>
    cases fl with
    | ret u => exact I9.after hq
    | next => exact False.elim hq
    | brk => exact False.elim hq
    | cont => exact False.elim hq
/-- in the def itself -/
theorem pe_wordX {TT : (XK → Hp → VK → Prop) → Hp → VK → Prop} {x a : Str} {g : Addr} {k : Nat} {pg : Arguments} {bg : List Stmt} {sg : Scope} {dV kV doc pm cdv ct oc : Value} {an od : Option Addr} {osl : Array (Option Value)} {Ng : List Str} {Ls : List LamE} {e : Expr} {te : TE} {p pos : Pos}
    (hg : Gl X x) (hm : X.mg x = some (.ref g)) (hk : PySem.W.keepIn X.K (.ref g) = true)
    (lk : X.K.lookup g = some ⟨oc, od, .func (PySem.W.fnOf x x pg bg sg dV kV doc pm an cdv ct), osl⟩) (hcg : PySem.W.codeIn X.K cdv x = true) (hb : L2.Binds X.K (PySem.W.fnOf x x pg bg sg dV kV doc pm an cdv ct) [a] []) (Sg : FnScope Ng [a] sg) (hNg : Ng[0]? = some a) (hva : Vis sg a)
    (hG : GivesP X.prog X.w X.K X.mg X.base Ng x sg g cdv bg a TT) (hr : Room (k + 2) X.A) (hL : ∀ d ∈ Ls, LamOk X k d) (he : PE X e te)
    (hdb : (x == ("__debug__" : Str)) = false := by decide) (hd : (a == ("__debug__" : Str)) = false := by decide) (hcd : (a == ("__classdict__" : Str)) = false := by decide)
    (hst : starEach [e] X.env = (false, eval e X.env) :: starEach [] X.env := by rfl) (hpl : (backTo pos (starEach [] X.env)).any (·.1) = false := by rfl) :
    PE X (.Call (.Name x p) [e] [] pos) (fun σ => tWordL Ls (X.env.qual ++ "<lambda>") X.env.cells TT σ te σ) := by
  refine ⟨fun pins8 s σ8 H8 Q I h => ?_⟩
  refine wpAny_Call_Name_kw (ld_glob I hg hm ?_ hdb)
  refine PySem.W.callWith_K (h₀ := X.base) I.ok.mod.kin hk (thn ((pa_cons he pa_nil hst).run pos pins8 s σ8 H8 _ I h) fun us s9 ⟨vs, H9, I9, r, f, d, e1, hdm, ha, ht⟩ => ⟨I9.kIn, ?_⟩) hst hpl
  subst e1
  obtain ⟨uu, rfl, r1⟩ := vals1 r
  obtain rfl : uu = Value.ref f := r1
  have rc := word_run lk hcg hb Sg hNg hva hG hr hL hd hcd I9 I9.env0 I9.kIn (fun x c v hx hz => ⟨hz, I9.freeC x c hx⟩) hdm ha ht
  refine wpAny_call (codeAny_mono rc fun r s2 hq => ?_)
  cases r with
  | error e => exact (show False from hq).elim
  | ok fl =>
    cases fl with
    | ret u => exact I9.after hq
    | next => exact False.elim hq
    | brk => exact False.elim hq
    | cont => exact False.elim hq
/-- x(lambda ..) -/
theorem pe_word1 {TT : (XK → Hp → VK → Prop) → Hp → VK → Prop} {x a : Str} {g P : Addr} {k : Nat} {pg : Arguments} {bg : List Stmt} {sg : Scope} {dV kV doc pm cdv ct oc : Value} {an od : Option Addr} {osl : Array (Option Value)} {Ng : List Str} {params : Arguments} {body : Expr} {scope : Scope} {tup : Bool} {t : XK → TE} {lpos p pos : Pos}
    (hg : Gl X x) (hm : X.mg x = some (.ref g)) (hk : PySem.W.keepIn X.K (.ref g) = true)
    (lk : X.K.lookup g = some ⟨oc, od, .func (PySem.W.fnOf x x pg bg sg dV kV doc pm an cdv ct), osl⟩) (hcg : PySem.W.codeIn X.K cdv x = true) (hb : L2.Binds X.K (PySem.W.fnOf x x pg bg sg dV kV doc pm an cdv ct) [a] []) (Sg : FnScope Ng [a] sg) (hNg : Ng[0]? = some a) (hva : Vis sg a)
    (hG : GivesP X.prog X.w X.K X.mg X.base Ng x sg g cdv bg a TT) (hr : Room (k + 2) X.A) (mk : PE X (.Lambda params body scope lpos) (tLamK P (X.env.qual ++ "<lambda>") params body scope X.env.cells tup)) (L : LamSD X.N X.env.scope scope) (B : LamB params body scope tup)
    (hbody : ∀ (A : Around) (outer : List Env) (s : Shared) (H : Hp) (E : XK) (f c' : Addr), Room k (A.deeper (lamEnv X scope s.heap.objs.size f c')) → PE (lamCx X A outer s H E scope f c') body (t E))
    (hdb : (x == ("__debug__" : Str)) = false := by decide) (hd : (a == ("__debug__" : Str)) = false := by decide) (hcd : (a == ("__classdict__" : Str)) = false := by decide)
    (hst : starEach [.Lambda params body scope lpos] X.env = (false, eval (.Lambda params body scope lpos) X.env) :: starEach [] X.env := by rfl) (hpl : (backTo pos (starEach [] X.env)).any (·.1) = false := by rfl) :
    PE X (.Call (.Name x p) [.Lambda params body scope lpos] [] pos) (fun σ H Q => TabS H P (X.env.qual ++ "<lambda>") ∧ ∀ H1, (∀ b o, H b = some o → b ≠ P → H1 b = some o) → TabS H1 P (X.env.qual ++ "<lambda>") → TT (fun E H' Q' => t E σ H' Q') H1 Q) :=
  ⟨fun pins s σ H Q I ⟨hT, h⟩ => (pe_wordX (Ls := [⟨params, body, scope, tup, t⟩]) hg hm hk lk hcg hb Sg hNg hva hG hr (fun d hd => by rw [List.mem_singleton.mp hd]; exact ⟨L, B, hbody⟩) mk hdb hd hcd hst hpl).run pins s σ H Q I
    (show tCons _ tNil σ H _ from ⟨hT, fun H1 f eN T1 nf la => ⟨f, _, rfl, List.mem_singleton.mpr rfl, la, h H1 eN T1⟩⟩)⟩
end
end Ah
end
section
set_option Elab.async false
set_option linter.all false
set_option maxRecDepth 100000
set_option maxHeartbeats 2000000
namespace Ah
open PySem PySem.Spec PyProof.Rows L2 LamX
theorem pe_mono {X : Cx} {e : Expr} {t : TE} (h : PE X e t) : PE X e (fun σ H Q => ∃ Q0 : VK, (∀ v H', Q0 v H' → Q v H') ∧ t σ H Q0) :=
  ⟨fun pins s σ H Q I ⟨Q0, hm, ht⟩ => wpAny_mono (h.run pins s σ H Q0 I ht) (fun v s' ⟨x, H', I', r, q⟩ => ⟨x, H', I', r, hm _ _ q⟩) fun _ _ z => z⟩
/-- what is wished of an exception of the i-th class -/
def EW (c : Nat → Addr) (i : Nat) (Q : VK) : XK := fun cls d H1 => ∃ (dd : Addr) (j : Int), cls = .ref (c i) ∧ d = some dd ∧ H1 dd = some (.xd [("number", .int j)]) ∧ ∀ H' p, Kept [] H1 H' → H' p = none → Q (.ref p) (upd H' p (.tup [.str (nameW i), .int j]))
/-- what _law_word makes of the lambda's reading -/
def TWd (c : Nat → Addr) (i : Nat) : (XK → Hp → VK → Prop) → Hp → VK → Prop := fun tl H Q => ∀ lf, H lf = none → tl (EW c i Q) (upd H lf (.lst [])) (fun v H1 => H1 lf = some (.lst []) ∧ ∀ p, upd H1 lf (.lst [v]) p = none → Q (.ref p) (upd (upd H1 lf (.lst [v])) p (.tup [.str "", v])))
def bodyW : List Stmt := match defBody lWord with
  | _ :: .Try b _ _ _ _ :: _ => b
  | _ => []
theorem word_gives {X : Cx} {CA : Addr} {c : Nat → Addr} {g : Addr} {cdg : Value} {q : Str} (W : WordF X.K X.mg CA c) {i : Nat} (hi : i = 0 ∨ i = 3 ∨ i = 6) : GivesS X NW "_law_word" (defScope lWord) g cdg (defBody lWord) "_law_work" q (TWd c i) := by
  intro f c' s H Q tl act hc h
  refine ⟨_, pss_cons (ps_set (i := 1) scW2.nd rfl (.inl rfl) (pe_lst pa_nil)) (pss_cons (ps_try_as (X := (cxOf C8.CX0 X.prog X.w X.K X.mg X.base NW "_law_word" (defScope lWord) g cdg X.A X.stack s H C8.E0).nox) (i := 2) (n := "e") (c := .ref CA)
      (tb := fun W D σ H => ∃ (Ech : XK) (lf : Addr) (Q0 : VK), (∀ cls d H', Ech cls d H' → W cls d σ H') ∧ σ = [some (.ref f), some (.ref lf), none, none, none, none] ∧ H c' = some (CodeO c' q) ∧ H lf = some (.lst []) ∧ (∀ v H1, Q0 v H1 → H1 lf = some (.lst []) ∧ D.nx σ (upd H1 lf (.lst [v]))) ∧ tl Ech H Q0)
      (ts := tsW c i) rfl rfl scW2.nd rfl rfl ⟨by rfl, rfl, .inl W.ca⟩ L2.takes0 (fun Wx pn xe tk _ => ?_) (fun a oe cls d pn hz hf => suite_word W hi a oe cls d pn hz hf))
    (pss_one (ps_ret (pe_tup (pa_cons pe_str (pa_cons (pe_ix ix_list (pv 1) pe_int (fun _ _ => rfl)) pa_nil)))))), ?_⟩
  · refine ⟨fun pins s' σ H' D I h' => ?_⟩
    obtain ⟨Ech, lf, Q0, hW, rfl, h1, hlf, h0, h2⟩ := h'
    obtain ⟨t, T, r⟩ : ∃ t, PSs ((cxOf C8.CX0 X.prog X.w X.K X.mg X.base NW "_law_word" (defScope lWord) g cdg X.A X.stack s H C8.E0).tr pn xe) bodyW t ∧ t D [some (.ref f), some (.ref lf), none, none, none, none] H' := by
      refine ⟨_, pss_one (ps_expr (pe_bm PySem.F.plainAttrs_list PySem.F.slot_list_append PySem.F.type_list_append mt_append (pv 1) (pa_cons (pe_mono (act Wx pn xe Ech _ _ [some (.ref f), some (.ref lf), none, none, none, none] tk hW)) pa_nil))), ?_⟩
      refine ⟨_, rfl, .inl ⟨rfl, _, SqL.of hlf⟩, Q0, (fun v H1 hv0 => ?_), rfl, rfl, h1, h2⟩
      have hv := h0 v H1 hv0
      exact ⟨lf, _, _, rfl, rfl, hv.1, by show (0 : Nat) < sizeLine; rw [sizeLine_eq]; decide, hv.2⟩
    exact T.run pins s' _ H' D I r
  · refine ⟨by show (0 : Nat) ≤ sizeLine; decide, fun lf nlf => ?_⟩
    have hc2 : upd H lf (.lst []) c' = some (CodeO c' q) := (upd_ne (ne_of_none hc nlf)).trans hc
    have hi9 : i < 9 := by omega
    refine ⟨EW c i Q, lf, _, fun cls d H1 hE => ?_, rfl, hc2, upd_same, (fun v H1 hv => ⟨hv.1, ?_⟩), h lf nlf⟩
    · obtain ⟨dd, j, rfl, rfl, hdd, k⟩ := hE
      exact ⟨true, W.exm i hi9, fun _ a na => ⟨dd, j, _, _, rfl, rfl, hdd, rfl, k⟩, fun z => nomatch z⟩
    · exact ⟨_, rfl, lf, _, 0, v, rfl, rfl, SqL.of upd_same, at_of (j := 0) rfl rfl, by show (2 : Nat) ≤ sizeLine; rw [sizeLine_eq]; decide, hv.2⟩
end Ah
end
section
set_option Elab.async false
set_option linter.all false
set_option maxRecDepth 100000
set_option maxHeartbeats 2000000
namespace Ah
open PySem PySem.Spec PyProof.Rows L2 LamX
/-- what is wished of an exception, whatever its class -/
def EWG (c : Nat → Addr) (Q : VK) : XK := fun cls d H1 => ∃ (i : Nat) (v : V), i < 7 ∧ cls = .ref (c i) ∧ ErrAt H1 i d v ∧ ∀ H' p, Kept [] H1 H' → H' p = none → Q (.ref p) (upd H' p (.tup [.str (nameG i), v]))
def TWG (c : Nat → Addr) : (XK → Hp → VK → Prop) → Hp → VK → Prop := fun tl H Q => ∀ lf, H lf = none → tl (EWG c Q) (upd H lf (.lst [])) (fun v H1 => H1 lf = some (.lst []) ∧ ∀ p, upd H1 lf (.lst [v]) p = none → Q (.ref p) (upd (upd H1 lf (.lst [v])) p (.tup [.str "", v])))
/-- the suite for any class -/
def tsGA (c : Nat → Addr) (a : Addr) (cls : Value) (d : Option Addr) : TS := fun D σ H => ∃ i, i < 7 ∧ tsG c i a cls d D σ H
section
variable {P : Program} {w : World} {K : PySem.W.Frag} {mg : Str → Option Value} {base : Heap}
theorem word_givesG {CA : Addr} {c : Nat → Addr} {g : Addr} {cdg : Value} (W : WordG K mg CA c) : GivesP P w K mg base NW "_law_word" (defScope lWord) g cdg (defBody lWord) "_law_work" (TWG c) := by
  intro A stack f s H Q tl G hG act hc h
  refine ⟨_, pss_cons (ps_set (i := 1) scW2.nd rfl (.inl rfl) (pe_lst pa_nil)) (pss_cons (ps_try_as (X := (cxOf C8.CX0 P w K mg base NW "_law_word" (defScope lWord) g cdg A stack s H C8.E0).nox) (i := 2) (n := "e") (c := .ref CA)
      (tb := fun W D σ H => ∃ (Ech : XK) (lf : Addr) (Q0 : VK), (∀ cls d H', Ech cls d H' → W cls d σ H') ∧ σ = [some (.ref f), some (.ref lf), none, none, none, none] ∧ G H ∧ H lf = some (.lst []) ∧ (∀ v H1, Q0 v H1 → H1 lf = some (.lst []) ∧ D.nx σ (upd H1 lf (.lst [v]))) ∧ tl Ech H Q0)
      (ts := tsGA c) rfl rfl scW2.nd rfl rfl ⟨by rfl, rfl, .inl W.ca⟩ L2.takes0 (fun Wx pn xe tk _ => ?_) (fun a oe cls d pn hz hf => ⟨fun pins s2 σ2 H2 D2 I2 ⟨i, hi, r⟩ => (suite_wordG W hi a oe cls d pn hz hf).run pins s2 σ2 H2 D2 I2 r⟩))
    (pss_one (ps_ret (pe_tup (pa_cons pe_str (pa_cons (pe_ix ix_list (pv 1) pe_int (fun _ _ => rfl)) pa_nil)))))), ?_⟩
  · refine ⟨fun pins s' σ H' D I h' => ?_⟩
    obtain ⟨Ech, lf, Q0, hW, rfl, h1, hlf, h0, h2⟩ := h'
    obtain ⟨t, T, r⟩ : ∃ t, PSs ((cxOf C8.CX0 P w K mg base NW "_law_word" (defScope lWord) g cdg A stack s H C8.E0).tr pn xe) bodyW t ∧ t D [some (.ref f), some (.ref lf), none, none, none, none] H' := by
      refine ⟨_, pss_one (ps_expr (pe_bm PySem.F.plainAttrs_list PySem.F.slot_list_append PySem.F.type_list_append mt_append (pv 1) (pa_cons (pe_mono (act Wx pn xe Ech _ _ [some (.ref f), some (.ref lf), none, none, none, none] tk hW)) pa_nil))), ?_⟩
      refine ⟨_, rfl, .inl ⟨rfl, _, SqL.of hlf⟩, Q0, (fun v H1 hv0 => ?_), rfl, rfl, h1, h2⟩
      have hv := h0 v H1 hv0
      exact ⟨lf, _, _, rfl, rfl, hv.1, by show (0 : Nat) < sizeLine; rw [sizeLine_eq]; decide, hv.2⟩
    exact T.run pins s' _ H' D I r
  · refine ⟨by show (0 : Nat) ≤ sizeLine; decide, fun lf nlf => ?_⟩
    refine ⟨EWG c Q, lf, _, fun cls d H1 hE => ?_, rfl, hG _ _ ((Kept.refl H).upd nlf) hc, upd_same, (fun v H1 hv => ⟨hv.1, ?_⟩), h lf nlf⟩
    · obtain ⟨i, v, hi, rfl, he, k⟩ := hE
      exact ⟨true, W.exm i (by omega), fun _ a na => ⟨i, hi, v, _, _, rfl, he, rfl, k⟩, fun z => nomatch z⟩
    · exact ⟨_, rfl, lf, _, 0, v, rfl, rfl, SqL.of upd_same, at_of (j := 0) rfl rfl, by show (2 : Nat) ≤ sizeLine; rw [sizeLine_eq]; decide, hv.2⟩
end
end Ah
end
section
set_option Elab.async false
set_option linter.all false
set_option maxRecDepth 100000
set_option maxHeartbeats 2000000
namespace Ah
open PySem PySem.Spec PyProof.Rows L2 LamX
open GxR (TabG)
/-! ### what a house tells of a deed -/
theorem few_row {r : Rw} (h : r.few) : isRowL (r.ws.map V.str) = true ∧ ∀ z ∈ r.ws, z.length ≤ 100 := by
  have nk : ∀ n ∈ namesL, ∀ k ∈ kindsL, ∀ l ∈ kindsL, ∀ m ∈ namesL, ∀ t ∈ tiesL, ∀ s ∈ tiesL, ∀ x ∈ [Rw.is n k, Rw.isnt n k, Rw.has n t m, Rw.hasnt n t m, Rw.all k l, Rw.no k l, Rw.each k t m, Rw.who t k l, Rw.turned t s, Rw.on t, Rw.fr t k, Rw.to t k, Rw.under t s],
      (isRowL (x.ws.map V.str) && x.ws.all fun z => decide (z.length ≤ 100)) = true := by decide +kernel
  have fin : (isRowL (r.ws.map V.str) && r.ws.all fun z => decide (z.length ≤ 100)) = true := by
    have n0 : ("ann" : Str) ∈ namesL := by decide
    have k0 : ("cat" : Str) ∈ kindsL := by decide
    have t0 : ("likes" : Str) ∈ tiesL := by decide
    cases r <;> simp only [Rw.few] at h
    · exact nk _ h.1 _ h.2 _ k0 _ n0 _ t0 _ t0 _ (by simp)
    · exact nk _ h.1 _ h.2 _ k0 _ n0 _ t0 _ t0 _ (by simp)
    · exact nk _ h.1 _ k0 _ k0 _ h.2.2 _ h.2.1 _ t0 _ (by simp)
    · exact nk _ h.1 _ k0 _ k0 _ h.2.2 _ h.2.1 _ t0 _ (by simp)
    · exact nk _ n0 _ h.1 _ h.2 _ n0 _ t0 _ t0 _ (by simp)
    · exact nk _ n0 _ h.1 _ h.2 _ n0 _ t0 _ t0 _ (by simp)
    · exact nk _ n0 _ h.1 _ k0 _ h.2.2 _ h.2.1 _ t0 _ (by simp)
    · exact nk _ n0 _ h.2.1 _ h.2.2 _ n0 _ h.1 _ t0 _ (by simp)
    · exact nk _ n0 _ k0 _ k0 _ n0 _ h.1 _ h.2 _ (by simp)
    · exact nk _ n0 _ k0 _ k0 _ n0 _ h _ t0 _ (by simp)
    · exact nk _ n0 _ h.2 _ k0 _ n0 _ h.1 _ t0 _ (by simp)
    · exact nk _ n0 _ h.2 _ k0 _ n0 _ h.1 _ t0 _ (by simp)
    · exact nk _ n0 _ k0 _ k0 _ n0 _ h.1 _ h.2 _ (by simp)
  obtain ⟨a, b⟩ := Bool.and_eq_true_iff.mp fin
  exact ⟨a, fun z hz => of_decide_eq_true (List.all_eq_true.mp b z hz)⟩
theorem DRow.rowV {K : PySem.W.Frag} {H : Hp} {rv : V} {rb : Bool} (h : DRow H rv rb) : RowV K H rv rb := by
  obtain ⟨r, ws, rfl, e, h⟩ := h
  have key : ws.length ≤ 1000 ∧ (∀ z ∈ ws, z.length ≤ 100) ∧ rb = isRowL (ws.map V.str) := by
    rcases h with ⟨rfl, q, hq, rfl⟩ | ⟨rfl, rfl | rfl⟩
    · have fr := few_row hq
      exact ⟨Nat.le_trans (show q.ws.length ≤ 10 by cases q <;> simp [Rw.ws]) (by decide), fr.2, fr.1.symm⟩
    · exact ⟨by decide, by decide, by decide +kernel⟩
    · exact ⟨by decide, by decide, by decide +kernel⟩
  refine .inr ⟨r, _, rfl, .inl (.of e), by rw [List.length_map]; exact key.1, fun x hx => ?_, key.2.2⟩
  obtain ⟨z, hz, rfl⟩ := List.mem_map.mp hx
  exact .inl ⟨z, rfl, Nat.le_trans (key.2.1 z hz) (by decide)⟩
/-- all stands but the tables of T and of P3, and the house -/
structure KpT (T : List Addr) (P3 : Addr) (q3 : Str) (x : Addr) (H H' : Hp) : Prop where
  tab : ∀ P ∈ T, TabG H' P
  tl : TabS H' P3 q3
  keep : ∀ b o, H b = some o → b ∉ T → b ≠ P3 → b ≠ x → H' b = some o
theorem KpT.trans {T : List Addr} {P3 : Addr} {q3 : Str} {x : Addr} {H H1 H2 : Hp} (a : KpT T P3 q3 x H H1) (b : KpT T P3 q3 x H1 H2) : KpT T P3 q3 x H H2 := ⟨b.tab, b.tl, fun p o e h n m => b.keep p o (a.keep p o e h n m) h n m⟩
theorem tabS_by {H H' : Hp} {P1 : Addr} {qn : Str} (t : LamX.TabS H P1 qn) (hk : ∀ b o, H b = some o → (b = P1 ∨ ∃ q, o = LamX.CodeO b q) → H' b = some o) : LamX.TabS H' P1 qn := by
  obtain ⟨ps, h1, h2, h3⟩ := t
  refine ⟨ps, hk _ _ h1 (.inl rfl), h2, fun pos cv hc => ?_⟩
  obtain ⟨c, e1, e2⟩ := h3 pos cv hc
  exact ⟨c, e1, hk _ _ e2 (.inr ⟨_, rfl⟩)⟩
theorem codeO_tbl {c : Addr} {q : Str} (ps : Array Value) : LamX.CodeO c q ≠ .tbl ps := fun z => by unfold LamX.CodeO at z; cases z
theorem codeO_ins {c : Addr} {q : Str} {C dx : Addr} {fs : List (Str × V)} : LamX.CodeO c q ≠ .ins C dx fs := fun z => by unfold LamX.CodeO at z; cases z
theorem codeO_lst {c : Addr} {q : Str} {xs : List V} : LamX.CodeO c q ≠ .lst xs := fun z => by unfold LamX.CodeO at z; cases z
theorem tab_not {T : List Addr} {H : Hp} {b : Addr} {o : HO} (ht : ∀ P ∈ T, TabG H P) (e : H b = some o) (n : ∀ ps, o ≠ .tbl ps) : b ∉ T := fun hm => by
  obtain ⟨ps, e2, _⟩ := ht b hm
  rw [e] at e2
  exact n ps (Option.some.inj e2)
theorem KpT.ofX {T : List Addr} {P3 : Addr} {q3 : Str} {x C dx : Addr} {fs : List (Str × V)} {H H' : Hp} (ht : ∀ P ∈ T, TabG H P) (t3 : TabS H P3 q3) (n3 : P3 ∉ T) (hx : H x = some (.ins C dx fs)) (k : KpX T x H H') : KpT T P3 q3 x H H' :=
  ⟨k.tab, tabS_by t3 fun b o e hb => k.keep b o e (by
      rcases hb with rfl | ⟨q, rfl⟩
      · exact n3
      · exact tab_not ht e codeO_tbl) (fun z => by
      rcases hb with rfl | ⟨q, rfl⟩
      · obtain ⟨ps, e2, _⟩ := t3
        rw [z, hx] at e2
        cases e2
      · rw [z, hx] at e
        exact codeO_ins (Option.some.inj e).symm), fun b o e h _ m => k.keep b o e h m⟩
theorem KpT.of0 {T : List Addr} {P3 : Addr} {q3 : Str} {x : Addr} {H H' : Hp} (ht : ∀ P ∈ T, TabG H P) (t3 : TabS H P3 q3) (k : Kept [] H H') : KpT T P3 q3 x H H' :=
  ⟨fun P hP => let ⟨qs, h2, h3⟩ := ht P hP; ⟨qs, k _ _ h2 (by simp), h3⟩, tabS_by t3 fun b o e _ => k b o e (by simp), fun b o e _ _ _ => k b o e (by simp)⟩
theorem KpT.ofL {T : List Addr} {P3 : Addr} {q3 : Str} {x : Addr} {H H' : Hp} (ht : ∀ P ∈ T, TabG H P) (n3 : P3 ∉ T) (e : ∀ b o, H b = some o → b ≠ P3 → H' b = some o) (t3 : TabS H' P3 q3) : KpT T P3 q3 x H H' :=
  ⟨fun P hP => let ⟨qs, h2, h3⟩ := ht P hP; ⟨qs, e _ _ h2 (fun z => n3 (z ▸ hP)), h3⟩, t3, fun b o h _ n _ => e b o h n⟩
/-- a list that was not there is written -/
theorem KpT.put {T : List Addr} {P3 : Addr} {q3 : Str} {x l : Addr} {H H' : Hp} {o : HO} (k : KpT T P3 q3 x H H') (ht : ∀ P ∈ T, TabG H P) (t3 : TabS H P3 q3) (n : H l = none) (e : ∃ xs, H' l = some (.lst xs)) : KpT T P3 q3 x H (upd H' l o) :=
  ⟨fun P hP => by
    obtain ⟨qs, h2, h3⟩ := k.tab P hP
    obtain ⟨qs0, h20, _⟩ := ht P hP
    exact ⟨qs, (upd_ne (ne_of_none h20 n)).trans h2, h3⟩, tabS_by k.tl fun b o e2 hb => by
      obtain ⟨xs, e⟩ := e
      refine (upd_ne fun z => ?_).trans e2
      rw [z, e] at e2
      rcases hb with rfl | ⟨q, rfl⟩
      · obtain ⟨ps, e3, _⟩ := k.tl
        rw [z, e] at e3
        cases e3
      · exact codeO_lst (Option.some.inj e2).symm, fun b u e1 h1 h2 h3 => (upd_ne (ne_of_none e1 n)).trans (k.keep b u e1 h1 h2 h3)⟩
theorem HSx.kpt {T : List Addr} {P3 : Addr} {q3 : Str} {H H' : Hp} {x dx C ak ev a : Addr} {xs : List V} {evs : List Str} {b : Bool} (h : HSx H x dx C ak ev a xs evs b) (ht : ∀ P ∈ T, TabG H P) (t3 : TabS H P3 q3) (e : ∀ b o, H b = some o → b ∉ T → b ≠ P3 → H' b = some o) : HSx H' x dx C ak ev a xs evs b :=
  have g : ∀ {b : Addr} {o : HO}, H b = some o → (∀ ps, o ≠ .tbl ps) → H' b = some o := fun {b o} q n => e b o q (tab_not ht q n) (fun z => by
    obtain ⟨ps, e2, _⟩ := t3
    rw [← z, q] at e2
    exact n ps (Option.some.inj e2))
  ⟨⟨g h.S.ob (fun _ z => nomatch z), g h.S.ev (fun _ z => nomatch z), h.S.le⟩, g h.ask (fun _ z => nomatch z), g h.rows (fun _ z => nomatch z)⟩
abbrev qTold : Str := ("_law_told" : Str) ++ ".<locals>." ++ "<lambda>"
def spLTold (K : PySem.W.Frag) (T : List Addr) (P3 CH : Addr) : Sp := fun vs H Q _ => ∃ (x dx ak ev a d : Addr) (xs : List V) (n : Nat) (k : Dk), vs = [.ref x, .ref d] ∧ HSx H x dx CH ak ev a xs [] true ∧ xs.length ≤ 24 ∧ H d = some (.tup (k.ws n)) ∧ k.ok H ∧ (∀ P ∈ T, TabG H P) ∧ TabS H P3 qTold ∧
  ∀ p a' H', KpT T P3 qTold x H H' → HSx H' x dx CH ak ev a' (dueD xs n k).2 [] true → H' p = some (.tup [.str (dueD xs n k).1.1, (dueD xs n k).1.2]) → Q (.ref p) H'
abbrev toldN : List Str := ["_law_house", "_law_deed_here"]
theorem scLTo : FnScope toldN toldN (defScope lTold) := ⟨rfl, rfl, rfl, by decide +kernel, rfl, by decide +kernel, by decide +kernel⟩
section
variable {P : Program} {w : World} {K : PySem.W.Frag} {mg : Str → Option Value} {base : Heap} {f c P3 gW CA CH CN CR fPu fDr fTe : Addr} {fd fdW fdPu fdDr fdTe : FuncData} {T : List Addr} {cE : Nat → Addr}
theorem ok_ltold (F : FnP K "_law_told" lTold f fd) (hc : fd.code = .ref c) (TB : TabB base mg c P3) (nT : P3 ∉ T)
    (FW : FnP K "_law_word" lWord gW fdW) (gWm : mg "_law_word" = some (.ref gW)) (kW : PySem.W.keepIn K (.ref gW) = true) (bW : L2.Binds K fdW ["_law_work"] []) (WF : WordG K mg CA cE) (CHc : ClsH K CH)
    (mPu : Meth K CH "put" fPu) (FPu : FnOk P w K mg base (L2.CX P w) 6 fPu fdPu ["self", "number", "row"] (spHPut K T CH (cE 4) (cE 0))) (bPu : L2.Binds K fdPu ["self", "number", "row"] [])
    (mDr : Meth K CH "drop" fDr) (FDr : FnOk P w K mg base (L2.CX P w) 6 fDr fdDr ["self", "number"] (spHDrop T CH (cE 4))) (bDr : L2.Binds K fdDr ["self", "number"] [])
    (mTe : Meth K CH "tell" fTe) (FTe : FnOk P w K mg base (L2.CX P w) 6 fTe fdTe ["self", "number", "row"] (spHTell K T CH (cE 4) (cE 0))) (bTe : L2.Binds K fdTe ["self", "number", "row"] []) :
    FnOk P w K mg base CX0 9 f fd toldN (spLTold K T P3 CH) := by
  obtain ⟨woc, wod, wdV, wkV, wdoc, wpm, wan, wcdv, wct, wosl, rfl, wlk, wcd, _, _⟩ := FW.ex
  refine okC F hc scLTo (fun vs H Q E h => ?_) (fun A outer s H vs Q E hr h => ?_)
  · obtain ⟨x, dx, ak, ev, a, d, xs, n, k, rfl, _⟩ := h
    rfl
  · obtain ⟨x, dx, ak, ev, a, d, xs, n, k, rfl, S, hl, hd, hk, ht, t3, q⟩ := h
    refine ⟨_, PSs.nox (pss_cons (ps_if (pt_cmpR op_eq (pe_ix ix_tup (pv 1) pe_int (fun _ _ => rfl)) pe_str (nomark _)) (pss_one (ps_ret (pe_word1 (P := P3) (by rfl) gWm kW wlk wcd bW scW2 rfl (.inl rfl) (word_givesG WF) hr (pe_lamK0 TB rfl (lamSD_by (N := toldN) (by show lamSDB toldN (defScope lTold) _ = true; decide +kernel)).free rfl) (lamSD_by (by show lamSDB toldN (defScope lTold) _ = true; decide +kernel)) ⟨fun _ _ _ _ _ _ => rfl, fun z => nomatch z⟩
          (fun A outer s H E f c' hr' => pe_meth (pv 0) CHc.c mDr FDr hr' bDr .nil (passes_call (takes_of rfl rfl rfl rfl) (fun _ _ _ _ h => h)) (pa_cons (pe_ix (show IxR _ (rIxT K) from ix_tup) (pv 1) pe_int (fun _ _ => rfl)) pa_nil))))) pss_nil)
      (pss_cons (ps_if (pt_cmpR op_eq (pe_ix ix_tup (pv 1) pe_int (fun _ _ => rfl)) pe_str (nomark _)) (pss_one (ps_ret (pe_word1 (P := P3) (by rfl) gWm kW wlk wcd bW scW2 rfl (.inl rfl) (word_givesG WF) hr (pe_lamK0 TB rfl (lamSD_by (N := toldN) (by show lamSDB toldN (defScope lTold) _ = true; decide +kernel)).free rfl) (lamSD_by (by show lamSDB toldN (defScope lTold) _ = true; decide +kernel)) ⟨fun _ _ _ _ _ _ => rfl, fun z => nomatch z⟩
          (fun A outer s H E f c' hr' => pe_meth (pv 0) CHc.c mPu FPu hr' bPu .nil (passes_call (takes_of rfl rfl rfl rfl) (fun _ _ _ _ h => h)) (pa_cons (pe_ix (show IxR _ (rIxT K) from ix_tup) (pv 1) pe_int (fun _ _ => rfl)) (pa_cons (pe_ix (show IxR _ (rIxT K) from ix_tup) (pv 1) pe_int (fun _ _ => rfl)) pa_nil)))))) pss_nil)
      (pss_one (ps_ret (pe_word1 (P := P3) (by rfl) gWm kW wlk wcd bW scW2 rfl (.inl rfl) (word_givesG WF) hr (pe_lamK0 TB rfl (lamSD_by (N := toldN) (by show lamSDB toldN (defScope lTold) _ = true; decide +kernel)).free rfl) (lamSD_by (by show lamSDB toldN (defScope lTold) _ = true; decide +kernel)) ⟨fun _ _ _ _ _ _ => rfl, fun z => nomatch z⟩
          (fun A outer s H E f c' hr' => pe_meth (pv 0) CHc.c mTe FTe hr' bTe .nil (passes_call (takes_of rfl rfl rfl rfl) (fun _ _ _ _ h => h)) (pa_cons (pe_ix (show IxR _ (rIxT K) from ix_tup) (pv 1) pe_int (fun _ _ => rfl)) (pa_cons (pe_ix (show IxR _ (rIxT K) from ix_tup) (pv 1) pe_int (fun _ _ => rfl)) pa_nil)))))))), ?_⟩
    have core : ∀ (H1 : Hp) (lf : Addr), (∀ b o, H b = some o → b ≠ P3 → H1 b = some o) → TabS H1 P3 qTold → H1 lf = none →
        (∀ P ∈ T, TabG (upd H1 lf (.lst [])) P) ∧ HSx (upd H1 lf (.lst [])) x dx CH ak ev a xs [] true ∧ (upd H1 lf (.lst [])) d = some (.tup (k.ws n)) ∧ k.ok (upd H1 lf (.lst [])) ∧
        (∀ (v : V) (H3 : Hp) (a' : Addr), KpX T x (upd H1 lf (.lst [])) H3 → HSx H3 x dx CH ak ev a' (dueD xs n k).2 [] true → (dueD xs n k).1 = (("" : Str), v) → H3 lf = some (.lst []) ∧ ∀ p, upd H3 lf (.lst [v]) p = none → Q (.ref p) (upd (upd H3 lf (.lst [v])) p (.tup [.str "", v]))) ∧
        (∀ (nm : Str) (v : V) (H3 H4 : Hp) (p : Addr), KpX T x (upd H1 lf (.lst [])) H3 → HSx H3 x dx CH ak ev a xs [] true → dueD xs n k = ((nm, v), xs) → Kept [] H3 H4 → H4 p = none → Q (.ref p) (upd H4 p (.tup [.str nm, v]))) := by
      intro H1 lf e1 t31 nlf
      have K01 : KpT T P3 qTold x H H1 := KpT.ofL ht nT e1 t31
      have K02 : KpT T P3 qTold x H (upd H1 lf (.lst [])) := K01.trans (KpT.of0 K01.tab t31 ((Kept.refl H1).upd nlf))
      have nH : H lf = none := by
        cases e : H lf with
        | none => rfl
        | some o =>
          by_cases z : lf = P3
          · obtain ⟨ps, e2, _⟩ := t31
            rw [← z, nlf] at e2
            cases e2
          · rw [e1 lf o e z] at nlf
            cases nlf
      have g2 : ∀ b o, H b = some o → b ≠ P3 → upd H1 lf (.lst []) b = some o := fun b o e n => (upd_ne (ne_of_none (e1 b o e n) nlf)).trans (e1 b o e n)
      have S2 : HSx (upd H1 lf (.lst [])) x dx CH ak ev a xs [] true := S.kpt ht t3 fun b o e _ n => g2 b o e n
      have notP3 : ∀ {b : Addr} {o : HO}, H b = some o → (∀ ps, o ≠ .tbl ps) → b ≠ P3 := fun {b o} e n z => by
        obtain ⟨ps, e2, _⟩ := t3
        rw [← z, e] at e2
        exact n ps (Option.some.inj e2)
      have lfT : lf ∉ T := fun hm => by
        obtain ⟨ps, e2, _⟩ := ht lf hm
        rw [nH] at e2
        cases e2
      have lfx : lf ≠ x := fun z => by
        have e := S.S.ob
        rw [← z, nH] at e
        cases e
      refine ⟨K02.tab, S2, g2 _ _ hd (notP3 hd (fun _ z => nomatch z)), ?_, fun v H3 a' k3 S3 e3 => ?_, fun nm v H3 H4 p k3 S3 e3 k4 np => ?_⟩
      · have g : ∀ {rv : V} {rb : Bool}, DRow H rv rb → DRow (upd H1 lf (.lst [])) rv rb := fun {rv rb} ⟨r, ws, e, er, z⟩ => ⟨r, ws, e, g2 _ _ er (notP3 er (fun _ z => nomatch z)), z⟩
        cases k with
        | put rv rb => exact g (show DRow H rv rb from hk)
        | drop => trivial
        | tell rv rb => exact g (show DRow H rv rb from hk)
      · have el : H3 lf = some (.lst []) := k3.keep lf _ upd_same lfT lfx
        refine ⟨el, fun p np => ?_⟩
        have K3 : KpT T P3 qTold x H H3 := K02.trans (KpT.ofX K02.tab K02.tl nT S2.S.ob k3)
        have K4 : KpT T P3 qTold x H (upd H3 lf (.lst [v])) := K3.put ht t3 nH ⟨_, el⟩
        have old : ∀ {b : Addr} {o : HO}, H b = some o → b ≠ lf := fun {b o} e => ne_of_none e nH
        have S4 : HSx (upd H3 lf (.lst [v])) x dx CH ak ev a' (dueD xs n k).2 [] true := ⟨⟨(upd_ne (Ne.symm lfx)).trans S3.S.ob, (upd_ne (old S.S.ev)).trans S3.S.ev, S3.S.le⟩, (upd_ne (old S.ask)).trans S3.ask, (upd_ne (fun z => by
          have e := S3.rows
          rw [z, el] at e
          cases e)).trans S3.rows⟩
        refine q p a' _ (K4.trans (KpT.of0 K4.tab K4.tl ((Kept.refl _).upd np))) (S4.kept ((Kept.refl _).upd np)) ?_
        rw [upd_same, e3]
      · have K3 : KpT T P3 qTold x H H3 := K02.trans (KpT.ofX K02.tab K02.tl nT S2.S.ob k3)
        have k5 : Kept [] H3 (upd H4 p (.tup [.str nm, v])) := k4.upd np
        refine q p a _ (K3.trans (KpT.of0 K3.tab K3.tl k5)) ?_ ?_
        · rw [e3]
          exact S3.kept k5
        · rw [upd_same, e3]
    cases k with
    | put rv rb =>
      have hd' : H d = some (.tup [.str "put", .int (n : Int), rv]) := hd
      refine ⟨_, rfl, d, _, 0, .str "put", rfl, rfl, .inl (.of hd'), at_of (j := 0) rfl rfl, rfl, _, rfl, iteF ⟨_, rfl, d, _, 0, .str "put", rfl, rfl, .inl (.of hd'), at_of (j := 0) rfl rfl, rfl, _, rfl, iteT ⟨t3, fun H1 e1 t31 lf nlf => ?_⟩⟩⟩
      obtain ⟨ht2, S2, hd2, hk2, good, bad⟩ := core H1 lf e1 t31 nlf
      have hd2 : upd H1 lf (.lst []) d = some (.tup [.str "put", .int (n : Int), rv]) := hd2
      have hk2 : DRow (upd H1 lf (.lst [])) rv rb := hk2
      refine ⟨_, rfl, x, dx, _, rfl, S2.S.ob, rfl, _, rfl, d, _, 1, .int n, rfl, rfl, .inl (.of hd2), at_of (j := 1) rfl rfl, _, rfl, d, _, 2, rv, rfl, rfl, .inl (.of hd2), at_of (j := 2) rfl rfl, x, dx, ak, ev, a, xs, [], true, .int n, rv, rb, rfl, S2, hl, .inl ⟨_, rfl⟩, hk2.rowV, ht2, fun h1 => ?_, fun h1 h2 H3 dd k3 nd => ?_, fun m hm hv hb h24 H3 a' k3 S3 => ?_⟩
      · have hn : xs.length < n := by
          have z : (decide ((0 : Int) ≤ n) && decide ((n : Int) < (xs.length : Int) + 1)) = false := h1
          simp at z
          omega
        have due : dueD xs n (.put rv rb) = ((("norow" : Str), V.non), xs) := if_pos hn
        exact ⟨4, .non, by decide, rfl, .inr ⟨rfl, rfl, rfl⟩, fun H4 p k4 np => bad _ _ _ H4 p (KpX.of ht2 (Kept.refl _)) S2 due k4 np⟩
      · have hn : ¬ xs.length < n := by
          have z : (decide ((0 : Int) ≤ n) && decide ((n : Int) < (xs.length : Int) + 1)) = true := h1
          simp at z
          omega
        have due : dueD xs n (.put rv rb) = ((("row" : Str), V.int n), xs) := by
          unfold dueD
          dsimp only
          rw [if_neg hn, if_pos h2]
        refine ⟨0, .int n, by decide, rfl, .inl ⟨rfl, dd, n, rfl, upd_same, rfl⟩, fun H4 p k4 np => bad _ _ H3 H4 p (.ofKp k3) (S2.kp ht2 k3) due (fun b o e hb => k4 b o ((upd_ne (ne_of_none e nd)).trans e) hb) np⟩
      · have em : m = n := by
          have := V.int.inj hm
          omega
        subst em
        have due : dueD xs m (.put rv rb) = ((("" : Str), V.non), xs.take m ++ rv :: xs.drop m) := by
          unfold dueD
          dsimp only
          rw [if_neg (by omega), if_neg (fun z => z.elim (fun z => by rw [hb] at z; cases z) (by omega))]
        exact good .non H3 a' k3 (by rw [due]; exact S3) (by rw [due])
    | drop =>
      have hd' : H d = some (.tup [.str "drop", .int (n : Int)]) := hd
      refine ⟨_, rfl, d, _, 0, .str "drop", rfl, rfl, .inl (.of hd'), at_of (j := 0) rfl rfl, rfl, _, rfl, iteT ⟨t3, fun H1 e1 t31 lf nlf => ?_⟩⟩
      obtain ⟨ht2, S2, hd2, hk2, good, bad⟩ := core H1 lf e1 t31 nlf
      have hd2 : upd H1 lf (.lst []) d = some (.tup [.str "drop", .int (n : Int)]) := hd2
      refine ⟨_, rfl, x, dx, _, rfl, S2.S.ob, rfl, _, rfl, d, _, 1, .int n, rfl, rfl, .inl (.of hd2), at_of (j := 1) rfl rfl, x, dx, ak, ev, a, xs, [], true, .int n, rfl, S2, hl, .inl ⟨_, rfl⟩, ht2, fun h1 => ?_, fun m v hm hv H3 a' k3 S3 => ?_⟩
      · have hn : xs.length ≤ n := by
          have z : (decide ((0 : Int) ≤ n) && decide ((n : Int) < (xs.length : Int))) = false := h1
          simp at z
          omega
        have due : dueD xs n .drop = ((("norow" : Str), V.non), xs) := by
          unfold dueD
          rw [List.getElem?_eq_none hn]
        exact ⟨4, .non, by decide, rfl, .inr ⟨rfl, rfl, rfl⟩, fun H4 p k4 np => bad _ _ _ H4 p (KpX.of ht2 (Kept.refl _)) S2 due k4 np⟩
      · have em : m = n := by
          have := V.int.inj hm
          omega
        subst em
        have due : dueD xs m .drop = ((("" : Str), v), xs.take m ++ xs.drop (m + 1)) := by
          unfold dueD
          rw [hv]
        exact good v H3 a' k3 (by rw [due]; exact S3) (by rw [due])
    | tell rv rb =>
      have hd' : H d = some (.tup [.str "tell", .int (n : Int), rv]) := hd
      refine ⟨_, rfl, d, _, 0, .str "tell", rfl, rfl, .inl (.of hd'), at_of (j := 0) rfl rfl, rfl, _, rfl, iteF ⟨_, rfl, d, _, 0, .str "tell", rfl, rfl, .inl (.of hd'), at_of (j := 0) rfl rfl, rfl, _, rfl, iteF ⟨t3, fun H1 e1 t31 lf nlf => ?_⟩⟩⟩
      obtain ⟨ht2, S2, hd2, hk2, good, bad⟩ := core H1 lf e1 t31 nlf
      have hd2 : upd H1 lf (.lst []) d = some (.tup [.str "tell", .int (n : Int), rv]) := hd2
      have hk2 : DRow (upd H1 lf (.lst [])) rv rb := hk2
      refine ⟨_, rfl, x, dx, _, rfl, S2.S.ob, rfl, _, rfl, d, _, 1, .int n, rfl, rfl, .inl (.of hd2), at_of (j := 1) rfl rfl, _, rfl, d, _, 2, rv, rfl, rfl, .inl (.of hd2), at_of (j := 2) rfl rfl, x, dx, ak, ev, a, xs, [], true, .int n, rv, rb, rfl, S2, hl, .inl ⟨_, rfl⟩, hk2.rowV, ht2, fun h1 => ?_, fun h1 h2 H3 dd k3 nd => ?_, fun m v hm hv hb H3 a' k3 S3 => ?_⟩
      · have hn : xs.length ≤ n := by
          have z : (decide ((0 : Int) ≤ n) && decide ((n : Int) < (xs.length : Int))) = false := h1
          simp at z
          omega
        have due : dueD xs n (.tell rv rb) = ((("norow" : Str), V.non), xs) := by
          unfold dueD
          dsimp only
          rw [List.getElem?_eq_none hn]
        exact ⟨4, .non, by decide, rfl, .inr ⟨rfl, rfl, rfl⟩, fun H4 p k4 np => bad _ _ _ H4 p (KpX.of ht2 (Kept.refl _)) S2 due k4 np⟩
      · have hn : n < xs.length := by
          have z : (decide ((0 : Int) ≤ n) && decide ((n : Int) < (xs.length : Int))) = true := h1
          simp at z
          omega
        have due : dueD xs n (.tell rv rb) = ((("row" : Str), V.int n), xs) := by
          unfold dueD
          dsimp only
          rw [List.getElem?_eq_getElem hn, h2]
          rfl
        refine ⟨0, .int n, by decide, rfl, .inl ⟨rfl, dd, n, rfl, upd_same, rfl⟩, fun H4 p k4 np => bad _ _ H3 H4 p (.ofKp k3) (S2.kp ht2 k3) due (fun b o e hb => k4 b o ((upd_ne (ne_of_none e nd)).trans e) hb) np⟩
      · have em : m = n := by
          have := V.int.inj hm
          omega
        subst em
        have due : dueD xs m (.tell rv rb) = ((("" : Str), v), xs.take m ++ rv :: xs.drop (m + 1)) := by
          unfold dueD
          dsimp only
          rw [hv, hb]
          rfl
        exact good v H3 a' k3 (by rw [due]; exact S3) (by rw [due])
end
end Ah
end
section
set_option Elab.async false
set_option linter.all false
set_option maxRecDepth 100000
set_option maxHeartbeats 4000000
namespace Ah
open PySem PySem.Spec PyProof.Rows L2 LamX
open GxR (TabG)
/-! ### the law of houses, deed by deed -/
def RowRef (H : Hp) (v : V) : Prop := ∃ (r : Addr) (q : Rw), v = .ref r ∧ q.few ∧ H r = some (.tup (q.ws.map V.str))
theorem due_val {xs : List V} {n : Nat} {k : Dk} : (dueD xs n k).1.2 = .non ∨ (∃ i, (dueD xs n k).1.2 = .int i) ∨ (dueD xs n k).1.2 ∈ xs := by
  cases k with
  | put rv rb =>
    unfold dueD
    dsimp only
    split
    · exact .inl rfl
    · split
      · exact .inr (.inl ⟨_, rfl⟩)
      · exact .inl rfl
  | drop =>
    unfold dueD
    dsimp only
    cases e : xs[n]? with
    | none => exact .inl rfl
    | some v => exact .inr (.inr (List.mem_of_getElem? e))
  | tell rv rb =>
    unfold dueD
    dsimp only
    cases e : xs[n]? with
    | none => exact .inl rfl
    | some v =>
      dsimp only
      split
      · exact .inr (.inr (List.mem_of_getElem? e))
      · exact .inr (.inl ⟨_, rfl⟩)
theorem due_rows {H : Hp} {xs : List V} {n : Nat} {k : Dk} (hk : k.ok H) (hx : ∀ v ∈ xs, RowRef H v) (hl : xs.length ≤ 24) : (∀ v ∈ (dueD xs n k).2, RowRef H v) ∧ (dueD xs n k).2.length ≤ 24 := by
  have new : ∀ {rv : V} {rb : Bool}, DRow H rv rb → rb = true → RowRef H rv := fun {rv rb} ⟨r, ws, e, er, z⟩ hb => by
    rcases z with ⟨_, q, hq, rfl⟩ | ⟨z, _⟩
    · exact ⟨r, q, e, hq, er⟩
    · rw [hb] at z
      cases z
  have tk : ∀ m, ∀ v ∈ xs.take m, RowRef H v := fun m v hv => hx v (List.mem_of_mem_take hv)
  have dr : ∀ m, ∀ v ∈ xs.drop m, RowRef H v := fun m v hv => hx v (List.mem_of_mem_drop hv)
  cases k with
  | put rv rb =>
    unfold dueD
    dsimp only
    split
    · exact ⟨hx, hl⟩
    · split
      · exact ⟨hx, hl⟩
      · rename_i h1 h2
        have hb : rb = true := by
          cases rb with
          | true => rfl
          | false => exact absurd (.inl rfl) h2
        have h24 : xs.length ≠ 24 := fun z => h2 (.inr z)
        refine ⟨fun v hv => ?_, ?_⟩
        · rcases List.mem_append.mp hv with h | h
          · exact tk _ v h
          · rcases List.mem_cons.mp h with rfl | h
            · exact new (show DRow H v rb from hk) hb
            · exact dr _ v h
        · rw [List.length_append, List.length_take, List.length_cons, List.length_drop]
          omega
  | drop =>
    unfold dueD
    dsimp only
    cases e : xs[n]? with
    | none => exact ⟨hx, hl⟩
    | some v =>
      refine ⟨fun v hv => ?_, ?_⟩
      · rcases List.mem_append.mp hv with h | h
        · exact tk _ v h
        · exact dr _ v h
      · show (xs.take n ++ xs.drop (n + 1)).length ≤ 24
        rw [List.length_append, List.length_take, List.length_drop]
        omega
  | tell rv rb =>
    unfold dueD
    dsimp only
    cases e : xs[n]? with
    | none => exact ⟨hx, hl⟩
    | some v =>
      have hn : n < xs.length := (List.getElem?_eq_some_iff.mp e).1
      dsimp only
      split
      · rename_i hb
        refine ⟨fun v hv => ?_, ?_⟩
        · rcases List.mem_append.mp hv with h | h
          · exact tk _ v h
          · rcases List.mem_cons.mp h with rfl | h
            · exact new (show DRow H v rb from hk) hb
            · exact dr _ v h
        · show (xs.take n ++ rv :: xs.drop (n + 1)).length ≤ 24
          rw [List.length_append, List.length_take, List.length_cons, List.length_drop]
          omega
      · exact ⟨hx, hl⟩
theorem RowRef.keep {H H' : Hp} {v : V} (h : RowRef H v) (k : ∀ b xs, H b = some (.tup xs) → H' b = some (.tup xs)) : RowRef H' v := let ⟨r, q, e, hq, er⟩ := h; ⟨r, q, e, hq, k _ _ er⟩
theorem at_refl {K : PySem.W.Frag} {H : Hp} {n : Nat} : ∀ {xs : List V}, (∀ x ∈ xs, At K H n x x) → Paired (At K H n) xs xs
  | [], _ => .nil
  | x :: xs, h => .cons (h x (by simp)) (at_refl fun y hy => h y (List.mem_cons_of_mem _ hy))
theorem at_row {K : PySem.W.Frag} {H : Hp} {v : V} (h : RowRef H v) : At K H 1 v v := by
  obtain ⟨r, q, rfl, hq, er⟩ := h
  refine .inr ⟨r, r, _, _, rfl, rfl, .inl ⟨.inl (.of er), .inl (.of er)⟩, ?_, at_refl fun z hz => ?_⟩
  · rw [List.length_map]
    exact Nat.le_trans (show q.ws.length ≤ 10 by cases q <;> simp [Rw.ws]) (by decide)
  · obtain ⟨y, _, rfl⟩ := List.mem_map.mp hz
    exact ⟨rfl, trivial⟩
theorem at_rows {K : PySem.W.Frag} {H : Hp} {a b : Addr} {xs : List V} (ha : H a = some (.tup xs)) (hb : H b = some (.tup xs)) (hl : xs.length ≤ 24) (h : ∀ v ∈ xs, RowRef H v) : At K H 2 (.ref a) (.ref b) :=
  .inr ⟨a, b, _, _, rfl, rfl, .inl ⟨.inl (.of ha), .inl (.of hb)⟩, Nat.le_trans hl (by decide), at_refl fun v hv => at_row (h v hv)⟩
theorem at_told {K : PySem.W.Frag} {H : Hp} {p q : Addr} {z : Str} {v : V} (hp : H p = some (.tup [.str z, v])) (hq : H q = some (.tup [.str z, v])) (hv : v = .non ∨ (∃ i, v = .int i) ∨ RowRef H v) : At K H 2 (.ref p) (.ref q) := by
  refine .inr ⟨p, q, _, _, rfl, rfl, .inl ⟨.inl (.of hp), .inl (.of hq)⟩, by show (2 : Nat) ≤ 1000000; decide, .cons (.inl ⟨rfl, trivial⟩) (.cons ?_ .nil)⟩
  rcases hv with rfl | ⟨i, rfl⟩ | h
  · exact .inl ⟨rfl, trivial⟩
  · exact .inl ⟨rfl, trivial⟩
  · exact at_row h
abbrev qLaw : Str := ("law" : Str) ++ ".<locals>." ++ "<lambda>"
/-- all that the law's loop keeps -/
structure LSt (K : PySem.W.Frag) (T : List Addr) (P2 P3 CH p sc : Addr) (ns : List Int) (wl x dx ak ev a b : Addr) (xs ys : List V) (H : Hp) : Prop where
  S : StAt K H p sc ns
  HS : HSx H x dx CH ak ev a xs [] true
  hw : H wl = some (.lst [.ref b])
  hb : H b = some (.tup ys)
  rows : ∀ v ∈ xs, RowRef H v
  rowsY : ∀ v ∈ ys, RowRef H v
  len : xs.length ≤ 24
  lenY : ys.length ≤ 24
  ht : ∀ P ∈ T, TabG H P
  t2 : TabS H P2 qLaw
  t3 : TabS H P3 qTold
structure LNe (p wl ak ev : Addr) : Prop where
  pw : p ≠ wl
  ap : ak ≠ p
  ep : ev ≠ p
  aw : ak ≠ wl
  ew : ev ≠ wl
section
variable {K : PySem.W.Frag} {T : List Addr} {P2 P3 CH p sc : Addr} {ns : List Int} {wl x dx ak ev a b : Addr} {xs ys : List V} {H H' : Hp}
theorem tabs_m {M : List Addr} {P1 : Addr} {qn : Str} (t : LamX.TabS H P1 qn) (k : Kept M H H') (hM : ∀ b ∈ M, ∃ xs, H b = some (.lst xs)) : LamX.TabS H' P1 qn := tabS_by t fun b o e hb => k b o e fun hm => by
  obtain ⟨xs, h⟩ := hM b hm
  rcases hb with rfl | ⟨q, rfl⟩
  · obtain ⟨ps, e2, _⟩ := t
    rw [h] at e2
    cases e2
  · rw [h] at e
    exact codeO_lst (Option.some.inj e).symm
theorem tabg_m {M : List Addr} (t : ∀ P ∈ T, TabG H P) (k : Kept M H H') (hM : ∀ b ∈ M, ∃ xs, H b = some (.lst xs)) : ∀ P ∈ T, TabG H' P := fun P hP => by
  obtain ⟨qs, h2, h3⟩ := t P hP
  refine ⟨qs, k _ _ h2 (fun hm => ?_), h3⟩
  obtain ⟨xs, h⟩ := hM P hm
  rw [h2] at h
  cases h
theorem tup_m {M : List Addr} (k : Kept M H H') (hM : ∀ b ∈ M, ∃ xs, H b = some (.lst xs)) : ∀ b ys, H b = some (.tup ys) → H' b = some (.tup ys) := fun b ys e => k b _ e fun hm => by
  obtain ⟨xs, h⟩ := hM b hm
  rw [e] at h
  cases h
/-- behind a draw -/
theorem LSt.draw (L : LSt K T P2 P3 CH p sc ns wl x dx ak ev a b xs ys H) (N : LNe p wl ak ev) (S' : StAt K H' p sc ns) (k : Kept [p] H H') : LSt K T P2 P3 CH p sc ns wl x dx ak ev a b xs ys H' :=
  have hM := stAt_ob L.S
  ⟨S', ⟨⟨k _ _ L.HS.S.ob (fun hm => by
    obtain ⟨ys, h⟩ := hM _ hm
    rw [L.HS.S.ob] at h
    cases h), k _ _ L.HS.S.ev (by simpa using N.ep), L.HS.S.le⟩, k _ _ L.HS.ask (by simpa using N.ap), tup_m k hM _ _ L.HS.rows⟩, k _ _ L.hw (by simpa using Ne.symm N.pw), tup_m k hM _ _ L.hb, fun v hv => (L.rows v hv).keep (tup_m k hM), fun v hv => (L.rowsY v hv).keep (tup_m k hM), L.len, L.lenY, tabg_m L.ht k hM, tabs_m L.t2 k hM, tabs_m L.t3 k hM⟩
theorem stAt_m {M : List Addr} (S : StAt K H p sc ns) (k : Kept M H H') (hp : p ∉ M) (hs : ∀ o, (∀ xs, o ≠ .lst xs) → H sc = some o → sc ∉ M) (hl : H sc = some (.lst (ns.map V.int)) → H' sc = some (.lst (ns.map V.int))) : StAt K H' p sc ns := by
  obtain ⟨i, r, m, h, h1, h2, h3⟩ := S
  refine ⟨i, r, m, k _ _ h hp, h1, h2, ?_⟩
  rcases h3 with (h3 | ⟨o, h3⟩) | h3
  · exact .inl (.inl (hl h3))
  · exact .inl (.inr ⟨o, k _ _ h3 (hs (.frz o (.lst (ns.map V.int))) (fun _ z => nomatch z) h3)⟩)
  · exact .inr h3
theorem LSt.k0 (L : LSt K T P2 P3 CH p sc ns wl x dx ak ev a b xs ys H) (k : Kept [] H H') : LSt K T P2 P3 CH p sc ns wl x dx ak ev a b xs ys H' :=
  have hM : ∀ b ∈ ([] : List Addr), ∃ xs, H b = some (.lst xs) := fun b hb => absurd hb (by simp)
  ⟨stAt_m L.S k (by simp) (fun _ _ _ => by simp) (fun e => k _ _ e (by simp)), L.HS.kept k, k _ _ L.hw (by simp), k _ _ L.hb (by simp), fun v hv => (L.rows v hv).keep (tup_m k hM), fun v hv => (L.rowsY v hv).keep (tup_m k hM), L.len, L.lenY, tabg_m L.ht k hM, tabs_m L.t2 k hM, tabs_m L.t3 k hM⟩
/-- behind what the law does itself -/
theorem LSt.done {b' : Addr} {zs : List V} (L : LSt K T P2 P3 CH p sc ns wl x dx ak ev a b xs ys H) (N : LNe p wl ak ev) (k : Kept [wl] H H') (hw' : H' wl = some (.lst [.ref b'])) (hb' : H' b' = some (.tup zs)) (hz : ∀ v ∈ zs, RowRef H v) (lz : zs.length ≤ 24) :
    LSt K T P2 P3 CH p sc ns wl x dx ak ev a b' xs zs H' :=
  have hM : ∀ b ∈ [wl], ∃ xs, H b = some (.lst xs) := fun b hb => by rw [List.mem_singleton.mp hb]; exact ⟨_, L.hw⟩
  ⟨stAt_m L.S k (by simpa using N.pw) (fun o n e hm => by
      rw [List.mem_singleton.mp hm, L.hw] at e
      exact n _ (Option.some.inj e).symm) (fun e => k _ _ e (fun hm => by
      rw [List.mem_singleton.mp hm, L.hw] at e
      have z := HO.lst.inj (Option.some.inj e)
      cases ns with
      | nil => cases z
      | cons n ns => cases z)), ⟨⟨k _ _ L.HS.S.ob (fun hm => by
      have e := L.HS.S.ob
      rw [List.mem_singleton.mp hm, L.hw] at e
      cases e), k _ _ L.HS.S.ev (by simpa using N.ew), L.HS.S.le⟩, k _ _ L.HS.ask (by simpa using N.aw), tup_m k hM _ _ L.HS.rows⟩, hw', hb', fun v hv => (L.rows v hv).keep (tup_m k hM), fun v hv => (hz v hv).keep (tup_m k hM), L.len, lz, tabg_m L.ht k hM, tabs_m L.t2 k hM, tabs_m L.t3 k hM⟩
/-- behind what the house does -/
theorem LSt.told {a' : Addr} {zs : List V} (L : LSt K T P2 P3 CH p sc ns wl x dx ak ev a b xs ys H) (n23 : P2 ≠ P3) (n2 : P2 ∉ T) (k : KpT T P3 qTold x H H') (hs' : HSx H' x dx CH ak ev a' zs [] true) (hz : ∀ v ∈ zs, RowRef H v) (lz : zs.length ≤ 24) :
    LSt K T P2 P3 CH p sc ns wl x dx ak ev a' b zs ys H' :=
  have hx := L.HS.S.ob
  have g : ∀ {b : Addr} {o : HO}, H b = some o → (∀ ps, o ≠ .tbl ps) → (∀ C dx fs, o ≠ .ins C dx fs) → H' b = some o := fun {b o} e n m => k.keep b o e (tab_not L.ht e n) (fun z => by
    obtain ⟨ps, e2, _⟩ := L.t3
    rw [← z, e] at e2
    exact n ps (Option.some.inj e2)) (fun z => by
    rw [z, hx] at e
    exact m _ _ _ (Option.some.inj e).symm)
  ⟨by
    obtain ⟨i, r, m, h, h1, h2, h3⟩ := L.S
    refine ⟨i, r, m, g h (fun _ z => nomatch z) (fun _ _ _ z => nomatch z), h1, h2, ?_⟩
    rcases h3 with (h3 | ⟨o, h3⟩) | h3
    · exact .inl (.inl (g h3 (fun _ z => nomatch z) (fun _ _ _ z => nomatch z)))
    · exact .inl (.inr ⟨o, g h3 (fun _ z => nomatch z) (fun _ _ _ z => nomatch z)⟩)
    · exact .inr h3, hs', g L.hw (fun _ z => nomatch z) (fun _ _ _ z => nomatch z), g L.hb (fun _ z => nomatch z) (fun _ _ _ z => nomatch z), fun v hv => (hz v hv).keep fun _ _ e => g e (fun _ z => nomatch z) (fun _ _ _ z => nomatch z), fun v hv => (L.rowsY v hv).keep fun _ _ e => g e (fun _ z => nomatch z) (fun _ _ _ z => nomatch z), lz, L.lenY, k.tab,
    tabS_by L.t2 fun b o e hb => by
      rcases hb with rfl | ⟨q, rfl⟩
      · obtain ⟨ps, e2, _⟩ := id L.t2
        refine k.keep _ _ e n2 n23 (fun z => ?_)
        rw [z, hx] at e2
        cases e2
      · exact g e codeO_tbl (fun _ _ _ => codeO_ins), k.tl⟩
/-- ahead of the house -/
structure PSt (K : PySem.W.Frag) (T : List Addr) (P2 P3 p sc : Addr) (ns : List Int) (wl b : Addr) (ys : List V) (H : Hp) : Prop where
  S : StAt K H p sc ns
  hw : H wl = some (.lst [.ref b])
  hb : H b = some (.tup ys)
  rowsY : ∀ v ∈ ys, RowRef H v
  lenY : ys.length ≤ 24
  ht : ∀ P ∈ T, TabG H P
  t2 : TabS H P2 qLaw
  t3 : TabS H P3 qTold
  pw : p ≠ wl
theorem PSt.draw (L : PSt K T P2 P3 p sc ns wl b ys H) (S' : StAt K H' p sc ns) (k : Kept [p] H H') : PSt K T P2 P3 p sc ns wl b ys H' :=
  have hM := stAt_ob L.S
  ⟨S', k _ _ L.hw (by simpa using Ne.symm L.pw), tup_m k hM _ _ L.hb, fun v hv => (L.rowsY v hv).keep (tup_m k hM), L.lenY, tabg_m L.ht k hM, tabs_m L.t2 k hM, tabs_m L.t3 k hM, L.pw⟩
theorem rows_refs {H : Hp} {ps : List Addr} {rs : List Rw} (r : Paired (fun a r => H a = some (.tup ((Rw.ws r).map V.str))) ps rs) (hf : ∀ r ∈ rs, r.few) : ∀ v ∈ ps.map V.ref, RowRef H v := fun v hv => by
  obtain ⟨a, ha, rfl⟩ := List.mem_map.mp hv
  obtain ⟨i, hi⟩ := List.mem_iff_getElem?.mp ha
  obtain ⟨r', er, hr1⟩ := paired_at r hi
  exact ⟨a, r', rfl, hf _ (List.mem_of_getElem? er), hr1⟩
theorem RowRef.rowV {K : PySem.W.Frag} {H : Hp} {v : V} (h : RowRef H v) : RowV K H v true := by
  obtain ⟨r, q, e, hq, er⟩ := h
  exact DRow.rowV ⟨r, q.ws, e, er, .inl ⟨rfl, q, hq, rfl⟩⟩
/-- a lambda was made -/
theorem LSt.lam (L : LSt K T P2 P3 CH p sc ns wl x dx ak ev a b xs ys H) (n23 : P2 ≠ P3) (n2 : P2 ∉ T) (e : ∀ b o, H b = some o → b ≠ P2 → H' b = some o) (t2' : TabS H' P2 qLaw) : LSt K T P2 P3 CH p sc ns wl x dx ak ev a b xs ys H' :=
  have g : ∀ {b : Addr} {o : HO}, H b = some o → (∀ ps, o ≠ .tbl ps) → H' b = some o := fun {b o} h n => e b o h (fun z => by
    obtain ⟨ps, e2, _⟩ := L.t2
    rw [← z, h] at e2
    exact n ps (Option.some.inj e2))
  ⟨by
    obtain ⟨i, r, m, h, h1, h2, h3⟩ := L.S
    refine ⟨i, r, m, g h (fun _ z => nomatch z), h1, h2, ?_⟩
    rcases h3 with (h3 | ⟨o, h3⟩) | h3
    · exact .inl (.inl (g h3 (fun _ z => nomatch z)))
    · exact .inl (.inr ⟨o, g h3 (fun _ z => nomatch z)⟩)
    · exact .inr h3, ⟨⟨g L.HS.S.ob (fun _ z => nomatch z), g L.HS.S.ev (fun _ z => nomatch z), L.HS.S.le⟩, g L.HS.ask (fun _ z => nomatch z), g L.HS.rows (fun _ z => nomatch z)⟩, g L.hw (fun _ z => nomatch z), g L.hb (fun _ z => nomatch z), fun v hv => (L.rows v hv).keep fun _ _ e => g e (fun _ z => nomatch z), fun v hv => (L.rowsY v hv).keep fun _ _ e => g e (fun _ z => nomatch z), L.len, L.lenY,
    fun P hP => let ⟨qs, h2, h3⟩ := L.ht P hP; ⟨qs, e _ _ h2 (fun z => n2 (z ▸ hP)), h3⟩, t2', tabS_by L.t3 fun b o h hb => by
      rcases hb with rfl | ⟨q, rfl⟩
      · exact e _ _ h (Ne.symm n23)
      · exact g h codeO_tbl⟩
abbrev dNo : PyData := .tuple [.str "norow", .none]
theorem sh_no : SeqAt.shaped dNo = true := by decide +kernel
theorem eq_no : PyData.eqv dNo dNo = true := by decide +kernel
theorem dp_no {q : Addr} (h : H q = some (.tup [.str "norow", .non])) : Dp K H (.ref q) dNo := .tup (.inl (.of h)) (.cons (.str _) (.cons .non .nil))
theorem sh_nil : SeqAt.shaped (.list []) = true := by decide +kernel
theorem eq_nil : PyData.eqv (.list []) (.list []) = true := by decide +kernel
theorem LamAt.of {q : Str} {params : Arguments} {body : Expr} {scope : Scope} {clo : List (Str × Addr)} {tup : Bool} {f P : Addr} (h : LamAt H q params body scope clo tup f) (e : ∀ b o, H b = some o → b ≠ P → H' b = some o) (t : TabS H P q) : LamAt H' q params body scope clo tup f :=
  h.keep fun b o h n _ => e b o h (fun z => by
    obtain ⟨ps, e2, _⟩ := t
    rw [← z, h] at e2
    exact n ps (Option.some.inj e2))
end
end Ah
end
section
set_option Elab.async false
set_option linter.all false
set_option maxRecDepth 100000
set_option maxHeartbeats 2000000
namespace Ah
open PySem PySem.Spec PyProof.Rows L2 LamX
open GxR (TabG)
abbrev lawN : List Str := ["_law_script", "_law_row_here", "_law_w", "_law_house", "_law_turn", "_law_deed_here", "_law_due", "_law_far", "_law_number", "_law_works", "_law_k", "_law_work"]
theorem scLaw : FnScope lawN ["_law_script"] (defScope lLaw) := ⟨rfl, rfl, rfl, by decide +kernel, rfl, by decide +kernel, by decide +kernel⟩
def worksL : List Expr := match defBody lLaw with
  | _ :: _ :: _ :: _ :: _ :: _ :: _ :: .Assign _ (.List es _) _ :: _ => es
  | _ => []
def lamP (i : Nat) : Arguments := match worksL[i]? with
  | some (.Lambda p _ _ _) => p
  | _ => defArgs lLaw
def lamB (i : Nat) : Expr := match worksL[i]? with
  | some (.Lambda _ b _ _) => b
  | _ => .Name "none" ⟨0, 0, 0, 0⟩
def lamS (i : Nat) : Scope := match worksL[i]? with
  | some (.Lambda _ _ s _) => s
  | _ => defScope lLaw
theorem lamS_ok0 : lamSDB lawN (defScope lLaw) (lamS 0) = true := by decide +kernel
theorem lamS_ok1 : lamSDB lawN (defScope lLaw) (lamS 1) = true := by decide +kernel
theorem lamS_ok2 : lamSDB lawN (defScope lLaw) (lamS 2) = true := by decide +kernel
def lawLs (K : PySem.W.Frag) (CH : Addr) (T : List Addr) (cE : Nat → Addr) : List LamE := [⟨lamP 0, lamB 0, lamS 0, false, fun E => tMeth CH "put" (spHPut K T CH (cE 4) (cE 0)) [] E (tVar 3) (tCons (tVar 8) (tCons (tC (.int 5)) tNil))⟩,
  ⟨lamP 1, lamB 1, lamS 1, true, fun E => tMeth CH "drop" (spHDrop T CH (cE 4)) [] E (tVar 3) (tCons (tVar 8) tNil)⟩,
  ⟨lamP 2, lamB 2, lamS 2, true, fun E => tMeth CH "tell" (spHTell K T CH (cE 4) (cE 0)) [] E (tVar 3) (tCons (tVar 8) (tCons (tC (.int 5)) tNil))⟩]
def spLaw (K : PySem.W.Frag) (T : List Addr) (P2 P3 : Addr) : Sp := fun vs H Q _ => ∃ (a : Addr) (ns : List Int), vs = [.ref a] ∧ SqL K H a (ns.map V.int) ∧ ns.length ≤ 63 ∧ (∀ P ∈ T, GxR.TabG H P) ∧ LamX.TabS H P2 qLaw ∧ LamX.TabS H P3 qTold ∧ ∀ H', Q (.bl true) H'
theorem num_in {n : Nat} {m : Int} (h : (n : Int) < m) : ¬ isNumL m (.int (n : Int)) = false := fun z => by
  have z : (decide ((0 : Int) ≤ n) && decide ((n : Int) < m)) = false := z
  simp at z
  omega
section
variable {P : Program} {w : World} {K : PySem.W.Frag} {mg : Str → Option Value} {base : Heap} {f c P2 P3 f1 f2 f3 f4 f5 f6 f7 f9 gW CA CH fHI fPu fDr fTe fTx fTo fKe fId : Addr} {fd fd1 fd2 fd3 fd4 fd5 fd6 fd7 fd9 fdW fdHI fdPu fdDr fdTe fdTx fdTo fdKe fdId : FuncData} {T : List Addr} {cE : Nat → Addr}
theorem ok_law (F : FnP K "law" lLaw f fd) (hc : fd.code = .ref c) (TB : TabB base mg c P2) (nT2 : P2 ∉ T) (nT3 : P3 ∉ T) (n23 : P2 ≠ P3) (B : Bl mg) (cRow : Own P w K mg base "_law_row" 1 f1 fd1 ["_law_script"] (spLRow K)) (cText : Own P w K mg base "_law_text" 3 f2 fd2 ["_law_row_here", "_law_many"] (spText K))
    (cTaken : Own P w K mg base "_law_taken" 1 f3 fd3 ["_law_row_here", "_law_many"] (spTaken K)) (cOne : Own P w K mg base "_law_one" 2 f4 fd4 ["_law_row_here"] (spOne K)) (cDeed : Own P w K mg base "_law_deed" 3 f5 fd5 ["_law_row_here", "_law_many"] (spLDeed K)) (cDone : Own P w K mg base "_law_done" 1 f6 fd6 ["_law_w", "_law_deed_here"] (spLDone K))
    (cTold : Own P w K mg base "_law_told" 9 f7 fd7 ["_law_house", "_law_deed_here"] (spLTold K T P3 CH)) (cAlike : Own P w K mg base "_law_alike" 3 f9 fd9 ["_law_found", "_law_due"] (spAlike K 3))
    (FW : FnP K "_law_word" lWord gW fdW) (gWm : mg "_law_word" = some (.ref gW)) (kW : PySem.W.keepIn K (.ref gW) = true) (bW : L2.Binds K fdW ["_law_work"] []) (WF : WordG K mg CA cE) (CHc : ClsH K CH) (M : Mk K CH fHI) (gH : mg "House" = some (.ref CH)) (FHI : FnOk P w K mg base CX0 7 fHI fdHI ["self", "rows"] (spHI2 K T CH)) (bHI : L2.Binds K fdHI ["self", "rows"] [])
    (mPu : Meth K CH "put" fPu) (FPu : FnOk P w K mg base (L2.CX P w) 6 fPu fdPu ["self", "number", "row"] (spHPut K T CH (cE 4) (cE 0))) (bPu : L2.Binds K fdPu ["self", "number", "row"] [])
    (mDr : Meth K CH "drop" fDr) (FDr : FnOk P w K mg base (L2.CX P w) 6 fDr fdDr ["self", "number"] (spHDrop T CH (cE 4))) (bDr : L2.Binds K fdDr ["self", "number"] [])
    (mTe : Meth K CH "tell" fTe) (FTe : FnOk P w K mg base (L2.CX P w) 6 fTe fdTe ["self", "number", "row"] (spHTell K T CH (cE 4) (cE 0))) (bTe : L2.Binds K fdTe ["self", "number", "row"] [])
    (mTx : Meth K CH "text" fTx) (FTx : FnOk P w K mg base CX0 1 fTx fdTx ["self"] (spHNo CH fun rv _ _ => rv)) (bTx : L2.Binds K fdTx ["self"] [])
    (mTo : Meth K CH "told" fTo) (FTo : FnOk P w K mg base CX0 1 fTo fdTo ["self"] (spHTold CH)) (bTo : L2.Binds K fdTo ["self"] [])
    (mKe : Meth K CH "kept" fKe) (FKe : FnOk P w K mg base CX0 1 fKe fdKe ["self"] (spHKept CH)) (bKe : L2.Binds K fdKe ["self"] [])
    (mId : Meth K CH "is_idle" fId) (FId : FnOk P w K mg base CX0 1 fId fdId ["self"] (spHNo CH fun _ _ b => .bl b)) (bId : L2.Binds K fdId ["self"] []) :
    FnOk P w K mg base CX0 10 f fd ["_law_script"] (spLaw K T P2 P3) := by
  obtain ⟨woc, wod, wdV, wkV, wdoc, wpm, wan, wcdv, wct, wosl, rfl, wlk, wcd, _, _⟩ := FW.ex
  refine okC F hc scLaw (fun vs H Q E h => ?_) (fun A outer s H vs Q E hr h => ?_)
  · obtain ⟨a, ns, rfl, _⟩ := h
    rfl
  · obtain ⟨sc, ns, rfl, hs, hl, ht, t2, t3, k⟩ := h
    have hLs : ∀ d ∈ lawLs K CH T cE, LamOk (cxOf CX0 P w K mg base lawN "law" (defScope lLaw) f (.ref c) A outer s H E).nox 6 d := by
      intro d hd
      unfold lawLs at hd
      simp only [List.mem_cons, List.not_mem_nil, or_false] at hd
      rcases hd with rfl | rfl | rfl
      · exact ⟨lamSD_by (lamS_ok0), ⟨fun _ _ _ _ _ _ => rfl, fun z => nomatch z⟩, fun A1 outer1 s1 H1 E1 f1' c1' hr' => pe_meth (X := (lamCx (cxOf CX0 P w K mg base lawN "law" (defScope lLaw) f (.ref c) A outer s H E).nox A1 outer1 s1 H1 E1 (lamS 0) f1' c1')) (pv 3) CHc.c mPu FPu hr' bPu .nil (passes_call (takes_of rfl rfl rfl rfl) (fun _ _ _ _ h => h)) (pa_cons (pv 8) (pa_cons pe_int pa_nil))⟩
      · exact ⟨lamSD_by (lamS_ok1), ⟨(fun z => nomatch z), fun _ => ⟨_, rfl, fun _ _ _ _ _ _ => ⟨_, rfl, fun _ => rfl⟩⟩⟩, fun A1 outer1 s1 H1 E1 f1' c1' hr' => pe_meth (X := (lamCx (cxOf CX0 P w K mg base lawN "law" (defScope lLaw) f (.ref c) A outer s H E).nox A1 outer1 s1 H1 E1 (lamS 1) f1' c1')) (pv 3) CHc.c mDr FDr hr' bDr .nil (passes_call (takes_of rfl rfl rfl rfl) (fun _ _ _ _ h => h)) (pa_cons (pv 8) pa_nil)⟩
      · exact ⟨lamSD_by (lamS_ok2), ⟨(fun z => nomatch z), fun _ => ⟨_, rfl, fun _ _ _ _ _ _ => ⟨_, rfl, fun _ => rfl⟩⟩⟩, fun A1 outer1 s1 H1 E1 f1' c1' hr' => pe_meth (X := (lamCx (cxOf CX0 P w K mg base lawN "law" (defScope lLaw) f (.ref c) A outer s H E).nox A1 outer1 s1 H1 E1 (lamS 2) f1' c1')) (pv 3) CHc.c mTe FTe hr' bTe .nil (passes_call (takes_of rfl rfl rfl rfl) (fun _ _ _ _ h => h)) (pa_cons (pv 8) (pa_cons pe_int pa_nil))⟩
    refine ⟨_, PSs.nox (pss_cons (ps_set (i := 1) scLaw.nd rfl (.inr rfl) (pe_call cRow.ok (hr.mono (by decide)) (by rfl) cRow.g cRow.kp cRow.b .nil pass0 (pa_cons (pv 0) pa_nil)))
      (pss_cons (ps_set (i := 2) scLaw.nd rfl (.inl rfl) (pe_lst (pa_cons (pe_call cText.ok (hr.mono (by decide)) (by rfl) cText.g cText.kp cText.b .nil pass0 (pa_cons (pv 1) (pa_cons pe_int pa_nil))) pa_nil)))
      (Evl.pss_cut (ps_if (pt_cmpR op_eq (pe_call cTaken.ok (hr.mono (by decide)) (by rfl) cTaken.g cTaken.kp cTaken.b .nil pass0 (pa_cons (pv 1) (pa_cons pe_int pa_nil))) pe_int (nomark _)) (pss_one (ps_set (i := 2) scLaw.nd rfl (.inl rfl) (pe_lst (pa_cons (pe_callTy call_tuple_of (by rfl) B.tuple_ (by decide +kernel) (pa_cons (pe_lc (own := [("_law_k", 10)]) (g := gName 10) (tt := tYes) rfl scLaw.nd (pi_range1 (by rfl) B.range_ (pa_cons (pe_op op_add pe_int (pe_call cTaken.ok (hr.mono (by decide)) (by rfl) cTaken.g cTaken.kp cTaken.b .nil pass0 (pa_cons (pv 1) (pa_cons pe_int pa_nil)))) pa_nil)) (blkOk_by (N := lawN) (sc := defScope lLaw) (by decide +kernel)) (fun _ _ _ _ _ => pg_name (i := 10) scLaw.nd rfl (Or.inl rfl)) (fun _ _ _ _ _ => pts_nil) (fun _ _ _ _ _ => (pe_call cOne.ok (hr.mono (by decide)) (by rfl) cOne.g cOne.kp cOne.b .nil pass0 (pa_cons (pv 1) pa_nil)))) pa_nil)) pa_nil)))) pss_nil)
      (Evl.pss_cut (ps_set (i := 3) scLaw.nd rfl (.inr rfl) (pe_make M FHI (hr.mono (by decide)) (by rfl) gH bHI .nil pass0 (pa_cons (pe_ix (show IxR _ (rIxL K) from ix_list) (pv 2) pe_int (fun _ _ => rfl)) pa_nil)))
      (Evl.pss_cut (ps_for PassesOwn.never rfl (pi_range1 (by rfl) B.range_ (pa_cons pe_int pa_nil)) (pg_name (i := 4) scLaw.nd rfl (Or.inl rfl))
      (pss_cons (ps_set (i := 5) scLaw.nd rfl (.inl rfl) (pe_call cDeed.ok (hr.mono (by decide)) (by rfl) cDeed.g cDeed.kp cDeed.b .nil pass0 (pa_cons (pv 1) (pa_cons (pe_callB call_len_seq (by rfl) B.len_ (by decide +kernel) (pa_cons (pe_ix (show IxR _ (rIxL K) from ix_list) (pv 2) pe_int (fun _ _ => rfl)) pa_nil)) pa_nil))))
      (pss_cons (ps_set (i := 6) scLaw.nd rfl (.inl rfl) (pe_call cDone.ok (hr.mono (by decide)) (by rfl) cDone.g cDone.kp cDone.b .nil pass0 (pa_cons (pv 2) (pa_cons (pv 5) pa_nil))))
      (pss_one (ps_if (PW.pt (pw_or (pt_not (pt_val (pe_call cAlike.ok (hr.mono (by decide)) (by rfl) cAlike.g cAlike.kp cAlike.b .nil pass0 (pa_cons (pe_call cTold.ok hr (by rfl) cTold.g cTold.kp cTold.b .nil pass0 (pa_cons (pv 3) (pa_cons (pv 5) pa_nil))) (pa_cons (pv 6) pa_nil))))) (pw_or1 (pt_not (pt_val (pe_call cAlike.ok (hr.mono (by decide)) (by rfl) cAlike.g cAlike.kp cAlike.b .nil pass0 (pa_cons (pe_meth0 (pv 3) CHc.c mTx FTx (hr.mono (by decide)) bTx .nil pass0) (pa_cons (pe_ix (show IxR _ (rIxL K) from ix_list) (pv 2) pe_int (fun _ _ => rfl)) pa_nil)))))))) (pss_one (ps_ret pe_bl)) pss_nil)))))
      (pss_cons (ps_set (i := 7) scLaw.nd rfl (.inl rfl) (pe_op op_mul (pe_call cTaken.ok (hr.mono (by decide)) (by rfl) cTaken.g cTaken.kp cTaken.b .nil pass0 (pa_cons (pv 1) (pa_cons pe_int pa_nil))) (pe_call cTaken.ok (hr.mono (by decide)) (by rfl) cTaken.g cTaken.kp cTaken.b .nil pass0 (pa_cons (pv 1) (pa_cons pe_int pa_nil)))))
      (Evl.pss_cut (ps_set (i := 8) scLaw.nd rfl (.inr rfl) (pe_ix (show IxR _ (rIxL K) from ix_list) (pe_lst (pa_cons (pe_op op_add (pe_op op_add (pe_callB call_len_seq (by rfl) B.len_ (by decide +kernel) (pa_cons (pe_ix (show IxR _ (rIxL K) from ix_list) (pv 2) pe_int (fun _ _ => rfl)) pa_nil)) pe_int) (pv 7)) (pa_cons (pe_op op_sub (pe_op op_sub pe_int pe_int) (pv 7)) (pa_cons pe_non (pa_cons pe_bl (pa_cons pe_str pa_nil)))))) (pe_call cTaken.ok (hr.mono (by decide)) (by rfl) cTaken.g cTaken.kp cTaken.b .nil pass0 (pa_cons (pv 1) (pa_cons pe_int pa_nil))) (fun _ _ => rfl)))
      (Evl.pss_cut (ps_set (i := 9) scLaw.nd rfl (.inl rfl) (pe_lst (pa_cons (pe_lamK0 TB rfl (lamSD_by (N := lawN) (by show lamSDB lawN (defScope lLaw) _ = true; decide +kernel)).free rfl) (pa_cons (pe_lamKD TB rfl (lamSD_by (N := lawN) (by show lamSDB lawN (defScope lLaw) _ = true; decide +kernel)).free rfl) (pa_cons (pe_lamKD TB rfl (lamSD_by (N := lawN) (by show lamSDB lawN (defScope lLaw) _ = true; decide +kernel)).free rfl) pa_nil)))))
      (Evl.pss_cut (ps_if (pt_cmpR (show OpR _ _ (rNeD K) from op_neD hr.units) (pe_lcI (own := [("_law_work", 11)]) (rG := gName 11) rfl scLaw.nd (pi_list (pv 9)) (blkOk_by (N := lawN) (sc := defScope lLaw) (by decide +kernel)) (fun _ _ _ _ _ _ _ _ _ => pg_name (i := 11) scLaw.nd rfl (Or.inl rfl)) (fun pins σ u G C cl fp J hfp => pts_one (pt_cmpR (show OpR _ _ (rNeD K) from op_neD hr.units) (pe_wordB J hfp (Ls := lawLs K CH T cE) (by rfl) gWm kW wlk wcd bW scW2 rfl (.inl rfl) (word_givesG WF) (k := 6) (hr.mono (by decide)) hLs (pv 11)) (pe_tup (pa_cons pe_str (pa_cons pe_non pa_nil))) (nomark _))) (fun _ _ _ _ _ _ _ _ _ => (pv 11))) (pe_lst pa_nil) (nomark _)) (pss_one (ps_ret pe_bl)) pss_nil)
      (pss_one (ps_ret (pe_and (pe_call cAlike.ok (hr.mono (by decide)) (by rfl) cAlike.g cAlike.kp cAlike.b .nil pass0 (pa_cons (pe_meth0 (pv 3) CHc.c mTx FTx (hr.mono (by decide)) bTx .nil pass0) (pa_cons (pe_ix (show IxR _ (rIxL K) from ix_list) (pv 2) pe_int (fun _ _ => rfl)) pa_nil))) (pe_and (pe_cmpR (op_eqD hr.units) (pe_meth0 (pv 3) CHc.c mTo FTo (hr.mono (by decide)) bTo .nil pass0) (pe_lst pa_nil) (nomark _)) (pe_and (pe_cmpR (op_eqD hr.units) (pe_meth0 (pv 3) CHc.c mKe FKe (hr.mono (by decide)) bKe .nil pass0) (pe_lst pa_nil) (nomark _)) (pe_one (pe_meth0 (pv 3) CHc.c mId FId (hr.mono (by decide)) bId .nil pass0)))))))))))))))), ?_⟩
    refine ⟨_, rfl, sc, ns, rfl, hs, hl, fun p m np => ?_⟩
    have kA : Kept [] H (L2.upd H p (.lst [.ref sc, .int 0, .int 0, .int m])) := (Kept.refl H).upd np
    have noM : ∀ {H1 : Hp}, ∀ b ∈ ([] : List Addr), ∃ xs, H1 b = some (.lst xs) := fun b hb => absurd hb (by simp)
    have S0 : StAt K (L2.upd H p (.lst [.ref sc, .int 0, .int 0, .int m])) p sc ns := by
      refine ⟨0, 0, m, upd_same, Int.le_refl _, Int.le_refl _, ?_⟩
      rcases hs with (h | ⟨o, h⟩) | h
      · exact .inl (.inl (by rw [upd_ne (ne_of_none h np)]; exact h))
      · exact .inl (.inr ⟨o, by rw [upd_ne (ne_of_none h np)]; exact h⟩)
      · exact .inr h
    have ht0 := tabg_m ht kA noM
    have t20 := tabs_m t2 kA noM
    have t30 := tabs_m t3 kA noM
    -- the text
    refine ⟨_, rfl, p, sc, ns, 24, rfl, S0, by omega, by omega, fun q rs H2 few len S2 k2 tx => ?_⟩
    obtain ⟨ps, hq, hps⟩ := id tx
    refine ⟨by show (1 : Nat) ≤ sizeLine; decide, fun wl nwl => ?_⟩
    have hl24 : (ps.map V.ref).length ≤ 24 := by rw [List.length_map, hps.length]; omega
    have P0 : PSt K T P2 P3 p sc ns wl q (ps.map V.ref) (upd H2 wl (.lst [.ref q])) :=
      have kk : Kept [] H2 (upd H2 wl (.lst [.ref q])) := (Kept.refl H2).upd nwl
      ⟨S2.upd nwl, upd_same, kk _ _ hq (by simp), fun v hv => (rows_refs hps few v hv).keep fun b xs e => kk _ _ e (by simp), hl24, tabg_m (tabg_m ht0 k2 (stAt_ob S0)) kk noM, tabs_m (tabs_m t20 k2 (stAt_ob S0)) kk noM, tabs_m (tabs_m t30 k2 (stAt_ob S0)) kk noM, fun z => by
        obtain ⟨ys, e⟩ := S2.ob
        rw [z, nwl] at e
        cases e⟩
    clear S0 kA hs ht t2 t3 ht0 t20 t30 S2 k2 tx hq hps np nwl few len hl24
    generalize upd H2 wl (.lst [.ref q]) = H3 at P0 ⊢
    generalize ps.map V.ref = ys0 at P0 ⊢
    clear H2 ps rs m
    -- another text, or not
    refine ⟨fun σ H' => ∃ wl b ys, σ = [some (.ref sc), some (.ref p), some (.ref wl), none, none, none, none, none, none, none, none, none] ∧ PSt K T P2 P3 p sc ns wl b ys H', ?_, ?_⟩
    · refine ⟨_, rfl, p, sc, ns, 3, rfl, P0.S, by omega, by omega, fun z H4 z0 z1 S4 k4 => ?_⟩
      have P4 := P0.draw S4 k4
      refine ⟨rfl, _, rfl, ?_⟩
      by_cases hz : V.int z = V.int 0
      · rw [decide_eq_true hz]
        refine iteT ?_
        refine ⟨_, rfl, p, sc, ns, 3, rfl, P4.S, by omega, by omega, fun n H5 n0 n1 S5 k5 => ⟨_, _, rfl, rfl, 22 + n, rfl, by omega, by omega, fun D nD => ?_⟩⟩
        have P5 := P4.draw S5 k5
        refine lc_range (lo := 0) (n := (22 + n).toNat) (fun i H' => ∃ (ps : List Addr) (rs : List Rw), H' D = some (.lst (ps.map V.ref)) ∧ Paired (fun a r => H' a = some (.tup ((Rw.ws r).map V.str))) ps rs ∧ rs.length = i ∧ (∀ r ∈ rs, r.few) ∧ StAt K H' p sc ns ∧ Kept [p] H5 H')
          ⟨[], [], upd_same, .nil, rfl, fun _ z => (by simp at z), S5.upd nD, (Kept.refl H5).upd nD⟩ ?_ ?_
        · rintro i Ha hi ⟨ps, rs, e1, r1, hl, hf, S2, k2⟩
          refine ⟨rfl, yes_if ?_⟩
          refine ⟨_, rfl, p, sc, ns, rfl, S2, fun q r H3 hr' S3 k3 eq => ?_⟩
          obtain ⟨zs, hp2⟩ := S2.ob
          have hDp : D ∉ [p] := fun z => by
            obtain ⟨zs, hz⟩ := S5.ob
            rw [List.mem_singleton.mp z, hz] at nD
            cases nD
          have hl2 : ps.length = rs.length := r1.length
          have eD := k3 D _ e1 hDp
          refine ⟨_, eD, ?_, ps ++ [q], rs ++ [r], ?_, ?_, ?_, ?_, ?_, ?_⟩
          · rw [List.length_map, hl2, hl]
            exact Nat.lt_of_lt_of_le (show i < 2000 by omega) (by decide)
          · rw [upd_same, List.map_append] <;> rfl
          · have neD : ∀ {b : Addr} {xs : List V}, H3 b = some (.tup xs) → b ≠ D := fun e z => by
              rw [z, eD] at e
              cases e
            refine paired_app (Paired.mapP r1 fun b r' e => ?_) (.cons ?_ .nil)
            · have e' := k3 b _ e (notin1 e hp2 (by intro z; cases z))
              rw [upd_ne (neD e')]
              exact e'
            · rw [upd_ne (neD eq)]
              exact eq
          · rw [List.length_append, hl] <;> rfl
          · intro r' hr2
            rcases List.mem_append.mp hr2 with z | z
            · exact hf r' z
            · rw [List.mem_singleton.mp z]
              exact hr'
          · exact S5.far nD S3
          · exact (Kept.refl H5).far nD (k2.trans k3)
        · rintro Ha ⟨ps, rs, e1, r1, hl, hf, S2, k2⟩
          refine ⟨D, _, rfl, .inl ⟨.inl (.of e1), fun q nq => ⟨by show (1 : Nat) ≤ sizeLine; decide, fun wl' nwl => ?_⟩⟩⟩
          have kk := (Kept.refl (M := []) Ha).upd (o := .tup (ps.map V.ref)) nq
          have kw := (Kept.refl (M := []) (upd Ha q (.tup (ps.map V.ref)))).upd (o := .lst [.ref q]) nwl
          have P6 := P5.draw S2 k2
          refine ⟨wl', q, ps.map V.ref, rfl, (S2.upd nq).upd nwl, upd_same, kw _ _ upd_same (by simp), fun v hv => (rows_refs r1 hf v hv).keep fun b xs e => kw _ _ (kk _ _ e (by simp)) (by simp), by rw [List.length_map, r1.length]; omega, tabg_m P6.ht (kk.trans kw) noM, tabs_m P6.t2 (kk.trans kw) noM, tabs_m P6.t3 (kk.trans kw) noM, fun z => ?_⟩
          obtain ⟨ys, e⟩ := (S2.upd nq).ob
          rw [z, nwl] at e
          cases e
      · rw [decide_eq_false hz]
        refine iteF ⟨wl, q, ys0, rfl, P4⟩
    rintro σ H4 ⟨wl1, b, ys, rfl, P4⟩
    clear P0
    -- the house
    refine ⟨fun σ H' => ∃ x dx ak ev a, σ = [some (.ref sc), some (.ref p), some (.ref wl1), some (.ref x), none, none, none, none, none, none, none, none] ∧ LSt K T P2 P3 CH p sc ns wl1 x dx ak ev a b ys ys H' ∧ LNe p wl1 ak ev, ?_, ?_⟩
    · refine ⟨_, rfl, wl1, _, 0, .ref b, rfl, rfl, SqL.of P4.hw, at_of (j := 0) rfl rfl, ?_⟩
      intro x dx nx ndx dxx
      have kx : Kept [] H4 (L2.upd (L2.upd H4 dx (.own x)) x (.ins CH dx [])) := ((Kept.refl H4).upd ndx).upd (by rw [upd_ne (Ne.symm dxx)]; exact nx)
      refine ⟨x, dx, b, _, rfl, upd_same, kx _ _ P4.hb (by simp), P4.lenY, fun v hv => ((P4.rowsY v hv).keep fun _ _ e => kx _ _ e (by simp)).rowV, tabg_m P4.ht kx noM, fun H5 ak ev k5 nak nev HS => ⟨rfl, ?_⟩⟩
      have g0 : ∀ b o, H4 b = some o → b ∉ T → H5 b = some o := fun b o e hb => k5.keep b o (kx b o e (by simp)) hb (fun z => by rw [z, nx] at e; cases e)
      have g : ∀ {b : Addr} {o : HO}, H4 b = some o → (∀ ps, o ≠ .tbl ps) → H5 b = some o := fun {b o} e n => g0 b o e (tab_not P4.ht e n)
      have old : ∀ {b : Addr} {o : HO} {z : Addr}, H4 b = some o → (L2.upd (L2.upd H4 dx (.own x)) x (.ins CH dx [])) z = none → z ≠ b := fun {b o z} e n y => by
        rw [y, kx b o e (by simp)] at n
        cases n
      obtain ⟨zs, ep⟩ := P4.S.ob
      refine ⟨x, dx, ak, ev, b, rfl, ⟨?_, HS, g P4.hw (fun _ z => nomatch z), g P4.hb (fun _ z => nomatch z), fun v hv => (P4.rowsY v hv).keep fun _ _ e => g e (fun _ z => nomatch z), fun v hv => (P4.rowsY v hv).keep fun _ _ e => g e (fun _ z => nomatch z), P4.lenY, P4.lenY, k5.tab, ?_, ?_⟩, ⟨P4.pw, old ep nak, old ep nev, old P4.hw nak, old P4.hw nev⟩⟩
      · obtain ⟨i, r, m2, h, h1, h2, h3⟩ := P4.S
        refine ⟨i, r, m2, g h (fun _ z => nomatch z), h1, h2, ?_⟩
        rcases h3 with (h3 | ⟨ob, h3⟩) | h3
        · exact .inl (.inl (g h3 (fun _ z => nomatch z)))
        · exact .inl (.inr ⟨ob, g h3 (fun _ z => nomatch z)⟩)
        · exact .inr h3
      · exact tabS_by P4.t2 fun b o e hb => g0 b o e (by
          rcases hb with rfl | ⟨q, rfl⟩
          · exact nT2
          · exact tab_not P4.ht e codeO_tbl)
      · exact tabS_by P4.t3 fun b o e hb => g0 b o e (by
          rcases hb with rfl | ⟨q, rfl⟩
          · exact nT3
          · exact tab_not P4.ht e codeO_tbl)
    rintro σ H5 ⟨x, dx, ak, ev, a, rfl, L5, N⟩
    clear P4
    -- deed by deed
    refine ⟨fun σ H' => ∃ a b xs v4 v5 v6, σ = [some (.ref sc), some (.ref p), some (.ref wl1), some (.ref x), v4, v5, v6, none, none, none, none, none] ∧ LSt K T P2 P3 CH p sc ns wl1 x dx ak ev a b xs xs H', ?_, ?_⟩
    · refine ⟨14, rfl, by omega, by omega, for_it (walk_range (lo := 0) (n := 14)) (fun _ σ H' => ∃ a b xs v4 v5 v6, σ = [some (.ref sc), some (.ref p), some (.ref wl1), some (.ref x), v4, v5, v6, none, none, none, none, none] ∧ LSt K T P2 P3 CH p sc ns wl1 x dx ak ev a b xs xs H') ⟨a, b, ys, none, none, none, rfl, L5⟩ (fun _ _ _ _ _ => trivial) ?_ (fun σ H' h => h)⟩
      rintro i y σ Ha Hb hi ⟨a, b, xs, v4, v5, v6, rfl, L⟩ ⟨rfl, rfl⟩
      refine ⟨_, rfl, _, rfl, wl1, _, 0, .ref b, rfl, rfl, SqL.of L.hw, at_of (j := 0) rfl rfl, b, _, rfl, .inr (.inl (.of L.hb)), p, sc, ns, xs.length, rfl, L.S, by have := L.len; omega, fun d n k H1 S1 k1 e1 hk1 hn => ?_⟩
      have L1 := L.draw N S1 k1
      obtain ⟨dr, dl⟩ := due_rows (n := n) hk1 L1.rows L1.len
      refine ⟨_, rfl, _, rfl, wl1, d, b, xs, n, k, rfl, L1.hw, L1.hb, L1.len, e1, hk1, fun p2 b' H2 k2 hw2 hb2 e2 => ?_⟩
      have L2' := L1.done N k2 hw2 hb2 dr dl
      have hM2 : ∀ b ∈ [wl1], ∃ xs, H1 b = some (.lst xs) := fun b hb => by rw [List.mem_singleton.mp hb]; exact ⟨_, L1.hw⟩
      have e1' := tup_m k2 hM2 _ _ e1
      have hk2 := hk1.kept k2 hM2
      refine ⟨_, rfl, _, rfl, x, dx, ak, ev, a, d, xs, n, k, rfl, L2'.HS, L2'.len, e1', hk2, L2'.ht, L2'.t3, fun p3 a' H3 k3 HS3 e3 => ?_⟩
      have L3 := L2'.told n23 nT2 k3 HS3 L2'.rowsY dl
      have tup3 : ∀ b ys, H2 b = some (.tup ys) → H3 b = some (.tup ys) := fun b ys e => k3.keep b _ e (tab_not L2'.ht e (fun _ z => nomatch z)) (fun z => by
        obtain ⟨ps, e2, _⟩ := L2'.t3
        rw [← z, e] at e2
        cases e2) (fun z => by
        have q := L2'.HS.S.ob
        rw [← z, e] at q
        cases q)
      have e2' := tup3 _ _ e2
      have hv : (dueD xs n k).1.2 = .non ∨ (∃ i, (dueD xs n k).1.2 = .int i) ∨ RowRef H3 (dueD xs n k).1.2 := by
        rcases due_val (xs := xs) (n := n) (k := k) with h | h | h
        · exact .inl h
        · exact .inr (.inl h)
        · exact .inr (.inr ((L2'.rows _ h).keep tup3))
      refine ⟨_, rfl, _, _, rfl, at_told e3 e2' hv, fun H4 k4 => ?_⟩
      have L4 := L3.k0 k4
      refine ⟨_, rfl, iteF ?_⟩
      refine ⟨_, rfl, x, dx, _, rfl, L4.HS.S.ob, rfl, x, dx, ak, ev, _, _, _, rfl, L4.HS.S, _, rfl, wl1, _, 0, .ref b', rfl, rfl, SqL.of L4.hw, at_of (j := 0) rfl rfl, _, _, rfl, at_rows L4.HS.rows L4.hb dl L4.rows, fun H6 k6 => ?_⟩
      refine ⟨_, rfl, iteF ?_⟩
      exact ⟨a', b', _, _, _, _, rfl, L4.k0 k6⟩
    rintro σ H6 ⟨a1, b1, xs, v4, v5, v6, rfl, L6⟩
    clear L5
    -- a number that is none
    refine ⟨_, rfl, p, sc, ns, 2, rfl, L6.S, by omega, by omega, fun c1 H7 c10 c11 S7 k7 => ?_⟩
    have L7 := L6.draw N S7 k7
    refine ⟨_, rfl, p, sc, ns, 999, rfl, L7.S, by omega, by omega, fun c2 H8 c20 c21 S8 k8 => ?_⟩
    have L8 := L7.draw N S8 k8
    refine ⟨_, _, rfl, rfl, .inl ⟨by omega, by omega⟩, ?_⟩
    have far0 : 0 ≤ c1 * c2 := Int.mul_nonneg c10 c20
    clear L6 L7 k7 k8 S7 S8 c10 c11 c20 c21
    refine ⟨fun σ H' => ∃ nv, σ = [some (.ref sc), some (.ref p), some (.ref wl1), some (.ref x), v4, v5, v6, some (.int (c1 * c2)), some nv, none, none, none] ∧ LSt K T P2 P3 CH p sc ns wl1 x dx ak ev a1 b1 xs xs H' ∧ NumV nv ∧ isNumL ((xs.length : Int) + 1) nv = false ∧ isNumL (xs.length : Int) nv = false, ?_, ?_⟩
    · refine ⟨_, rfl, wl1, _, 0, .ref b1, rfl, rfl, SqL.of L8.hw, at_of (j := 0) rfl rfl, b1, _, rfl, .inr (.inl (.of L8.hb)), _, _, rfl, rfl, _, rfl, _, _, rfl, rfl, _, _, rfl, rfl, _, rfl, _, _, rfl, rfl, by show (5 : Nat) ≤ sizeLine; decide, fun l nl => ?_⟩
      have L9 := L8.k0 ((Kept.refl H8).upd (o := .lst [.int ((xs.length : Int) + 1 + (c1 * c2)), .int (0 - 1 - (c1 * c2)), .non, .bl true, .str "0"]) nl)
      refine ⟨_, rfl, p, sc, ns, 5, rfl, L9.S, by omega, by omega, fun z H9 z0 z1 S9 k9 => ?_⟩
      have L10 := L9.draw N S9 k9
      have lp : l ≠ p := fun z => by
        obtain ⟨ys, e⟩ := L8.S.ob
        rw [z, e] at nl
        cases nl
      have el := k9 _ _ upd_same (by simpa using lp)
      obtain ⟨i, rfl⟩ : ∃ i : Nat, z = (i : Int) := ⟨z.toNat, by omega⟩
      obtain ⟨nv, hnv, h1, h2, h3⟩ : ∃ nv, ([.int ((xs.length : Int) + 1 + (c1 * c2)), .int (0 - 1 - (c1 * c2)), .non, .bl true, .str "0"] : List V)[i]? = some nv ∧ NumV nv ∧ isNumL ((xs.length : Int) + 1) nv = false ∧ isNumL (xs.length : Int) nv = false := by
        have hi : i = 0 ∨ i = 1 ∨ i = 2 ∨ i = 3 ∨ i = 4 := by omega
        rcases hi with rfl | rfl | rfl | rfl | rfl
        · refine ⟨_, rfl, .inl ⟨_, rfl⟩, ?_, ?_⟩
          · show (decide _ && decide _) = false
            simp
            omega
          · show (decide _ && decide _) = false
            simp
            omega
        · refine ⟨_, rfl, .inl ⟨_, rfl⟩, ?_, ?_⟩
          · show (decide _ && decide _) = false
            simp
            omega
          · show (decide _ && decide _) = false
            simp
            omega
        · exact ⟨_, rfl, .inr (.inl rfl), rfl, rfl⟩
        · exact ⟨_, rfl, .inr (.inr (.inl ⟨_, rfl⟩)), rfl, rfl⟩
        · exact ⟨_, rfl, .inr (.inr (.inr ⟨_, rfl⟩)), rfl, rfl⟩
      exact ⟨l, _, _, nv, rfl, rfl, SqL.of el, atI_nat hnv, nv, rfl, L10, h1, h2, h3⟩
    rintro σ H9 ⟨nv, rfl, L9, hn1, hn2, hn3⟩
    clear L8
    -- the works
    refine ⟨fun σ H' => ∃ wk f1 f2 f3, σ = [some (.ref sc), some (.ref p), some (.ref wl1), some (.ref x), v4, v5, v6, some (.int (c1 * c2)), some nv, some (.ref wk), none, none] ∧ LSt K T P2 P3 CH p sc ns wl1 x dx ak ev a1 b1 xs xs H' ∧ H' wk = some (.lst [.ref f1, .ref f2, .ref f3]) ∧
        LamAt H' qLaw (lamP 0) (lamB 0) (lamS 0) (cloFrom (cxOf CX0 P w K mg base lawN "law" (defScope lLaw) f (.ref c) A outer s H E).nox.env.cells (lamS 0).names []) false f1 ∧ LamAt H' qLaw (lamP 1) (lamB 1) (lamS 1) (cloFrom (cxOf CX0 P w K mg base lawN "law" (defScope lLaw) f (.ref c) A outer s H E).nox.env.cells (lamS 1).names []) true f2 ∧
        LamAt H' qLaw (lamP 2) (lamB 2) (lamS 2) (cloFrom (cxOf CX0 P w K mg base lawN "law" (defScope lLaw) f (.ref c) A outer s H E).nox.env.cells (lamS 2).names []) true f3, ?_, ?_⟩
    · refine ⟨L9.t2, fun H10 g1 e10 t10 n10 la1 => ⟨t10, fun H11 g2 e11 t11 n11 la2 => ⟨t11, fun H12 g3 e12 t12 n12 la3 => ⟨by show (3 : Nat) ≤ sizeLine; decide, fun wk nwk => ?_⟩⟩⟩⟩
      have L12 := ((L9.lam n23 nT2 e10 t10).lam n23 nT2 e11 t11).lam n23 nT2 e12 t12
      have kk := (Kept.refl (M := []) H12).upd (o := .lst [.ref g1, .ref g2, .ref g3]) nwk
      refine ⟨wk, g1, g2, g3, rfl, L12.k0 kk, upd_same, ?_, ?_, ?_⟩
      · exact ((la1.of e11 t10).of e12 t11).keep fun b o e _ _ => kk b o e (by simp)
      · exact (la2.of e12 t11).keep fun b o e _ _ => kk b o e (by simp)
      · exact la3.keep fun b o e _ _ => kk b o e (by simp)
    rintro σ H12 ⟨wk, g1, g2, g3, rfl, L12, ewk, la1, la2, la3⟩
    clear L9
    refine ⟨fun σ H' => σ = [some (.ref sc), some (.ref p), some (.ref wl1), some (.ref x), v4, v5, v6, some (.int (c1 * c2)), some nv, some (.ref wk), none, none] ∧ LSt K T P2 P3 CH p sc ns wl1 x dx ak ev a1 b1 xs xs H', ?_, ?_⟩
    · refine ⟨_, rfl, wk, rfl, ⟨_, SqL.of ewk⟩, fun D nD => lc_list (K := K) (a := wk) (xs := [.ref g1, .ref g2, .ref g3]) (fun i H' => H' D = some (.lst []) ∧ LSt K T P2 P3 CH p sc ns wl1 x dx ak ev a1 b1 xs xs H' ∧ H' wk = some (.lst [.ref g1, .ref g2, .ref g3]) ∧ LamAt H' qLaw (lamP 0) (lamB 0) (lamS 0) (cloFrom (cxOf CX0 P w K mg base lawN "law" (defScope lLaw) f (.ref c) A outer s H E).nox.env.cells (lamS 0).names []) false g1 ∧ LamAt H' qLaw (lamP 1) (lamB 1) (lamS 1) (cloFrom (cxOf CX0 P w K mg base lawN "law" (defScope lLaw) f (.ref c) A outer s H E).nox.env.cells (lamS 1).names []) true g2 ∧ LamAt H' qLaw (lamP 2) (lamB 2) (lamS 2) (cloFrom (cxOf CX0 P w K mg base lawN "law" (defScope lLaw) f (.ref c) A outer s H E).nox.env.cells (lamS 2).names []) true g3) ?_ (fun i H' _ pv => SqL.of pv.2.2.1) ?_ ?_⟩
      · have kk := (Kept.refl (M := []) H12).upd (o := .lst []) nD
        exact ⟨upd_same, L12.k0 kk, kk _ _ ewk (by simp), la1.keep (fun b o e _ _ => kk b o e (by simp)), la2.keep (fun b o e _ _ => kk b o e (by simp)), la3.keep (fun b o e _ _ => kk b o e (by simp))⟩
      · rintro i v Ha hi ⟨eD, L, ew, l1, l2, l3⟩
        have h3 : (i = 0 ∧ v = .ref g1) ∨ (i = 1 ∧ v = .ref g2) ∨ (i = 2 ∧ v = .ref g3) := by
          match i, hi with
          | 0, hi => exact .inl ⟨rfl, (Option.some.inj hi).symm⟩
          | 1, hi => exact .inr (.inl ⟨rfl, (Option.some.inj hi).symm⟩)
          | 2, hi => exact .inr (.inr ⟨rfl, (Option.some.inj hi).symm⟩)
          | n + 3, hi => cases hi
        clear hi
        rcases h3 with ⟨rfl, rfl⟩ | ⟨rfl, rfl⟩ | ⟨rfl, rfl⟩
        · refine ⟨rfl, ?_⟩
          refine ⟨_, rfl, g1, _, rfl, List.mem_cons_self, l1, fun lf nlf => ?_⟩
          have kk := (Kept.refl (M := []) Ha).upd (o := .lst []) nlf
          have L' := L.k0 kk
          refine ⟨_, rfl, x, dx, _, rfl, L'.HS.S.ob, rfl, _, rfl, x, dx, ak, ev, a1, xs, [], true, nv, .int 5, false, rfl, L'.HS, L'.len, hn1, .inl ⟨.inr (.inr (.inl ⟨5, rfl⟩)), rfl⟩, L'.ht, fun _ => ⟨4, .non, by decide, rfl, .inr ⟨rfl, rfl, rfl⟩, fun H' q kq nq => ?_⟩, fun h => absurd h (by rw [hn2]; decide), fun n hv hn _ _ => absurd hn2 (by rw [hv]; exact num_in (by omega))⟩
          refine ⟨by show (2 : Nat) ≤ sizeLine; decide, fun y ny => ?_⟩
          have kA : Kept [] Ha (upd (upd H' q (.tup [.str "norow", .non])) y (.tup [.str "norow", .non])) := (kk.trans (kq.upd nq)).upd ny
          have e1 : (upd (upd H' q (.tup [.str "norow", .non])) y (.tup [.str "norow", .non])) q = some (.tup [.str "norow", .non]) := ((Kept.refl (M := []) _).upd ny) q _ upd_same (by simp)
          refine ⟨dNo, dNo, dp_no e1, dp_no upd_same, sh_no, sh_no, ?_⟩
          rw [eq_no]
          exact ⟨_, rfl, iteF ⟨kA _ _ eD (by simp), L.k0 kA, kA _ _ ew (by simp), l1.keep (fun b o e _ _ => kA b o e (by simp)), l2.keep (fun b o e _ _ => kA b o e (by simp)), l3.keep (fun b o e _ _ => kA b o e (by simp))⟩⟩
        · refine ⟨rfl, ?_⟩
          refine ⟨_, rfl, g2, _, rfl, List.mem_cons_of_mem _ List.mem_cons_self, l2, fun lf nlf => ?_⟩
          have kk := (Kept.refl (M := []) Ha).upd (o := .lst []) nlf
          have L' := L.k0 kk
          refine ⟨_, rfl, x, dx, _, rfl, L'.HS.S.ob, rfl, _, rfl, x, dx, ak, ev, a1, xs, [], true, nv, rfl, L'.HS, L'.len, hn1, L'.ht, fun _ => ⟨4, .non, by decide, rfl, .inr ⟨rfl, rfl, rfl⟩, fun H' q kq nq => ?_⟩, fun n v hv hx => absurd hn3 (by rw [hv]; exact num_in (by have := (List.getElem?_eq_some_iff.mp hx).1; omega))⟩
          refine ⟨by show (2 : Nat) ≤ sizeLine; decide, fun y ny => ?_⟩
          have kA : Kept [] Ha (upd (upd H' q (.tup [.str "norow", .non])) y (.tup [.str "norow", .non])) := (kk.trans (kq.upd nq)).upd ny
          have e1 : (upd (upd H' q (.tup [.str "norow", .non])) y (.tup [.str "norow", .non])) q = some (.tup [.str "norow", .non]) := ((Kept.refl (M := []) _).upd ny) q _ upd_same (by simp)
          refine ⟨dNo, dNo, dp_no e1, dp_no upd_same, sh_no, sh_no, ?_⟩
          rw [eq_no]
          exact ⟨_, rfl, iteF ⟨kA _ _ eD (by simp), L.k0 kA, kA _ _ ew (by simp), l1.keep (fun b o e _ _ => kA b o e (by simp)), l2.keep (fun b o e _ _ => kA b o e (by simp)), l3.keep (fun b o e _ _ => kA b o e (by simp))⟩⟩
        · refine ⟨rfl, ?_⟩
          refine ⟨_, rfl, g3, _, rfl, List.mem_cons_of_mem _ (List.mem_cons_of_mem _ List.mem_cons_self), l3, fun lf nlf => ?_⟩
          have kk := (Kept.refl (M := []) Ha).upd (o := .lst []) nlf
          have L' := L.k0 kk
          refine ⟨_, rfl, x, dx, _, rfl, L'.HS.S.ob, rfl, _, rfl, x, dx, ak, ev, a1, xs, [], true, nv, .int 5, false, rfl, L'.HS, L'.len, hn1, .inl ⟨.inr (.inr (.inl ⟨5, rfl⟩)), rfl⟩, L'.ht, fun _ => ⟨4, .non, by decide, rfl, .inr ⟨rfl, rfl, rfl⟩, fun H' q kq nq => ?_⟩, fun h => absurd h (by rw [hn3]; decide), fun n v hv hx _ => absurd hn3 (by rw [hv]; exact num_in (by have := (List.getElem?_eq_some_iff.mp hx).1; omega))⟩
          refine ⟨by show (2 : Nat) ≤ sizeLine; decide, fun y ny => ?_⟩
          have kA : Kept [] Ha (upd (upd H' q (.tup [.str "norow", .non])) y (.tup [.str "norow", .non])) := (kk.trans (kq.upd nq)).upd ny
          have e1 : (upd (upd H' q (.tup [.str "norow", .non])) y (.tup [.str "norow", .non])) q = some (.tup [.str "norow", .non]) := ((Kept.refl (M := []) _).upd ny) q _ upd_same (by simp)
          refine ⟨dNo, dNo, dp_no e1, dp_no upd_same, sh_no, sh_no, ?_⟩
          rw [eq_no]
          exact ⟨_, rfl, iteF ⟨kA _ _ eD (by simp), L.k0 kA, kA _ _ ew (by simp), l1.keep (fun b o e _ _ => kA b o e (by simp)), l2.keep (fun b o e _ _ => kA b o e (by simp)), l3.keep (fun b o e _ _ => kA b o e (by simp))⟩⟩
      · rintro Ha ⟨eD, L, _⟩
        refine ⟨by show (0 : Nat) ≤ sizeLine; decide, fun l2 nl2 => ?_⟩
        have kk := (Kept.refl (M := []) Ha).upd (o := .lst []) nl2
        refine ⟨.list [], .list [], .lst (SqL.of (kk _ _ eD (by simp))) .nil, .lst (SqL.of upd_same) .nil, sh_nil, sh_nil, ?_⟩
        rw [eq_nil]
        exact ⟨_, rfl, iteF ⟨rfl, L.k0 kk⟩⟩
    rintro σ H13 ⟨rfl, L13⟩
    clear L12 la1 la2 la3 ewk
    refine ⟨_, rfl, x, dx, _, rfl, L13.HS.S.ob, rfl, x, dx, ak, ev, _, _, _, rfl, L13.HS.S, _, rfl, wl1, _, 0, .ref b1, rfl, rfl, SqL.of L13.hw, at_of (j := 0) rfl rfl, _, _, rfl, at_rows L13.HS.rows L13.hb L13.len L13.rows, fun H14 k14 => ?_⟩
    have L14 := L13.k0 k14
    refine ⟨_, rfl, iteT ?_⟩
    refine ⟨_, rfl, x, dx, _, rfl, L14.HS.S.ob, rfl, x, dx, ak, ev, _, _, _, rfl, L14.HS.S, fun l4 nl4 => ⟨by show (0 : Nat) ≤ sizeLine; decide, fun l5 nl5 => ?_⟩⟩
    have L15 := L14.k0 (((Kept.refl (M := []) H14).upd (o := .lst []) nl4).upd (o := .lst []) nl5)
    refine ⟨.list [], .list [], .lst (SqL.of (((Kept.refl (M := []) _).upd (o := .lst []) nl5) l4 _ upd_same (by simp))) .nil, .lst (SqL.of upd_same) .nil, sh_nil, sh_nil, ?_⟩
    rw [eq_nil]
    refine ⟨_, rfl, iteT ?_⟩
    refine ⟨_, rfl, x, dx, _, rfl, L15.HS.S.ob, rfl, x, dx, ak, ev, a1, xs, [], true, rfl, L15.HS, fun l6 nl6 => ⟨by show (0 : Nat) ≤ sizeLine; decide, fun l7 nl7 => ?_⟩⟩
    have L16 := L15.k0 (((Kept.refl (M := []) _).upd (o := .lst []) nl6).upd (o := .lst []) nl7)
    refine ⟨.list [], .list [], .lst (SqL.of (((Kept.refl (M := []) _).upd (o := .lst []) nl7) l6 _ upd_same (by simp))) .nil, .lst (SqL.of upd_same) .nil, sh_nil, sh_nil, ?_⟩
    rw [eq_nil]
    refine ⟨_, rfl, iteT ?_⟩
    exact ⟨_, rfl, x, dx, _, rfl, L16.HS.S.ob, rfl, x, dx, ak, ev, _, _, _, rfl, L16.HS.S, k _⟩
end
end Ah
end
section
set_option Elab.async false
set_option linter.all false
set_option maxRecDepth 100000
set_option maxHeartbeats 400000
namespace Ah
open PySem PySem.Spec PyProof.Rows L2
/-- the def by its statement st -/
theorem sup_of {P : Program} {K : PySem.W.Frag} {mg : Str → Option Value} {qual : Str} {fI C : Addr} {st : Stmt} {N : List Str} {slf : Str} {rest : List Stmt} {p0 p1 p2 p3 p4 p5 : Pos} {txt : Str} {kk : Nat} {ar : Arg}
    (hf : fnY K fI = valY qual st) (hb : supB K P.main.file qual fI C = true) (hbody : defBody st = .Expr (.Call (.Attribute (.Call (.Name "super" p0) [] [] p1) "__init__" p2) [.Constant (.str txt) kk p3] [] p4) p5 :: rest)
    (har : ((defArgs st).posonlyargs ++ (defArgs st).args).head? = some ar) (hsl : ar.arg = slf) (nd : N.Nodup) (hd : N[0]? = some slf) (sup : mg "super" = none) (top : (P.main.scope.names.lookup ("super" : Str)).isSome = false)
    (h1 : (defScope st).kind = .function ∧ (defScope st).isCoroutine = false ∧ (defScope st).isGenerator = false ∧ (∀ x ∈ (defScope st).names, x.2 ≠ .cell) ∧ (∀ x ∈ N, (defScope st).names.lookup x = some .local) ∧ (∀ x, (defScope st).names.lookup x = some .free → x = "__class__") ∧ (defScope st).names.lookup ("super" : Str) = some .globalImplicit ∧ (defScope st).names.lookup ("__class__" : Str) = some .free)
    (hin : ∀ (L : Addr) (cda cc : Addr), interactive (PySem.W.ksEnv qual (defScope st) L fI (.ref cda) cc) = false)
    (hsw : ∀ (L : Addr) (cda cc : Addr), swapsWith (.Call (.Attribute (.Call (.Name "super" p0) [] [] p1) "__init__" p2) [.Constant (.str txt) kk p3] [] p4) none p5.line (PySem.W.ksEnv qual (defScope st) L fI (.ref cda) cc) = pure false)
    (hev : ∃ pl : Addr → Addr → Addr → Sem Bool, ∀ (L : Addr) (cda cc : Addr), eval (.Call (.Attribute (.Call (.Name "super" p0) [] [] p1) "__init__" p2) [.Constant (.str txt) kk p3] [] p4) (PySem.W.ksEnv qual (defScope st) L fI (.ref cda) cc) = (do
      let ov ← attributeBase (.Call (.Name "super" p0) [] [] p1) "__init__" (PySem.W.ksEnv qual (defScope st) L fI (.ref cda) cc) (eval (.Call (.Name "super" p0) [] [] p1) (PySem.W.ksEnv qual (defScope st) L fI (.ref cda) cc))
      standAt p2.atName
      let (g, first) ← holding [ov] (getMethod ov "__init__" (pl cda cc L))
      callWith p4 g first (backTo p4 (starEach [.Constant (.str txt) kk p3] (PySem.W.ksEnv qual (defScope st) L fI (.ref cda) cc))) []))
    (hst : ∀ (L : Addr) (cda cc : Addr), starEach [.Constant (.str txt) kk p3] (PySem.W.ksEnv qual (defScope st) L fI (.ref cda) cc) = (false, eval (.Constant (.str txt) kk p3) (PySem.W.ksEnv qual (defScope st) L fI (.ref cda) cc)) :: starEach [] (PySem.W.ksEnv qual (defScope st) L fI (.ref cda) cc))
    (hpl : ∀ (L : Addr) (cda cc : Addr), (backTo p4 (starEach [] (PySem.W.ksEnv qual (defScope st) L fI (.ref cda) cc))).any (·.1) = false)
    (hbind : ∀ (kV doc pm ct : Value) (an : Option Addr) (cdv : Value) (cc : Addr) (us : List Value), us.length = N.length → bindArgs (PySem.W.ksFn "__init__" qual (defArgs st) (defBody st) (defScope st) .none kV doc pm an cdv ct cc) ⟨us, []⟩ = pure (N.zip us)) :
    ∃ fd, SupFn P K mg fI C fd N slf rest ∧ L2.Binds K fd N [] := by
  obtain ⟨b1, b2⟩ := band hb
  obtain ⟨b3, b4⟩ := band b2
  obtain ⟨b5, b6⟩ := band b4
  obtain ⟨b7, b8⟩ := band b6
  unfold fnY valY at hf
  cases q : K.lookup fI with
  | none =>
    rw [q] at hf
    cases hf
  | some o =>
    obtain ⟨oc, od, dt, osl⟩ := o
    rw [q] at hf b1
    cases dt with
    | func fd =>
      obtain ⟨n1, n2, n3, n4, n5, n6, n7, n8, n9, n10, n11, n12, n13, n14, n15⟩ := fd
      have e2 : (some (n1, n2, n3, n4, n5, n6, n7.map (·.1), n15) : FnY) = some (("__init__" : Str), qual, defArgs st, FuncBody.stmts (defBody st), defScope st, mainGlobals, [("__class__" : Str)], builtinsNs) := hf
      simp only [Option.some.injEq, Prod.mk.injEq] at e2
      obtain ⟨z1, z2, z3, z4, z5, z6, z7, z8⟩ := e2
      subst z1 z2 z3 z4 z5 z6 z8
      obtain ⟨c1, c2⟩ := band b1
      obtain ⟨c0, c1⟩ := band c1
      have c0 : n8 = .none := of_decide_eq_true c0
      subst c0
      obtain ⟨c3, c4⟩ := band c2
      obtain ⟨cda, e1⟩ : ∃ cda, n13 = .ref cda := by
        cases n13 with
        | ref cda => exact ⟨cda, rfl⟩
        | _ => cases c3
      subst e1
      obtain ⟨cc, e3⟩ : ∃ cc, n7 = [(("__class__" : Str), cc)] := by
        match n7, z7 with
        | [(x, cc)], z7 =>
          have e : x = ("__class__" : Str) := (List.cons.inj z7).1
          exact ⟨cc, by rw [e]⟩
      subst e3
      have c3 : (match K.lookup cda with
          | some ⟨_, _, .fields vs, _⟩ => (match (vs : Array Value)[2]? with
            | some (Value.str f _) => P.main.file == f
            | _ => false)
          | _ => false) = true := c3
      have c4 : (match K.lookup cc with
          | some ⟨_, _, .cell (some (.ref c)), _⟩ => decide (c = C)
          | _ => false) = true := c4
      obtain ⟨ccl, cdd, vs, ccs, file, tf, e4, e5, e6⟩ : ∃ ccl cdd vs ccs file tf, K.lookup cda = some ⟨ccl, cdd, .fields vs, ccs⟩ ∧ vs[2]? = some (.str file tf) ∧ (P.main.file == file) = true := by
        cases r : K.lookup cda with
        | none => rw [r] at c3; cases c3
        | some o =>
          obtain ⟨o1, o2, o3, o4⟩ := o
          rw [r] at c3
          cases o3 with
          | fields vs =>
            have c3 : (match (vs : Array Value)[2]? with
              | some (Value.str f _) => P.main.file == f
              | _ => false) = true := c3
            cases r2 : vs[2]? with
            | none => rw [r2] at c3; cases c3
            | some v =>
              rw [r2] at c3
              cases v with
              | str file tf => exact ⟨o1, o2, vs, o4, file, tf, rfl, r2, c3⟩
              | _ => cases c3
          | _ => cases c3
      obtain ⟨cl, cld, csl, e7⟩ : ∃ cl cld csl, K.lookup cc = some ⟨cl, cld, .cell (some (.ref C)), csl⟩ := by
        cases r : K.lookup cc with
        | none => rw [r] at c4; cases c4
        | some o =>
          obtain ⟨o1, o2, o3, o4⟩ := o
          rw [r] at c4
          cases o3 with
          | cell v =>
            cases v with
            | none => cases c4
            | some u =>
              cases u with
              | ref c =>
                have e : c = C := of_decide_eq_true c4
                rw [e]
                exact ⟨o1, o2, o4, rfl⟩
              | _ => cases c4
          | _ => cases c4
      obtain ⟨pl, hev⟩ := hev
      obtain ⟨s1, s2, s3, s4, s5, s6, s7, s8⟩ := h1
      rw [hbody] at q hbind
      have ex : SupFn P K mg fI C (PySem.W.ksFn "__init__" n2 (defArgs st) (.Expr (.Call (.Attribute (.Call (.Name "super" p0) [] [] p1) "__init__" p2) [.Constant (.str txt) kk p3] [] p4) p5 :: rest) (defScope st) .none n9 n10 n11 n12 (.ref cda) n14 cc) N slf rest := by
        refine ⟨⟨oc, od, "__init__", n2, defArgs st, defScope st, .none, n9, n10, n11, n14, n12, cda, cc, osl, p0, p1, p2, p3, p4, p5, txt, kk, ar, ccl, cl, cdd, cld, ccs, csl, vs, file, tf, pl cda cc, rfl, ?_⟩, nd, hd, sup, top, of_decide_eq_true b3, of_decide_eq_true b5, of_decide_eq_true b7, of_decide_eq_true b8⟩
        refine ⟨q, c1, har, hsl, e4, e5, e6, e7, s1, s2, s3, s4, s5, s6, s7, s8, ?_⟩
        exact ⟨fun L => hin L cda cc, fun L => hsw L cda cc, fun L => hev L cda cc, fun L => hst L cda cc, fun L => hpl L cda cc⟩
      exact ⟨_, ex, .all fun us hl => hbind _ _ _ _ _ _ _ us hl⟩
    | _ => cases b1
end Ah
end
section
set_option Elab.async false
set_option linter.all false
set_option maxRecDepth 100000
set_option maxHeartbeats 2000000
namespace Ah
open PySem PySem.Spec PyProof.Rows L2
theorem num_cases {i : Nat} (hi : i < 7) (h : numW i = true) : i = 0 ∨ i = 3 ∨ i = 6 := by
  match i, hi with
  | 0, _ => exact .inl rfl
  | 1, _ => cases h
  | 2, _ => cases h
  | 3, _ => exact .inr (.inl rfl)
  | 4, _ => cases h
  | 5, _ => cases h
  | 6, _ => exact .inr (.inr rfl)
abbrev PROG15 : Program := PySem.Challenge.pw_answerhouse_k15_houses_deed_by_deed
/-- BadRow.__init__ -/
theorem row_init {K : PySem.W.Frag} {mg : Str → Option Value} {w : World} {base : Heap} {fI C : Addr} (hf : fnY K fI = valY "BadRow.__init__" sBadrowInit) (hb : supB K PROG15.main.file "BadRow.__init__" fI C = true) (sup : mg "super" = none)
    (T : OexC K C) (hno : PySem.W.findIn K (.ref C) "number" = some none) :
    ∃ fd, FnOk PROG15 w K mg base (L2.CX PROG15 w) 1 fI fd ["self", "number"] (spErr1 C "number") ∧ L2.Binds K fd ["self", "number"] [] := by
  obtain ⟨fd, S, b⟩ := sup_of (P := PROG15) (mg := mg) (N := ["self", "number"]) (slf := "self") hf hb rfl rfl rfl (by decide) rfl sup (by decide +kernel)
    ⟨rfl, rfl, rfl, by decide +kernel, by decide +kernel, fun x h => by
      have e := PySem.mem_of_lookup h
      revert e
      have q : ∀ p ∈ (defScope sBadrowInit).names, p.2 = NameKind.free → p.1 = ("__class__" : Str) := by decide +kernel
      exact fun e => q _ e rfl, rfl, rfl⟩
    (fun _ _ _ => rfl) (fun _ _ _ => rfl) ⟨_, fun _ _ _ => rfl⟩ (fun _ _ _ => rfl) (fun _ _ _ => rfl)
    (fun kV doc pm ct an cdv cc us hl => by
      match us, hl with
      | [a, b], _ => rfl)
  exact ⟨fd, sup_one S T hno (by decide) (by decide) (by decide) (by decide), b⟩
end Ah
end
section
set_option Elab.async false
set_option linter.all false
set_option maxRecDepth 100000
set_option maxHeartbeats 4000000
namespace Ah
open PySem PySem.Spec PyProof.Rows L2
open GxR (TabB TabG Tabbed)
theorem forms_ok {K : PySem.W.Frag} (h : formsB K = true) {z : Str} {ps : List Str} (e : formsL.lookup z = some ps) : ∃ a, PySem.W.nsIn K (He.ga K "FORMS") z = some (some (.ref a)) ∧ ∀ H, SqT K H a (ps.map V.str) := by
  have m := lookup_in e
  have h2 := List.all_eq_true.mp h _ m
  have h3 : (match PySem.W.nsIn K (He.ga K "FORMS") z with
    | some (some (.ref a)) => tupK K a ps
    | _ => false) = true := h2
  cases q : PySem.W.nsIn K (He.ga K "FORMS") z with
  | none =>
    rw [q] at h3
    cases h3
  | some r =>
    rw [q] at h3
    cases r with
    | none => cases h3
    | some u =>
      cases u with
      | ref a => exact ⟨a, rfl, tupK_ok h3⟩
      | _ => cases h3
theorem mapK_len {α β : Type} {f : α → β} {l : List α} {m : List β} (h : l.map f = m) (i : Nat) {a : α} (ha : l[i]? = some a) : m[i]? = some (f a) := by
  rw [← h, List.getElem?_map, ha] <;> rfl
theorem facts {w : World} {K : PySem.W.Frag} {h : Heap} {mg : Str → Option Value} {f : Addr} (X : K.In h) (G : h.Ns mainGlobals mg) (hfa : mg ("law" : Str) = some (.ref f)) (c : He.SaysX fa fn ts tf exB w h K) (cv : sup15 K = val15) :
    LamX.LawAtS PySem.Challenge.rw_answerhouse_k15_houses_deed_by_deed w K CX0 10 63 "_law_script" mg f h := by
  have d := c.t.d
  obtain ⟨fd0, F0⟩ : ∃ fd, FnP K "is_word" sIsWord (He.ga K "is_word") fd := d.def_ 0 (d := dF "is_word" sIsWord) rfl
  obtain ⟨fd1, F1⟩ : ∃ fd, FnP K "is_row" sIsRow (He.ga K "is_row") fd := d.def_ 1 (d := dF "is_row" sIsRow) rfl
  obtain ⟨fd2, F2⟩ : ∃ fd, FnP K "is_number" sIsNumber (He.ga K "is_number") fd := d.def_ 2 (d := dF "is_number" sIsNumber) rfl
  obtain ⟨fd3, F3⟩ : ∃ fd, FnP K "check_text" sCheck (He.ga K "check_text") fd := d.def_ 3 (d := dF "check_text" sCheck) rfl
  obtain ⟨fd4, F4⟩ : ∃ fd, FnP K "check_number" sCheckNumber (He.ga K "check_number") fd := d.def_ 4 (d := dF "check_number" sCheckNumber) rfl
  obtain ⟨fd5, F5⟩ : ∃ fd, MthP K "__init__" "House.__init__" sHouseInit (He.ma K (He.ga K "House") "__init__") fd := d.def_ 5 (d := dM "House" "__init__" "House.__init__" sHouseInit) rfl
  obtain ⟨fd6, F6⟩ : ∃ fd, MthP K "text" "House.text" sHouseText (He.ma K (He.ga K "House") "text") fd := d.def_ 6 (d := dM "House" "text" "House.text" sHouseText) rfl
  obtain ⟨fd7, F7⟩ : ∃ fd, MthP K "put" "House.put" sHousePut (He.ma K (He.ga K "House") "put") fd := d.def_ 7 (d := dM "House" "put" "House.put" sHousePut) rfl
  obtain ⟨fd8, F8⟩ : ∃ fd, MthP K "drop" "House.drop" sHouseDrop (He.ma K (He.ga K "House") "drop") fd := d.def_ 8 (d := dM "House" "drop" "House.drop" sHouseDrop) rfl
  obtain ⟨fd9, F9⟩ : ∃ fd, MthP K "tell" "House.tell" sHouseTell (He.ma K (He.ga K "House") "tell") fd := d.def_ 9 (d := dM "House" "tell" "House.tell" sHouseTell) rfl
  obtain ⟨fd10, F10⟩ : ∃ fd, MthP K "kept" "House.kept" sHouseKept (He.ma K (He.ga K "House") "kept") fd := d.def_ 10 (d := dM "House" "kept" "House.kept" sHouseKept) rfl
  obtain ⟨fd11, F11⟩ : ∃ fd, MthP K "told" "House.told" sHouseTold (He.ma K (He.ga K "House") "told") fd := d.def_ 11 (d := dM "House" "told" "House.told" sHouseTold) rfl
  obtain ⟨fd12, F12⟩ : ∃ fd, MthP K "is_idle" "House.is_idle" sHouseIsIdle (He.ma K (He.ga K "House") "is_idle") fd := d.def_ 12 (d := dM "House" "is_idle" "House.is_idle" sHouseIsIdle) rfl
  obtain ⟨fd13, F13⟩ : ∃ fd, FnP K "_law_row" lRow (He.ga K "_law_row") fd := d.def_ 13 (d := dF "_law_row" lRow) rfl
  obtain ⟨fd14, F14⟩ : ∃ fd, FnP K "_law_taken" lTaken (He.ga K "_law_taken") fd := d.def_ 14 (d := dF "_law_taken" lTaken) rfl
  obtain ⟨fd15, F15⟩ : ∃ fd, FnP K "_law_one" lOne (He.ga K "_law_one") fd := d.def_ 15 (d := dF "_law_one" lOne) rfl
  obtain ⟨fd16, F16⟩ : ∃ fd, FnP K "_law_text" lText (He.ga K "_law_text") fd := d.def_ 16 (d := dF "_law_text" lText) rfl
  obtain ⟨fd17, F17⟩ : ∃ fd, FnP K "_law_deed" lDeed (He.ga K "_law_deed") fd := d.def_ 17 (d := dF "_law_deed" lDeed) rfl
  obtain ⟨fd18, F18⟩ : ∃ fd, FnP K "_law_done" lDone (He.ga K "_law_done") fd := d.def_ 18 (d := dF "_law_done" lDone) rfl
  obtain ⟨fd19, F19⟩ : ∃ fd, FnP K "_law_alike" lAlike (He.ga K "_law_alike") fd := d.def_ 19 (d := dF "_law_alike" lAlike) rfl
  obtain ⟨fd20, F20⟩ : ∃ fd, FnP K "_law_word" lWord (He.ga K "_law_word") fd := d.def_ 20 (d := dF "_law_word" lWord) rfl
  obtain ⟨fd21, F21⟩ : ∃ fd, FnP K "_law_told" lTold (He.ga K "_law_told") fd := d.def_ 21 (d := dF "_law_told" lTold) rfl
  obtain ⟨fd22, F22⟩ : ∃ fd, FnP K "law" lLaw (He.ga K "law") fd := d.def_ 22 (d := dF "law" lLaw) rfl
  have e := hfa.symm.trans (He.glo_ok X G (d.fact 14 (f := .glo "law") rfl))
  cases e
  have gl : ∀ (i : Nat) (x : Str), fa[i]? = some (.glo x) → mg x = some (.ref (He.ga K x)) := fun i x q => He.glo_ok X G (d.fact i q)
  have fr : ∀ (i : Nat) (x : Str), fa[i]? = some (.free x) → mg x = none := fun i x q => He.free_ok X G (d.fact i q)
  have z_isinstance := fr 15 "isinstance" rfl
  have z_len := fr 16 "len" rfl
  have z_tuple := fr 17 "tuple" rfl
  have z_list := fr 18 "list" rfl
  have z_str := fr 19 "str" rfl
  have z_bool := fr 20 "bool" rfl
  have z_range := fr 21 "range" rfl
  have z_enumerate := fr 22 "enumerate" rfl
  have z_sorted := fr 23 "sorted" rfl
  have z_zip := fr 24 "zip" rfl
  have z_dict := fr 25 "dict" rfl
  have z_all := fr 26 "all" rfl
  have z_super := fr 27 "super" rfl
  have z_ValueError := fr 28 "ValueError" rfl
  have z_int := fr 29 "int" rfl
  have g_FORMS := gl 30 "FORMS" rfl
  have g_BARRED := gl 31 "BARRED" rfl
  have g_House := gl 32 "House" rfl
  have g_AnswerError := gl 33 "AnswerError" rfl
  have g_BadRow := gl 34 "BadRow" rfl
  have g_BadSaying := gl 35 "BadSaying" rfl
  have g_BadCount := gl 36 "BadCount" rfl
  have g_BadSteps := gl 37 "BadSteps" rfl
  have g_NoRow := gl 38 "NoRow" rfl
  have g_NoFollow := gl 39 "NoFollow" rfl
  have g_BadDeed := gl 40 "BadDeed" rfl
  have g_Halted := gl 41 "Halted" rfl
  have g_BadText := gl 42 "BadText" rfl
  obtain ⟨hex, hex2⟩ := He.ba (show (formsB K && (tupK K (He.ga K "BARRED") barred && (tabsB K && (bdB K && wordB K (He.ga K "AnswerError"))))) = true from c.more)
  obtain ⟨hbar, hex3⟩ := He.ba hex2
  obtain ⟨htb, hex5⟩ := He.ba hex3
  obtain ⟨hbd, hwo⟩ := He.ba hex5
  obtain ⟨n1, htb⟩ := He.ba htb
  obtain ⟨n2, htb⟩ := He.ba htb
  obtain ⟨n3, htb⟩ := He.ba htb
  obtain ⟨n4, n5⟩ := He.ba htb
  have neq : ∀ {a b : Addr}, neT a b = true → a ≠ b := fun {a b} h z => by
    unfold neT at h
    rw [decide_eq_true z] at h
    cases h
  have B : Bl mg := ⟨z_isinstance, z_len, z_tuple, z_list, z_str, z_bool, z_range, z_enumerate, z_sorted, z_zip, z_dict, z_all⟩
  have W : TW K mg := ⟨z_isinstance, z_len, z_all, z_str, z_tuple, z_enumerate, He.int_ok X G (d.fact 43 (f := .int "LONGEST_WORD" 6) rfl), He.str_ok X G (d.fact 45 (f := .str "LETTERS" letters) rfl), He.ga K "BARRED", g_BARRED, tupK_ok hbar⟩
  have e2 : ts.map (fun t => He.dicW K (t.1 K)) = ts.map fun t => some (He.keysIn w.params t.2) := congrArg (fun z : He.AlT => z.2) c.t
  have e3 := List.cons.inj (show He.dicW K (He.ga K "FORMS") :: _ = some (He.keysIn w.params (formsL.map (·.1))) :: _ from e2)
  have hdic : He.dicW K (He.ga K "FORMS") = some (He.keysIn w.params (formsL.map (·.1))) := e3.1
  have D : TF K w mg (He.ga K "FORMS") := ⟨g_FORMS, He.dicW_ok hdic, fun z ps hz => forms_ok hex hz, fun z hz => out_of hdic (lookup_none hz)⟩
  have hMost := He.int_ok X G (d.fact 44 (f := .int "MOST_ROWS" 24) rfl)
  have CHc : ClsH K (He.ga K "House") := ⟨He.cls_ok (d.fact 46 (f := .cls "House") rfl), He.noat_ok (d.fact 47 (f := .noat "House" "standing") rfl), He.noat_ok (d.fact 48 (f := .noat "House" "asked") rfl), He.noat_ok (d.fact 49 (f := .noat "House" "events") rfl), He.noat_ok (d.fact 50 (f := .noat "House" "idle") rfl)⟩
  have M := He.mkr_ok (d.fact 58 (f := .mkr "House") rfl)
  obtain ⟨xC, kC, bC, tC'⟩ := He.exc_ok (d.fact 59 (f := .exc "NoRow") rfl)
  have m_text := He.meth_ok (d.fact 51 (f := .meth "House" "text") rfl)
  have m_put := He.meth_ok (d.fact 52 (f := .meth "House" "put") rfl)
  have m_drop := He.meth_ok (d.fact 53 (f := .meth "House" "drop") rfl)
  have m_tell := He.meth_ok (d.fact 54 (f := .meth "House" "tell") rfl)
  have m_kept := He.meth_ok (d.fact 55 (f := .meth "House" "kept") rfl)
  have m_told := He.meth_ok (d.fact 56 (f := .meth "House" "told") rfl)
  have m_is_idle := He.meth_ok (d.fact 57 (f := .meth "House" "is_idle") rfl)
  obtain ⟨bd1, bd⟩ := He.ba hbd
  obtain ⟨bd2, bd⟩ := He.ba bd
  obtain ⟨bd3, bd⟩ := He.ba bd
  obtain ⟨bd4, bd⟩ := He.ba bd
  obtain ⟨bd5, bd6⟩ := He.ba bd
  have R1 : One K (He.ga K "BadRow") (He.ma K (He.ga K "BadRow") "__init__") "number" := ⟨oexB_ok bd2, xfB_ok bd3, of_decide_eq_true bd4, of_decide_eq_true bd5, of_decide_eq_true bd6⟩
  obtain ⟨k1, k2, k3, k4, k5⟩ := wordB_ok hwo
  have WF : WordG K mg (He.ga K "AnswerError") (cW K) := ⟨g_AnswerError, g_BadRow, g_BadSaying, g_BadCount, g_BadSteps, g_NoRow, g_NoFollow, g_BadDeed, g_Halted, g_BadText, z_isinstance, z_ValueError, k1, k2, k3, k4, fun i hi hn => k5 i (num_cases hi hn)⟩
  have hsup : fnY K (He.ma K (He.ga K "BadRow") "__init__") = valY "BadRow.__init__" sBadrowInit := (List.cons.inj cv).1
  have bLaw := FunD.bindsA (ps := ["_law_script"]) F22 fun _ _ _ _ _ _ us hl => match us, hl with | [_], _ => rfl
  have code : ∀ {p : He.Defn} {x q : Str} {st : Stmt} {fd : FuncData}, FunD K x q (defArgs st) (defBody st) (defScope st) [] [] (He.fAd K p) fd → fd.code = .ref (He.cT K p).1 := by
    intro p x q st fd F
    obtain ⟨oc, od, dV, kV, doc, pm, an, cdv, ct, osl, rfl, lk, hcd, _, _⟩ := F.ex
    obtain ⟨c0, e0⟩ := He.codeIn_ref hcd
    have e1 := He.codeOf_eq (p := p) lk (show (PySem.W.fnOf x q (defArgs st) (defBody st) (defScope st) dV kV doc pm an cdv ct).code = .ref c0 from e0)
    show cdv = .ref (He.codeOf K p)
    rw [e1, e0]
  refine ⟨fd22, tf.map (He.cT K), spLaw K [(He.cT K ("is_word", none)).2, (He.cT K ("is_row", none)).2] (He.cT K ("law", none)).2 (He.cT K ("_law_told", none)).2, fun p hp => ?_, fun p hp => ?_, fun p hp => ?_, fun s u => bLaw s [u] rfl, fun H a ns hl _ hT hS => ⟨a, ns, rfl, hS, hl, fun P hP => ?_, ?_, ?_, fun _ => rfl⟩, fun base hK hN hTB => ?_⟩
  · obtain ⟨q, hq, rfl⟩ := List.mem_map.mp hp
    exact c.empty q hq
  · obtain ⟨q, hq, rfl⟩ := List.mem_map.mp hp
    exact c.out q hq
  · obtain ⟨q, hq, rfl⟩ := List.mem_map.mp hp
    exact PySem.W.codeHd_of_K X (c.hd q hq)
  · rcases List.mem_cons.mp hP with e | hP
    · exact ⟨#[], e ▸ (hT _ (List.mem_map_of_mem (f := He.cT K) (show (("is_word", none) : He.Defn) ∈ tf from (List.mem_cons_self)))), trivial⟩
    · exact ⟨#[], (List.mem_singleton.mp hP) ▸ (hT _ (List.mem_map_of_mem (f := He.cT K) (show (("is_row", none) : He.Defn) ∈ tf from (List.mem_cons_of_mem _ (List.mem_cons_self))))), trivial⟩
  · exact LamX.TabS.nil (hT _ (List.mem_map_of_mem (f := He.cT K) (show (("law", none) : He.Defn) ∈ tf from (List.mem_cons_of_mem _ (List.mem_cons_of_mem _ (List.mem_cons_self))))))
  · exact LamX.TabS.nil (hT _ (List.mem_map_of_mem (f := He.cT K) (show (("_law_told", none) : He.Defn) ∈ tf from (List.mem_cons_of_mem _ (List.mem_cons_of_mem _ (List.mem_cons_of_mem _ (List.mem_cons_self)))))))
  · have tb : ∀ q ∈ tf, TabB base mg (He.cT K q).1 (He.cT K q).2 := fun q hq => by
      have z := hTB _ (List.mem_map_of_mem (f := He.cT K) hq)
      exact ⟨z.code, z.bm, z.gP⟩
    have inT : ∀ q ∈ tf, (He.cT K q).2 ∈ (tf.map (He.cT K)).map (·.2) := fun q hq => List.mem_map_of_mem (List.mem_map_of_mem hq)
    have m0 : (("is_word", none) : He.Defn) ∈ tf := (List.mem_cons_self)
    have m1 : (("is_row", none) : He.Defn) ∈ tf := (List.mem_cons_of_mem _ (List.mem_cons_self))
    have m2 : (("law", none) : He.Defn) ∈ tf := (List.mem_cons_of_mem _ (List.mem_cons_of_mem _ (List.mem_cons_self)))
    have m3 : (("_law_told", none) : He.Defn) ∈ tf := (List.mem_cons_of_mem _ (List.mem_cons_of_mem _ (List.mem_cons_of_mem _ (List.mem_cons_self))))
    have tbL : ∀ q ∈ tf, LamX.TabB base mg (He.cT K q).1 (He.cT K q).2 := fun q hq => ⟨(tb q hq).code, (tb q hq).bm, (tb q hq).gP⟩
    have i9 : (He.cT K ("is_word", none)).2 ∈ [(He.cT K ("is_word", none)).2, (He.cT K ("is_row", none)).2] := List.mem_cons_self
    have i10 : (He.cT K ("is_row", none)).2 ∈ [(He.cT K ("is_word", none)).2, (He.cT K ("is_row", none)).2] := List.mem_cons_of_mem _ List.mem_cons_self
    have nLT : (He.cT K ("law", none)).2 ∉ [(He.cT K ("is_word", none)).2, (He.cT K ("is_row", none)).2] := fun z => by
      rcases List.mem_cons.mp z with z | z
      · exact neq n1 z
      · exact neq n2 (List.mem_singleton.mp z)
    have nTT : (He.cT K ("_law_told", none)).2 ∉ [(He.cT K ("is_word", none)).2, (He.cT K ("is_row", none)).2] := fun z => by
      rcases List.mem_cons.mp z with z | z
      · exact neq n3 z
      · exact neq n4 (List.mem_singleton.mp z)
    have nLL := neq n5
    generalize [(He.cT K ("is_word", none)).2, (He.cT K ("is_row", none)).2] = T at i9 i10 nLT nTT ⊢
    obtain ⟨fdI, FI, bI⟩ := row_init (w := w) (base := base) hsup bd1 z_super R1.T R1.hno
    have c9 := code (p := ("is_word", none)) F0
    have c10 := code (p := ("is_row", none)) F1
    have cL := code (p := ("law", none)) F22
    have cT := code (p := ("_law_told", none)) F21
    have t9 := tb _ m0
    have t10 := tb _ m1
    have tL := tbL _ m2
    have tT := tbL _ m3
    have bW : L2.Binds K fd20 ["_law_work"] [] := F20.bindsN fun _ _ _ _ _ _ us hl => match us, hl with | [_], _ => rfl
    have b_0 : Binds K fd0 ["word"] [] := F0.bindsN fun _ _ _ _ _ _ us hl => match us, hl with | [_], _ => rfl
    have o_is_word : Own (PySem.Challenge.rw_answerhouse_k15_houses_deed_by_deed).prog w K mg base "is_word" 3 _ fd0 ["word"] (spWord T) := ⟨ok_word F0 c9 t9 i9 W, gl 0 "is_word" rfl, F0.kp, b_0⟩
    have b_1 : Binds K fd1 ["row"] [] := F1.bindsN fun _ _ _ _ _ _ us hl => match us, hl with | [_], _ => rfl
    have o_is_row : Own (PySem.Challenge.rw_answerhouse_k15_houses_deed_by_deed).prog w K mg base "is_row" 5 _ fd1 ["row"] (spRow K T) := ⟨ok_row F1 c10 t10 i10 W D o_is_word.g o_is_word.ok o_is_word.kp o_is_word.b, gl 1 "is_row" rfl, F1.kp, b_1⟩
    have b_3 : Binds K fd3 ["rows"] [] := F3.bindsN fun _ _ _ _ _ _ us hl => match us, hl with | [_], _ => rfl
    have o_check : Own (PySem.Challenge.rw_answerhouse_k15_houses_deed_by_deed).prog w K mg base "check_text" 6 _ fd3 ["rows"] (spCheck0 K T) := ⟨ok_check F3 W hMost o_is_row.g o_is_row.ok o_is_row.kp o_is_row.b, gl 3 "check_text" rfl, F3.kp, b_3⟩
    have b_2 : Binds K fd2 ["number", "many"] [] := F2.bindsN fun _ _ _ _ _ _ us hl => match us, hl with | [_, _], _ => rfl
    have o_isnum : Own (PySem.Challenge.rw_answerhouse_k15_houses_deed_by_deed).prog w K mg base "is_number" 1 _ fd2 ["number", "many"] spNum := ⟨ok_isnum F2 z_isinstance z_int z_bool, gl 2 "is_number" rfl, F2.kp, b_2⟩
    have b_4 : Binds K fd4 ["number", "many"] [] := F4.bindsN fun _ _ _ _ _ _ us hl => match us, hl with | [_, _], _ => rfl
    have o_chnum : FnOk (PySem.Challenge.rw_answerhouse_k15_houses_deed_by_deed).prog w K mg base (L2.CX (PySem.Challenge.rw_answerhouse_k15_houses_deed_by_deed).prog w) 2 _ fd4 ["number", "many"] (spChNum (cW K 4)) := ok_chnum F4 o_isnum.g o_isnum.ok o_isnum.kp o_isnum.b g_NoRow xC kC bC tC'
    have o_chnumg := gl 4 "check_number" rfl
    have o_chnumk := F4.kp
    have o_chnumb := b_4
    have b_6 : Binds K fd6 ["self"] [] := F6.bindsN fun _ _ _ _ _ _ us hl => match us, hl with | [_], _ => rfl
    have k_text : FnOk (PySem.Challenge.rw_answerhouse_k15_houses_deed_by_deed).prog w K mg base CX0 1 _ fd6 ["self"] (spHNo (He.ga K "House") fun rv _ _ => rv) := ok_htext F6 CHc
    have b_12 : Binds K fd12 ["self"] [] := F12.bindsN fun _ _ _ _ _ _ us hl => match us, hl with | [_], _ => rfl
    have k_is_idle : FnOk (PySem.Challenge.rw_answerhouse_k15_houses_deed_by_deed).prog w K mg base CX0 1 _ fd12 ["self"] (spHNo (He.ga K "House") fun _ _ b => .bl b) := ok_hidle F12 CHc
    have b_11 : Binds K fd11 ["self"] [] := F11.bindsN fun _ _ _ _ _ _ us hl => match us, hl with | [_], _ => rfl
    have k_told : FnOk (PySem.Challenge.rw_answerhouse_k15_houses_deed_by_deed).prog w K mg base CX0 1 _ fd11 ["self"] (spHTold (He.ga K "House")) := ok_htold F11 CHc z_list
    have b_10 : Binds K fd10 ["self"] [] := F10.bindsN fun _ _ _ _ _ _ us hl => match us, hl with | [_], _ => rfl
    have k_kept : FnOk (PySem.Challenge.rw_answerhouse_k15_houses_deed_by_deed).prog w K mg base CX0 1 _ fd10 ["self"] (spHKept (He.ga K "House")) := ok_hkept F10 CHc z_list
    have b_5 : Binds K fd5 ["self", "rows"] [] := F5.bindsN fun _ _ _ _ _ _ us hl => match us, hl with | [_, _], _ => rfl
    have k_init : FnOk (PySem.Challenge.rw_answerhouse_k15_houses_deed_by_deed).prog w K mg base CX0 7 _ fd5 ["self", "rows"] (spHI2 K T (He.ga K "House")) := ok_hinit2 F5 CHc o_check.g o_check.ok o_check.kp o_check.b
    have b_7 : Binds K fd7 ["self", "number", "row"] [] := F7.bindsN fun _ _ _ _ _ _ us hl => match us, hl with | [_, _, _], _ => rfl
    have k_put : FnOk (PySem.Challenge.rw_answerhouse_k15_houses_deed_by_deed).prog w K mg base (L2.CX (PySem.Challenge.rw_answerhouse_k15_houses_deed_by_deed).prog w) 6 _ fd7 ["self", "number", "row"] (spHPut K T (He.ga K "House") (cW K 4) (cW K 0)) := ok_hput F7 CHc z_len o_chnumg o_chnum o_chnumk o_chnumb o_is_row.g o_is_row.ok o_is_row.kp o_is_row.b hMost R1 FI bI g_BadRow
    have b_8 : Binds K fd8 ["self", "number"] [] := F8.bindsN fun _ _ _ _ _ _ us hl => match us, hl with | [_, _], _ => rfl
    have k_drop : FnOk (PySem.Challenge.rw_answerhouse_k15_houses_deed_by_deed).prog w K mg base (L2.CX (PySem.Challenge.rw_answerhouse_k15_houses_deed_by_deed).prog w) 6 _ fd8 ["self", "number"] (spHDrop T (He.ga K "House") (cW K 4)) := ok_hdrop F8 CHc z_len o_chnumg o_chnum o_chnumk o_chnumb
    have b_9 : Binds K fd9 ["self", "number", "row"] [] := F9.bindsN fun _ _ _ _ _ _ us hl => match us, hl with | [_, _, _], _ => rfl
    have k_tell : FnOk (PySem.Challenge.rw_answerhouse_k15_houses_deed_by_deed).prog w K mg base (L2.CX (PySem.Challenge.rw_answerhouse_k15_houses_deed_by_deed).prog w) 6 _ fd9 ["self", "number", "row"] (spHTell K T (He.ga K "House") (cW K 4) (cW K 0)) := ok_htell F9 CHc z_len o_chnumg o_chnum o_chnumk o_chnumb o_is_row.g o_is_row.ok o_is_row.kp o_is_row.b R1 FI bI g_BadRow
    have b_13 : Binds K fd13 ["_law_script"] [] := F13.bindsN fun _ _ _ _ _ _ us hl => match us, hl with | [_], _ => rfl
    have o_lrow : Own (PySem.Challenge.rw_answerhouse_k15_houses_deed_by_deed).prog w K mg base "_law_row" 1 _ fd13 ["_law_script"] (spLRow K) := ⟨ok_lrow F13, gl 5 "_law_row" rfl, F13.kp, b_13⟩
    have b_14 : Binds K fd14 ["_law_row_here", "_law_many"] [] := F14.bindsN fun _ _ _ _ _ _ us hl => match us, hl with | [_, _], _ => rfl
    have o_ltaken : Own (PySem.Challenge.rw_answerhouse_k15_houses_deed_by_deed).prog w K mg base "_law_taken" 1 _ fd14 ["_law_row_here", "_law_many"] (spTaken K) := ⟨ok_ltaken F14 z_len, gl 6 "_law_taken" rfl, F14.kp, b_14⟩
    have b_15 : Binds K fd15 ["_law_row_here"] [] := F15.bindsN fun _ _ _ _ _ _ us hl => match us, hl with | [_], _ => rfl
    have o_lone : Own (PySem.Challenge.rw_answerhouse_k15_houses_deed_by_deed).prog w K mg base "_law_one" 2 _ fd15 ["_law_row_here"] (spOne K) := ⟨ok_lone F15 o_ltaken.g o_ltaken.ok o_ltaken.kp o_ltaken.b, gl 7 "_law_one" rfl, F15.kp, b_15⟩
    have b_16 : Binds K fd16 ["_law_row_here", "_law_many"] [] := F16.bindsN fun _ _ _ _ _ _ us hl => match us, hl with | [_, _], _ => rfl
    have o_ltext : Own (PySem.Challenge.rw_answerhouse_k15_houses_deed_by_deed).prog w K mg base "_law_text" 3 _ fd16 ["_law_row_here", "_law_many"] (spText K) := ⟨ok_ltext F16 o_ltaken.g o_ltaken.ok o_ltaken.kp o_ltaken.b o_lone.g o_lone.ok o_lone.kp o_lone.b z_tuple z_range, gl 8 "_law_text" rfl, F16.kp, b_16⟩
    have b_17 : Binds K fd17 ["_law_row_here", "_law_many"] [] := F17.bindsN fun _ _ _ _ _ _ us hl => match us, hl with | [_, _], _ => rfl
    have o_deed : Own (PySem.Challenge.rw_answerhouse_k15_houses_deed_by_deed).prog w K mg base "_law_deed" 3 _ fd17 ["_law_row_here", "_law_many"] (spLDeed K) := ⟨ok_ldeed F17 o_ltaken o_lone, gl 9 "_law_deed" rfl, F17.kp, b_17⟩
    have b_18 : Binds K fd18 ["_law_w", "_law_deed_here"] [] := F18.bindsN fun _ _ _ _ _ _ us hl => match us, hl with | [_, _], _ => rfl
    have o_done : Own (PySem.Challenge.rw_answerhouse_k15_houses_deed_by_deed).prog w K mg base "_law_done" 1 _ fd18 ["_law_w", "_law_deed_here"] (spLDone K) := ⟨ok_ldone F18 B z_int, gl 10 "_law_done" rfl, F18.kp, b_18⟩
    have b_19 : Binds K fd19 ["_law_found", "_law_due"] [] := F19.bindsN fun _ _ _ _ _ _ us hl => match us, hl with | [_, _], _ => rfl
    have o_alike3 : Own (PySem.Challenge.rw_answerhouse_k15_houses_deed_by_deed).prog w K mg base "_law_alike" 3 _ fd19 ["_law_found", "_law_due"] (spAlike K 3) := ⟨ok_lalike F19 (gl 11 "_law_alike" rfl) b_19 B 3, gl 11 "_law_alike" rfl, F19.kp, b_19⟩
    have b_21 : Binds K fd21 ["_law_house", "_law_deed_here"] [] := F21.bindsN fun _ _ _ _ _ _ us hl => match us, hl with | [_, _], _ => rfl
    have o_ltold : Own (PySem.Challenge.rw_answerhouse_k15_houses_deed_by_deed).prog w K mg base "_law_told" 9 _ fd21 ["_law_house", "_law_deed_here"] (spLTold K T (He.cT K ("_law_told", none)).2 (He.ga K "House")) := ⟨ok_ltold F21 cT tT nTT F20 (gl 12 "_law_word" rfl) (F20).kp bW WF CHc m_put k_put b_7 m_drop k_drop b_8 m_tell k_tell b_9, gl 13 "_law_told" rfl, F21.kp, b_21⟩
    exact (ok_law F22 cL tL nLT nTT nLL B o_lrow o_ltext o_ltaken o_lone o_deed o_done o_ltold o_alike3 F20 (gl 12 "_law_word" rfl) (F20).kp bW WF CHc M g_House k_init b_5 m_put k_put b_7 m_drop k_drop b_8 m_tell k_tell b_9 m_text k_text b_6 m_told k_told b_11 m_kept k_kept b_10 m_is_idle k_is_idle b_12)
end Ah
end
section
open PySem PySem.W PySem.Calls PyProof.Rows
set_option Elab.async false
set_option maxRecDepth 100000
set_option maxHeartbeats 0
theorem PySem.Challenge.cw_answerhouse_k15_houses_deed_by_deed_holds : PySem.Challenge.rw_answerhouse_k15_houses_deed_by_deed.Holds := by
  w_on; o_law
  refine HandSHeadRun.head_any (r := OpenLaw.row PySem.Challenge.rw_answerhouse_k15_houses_deed_by_deed) (q := view (OpenLaw.row PySem.Challenge.rw_answerhouse_k15_houses_deed_by_deed).prog [60]) (H := Ah.hk) (ob := Ah.ob) (M := 7000) (loose := Ah.loose) (d := HandSHeadRun.topDef (OpenLaw.row PySem.Challenge.rw_answerhouse_k15_houses_deed_by_deed).prog 60) (kwd := []) Ah.ob_eq
    (by kernel_rfl) (fun s => by kernel_rfl) Ah.run (by kernel_rfl) (by kernel_rfl) (by kernel_rfl) (by rfl) (by first | assumption | decide +kernel) (by decide +kernel) ⟨rfl, rfl, rfl, rfl, rfl, by decide +kernel⟩ ?hw ?hc
  case hw => w_witness2
  case hc =>
    refine LamX.walk_ofTsE (l := PySem.Challenge.rw_answerhouse_k15_houses_deed_by_deed) (n := 63) (k := 10) (x := "_law_script") (CX := fun _ => L2.CX0) rfl (by decide) (by kernel_rfl) ⟨rfl, by decide, by decide⟩ ?F (fun _ _ _ _ _ z => z)
    intro w mg fa h Y G hmg0
    obtain ⟨K, KX, c, cv⟩ := Y
    have hmg : mg ("law" : PySem.Str) = some (.ref fa) := by
      have e : (HandSHeadRun.topDef (OpenLaw.row PySem.Challenge.rw_answerhouse_k15_houses_deed_by_deed).prog 60).name = ("law" : PySem.Str) := by kernel_rfl
      rw [← e]
      exact hmg0
    exact ⟨K, KX, Ah.facts KX G hmg c cv⟩
end
