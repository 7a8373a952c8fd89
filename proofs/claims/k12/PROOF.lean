import PyProof.Rows.All
import Wide.All
import OpenK.AllK
import Wide.FinOn
import KE.KDictPairs
import HandS.Zip
import HandS.SetTxt0
import HandS.SetBool
import PyProof.DictMoreH
import KE.KDictCopyH
import KE.KDictKeyed
import HandS.ForMost
import HandS.AnyAll
import HandS.GenList
import HandS.Walk
import KE.GoesEnum
import HandS.IsInst
import HandS.Defaults
import HandS.HeadHook4
import HandS.HeadWalk
import HandS.Conv
import KE.SortData
import HandS.TupAny
import HandS.Evl
import HandS.Head2
import HandS.HeadEnd
import HandS.EndTab
import PySem.Challenge.RW_answerhouse_k12_what_hangs_on_a_row
section
set_option Elab.async false
set_option linter.all false
set_option maxRecDepth 100000
set_option maxHeartbeats 2000000
/-! all(elt for x in iter) where elt may call defs: the generator's block as a context of its own. -/
namespace GxG
open PySem PySem.Spec PyProof.Rows L2 GenW
open GxR (TabB TabG Tabbed inv_tab sh_eta)

/-- the generator expression's own scope: one name of its own, nothing captured, no cells -/
structure GenS (env : Env) (scope : Scope) (x : Str) : Prop where
  kind : scope.kind = .function
  co : scope.isCoroutine = false
  nocf : ∀ y ∈ scope.names, y.2 ≠ .cell ∧ y.2 ≠ .free
  dot : scope.names.lookup (".0" : Str) = some NameKind.local
  loc : scope.names.lookup x = some .local
  clo : cloFrom env.cells scope.names [] = []

/-- the generator has been made: the state sB ahead of its frame, and s5 behind it -/
structure Made (X : Cx) (pins : List (Addr × Obj)) (σ : L2.St) (P : Addr) (H1 H2 : Hp) (tg : Expr) (c0 : Expr) (scope : Scope) (J : It) (it : Addr) (fp : List Addr) (tn : Nat → Heap → Prop) (code : Value) (sB s5 : Shared) : Prop where
  tab : Tabbed P H1 H2
  inv : Inv X pins σ H2 sB
  turn : Turn X.prog X.w X.K tg J fp it tn
  tn0 : tn 0 sB.heap
  fpo : ∀ b ∈ fp, FpOk X pins H2 b ∧ b < sB.heap.objs.size
  os : s5.os = sB.os
  bare : AllBare s5.gens
  keep : ∀ b o, sB.heap.get? b = some o → s5.heap.get? b = some o
  ns : s5.heap.Ns sB.heap.objs.size (fun y => if y = (".0" : Str) then some (.ref it) else none)
  gen : ∃ go nm qn, s5.heap.get? (sB.heap.objs.size + 1) = some go ∧ go.cls = .type "generator" ∧ go.data = .fields #[.int sB.gens.size 0, nm, qn] ∧ go.slots = #[]
  gs : s5.gens[sB.gens.size]? = some (.fresh (.compStart c0 0 (.ref it) .none (genEnv scope [] sB.heap.objs.size code builtinsNs X.env)))

section
variable {X : Cx} {pins : List (Addr × Obj)} {σ : L2.St} {H : Hp} {s : Shared}
theorem gen_it {c P : Addr} {elt iter tg : Expr} {x : Str} {gpos : Pos} {scope : Scope} {wi : TI} {k : Nat} {Q' : Value → Shared → Prop} {R : It → Hp → Prop}
    (hr : Room k X.A) (TB : TabB X.base X.mg c P) (hcode : X.env.code = .ref c) (S : GenS X.env scope x) (hi : PI X tg iter wi)
    (hs : ∀ v, genFold iter X.env v = pure v) (I : Inv X pins σ H s) (h : wi σ H fun J H1 => TabG H1 P ∧ R J H1)
    (hQ : ∀ J H1 H2 it fp tn code sB s5, R J H1 → Made X pins σ P H1 H2 tg (.GeneratorExp elt [⟨tg, iter, [], 0⟩] scope gpos) scope J it fp tn code sB s5 → Q' (.ref (sB.heap.objs.size + 1)) s5) :
    wpAny (model X.prog X.w) X.A (eval (.GeneratorExp elt [⟨tg, iter, [], 0⟩] scope gpos) X.env) Q' X.xe s := by
  refine wpAny_GeneratorExp_make (cl := []) S.co (by rw [← S.clo]; exact closure_ok fun y hy e => absurd e (S.nocf y hy).2) (fun y hy => (S.nocf y hy).1) S.dot S.kind (by have := hr.dp; omega) ?_ hs
  refine thn (hi.run pins s σ H _ I h) fun xv s1 h1 => thn h1 fun itv s2 h2 => ?_
  obtain ⟨it, fp, tn, J, H1, rfl, I1, T, st1, f1, ⟨ps, hP, ht⟩, hR⟩ := h2
  have hPs : s2.heap.get? P = some { cls := .none, data := .fields ps } := I1.hok P _ hP
  have cd : PySem.W.CodeHd s2.heap c P := TB.code.keeps fun b u e => I1.bk b u e
  refine ⟨I1.nolimit, ?_⟩
  have fpl : ∀ b ∈ fp, b < s2.heap.objs.size := fun b hb => let ⟨o, e, _⟩ := T.obj _ _ st1 b hb; Heap.lt_size e
  have fpP : ∀ b ∈ fp, b ≠ P := fun b hb z => by
    have := (f1 b hb).1
    rw [z, hP] at this
    cases this
  have cont : ∀ (code : Value) (h3 : Heap) (tk : Nat) (more : Array Value), Heap.ExtBut P s2.heap h3 → s2.heap.objs.size ≤ h3.objs.size → h3.get? P = some { cls := .none, data := .fields (ps ++ more) } → TriplesOk (ps ++ more).toList →
      wpAny (model X.prog X.w) X.A (builtinsFor X.env.globals X.env.builtins) (fun bi s₄ => ∀ h', h'.Ns s₄.heap.objs.size (fun y => if y = (".0" : Str) then some (.ref it) else none) → Heap.SameBut s₄.heap.objs.size (s₄.heap.push { cls := .type "frame", data := .dict #[] }) h' →
          Q' (.ref h'.objs.size) { s₄ with
            gens := s₄.gens.push (.fresh (.compStart (.GeneratorExp elt [⟨tg, iter, [], 0⟩] scope gpos) 0 (.ref it) .none (genEnv scope [] s₄.heap.objs.size code bi X.env))),
            toks := s₄.toks + 1 + 1 + 1,
            heap := h'.push { cls := .type "generator", data := .fields #[.int s₄.gens.size 0, .str "<genexpr>" (s₄.toks + 1), .str (X.env.qual ++ "<genexpr>") (s₄.toks + 1 + 1)] } }) X.xe { s2 with heap := h3, toks := tk } := by
    intro code h3 tk more hx hsz hP3 ht3
    obtain ⟨bm, ob, e1, e2, e3, e4, e5, e6, e7, e8⟩ := TB.bm
    refine wpAny_builtinsFor (m := X.mg) (by rw [I1.ok.glob]; exact (I1.mod.glob.keeps I1.bk).extBut hx TB.gP) e1 e2 (hx _ _ e4 (I1.bk _ _ e5)) e6 e7 e8 ?_
    intro h' hn' hs'
    have J3 : Inv X pins σ (upd H1 P (.tbl (ps ++ more))) { s2 with heap := h3, toks := tk } :=
      inv_tab (more := more) (h' := h3) (g' := s2.gens) (d' := s2.drawn) (t' := tk) I1 hP (fun b u hb e => hx b u hb e) hP3 I1.bare
    have hsz' : h'.objs.size = h3.objs.size + 1 := by rw [hs'.1, Heap.size_push]
    have keep' : ∀ b o, h3.get? b = some o → h'.get? b = some o := fun b o e => hs'.extBut b o (Nat.ne_of_lt (Heap.lt_size e)) (Heap.get?_push_of_some _ e)
    have e9 : Value.ref h'.objs.size = Value.ref (h3.objs.size + 1) := by rw [hsz']
    rw [e9]
    refine hQ J H1 (upd H1 P (.tbl (ps ++ more))) it fp tn code { s2 with heap := h3, toks := tk } _ hR
      ⟨⟨⟨_, upd_same, ht3⟩, fun b hb => upd_ne hb⟩, J3, T, T.keep _ _ _ st1 fun b hb o e => hx b o (fpP b hb) e, fun b hb => ⟨?_, Nat.lt_of_lt_of_le (fpl b hb) hsz⟩, rfl, I1.bare.push rfl, fun b o e => Heap.get?_push_of_some _ (keep' b o e), hn'.push _, ?_, Array.getElem?_push_size ..⟩
    · obtain ⟨q0, q1⟩ := f1 b hb
      exact ⟨by rw [upd_ne (fpP b hb)]; exact q0, q1⟩
    · have hg := Heap.get?_push_size (h := h') (o := { cls := .type "generator", data := .fields #[.int s2.gens.size 0, .str "<genexpr>" (tk + 1), .str (X.env.qual ++ "<genexpr>") (tk + 1 + 1)] }) rfl
      rw [hsz'] at hg
      exact ⟨_, _, _, hg, rfl, rfl, rfl⟩
  cases hf : codeAmong gpos ps.toList with
  | none =>
    refine wpAny_genexprCodeX hcode (cd.code hPs ht) (cd.tab hPs) hf fun c' h' tk hx hge hlt hco' _ htab' _ => ?_
    obtain ⟨o1, vs, f1', tf, fl, tg', inF, tx, tt, op, _, _, _, _, _, _, _, _, _, htr, _⟩ := hco'
    exact cont _ h' tk _ hx (Nat.le_trans hge (Nat.le_of_lt hlt)) htab'.2 htr
  | some cv =>
    refine wpAny_genexprCode_hit hcode (cd.code hPs ht) hf ?_
    have e0 : ps ++ (#[] : Array Value) = ps := by simp
    exact cont cv s2.heap s2.toks #[] (Heap.ExtBut.refl _ _) (Nat.le_refl _) (by rw [e0]; exact hPs) (by rw [e0]; exact ht)
end
end GxG
end
section
set_option Elab.async false
set_option linter.all false
set_option maxRecDepth 100000
set_option maxHeartbeats 2000000
namespace GxG
open PySem PySem.Spec PyProof.Rows L2 GenW
open GxR (TabB TabG Tabbed inv_tab sh_eta)
abbrev gEnv (X : Cx) (sB : Shared) (scope : Scope) (code : Value) : Env := genEnv scope [] sB.heap.objs.size code builtinsNs X.env
/-- the generator's block -/
def gcx (X : Cx) (A : Around) (sB : Shared) (H : Hp) (x : Str) (scope : Scope) (code : Value) (fp : List Addr) (pn : List (Addr × Obj)) : Cx :=
  { X with A := A.deeper (gEnv X sB scope code), N := [x], s_0 := sB, H_0 := H, env := gEnv X sB scope code, outer := X.stack, stack := gEnv X sB scope code :: X.stack, ex := fp, fn := fun _ => true, calm := true, pn := pn, xe := fun _ _ => False }
theorem over_gen {A : Around} {elt tg iter : Expr} {ifs : List Expr} {scope : Scope} {pos : Pos} {it acc : Value} {env : Env} :
    A.over (.compLoop (.GeneratorExp elt [⟨tg, iter, ifs, 0⟩] scope pos) 0 it acc env) [] = A.deeper env := by
  obtain ⟨hd, d, fr, gs, u⟩ := A
  simp [Around.over, Around.deeper, marksOver, frameCount, unitsOf, envsOf, guardsOf, pushEnvs, pushGuards, Code.envs, Code.env?, Code.isFrame, Code.guards, Code.isGuard, Code.weight, Code.frames, Code.isCreation, Code.isCaller, Code.cUnits]
theorem over_gen0 {A : Around} {elt tg iter : Expr} {ifs : List Expr} {scope : Scope} {pos : Pos} {it acc : Value} {env : Env} :
    A.over (.compStart (.GeneratorExp elt [⟨tg, iter, ifs, 0⟩] scope pos) 0 it acc env) [] = A.deeper env := by
  obtain ⟨hd, d, fr, gs, u⟩ := A
  simp [Around.over, Around.deeper, marksOver, frameCount, unitsOf, envsOf, guardsOf, pushEnvs, pushGuards, Code.envs, Code.env?, Code.isFrame, Code.guards, Code.isGuard, Code.weight, Code.frames, Code.isCreation, Code.isCaller, Code.cUnits]
end GxG
namespace GxG
open PySem PySem.Spec PyProof.Rows L2 GenW
open GxR (TabB TabG Tabbed inv_tab sh_eta)
section
variable {X : Cx} {pins : List (Addr × Obj)} {σ : L2.St} {P : Addr} {H1 H2 : Hp} {tg c0 : Expr} {scope : Scope} {J : It} {it : Addr} {fp : List Addr} {tn : Nat → Heap → Prop} {code : Value} {sB s5 : Shared} {A : Around} {x : Str} {pn : List (Addr × Obj)}
theorem gcx_ok (M : Made X pins σ P H1 H2 tg c0 scope J it fp tn code sB s5) (S : GenS X.env scope x) (hA : A.frames = some X.stack) (hh : A.handled = none) : (gcx X A sB H2 x scope code fp pn).Ok := by
  have I := M.inv
  have noc : ∀ (y : Str) (c : Addr), (gEnv X sB scope code).cells.lookup y = some c → False := fun y c e => by
    have e' : ([] : List (Str × Addr)).lookup y = some c := e
    cases e'
  refine ⟨I.ok.mod, S.kind, I.ok.glob, rfl, Nat.le_refl _, fun y z c e => (noc y c e).elim, fun y hy => ?_, fun y c _ e => (noc y c e).elim, fun _ => hh, ?_, .inr ⟨rfl, rfl⟩, fun b hb => ⟨Nat.ne_of_lt (M.fpo b hb).2, fun y c e => (noc y c e).elim⟩, I.bs, Nat.le_trans I.ok.bsz I.sz, fun b o e hb => ?_, fun b hb z => ?_, I.stack, I.stkFree⟩
  · have key : ∀ k, scope.names.lookup y = some k → k = .cell ∨ k = .free → False := fun k hk hk' => by
      have q := S.nocf (y, k) (PySem.mem_of_lookup hk)
      rcases hk' with z | z
      · exact q.1 z
      · exact q.2 z
    rcases hy with hy | hy
    · exact (key _ hy (.inl rfl)).elim
    · exact (key _ hy (.inr rfl)).elim
  · show (A.frames.map _) = some (gEnv X sB scope code :: X.stack)
    rw [hA] <;> rfl
  · rcases (M.fpo b hb).1.2.2.2.1 with z | z
    · exact I.ok.noex b o e z
    · exact absurd (Nat.lt_of_lt_of_le (Heap.lt_size e) (Nat.le_trans I.ok.bsz z)) (Nat.lt_irrefl _)
  · rcases List.mem_cons.mp (I.stkSub b z) with z | z
    · exact (M.fpo b hb).1.2.1 z
    · exact (M.fpo b hb).1.2.2.1 z
theorem inv_gen {go : Obj} {nm qn : Value} (M : Made X pins σ P H1 H2 tg c0 scope J it fp tn code sB s5) (S : GenS X.env scope x) (hA : A.frames = some X.stack) (hh : A.handled = none)
    (hg : s5.heap.get? (sB.heap.objs.size + 1) = some go) (hd : go.data = .fields #[.int sB.gens.size 0, nm, qn]) : Inv (gcx X A sB H2 x scope code fp [(sB.heap.objs.size + 1, go)]) [] [none] H2 s5 := by
  have I := M.inv
  refine ⟨gcx_ok M S hA hh, M.os, M.bare, Un.kept M.keep, ⟨_, M.ns, fun i y v e1 e2 e3 => ?_⟩, fun y c e => ?_, I.hok.fresh (Nat.le_refl _), fun y c e => ?_, fun p hp => ?_, I.hok.kept M.keep, rfl⟩
  · cases i with
    | zero => cases e2
    | succ i => cases e2
  · have e' : ([] : List (Str × Addr)).lookup y = some c := e
    cases e'
  · have e' : ([] : List (Str × Addr)).lookup y = some c := e
    cases e'
  · rcases List.mem_append.mp hp with z | z
    · rw [List.mem_singleton.mp z]
      refine ⟨hg, I.hok.fresh (Nat.le_succ _), Nat.succ_ne_self _, fun hm => ?_, fun v q => by rw [hd] at q; cases q⟩
      have q := I.stkSub _ hm
      rcases List.mem_cons.mp q with z2 | z2
      · have h1 : X.env.locals < sB.heap.objs.size := I.lt
        have h2 : sB.heap.objs.size + 1 = X.env.locals := z2
        rw [← h2] at h1
        exact absurd h1 (Nat.not_lt_of_le (Nat.le_succ _))
      · exact I.nofs (Nat.le_succ _) z2
    · cases z
/-- what a state with the same heap inherits -/
theorem inv_same {Y : Cx} {pins : List (Addr × Obj)} {σ : L2.St} {H : Hp} {s s' : Shared} (I : Inv Y pins σ H s) (ho : s'.os = s.os) (hg : AllBare s'.gens) (hk : ∀ b o, s.heap.get? b = some o → s'.heap.get? b = some o) : Inv Y pins σ H s' :=
  I.call' (ch := []) ho (Un.kept hk) (I.hok.kept hk) hg fun b hb => absurd hb (by simp)
/-- back in the def -/
theorem inv_back {σ' : L2.St} {pins' : List (Addr × Obj)} {H' : Hp} {s' : Shared} (M : Made X pins σ P H1 H2 tg c0 scope J it fp tn code sB s5) (I' : Inv (gcx X A sB H2 x scope code fp pn) pins' σ' H' s') : Inv X pins σ H' s' :=
  M.inv.call' (ch := fp) I'.os I'.base I'.hok I'.bare fun b hb => ⟨(M.fpo b hb).1.2.2.2.1, (M.fpo b hb).1.2.1, (M.fpo b hb).1.2.2.2.2.1, (M.fpo b hb).1.2.2.2.2.2⟩
end
end GxG
end
section
set_option Elab.async false
set_option linter.all false
set_option maxRecDepth 100000
set_option maxHeartbeats 2000000
namespace GxG
open PySem PySem.Spec PyProof.Rows L2 GenW
open GxR (TabB TabG Tabbed inv_tab sh_eta)
/-- what the generator keeps to: the end, an item -/
def GEnd (B : Cx) (QT : Hp → Prop) : GenEnd := fun _ _ r s1 => ((r = .ok (.ret .none) ∨ r = .ok .next) ∧ ∃ H', Inv B [] [none] H' s1 ∧ QT H') ∨ ∃ e, r = .error e ∧ False
def GItem (B : Cx) (QF : Hp → Prop) : Protocol := fun _ _ v s1 kap => ∃ c H' σ' pins', v = .bool c ∧ Inv B pins' σ' H' s1 ∧ (c = false → QF H') ∧ (c = true → ∀ s', s'.heap = s1.heap → s'.os = s1.os → AllBare s'.gens → kap (.send .none) s')
/-- the walk's invariant and its turns -/
def GTurns (J : It) (g : TG) (te : TE) (W : Nat → Nat → Hp → Prop) (QT QF : Hp → Prop) : Prop :=
  ∀ i m H, W i m H → (J.stop i H ∧ QT H) ∨ (J.go i H ∧ ∃ Nx : Hp → Prop, (∀ H', Nx H' → ∃ m', m' < m ∧ W (i + 1) m' H') ∧ ∀ y H', J.yld i H y H' → g y [none] H' fun σ2 H2 => te σ2 H2 fun z H3 => ∃ c, z = .bl c ∧ if c = true then Nx H3 else QF H3)
section
variable {X : Cx} {pins : List (Addr × Obj)} {σ : L2.St} {P : Addr} {H1 H2 : Hp} {elt tg iter : Expr} {scope : Scope} {gpos : Pos} {J : It} {it : Addr} {fp : List Addr} {tn : Nat → Heap → Prop} {code : Value} {sB s5 : Shared} {A : Around} {x : Str} {pn : List (Addr × Obj)}
theorem seg_loop {g : TG} {te : TE} {W : Nat → Nat → Hp → Prop} {QT QF : Hp → Prop} (hco : scope.isCoroutine = false) (T : Turn X.prog X.w X.K tg J fp it tn)
    (hg : PG (gcx X A sB H2 x scope code fp pn) tg g) (he : PE (gcx X A sB H2 x scope code fp pn) elt te) (turn : GTurns J g te W QT QF) :
    ∀ (m n i : Nat) (s₀ s : Shared) (H : Hp), m < n → W i m H → Inv (gcx X A sB H2 x scope code fp pn) [] [none] H s → tn i s.heap → (∀ b ∈ fp, FpOk (gcx X A sB H2 x scope code fp pn) [] H b) →
      Seg (model X.prog X.w) A (GEnd (gcx X A sB H2 x scope code fp pn) QT) (GItem (gcx X A sB H2 x scope code fp pn) QF) n s₀
        (.compLoop (.GeneratorExp elt [⟨tg, iter, [], 0⟩] scope gpos) 0 (.ref it) .none (gEnv X sB scope code))
        ((model X.prog X.w).den (.compLoop (.GeneratorExp elt [⟨tg, iter, [], 0⟩] scope gpos) 0 (.ref it) .none (gEnv X sB scope code))) [] s := by
  intro m
  induction m using Nat.strongRecOn with
  | ind m ih =>
    intro n i s₀ s H hn hW I hst hfp
    obtain ⟨n, rfl⟩ : ∃ q, n = q + 1 := ⟨n - 1, by omega⟩
    show Seg _ A _ _ _ s₀ _ ((compTurn (.GeneratorExp elt [⟨tg, iter, [], 0⟩] scope gpos) 0 (.ref it) .none (gEnv X sB scope code)).onRaise (leaving (gEnv X sB scope code))) [] s
    rw [compTurn_gen, Sem.onRaise_eq_wrap]
    refine seg_bind_wrap (wpAny_standAt ?_)
    rcases turn i m H hW with ⟨stop, q⟩ | ⟨go, Nx, hNx, step⟩
    · refine seg_bind_wrap ?_
      rw [over_gen]
      refine thnF (T.done (gcx X A sB H2 x scope code fp pn) rfl rfl rfl rfl i [] s [none] H (fun _ _ => False) I hfp hst stop) fun r s1 ⟨hr, I1⟩ => ?_
      subst hr
      exact seg_end (.ok .next) (.inl ⟨.inr rfl, H, I1, q⟩)
    · refine seg_bind_wrap ?_
      rw [over_gen]
      refine thnF (T.item (gcx X A sB H2 x scope code fp pn) rfl rfl rfl rfl i [] s [none] H (fun _ _ => False) I hfp hst go) fun r s1 ⟨u, hr, h1⟩ => ?_
      subst hr
      dsimp only
      refine seg_bind_wrap ?_
      rw [over_gen]
      refine thnF h1 fun _ s2 ⟨y, H', I2, r2, y2, st2, n2⟩ => ?_
      have f2 : ∀ b ∈ fp, FpOk (gcx X A sB H2 x scope code fp pn) [] H' b := fun b hb => ⟨n2 b hb, (hfp b hb).2⟩
      have I2' := I2.pinned f2 (T.obj _ _ st2)
      refine seg_bind_wrap ?_
      rw [over_gen]
      refine thnF (hg.run _ s2 _ H' y u _ I2' r2 (step y H' y2)) fun _ s3 ⟨σ3, H3, I3, q3⟩ => ?_
      simp only [List.forIn_nil]
      refine seg_bind_wrap (wpAny_pure ?_)
      simp only [if_true]
      have hy : ∀ v, yieldOut (gEnv X sB scope code) v = yieldValue v := fun v => by
        have e : (gEnv X sB scope code).scope.isCoroutine = false := hco
        simp only [yieldOut, e, Bool.false_eq_true, if_false]
      simp only [hy]
      rw [Sem.bind_eq_wrap', Sem.bind_eq_wrap', Sem.wrap_wrap, Sem.wrap_wrap]
      refine seg_wrap ?_
      rw [over_gen]
      refine thnF (he.run _ s3 σ3 H3 _ I3 q3) fun v s4 ⟨z, H4, I4, r4, c, ez, q4⟩ => ?_
      subst ez
      cases (show v = Value.bool c from r4)
      refine seg_at (seg_yield rfl rfl rfl ⟨c, H4, _, _, rfl, I4, fun e => ?_, fun e s'' eh eo eb => ?_⟩)
      · subst e
        exact q4
      · subst e
        obtain ⟨m', hm', hW'⟩ := hNx H4 q4
        have pin' : ∀ b ∈ fp, ∀ o, s2.heap.get? b = some o → s4.heap.get? b = some o ∧ H4 b = none := fun b hb o e =>
          let z := I4.pin (b, o) (List.mem_append_right _ (List.mem_append_right _ (mem_pinsAt hb e)))
          ⟨z.1, z.2.1⟩
        have I5 : Inv (gcx X A sB H2 x scope code fp pn) [] [none] H4 s'' := inv_same ((I4.unpinned (pins := [])).weak (by rw [I4.len]; rfl) (fun j v e => by
          cases j with
          | zero => cases e
          | succ j => cases e)) eo eb fun b o e => by rw [eh]; exact e
        refine seg_again rfl (ih m' hm' n (i + 1) s'' s'' H4 (by omega) hW' I5 (T.keep _ _ _ st2 fun b hb o e => by rw [eh]; exact (pin' b hb o e).1) fun b hb => ⟨?_, (hfp b hb).2⟩)
        obtain ⟨o, e, _⟩ := T.obj _ _ st2 b hb
        exact (pin' b hb o e).2
end
end GxG
end
section
set_option Elab.async false
set_option linter.all false
set_option maxRecDepth 100000
set_option maxHeartbeats 2000000
namespace GxG
open PySem PySem.Spec PyProof.Rows L2 GenW
open GxR (TabB TabG Tabbed inv_tab sh_eta)
section
variable {A : Around} {R : Result → Shared → Prop} {B : Cx} {QT QF : Hp → Prop} {a : Addr} {g : Nat} {go : Obj} {nm qn : Value}
theorem drain_all (hh : A.handled = none) (hd : A.depth < recursionLimit) (hpn : (a, go) ∈ B.pn) (hgo : go.cls = .type "generator" ∧ go.data = .fields #[.int g 0, nm, qn] ∧ go.slots = #[])
    (hT : ∀ H' s1 s', Inv B [] [none] H' s1 → QT H' → s'.os = s1.os → AllBare s'.gens → (∀ b o, s1.heap.get? b = some o → s'.heap.get? b = some o) → R (.ok (.ret (.bool true))) s')
    (hF : ∀ H' σ' pins' s1 s', Inv B pins' σ' H' s1 → QF H' → s'.os = s1.os → AllBare s'.gens → (∀ b o, s1.heap.get? b = some o → s'.heap.get? b = some o) → R (.ok (.ret (.bool false))) s') :
    ∀ (n : Nat) (s : Shared), s.heap.IsGen a g → s.heap.NoLimit →
      (∃ gs, s.gens[g]? = some gs ∧ gs.Goes (model B.prog B.w) A.in1.in1 (GEnd B QT) (GItem B QF) n (.send .none) (s.setGen g .running)) →
      codeAny (model B.prog B.w) A (.builtin "all.loop" ⟨[.ref a], []⟩) R s := by
  have goes : ∀ {gs : GenState} {A' : Around} {n : Nat} {r : Resume} {s : Shared}, gs.Goes (model B.prog B.w) A' (GEnd B QT) (GItem B QF) n r s →
      gs.Goes (model B.prog B.w) A' (fun n s₀ r s1 => ((r = .ok (.ret .none) ∨ r = .ok .next) ∧ (∃ H', Inv B [] [none] H' s1 ∧ QT H')) ∨ ∃ e, r = .error e ∧ False) (GItem B QF) n r s := fun h => h
  have isg : ∀ {pins' σ' H' s'}, Inv B pins' σ' H' s' → s'.heap.IsGen a g := fun {pins' σ' H' s'} I =>
    ⟨go, nm, qn, (I.pin (a, go) (List.mem_append_left _ hpn)).1, hgo.1, hgo.2.1, hgo.2.2⟩
  intro n
  induction n with
  | zero =>
    intro s hg hl ⟨gs, hgs, hgo'⟩
    refine codeAny_builtin F.entry_all_loop ?_
    rw [Around.under_plainId F.plain_all_loop _]
    show wpAny _ A.in1 (pyNext (.ref a) >>= _) _ _ s
    refine wpAny_bind (next_genG (A := A.in1) (Er := fun _ _ => False) hh hl hd hg hgs (goes hgo') (fun v s₁ gs' hbare hv => ?_) (fun s₁ hp h' hk => ?_) fun e s₁ he => he.elim)
    · obtain ⟨c, H', σ', pins', rfl, I', q1, q2⟩ := hv
      refine wpAny_bind (wpAny_holding (wpAny_truthy_bool ?_))
      refine wpAny_bind (wpAny_letGo ?_)
      cases c with
      | true => exact False.elim (q2 rfl s₁ rfl rfl I'.bare)
      | false =>
        simp only [Bool.false_eq_true, if_false]
        exact wpAny_bind (wpAny_rule (wpAny_pure (hF H' σ' pins' s₁ _ I' (q1 rfl) rfl (allBare_setGen I'.bare hbare) fun b o e => e)))
    · obtain ⟨H', I', q⟩ := hp
      exact wpAny_bind (wpAny_rule (wpAny_pure (hT H' s₁ _ I' q rfl (allBare_setGen I'.bare rfl) hk)))
  | succ n ih =>
    intro s hg hl ⟨gs, hgs, hgo'⟩
    have hgl : g < s.gens.size := (Array.getElem?_eq_some_iff.mp hgs).1
    refine codeAny_builtin F.entry_all_loop ?_
    rw [Around.under_plainId F.plain_all_loop _]
    show wpAny _ A.in1 (pyNext (.ref a) >>= _) _ _ s
    refine wpAny_bind (wpAny_gsz (n := g + 1) hgl (next_genG (A := A.in1) (Er := fun _ _ => False) hh hl hd hg hgs (goes hgo') (fun v s₁ gs' hbare hv => ?_) (fun s₁ hp h' hk => ?_) fun e s₁ he => he.elim))
    · intro hsz
      obtain ⟨c, H', σ', pins', rfl, I', q1, q2⟩ := hv
      refine wpAny_bind (wpAny_holding (wpAny_truthy_bool ?_))
      refine wpAny_bind (wpAny_letGo ?_)
      cases c with
      | true =>
        simp only [if_true]
        have hsz1 : g < s₁.gens.size := by
          have q : (s₁.setGen g gs').gens.size = s₁.gens.size := setGen_size _ _ _
          have hsz' : g + 1 ≤ (s₁.setGen g gs').gens.size := hsz
          omega
        refine wpAny_pure ⟨plainId_quiet F.plain_all_loop _, ih (s₁.setGen g gs') (show s₁.heap.IsGen a g from isg I') (show s₁.heap.NoLimit from I'.nolimit) ⟨gs', setGen_at hsz1, ?_⟩⟩
        exact q2 rfl _ rfl rfl (allBare_setGen (s := s₁.setGen g gs') (allBare_setGen I'.bare hbare) rfl)
      | false =>
        simp only [Bool.false_eq_true, if_false]
        exact wpAny_bind (wpAny_rule (wpAny_pure (hF H' σ' pins' s₁ _ I' (q1 rfl) rfl (allBare_setGen I'.bare hbare) fun b o e => e)))
    · intro hsz
      obtain ⟨H', I', q⟩ := hp
      exact wpAny_bind (wpAny_rule (wpAny_pure (hT H' s₁ _ I' q rfl (allBare_setGen I'.bare rfl) hk)))
end
/-- all(elt for tg in iter): the walk's invariant W by turn and measure; behind it the def's table may have grown -/
def tAllG (P : Addr) (wi : TI) (g : TG) (te : TE) : TE := fun σ H Q => wi σ H fun J H1 => TabG H1 P ∧ ∀ H2, Tabbed P H1 H2 → ∃ W : Nat → Nat → Hp → Prop, (∃ m, W 0 m H2) ∧ GTurns J g te W (Q (.bl true)) (Q (.bl false))
section
variable {X : Cx}
theorem pe_allG {c P : Addr} {elt iter tg : Expr} {x : Str} {p pos gpos : Pos} {scope : Scope} {wi : TI} {g : TG} {te : TE} {k : Nat}
    (hr : Room (k + 1) X.A) (hg : Gl X "all") (hm : X.mg "all" = none) (TB : TabB X.base X.mg c P) (hcode : X.env.code = .ref c) (S : GenS X.env scope x) (hi : PI X tg iter wi)
    (hpg : ∀ (A : Around) (sB : Shared) (H : Hp) (code : Value) (fp : List Addr) (pn : List (Addr × Obj)), PG (gcx X A sB H x scope code fp pn) tg g)
    (hel : ∀ (A : Around) (sB : Shared) (H : Hp) (code : Value) (fp : List Addr) (pn : List (Addr × Obj)), Room k (gcx X A sB H x scope code fp pn).A → PE (gcx X A sB H x scope code fp pn) elt te)
    (hs : ∀ v, genFold iter X.env v = pure v := by intro _; rfl)
    (he : starEach [.GeneratorExp elt [⟨tg, iter, [], 0⟩] scope gpos] X.env = (false, eval (.GeneratorExp elt [⟨tg, iter, [], 0⟩] scope gpos) X.env) :: starEach [] X.env := by rfl) :
    PE X (.Call (.Name "all" p) [.GeneratorExp elt [⟨tg, iter, [], 0⟩] scope gpos] [] pos) (tAllG P wi g te) := by
  refine ⟨fun pins s σ H Q I h => ?_⟩
  refine wpAny_Call_Name_kw (ld_blt I hg hm (by decide +kernel : bootBuiltins "all" = some (.builtin "all")) ?_)
  refine PyProof.Rows.callWith_builtin1 ?_ he (by rfl)
  rw [he]
  show wpAny _ _ (spliced ((false, eval (.GeneratorExp elt [⟨tg, iter, [], 0⟩] scope gpos) X.env) :: backTo pos (starEach [] X.env))) _ _ s
  refine Calls.spliced_cons (gen_it (R := fun J H1 => ∀ H2, Tabbed P H1 H2 → ∃ W : Nat → Nat → Hp → Prop, (∃ m, W 0 m H2) ∧ GTurns J g te W (Q (.bl true)) (Q (.bl false))) hr TB hcode S hi hs I h fun J H1 H2 it fp tn code sB s5 hR M => ?_)
  refine Calls.spliced_nil ?_
  obtain ⟨W, ⟨m0, w0⟩, turn⟩ := hR H2 M.tab
  obtain ⟨go, nm, qn, hgo, hc, hd, hsl⟩ := M.gen
  have hh : X.A.handled = none := hr.hd
  have hA : X.A.in1.in1.frames = some X.stack := I.ok.frames
  have I5 := inv_gen (A := X.A.in1.in1) M S hA hh hgo hd
  have hroom : Room k (gcx X X.A.in1.in1 sB H2 x scope code fp [(sB.heap.objs.size + 1, go)]).A := by
    refine ⟨hh, ?_, ?_⟩
    · have := hr.dp
      show X.A.depth + 1 + 3 * k + 5 < _
      omega
    · have := hr.un
      show X.A.units + 1 + 1 + 3 + 16 * k + 200 < _
      omega
  have hgl : sB.gens.size < s5.gens.size := (Array.getElem?_eq_some_iff.mp M.gs).1
  refine call_function_tree F.kind_all F.plain_all F.entry_all (F.args_all1 _) ?_
  unfold Builtin.«all»
  refine wpAny_bind (m := oneArg "all" _) (wpAny_pure ?_)
  refine wpAny_bind (wpAny_pyIter_gen (g := sB.gens.size) ⟨go, nm, qn, hgo, hc, hd, hsl⟩ ?_)
  refine wpAny_pure ⟨plainId_quiet F.plain_all_loop _, ?_⟩
  refine drain_all (B := gcx X X.A.in1.in1 sB H2 x scope code fp [(sB.heap.objs.size + 1, go)]) (QT := Q (.bl true)) (QF := Q (.bl false)) (g := sB.gens.size) hh hr.depth (List.mem_singleton.mpr rfl) ⟨hc, hd, hsl⟩
    (fun H' s1 s' I' q ho hb hk => ⟨.bl true, H', inv_back M (inv_same I' ho hb hk), rfl, q⟩) (fun H' σ' pins' s1 s' I' q ho hb hk => ⟨.bl false, H', inv_back M (inv_same I' ho hb hk), rfl, q⟩)
    (m0 + 1) s5 ⟨go, nm, qn, hgo, hc, hd, hsl⟩ I5.nolimit ⟨_, M.gs, rfl, ?_⟩
  -- the generator starts
  have I6 : Inv (gcx X X.A.in1.in1 sB H2 x scope code fp [(sB.heap.objs.size + 1, go)]) [] [none] H2 (s5.setGen sB.gens.size .running) := inv_same I5 rfl (allBare_setGen M.bare rfl) fun b o e => e
  have f6 : ∀ b ∈ fp, FpOk (gcx X X.A.in1.in1 sB H2 x scope code fp [(sB.heap.objs.size + 1, go)]) [] H2 b := fun b hb => by
    refine ⟨(M.fpo b hb).1.1, Nat.ne_of_lt (M.fpo b hb).2, fun z => I5.ok.exfs b hb z, .inl hb, fun y c e => ?_, fun p hp => ?_⟩
    · have e' : ([] : List (Str × Addr)).lookup y = some c := e
      cases e'
    · rw [List.mem_singleton.mp hp]
      exact Nat.ne_of_gt (Nat.lt_succ_of_lt (M.fpo b hb).2)
  have tn6 : tn 0 (s5.setGen sB.gens.size .running).heap := M.turn.keep _ _ _ M.tn0 fun b _ o e => M.keep b o e
  have loop := seg_loop (A := X.A.in1.in1) (elt := elt) (iter := iter) (gpos := gpos) (g := g) (te := te) (W := W) (QT := Q (.bl true)) (QF := Q (.bl false)) S.co M.turn (hpg _ sB H2 code fp [(sB.heap.objs.size + 1, go)]) (hel _ sB H2 code fp [(sB.heap.objs.size + 1, go)] hroom) turn
    m0 (m0 + 1) 0 (s5.setGen sB.gens.size .running) (s5.setGen sB.gens.size .running) H2 (Nat.lt_succ_self _) w0 I6 tn6 f6
  show Seg _ _ _ _ _ _ _ ((compStart (.GeneratorExp elt [⟨tg, iter, [], 0⟩] scope gpos) 0 (.ref it) .none (gEnv X sB scope code)).onRaise (leaving (gEnv X sB scope code))) [] _
  unfold compStart
  rw [Sem.onRaise_eq_wrap]
  show Seg _ _ _ _ _ _ _ ((ask >>= _).wrap _ _ _ _) [] _
  refine seg_bind_wrap (wpAny_askSetting ?_)
  split
  · exact seg_again rfl loop
  · refine seg_bind_wrap (wpAny_rule ?_)
    show Seg _ _ _ _ _ _ _ ((standAt iter.pos >>= _).wrap _ _ _ _) [] _
    refine seg_bind_wrap (wpAny_standAt (seg_bind_wrap ?_))
    exact M.turn.self _ 0 _ _ _ tn6 (seg_again rfl loop)
end
end GxG
end
section
set_option Elab.async false
set_option linter.all false
set_option maxRecDepth 100000
namespace GxG
open PySem PySem.Spec PyProof.Rows L2 GenW
theorem nd1 (x : Str) : [x].Nodup := by simp
/-- the turns of all(..) over a walk -/
theorem ga_it {J : It} {n : Nat} {G : Hp → Prop} {Y : Nat → Hp → V → Hp → Prop} (w : Walk J n G Y) {g : TG} {te : TE} {H0 : Hp} {QT QF : Hp → Prop} (Pv : Nat → Hp → Prop) (h0 : Pv 0 H0) (hG : ∀ i H, i ≤ n → Pv i H → G H)
    (hs : ∀ i y H H', i < n → Pv i H → Y i H y H' → g y [none] H' fun σ2 H2 => te σ2 H2 fun z H3 => ∃ c, z = .bl c ∧ if c = true then Pv (i + 1) H3 else QF H3) (hd : ∀ H, Pv n H → QT H) :
    ∃ W : Nat → Nat → Hp → Prop, (∃ m, W 0 m H0) ∧ GTurns J g te W QT QF := by
  refine ⟨fun i m H => m = n - i ∧ i ≤ n ∧ Pv i H, ⟨n, by simp, Nat.zero_le _, h0⟩, ?_⟩
  rintro i m H ⟨rfl, hi, p⟩
  have q := hG i H hi p
  by_cases hlt : i < n
  · exact .inr ⟨w.goes i H hlt q, Pv (i + 1), fun H' p' => ⟨n - (i + 1), by omega, rfl, hlt, p'⟩, fun y H' yy => hs i y H H' hlt p (w.yields i H y H' hlt q yy)⟩
  · have e : i = n := by omega
    subst e
    exact .inl ⟨w.stops H q, hd H p⟩
/-- all of a list, by its first parts -/
theorem all_take {α : Type} {l : List α} {p : α → Bool} {i : Nat} {c : α} (h : (l.take i).all p = true) (hc : l[i]? = some c) : (p c = true → (l.take (i + 1)).all p = true) ∧ (p c = false → l.all p = false) := by
  have e : l.take (i + 1) = l.take i ++ [c] := by rw [List.take_add_one, hc] <;> rfl
  refine ⟨fun z => by rw [e, List.all_append, h]; simp [z], fun z => ?_⟩
  cases q : l.all p with
  | false => rfl
  | true =>
    have := List.all_eq_true.mp q c (List.mem_of_getElem? hc)
    rw [z] at this
    cases this
end GxG
end
section
set_option Elab.async false
set_option linter.all false
set_option maxRecDepth 100000
set_option maxHeartbeats 2000000
/-! enumerate(t), t a tuple, in a for -/
namespace EnT
open PySem PySem.Spec PyProof.Rows L2
theorem meets_new {t : Addr} (items : Array Value) :
    Meets (Builtin.«enumerate.__new__» ⟨[.type "enumerate", .ref t], []⟩) (fun _ R s => s.heap.IsTuple t items ∧
      R (.ok (.ret (.ref (s.heap.push { cls := .type "tuple_iterator", data := .fields #[.ref t, .int 0 0] }).objs.size)))
        { s with heap := (s.heap.push { cls := .type "tuple_iterator", data := .fields #[.ref t, .int 0 0] }).push { cls := .type "enumerate", data := .fields #[.none, .bool false, .ref s.heap.objs.size, rawInt 0, .none, .none] } }) :=
  .of_wp fun prog w A R s h => by
    obtain ⟨hp, g, d, tk, os⟩ := s; obtain ⟨h1, h⟩ := h
    have hsub := sub_enumerate
    have q1 : ∀ {A' : Around} {E : Value → Shared → Prop} {Q : Value → Shared → Prop}, Q (.ref hp.objs.size) ⟨hp.push { cls := .type "tuple_iterator", data := .fields #[.ref t, .int 0 0] }, g, d, tk, os⟩ → wpAny (model prog w) A' (pyIter (.ref t)) Q E ⟨hp, g, d, tk, os⟩ :=
      fun q => (begins_tuple t items).iter prog w _ _ ⟨hp, g, d, tk, os⟩ _ h1 q
    wp_walk using q1
    refine wpAny_stack_any fun st => wpAny_pure ?_
    split
    · rename_i c _ _ _ _ _
      cases (c == Value.type "enumerate")
      · wp_walk using q1
        exact ⟨_, rfl, h⟩
      · wp_walk using q1
        exact ⟨_, rfl, h⟩
    · wp_walk using q1
      exact ⟨_, rfl, h⟩
section
variable {prog : Program} {w : World} {A : Around} {E : Value → Shared → Prop} {s : Shared}
theorem call_enum {t : Addr} {items : Array Value} {Q : Value → Shared → Prop} (h1 : s.heap.IsTuple t items)
    (h : ∀ h', IsEnum h' (s.heap.objs.size + 1) s.heap.objs.size 0 .none → h'.IsTupleIter s.heap.objs.size t 0 →
      (∀ b o, s.heap.get? b = some o → h'.get? b = some o) → Q (.ref (s.heap.objs.size + 1)) { s with heap := h' }) :
    wpAny (model prog w) A (call (.type "enumerate") [.ref t]) Q E s := by
  refine callType_new F.called_enumerate (by decide) (F.typeCall_enumerate_1 _) (F.newCall_enumerate_1 _) (fun obj => F.args_object_init_2 obj _) F.entry_enumerate_new (meets_new items) ⟨h1, ?_⟩
  generalize hob : ({ cls := .type "tuple_iterator", data := .fields #[.ref t, .int 0 0] } : Obj) = ob
  have hfree : ob.isFreed = false := by rw [← hob]; rfl
  have hz : (s.heap.push ob).objs.size = s.heap.objs.size + 1 := Heap.size_push ..
  show _ ∧ _
  rw [hz]
  have he : IsEnum ((s.heap.push ob).push { cls := .type "enumerate", data := .fields #[.none, .bool false, .ref s.heap.objs.size, rawInt 0, .none, .none] }) (s.heap.objs.size + 1) s.heap.objs.size 0 .none := by
    have q := Heap.get?_push_size (s.heap.push ob) (o := { cls := .type "enumerate", data := .fields #[.none, .bool false, .ref s.heap.objs.size, rawInt 0, .none, .none] }) rfl
    rw [hz] at q
    exact q
  refine ⟨⟨_, he, rfl⟩, h _ he ⟨ob, Heap.get?_push_of_some _ (Heap.get?_push_size _ hfree), by subst hob; rfl, by subst hob; rfl⟩ fun b o x => Heap.get?_push_of_some _ (Heap.get?_push_of_some _ x)⟩
end
def IteT (K : PySem.W.Frag) (a : Addr) : It :=
  ⟨fun i H => ∃ (xs : List V) (x : V), SqT K H a xs ∧ xs[i]? = some x, fun i H v H' => ∃ T x, v = .ref T ∧ H T = none ∧ H' = upd H T (.tup [.int (i : Nat), x]) ∧ ∀ xs, SqT K H a xs → xs[i]? = some x, fun i H => ∃ xs : List V, SqT K H a xs ∧ xs.length ≤ i⟩
theorem turn_enumT {P : Program} {w : World} {K : PySem.W.Frag} {elts : List Expr} {kk : Nat} {tpos : Pos} (a e it : Addr) :
    Turn P w K (.Tuple elts kk tpos) (IteT K a) [e, it] e (fun i h => (∃ old, IsEnum h e it ((i : Nat) : Int) old) ∧ h.IsTupleIter it a i ∧ e ≠ it ∧ a ≠ it ∧ e ≠ a) where
  mem := by simp
  obj := fun i h st b hb => by
    obtain ⟨⟨old, he⟩, ⟨o, ho, hc, hd⟩, _⟩ := st
    have e' : b = e ∨ b = it := by simpa using hb
    rcases e' with z | z
    · rw [z]; exact ⟨_, he, fun v q => nomatch q⟩
    · rw [z]; exact ⟨o, ho, fun v q => by rw [hd] at q; cases q⟩
  keep := fun i h h' st k => let ⟨⟨old, he⟩, hi, hne⟩ := st; ⟨⟨old, k e (by simp) _ he⟩, hi.at fun o q => k it (by simp) o q, hne⟩
  item := by
    intro X hP hw hK hc i pins s σ H E I hf st hg
    subst hP hw hK
    obtain ⟨⟨old, he⟩, hit, hne, hai, hea⟩ := st
    obtain ⟨xs, x, hq, hx⟩ := hg
    obtain ⟨its, rv, p, hz⟩ := I.tuple hq
    obtain ⟨u, hu, ru⟩ := rv.get hx
    have hel : e < s.heap.objs.size := Heap.lt_size he
    have hil : it < s.heap.objs.size := by obtain ⟨_, q, _⟩ := hit; exact Heap.lt_size q
    have hsz0 : i < its.toArray.size := by
      have := (List.getElem?_eq_some_iff.mp hu).1
      simpa using this
    refine wpAny_pyNext_enum_itemD (Draws.tuple (A := X.A.in1) (I.ok.hd hc) it a hai its.toArray) he ⟨hit, p⟩ hsz0 hne (by simp [hne, hea]) fun y h' tk hy ho hst hT hsz hk => ?_
    obtain rfl : y = u := by
      rw [show its.toArray[i]? = some u by simpa using hu] at hy
      exact (Option.some.inj hy).symm
    refine ⟨_, rfl, wpAny_letOwnedTupleGo_enum (s := { s with heap := h', toks := tk + 1 }) ho fun h'' he' sb => ?_⟩
    have hT2 : h''.get? s.heap.objs.size = some { cls := .type "tuple", data := .seq #[.int i tk, y] } := (sb.2 _ (Nat.ne_of_gt hel)).trans hT
    have new : ObjOk X.prog X.w (upd H s.heap.objs.size (.tup [.int (i : Nat), x])) h'' s.heap.objs.size (.tup [.int (i : Nat), x]) :=
      ⟨by show 2 ≤ sizeLine; decide, [.int i tk, y], .cons ⟨_, rfl⟩ (.cons ru .nil), ⟨_, hT2, rfl, _, rfl⟩⟩
    have I1 : Inv X pins σ (upd H s.heap.objs.size (.tup [.int (i : Nat), x])) { s with heap := h'', toks := tk + 1 } :=
      I.turnedNew (ch := [e, it]) (fun b ob hb q => (sb.2 b (fun z => hb (by simp [z]))).trans (hk b ob (fun z => hb (by simp [z])) (fun z => hb (by simp [z])) q)) hf (Nat.le_refl _) new
    refine ⟨.ref s.heap.objs.size, _, I1, rfl, ⟨_, x, rfl, I.hok.fresh (Nat.le_refl _), rfl, fun ys hy => by rw [I.tuple_inj hy hq]; exact hx⟩, ⟨⟨y, ?_⟩, hst.1.at fun o q => (sb.2 it (Ne.symm hne)).trans q, hne, hai, hea⟩, fun b hb => ?_⟩
    · have e1 : ((i + 1 : Nat) : Int) = (i : Int) + 1 := by omega
      rw [e1]; exact he'
    · have hb' : b < s.heap.objs.size := by
        have e' : b = e ∨ b = it := by simpa using hb
        rcases e' with z | z
        · rw [z]; exact hel
        · rw [z]; exact hil
      rw [upd_ne (Nat.ne_of_lt hb')]
      exact (hf b hb).1
  done := by
    intro X hP hw hK hc i pins s σ H E I hf st hg
    subst hP hw hK
    obtain ⟨⟨old, he⟩, hit, hne, hai, hea⟩ := st
    obtain ⟨xs, hq, hx⟩ := hg
    obtain ⟨its, rv, p, hz⟩ := I.tuple hq
    obtain ⟨f0, f1, f2, f3, f4, f5⟩ := hf it (by simp)
    have hl := rv.length
    have hT : s.TypeIs (.ref e) "enumerate" := ⟨_, he, rfl⟩
    unfold pyNext
    refine wpAny_bind (wpAny_attempt (wpAny_callSpecial?_slot (name := Str.ofString "__next__") hT F.slot_enumerate_next (wpAny_call_entry F.slot_enumerate_next hT F.entry_enumerate_next ?_ (F.args_enumerate_next_1 _))))
    show wpAny _ _ (field (.ref e) 2 >>= _) _ _ _
    refine wpAny_bind (wpAny_field he rfl (x := .ref it) rfl ?_)
    refine wpAny_bind (wpAny_nextOf_tuple_end (I.ok.hd hc) hit p (by simp; omega) fun h' x he' hx' => ?_)
    obtain ⟨o, ho, hc⟩ := hx'
    refine wpAny_bind (wpAny_isInstance (T := "StopIteration") (b := true) ⟨o, ho, hc⟩ isSubtype_stop ?_)
    exact wpAny_pure ⟨rfl, I.turned (t' := s.toks) (fun b o hb q => he' b o hb q) f0 f1 f3 f4 f5⟩
  self := fun A i s Q E st h => let ⟨⟨_, he⟩, _⟩ := st; wpAny_pyIter_enum he h
def iEnumT (K : PySem.W.Frag) (ta : TA) : TI := fun σ H R => ta σ H fun vs H1 => ∃ a xs, vs = [.ref a] ∧ SqT K H1 a xs ∧ R (IteT K a) H1
theorem pi_enumT {X : Cx} {e : Expr} {ta : TA} {p pos tpos : Pos} {elts : List Expr} {kk : Nat} (hg : Gl X "enumerate") (hm : X.mg "enumerate" = none) (ha : PA X [e] ta) (hs : starEach [e] X.env = [(false, eval e X.env)] := by rfl) :
    PI X (.Tuple elts kk tpos) (.Call (.Name "enumerate" p) [e] [] pos) (iEnumT X.K ta) := by
  refine ⟨fun pins s σ H R I h => ?_⟩
  refine Call_ (ld_blt I hg hm boot_enumerate (PyProof.Rows.callWith_type1 (thn (ha.run pos pins s σ H _ I h) fun us s1 ⟨vs, H1, I1, r1, q1⟩ => ?_) hs rfl))
  obtain ⟨a, xs, ex, hq, q⟩ := q1
  subst ex
  cases r1 with
  | cons r rr =>
    cases rr
    cases r
    obtain ⟨its, rv, p', hz⟩ := I1.tuple hq
    have hal : a < s1.heap.objs.size := let ⟨_, h, _⟩ := p'; Heap.lt_size h
    refine call_enum (items := its.toArray) p' fun h' he hit hk => wpAny_pyIter_enum he ?_
    have I2 : Inv X pins σ H1 { s1 with heap := h' } := I1.kept (t' := s1.toks) hk
    refine ⟨s1.heap.objs.size + 1, [s1.heap.objs.size + 1, s1.heap.objs.size], _, _, H1, rfl, I2, turn_enumT a (s1.heap.objs.size + 1) s1.heap.objs.size, ⟨⟨.none, he⟩, hit, Nat.succ_ne_self _, Nat.ne_of_lt hal, Nat.ne_of_gt (Nat.lt_succ_of_lt hal)⟩, fun b hb => ?_, q⟩
    have e' : b = s1.heap.objs.size + 1 ∨ b = s1.heap.objs.size := by simpa using hb
    have hle : s1.heap.objs.size ≤ b := by
      rcases e' with z | z
      · rw [z]; exact Nat.le_add_right _ _
      · rw [z]; exact Nat.le_refl _
    exact I1.fpOk hle (I1.hok.fresh hle)
theorem walk_enumT {K : PySem.W.Frag} {a : Addr} {xs : List V} : Walk (IteT K a) xs.length (fun H => SqT K H a xs) (YPair (fun i => some (.int (i : Nat))) (fun i => xs[i]?)) := by
  refine ⟨fun i _ hi q => ⟨xs, xs[i], q, by simp [hi]⟩, fun _ q => ⟨xs, q, Nat.le_refl _⟩, fun i H v H' _ q y => ?_⟩
  obtain ⟨T, x, h1, h2, h3, h4⟩ := y
  exact ⟨T, .int (i : Nat), x, h1, h2, h3, rfl, h4 xs q⟩
end EnT
end
section
set_option Elab.async false
set_option linter.all false
set_option maxRecDepth 100000
set_option maxHeartbeats 2000000
namespace Ah
open PySem PySem.Spec PyProof.Rows L2
open GxR (TabB TabG Tabbed)
/-! ### the text by places -/
def top (i : Nat) : Stmt := PySem.Challenge.pw_answerhouse_k12_what_hangs_on_a_row.main.body.getD i (.Pass ⟨0, 0, 0, 0⟩)
abbrev sPlaces : Stmt := top 2
abbrev sLKind : Stmt := top 3
abbrev sLOn : Stmt := top 4
abbrev sLTie : Stmt := top 5
abbrev sLBy : Stmt := top 6
abbrev sRInit : Stmt := inClass (top 7) 0
abbrev sRLeads : Stmt := inClass (top 7) 1
abbrev sRWork : Stmt := inClass (top 7) 2
abbrev sAll : Stmt := top 8
abbrev sBadrowInit : Stmt := inClass (top 11) 0
abbrev sIsWord : Stmt := top 19
abbrev sIsRow : Stmt := top 20
abbrev sIsNumber : Stmt := top 21
abbrev sCheck : Stmt := top 22
abbrev sCheckNumber : Stmt := top 23
abbrev sToldOf : Stmt := top 24
abbrev sNamesOf : Stmt := top 25
abbrev sFollows : Stmt := top 27
abbrev sResultsOf : Stmt := top 29
abbrev sLeft : Stmt := top 30
abbrev sHanging : Stmt := top 31
abbrev sParted : Stmt := top 32
abbrev sOnlyFirst : Stmt := top 33
abbrev lRow : Stmt := top 35
abbrev lTaken : Stmt := top 36
abbrev lOne : Stmt := top 37
abbrev lText : Stmt := top 38
abbrev lLed : Stmt := top 39
abbrev lBoth : Stmt := top 40
abbrev lFollow : Stmt := top 41
abbrev lAlike : Stmt := top 42
abbrev lLaw : Stmt := top 43
abbrev FnP (K : PySem.W.Frag) (x : Str) (st : Stmt) (f : Addr) (fd : FuncData) : Prop := FunD K x x (defArgs st) (defBody st) (defScope st) [] [] f fd
/-- the rule for a def whose code object is known -/
theorem okC {P : Program} {w : World} {K : PySem.W.Frag} {mg : Str → Option Value} {base : Heap} {x qual : Str} {params : Arguments} {body : List Stmt} {scope : Scope} {dvs : List V} {kws : List (Str × V)} {f c : Addr} {fd : FuncData}
    {CX : CXT} {N ps : List Str} {k : Nat} {sp : Sp} (F : FunD K x qual params body scope dvs kws f fd) (hc : fd.code = .ref c) (S : FnScope N ps scope) (len : ∀ vs H Q E, sp vs H Q E → vs.length = ps.length)
    (hbody : ∀ (A : Around) (outer : List Env) (s : Shared) (H : Hp) (vs : List V) (Q : VK) (E : XK), Room k (A.deeper (envOfC qual scope s.heap.objs.size f (.ref c))) → sp vs H Q E →
      ∃ t, PSs (cxOf CX P w K mg base N qual scope f (.ref c) A outer s H E) body t ∧ t { nx := fun _ H' => Q .non H', rt := Q } (start N vs) H) : FnOk P w K mg base CX (k + 1) f fd ps sp := by
  obtain ⟨oc, od, dV, kV, doc, pm, an, cdv, ct, osl, rfl, lk, hcd, _, _⟩ := F.ex
  have e : cdv = .ref c := hc
  subst e
  exact fn_of lk hcd S len fun A outer s H vs Q E hr hsp => hbody A outer s H vs Q E hr hsp
/-! ### words -/
def letters : Str := "abcdefghijklmnopqrstuvwxyz"
def barred : List Str := ["is", "isnt", "has", "hasnt", "to", "all", "are", "no", "each", "who", "some", "turned", "goes", "on", "comes", "from", "leads", "also"]
def isWord (z : Str) : Bool := decide (1 ≤ z.length) && decide (z.length ≤ 6) && !(barred.contains z) && z.cps.toList.all fun c => decide (c ∈ letters.cps.toList)
structure TW (K : PySem.W.Frag) (mg : Str → Option Value) : Prop where
  isi : mg "isinstance" = none
  len : mg "len" = none
  all_ : mg "all" = none
  str : mg "str" = none
  tup : mg "tuple" = none
  enu : mg "enumerate" = none
  lw : ∃ t, mg "LONGEST_WORD" = some (.int 6 t)
  let_ : ∃ t, mg "LETTERS" = some (.str letters t)
  bar : ∃ a, mg "BARRED" = some (.ref a) ∧ ∀ H, SqT K H a (barred.map V.str)
/-- the tables may have grown, all else that was held is held -/
structure Kp (T : List Addr) (H H' : Hp) : Prop where
  tab : ∀ P ∈ T, TabG H' P
  keep : ∀ b o, H b = some o → b ∉ T → H' b = some o
end Ah
end
section
set_option Elab.async false
set_option linter.all false
set_option maxRecDepth 100000
set_option maxHeartbeats 2000000
namespace Ah
open PySem PySem.Spec PyProof.Rows L2
open GxR (TabB TabG Tabbed)
open GxG
/-- what may be looked at as a word -/
def PlainV (H : Hp) (v : V) : Prop := (∃ z, v = .str z ∧ z.length ≤ sizeLine) ∨ v = .non ∨ (∃ i, v = .int i) ∨ ∃ a xs, v = .ref a ∧ (H a = some (.tup xs) ∨ H a = some (.lst xs))
theorem PlainV.kp {T : List Addr} {H H' : Hp} {v : V} (ht : ∀ P ∈ T, TabG H P) (k : Kp T H H') (h : PlainV H v) : PlainV H' v := by
  have out : ∀ {a : Addr} {o : HO}, H a = some o → (∀ ps, o ≠ .tbl ps) → H' a = some o := fun {a o} e n => k.keep a o e fun hm => by
    obtain ⟨ps, e2, _⟩ := ht a hm
    rw [e] at e2
    exact n ps (Option.some.inj e2)
  rcases h with h | h | h | ⟨a, xs, rfl, e | e⟩
  · exact .inl h
  · exact .inr (.inl h)
  · exact .inr (.inr (.inl h))
  · exact .inr (.inr (.inr ⟨a, xs, rfl, .inl (out e fun ps q => by cases q)⟩))
  · exact .inr (.inr (.inr ⟨a, xs, rfl, .inr (out e fun ps q => by cases q)⟩))
def isWordV : V → Bool
  | .str z => isWord z
  | _ => false
def spWord (T : List Addr) : Sp := fun vs H Q _ => ∃ v : V, vs = [v] ∧ PlainV H v ∧ (∀ P ∈ T, TabG H P) ∧ ∀ H', Kp T H H' → Q (.bl (isWordV v)) H'
theorem scW : FnScope ["word"] ["word"] (defScope sIsWord) := ⟨rfl, rfl, rfl, by decide +kernel, rfl, by decide +kernel, by decide +kernel⟩
theorem inV_strs (z : Str) (l : List Str) : inV (V.str z) (l.map V.str) = l.contains z := by
  unfold inV
  induction l with
  | nil => rfl
  | cons a r ih =>
    rw [List.map_cons, List.any_cons, List.contains_cons, ih]
    congr 1
    show (a == z) = (z == a)
    exact Bool.beq_comm
section
variable {P : Program} {w : World} {K : PySem.W.Frag} {mg : Str → Option Value} {base : Heap} {f c P1 : Addr} {fd : FuncData} {T : List Addr}
theorem ok_word (F : FnP K "is_word" sIsWord f fd) (hc : fd.code = .ref c) (TB : TabB base mg c P1) (hT : P1 ∈ T) (W : TW K mg) : FnOk P w K mg base CX0 3 f fd ["word"] (spWord T) := by
  refine okC F hc scW (fun vs H Q E h => ?_) (fun A outer s H vs Q E hr h => ?_)
  · obtain ⟨v, rfl, _⟩ := h
    rfl
  · obtain ⟨v, rfl, hv, ht, k⟩ := h
    obtain ⟨lwt, lw⟩ := W.lw
    obtain ⟨ltt, lt⟩ := W.let_
    obtain ⟨ba, bg, bs⟩ := W.bar
    refine ⟨_, pss_cons (ps_if (PW.pt (pw_or (pt_not (pt_val (pe_callB call_isi (by rfl) W.isi (by decide +kernel) (pa_cons (pv 0) (pa_cons (pe_bltn (v := .ty "str") (by rfl) W.str (by decide +kernel) rfl) pa_nil)))))
        (pw_or (pt_not (pt_chain op_le op_le pe_int (pe_callB call_len_str (by rfl) W.len (by decide +kernel) (pa_cons (pv 0) pa_nil)) (pe_glob (v := .int 6) (by rfl) lw ⟨_, rfl⟩)))
        (pw_or1 (pt_cmpR op_in_seq (pv 0) (pe_glob (v := .ref ba) (by rfl) bg rfl) (by rfl))))))
        (pss_one (ps_ret pe_bl)) pss_nil)
      (pss_one (ps_ret (pe_allG (k := 1) (x := "letter") (P := P1) hr (by rfl) W.all_ TB rfl ⟨rfl, rfl, by decide +kernel, by decide +kernel, by decide +kernel, by rfl⟩ (pi_str (pv 0))
        (fun A sB H code fp pn => pg_name (i := 0) (nd1 _) rfl (Or.inl rfl))
        (fun A sB H code fp pn hr' => pe_cmpR op_in_sign (pv 0) (pe_glob (v := .str letters) (by rfl) lt ⟨_, rfl⟩) (by rfl))))), ?_⟩
    rcases hv with ⟨z, rfl, hz⟩ | hn
    · have fin : ∀ b, isWordV (V.str z) = b → Q (.bl b) H := fun b e => by
        rw [← e]
        exact k H ⟨ht, fun _ _ e _ => e⟩
      refine ⟨_, rfl, _, _, _, _, true, rfl, ClsV.ty _, TyX.base (.str z), kit_ty (by decide +kernel), true, rfl, ?_⟩
      refine iteF ?_
      refine ⟨_, rfl, z, rfl, hz, 1, _, rfl, rfl, _, rfl, ?_⟩
      by_cases h1 : (1 : Int) ≤ z.length
      · rw [decide_eq_true h1]
        refine iteT ⟨_, _, rfl, rfl, _, rfl, ?_⟩
        by_cases h6 : (z.length : Int) ≤ 6
        · rw [decide_eq_true h6]
          refine iteF ⟨_, rfl, ba, _, rfl, .inr (bs H), rfl, by decide +kernel, _, rfl, ?_⟩
          show (fun b H1 => _) (inV (V.str z) (List.map V.str barred)) H
          rw [inV_strs]
          cases hb : barred.contains z with
          | true => exact iteT (fin false (by show isWord z = false; unfold isWord; rw [hb]; simp))
          | false =>
            refine iteF ⟨_, rfl, z, rfl, ht P1 hT, fun H2 tb => ?_⟩
            have kp : Kp T H H2 := ⟨fun p hp => by
              by_cases e : p = P1
              · rw [e]; exact tb.1
              · obtain ⟨ps, h2, h3⟩ := ht p hp
                exact ⟨ps, (tb.2 p e).trans h2, h3⟩, fun b o e hb => (tb.2 b fun z => hb (by rw [z]; exact hT)).trans e⟩
            have fin2 : ∀ b, z.cps.toList.all (fun c => decide (c ∈ letters.cps.toList)) = b → Q (.bl b) H2 := fun b e => by
              have q := k H2 kp
              have e2 : isWordV (V.str z) = b := by
                show isWord z = b
                unfold isWord
                rw [hb, e, decide_eq_true (show 1 ≤ z.length by omega), decide_eq_true (show z.length ≤ 6 by omega)] <;> simp
              rw [e2] at q
              exact q
            refine ga_it (walk_str (z := z)) (fun i H' => H' = H2 ∧ (z.cps.toList.take i).all (fun c => decide (c ∈ letters.cps.toList)) = true) ⟨rfl, rfl⟩ (fun _ _ _ _ => trivial) (fun i y Ha Hb hi p yy => ?_) (fun H' p => ?_)
            · obtain ⟨rfl, p⟩ := p
              obtain ⟨rfl, cc, e, rfl⟩ := yy
              have e' : z.cps.toList[i]? = some cc := by rw [Array.getElem?_toList]; exact e
              obtain ⟨a1, a2⟩ := all_take p e'
              refine ⟨_, rfl, cc, letters, rfl, rfl, _, rfl, ?_⟩
              cases hd : decide (cc ∈ letters.cps.toList) with
              | true => exact iteT ⟨rfl, a1 hd⟩
              | false => exact iteF (fin2 false (a2 hd))
            · obtain ⟨rfl, p⟩ := p
              rw [List.take_of_length_le (by simp)] at p
              exact fin2 true p
        · rw [decide_eq_false h6]
          exact iteT (fin false (by simp [isWordV, isWord]; omega))
      · rw [decide_eq_false h1]
        refine iteF ⟨_, rfl, ?_⟩
        exact iteT (fin false (by simp [isWordV, isWord]; omega))
    · rcases hn with rfl | ⟨i, rfl⟩ | ⟨a, xs, rfl, e | e⟩
      · exact ⟨_, rfl, _, _, _, _, false, rfl, ClsV.ty _, TyX.base .non, kit_ty (by decide +kernel), false, rfl, iteT (iteT (k H ⟨ht, fun _ _ e _ => e⟩))⟩
      · exact ⟨_, rfl, _, _, _, _, false, rfl, ClsV.ty _, TyX.base (.int i), kit_ty (by decide +kernel), false, rfl, iteT (iteT (k H ⟨ht, fun _ _ e _ => e⟩))⟩
      · exact ⟨_, rfl, _, _, _, _, false, rfl, ClsV.ty _, TyX.base (.tup e), kit_ty (by decide +kernel), false, rfl, iteT (iteT (k H ⟨ht, fun _ _ e _ => e⟩))⟩
      · exact ⟨_, rfl, _, _, _, _, false, rfl, ClsV.ty _, TyX.base (.lst e), kit_ty (by decide +kernel), false, rfl, iteT (iteT (k H ⟨ht, fun _ _ e _ => e⟩))⟩
end
end Ah
end
section
set_option Elab.async false
set_option linter.all false
set_option maxRecDepth 100000
set_option maxHeartbeats 2000000
namespace Ah
open PySem PySem.Spec PyProof.Rows L2
open GxR (TabB TabG Tabbed)
open GxG
/-! ### rows -/
def formsL : List (Str × List Str) := [("is", ["name", "kind"]), ("isnt", ["name", "kind"]), ("has", ["name", "tie", "name"]), ("hasnt", ["name", "tie", "name"]), ("all", ["kind", "kind"]), ("no", ["kind", "kind"]),
  ("each", ["kind", "tie", "name"]), ("who", ["tie", "kind", "kind"]), ("turned", ["tie", "tie"]), ("on", ["tie"]), ("from", ["tie", "kind"]), ("to", ["tie", "kind"]), ("under", ["tie", "tie"])]
/-- the module's dict FORMS -/
structure TF (K : PySem.W.Frag) (w : World) (mg : Str → Option Value) (d : Addr) : Prop where
  at_ : mg "FORMS" = some (.ref d)
  kd : ∃ es n, KDict K w d es n
  val : ∀ z ps, formsL.lookup z = some ps → ∃ a, PySem.W.nsIn K d z = some (some (.ref a)) ∧ ∀ H, SqT K H a (ps.map V.str)
  out : ∀ z, formsL.lookup z = none → PySem.W.nsIn K d z = some none
def isRowL : List V → Bool
  | .str h :: rest => (match formsL.lookup h with
    | some ps => decide (rest.length = ps.length) && rest.all isWordV
    | none => false)
  | _ => false
/-- what may be looked at as a row, and the answer -/
def RowV (H : Hp) (v : V) (b : Bool) : Prop := (((∃ z, v = .str z) ∨ v = .non ∨ (∃ i, v = .int i) ∨ ∃ a xs, v = .ref a ∧ H a = some (.lst xs)) ∧ b = false) ∨ ∃ a xs, v = .ref a ∧ H a = some (.tup xs) ∧ xs.length ≤ 1000 ∧ (∀ x ∈ xs, PlainV H x) ∧ b = isRowL xs
def spRow (T : List Addr) : Sp := fun vs H Q _ => ∃ (v : V) (b : Bool), vs = [v] ∧ RowV H v b ∧ (∀ P ∈ T, TabG H P) ∧ ∀ H', Kp T H H' → Q (.bl b) H'
theorem scR : FnScope ["row"] ["row"] (defScope sIsRow) := ⟨rfl, rfl, rfl, by decide +kernel, rfl, by decide +kernel, by decide +kernel⟩
theorem cut_tail (h : V) (rest : List V) : cutV (h :: rest) (some 1) none = rest := by
  have h1 : HT.sIx (h :: rest).length 0 (some 1) = 1 := by
    rw [show (1 : Int) = ((1 : Nat) : Int) from rfl, HT.sIx_nat, List.length_cons]
    omega
  unfold cutV
  rw [h1, HT.sIx_none]
  simp
theorem Kp.trans {T : List Addr} {H H1 H2 : Hp} (a : Kp T H H1) (b : Kp T H1 H2) : Kp T H H2 := ⟨b.tab, fun p o e n => b.keep p o (a.keep p o e n) n⟩
/-- what is no table is held -/
theorem Kp.obj {T : List Addr} {H H' : Hp} {a : Addr} {o : HO} (k : Kp T H H') (ht : ∀ P ∈ T, TabG H P) (e : H a = some o) (n : ∀ ps, o ≠ .tbl ps := by intro ps q; cases q) : H' a = some o := k.keep a o e fun hm => by
  obtain ⟨ps, e2, _⟩ := ht a hm
  rw [e] at e2
  exact n ps (Option.some.inj e2)
section
variable {P : Program} {w : World} {K : PySem.W.Frag} {mg : Str → Option Value} {base : Heap} {f c P1 fW d : Addr} {fd fdW : FuncData} {T : List Addr}
theorem ok_row (F : FnP K "is_row" sIsRow f fd) (hc : fd.code = .ref c) (TB : TabB base mg c P1) (hT : P1 ∈ T) (W : TW K mg) (D : TF K w mg d) (gW : mg "is_word" = some (.ref fW)) (FW : FnOk P w K mg base CX0 3 fW fdW ["word"] (spWord T))
    (kW : PySem.W.keepIn K (.ref fW) = true) (bW : Binds K fdW ["word"] []) : FnOk P w K mg base CX0 5 f fd ["row"] (spRow T) := by
  refine okC F hc scR (fun vs H Q E h => ?_) (fun A outer s H vs Q E hr h => ?_)
  · obtain ⟨v, b, rfl, _⟩ := h
    rfl
  · obtain ⟨v, b, rfl, hv, ht, k⟩ := h
    obtain ⟨es, nn, kd⟩ := D.kd
    refine ⟨_, pss_cons (ps_if (PW.pt (pw_or (pt_not (pt_val (pe_callB call_isi (by rfl) W.isi (by decide +kernel) (pa_cons (pv 0) (pa_cons (pe_bltn (v := .ty "tuple") (by rfl) W.tup (by decide +kernel) rfl) pa_nil)))))
        (pw_or (pt_not (pt_truth (pv 0) (by intro _; rfl)))
        (pw_or (pt_not (pt_val (pe_callB call_isi (by rfl) W.isi (by decide +kernel) (pa_cons (pe_ix ix_tup (pv 0) pe_int (fun _ _ => rfl)) (pa_cons (pe_bltn (v := .ty "str") (by rfl) W.str (by decide +kernel) rfl) pa_nil)))))
        (pw_or1 (pt_cmpR (op_notIn_kd kd) (pe_ix ix_tup (pv 0) pe_int (fun _ _ => rfl)) (pe_glob (v := .ref d) (by rfl) D.at_ rfl) (by rfl)))))))
        (pss_one (ps_ret pe_bl)) pss_nil)
      (pss_one (ps_ret (pe_and (pe_cmpR op_eq (pe_callB call_len_seq (by rfl) W.len (by decide +kernel) (pa_cons (pv 0) pa_nil)) (pe_op op_add pe_int (pe_callB call_len_seq (by rfl) W.len (by decide +kernel) (pa_cons
          (pe_ix ix_kdict (pe_glob (v := .ref d) (by rfl) D.at_ rfl) (pe_ix ix_tup (pv 0) pe_int (fun _ _ => rfl)) (fun _ _ => rfl)) pa_nil))) (nomark _))
        (pe_one (pe_allG (k := 3) (x := "word") (P := P1) hr (by rfl) W.all_ TB rfl ⟨rfl, rfl, by decide +kernel, by decide +kernel, by decide +kernel, by rfl⟩ (pi_tup (pe_slice sl_tup (pv 0) (po_some pe_int) po_none))
          (fun A sB H code fp pn => pg_name (i := 0) (nd1 _) rfl (Or.inl rfl))
          (fun A sB H code fp pn hr' => pe_call FW hr' (by rfl) gW kW bW .nil pass0 (pa_cons (pv 0) pa_nil))))))), ?_⟩
    have kp0 : Kp T H H := ⟨ht, fun _ _ e _ => e⟩
    rcases hv with ⟨hn, rfl⟩ | ⟨a, xs, rfl, hx, hl, hp, rfl⟩
    · rcases hn with ⟨z, rfl⟩ | rfl | ⟨i, rfl⟩ | ⟨a, xs, rfl, e⟩
      · exact ⟨_, rfl, _, _, _, _, false, rfl, ClsV.ty _, TyX.base (.str z), kit_ty (by decide +kernel), false, rfl, iteT (iteT (k H kp0))⟩
      · exact ⟨_, rfl, _, _, _, _, false, rfl, ClsV.ty _, TyX.base .non, kit_ty (by decide +kernel), false, rfl, iteT (iteT (k H kp0))⟩
      · exact ⟨_, rfl, _, _, _, _, false, rfl, ClsV.ty _, TyX.base (.int i), kit_ty (by decide +kernel), false, rfl, iteT (iteT (k H kp0))⟩
      · exact ⟨_, rfl, _, _, _, _, false, rfl, ClsV.ty _, TyX.base (.lst e), kit_ty (by decide +kernel), false, rfl, iteT (iteT (k H kp0))⟩
    · have sx : SqT K H a xs := .inl (.of hx)
      refine ⟨_, rfl, _, _, _, _, true, rfl, ClsV.ty _, TyX.base (.tup hx), kit_ty (by decide +kernel), true, rfl, ?_⟩
      refine iteF ⟨_, rfl, !xs.isEmpty, .inr (.inl ⟨xs, sx, rfl⟩), ?_⟩
      cases xs with
      | nil => exact iteT (iteT (k H kp0))
      | cons h rest =>
        have ph := hp h List.mem_cons_self
        refine iteF ⟨_, rfl, a, _, 0, h, rfl, rfl, sx, at_of (j := 0) rfl rfl, ?_⟩
        rcases ph with ⟨z, rfl, hz⟩ | rfl | ⟨i, rfl⟩ | ⟨a', ys, rfl, e | e⟩
        · refine ⟨_, _, _, _, true, rfl, ClsV.ty _, TyX.base (.str z), kit_ty (by decide +kernel), true, rfl, ?_⟩
          refine iteF ⟨_, rfl, a, _, 0, .str z, rfl, rfl, sx, at_of (j := 0) rfl rfl, ?_⟩
          cases hf : formsL.lookup z with
          | none =>
            refine ⟨z, _, rfl, rfl, D.out z hf, _, rfl, ?_⟩
            refine iteT ?_
            have e : isRowL (.str z :: rest) = false := by
              show (match formsL.lookup z with
                | some ps => decide (rest.length = ps.length) && rest.all isWordV
                | none => false) = false
              rw [hf]
            have q := k H kp0
            rw [e] at q
            exact q
          | some ps =>
            obtain ⟨ap, e1, e2⟩ := D.val z ps hf
            have er : isRowL (.str z :: rest) = (decide (rest.length = ps.length) && rest.all isWordV) := by
              show (match formsL.lookup z with
                | some ps => decide (rest.length = ps.length) && rest.all isWordV
                | none => false) = _
              rw [hf]
            rw [er] at k
            refine ⟨z, _, rfl, rfl, e1, _, rfl, ?_⟩
            refine iteF ?_
            refine ⟨_, rfl, a, _, rfl, .inr sx, ?_⟩
            refine ⟨_, rfl, a, _, 0, .str z, rfl, rfl, sx, at_of (j := 0) rfl rfl, d, z, .ref ap, rfl, rfl, ⟨es, nn, _, kd.at_, kd.lit, e1, rfl⟩, ap, _, rfl, .inr (e2 H), _, _, rfl, rfl, rfl, _, rfl, ?_⟩
            have ed : decide (V.int (((V.str z :: rest).length : Nat) : Int) = V.int (1 + ((ps.map V.str).length : Int))) = decide (rest.length = ps.length) := by
              rw [List.length_cons, List.length_map]
              by_cases e : rest.length = ps.length
              · rw [decide_eq_true e, e]
                exact decide_eq_true (by congr 1; omega)
              · rw [decide_eq_false e]
                refine decide_eq_false fun q => e ?_
                have := V.int.inj q
                omega
            rw [ed]
            cases hl2 : decide (rest.length = ps.length) with
            | false =>
              refine iteF ?_
              have q := k H kp0
              rw [hl2] at q
              exact q
            | true =>
              rw [hl2, Bool.true_and] at k
              refine iteT ⟨_, rfl, 1, rfl, a, _, rfl, sx, fun q => ?_, fun p np => ⟨p, rfl, ⟨rest, .inl (.of ?_)⟩, ?_, fun H2 tb => ?_⟩⟩
              · have h1 : HT.sIx (V.str z :: rest).length 0 (some 1) = 1 := by
                  rw [show (1 : Int) = ((1 : Nat) : Int) from rfl, HT.sIx_nat, List.length_cons]
                  omega
                have h2 := q.1
                rw [h1] at h2
                cases h2
              · rw [cut_tail]; exact upd_same
              · obtain ⟨qs, h2, h3⟩ := ht P1 hT
                exact ⟨qs, by rw [upd_ne (ne_of_none h2 np)]; exact h2, h3⟩
              · rw [cut_tail] at tb
                have hpP : p ≠ P1 := fun e => by
                  obtain ⟨qs, h2, h3⟩ := ht P1 hT
                  rw [e, h2] at np
                  cases np
                have kp2 : Kp T H H2 := ⟨fun q hq => by
                  by_cases e : q = P1
                  · rw [e]; exact tb.1
                  · obtain ⟨qs, h2, h3⟩ := ht q hq
                    exact ⟨qs, by rw [tb.2 q e, upd_ne (ne_of_none h2 np)]; exact h2, h3⟩, fun b o e hb => by
                    rw [tb.2 b fun z => hb (by rw [z]; exact hT), upd_ne (ne_of_none e np)]
                    exact e⟩
                have hp2 : H2 p = some (.tup rest) := by rw [tb.2 p hpP, upd_same]
                refine ga_it (walk_tup (K := K) (a := p) (xs := rest)) (fun i H' => Kp T H2 H' ∧ (rest.take i).all isWordV = true) ⟨⟨kp2.tab, fun _ _ e _ => e⟩, rfl⟩ (fun i H' _ pv => ?_) (fun i y Ha Hb hi pv yy => ?_) (fun H' pv => ?_)
                · exact .inl (.of (pv.1.obj kp2.tab hp2))
                · obtain ⟨k1, p1⟩ := pv
                  obtain ⟨rfl, ey⟩ := yy
                  obtain ⟨a1, a2⟩ := all_take p1 ey
                  have py : PlainV Hb y := (hp y (List.mem_cons_of_mem _ (List.mem_of_getElem? ey))).kp ht (kp2.trans k1)
                  refine ⟨y, rfl, y, rfl, py, k1.tab, fun H3 k3 => ⟨_, rfl, ?_⟩⟩
                  cases hw : isWordV y with
                  | true => exact iteT ⟨k1.trans k3, a1 hw⟩
                  | false =>
                    have q := k H3 (kp2.trans (k1.trans k3))
                    rw [a2 hw] at q
                    exact iteF q
                · obtain ⟨k1, p1⟩ := pv
                  rw [List.take_of_length_le (Nat.le_refl _)] at p1
                  have q := k H' (kp2.trans k1)
                  rw [p1] at q
                  exact q
        · exact ⟨_, _, _, _, false, rfl, ClsV.ty _, TyX.base .non, kit_ty (by decide +kernel), false, rfl, iteT (iteT (k H kp0))⟩
        · exact ⟨_, _, _, _, false, rfl, ClsV.ty _, TyX.base (.int i), kit_ty (by decide +kernel), false, rfl, iteT (iteT (k H kp0))⟩
        · exact ⟨_, _, _, _, false, rfl, ClsV.ty _, TyX.base (.tup e), kit_ty (by decide +kernel), false, rfl, iteT (iteT (k H kp0))⟩
        · exact ⟨_, _, _, _, false, rfl, ClsV.ty _, TyX.base (.lst e), kit_ty (by decide +kernel), false, rfl, iteT (iteT (k H kp0))⟩
end
end Ah
end
section
set_option Elab.async false
set_option linter.all false
set_option maxRecDepth 100000
set_option maxHeartbeats 2000000
namespace Ah
open PySem PySem.Spec PyProof.Rows L2
open GxR (TabB TabG Tabbed)
open GxG EnT
/-! ### texts -/
def spCheck0 (T : List Addr) : Sp := fun vs H Q _ => ∃ (a : Addr) (rs : List V), vs = [.ref a] ∧ H a = some (.tup rs) ∧ rs.length ≤ 24 ∧ (∀ r ∈ rs, RowV H r true) ∧ (∀ P ∈ T, TabG H P) ∧ ∀ H', Kp T H H' → Q .non H'
theorem RowV.kp {T : List Addr} {H H' : Hp} {v : V} {b : Bool} (ht : ∀ P ∈ T, TabG H P) (k : Kp T H H') (h : RowV H v b) : RowV H' v b := by
  rcases h with ⟨h, e⟩ | ⟨a, xs, e, h1, h2, h3, h4⟩
  · refine .inl ⟨?_, e⟩
    rcases h with h | h | h | ⟨a, xs, e, h⟩
    · exact .inl h
    · exact .inr (.inl h)
    · exact .inr (.inr (.inl h))
    · exact .inr (.inr (.inr ⟨a, xs, e, k.obj ht h⟩))
  · exact .inr ⟨a, xs, e, k.obj ht h1, h2, fun x hx => (h3 x hx).kp ht k, h4⟩
theorem scC : FnScope ["rows", "number", "row"] ["rows"] (defScope sCheck) := ⟨rfl, rfl, rfl, by decide +kernel, rfl, by decide +kernel, by decide +kernel⟩
theorem Kp.upd {T : List Addr} {H H1 : Hp} {p : Addr} {o : HO} (k : Kp T H H1) (n : H1 p = none) : Kp T H (upd H1 p o) := ⟨fun q hq => by
    obtain ⟨ps, e, h⟩ := k.tab q hq
    exact ⟨ps, by rw [upd_ne (ne_of_none e n)]; exact e, h⟩, fun b u e hb => by
    have q := k.keep b u e hb
    rw [upd_ne (ne_of_none q n)]
    exact q⟩
section
variable {P : Program} {w : World} {K : PySem.W.Frag} {mg : Str → Option Value} {base : Heap} {f fR : Addr} {fd fdR : FuncData} {T : List Addr}
theorem ok_check (F : FnP K "check_text" sCheck f fd) (W : TW K mg) (hm : ∃ t, mg "MOST_ROWS" = some (.int 24 t)) (gR : mg "is_row" = some (.ref fR)) (FR : FnOk P w K mg base CX0 5 fR fdR ["row"] (spRow T))
    (kR : PySem.W.keepIn K (.ref fR) = true) (bR : Binds K fdR ["row"] []) : FnOk P w K mg base CX0 6 f fd ["rows"] (spCheck0 T) := by
  refine F.ok scC (fun vs H Q E h => ?_) (fun cdv A outer s H vs Q E hr h => ?_)
  · obtain ⟨a, rs, rfl, _⟩ := h
    rfl
  · obtain ⟨a, rs, rfl, ha, hl, hrs, ht, k⟩ := h
    obtain ⟨mt, hm⟩ := hm
    have sa : SqT K H a rs := .inl (.of ha)
    refine ⟨_, PSs.nox (pss_cons (ps_if (pt_not (pt_val (pe_callB call_isi (by rfl) W.isi (by decide +kernel) (pa_cons (pv 0) (pa_cons (pe_bltn (v := .ty "tuple") (by rfl) W.tup (by decide +kernel) rfl) pa_nil))))) (pss_one ps_never) pss_nil)
      (pss_one (ps_for PassesOwn.never rfl (pi_enumT (by rfl) W.enu (pa_cons (pv 0) pa_nil)) (pg_tup rfl (pgs_cons (pg_name (i := 1) scC.nd rfl (.inl rfl)) (pgs_cons (pg_name (i := 2) scC.nd rfl (.inl rfl)) pgs_nil)))
        (pss_one (ps_if (PW.pt (pw_or (pt_cmpR op_eq (pv 1) (pe_glob (v := .int 24) (by rfl) hm ⟨_, rfl⟩) (nomark _)) (pw_or1 (pt_not (pt_val (pe_call FR hr (by rfl) gR kR bR .nil pass0 (pa_cons (pv 2) pa_nil))))))) (pss_one ps_never) pss_nil))))), ?_⟩
    refine ⟨_, rfl, _, _, _, _, true, rfl, ClsV.ty _, TyX.base (.tup ha), kit_ty (by decide +kernel), true, rfl, ?_⟩
    refine iteF ?_
    refine ⟨_, rfl, a, rs, rfl, sa, for_it (walk_enumT (K := K) (a := a) (xs := rs)) (fun i σ H' => (∃ v1 v2, σ = [some (.ref a), v1, v2]) ∧ Kp T H H') ⟨⟨_, _, rfl⟩, ht, fun _ _ e _ => e⟩ (fun i σ H' _ pv => .inl (.of (pv.2.obj ht ha))) ?_ ?_⟩
    · rintro i x σ Ha Hb hi ⟨⟨v1, v2, rfl⟩, kp⟩ ⟨Tp, x1, x2, rfl, nT, rfl, e1, e2⟩
      cases e1
      have kp1 : Kp T H (L2.upd Ha Tp (.tup [.int (i : Nat), x2])) := kp.upd nT
      refine ⟨Tp, _, rfl, .inl (.of upd_same), rfl, ?_⟩
      refine ⟨_, _, rfl, _, _, rfl, rfl, ?_⟩
      refine ⟨_, rfl, rfl, _, rfl, ?_⟩
      have hi24 : ¬ V.int ((i : Nat) : Int) = V.int 24 := fun e => by
        have := V.int.inj e
        omega
      rw [decide_eq_false hi24]
      refine iteF ⟨_, rfl, ?_⟩
      refine ⟨_, true, rfl, (hrs x2 (List.mem_of_getElem? e2)).kp ht kp1, kp1.tab, fun H2 k2 => ⟨_, rfl, iteF ⟨⟨_, _, rfl⟩, kp1.trans k2⟩⟩⟩
    · rintro σ H' ⟨_, kp⟩
      exact k H' kp
end
end Ah
end
section
set_option Elab.async false
set_option linter.all false
set_option maxRecDepth 100000
set_option maxHeartbeats 2000000
namespace Ah
open PySem PySem.Spec PyProof.Rows L2
/-! ### the law's draws -/
theorem scLR : FnScope ["_law_script", "_law_mixed", "_law_cell"] ["_law_script"] (defScope lRow) := ⟨rfl, rfl, rfl, by decide +kernel, rfl, by decide +kernel, by decide +kernel⟩
theorem scLT : FnScope ["_law_row_here", "_law_many", "_law_found", "_law_cell"] ["_law_row_here", "_law_many"] (defScope lTaken) := ⟨rfl, rfl, rfl, by decide +kernel, rfl, by decide +kernel, by decide +kernel⟩
def spLRow (K : PySem.W.Frag) : Sp := fun vs H Q _ => ∃ (a : Addr) (ns : List Int), vs = [.ref a] ∧ SqL K H a (ns.map V.int) ∧ ns.length ≤ 63 ∧ ∀ (p : Addr) (m : Int), H p = none → Q (.ref p) (upd H p (.lst [.ref a, .int 0, .int 0, .int m]))
/-- the draws' state: the script, the place, what is left, the mixed number -/
def StAt (K : PySem.W.Frag) (H : Hp) (p a : Addr) (ns : List Int) : Prop := ∃ i r m : Int, H p = some (.lst [.ref a, .int i, .int r, .int m]) ∧ 0 ≤ i ∧ 0 ≤ r ∧ SqL K H a (ns.map V.int)
/-- all that was held is held, but at M -/
def Kept (M : List Addr) (H H' : Hp) : Prop := ∀ b o, H b = some o → b ∉ M → H' b = some o
def spTaken (K : PySem.W.Frag) : Sp := fun vs H Q _ => ∃ (p a : Addr) (ns : List Int) (many : Int), vs = [.ref p, .int many] ∧ StAt K H p a ns ∧ 0 < many ∧ many < 1000000 ∧
  ∀ (n : Int) (H' : Hp), 0 ≤ n → n < many → StAt K H' p a ns → Kept [p] H H' → Q (.int n) H'
theorem seqL_upd {K : PySem.W.Frag} {H : Hp} {a p : Addr} {o : HO} {xs ys : List V} (hp : H p = some (.lst ys)) (h : SqL K H a xs) (n : ys ≠ xs) : SqL K (upd H p o) a xs := by
  rcases h with (h | ⟨ob, h⟩) | h
  · exact .inl (.inl (by rw [upd_ne (fun e => n (by rw [e, hp] at h; cases h; rfl))]; exact h))
  · exact .inl (.inr ⟨ob, by rw [upd_ne (fun e => by rw [e, hp] at h; cases h)]; exact h⟩)
  · exact .inr h
section
variable {P : Program} {w : World} {K : PySem.W.Frag} {mg : Str → Option Value} {base : Heap} {f : Addr} {fd : FuncData}
theorem ok_lrow (F : FnP K "_law_row" lRow f fd) : FnOk P w K mg base CX0 1 f fd ["_law_script"] (spLRow K) := by
  refine F.ok scLR (fun vs H Q E h => ?_) (fun cdv A outer s H vs Q E hr h => ?_)
  · obtain ⟨a, ns, rfl, _⟩ := h
    rfl
  · obtain ⟨a, ns, rfl, hs, hl, k⟩ := h
    refine ⟨_, PSs.nox (pss_cons (ps_set (i := 1) scLR.nd rfl (.inl rfl) pe_int) (pss_cons (ps_for PassesOwn.never rfl (pi_list (pv 0)) (pg_name (i := 2) scLR.nd rfl (.inl rfl))
        (pss_one (ps_set (i := 1) scLR.nd rfl (.inl rfl) (pe_op op_mod (pe_op op_add (pe_op op_add (pe_op op_mul (pv 1) pe_int) (pv 2)) pe_int) pe_int))))
      (pss_one (ps_ret (pe_lst (pa_cons (pv 0) (pa_cons pe_int (pa_cons pe_int (pa_cons (pv 1) pa_nil))))))))), ?_⟩
    refine ⟨_, rfl, a, rfl, ⟨_, hs⟩, for_list (K := K) (a := a) (xs := ns.map V.int) (fun i σ H' => (∃ (m : Int) (v : Option V), σ = [some (.ref a), some (.int m), v]) ∧ H' = H) ⟨⟨7, none, rfl⟩, rfl⟩ (fun i σ H' _ pv => by rw [pv.2]; exact hs) ?_ ?_⟩
    · rintro i x σ Ha hi ⟨⟨m, v, rfl⟩, rfl⟩
      obtain ⟨c, rfl⟩ : ∃ c, x = V.int c := by
        obtain ⟨c, _, e⟩ := List.mem_map.mp (List.mem_of_getElem? hi)
        exact ⟨c, e.symm⟩
      exact ⟨_, rfl, _, _, rfl, rfl, .inr ⟨by decide, by decide⟩, _, rfl, _, _, rfl, rfl, _, _, rfl, rfl, _, _, rfl, rfl, (by decide : (0 : Int) < 2147483647), ⟨_, _, rfl⟩, rfl⟩
    · rintro σ Ha ⟨⟨m, v, rfl⟩, rfl⟩
      exact ⟨_, rfl, _, rfl, (by show 4 ≤ sizeLine; decide), fun p np => k p m np⟩
theorem ok_ltaken (F : FnP K "_law_taken" lTaken f fd) (hlen : mg "len" = none) : FnOk P w K mg base CX0 1 f fd ["_law_row_here", "_law_many"] (spTaken K) := by
  refine F.ok scLT (fun vs H Q E h => ?_) (fun cdv A outer s H vs Q E hr h => ?_)
  · obtain ⟨p, a, ns, many, rfl, _⟩ := h
    rfl
  · obtain ⟨p, a, ns, many, rfl, ⟨i, r, m, hp, hi, hr0, hs⟩, hm, hm2, k⟩ := h
    have ne : ∀ z1 z2 z3 : Int, ([.ref a, .int z1, .int z2, .int z3] : List V) ≠ ns.map V.int := fun z1 z2 z3 e => by
      cases ns with
      | nil => cases e
      | cons q qs => cases e
    have k : ∀ (n i r m : Int), 0 ≤ n → n < many → 0 ≤ i → 0 ≤ r → Q (.int n) (upd H p (.lst [.ref a, .int i, .int r, .int m])) := fun n i' r' m' h1 h2 h3 h4 =>
      k n _ h1 h2 ⟨i', r', m', upd_same, h3, h4, seqL_upd hp hs (ne _ _ _)⟩ fun b o e hb => by rw [upd_ne (fun z => hb (by simp [z]))]; exact e
    have sp : SqL K H p [.ref a, .int i, .int r, .int m] := .inl (.of hp)
    have cd : CDiv 5 many := ⟨hm, by omega⟩
    have a0 : ∀ {xs : List V} {j : Nat} {v : V} {z : Int}, z = (j : Int) → xs[j]? = some v → atI xs z = some v := fun h1 h2 => at_of h1 h2
    refine ⟨_, PSs.nox (pss_cons (ps_if (pt_cmpR op_gt (pe_ix ix_list (pv 0) pe_int (fun _ _ => rfl)) pe_int (nomark _))
        (pss_cons (ps_set (i := 2) scLT.nd rfl (.inl rfl) (pe_op op_mod (pe_ix ix_list (pv 0) pe_int (fun _ _ => rfl)) (pv 1)))
        (pss_cons (ps_asg (pe_op op_fdiv (pe_ix ix_list (pv 0) pe_int (fun _ _ => rfl)) (pv 1)) (pg_sub (pv 0) pe_int set_list))
        (pss_one (ps_ret (pv 2))))) pss_nil)
      (pss_cons (ps_if (pt_cmpR op_lt (pe_ix ix_list (pv 0) pe_int (fun _ _ => rfl)) (pe_callB call_len_seq (by rfl) hlen PySem.boot_len (pa_cons (pe_ix ix_list (pv 0) pe_int (fun _ _ => rfl)) pa_nil)) (nomark _))
        (pss_cons (ps_set (i := 3) scLT.nd rfl (.inl rfl) (pe_ix ix_list (pe_ix ix_list (pv 0) pe_int (fun _ _ => rfl)) (pe_ix ix_list (pv 0) pe_int (fun _ _ => rfl)) (fun _ _ => rfl)))
        (pss_cons (ps_asg (pe_op op_add (pe_ix ix_list (pv 0) pe_int (fun _ _ => rfl)) pe_int) (pg_sub (pv 0) pe_int set_list))
        (pss_cons (ps_if (pt_cmpR op_ge (pv 3) (pe_op op_pow pe_int pe_int) (nomark _)) (pss_one (ps_asg (pe_op op_fdiv (pv 3) (pv 1)) (pg_sub (pv 0) pe_int set_list))) pss_nil)
        (pss_one (ps_ret (pe_op op_mod (pv 3) (pv 1))))))) pss_nil)
      (pss_cons (ps_asg (pe_op op_mod (pe_op op_add (pe_op op_mul (pe_ix ix_list (pv 0) pe_int (fun _ _ => rfl)) pe_int) pe_int) pe_int) (pg_sub (pv 0) pe_int set_list))
      (pss_one (ps_ret (pe_op op_mod (pe_op op_fdiv (pe_ix ix_list (pv 0) pe_int (fun _ _ => rfl)) pe_int) (pv 1))))))), ?_⟩
    refine ⟨_, rfl, p, _, 2, _, rfl, rfl, sp, a0 (j := 2) rfl rfl, _, _, rfl, rfl, _, rfl, ?_⟩
    by_cases h2 : 0 < r
    · rw [decide_eq_true h2]
      refine iteT ⟨_, rfl, p, _, 2, _, rfl, rfl, sp, a0 (j := 2) rfl rfl, _, rfl, _, _, rfl, rfl, hm, ?_⟩
      refine ⟨_, rfl, p, _, 2, _, rfl, rfl, sp, a0 (j := 2) rfl rfl, _, rfl, _, _, rfl, rfl, ⟨hm, by omega⟩, ?_⟩
      refine ⟨_, rfl, p, _, 2, 2, rfl, rfl, hp, rfl, ?_⟩
      refine ⟨_, rfl, ?_⟩
      exact k (r % many) i (r / many) m (Int.emod_nonneg _ (by omega)) (Int.emod_lt_of_pos _ hm) hi (Int.ediv_nonneg hr0 (by omega))
    · rw [decide_eq_false h2]
      refine iteF ?_
      refine ⟨_, rfl, p, _, 1, _, rfl, rfl, sp, a0 (j := 1) rfl rfl, _, rfl, p, _, 0, _, rfl, rfl, sp, a0 (j := 0) rfl rfl, a, _, rfl, .inl hs, _, _, rfl, rfl, _, rfl, ?_⟩
      rw [List.length_map]
      by_cases h3 : i < (ns.length : Int)
      · rw [decide_eq_true h3]
        obtain ⟨j, rfl⟩ : ∃ j : Nat, i = (j : Int) := ⟨i.toNat, by omega⟩
        have hj : j < ns.length := by omega
        have ej : (ns.map V.int)[j]? = some (.int ns[j]) := by rw [List.getElem?_map, List.getElem?_eq_getElem hj]; rfl
        have up1 : upd H p (.lst [.ref a, .int ((j : Int) + 1), .int r, .int m]) p = some (.lst [.ref a, .int ((j : Int) + 1), .int r, .int m]) := upd_same
        refine iteT ⟨_, rfl, p, _, 0, _, rfl, rfl, sp, a0 (j := 0) rfl rfl, _, rfl, p, _, 1, _, rfl, rfl, sp, a0 (j := 1) rfl rfl, a, _, _, _, rfl, rfl, hs, a0 rfl ej, ?_⟩
        refine ⟨_, rfl, p, _, 1, _, rfl, rfl, sp, a0 (j := 1) rfl rfl, _, _, rfl, rfl, ?_⟩
        refine ⟨_, rfl, p, _, 1, 1, rfl, rfl, hp, rfl, ?_⟩
        refine ⟨_, rfl, _, _, rfl, rfl, ⟨by decide, by decide, by decide⟩, _, _, rfl, rfl, _, rfl, ?_⟩
        have md : 0 ≤ ns[j] % many ∧ ns[j] % many < many := ⟨Int.emod_nonneg _ (by omega), Int.emod_lt_of_pos _ hm⟩
        refine ite2 (fun hb => ?_) (fun _ => ?_)
        · refine ⟨_, rfl, _, rfl, _, _, rfl, rfl, ⟨hm, by omega⟩, ?_⟩
          refine ⟨_, rfl, p, _, 2, 2, rfl, rfl, up1, rfl, ?_⟩
          refine ⟨_, rfl, _, rfl, _, _, rfl, rfl, hm, ?_⟩
          have q := k (ns[j] % many) ((j : Int) + 1) (ns[j] / many) m md.1 md.2 (by omega) (Int.ediv_nonneg (by
            have hb' := of_decide_eq_true hb
            have : (0 : Int) ≤ 10 ^ (18 : Int).toNat := by decide
            omega) (by omega))
          rw [upd_upd]
          exact q
        · refine ⟨_, rfl, _, rfl, _, _, rfl, rfl, hm, ?_⟩
          exact k _ ((j : Int) + 1) r m md.1 md.2 (by omega) hr0
      · rw [decide_eq_false h3]
        refine iteF ?_
        refine ⟨_, rfl, p, _, 3, _, rfl, rfl, sp, a0 (j := 3) rfl rfl, _, _, rfl, rfl, .inr ⟨by decide, by decide⟩, _, _, rfl, rfl, _, _, rfl, rfl, (by decide : (0 : Int) < 2147483647), ?_⟩
        refine ⟨_, rfl, p, _, 3, 3, rfl, rfl, hp, rfl, ?_⟩
        refine ⟨_, rfl, p, _, 3, _, rfl, rfl, .inl (.of upd_same), a0 (j := 3) rfl rfl, _, _, rfl, rfl, ⟨by decide, by decide⟩, _, rfl, _, _, rfl, rfl, hm, ?_⟩
        exact k _ i r _ (Int.emod_nonneg _ (by omega)) (Int.emod_lt_of_pos _ hm) hi hr0
end
end Ah
end
section
set_option Elab.async false
set_option linter.all false
set_option maxRecDepth 100000
set_option maxHeartbeats 2000000
namespace Ah
open PySem PySem.Spec PyProof.Rows L2
/-! ### rows and sayings as data -/
inductive Rw where
  | is (n k : Str) | isnt (n k : Str) | has (n t m : Str) | hasnt (n t m : Str) | all (k l : Str) | no (k l : Str) | each (k t m : Str) | who (t k l : Str) | turned (t s : Str) | on (t : Str) | fr (t k : Str) | to (t k : Str) | under (t s : Str)
  deriving DecidableEq
def Rw.ws : Rw → List Str
  | .is n k => ["is", n, k] | .isnt n k => ["isnt", n, k] | .has n t m => ["has", n, t, m] | .hasnt n t m => ["hasnt", n, t, m] | .all k l => ["all", k, l] | .no k l => ["no", k, l]
  | .each k t m => ["each", k, t, m] | .who t k l => ["who", t, k, l] | .turned t s => ["turned", t, s] | .on t => ["on", t] | .fr t k => ["from", t, k] | .to t k => ["to", t, k] | .under t s => ["under", t, s]
def namesL : List Str := ["ann", "ben", "cy"]
def kindsL : List Str := ["cat", "dog", "owl"]
def tiesL : List Str := ["likes", "owns"]
/-- a row of the law's few words -/
def Rw.few : Rw → Prop
  | .is n k => n ∈ namesL ∧ k ∈ kindsL | .isnt n k => n ∈ namesL ∧ k ∈ kindsL | .has n t m => n ∈ namesL ∧ t ∈ tiesL ∧ m ∈ namesL | .hasnt n t m => n ∈ namesL ∧ t ∈ tiesL ∧ m ∈ namesL
  | .all k l => k ∈ kindsL ∧ l ∈ kindsL | .no k l => k ∈ kindsL ∧ l ∈ kindsL | .each k t m => k ∈ kindsL ∧ t ∈ tiesL ∧ m ∈ namesL | .who t k l => t ∈ tiesL ∧ k ∈ kindsL ∧ l ∈ kindsL
  | .turned t s => t ∈ tiesL ∧ s ∈ tiesL | .on t => t ∈ tiesL | .fr t k => t ∈ tiesL ∧ k ∈ kindsL | .to t k => t ∈ tiesL ∧ k ∈ kindsL | .under t s => t ∈ tiesL ∧ s ∈ tiesL
theorem Kept.refl {M : List Addr} (H : Hp) : Kept M H H := fun _ _ e _ => e
theorem Kept.trans {M : List Addr} {H H1 H2 : Hp} (a : Kept M H H1) (b : Kept M H1 H2) : Kept M H H2 := fun p o e n => b p o (a p o e n) n
theorem Kept.mono {M M' : List Addr} {H H1 : Hp} (a : Kept M H H1) (h : ∀ b ∈ M, b ∈ M') : Kept M' H H1 := fun p o e n => a p o e fun z => n (h p z)
theorem Kept.upd {M : List Addr} {H H1 : Hp} {p : Addr} {o : HO} (a : Kept M H H1) (n : H1 p = none) : Kept M H (upd H1 p o) := fun b u e hb => by
  have q := a b u e hb
  rw [upd_ne (ne_of_none q n)]
  exact q
/-- what stands at an address not in M: it is another than M's -/
theorem notin1 {H : Hp} {a p : Addr} {o u : HO} (h : H a = some o) (hp : H p = some u) (d : o ≠ u) : a ∉ [p] := fun z => by
  rw [List.mem_singleton.mp z, hp] at h
  exact d (Option.some.inj h).symm
theorem StAt.ob {K : PySem.W.Frag} {H : Hp} {p a : Addr} {ns : List Int} (S : StAt K H p a ns) : ∃ xs, H p = some (.lst xs) := let ⟨_, _, _, h, _⟩ := S; ⟨_, h⟩
theorem StAt.upd {K : PySem.W.Frag} {H : Hp} {p a q : Addr} {ns : List Int} {o : HO} (S : StAt K H p a ns) (n : H q = none) : StAt K (upd H q o) p a ns := by
  obtain ⟨i, r, m, h, h1, h2, h3⟩ := S
  refine ⟨i, r, m, by rw [upd_ne (ne_of_none h n)]; exact h, h1, h2, ?_⟩
  rcases h3 with (h3 | ⟨ob, h3⟩) | h3
  · exact .inl (.inl (by rw [upd_ne (ne_of_none h3 n)]; exact h3))
  · exact .inl (.inr ⟨ob, by rw [upd_ne (ne_of_none h3 n)]; exact h3⟩)
  · exact .inr h3
/-! ### displays -/
/-- arguments that are evaluated without a change: their values -/
def ValA (t : TA) (σ : L2.St) (vs : List V) : Prop := ∀ H (Q : List V → Hp → Prop), Q vs H → t σ H Q
theorem valA_nil {σ : L2.St} : ValA tNil σ [] := fun _ _ h => h
theorem valA_str {σ : L2.St} {t : TA} {z : Str} {vs : List V} (h : ValA t σ vs) : ValA (tCons (tC (.str z)) t) σ (.str z :: vs) := fun H Q q => h H _ q
theorem valA_var {σ : L2.St} {t : TA} {i : Nat} {v : V} {vs : List V} (e : σ[i]? = some (some v)) (h : ValA t σ vs) : ValA (tCons (tVar i) t) σ (v :: vs) := fun H Q q => ⟨v, e, h H _ q⟩
/-- arguments that are new tuples -/
def MkA (t : TA) (σ : L2.St) (xss : List (List V)) : Prop := ∀ H (Q : List V → Hp → Prop), (∀ (ps : List Addr) H', Kept [] H H' → Paired (fun p xs => H' p = some (.tup xs)) ps xss → Q (ps.map V.ref) H') → t σ H Q
theorem mkA_nil {σ : L2.St} : MkA tNil σ [] := fun H Q h => h [] H (Kept.refl H) .nil
theorem mkA_cons {σ : L2.St} {s t : TA} {xs : List V} {xss : List (List V)} (hs : ValA s σ xs) (h : MkA t σ xss) (hl : xs.length ≤ 100 := by exact Nat.le_of_ble_eq_true rfl) : MkA (tCons (tTup s) t) σ (xs :: xss) := fun H Q q =>
  hs H _ ⟨Nat.le_trans hl (by decide), fun p np => h _ _ fun ps H' k r => q (p :: ps) H' (fun b o e hb => k b o (by rw [upd_ne (ne_of_none e np)]; exact e) hb) (.cons (k p _ upd_same (by simp)) r)⟩
/-- [..][_law_taken(row, m)]: one of them -/
theorem rd_pick {K : PySem.W.Frag} {σ : L2.St} {H : Hp} {Q : VK} {tl : TA} {l : List Str} {m : Int} {p a : Addr} {ns : List Int} {E : XK} (hl : ValA tl σ (l.map V.str)) (hm : m = (l.length : Int)) (h0 : 0 < l.length) (h1 : l.length ≤ 100)
    (hσ : σ[0]? = some (some (.ref p))) (S : StAt K H p a ns) (h : ∀ z ∈ l, ∀ H', StAt K H' p a ns → Kept [p] H H' → Q (.str z) H') :
    tOp (rIxL K) (tLst tl) (tCall (spTaken K) [] E (tCons (tVar 0) (tCons (tC (.int m)) tNil))) σ H Q := by
  refine hl H _ ⟨by rw [List.length_map]; exact Nat.le_trans h1 (by decide), fun q nq => ?_⟩
  refine ⟨_, hσ, p, a, ns, m, rfl, S.upd nq, by omega, by omega, fun n H' hn0 hn1 S' k => ?_⟩
  obtain ⟨j, rfl⟩ : ∃ j : Nat, n = (j : Int) := ⟨n.toNat, by omega⟩
  have hj : j < l.length := by omega
  obtain ⟨xs, hp⟩ := S.ob
  have hq : q ∉ [p] := fun z => by
    rw [List.mem_singleton.mp z, hp] at nq
    cases nq
  refine ⟨q, l.map V.str, (j : Int), .str l[j], rfl, rfl, .inl (.of (k q _ upd_same hq)), at_of (j := j) rfl (by rw [List.getElem?_map, List.getElem?_eq_getElem hj]; rfl), ?_⟩
  exact h _ (List.getElem_mem hj) H' S' fun b o e hb => k b o (by rw [upd_ne (ne_of_none e nq)]; exact e) hb
theorem mkL {t : TA} {σ : L2.St} {xss : List (List V)} {H : Hp} {Q : VK} (h : MkA t σ xss) (hl : xss.length ≤ 100) (k : ∀ (ps : List Addr) (l : Addr) H', Kept [] H H' → Paired (fun p xs => H' p = some (.tup xs)) ps xss → H' l = some (.lst (ps.map V.ref)) → Q (.ref l) H') : tLst t σ H Q :=
  h H _ fun ps H' k1 r => ⟨by rw [List.length_map, r.length]; exact Nat.le_trans hl (by decide), fun l nl => k ps l _ (k1.upd nl) (Paired.mapP r fun p xs e => by rw [upd_ne (ne_of_none e nl)]; exact e) upd_same⟩
/-- statement by statement -/
theorem seq_set {te : TE} {i : Nat} {rest : TS} {D : Ends} {σ : L2.St} {H : Hp} (h : te σ H fun x H1 => rest D (σ.set i (some x)) H1) : tSeq (tAsg te (gName i)) rest D σ H := h
theorem ret_of {te : TE} {D : Ends} {σ : L2.St} {H : Hp} (h : te σ H D.rt) : tRet te D σ H := h
theorem op_of {r : R2} {ta tb : TE} {σ : L2.St} {H : Hp} {Q : VK} (h : ta σ H fun x H1 => tb σ H1 fun y H2 => r x y H2 Q) : tOp r ta tb σ H Q := h
theorem paired_app {α β : Type} {F : α → β → Prop} : ∀ {l₁ m₁ : List α} {l₂ m₂ : List β}, Paired F l₁ l₂ → Paired F m₁ m₂ → Paired F (l₁ ++ m₁) (l₂ ++ m₂)
  | _, _, _, _, .nil, h => h
  | _, _, _, _, .cons r t, h => .cons r (paired_app t h)
theorem paired_at {α β : Type} {F : α → β → Prop} : ∀ {l₁ : List α} {l₂ : List β} {i : Nat} {a : α}, Paired F l₁ l₂ → l₁[i]? = some a → ∃ b, l₂[i]? = some b ∧ F a b
  | _, _, _, _, .nil, h => by simp at h
  | _, _, 0, _, .cons r t, h => by
    simp at h
    subst h
    exact ⟨_, rfl, r⟩
  | _, _, i + 1, _, .cons r t, h => by
    obtain ⟨b, e, f⟩ := paired_at (i := i) t (by simpa using h)
    exact ⟨b, by simpa using e, f⟩
theorem StAt.kept {K : PySem.W.Frag} {H H' : Hp} {p a : Addr} {ns : List Int} (S : StAt K H p a ns) (k : Kept [] H H') : StAt K H' p a ns := by
  obtain ⟨i, r, m, h, h1, h2, h3⟩ := S
  refine ⟨i, r, m, k _ _ h (by simp), h1, h2, ?_⟩
  rcases h3 with (h3 | ⟨ob, h3⟩) | h3
  · exact .inl (.inl (k _ _ h3 (by simp)))
  · exact .inl (.inr ⟨ob, k _ _ h3 (by simp)⟩)
  · exact .inr h3
theorem few16 {n m c d t u : Str} (hn : n ∈ namesL) (hm : m ∈ namesL) (hc : c ∈ kindsL) (hd : d ∈ kindsL) (ht : t ∈ tiesL) (hu : u ∈ tiesL) :
    ∀ xs ∈ ([[.str "is", .str n, .str c], [.str "is", .str n, .str c], [.str "has", .str n, .str t, .str m], [.str "has", .str n, .str t, .str m], [.str "has", .str n, .str t, .str m], [.str "all", .str c, .str d]] ++
      [[.str "isnt", .str n, .str c], [.str "hasnt", .str n, .str t, .str m], [.str "no", .str c, .str d], [.str "each", .str c, .str t, .str m], [.str "who", .str t, .str c, .str d]] ++
      [[.str "turned", .str t, .str u], [.str "on", .str t], [.str "from", .str t, .str c], [.str "to", .str t, .str c], [.str "under", .str t, .str u]] : List (List V)), ∃ r : Rw, r.few ∧ xs = r.ws.map V.str := by
  intro xs hx
  simp only [List.mem_append, List.mem_cons, List.not_mem_nil, or_false] at hx
  rcases hx with ((e | e | e | e | e | e) | (e | e | e | e | e)) | (e | e | e | e | e)
  · exact ⟨.is n c, ⟨hn, hc⟩, e⟩
  · exact ⟨.is n c, ⟨hn, hc⟩, e⟩
  · exact ⟨.has n t m, ⟨hn, ht, hm⟩, e⟩
  · exact ⟨.has n t m, ⟨hn, ht, hm⟩, e⟩
  · exact ⟨.has n t m, ⟨hn, ht, hm⟩, e⟩
  · exact ⟨.all c d, ⟨hc, hd⟩, e⟩
  · exact ⟨.isnt n c, ⟨hn, hc⟩, e⟩
  · exact ⟨.hasnt n t m, ⟨hn, ht, hm⟩, e⟩
  · exact ⟨.no c d, ⟨hc, hd⟩, e⟩
  · exact ⟨.each c t m, ⟨hc, ht, hm⟩, e⟩
  · exact ⟨.who t c d, ⟨ht, hc, hd⟩, e⟩
  · exact ⟨.turned t u, ⟨ht, hu⟩, e⟩
  · exact ⟨.on t, ht, e⟩
  · exact ⟨.fr t c, ⟨ht, hc⟩, e⟩
  · exact ⟨.to t c, ⟨ht, hc⟩, e⟩
  · exact ⟨.under t u, ⟨ht, hu⟩, e⟩
/-- the slots -/
def sg (p : Addr) (n m c d t u : Str) (v : Option V) : L2.St := [some (.ref p), some (.str n), some (.str m), some (.str c), some (.str d), some (.str t), some (.str u), v]
theorem scLOne : FnScope ["_law_row_here", "_law_n", "_law_m", "_law_k", "_law_l", "_law_t", "_law_s", "_law_some"] ["_law_row_here"] (defScope lOne) := ⟨rfl, rfl, rfl, by decide +kernel, rfl, by decide +kernel, by decide +kernel⟩
def spOne (K : PySem.W.Frag) : Sp := fun vs H Q _ => ∃ (p a : Addr) (ns : List Int), vs = [.ref p] ∧ StAt K H p a ns ∧
  ∀ (q : Addr) (r : Rw) (H' : Hp), r.few → StAt K H' p a ns → Kept [p] H H' → H' q = some (.tup (r.ws.map V.str)) → Q (.ref q) H'
section
variable {P : Program} {w : World} {K : PySem.W.Frag} {mg : Str → Option Value} {base : Heap} {f fT : Addr} {fd fdT : FuncData}
theorem ok_lone (F : FnP K "_law_one" lOne f fd) (gT : mg "_law_taken" = some (.ref fT)) (FT : FnOk P w K mg base CX0 1 fT fdT ["_law_row_here", "_law_many"] (spTaken K)) (kT : PySem.W.keepIn K (.ref fT) = true) (bT : Binds K fdT ["_law_row_here", "_law_many"] []) :
    FnOk P w K mg base CX0 2 f fd ["_law_row_here"] (spOne K) := by
  refine F.ok scLOne (fun vs H Q E h => ?_) (fun cdv A outer s H vs Q E hr h => ?_)
  · obtain ⟨p, a, ns, rfl, _⟩ := h
    rfl
  · obtain ⟨p, a, ns, rfl, S, k⟩ := h
    refine ⟨_, PSs.nox (pss_cons (ps_par (by rfl) scLOne.nd (i := 1) (j := 2) rfl rfl (by decide) rfl rfl (pa_cons (pe_ix ix_list (pe_lst (pa_cons pe_str (pa_cons pe_str (pa_cons pe_str pa_nil)))) (pe_call FT hr (by rfl) gT kT bT .nil pass0 (pa_cons (pv 0) (pa_cons pe_int pa_nil))) (fun _ _ => rfl)) (pa_cons (pe_ix ix_list (pe_lst (pa_cons pe_str (pa_cons pe_str (pa_cons pe_str pa_nil)))) (pe_call FT hr (by rfl) gT kT bT .nil pass0 (pa_cons (pv 0) (pa_cons pe_int pa_nil))) (fun _ _ => rfl)) pa_nil)) (by rfl))
      (pss_cons (ps_par (by rfl) scLOne.nd (i := 3) (j := 4) rfl rfl (by decide) rfl rfl (pa_cons (pe_ix ix_list (pe_lst (pa_cons pe_str (pa_cons pe_str (pa_cons pe_str pa_nil)))) (pe_call FT hr (by rfl) gT kT bT .nil pass0 (pa_cons (pv 0) (pa_cons pe_int pa_nil))) (fun _ _ => rfl)) (pa_cons (pe_ix ix_list (pe_lst (pa_cons pe_str (pa_cons pe_str (pa_cons pe_str pa_nil)))) (pe_call FT hr (by rfl) gT kT bT .nil pass0 (pa_cons (pv 0) (pa_cons pe_int pa_nil))) (fun _ _ => rfl)) pa_nil)) (by rfl))
      (pss_cons (ps_par (by rfl) scLOne.nd (i := 5) (j := 6) rfl rfl (by decide) rfl rfl (pa_cons (pe_ix ix_list (pe_lst (pa_cons pe_str (pa_cons pe_str pa_nil))) (pe_call FT hr (by rfl) gT kT bT .nil pass0 (pa_cons (pv 0) (pa_cons pe_int pa_nil))) (fun _ _ => rfl)) (pa_cons (pe_ix ix_list (pe_lst (pa_cons pe_str (pa_cons pe_str pa_nil))) (pe_call FT hr (by rfl) gT kT bT .nil pass0 (pa_cons (pv 0) (pa_cons pe_int pa_nil))) (fun _ _ => rfl)) pa_nil)) (by rfl))
      (pss_cons (ps_set (i := 7) scLOne.nd rfl (.inl rfl) (pe_lst (pa_cons (pe_tup (pa_cons pe_str (pa_cons (pv 1) (pa_cons (pv 3) pa_nil)))) (pa_cons (pe_tup (pa_cons pe_str (pa_cons (pv 1) (pa_cons (pv 3) pa_nil)))) (pa_cons (pe_tup (pa_cons pe_str (pa_cons (pv 1) (pa_cons (pv 5) (pa_cons (pv 2) pa_nil))))) (pa_cons (pe_tup (pa_cons pe_str (pa_cons (pv 1) (pa_cons (pv 5) (pa_cons (pv 2) pa_nil))))) (pa_cons (pe_tup (pa_cons pe_str (pa_cons (pv 1) (pa_cons (pv 5) (pa_cons (pv 2) pa_nil))))) (pa_cons (pe_tup (pa_cons pe_str (pa_cons (pv 3) (pa_cons (pv 4) pa_nil)))) pa_nil))))))))
      (pss_cons (ps_set (i := 7) scLOne.nd rfl (.inl rfl) (pe_op op_cat (pv 7) (pe_lst (pa_cons (pe_tup (pa_cons pe_str (pa_cons (pv 1) (pa_cons (pv 3) pa_nil)))) (pa_cons (pe_tup (pa_cons pe_str (pa_cons (pv 1) (pa_cons (pv 5) (pa_cons (pv 2) pa_nil))))) (pa_cons (pe_tup (pa_cons pe_str (pa_cons (pv 3) (pa_cons (pv 4) pa_nil)))) (pa_cons (pe_tup (pa_cons pe_str (pa_cons (pv 3) (pa_cons (pv 5) (pa_cons (pv 2) pa_nil))))) (pa_cons (pe_tup (pa_cons pe_str (pa_cons (pv 5) (pa_cons (pv 3) (pa_cons (pv 4) pa_nil))))) pa_nil))))))))
      (pss_cons (ps_set (i := 7) scLOne.nd rfl (.inl rfl) (pe_op op_cat (pv 7) (pe_lst (pa_cons (pe_tup (pa_cons pe_str (pa_cons (pv 5) (pa_cons (pv 6) pa_nil)))) (pa_cons (pe_tup (pa_cons pe_str (pa_cons (pv 5) pa_nil))) (pa_cons (pe_tup (pa_cons pe_str (pa_cons (pv 5) (pa_cons (pv 3) pa_nil)))) (pa_cons (pe_tup (pa_cons pe_str (pa_cons (pv 5) (pa_cons (pv 3) pa_nil)))) (pa_cons (pe_tup (pa_cons pe_str (pa_cons (pv 5) (pa_cons (pv 6) pa_nil)))) pa_nil))))))))
      (pss_one (ps_ret (pe_ix ix_list (pv 7) (pe_call FT hr (by rfl) gT kT bT .nil pass0 (pa_cons (pv 0) (pa_cons pe_int pa_nil))) (fun _ _ => rfl)))))))))), ?_⟩
    refine rd_pick (l := namesL) (valA_str (valA_str (valA_str valA_nil))) rfl (by decide) (by decide) rfl S fun n hn H1 S1 k1 => ?_
    refine rd_pick (l := namesL) (valA_str (valA_str (valA_str valA_nil))) rfl (by decide) (by decide) rfl S1 fun m hm H2 S2 k2 => ⟨_, _, rfl, ?_⟩
    refine rd_pick (l := kindsL) (valA_str (valA_str (valA_str valA_nil))) rfl (by decide) (by decide) rfl S2 fun c hc H3 S3 k3 => ?_
    refine rd_pick (l := kindsL) (valA_str (valA_str (valA_str valA_nil))) rfl (by decide) (by decide) rfl S3 fun d hd H4 S4 k4 => ⟨_, _, rfl, ?_⟩
    refine rd_pick (l := tiesL) (valA_str (valA_str valA_nil)) rfl (by decide) (by decide) rfl S4 fun t ht H5 S5 k5 => ?_
    refine rd_pick (l := tiesL) (valA_str (valA_str valA_nil)) rfl (by decide) (by decide) rfl S5 fun u hu H6 S6 k6 => ⟨_, _, rfl, ?_⟩
    have A1 : MkA _ (sg p n m c d t u none) [[.str "is", .str n, .str c], [.str "is", .str n, .str c], [.str "has", .str n, .str t, .str m], [.str "has", .str n, .str t, .str m], [.str "has", .str n, .str t, .str m], [.str "all", .str c, .str d]] :=
      mkA_cons (valA_str (valA_var (i := 1) rfl (valA_var (i := 3) rfl valA_nil))) (mkA_cons (valA_str (valA_var (i := 1) rfl (valA_var (i := 3) rfl valA_nil))) (mkA_cons (valA_str (valA_var (i := 1) rfl (valA_var (i := 5) rfl (valA_var (i := 2) rfl valA_nil)))) (mkA_cons (valA_str (valA_var (i := 1) rfl (valA_var (i := 5) rfl (valA_var (i := 2) rfl valA_nil)))) (mkA_cons (valA_str (valA_var (i := 1) rfl (valA_var (i := 5) rfl (valA_var (i := 2) rfl valA_nil)))) (mkA_cons (valA_str (valA_var (i := 3) rfl (valA_var (i := 4) rfl valA_nil))) mkA_nil)))))
    dsimp only
    refine seq_set ?_
    change tLst _ (sg p n m c d t u none) H6 _
    refine mkL A1 (by exact Nat.le_of_ble_eq_true rfl) fun ps1 l1 H7 k7 r7 e7 => ?_
    change tSeq (tAsg _ (gName 7)) _ _ (sg p n m c d t u (some (.ref l1))) H7
    refine seq_set (op_of ⟨_, rfl, ?_⟩)
    change tLst _ (sg p n m c d t u (some (.ref l1))) H7 _
    have A2 : MkA _ (sg p n m c d t u (some (.ref l1))) [[.str "isnt", .str n, .str c], [.str "hasnt", .str n, .str t, .str m], [.str "no", .str c, .str d], [.str "each", .str c, .str t, .str m], [.str "who", .str t, .str c, .str d]] :=
      mkA_cons (valA_str (valA_var (i := 1) rfl (valA_var (i := 3) rfl valA_nil))) (mkA_cons (valA_str (valA_var (i := 1) rfl (valA_var (i := 5) rfl (valA_var (i := 2) rfl valA_nil)))) (mkA_cons (valA_str (valA_var (i := 3) rfl (valA_var (i := 4) rfl valA_nil))) (mkA_cons (valA_str (valA_var (i := 3) rfl (valA_var (i := 5) rfl (valA_var (i := 2) rfl valA_nil)))) (mkA_cons (valA_str (valA_var (i := 5) rfl (valA_var (i := 3) rfl (valA_var (i := 4) rfl valA_nil)))) mkA_nil))))
    refine mkL A2 (by exact Nat.le_of_ble_eq_true rfl) fun ps2 l2 H8 k8 r8 e8 => ?_
    refine ⟨l1, l2, _, _, rfl, rfl, k8 l1 _ e7 (by simp), e8, ?_, fun l3 n3 => ?_⟩
    · rw [List.length_map, List.length_map, r7.length, r8.length]; exact Nat.le_of_ble_eq_true rfl
    change tSeq (tAsg _ (gName 7)) _ _ (sg p n m c d t u (some (.ref l3))) _
    refine seq_set (op_of ⟨_, rfl, ?_⟩)
    change tLst _ (sg p n m c d t u (some (.ref l3))) _ _
    have A3 : MkA _ (sg p n m c d t u (some (.ref l3))) [[.str "turned", .str t, .str u], [.str "on", .str t], [.str "from", .str t, .str c], [.str "to", .str t, .str c], [.str "under", .str t, .str u]] :=
      mkA_cons (valA_str (valA_var (i := 5) rfl (valA_var (i := 6) rfl valA_nil))) (mkA_cons (valA_str (valA_var (i := 5) rfl valA_nil)) (mkA_cons (valA_str (valA_var (i := 5) rfl (valA_var (i := 3) rfl valA_nil))) (mkA_cons (valA_str (valA_var (i := 5) rfl (valA_var (i := 3) rfl valA_nil))) (mkA_cons (valA_str (valA_var (i := 5) rfl (valA_var (i := 6) rfl valA_nil))) mkA_nil))))
    refine mkL A3 (by exact Nat.le_of_ble_eq_true rfl) fun ps3 l4 H9 k9 r9 e9 => ?_
    refine ⟨l3, l4, _, _, rfl, rfl, k9 l3 _ upd_same (by simp), e9, ?_, fun l5 n5 => ?_⟩
    · rw [List.length_append, List.length_map, List.length_map, List.length_map, r7.length, r8.length, r9.length]; exact Nat.le_of_ble_eq_true rfl
    change tRet _ _ (sg p n m c d t u (some (.ref l5))) _
    refine ret_of (op_of ⟨_, rfl, ?_⟩)
    have kA : Kept [] H6 (L2.upd H8 l3 (.lst (ps1.map V.ref ++ ps2.map V.ref))) := (k7.trans k8).upd n3
    have kB : Kept [] H6 (L2.upd H9 l5 (.lst (ps1.map V.ref ++ ps2.map V.ref ++ ps3.map V.ref))) := (kA.trans k9).upd n5
    have k89 : Kept [] H8 (L2.upd H9 l5 (.lst (ps1.map V.ref ++ ps2.map V.ref ++ ps3.map V.ref))) := (((Kept.refl H8).upd n3).trans k9).upd n5
    have k99 : Kept [] H9 (L2.upd H9 l5 (.lst (ps1.map V.ref ++ ps2.map V.ref ++ ps3.map V.ref))) := (Kept.refl H9).upd n5
    have rr := (paired_app (paired_app (Paired.mapP r7 fun q xs e => k89 q _ (k8 q _ e (by simp)) (by simp)) (Paired.mapP r8 fun q xs e => k89 q _ e (by simp))) (Paired.mapP r9 fun q xs e => k99 q _ e (by simp)))
    have e5 : L2.upd H9 l5 (.lst (ps1.map V.ref ++ ps2.map V.ref ++ ps3.map V.ref)) l5 = some (.lst ((ps1 ++ ps2 ++ ps3).map V.ref)) := by rw [upd_same, List.map_append, List.map_append]
    have SB := S6.kept kB
    generalize hHf : L2.upd H9 l5 (.lst (ps1.map V.ref ++ ps2.map V.ref ++ ps3.map V.ref)) = Hf at kB rr e5 SB
    have hl5 : l5 ∉ [p] := fun z => by
      obtain ⟨xs, hp⟩ := S6.ob
      have q := k9 p _ (kA p _ hp (by simp)) (by simp)
      rw [List.mem_singleton.mp z, q] at n5
      cases n5
    refine ⟨_, rfl, p, a, ns, 16, rfl, SB, by decide, by decide, fun i H' h0 h1 S' k' => ?_⟩
    obtain ⟨j, rfl⟩ : ∃ j : Nat, i = (j : Int) := ⟨i.toNat, by omega⟩
    have hlen := rr.length
    have hj : j < (ps1 ++ ps2 ++ ps3).length := by
      rw [hlen]
      exact Nat.lt_of_lt_of_le (show j < 16 by omega) (by exact Nat.le_of_ble_eq_true rfl)
    obtain ⟨xs, hx, hq⟩ := paired_at rr (List.getElem?_eq_getElem hj)
    obtain ⟨r, hr, er⟩ := few16 hn hm hc hd ht hu xs (List.mem_of_getElem? hx)
    subst er
    refine ⟨l5, _, _, _, rfl, rfl, .inl (.of (k' l5 _ e5 hl5)), at_of (j := j) rfl (by rw [List.getElem?_map, List.getElem?_eq_getElem hj]; rfl), ?_⟩
    obtain ⟨ys, hp6⟩ := SB.ob
    refine k _ r H' hr S' ?_ (k' _ _ hq (notin1 hq hp6 (by intro z; cases z)))
    exact ((((((k1.trans k2).trans k3).trans k4).trans k5).trans k6).trans (kB.mono (by simp))).trans k'
end
end Ah
end
section
set_option Elab.async false
set_option linter.all false
set_option maxRecDepth 100000
set_option maxHeartbeats 2000000
namespace Ah
open PySem PySem.Spec PyProof.Rows L2
/-! ### texts -/
def TextAt (H : Hp) (q : Addr) (rs : List Rw) : Prop := ∃ ps : List Addr, H q = some (.tup (ps.map V.ref)) ∧ Paired (fun a r => H a = some (.tup ((Rw.ws r).map V.str))) ps rs
theorem scLTx : FnScope ["_law_row_here", "_law_many", "_law_k"] ["_law_row_here", "_law_many"] (defScope lText) := ⟨rfl, rfl, rfl, by decide +kernel, rfl, by decide +kernel, by decide +kernel⟩
def spText (K : PySem.W.Frag) : Sp := fun vs H Q _ => ∃ (p a : Addr) (ns : List Int) (many : Int), vs = [.ref p, .int many] ∧ StAt K H p a ns ∧ 0 ≤ many ∧ many < 1000 ∧
  ∀ (q : Addr) (rs : List Rw) (H' : Hp), (∀ r ∈ rs, r.few) → (rs.length : Int) ≤ many → StAt K H' p a ns → Kept [p] H H' → TextAt H' q rs → Q (.ref q) H'
theorem seqL_far {K : PySem.W.Frag} {H1 H' : Hp} {a D : Addr} {o : HO} {xs : List V} (h1 : SqL K H1 a xs) (n : H1 D = none) (h : SqL K H' a xs) : SqL K (upd H' D o) a xs := by
  rcases h1 with h1 | h1
  · have ne : a ≠ D := fun e => by
      rcases h1 with h1 | ⟨ob, h1⟩ <;> rw [e, n] at h1 <;> cases h1
    rcases h with (h | ⟨ob, h⟩) | h
    · exact .inl (.inl (by rw [upd_ne ne]; exact h))
    · exact .inl (.inr ⟨ob, by rw [upd_ne ne]; exact h⟩)
    · exact .inr h
  · exact .inr h1
/-- the state stands where another new object changes -/
theorem StAt.far {K : PySem.W.Frag} {H1 H' : Hp} {p a D : Addr} {ns : List Int} {o : HO} (S1 : StAt K H1 p a ns) (n : H1 D = none) (S : StAt K H' p a ns) : StAt K (L2.upd H' D o) p a ns := by
  obtain ⟨i, r, m, h, g1, g2, g3⟩ := S
  obtain ⟨i1, r1, m1, h1, _, _, q3⟩ := S1
  exact ⟨i, r, m, by rw [upd_ne (ne_of_none h1 n)]; exact h, g1, g2, seqL_far q3 n g3⟩
theorem Kept.far {M : List Addr} {H H1 H' : Hp} {D : Addr} {o : HO} (k1 : Kept M H H1) (n : H1 D = none) (k : Kept M H H') : Kept M H (L2.upd H' D o) := fun b u e hb => by
  rw [upd_ne (ne_of_none (k1 b u e hb) n)]
  exact k b u e hb
theorem yes_if {X Y : Hp → Prop} {σ : L2.St} {H : Hp} (h : X H) : tYes σ H fun b H3 => if b = true then X H3 else Y H3 := by
  show if true = true then X H else Y H
  rw [if_pos rfl]
  exact h
section
variable {P : Program} {w : World} {K : PySem.W.Frag} {mg : Str → Option Value} {base : Heap} {f fT fO : Addr} {fd fdT fdO : FuncData}
theorem ok_ltext (F : FnP K "_law_text" lText f fd) (gT : mg "_law_taken" = some (.ref fT)) (FT : FnOk P w K mg base CX0 1 fT fdT ["_law_row_here", "_law_many"] (spTaken K)) (kT : PySem.W.keepIn K (.ref fT) = true) (bT : Binds K fdT ["_law_row_here", "_law_many"] [])
    (gO : mg "_law_one" = some (.ref fO)) (FO : FnOk P w K mg base CX0 2 fO fdO ["_law_row_here"] (spOne K)) (kO : PySem.W.keepIn K (.ref fO) = true) (bO : Binds K fdO ["_law_row_here"] []) (zt : mg "tuple" = none) (zr : mg "range" = none) :
    FnOk P w K mg base CX0 3 f fd ["_law_row_here", "_law_many"] (spText K) := by
  refine F.ok scLTx (fun vs H Q E h => ?_) (fun cdv A outer s H vs Q E hr h => ?_)
  · obtain ⟨p, a, ns, many, rfl, _⟩ := h
    rfl
  · obtain ⟨p, a, ns, many, rfl, S, h0, h1, k⟩ := h
    refine ⟨_, PSs.nox (pss_one (ps_ret (pe_callTy call_tuple_of (by rfl) zt (by decide +kernel) (pa_cons
      (pe_lc (own := [("_law_k", 2)]) (g := gName 2) (tt := tYes) rfl scLTx.nd (pi_range1 rfl zr (pa_cons (pe_call FT (hr.mono (by decide)) (by rfl) gT kT bT .nil pass0 (pa_cons (pv 0) (pa_cons (pe_op op_add (pv 1) pe_int) pa_nil))) pa_nil))
        (blkOk_by (N := ["_law_row_here", "_law_many", "_law_k"]) (sc := defScope lText) (by decide +kernel)) (fun _ _ _ _ _ => pg_name (i := 2) scLTx.nd rfl (Or.inl rfl)) (fun _ _ _ _ _ => pts_nil)
        (fun _ _ _ _ _ => pe_call FO hr (by rfl) gO kO bO .nil pass0 (pa_cons (pv 0) pa_nil))) pa_nil)))), ?_⟩
    refine ⟨_, rfl, _, rfl, _, _, rfl, rfl, p, a, ns, many + 1, rfl, S, by omega, by omega, fun n H1 hn0 hn1 S1 k1 => ⟨n, rfl, by omega, by omega, fun D nD => ?_⟩⟩
    refine lc_range (lo := 0) (n := n.toNat) (fun i H' => ∃ (ps : List Addr) (rs : List Rw), H' D = some (.lst (ps.map V.ref)) ∧ Paired (fun a r => H' a = some (.tup ((Rw.ws r).map V.str))) ps rs ∧ rs.length = i ∧ (∀ r ∈ rs, r.few) ∧ StAt K H' p a ns ∧ Kept [p] H H')
      ⟨[], [], upd_same, .nil, rfl, fun _ z => (by simp at z), S1.upd nD, k1.upd nD⟩ ?_ ?_
    · rintro i Ha hi ⟨ps, rs, e1, r1, hl, hf, S2, k2⟩
      refine ⟨rfl, yes_if ?_⟩
      refine ⟨_, rfl, p, a, ns, rfl, S2, fun q r H3 hr' S3 k3 eq => ?_⟩
      obtain ⟨ys, hp2⟩ := S2.ob
      have hDp : D ∉ [p] := fun z => by
        obtain ⟨zs, hz⟩ := S1.ob
        rw [List.mem_singleton.mp z, hz] at nD
        cases nD
      have hl2 : ps.length = rs.length := r1.length
      have eD := k3 D _ e1 hDp
      refine ⟨_, eD, ?_, ps ++ [q], rs ++ [r], ?_, ?_, ?_, ?_, ?_, ?_⟩
      · rw [List.length_map, hl2, hl]
        exact Nat.lt_of_lt_of_le (show i < 2000 by omega) (by decide)
      · rw [upd_same, List.map_append] <;> rfl
      · have neD : ∀ {b : Addr} {xs : List V}, H3 b = some (.tup xs) → b ≠ D := fun e z => by
          rw [z, eD] at e
          cases e
        refine paired_app (Paired.mapP r1 fun b r' e => ?_) (.cons ?_ .nil)
        · have e' := k3 b _ e (notin1 e hp2 (by intro z; cases z))
          rw [upd_ne (neD e')]
          exact e'
        · rw [upd_ne (neD eq)]
          exact eq
      · rw [List.length_append, hl] <;> rfl
      · intro r' hr2
        rcases List.mem_append.mp hr2 with z | z
        · exact hf r' z
        · rw [List.mem_singleton.mp z]
          exact hr'
      · exact S1.far nD S3
      · exact k1.far nD (k2.trans k3)
    · rintro Ha ⟨ps, rs, e1, r1, hl, hf, S2, k2⟩
      refine ⟨D, _, rfl, .inl ⟨.inl (.of e1), fun q nq => ?_⟩⟩
      refine k q rs _ hf (by omega) (S2.upd nq) (k2.upd nq) ⟨ps, upd_same, Paired.mapP r1 fun b r' e => by rw [upd_ne (ne_of_none e nq)]; exact e⟩
end
end Ah
end
section
set_option Elab.async false
set_option linter.all false
set_option maxRecDepth 100000
set_option maxHeartbeats 2000000
namespace Ah
open PySem PySem.Spec PyProof.Rows L2
/-! ### alike -/
def Flat : V → Prop
  | .non => True | .bl _ => True | .int _ => True | .str _ => True | _ => False
/-- the same data to the depth n -/
def At (K : PySem.W.Frag) (H : Hp) : Nat → V → V → Prop
  | 0, x, y => x = y ∧ Flat x
  | n + 1, x, y => (x = y ∧ Flat x) ∨ ∃ a b xs ys, x = .ref a ∧ y = .ref b ∧ ((SqT K H a xs ∧ SqT K H b ys) ∨ (H a = some (.lst xs) ∧ H b = some (.lst ys))) ∧ xs.length ≤ 1000000 ∧ Paired (At K H n) xs ys
theorem sqT_kept {K : PySem.W.Frag} {H H' : Hp} {a : Addr} {xs : List V} (k : Kept [] H H') (h : SqT K H a xs) : SqT K H' a xs := by
  rcases h with (h | ⟨o, h⟩) | h
  · exact .inl (.inl (k _ _ h (by simp)))
  · exact .inl (.inr ⟨o, k _ _ h (by simp)⟩)
  · exact .inr h
theorem At.kept {K : PySem.W.Frag} {H H' : Hp} (k : Kept [] H H') : ∀ {n : Nat} {x y : V}, At K H n x y → At K H' n x y
  | 0, _, _, h => h
  | n + 1, _, _, h => by
    rcases h with h | ⟨a, b, xs, ys, e1, e2, h, hl, r⟩
    · exact .inl h
    · refine .inr ⟨a, b, xs, ys, e1, e2, ?_, hl, Paired.mapP r fun x y q => At.kept k q⟩
      rcases h with ⟨h1, h2⟩ | ⟨h1, h2⟩
      · exact .inl ⟨sqT_kept k h1, sqT_kept k h2⟩
      · exact .inr ⟨k _ _ h1 (by simp), k _ _ h2 (by simp)⟩
def spAlike (K : PySem.W.Frag) : Nat → Sp
  | 0 => fun _ _ _ _ => False
  | n + 1 => fun vs H Q _ => ∃ x y : V, vs = [x, y] ∧ At K H n x y ∧ ∀ H', Kept [] H H' → Q (.bl true) H'
theorem scLA : FnScope ["_law_found", "_law_due", "_law_same_kind", "_law_k"] ["_law_found", "_law_due"] (defScope lAlike) := ⟨rfl, rfl, rfl, by decide +kernel, rfl, by decide +kernel, by decide +kernel⟩
/-- built-in names that the module leaves alone -/
structure Bl (mg : Str → Option Value) : Prop where
  isinstance_ : mg "isinstance" = none
  len_ : mg "len" = none
  tuple_ : mg "tuple" = none
  list_ : mg "list" = none
  str_ : mg "str" = none
  bool_ : mg "bool" = none
  range_ : mg "range" = none
  enumerate_ : mg "enumerate" = none
  sorted_ : mg "sorted" = none
  zip_ : mg "zip" = none
  dict_ : mg "dict" = none
  all_ : mg "all" = none
/-- a def of the module's own, its promise, its binding -/
structure Own (P : Program) (w : World) (K : PySem.W.Frag) (mg : Str → Option Value) (base : Heap) (x : Str) (k : Nat) (f : Addr) (fd : FuncData) (ps : List Str) (sp : Sp) : Prop where
  ok : FnOk P w K mg base CX0 k f fd ps sp
  g : mg x = some (.ref f)
  kp : PySem.W.keepIn K (.ref f) = true
  b : Binds K fd ps []
/-- a value's built-in class -/
inductive TyS (K : PySem.W.Frag) (H : Hp) : V → String → Prop where
  | non : TyS K H .non "NoneType"
  | bl (b : Bool) : TyS K H (.bl b) "bool"
  | int (i : Int) : TyS K H (.int i) "int"
  | str (z : Str) : TyS K H (.str z) "str"
  | tup {a : Addr} {xs : List V} (e : SqT K H a xs) : TyS K H (.ref a) "tuple"
  | lst {a : Addr} {xs : List V} (e : H a = some (.lst xs)) : TyS K H (.ref a) "list"
theorem TyS.x {K : PySem.W.Frag} {H : Hp} {v : V} {a : String} (h : TyS K H v a) : TyX K H v (.type a) := by
  cases h with
  | non => exact .base .non
  | bl b => exact .base (.bl b)
  | int i => exact .base (.int i)
  | str z => exact .base (.str z)
  | tup e =>
    rcases e with (e | ⟨o, e⟩) | ⟨o, its, n, h1, h2, _⟩
    · exact .base (.tup e)
    · exact .fTuple e
    · exact .kTuple h1 h2
  | lst e => exact .base (.lst e)
theorem TyS.kept {K : PySem.W.Frag} {H H' : Hp} {v : V} {a : String} (h : TyS K H v a) (k : Kept [] H H') : TyS K H' v a := by
  cases h with
  | non => exact .non
  | bl b => exact .bl b
  | int i => exact .int i
  | str z => exact .str z
  | tup e => exact .tup (sqT_kept k e)
  | lst e => exact .lst (k _ _ e (by simp))
theorem Flat.ty {K : PySem.W.Frag} {H : Hp} {v : V} (h : Flat v) : ∃ a, TyS K H v a ∧ kitB a "tuple" = some false ∧ kitB a "list" = some false ∧ (∃ b, kitB a "str" = some b) ∧ ∃ b, kitB a "bool" = some b := by
  cases v with
  | non => exact ⟨_, .non, by decide +kernel, by decide +kernel, ⟨false, by decide +kernel⟩, false, by decide +kernel⟩
  | bl b => exact ⟨_, .bl b, by decide +kernel, by decide +kernel, ⟨false, by decide +kernel⟩, true, by decide +kernel⟩
  | int b => exact ⟨_, .int b, by decide +kernel, by decide +kernel, ⟨false, by decide +kernel⟩, false, by decide +kernel⟩
  | str b => exact ⟨_, .str b, by decide +kernel, by decide +kernel, ⟨true, by decide +kernel⟩, false, by decide +kernel⟩
  | _ => exact h.elim
theorem iteNF {A B : Prop} {x : V} (hx : x = x) (h : B) : if (!decide (x = x)) = true then A else B := by
  rw [decide_eq_true hx]
  exact iteF h
theorem rd_isi {K : PySem.W.Frag} {σ : L2.St} {H : Hp} {Q : VK} {i : Nat} {v : V} {a c : String} {b : Bool} (hσ : σ[i]? = some (some v)) (ty : TyS K H v a) (kb : kitB a c = some b) (q : Q (.bl b) H) : tCB (rIsi K) (tCons (tVar i) (tCons (tC (.ty c)) tNil)) σ H Q :=
  ⟨v, hσ, v, .ty c, .type a, .type c, b, rfl, .ty c, ty.x, kit_ty kb, q⟩
theorem rd_isi2 {K : PySem.W.Frag} {σ : L2.St} {H : Hp} {Q : VK} {i : Nat} {v : V} {a : String} {b1 b2 : Bool} (hσ : σ[i]? = some (some v)) (ty : TyS K H v a) (k1 : kitB a "tuple" = some b1) (k2 : kitB a "list" = some b2)
    (q : ∀ H', Kept [] H H' → Q (.bl (b1 || b2)) H') : tCB (rIsiT K) (tCons (tVar i) (tCons (tTup (tCons (tC (.ty "tuple")) (tCons (tC (.ty "list")) tNil))) tNil)) σ H Q := by
  refine ⟨v, hσ, by show 2 ≤ sizeLine; decide, fun T nT => ?_⟩
  have k : Kept [] H (upd H T (.tup [.ty "tuple", .ty "list"])) := (Kept.refl H).upd nT
  refine ⟨v, T, _, .type a, [.type "tuple", .type "list"], b1 || b2, rfl, upd_same, .cons (.ty _) (.cons (.ty _) .nil), (ty.kept k).x, ?_, q _ k⟩
  refine kitAny_cons (kit_ty k1) (fun e => ?_) fun e => by rw [e]; rfl
  rw [e]
  exact kitAny_cons (kit_ty k2) (fun e2 => by rw [e2]; exact kitAny_nil) fun e2 => by rw [e2]; rfl
section
variable {P : Program} {w : World} {K : PySem.W.Frag} {mg : Str → Option Value} {base : Heap} {f : Addr} {fd : FuncData}
theorem ok_lalike (F : FnP K "_law_alike" lAlike f fd) (gA : mg "_law_alike" = some (.ref f)) (bA : Binds K fd ["_law_found", "_law_due"] []) (B : Bl mg) : ∀ n : Nat, FnOk P w K mg base CX0 n f fd ["_law_found", "_law_due"] (spAlike K n) := by
  intro n
  induction n with
  | zero => exact ⟨fun vs H Q E h => (show False from h).elim, fun A outer s H args us vs Q E _ _ _ _ h => (show False from h).elim⟩
  | succ n ih =>
    have c__law_alike : Own P w K mg base "_law_alike" n f fd ["_law_found", "_law_due"] (spAlike K n) := ⟨ih, gA, F.kp, bA⟩
    refine F.ok scLA (fun vs H Q E h => ?_) (fun cdv A outer s H vs Q E hr h => ?_)
    · obtain ⟨x, y, rfl, _⟩ := h
      rfl
    · obtain ⟨x, y, rfl, hxy, k⟩ := h
      refine ⟨_, PSs.nox (pss_cons (ps_if (pt_val (pe_callB call_isiT (by rfl) B.isinstance_ (by decide +kernel) (pa_cons (pv 1) (pa_cons (pe_tup (pa_cons (pe_bltn (v := .ty "tuple") (by rfl) B.tuple_ (by decide +kernel) rfl) (pa_cons (pe_bltn (v := .ty "list") (by rfl) B.list_ (by decide +kernel) rfl) pa_nil))) pa_nil)))) (pss_cons (ps_if (PW.pt (pw_or (pt_cmpR op_ne (pe_callB call_isi (by rfl) B.isinstance_ (by decide +kernel) (pa_cons (pv 0) (pa_cons (pe_bltn (v := .ty "tuple") (by rfl) B.tuple_ (by decide +kernel) rfl) pa_nil))) (pe_callB call_isi (by rfl) B.isinstance_ (by decide +kernel) (pa_cons (pv 1) (pa_cons (pe_bltn (v := .ty "tuple") (by rfl) B.tuple_ (by decide +kernel) rfl) pa_nil))) (nomark _)) (pw_or1 (pt_not (pt_val (pe_callB call_isiT (by rfl) B.isinstance_ (by decide +kernel) (pa_cons (pv 0) (pa_cons (pe_tup (pa_cons (pe_bltn (v := .ty "tuple") (by rfl) B.tuple_ (by decide +kernel) rfl) (pa_cons (pe_bltn (v := .ty "list") (by rfl) B.list_ (by decide +kernel) rfl) pa_nil))) pa_nil)))))))) (pss_one (ps_ret pe_bl)) pss_nil)
      (pss_cons (ps_if (pt_cmpR op_ne (pe_callB call_len_seq (by rfl) B.len_ (by decide +kernel) (pa_cons (pv 0) pa_nil)) (pe_callB call_len_seq (by rfl) B.len_ (by decide +kernel) (pa_cons (pv 1) pa_nil)) (nomark _)) (pss_one (ps_ret pe_bl)) pss_nil)
      (pss_one (ps_ret (pe_cmpR (op_eqD hr.units) (pe_lc (own := [("_law_k", 3)]) rfl scLA.nd (pi_range1 (by rfl) B.range_ (pa_cons (pe_callB call_len_seq (by rfl) B.len_ (by decide +kernel) (pa_cons (pv 1) pa_nil)) pa_nil)) (blkOk_by (N := ["_law_found", "_law_due", "_law_same_kind", "_law_k"]) (sc := defScope lAlike) (by decide +kernel)) (fun _ _ _ _ _ => (pg_name (i := 3) scLA.nd rfl (Or.inl rfl))) (fun _ _ _ _ _ => (pts_one (pt_not (pt_val (pe_call c__law_alike.ok hr (by rfl) c__law_alike.g c__law_alike.kp c__law_alike.b .nil pass0 (pa_cons (pe_ix (show IxR _ (rIx K) from ix_seq) (pv 0) (pv 3) (fun _ _ => rfl)) (pa_cons (pe_ix (show IxR _ (rIx K) from ix_seq) (pv 1) (pv 3) (fun _ _ => rfl)) pa_nil))))))) (fun _ _ _ _ _ => (pv 3))) (pe_lst pa_nil) (nomark _)))))) pss_nil)
      (pss_cons (ps_if (PW.pt (pw_or (pt_cmpR op_isN (pv 1) pe_non (nomark _)) (pw_or1 (pt_cmpR op_isN (pv 0) pe_non (nomark _))))) (pss_one (ps_ret (pe_and (pe_cmpR op_isN (pv 1) pe_non (nomark _)) (pe_one (pe_cmpR op_isN (pv 0) pe_non (nomark _)))))) pss_nil)
      (pss_cons (ps_set (i := 2) scLA.nd rfl (.inl rfl) (pe_cmpR op_eq (pe_callB call_isi (by rfl) B.isinstance_ (by decide +kernel) (pa_cons (pv 1) (pa_cons (pe_bltn (v := .ty "str") (by rfl) B.str_ (by decide +kernel) rfl) pa_nil))) (pe_callB call_isi (by rfl) B.isinstance_ (by decide +kernel) (pa_cons (pv 0) (pa_cons (pe_bltn (v := .ty "str") (by rfl) B.str_ (by decide +kernel) rfl) pa_nil))) (nomark _)))
      (pss_one (ps_ret (pe_and (pv 2) (pe_and (pe_cmpR op_eq (pe_callB call_isi (by rfl) B.isinstance_ (by decide +kernel) (pa_cons (pv 1) (pa_cons (pe_bltn (v := .ty "bool") (by rfl) B.bool_ (by decide +kernel) rfl) pa_nil))) (pe_callB call_isi (by rfl) B.isinstance_ (by decide +kernel) (pa_cons (pv 0) (pa_cons (pe_bltn (v := .ty "bool") (by rfl) B.bool_ (by decide +kernel) rfl) pa_nil))) (nomark _)) (pe_one (pe_cmpR op_eq (pv 0) (pv 1) (nomark _)))))))))), ?_⟩
      have flat : ∀ (exy : x = y) (hf : Flat x), ∃ a b1 b2, TyS K H x a ∧ kitB a "tuple" = some false ∧ kitB a "list" = some false ∧ kitB a "str" = some b1 ∧ kitB a "bool" = some b2 := fun _ hf => by
        obtain ⟨a, h1, h2, h3, ⟨b1, h4⟩, b2, h5⟩ := hf.ty (K := K) (H := H)
        exact ⟨a, b1, b2, h1, h2, h3, h4, h5⟩
      have main : (x = y ∧ Flat x) ∨ ∃ m, n = m + 1 ∧ ∃ a b xs ys, x = .ref a ∧ y = .ref b ∧ ((SqT K H a xs ∧ SqT K H b ys) ∨ (H a = some (.lst xs) ∧ H b = some (.lst ys))) ∧ xs.length ≤ 1000000 ∧ Paired (At K H m) xs ys := by
        cases n with
        | zero => exact .inl hxy
        | succ m => exact hxy.imp id fun h => ⟨m, rfl, h⟩
      rcases main with ⟨exy, hf⟩ | ⟨m, rfl, a, b, xs, ys, rfl, rfl, hab, hl, r⟩
      · subst exy
        obtain ⟨a, b1, b2, ty, t1, t2, t3, t4⟩ := flat rfl hf
        refine rd_isi2 rfl ty t1 t2 fun H1 k1 => ⟨_, rfl, ?_⟩
        refine iteF ?_
        by_cases hx : x = .non
        · subst hx
          refine ⟨_, rfl, rfl, _, rfl, ?_⟩
          rw [decide_eq_true rfl]
          refine iteT (iteT ⟨_, rfl, rfl, _, rfl, ?_⟩)
          rw [decide_eq_true rfl]
          exact iteT ⟨_, rfl, rfl, k H1 k1⟩
        · refine ⟨_, rfl, rfl, _, rfl, ?_⟩
          rw [decide_eq_false hx]
          refine iteF ⟨_, rfl, rfl, _, rfl, ?_⟩
          rw [decide_eq_false hx]
          refine iteF ?_
          have ty1 := ty.kept k1
          refine op_of (rd_isi rfl ty1 t3 (rd_isi rfl ty1 t3 ⟨by cases b1 <;> rfl, ?_⟩))
          rw [decide_eq_true rfl]
          refine ⟨_, rfl, _, rfl, iteT ?_⟩
          refine op_of (rd_isi rfl ty1 t4 (rd_isi rfl ty1 t4 ⟨by cases b2 <;> rfl, ?_⟩))
          rw [decide_eq_true rfl]
          refine ⟨_, rfl, iteT ⟨_, rfl, _, rfl, ?_, ?_⟩⟩
          · cases x <;> first | rfl | exact hf.elim | exact (hx rfl).elim
          · rw [decide_eq_true rfl]
            exact k H1 k1
      · obtain ⟨ta, tya, tyb, ka, kb⟩ : ∃ ta, TyS K H (.ref a) ta ∧ TyS K H (.ref b) ta ∧ (∃ b1, kitB ta "tuple" = some b1 ∧ kitB ta "list" = some !b1) ∧ True := by
          rcases hab with ⟨h1, h2⟩ | ⟨h1, h2⟩
          · exact ⟨_, .tup h1, .tup h2, ⟨true, by decide +kernel, by decide +kernel⟩, trivial⟩
          · exact ⟨_, .lst h1, .lst h2, ⟨false, by decide +kernel, by decide +kernel⟩, trivial⟩
        obtain ⟨b1, ka1, ka2⟩ := ka
        have hb : (b1 || !b1) = true := by cases b1 <;> rfl
        refine rd_isi2 rfl tyb ka1 ka2 fun H1 k1 => ⟨_, rfl, ?_⟩
        rw [hb]
        refine iteT ?_
        refine op_of (rd_isi rfl (tya.kept k1) ka1 (rd_isi rfl (tyb.kept k1) ka1 ⟨by cases b1 <;> rfl, ⟨_, rfl, ?_⟩⟩))
        refine iteNF rfl ?_
        refine rd_isi2 rfl (tya.kept k1) ka1 ka2 fun H2 k2 => ⟨_, rfl, ?_⟩
        rw [hb]
        refine iteF ?_
        have hlen : xs.length = ys.length := r.length
        have k12 := k1.trans k2
        have sq : ∀ {H'}, Kept [] H H' → (SqL K H' a xs ∨ SqT K H' a xs) ∧ (SqL K H' b ys ∨ SqT K H' b ys) := fun k' => by
          rcases hab with ⟨h1, h2⟩ | ⟨h1, h2⟩
          · exact ⟨.inr (sqT_kept k' h1), .inr (sqT_kept k' h2)⟩
          · exact ⟨.inl (.inl (.of (k' _ _ h1 (by simp)))), .inl (.inl (.of (k' _ _ h2 (by simp))))⟩
        refine ⟨_, rfl, a, xs, rfl, (sq k12).1, ⟨_, rfl, b, ys, rfl, (sq k12).2, rfl, ⟨_, rfl, ?_⟩⟩⟩
        rw [hlen]
        refine iteNF rfl ?_
        refine ⟨_, rfl, b, ys, rfl, (sq k12).2, _, rfl, by omega, by omega, fun D nD => ?_⟩
        rw [Int.toNat_natCast]
        refine lc_range (lo := 0) (n := ys.length) (fun i H' => Kept [] H H' ∧ H' D = some (.lst [])) ⟨k12.upd nD, upd_same⟩ ?_ ?_
        · rintro i Ha hi ⟨ka, eD⟩
          refine ⟨rfl, ?_⟩
          have hi' : i < xs.length := by omega
          obtain ⟨y1, ey, hxy'⟩ := paired_at r (List.getElem?_eq_getElem hi')
          have ix : ∀ {c : Addr} {zs : List V} {v : V} {QQ : VK}, (SqL K Ha c zs ∨ SqT K Ha c zs) → zs[i]? = some v → QQ v Ha → rIx K (.ref c) (.int (0 + (i : Int))) Ha QQ := fun {c zs v QQ} h e q => by
            have e' : atI zs (0 + (i : Int)) = some v := at_of (by omega) e
            rcases h with h | h
            · exact .inl ⟨c, zs, _, v, rfl, rfl, h, e', q⟩
            · exact .inr (.inl ⟨c, zs, _, v, rfl, rfl, h, e', q⟩)
          refine ⟨_, rfl, _, rfl, ix (sq ka).1 (List.getElem?_eq_getElem hi') ⟨_, rfl, _, rfl, ix (sq ka).2 ey ?_⟩⟩
          refine ⟨_, _, rfl, hxy'.kept ka, fun H3 k3 => ⟨_, rfl, ?_⟩⟩
          exact iteF (B := Kept [] H H3 ∧ H3 D = some (.lst [])) ⟨ka.trans k3, k3 _ _ eD (by simp)⟩
        · rintro Ha ⟨ka, eD⟩
          refine ⟨by show 0 ≤ sizeLine; decide, fun q nq => ?_⟩
          refine ⟨.list [], .list [], .lst (.inl (.of (by rw [upd_ne (ne_of_none eD nq)]; exact eD))) .nil, .lst (.inl (.of upd_same)) .nil, rfl, rfl, ?_⟩
          exact k _ (ka.upd nq)
end
end Ah
end
section
set_option Elab.async false
set_option linter.all false
set_option maxRecDepth 100000
set_option maxHeartbeats 2000000
/-! Dicts whose keys are tuples of texts (the keys' own tuples may be constants): {}, in, d[k], d[k] = v, setdefault. -/
namespace L2
open PySem PySem.Spec PyProof.Rows
/-- an entry: the key, its own tuple, the value -/
abbrev Ent := List Key × Addr × V
def EntR (p : Ent) (q : List Key × Addr × Value) : Prop := p.1 = q.1 ∧ p.2.1 = q.2.1 ∧ RelV p.2.2 q.2.2
def DicR (P : Program) (w : World) (a : Addr) (es : List Ent) (h : Heap) : Prop :=
  es.length ≤ sizeLine ∧ (a == sysModules) = false ∧ (es.map (·.1)).Nodup ∧ ∃ xs : List (List Key × Addr × Value), Paired EntR es xs ∧
    ∃ (o : Obj) (ds : Array DictEntry) (ep : Nat), h.get? a = some o ∧ o.ExactDict ∧ o.data = .dict ds ep ∧ ds.toList = xs.map (entryOfKey (tupleKind (mixKind P w)))
def DicO (P : Program) (w : World) (a : Addr) (es : List Ent) : HO := .ext (DicR P w a es)
/-- the keys' own tuples may be read -/
def KeysIn (K : PySem.W.Frag) (H : Hp) (es : List Ent) : Prop := ∀ e ∈ es, SqT K H e.2.1 (e.1.map kV)
def valE (es : List Ent) (k : List Key) : Option V := (es.find? fun e => decide (e.1 = k)).map (·.2.2)
def putE (es : List Ent) (k : List Key) (b : Addr) (v : V) : List Ent :=
  if (valE es k).isSome then es.map (fun e => if e.1 = k then (e.1, e.2.1, v) else e) else es ++ [(k, b, v)]
theorem valE_nil {k : List Key} : valE [] k = none := rfl
theorem valE_pos {p : Ent} {r : List Ent} {k : List Key} (e : p.1 = k) : valE (p :: r) k = some p.2.2 := by simp [valE, List.find?_cons, e]
theorem valE_neg {p : Ent} {r : List Ent} {k : List Key} (e : ¬ p.1 = k) : valE (p :: r) k = valE r k := by simp [valE, List.find?_cons, e]
theorem valE_none (k : List Key) : ∀ es : List Ent, valE es k = none ↔ k ∉ es.map (·.1)
  | [] => by simp [valE]
  | p :: r => by
    by_cases e : p.1 = k
    · rw [valE_pos e]
      simp [e]
    · rw [valE_neg e, valE_none k r]
      simp [Ne.symm e]
theorem valE_some {es : List Ent} {k : List Key} (h : (valE es k).isSome = true) : k ∈ es.map (·.1) := Classical.byContradiction fun q => by
  rw [(valE_none k es).mpr q] at h
  cases h
theorem valE_mem {es : List Ent} {k : List Key} : (valE es k).isSome = true ↔ k ∈ es.map (·.1) := ⟨valE_some, fun h => by
  cases q : valE es k with
  | none => exact absurd h ((valE_none k es).mp q)
  | some _ => rfl⟩
theorem putE_keys (es : List Ent) (k : List Key) (b : Addr) (v : V) : (putE es k b v).map (·.1) = if (valE es k).isSome = true then es.map (·.1) else es.map (·.1) ++ [k] := by
  unfold putE
  by_cases h : (valE es k).isSome = true
  · rw [if_pos h, if_pos h, List.map_map]
    refine List.map_congr_left fun e _ => ?_
    show (if e.1 = k then (e.1, e.2.1, v) else e).1 = e.1
    split <;> rfl
  · rw [if_neg h, if_neg h, List.map_append]
    rfl
theorem putE_len (es : List Ent) (k : List Key) (b : Addr) (v : V) : (putE es k b v).length ≤ es.length + 1 := by
  have h := congrArg List.length (putE_keys es k b v)
  rw [List.length_map] at h
  rw [h]
  split <;> simp
theorem putE_nodup {es : List Ent} (k : List Key) (b : Addr) (v : V) (hn : (es.map (·.1)).Nodup) : ((putE es k b v).map (·.1)).Nodup := by
  rw [putE_keys]
  split
  · exact hn
  · rename_i h
    rw [List.nodup_append]
    refine ⟨hn, by simp, fun x hx y hy => ?_⟩
    rw [List.mem_singleton] at hy
    rw [hy]
    exact fun e => h (valE_mem.mpr (e ▸ hx))
/-- what is stored is an old entry under its own tuple, or the new one -/
theorem putE_mem {es : List Ent} {k : List Key} {b : Addr} {v : V} {e : Ent} (h : e ∈ putE es k b v) : (∃ e' ∈ es, e.1 = e'.1 ∧ e.2.1 = e'.2.1 ∧ (e.2.2 = e'.2.2 ∨ e.2.2 = v)) ∨ e = (k, b, v) := by
  unfold putE at h
  split at h
  · obtain ⟨e', h1, h2⟩ := List.mem_map.mp h
    refine .inl ⟨e', h1, ?_⟩
    rw [← h2]
    split
    · exact ⟨rfl, rfl, .inr rfl⟩
    · exact ⟨rfl, rfl, .inl rfl⟩
  · rcases List.mem_append.mp h with h | h
    · exact .inl ⟨e, h, rfl, rfl, .inl rfl⟩
    · exact .inr (List.mem_singleton.mp h)
theorem KeysIn.put {K : PySem.W.Frag} {H : Hp} {es : List Ent} {k : List Key} {b : Addr} {v : V} (h : KeysIn K H es) (hb : SqT K H b (k.map kV)) : KeysIn K H (putE es k b v) := by
  intro e he
  rcases putE_mem he with ⟨e', h1, h2, h3, _⟩ | rfl
  · rw [h2, h3]
    exact h e' h1
  · exact hb

theorem entR_val {es : List Ent} {xs : List (List Key × Addr × Value)} (r : Paired EntR es xs) (k : List Key) : RelO (valE es k) ((atKey xs k).map (·.2)) := by
  induction r with
  | nil => exact True.intro
  | @cons p q ps qs h t ih =>
    obtain ⟨h1, _, h2⟩ := h
    by_cases e : p.1 = k
    · have e' : q.1 = k := h1.symm.trans e
      have b : atKey (q :: qs) k = some q.2 := by simp [atKey, List.find?_cons, e']
      rw [valE_pos e, b]; exact h2
    · have e' : ¬ q.1 = k := fun z => e (h1.trans z)
      have b : atKey (q :: qs) k = atKey qs k := by simp [atKey, List.find?_cons, e']
      rw [valE_neg e, b]; exact ih
theorem entR_put {es : List Ent} {xs : List (List Key × Addr × Value)} (r : Paired EntR es xs) (k : List Key) (b : Addr) {y : V} {u : Value} (ry : RelV y u) : Paired EntR (putE es k b y) (storedH xs k b u) := by
  have e : (valE es k).isSome = (atKey xs k).isSome := by
    rw [(entR_val r k).isSome_eq, Option.isSome_map]
  unfold putE storedH
  rw [e]
  by_cases q : (atKey xs k).isSome = true
  · rw [if_pos q, if_pos q]
    clear e q
    induction r with
    | nil => exact .nil
    | @cons p q ps qs h t ih =>
      rw [List.map_cons, List.map_cons]
      refine .cons ?_ ih
      obtain ⟨h1, h2, h3⟩ := h
      unfold putAt
      by_cases e : p.1 = k
      · rw [if_pos e, if_pos (h1.symm.trans e)]; exact ⟨h1, h2, ry⟩
      · rw [if_neg e, if_neg (fun z => e (h1.trans z))]; exact ⟨h1, h2, h3⟩
  · rw [if_neg q, if_neg q]
    exact Paired.snoc r ⟨rfl, rfl, ry⟩

section
variable {X : Cx} {pins : List (Addr × Obj)} {σ : St} {H : Hp} {s : Shared} {a b : Addr} {es : List Ent} {k : List Key} {A : Around} {E : Value → Shared → Prop}
theorem key_rd (I : Inv X pins σ H s) (h : SqT X.K H b (k.map kV)) : (tupleKind (mixKind X.prog X.w)).is s.heap k b := by
  obtain ⟨its, r, ⟨o, h1, h2, n, h3⟩, _⟩ := I.tuple h
  exact ⟨o, its.toArray, n, h1, h2, h3, by simpa using items_are r⟩
theorem dic_rd (I : Inv X pins σ H s) (ha : Rd H a (DicO X.prog X.w a es)) : DicR X.prog X.w a es s.heap := by
  have q : ObjOk X.prog X.w H s.heap a (DicO X.prog X.w a es) := ha.ok I.hok
  exact q.1
theorem dic_at (I : Inv X pins σ H s) (ha : Rd H a (DicO X.prog X.w a es)) (hk : KeysIn X.K H es) : es.length ≤ sizeLine ∧ (a == sysModules) = false ∧ (es.map (·.1)).Nodup ∧
    ∃ xs, Paired EntR es xs ∧ s.heap.DictOfH (tupleKind (mixKind X.prog X.w)) a xs := by
  obtain ⟨z, hd, hn, xs, r, o, ds, ep, h1, h2, h3, h4⟩ := dic_rd I ha
  refine ⟨z, hd, hn, xs, r, o, ds, ep, h1, h2, h3, h4, fun x hx => ?_, ?_⟩
  · have all : ∀ {l : List Ent} {m : List (List Key × Addr × Value)}, Paired EntR l m → (∀ e ∈ l, e ∈ es) → ∀ x ∈ m, (tupleKind (mixKind X.prog X.w)).is s.heap x.1 x.2.1 := by
      intro l m q
      induction q with
      | nil => intro _ x hx; exact nomatch hx
      | @cons p q ps qs hq t ih =>
        intro sub x hx
        rcases List.mem_cons.mp hx with e | hx
        · subst e
          rw [← hq.1, ← hq.2.1]
          exact key_rd I (hk p (sub p (List.mem_cons_self ..)))
        · exact ih (fun e he => sub e (List.mem_cons_of_mem _ he)) x hx
    exact all r (fun _ h => h) x hx
  · have e : es.map (·.1) = xs.map (·.1) := by
      clear h4 hn hk z ha
      induction r with
      | nil => rfl
      | @cons p q ps qs h t ih => rw [List.map_cons, List.map_cons, h.1, ih]
    rw [← e]
    exact hn
theorem dic_ok {P : Program} {w : World} {H' : Hp} {h' : Heap} {xs : List (List Key × Addr × Value)} (z : es.length ≤ sizeLine) (hd : (a == sysModules) = false) (hn : (es.map (·.1)).Nodup) (r : Paired EntR es xs)
    (dd : h'.DictOfH (tupleKind (mixKind P w)) a xs) : ObjOk P w H' h' a (DicO P w a es) := by
  obtain ⟨o, ds, ep, h1, h2, h3, h4, _, _⟩ := dd
  exact ⟨⟨z, hd, hn, xs, r, o, ds, ep, h1, h2, h3, h4⟩, ⟨o, h1⟩, fun u v p q => by
    obtain ⟨z, hd, hn, xs, r, o, ds, ep, e1, e2⟩ := p
    exact ⟨z, hd, hn, xs, r, o, ds, ep, q _ e1, e2⟩⟩
/-- the dict is another one -/
theorem dic_write {h' : Heap} {t' : Nat} {es' : List Ent} {xs : List (List Key × Addr × Value)} (I : Inv X pins σ H s) (ha : H a = some (DicO X.prog X.w a es)) (hs : Heap.SameBut a s.heap h')
    (z : es'.length ≤ sizeLine) (hd : (a == sysModules) = false) (hn : (es'.map (·.1)).Nodup) (r : Paired EntR es' xs) (dd : h'.DictOfH (tupleKind (mixKind X.prog X.w)) a xs) :
    Inv X pins σ (upd H a (DicO X.prog X.w a es')) { s with heap := h', toks := t' } := by
  obtain ⟨o, ds, ep, h1, rest⟩ := id dd
  exact d_write I (by rw [ha]; exact True.intro) hs ⟨o, h1⟩ (dic_ok z hd hn r dd)

/-- k in d -/
theorem dic_in {Q : Value → Shared → Prop} (hu : A.units + 1 < cLine) (I : Inv X pins σ H s) (ha : Rd H a (DicO X.prog X.w a es)) (hk : KeysIn X.K H es) (hb : SqT X.K H b (k.map kV))
    (h : ∀ s', Inv X pins σ H s' → Q (.bool (valE es k).isSome) s') : wpAny (model X.prog X.w) A (compareOp .In (.ref b) (.ref a)) Q E s := by
  obtain ⟨z, hd, hn, xs, r, dd⟩ := dic_at I ha hk
  refine wpAny_in_heap (tupleKind_room_in1 hu) (key_rd I hb) hd dd ?_
  have q := (entR_val r k).isSome_eq
  rw [Option.isSome_map] at q
  rw [← q]
  exact h _ (I.tok _)
theorem dic_notIn {Q : Value → Shared → Prop} (hu : A.units + 1 < cLine) (I : Inv X pins σ H s) (ha : Rd H a (DicO X.prog X.w a es)) (hk : KeysIn X.K H es) (hb : SqT X.K H b (k.map kV))
    (h : ∀ s', Inv X pins σ H s' → Q (.bool (!(valE es k).isSome)) s') : wpAny (model X.prog X.w) A (compareOp .NotIn (.ref b) (.ref a)) Q E s := by
  obtain ⟨z, hd, hn, xs, r, dd⟩ := dic_at I ha hk
  refine wpAny_notIn_heap (tupleKind_room_in1 hu) (key_rd I hb) hd dd ?_
  have q := (entR_val r k).isSome_eq
  rw [Option.isSome_map] at q
  rw [← q]
  exact h _ (I.tok _)
/-- d[k], there -/
theorem dic_get {v : V} {Q : Value → Shared → Prop} (hu : A.units + 1 < cLine) (I : Inv X pins σ H s) (ha : Rd H a (DicO X.prog X.w a es)) (hk : KeysIn X.K H es) (hb : SqT X.K H b (k.map kV)) (hv : valE es k = some v)
    (h : ∀ w' s', Inv X pins σ H s' → RelV v w' → Q w' s') : wpAny (model X.prog X.w) A (getItem (.ref a) (.ref b)) Q E s := by
  obtain ⟨z, hd, hn, xs, r, dd⟩ := dic_at I ha hk
  obtain ⟨w', hw, rw'⟩ := RelO.some_of (v := v) (o := (atKey xs k).map (·.2)) (by rw [← hv]; exact entR_val r k)
  obtain ⟨p, hp, hp2⟩ := Option.map_eq_some_iff.mp hw
  refine wpAny_getItem_heap (tupleKind_room_in1 hu) (key_rd I hb) dd hp ?_
  rw [hp2]
  exact h w' _ (I.tok _) rw'
/-- d[k] = v -/
theorem dic_set {v : V} {r0 : Value} {Q : Unit → Shared → Prop} (hu : A.units + 1 < cLine) (I : Inv X pins σ H s) (ha : H a = some (DicO X.prog X.w a es)) (hk : KeysIn X.K H es) (hb : SqT X.K H b (k.map kV)) (rv : RelV v r0) (hl : es.length < sizeLine)
    (h : ∀ s', Inv X pins σ (upd H a (DicO X.prog X.w a (putE es k b v))) s' → Q () s') : wpAny (model X.prog X.w) A (setItem (.ref a) (.ref b) r0) Q E s := by
  obtain ⟨z, hd, hn, xs, r, dd⟩ := dic_at I (.inl ha) hk
  have hz : xs.length ≤ sizeLine := by rw [← Paired.length r]; exact z
  have h2 := putE_len es k b v
  refine wpAny_setItem_heap (hsz := hz) (tupleKind_room_in1 hu) (key_rd I hb) dd fun h' dd' hs => h _ ?_
  exact dic_write I ha hs (by omega) hd (putE_nodup k b v hn) (entR_put r k b rv) dd'
/-- d.setdefault(k, v) -/
theorem dic_setd {v : V} {r0 : Value} {Q : Value → Shared → Prop} (hu : A.units + 1 < cLine) (I : Inv X pins σ H s) (ha : H a = some (DicO X.prog X.w a es)) (hk : KeysIn X.K H es) (hb : SqT X.K H b (k.map kV)) (rv : RelV v r0) (hl : es.length < sizeLine)
    (h1 : ∀ y, valE es k = some y → ∀ (w' : Value) (s' : Shared), Inv X pins σ H s' → RelV y w' → Q w' s')
    (h2 : valE es k = none → ∀ (w' : Value) (s' : Shared), Inv X pins σ (upd H a (DicO X.prog X.w a (putE es k b v))) s' → RelV v w' → Q w' s') :
    wpAny (model X.prog X.w) A (call (.builtin "dict.setdefault") [.ref a, .ref b, r0]) Q E s := by
  obtain ⟨z, hd, hn, xs, r, dd⟩ := dic_at I (.inl ha) hk
  have hz : xs.length ≤ sizeLine := by rw [← Paired.length r]; exact z
  have hl2 := putE_len es k b v
  refine call_setdefault_heap (hsz := hz) (tupleKind_room_in1 hu) (key_rd I hb) hd dd (fun p hp => ?_) fun hnone h' dd' hs => ?_
  · have q := entR_val r k
    rw [hp] at q
    cases q0 : valE es k with
    | none =>
      rw [q0] at q
      exact (show False from q).elim
    | some v0 =>
      rw [q0] at q
      exact h1 v0 q0 _ _ (I.tok _) q
  · have q := entR_val r k
    rw [hnone] at q
    cases q0 : valE es k with
    | some v0 =>
      rw [q0] at q
      exact (show False from q).elim
    | none => exact h2 q0 _ _ (dic_write I ha hs (by omega) hd (putE_nodup k b v hn) (entR_put r k b rv) dd') rv
/-- d.update(d2), d not empty -/
def putAll (es more : List Ent) : List Ent := more.foldl (fun acc e => putE acc e.1 e.2.1 e.2.2) es
theorem putAll_len : ∀ (more es : List Ent), (putAll es more).length ≤ es.length + more.length
  | [], es => by show es.length ≤ es.length + 0; omega
  | p :: r, es => by
    have h1 := putAll_len r (putE es p.1 p.2.1 p.2.2)
    have h2 := putE_len es p.1 p.2.1 p.2.2
    show (putAll (putE es p.1 p.2.1 p.2.2) r).length ≤ _
    rw [List.length_cons]; omega
theorem putAll_nodup : ∀ (more es : List Ent), (es.map (·.1)).Nodup → ((putAll es more).map (·.1)).Nodup
  | [], es, h => h
  | p :: r, es, h => putAll_nodup r _ (putE_nodup p.1 p.2.1 p.2.2 h)
theorem entR_putAll {more : List Ent} {ys : List (List Key × Addr × Value)} (q : Paired EntR more ys) : ∀ {es : List Ent} {xs : List (List Key × Addr × Value)}, Paired EntR es xs → Paired EntR (putAll es more) (storedAllH xs ys) := by
  induction q with
  | nil => intro es xs r; exact r
  | @cons p q ps qs h t ih =>
    intro es xs r
    have e : Paired EntR (putE es p.1 p.2.1 p.2.2) (storedH xs q.1 q.2.1 q.2.2) := by
      rw [← h.1, ← h.2.1]
      exact entR_put r p.1 p.2.1 h.2.2
    exact ih e
theorem dic_update {c : Addr} {more : List Ent} {Q : Value → Shared → Prop} (hu : A.units + 1 < cLine) (I : Inv X pins σ H s) (ha : H a = some (DicO X.prog X.w a es)) (hc : Rd H c (DicO X.prog X.w c more)) (hac : a ≠ c)
    (hk : KeysIn X.K H es) (hm : KeysIn X.K H more) (hne : es ≠ []) (hl : es.length + more.length ≤ sizeLine)
    (h : ∀ s', Inv X pins σ (upd H a (DicO X.prog X.w a (putAll es more))) s' → Q .none s') : wpAny (model X.prog X.w) A (call (.builtin "dict.update") [.ref a, .ref c]) Q E s := by
  obtain ⟨z, hd, hn, xs, r, dd⟩ := dic_at I (.inl ha) hk
  obtain ⟨z2, hd2, hn2, ys, r2, dd2⟩ := dic_at I hc hm
  have e1 := Paired.length r
  have e2 := Paired.length r2
  have hl2 := putAll_len more es
  refine call_update_dictH (tupleKind_room_in1 hu) hac hd2 dd dd2 (.inl fun e => hne ?_) (by omega) fun h' dd' _ hs => h _ ?_
  · rw [e] at r
    cases r
    rfl
  · have := dic_write (t' := s.toks) I ha hs (by omega) hd (putAll_nodup more es hn) (entR_putAll r2 r) dd'
    exact this
end
end L2
end
section
set_option Elab.async false
set_option linter.all false
set_option maxRecDepth 100000
set_option maxHeartbeats 2000000
/-! Dicts whose keys are tuples of texts: the rules for expressions. -/
namespace L2
open PySem PySem.Spec PyProof.Rows
section
variable {X : Cx}
/-- {}, to be such a dict -/
def tDicNew (P : Program) (w : World) : TE := fun _ H Q => ∀ p, H p = none → Q (.ref p) (upd H p (DicO P w p []))
theorem pe_dicNew {pos : Pos} : PE X (.Dict [] [] pos) (tDicNew X.prog X.w) := ⟨fun pins s σ H Q I h =>
  wpAny_Dict_empty ⟨.ref s.heap.objs.size, _, I.laid (a := s.heap.objs.size) (o := DicO X.prog X.w s.heap.objs.size []) (t' := s.toks) (fun _ _ q => Heap.get?_push_of_some _ q) (Nat.le_refl _)
    (dic_ok (xs := []) (Nat.zero_le _) (beq_eq_false_iff_ne.mpr (Ne.symm (Nat.ne_of_lt I.big))) List.nodup_nil .nil (Heap.DictOfH.new s.heap)), rfl, h _ (I.hok.fresh (Nat.le_refl _))⟩⟩
/-- k in d, k not in d -/
def rDicIn (X : Cx) (neg : Bool) : R2 := fun y x H Q => ∃ (a b : Addr) (es : List Ent) (k : List Key), x = .ref a ∧ y = .ref b ∧ Rd H a (DicO X.prog X.w a es) ∧ KeysIn X.K H es ∧ SqT X.K H b (k.map kV) ∧
  Q (.bl (if neg then !(valE es k).isSome else (valE es k).isSome)) H
theorem op_in_dic (hu : X.A.units + 1 < cLine) : OpR X (compareOp .In) (rDicIn X false) := by
  intro pins s σ H y x v u Q I ry rx h
  obtain ⟨a, b, es, k, rfl, rfl, ha, hk, hb, q⟩ := h
  cases ry
  cases rx
  exact dic_in hu I ha hk hb fun s' I' => ⟨.bl (valE es k).isSome, H, I', rfl, q⟩
theorem op_notIn_dic (hu : X.A.units + 1 < cLine) : OpR X (compareOp .NotIn) (rDicIn X true) := by
  intro pins s σ H y x v u Q I ry rx h
  obtain ⟨a, b, es, k, rfl, rfl, ha, hk, hb, q⟩ := h
  cases ry
  cases rx
  exact dic_notIn hu I ha hk hb fun s' I' => ⟨.bl (!(valE es k).isSome), H, I', rfl, q⟩
/-- d[k], there -/
def rDicIx (X : Cx) : R2 := fun x y H Q => ∃ (a b : Addr) (es : List Ent) (k : List Key) (v : V), x = .ref a ∧ y = .ref b ∧ Rd H a (DicO X.prog X.w a es) ∧ KeysIn X.K H es ∧ SqT X.K H b (k.map kV) ∧ valE es k = some v ∧ Q v H
theorem ix_dic (hu : X.A.units + 1 < cLine) : IxR X (rDicIx X) := by
  intro value slice pins s σ H x y v u Q I rx ry h hs
  obtain ⟨a, b, es, k, z, rfl, rfl, ha, hk, hb, hv, q⟩ := h
  cases rx
  cases ry
  have hT : s.TypeIs (.ref a) "dict" := by
    obtain ⟨_, _, _, xs, _, dd⟩ := dic_at I ha hk
    exact dd.typeIs
  obtain ⟨_, _, _, xs, r, dd⟩ := dic_at I ha hk
  obtain ⟨w', hw, rw'⟩ := RelO.some_of (v := z) (o := (atKey xs k).map (·.2)) (by rw [← hv]; exact entR_val r k)
  obtain ⟨p, hp, hp2⟩ := Option.map_eq_some_iff.mp hw
  refine subscriptTail_builtinR (x := w') hT PySem.F.slot_dict_getitem.lookup ?_ hs
  refine wpAny_getItem_heap (tupleKind_room_in1 hu) (key_rd I hb) dd hp ?_
  exact ⟨hp2, z, H, I.tok _, by rw [hp2]; exact rw', q⟩
/-- d[k] = v -/
def rDicSet (X : Cx) : V → V → V → Hp → (Hp → Prop) → Prop := fun o i v H Q => ∃ (a b : Addr) (es : List Ent) (k : List Key), o = .ref a ∧ i = .ref b ∧ H a = some (DicO X.prog X.w a es) ∧ KeysIn X.K H es ∧ SqT X.K H b (k.map kV) ∧ es.length < sizeLine ∧
  Q (upd H a (DicO X.prog X.w a (putE es k b v)))
theorem set_dic (hu : X.A.units + 1 < cLine) : PSet X (rDicSet X) := by
  intro pins s σ H o i v ov iv u Q I ro ri rv h
  obtain ⟨a, b, es, k, rfl, rfl, ha, hk, hb, hl, q⟩ := h
  cases ro
  cases ri
  exact dic_set hu I ha hk hb rv hl fun s' I' => ⟨_, I', q⟩
/-- a method of such a dict -/
def tDicM (X : Cx) (r : V → List V → Hp → VK → Prop) (to : TE) (t : TA) : TE := fun σ H Q => to σ H fun x H1 => (∃ (a : Addr) (es : List Ent), x = V.ref a ∧ Rd H1 a (DicO X.prog X.w a es)) ∧ t σ H1 fun xs H2 => r x xs H2 Q
theorem dic_type {pins : List (Addr × Obj)} {σ : St} {H : Hp} {s : Shared} {a : Addr} {es : List Ent} (I : Inv X pins σ H s) (ha : Rd H a (DicO X.prog X.w a es)) :
    s.TypeIs (.ref a) "dict" ∧ ∀ b, Value.ref a = .ref b → ∃ ob, s.heap.get? b = some ob ∧ ob.dict = none := by
  obtain ⟨_, _, _, _, _, o, _, _, h1, h2, _⟩ := dic_rd I ha
  exact ⟨⟨o, h1, h2.1⟩, fun b e => by cases e; exact ⟨o, h1, h2.2.1⟩⟩
theorem pe_dicM {o e : Expr} {es : List Expr} {to : TE} {t : TA} {name : Str} {apos cpos : Pos} {id : String} {r : V → List V → Hp → VK → Prop} (slot : Slot "dict" name id) (hty : typeOf (.builtin id) = pure (.type "method_descriptor")) (hm : MtR X id r) (ho : PE X o to) (ha : PA X (e :: es) t)
    (hbase : attributeBase o name X.env (eval o X.env) = eval o X.env := by rfl)
    (hfew : ((backTo cpos (starEach (e :: es) X.env)).all (fun x => !x.1) && (backToKw cpos (keywordEach [] X.env)).all (fun x => x.1.isSome)
      && decide ((e :: es).length + ([] : List Keyword).length + (if ([] : List Keyword).isEmpty then 0 else 1) < 30)) = true := by rfl)
    (hline : (apos.endLine == cpos.line) = true := by rfl) (hs : starEach (e :: es) X.env = (false, eval e X.env) :: starEach es X.env := by rfl) (hplain : (backTo cpos (starEach es X.env)).any (·.1) = false := by rfl) :
    PE X (.Call (.Attribute o name apos) (e :: es) [] cpos) (tDicM X r to t) := by
  refine ⟨fun pins s σ H Q I h => ?_⟩
  refine wpAny_Call_method_late hbase hfew hline rfl (thn (ho.run pins s σ H _ I h) fun v s1 ⟨x, H1, I1, r1, ty, q1⟩ => ?_)
  obtain ⟨a, es, rfl, hka⟩ := ty
  obtain ⟨h1, h2⟩ := dic_type I1 hka
  cases r1
  refine ⟨"dict", id, PySem.F.plainAttrs_dict, slot, hty, h1, h2, ?_⟩
  have hA := ha.run cpos pins s1 σ H1 _ I1 q1
  rw [hs] at hA ⊢
  refine Calls.callWith_builtin (by show (false || (backTo cpos (starEach _ X.env)).any (·.1)) = false; rw [hplain] <;> rfl) (Calls.evalArgs_plain ?_)
  exact thn hA fun us s2 ⟨vs, H2, I2, r2, q2⟩ => hm pins s2 σ H2 (.ref a) vs (.ref a) us Q I2 rfl r2 q2
/-- d.setdefault(k, v) -/
def rDicSetd (X : Cx) : V → List V → Hp → VK → Prop := fun x xs H Q => ∃ (a b : Addr) (es : List Ent) (k : List Key) (v : V), x = .ref a ∧ xs = [.ref b, v] ∧ H a = some (DicO X.prog X.w a es) ∧ KeysIn X.K H es ∧ SqT X.K H b (k.map kV) ∧ es.length < sizeLine ∧
  (∀ y, valE es k = some y → Q y H) ∧ (valE es k = none → Q v (upd H a (DicO X.prog X.w a (putE es k b v))))
theorem mt_dicSetd (hu : X.A.units + 1 < cLine) : MtR X "dict.setdefault" (rDicSetd X) := by
  intro pins s σ H x xs v us Q I rx rxs h
  obtain ⟨a, b, es, k, d, rfl, rfl, ha, hk, hb, hl, q1, q2⟩ := h
  cases rx
  obtain ⟨u1, u2, rfl, r1, r2⟩ := vals2 rxs
  cases r1
  exact dic_setd hu I ha hk hb r2 hl (fun y hy w' s' I' rw' => ⟨y, H, I', rw', q1 y hy⟩) fun hn w' s' I' rw' => ⟨d, _, I', rw', q2 hn⟩
/-- d.update(d2), d not empty -/
def rDicUpd (X : Cx) : V → List V → Hp → VK → Prop := fun x xs H Q => ∃ (a c : Addr) (es more : List Ent), x = .ref a ∧ xs = [.ref c] ∧ a ≠ c ∧ H a = some (DicO X.prog X.w a es) ∧ Rd H c (DicO X.prog X.w c more) ∧ KeysIn X.K H es ∧ KeysIn X.K H more ∧ es ≠ [] ∧
  es.length + more.length ≤ sizeLine ∧ Q .non (upd H a (DicO X.prog X.w a (putAll es more)))
theorem mt_dicUpd (hu : X.A.units + 1 < cLine) : MtR X "dict.update" (rDicUpd X) := by
  intro pins s σ H x xs v us Q I rx rxs h
  obtain ⟨a, c, es, more, rfl, rfl, hac, ha, hc, hk, hm, hne, hl, q⟩ := h
  cases rx
  obtain ⟨u1, rfl, r1⟩ := vals1 rxs
  cases r1
  exact dic_update hu I ha hc hac hk hm hne hl fun s' I' => ⟨.non, _, I', rfl, q⟩
/-- the entries' own tuples in a row -/
abbrev entRefs (es : List Ent) : List V := es.map fun e => V.ref e.2.1
theorem entR_refs {es : List Ent} {xs : List (List Key × Addr × Value)} (r : Paired EntR es xs) : xs.map (fun x => x.2.1) = es.map fun e => e.2.1 := by
  induction r with
  | nil => rfl
  | @cons p q ps qs h t ih => rw [List.map_cons, List.map_cons, ih, h.2.1]
/-- what comes out of a walk over the raw entries -/
theorem dic_items {P : Program} {w : World} {es : List Ent} {xs : List (List Key × Addr × Value)} {ds : Array DictEntry} {acc : Array Value} (r : Paired EntR es xs) (he : ds.toList = xs.map (entryOfKey (tupleKind (mixKind P w))))
    (it : ItemsOf (fun i v => ∃ en : DictEntry, ds[i]? = some en ∧ v = en.key) acc ds.size) : acc.toList = es.map fun e => Value.ref e.2.1 := by
  have l1 : ds.size = xs.length := size_of_entries he
  have ea : acc.toList = xs.map fun x => Value.ref x.2.1 := by
    have hl : acc.toList.length = xs.length := by rw [Array.length_toList, it.1]; exact l1
    apply List.ext_getElem?
    intro j
    rw [List.getElem?_map]
    cases hj : acc.toList[j]? with
    | none =>
      have h1 := List.getElem?_eq_none_iff.mp hj
      rw [List.getElem?_eq_none (by omega)]
      all_goals rfl
    | some v =>
      obtain ⟨en, hen, hv⟩ := it.2 j v (by rw [← Array.getElem?_toList]; exact hj)
      have qe := entry_at he j
      rw [hen] at qe
      cases hb : xs[j]? with
      | none =>
        rw [hb] at qe
        exact nomatch (show some en = none from qe)
      | some b =>
        rw [hb] at qe
        have e2 : en = entryOfKey (tupleKind (mixKind P w)) b := Option.some.inj qe
        rw [hv, e2]
        all_goals rfl
  have e := congrArg (List.map Value.ref) (entR_refs r)
  rw [List.map_map, List.map_map] at e
  exact ea.trans e
theorem entVals : ∀ es : List Ent, Vals (entRefs es) (es.map fun e => Value.ref e.2.1)
  | [] => .nil
  | _ :: r => .cons rfl (entVals r)
/-- list(d) -/
theorem call_list_dic (hc : X.calm = true) : CallR X (.type "list") (fun xs H Q => ∃ (a : Addr) (es : List Ent), xs = [V.ref a] ∧ Rd H a (DicO X.prog X.w a es) ∧ ∀ p, H p = none → Q (.ref p) (upd H p (.lst (entRefs es)))) := by
  intro pins s σ H xs us Q I r h
  obtain ⟨a, es, rfl, hd, q⟩ := h
  obtain ⟨u, rfl, rx⟩ := r.one
  cases rx
  obtain ⟨z, hs, hn, ks, pr, o, ds, ep, ho, hx, hdt, he⟩ := dic_rd I hd
  have l1 : ds.size = ks.length := size_of_entries he
  have l2 : es.length = ks.length := Paired.length pr
  refine PySem.W.kdl_call (kdl_raw hs hx hdt) (I.ok.hd hc) ho (by omega) fun h' tk acc' c' kp e it => ?_
  have ea := dic_items pr he it
  have rv : Vals (entRefs es) acc'.toList := by
    rw [ea]
    exact entVals es
  have hz : (entRefs es).length ≤ sizeLine := by rw [List.length_map]; exact z
  refine ⟨.ref s.heap.objs.size, _, I.laid (t' := tk) (o := .lst (entRefs es)) kp (Nat.le_refl _) ?_, rfl, q _ (I.hok.fresh (Nat.le_refl _))⟩
  exact ⟨hz, acc'.toList, c', rv, by rw [Array.toArray_toList]; exact e⟩
end
end L2
end
section
set_option Elab.async false
set_option linter.all false
set_option maxRecDepth 100000
set_option maxHeartbeats 2000000
/-! Dicts whose keys are tuples of texts: walks, sorted. -/
namespace L2
open PySem PySem.Spec PyProof.Rows
/-- the keys of the locked dict at d, in their order: the keys' own tuples -/
def ItD (P : Program) (w : World) (d : Addr) (o : Obj) (es : List Ent) : It :=
  ⟨fun i H => H d = some (.frz o (DicO P w d es)) ∧ i < es.length, fun i H x H' => H' = H ∧ ∃ e, es[i]? = some e ∧ x = .ref e.2.1, fun i H => H d = some (.frz o (DicO P w d es)) ∧ es.length ≤ i⟩
theorem dic_frz {X : Cx} {pins : List (Addr × Obj)} {σ : St} {H : Hp} {s : Shared} {d : Addr} {o : Obj} {es : List Ent} (I : Inv X pins σ H s) (h : H d = some (.frz o (DicO X.prog X.w d es))) :
    (d == sysModules) = false ∧ s.heap.get? d = some o ∧ o.ExactDict ∧ es.length ≤ sizeLine ∧ ∃ (ds : Array DictEntry) (ep : Nat), o.data = .dict ds ep ∧ ds.size = es.length ∧
      ∀ (i : Nat) (e : Ent), es[i]? = some e → ∃ en : DictEntry, ds[i]? = some en ∧ en.key = .ref e.2.1 := by
  obtain ⟨hd, q⟩ := (show ObjOk X.prog X.w H s.heap d (.frz o (DicO X.prog X.w d es)) from I.hok d _ h)
  obtain ⟨z, hs, hn, xs, pr, o', ds, ep, ho, hx, hdt, he⟩ := (show ObjOk X.prog X.w H s.heap d (DicO X.prog X.w d es) from q).1
  rw [hd] at ho
  cases ho
  have l1 : ds.size = xs.length := size_of_entries he
  have l2 : es.length = xs.length := Paired.length pr
  refine ⟨hs, hd, hx, z, ds, ep, hdt, by omega, fun i e hi => ?_⟩
  obtain ⟨b, hb, e1, e2, e3⟩ := paired_get pr hi
  have q := entry_at he i
  rw [hb] at q
  exact ⟨_, q, by rw [e2]; all_goals rfl⟩
theorem turn_dic {P : Program} {w : World} {K : PySem.W.Frag} {tg : Expr} {d : Addr} {o : Obj} {ds : Array DictEntry} {ep : Nat} {es : List Ent} (it : Addr) (hod : o.data = .dict ds ep) : Turn P w K tg (ItD P w d o es) [it] it (fun i h => h.IsKeyIter it d i es.length ep) where
  mem := by simp
  obj := fun i h st b hb => by
    have e : b = it := by simpa using hb
    subst e
    obtain ⟨oi, e, c, dd⟩ := st
    exact ⟨oi, e, fun v z => by rw [dd] at z; cases z⟩
  keep := fun i h h' st k => st.at fun oi e => k it (by simp) oi e
  item := by
    intro X hP hw hK hc i pins s σ H E I hf st hg
    subst hP hw hK
    obtain ⟨hd, hi⟩ := hg
    obtain ⟨f0, f1, f2, f3, f4, f5⟩ := hf it (by simp)
    obtain ⟨hs, hgd, hx, hz, ds', ep', hdt, hsz, ent⟩ := dic_frz I hd
    obtain ⟨rfl, rfl⟩ := dict_ep hod hdt
    obtain ⟨e, hkv⟩ : ∃ p, es[i]? = some p := ⟨es[i], List.getElem?_eq_getElem hi⟩
    obtain ⟨en, hen, hkey⟩ := ent i e hkv
    refine next_key_item st hgd hdt hsz hen fun h' st' sb => ?_
    have I1 : Inv X pins σ H { s with heap := h' } := I.turned (t' := s.toks) (fun b ob hb e => (sb.2 b hb).trans e) f0 f1 f3 f4 f5
    obtain ⟨oi, e0, c, dd⟩ := id st'
    exact ⟨en.key, rfl, go_of (s := { s with heap := h' }) e0 c dd (by decide) ⟨.ref e.2.1, H, I1, hkey, ⟨rfl, e, hkv, rfl⟩, st', fun b hb => (hf b hb).1⟩⟩
  done := by
    intro X hP hw hK hc i pins s σ H E I hf st hg
    subst hP hw hK
    obtain ⟨hd, hi⟩ := hg
    obtain ⟨f0, f1, f2, f3, f4, f5⟩ := hf it (by simp)
    obtain ⟨hs, hgd, hx, hz, ds', ep', hdt, hsz, ent⟩ := dic_frz I hd
    obtain ⟨rfl, rfl⟩ := dict_ep hod hdt
    exact next_key_end (I.ok.hd hc) st hgd hdt hsz hi fun h' eb => ⟨rfl, I.turned (t' := s.toks) (fun b ob hb e => eb b ob hb e) f0 f1 f3 f4 f5⟩
  self := fun A i s Q E st h => by
    refine wpAny_pyIter_slot st.typeIs F.slot_dict_keyiterator_iter (wpAny_call_entry F.slot_dict_keyiterator_iter st.typeIs F.entry_dict_keyiterator_iter ?_ (F.args_dict_keyiterator_iter_1 _))
    show wpAny _ _ (ret (.ref it)) _ _ s
    exact wpAny_pure ⟨_, rfl, "dict_keyiterator", _, st.typeIs, F.slot_dict_keyiterator_next.lookup, h⟩
def iDic (P : Program) (w : World) (td : TE) : TI := fun σ H R => td σ H fun x H1 => ∃ (d : Addr) (o : Obj) (es : List Ent), x = .ref d ∧ H1 d = some (.frz o (DicO P w d es)) ∧ R (ItD P w d o es) H1
theorem pi_dic {X : Cx} {tg e : Expr} {td : TE} (he : PE X e td) : PI X tg e (iDic X.prog X.w td) := by
  refine ⟨fun pins s σ H R I h => ?_⟩
  refine thn (he.run pins s σ H _ I h) fun u s1 ⟨x, H1, I1, rx, d, o, es, ex, hd, q⟩ => ?_
  subst ex
  obtain rfl : u = Value.ref d := rx
  obtain ⟨hs, hgd, hx, hz, ds, ep, hdt, hsz, ent⟩ := dic_frz I1 hd
  refine iter_keys hs hgd hx hdt (pi_one (tk := s1.toks) I1 _ (turn_dic _ hdt) ⟨_, Heap.get?_push_size _ rfl, rfl, ?_⟩ q)
  rw [hsz] <;> rfl
theorem walk_dic {P : Program} {w : World} {d : Addr} {o : Obj} {es : List Ent} : Walk (ItD P w d o es) es.length (fun H => H d = some (.frz o (DicO P w d es))) (YAt (entRefs es)) :=
  ⟨fun _ _ hi q => ⟨q, hi⟩, fun _ q => ⟨q, Nat.le_refl _⟩, fun i _ _ _ _ _ y => ⟨y.1, by
    obtain ⟨e, h1, h2⟩ := y.2
    rw [List.getElem?_map, h1, h2]
    rfl⟩⟩

/-! ### sorted -/
def keyD : Key → PyData
  | .inl i => .int i
  | .inr z => .str z
/-- a tuple of texts and its address -/
abbrev Tx := Addr × List Key
def encT (b : Tx) : PyData := .tuple (b.2.map keyD)
def leT : Tx → Tx → Bool := PySem.W.dataLe false encT
theorem readsKeys {h : Heap} : ∀ {ks : List Key} {us : List Value}, Vals (ks.map kV) us → ReadsAll h us (ks.map keyD) []
  | [], _, r => by
    rw [List.map_nil] at r
    cases r
    exact .nil
  | k :: ks, _, r => by
    rw [List.map_cons] at r
    cases r with
    | cons r1 r2 =>
      rename_i u us
      rw [List.map_cons]
      have t := readsKeys (h := h) r2
      cases k with
      | inl i =>
        obtain ⟨t1, rfl⟩ := r1
        exact ReadsAll.cons (as := []) (bs := []) (.int i t1) t
      | inr z =>
        obtain ⟨t1, rfl⟩ := r1
        exact ReadsAll.cons (as := []) (bs := []) (.str z t1) t
theorem depthKeys : ∀ ks : List Key, PyData.depthAll (ks.map keyD) = 0
  | [] => by simp [PyData.depthAll]
  | k :: ks => by
    rw [List.map_cons, PyData.depthAll, depthKeys ks]
    cases k <;> simp [keyD, PyData.depth]
theorem depthT (b : Tx) : (encT b).depth = 1 := by
  unfold encT
  rw [PyData.depth, depthKeys]
section
variable {X : Cx} {pins : List (Addr × Obj)} {σ : St} {H : Hp} {s : Shared}
theorem readsT (I : Inv X pins σ H s) {b : Tx} (h : SqT X.K H b.1 (b.2.map kV)) : ∃ as, Reads s.heap (.ref b.1) (encT b) as := by
  obtain ⟨its, r, ⟨o, h1, h2, n, h3⟩, _⟩ := I.tuple h
  exact ⟨[], .tuple h1 h2 h3 (by simpa using readsKeys r)⟩
theorem readsTs (I : Inv X pins σ H s) : ∀ {bs : List Tx}, (∀ b ∈ bs, SqT X.K H b.1 (b.2.map kV)) →
    PySem.W.EachIs (fun v b => ∃ as, Reads s.heap v (encT b) as) (bs.map fun b => Value.ref b.1) bs
  | [], _ => .nil
  | b :: bs, h => .cons (readsT I (h b (List.mem_cons_self ..))) (readsTs I fun c hc => h c (List.mem_cons_of_mem _ hc))
theorem each_refs : ∀ bs : List Tx, PySem.W.EachIs (fun v (b : Tx) => v = Value.ref b.1) (bs.map fun b => Value.ref b.1) bs
  | [] => .nil
  | _ :: r => .cons rfl (each_refs r)
theorem of_each : ∀ {out : List Value} {bs : List Tx}, PySem.W.EachIs (fun v (b : Tx) => v = Value.ref b.1) out bs → out = bs.map fun b => Value.ref b.1
  | _, _, .nil => rfl
  | _, _, .cons h t => by rw [List.map_cons, h, of_each t]
theorem txVals : ∀ bs : List Tx, Vals (bs.map fun b => V.ref b.1) (bs.map fun b => Value.ref b.1)
  | [] => .nil
  | _ :: r => .cons rfl (txVals r)
/-- what may be sorted: every key begins, and any two are of one kind place by place -/
def SortT (bs : List Tx) : Prop := PySem.W.AllAlike (bs.map encT) ∧ ∀ b ∈ bs, b.2 ≠ []
theorem SortT.able {bs : List Tx} (h : SortT bs) : PySem.W.Sortable (bs.map encT) := .inl fun d hd => by
  obtain ⟨b, hb, rfl⟩ := List.mem_map.mp hd
  have ne := h.2 b hb
  unfold encT
  cases e : b.2 with
  | nil => exact (ne e).elim
  | cons k ks => exact ⟨keyD k, ks.map keyD, by rw [List.map_cons]⟩
theorem mergeT_len (bs : List Tx) : (bs.mergeSort leT).length = bs.length := (List.mergeSort_perm bs leT).length_eq
/-- sorted(l) of a list of tuples -/
theorem cr_sortT (hu : X.A.units + 64 < cLine) : CallR X (.builtin "sorted") (fun vs H Q => ∃ (a : Addr) (bs : List Tx), vs = [V.ref a] ∧ SqL X.K H a (bs.map fun b => V.ref b.1) ∧ (∀ b ∈ bs, SqT X.K H b.1 (b.2.map kV)) ∧ SortT bs ∧
    ∀ p, H p = none → Q (.ref p) (upd H p (.lst ((bs.mergeSort leT).map fun b => V.ref b.1)))) := by
  intro pins s σ H xs us Q I r h
  obtain ⟨a, bs, rfl, ha, hb, hs, q⟩ := h
  obtain ⟨u, rfl, rx⟩ := vals1 r
  cases rx
  obtain ⟨its, rv, pl, hz⟩ := I.list ha
  have ei : its = bs.map fun b => Value.ref b.1 := by
    have e := refs_at (ps := bs.map (·.1)) (us := its) (by rw [List.map_map]; exact rv)
    rw [e, List.map_map]
    all_goals rfl
  subst ei
  rw [List.length_map] at hz
  refine PySem.W.sorted_data (R := fun v (b : Tx) => v = Value.ref b.1) (enc := encT) (bs := bs) (vs := bs.map fun b => Value.ref b.1) pl.isList (each_refs bs) (readsTs I hb) hs.1 hs.able hz (fun b _ => by rw [depthT]; omega) fun out hl eo => ?_
  have eo' : out = (bs.mergeSort leT).map fun b => Value.ref b.1 := of_each eo
  subst eo'
  obtain ⟨c, hc⟩ := PyProof.Rows.sortedAll_at s.heap (bs.map fun b => Value.ref b.1) ((bs.mergeSort leT).map fun b => Value.ref b.1).toArray
  have hn : H (s.heap.objs.size + 1) = none := I.hok.fresh (Nat.le_succ _)
  refine ⟨.ref (s.heap.objs.size + 1), upd H (s.heap.objs.size + 1) (.lst ((bs.mergeSort leT).map fun b => V.ref b.1)), I.laid (t' := s.toks) (fun b o e => PyProof.Rows.sortedAll_old e) (Nat.le_succ _) ?_, rfl, q _ hn⟩
  exact ⟨by rw [List.length_map, mergeT_len]; exact hz, _, c, txVals _, hc⟩
/-- sorted(d) of a dict with such keys -/
theorem cr_sortDic (hcalm : X.calm = true) (hu : X.A.units + 64 < cLine) : CallR X (.builtin "sorted") (fun vs H Q => ∃ (a : Addr) (es : List Ent), vs = [V.ref a] ∧ Rd H a (DicO X.prog X.w a es) ∧ KeysIn X.K H es ∧ SortT (es.map fun e => (e.2.1, e.1)) ∧
    ∀ p, H p = none → Q (.ref p) (upd H p (.lst (((es.map fun e => (e.2.1, e.1)).mergeSort leT).map fun b => V.ref b.1)))) := by
  intro pins s σ H xs us Q I r h
  obtain ⟨a, es, rfl, ha, hk, hs, q⟩ := h
  obtain ⟨u, rfl, rx⟩ := vals1 r
  cases rx
  obtain ⟨z, lo, hn, ks, pr, o, ds, ep, ho, hx, hdt, he⟩ := dic_rd I ha
  have l1 : ds.size = ks.length := size_of_entries he
  have l2 : es.length = ks.length := Paired.length pr
  refine Calls.call_function_entry PyProof.Rows.kind_sorted PyProof.Rows.plain_sorted PyProof.Rows.entry_sorted (PyProof.Rows.args_sorted1 _) ?_
  unfold Builtin.«sorted»
  refine wpAny_bind (m := checkCount "sorted" 1 1 _) (wpAny_pure ?_)
  refine wpAny_bind (PySem.W.kdu_collect (A := X.A.in1) (kdl_raw lo hx hdt) (I.ok.hd hcalm) ho (by omega) fun h' tk acc hk2 it => ?_)
  have ea := dic_items pr he it
  have I1 : Inv X pins σ H { s with heap := h', toks := tk } := I.kept hk2
  generalize hbs : (es.map fun e : Ent => ((e.2.1, e.1) : Tx)) = bs at hs q
  have ea2 : acc.toList = bs.map fun b => Value.ref b.1 := by
    rw [ea, ← hbs, List.map_map]
    all_goals rfl
  have hlb : bs.length = es.length := by rw [← hbs, List.length_map]
  have hb : ∀ b ∈ bs, SqT X.K H b.1 (b.2.map kV) := by
    intro b hb
    rw [← hbs] at hb
    obtain ⟨e, he, rfl⟩ := List.mem_map.mp hb
    exact hk e he
  rw [ea2]
  refine wpAny_bind (wpAny_newList ?_ (by rw [List.length_map]; omega))
  have hoL : (h'.push (seqObj "list" (bs.map fun b => Value.ref b.1).toArray 0)).get? h'.objs.size = some (seqObj "list" (bs.map fun b => Value.ref b.1).toArray 0) := Heap.get?_push_size _ rfl
  show wpAny _ _ _ _ _ { s with heap := h'.push (seqObj "list" (bs.map fun b => Value.ref b.1).toArray 0), toks := tk }
  have rd : PySem.W.EachIs (fun v (b : Tx) => ∃ as, Reads (h'.push (seqObj "list" (bs.map fun b => Value.ref b.1).toArray 0)) v (encT b) as ∧ h'.objs.size ∉ as) (bs.map fun b => Value.ref b.1) bs := by
    have go : ∀ cs : List Tx, (∀ b ∈ cs, SqT X.K H b.1 (b.2.map kV)) → PySem.W.EachIs (fun v (b : Tx) => ∃ as, Reads (h'.push (seqObj "list" (bs.map fun b => Value.ref b.1).toArray 0)) v (encT b) as ∧ h'.objs.size ∉ as) (cs.map fun b => Value.ref b.1) cs := by
      intro cs
      induction cs with
      | nil => intro _; exact .nil
      | cons c cs ih =>
        intro hc
        refine .cons ?_ (ih fun d hd => hc d (List.mem_cons_of_mem _ hd))
        obtain ⟨its, rr, ⟨oo, h1, h2, n, h3⟩, _⟩ := I1.tuple (hc c (List.mem_cons_self ..))
        exact ⟨[], .tuple (Heap.get?_push_of_some _ h1) h2 h3 (by simpa using readsKeys rr), fun q => nomatch q⟩
    exact go bs hb
  refine wpAny_bind (wpAny_holding (PySem.W.list_sort_data (s := { s with heap := h'.push (seqObj "list" (bs.map fun b => Value.ref b.1).toArray 0), toks := tk }) (R := fun v (b : Tx) => v = Value.ref b.1) (enc := encT) (bs := bs) (vs := bs.map fun b => Value.ref b.1)
    hoL (each_refs bs) rd hs.1 hs.able (by omega) (fun b _ => by rw [depthT]; show X.A.units + 1 + 1 + 1 < cLine; omega) fun out hl eo => ?_))
  have eo' : out = (bs.mergeSort leT).map fun b => Value.ref b.1 := of_each eo
  subst eo'
  obtain ⟨c, hc⟩ := PyProof.Rows.sortedHeap_at (vs := bs.map fun b => Value.ref b.1) (out := ((bs.mergeSort leT).map fun b => Value.ref b.1).toArray) hoL
  refine wpAny_pure ⟨_, rfl, .ref h'.objs.size, upd H h'.objs.size (.lst ((bs.mergeSort leT).map fun b => V.ref b.1)), I1.laid (t' := tk) (fun b u e => ?_) (Nat.le_refl _)
    (show ObjOk X.prog X.w _ _ _ (.lst ((bs.mergeSort leT).map fun b => V.ref b.1)) from ⟨by rw [List.length_map, mergeT_len]; omega, _, c, txVals _, hc⟩), rfl, q _ (I1.hok.fresh (Nat.le_refl _))⟩
  have hbl : b < h'.objs.size := Heap.lt_size e
  rw [PyProof.Rows.sortedHeap_old (Nat.ne_of_lt hbl) (by rw [size_push']; exact Nat.lt_succ_of_lt hbl)]
  exact Heap.get?_push_of_some _ e
end
end L2
end
section
set_option Elab.async false
set_option linter.all false
set_option maxRecDepth 100000
set_option maxHeartbeats 2000000
/-! Sets of texts: made anew, add, sorted. -/
namespace L2
open PySem PySem.Spec PyProof.Rows PySem.Froz
/-- the set of the texts l at a, no text twice in l -/
def SetS (P : Program) (w : World) (a : Addr) (l : List Str) (h : Heap) : Prop :=
  ∃ D : SD, h.get? a = some (sObj "set" D) ∧ TxOk P w D l ∧ l.Nodup ∧ l.length < scanBound ∧ Ris D.2.2.place.toList ∧ (w.params.followText "set-order" = true ∨ D.2.2.led = true)
theorem tailTx_ris {ep : Nat} {es1 : Array (Int × Value)} {t2 : SetTable} {wd : Bool} (r : Ris t2.place.toList) : Ris (tailTx ep es1 t2 wd).2.2.place.toList := by
  unfold tailTx
  split
  · exact relayAll_ris t2 es1 _
  · exact r
theorem tailTx_led {ep : Nat} {es1 : Array (Int × Value)} {t2 : SetTable} {wd : Bool} : (tailTx ep es1 t2 wd).2.2.led = t2.led := by
  unfold tailTx
  split
  · exact relayAll_led t2 es1 _
  · rfl
theorem addTx_ris {h : Int} {v : Value} {D : SD} (r : Ris D.2.2.place.toList) : Ris (addTx h v D).2.2.place.toList := by
  have q := layNew_ris D.2.2 D.1 h v r
  unfold addTx
  refine tailTx_ris ?_
  split
  · exact q
  · exact q
theorem addTx_led {h : Int} {v : Value} {D : SD} : (addTx h v D).2.2.led = D.2.2.led := by
  have q := layNew_led D.2.2 D.1 h v
  unfold addTx
  rw [tailTx_led]
  split
  · exact q
  · exact q
section
variable {P : Program} {w : World} {A : Around} {E : Value → Shared → Prop} {s : Shared} {a : Addr} {l : List Str} {k : Str} {u : Tok}
/-- the text is in the set -/
theorem old_x {D : SD} {Q : Bool → Shared → Prop} (ho : s.heap.get? a = some (sObj "set" D)) (F : TxOk P w D l) (hk : k ∈ l) (hb : l.length < scanBound) (h : Q false s) :
    wpAny (model P w) A (setAddHashed a (.str k u) (hashStr w k)) Q E s := by
  obtain ⟨es, ep, t⟩ := D
  have hd : (sObj "set" (es, ep, t)).data = .set es ep t := rfl
  have hsz : es.size = l.length := F.sz
  have hkey : (strKind P w).is k (.str k u) = true := is_str k u
  obtain ⟨j, hj⟩ : ∃ j, List.findIdx? (fun e => (strKind P w).is k e.2) es.toList = some j := by
    obtain ⟨e, he, q⟩ := (F.mem k).mp hk
    cases hr : List.findIdx? (fun e => (strKind P w).is k e.2) es.toList with
    | some j => exact ⟨j, rfl⟩
    | none =>
      have c := List.findIdx?_eq_none_iff.mp hr e he
      rw [q] at c
      cases c
  unfold setAddHashed setAddHashedIn
  refine wpAny_holding (wpAny_bind (wpAny_setState_of ho hd F.fit ?_))
  dsimp only
  rw [byScan_of rfl (show es.size < scanBound by omega) F.el]
  simp only [↓reduceIte]
  unfold setAddByScan
  refine wpAny_bind ?_
  refine wpAny_bind (wpAny_rule ?_)
  refine wpAny_bind (wpAny_setScan_of (knd := strKind P w) (k := k) hkey ho hd F.fit F.el ?_)
  rw [hj]
  dsimp only
  exact wpAny_pure (wpAny_pure h)
/-- found.add(k) -/
theorem setS_add {Q : Value → Shared → Prop} (R : SetS P w a l s.heap) (hb : l.length + 1 < scanBound)
    (hQ : ∀ h' l', Heap.SameBut a s.heap h' → SetS P w a l' h' → (∀ z, z ∈ l' ↔ z = k ∨ z ∈ l) → l'.length ≤ l.length + 1 → Q .none { s with heap := h', toks := s.toks + 1 }) :
    wpAny (model P w) A (call (.builtin "set.add") [.ref a, .str k u]) Q E s := by
  obtain ⟨D, ho, F, nd, hz0, hr, hl⟩ := R
  refine wpAny_call_entry PySem.F.slot_set_add ⟨_, ho, rfl⟩ PySem.F.entry_set_add ?_ (PySem.F.args_set_add_2 _ _)
  unfold Builtin.«set.add» Builtin.Frozenset.oneOther
  simp only [List.isEmpty_nil, bind_assoc]
  unfold Builtin.Frozenset.addrOf setAdd
  refine wpAny_bind (wpAny_pure ?_)
  try dsimp only
  refine wpAny_bind (wpAny_pure ?_)
  try dsimp only
  refine wpAny_bind ?_
  refine wpAny_holding ?_
  refine wpAny_bind ((strKind P w).pyHash (is_str k u) ?_)
  by_cases hk : k ∈ l
  · refine old_x (s := { s with toks := s.toks + 1 }) ho F hk (by omega) ?_
    show wpAny _ _ (ret Value.none) _ _ _
    exact wpAny_pure ⟨_, rfl, hQ s.heap l (Heap.SameBut.refl a s.heap) ⟨D, ho, F, nd, hz0, hr, hl⟩ (fun z => ⟨.inr, fun h => h.elim (fun e => e ▸ hk) id⟩) (Nat.le_succ _)⟩
  · refine add_x (s := { s with toks := s.toks + 1 }) ho F hk hb ?_
    show wpAny _ _ (ret Value.none) _ _ _
    refine wpAny_pure ⟨_, rfl, hQ _ (k :: l) (Heap.SameBut.update s.heap a _) ⟨addTx (hashStr w k) (.str k u) D, get_upd _ ho rfl, add_ok u F, List.nodup_cons.mpr ⟨hk, nd⟩, hb, addTx_ris hr, hl.imp id fun z => by rw [addTx_led]; exact z⟩ (fun z => List.mem_cons) (Nat.le_refl _)⟩
theorem setS_fresh {h : Heap} (P : Program) (w : World) : SetS P w h.objs.size [] (h.push { cls := .type "set", dict := none, data := .set #[] 0 (.fresh 0 0 (!w.params.followText "set-order")) }) :=
  ⟨(#[], 0, .fresh 0 0 (!w.params.followText "set-order")), Heap.get?_push_size _ rfl, TxOk.nil (by rfl), List.nodup_nil, (by decide), List.Pairwise.nil, by
    show _ ∨ (!w.params.followText "set-order") = true
    cases w.params.followText "set-order"
    · exact .inr rfl
    · exact .inl rfl⟩
end
def SetSO (P : Program) (w : World) (a : Addr) (l : List Str) : HO := .ext (SetS P w a l)
theorem setSO_new {P : Program} {w : World} {H : Hp} {h : Heap} {a : Addr} {l : List Str} (R : SetS P w a l h) : ObjOk P w H h a (SetSO P w a l) := by
  have ⟨D, ho, _⟩ := R
  exact ⟨R, ⟨_, ho⟩, fun h1 h2 p k => by
    obtain ⟨D, ho, r⟩ := p
    exact ⟨D, k _ ho, r⟩⟩
section
variable {X : Cx} {pins : List (Addr × Obj)} {σ : St} {H : Hp} {s : Shared} {D : Addr} {l : List Str} {E : Value → Shared → Prop}
theorem addS_ok {y : Str} {t : Tok} {Q : Value → Shared → Prop} (I : Inv X pins σ H s) (hD : H D = some (SetSO X.prog X.w D l)) (hb : l.length + 1 < scanBound)
    (h : ∀ s' l', (∀ z, z ∈ l' ↔ z = y ∨ z ∈ l) → l'.length ≤ l.length + 1 → Inv X pins σ (upd H D (SetSO X.prog X.w D l')) s' → Q .none s') :
    wpAny (model X.prog X.w) X.A (call (.builtin "set.add") [.ref D, .str y t]) Q E s := by
  have R : SetS X.prog X.w D l s.heap := (show ObjOk X.prog X.w H s.heap D (SetSO X.prog X.w D l) from I.hok D _ hD).1
  refine setS_add R hb fun h' l' sb R' hm hz => h _ l' hm hz ?_
  have ⟨D', ho, _⟩ := R'
  exact I.write (x := D) (e := D) (by rw [hD]; trivial) (.inl rfl) (fun b q hq z => (sb.2 b hq).trans z) ⟨_, ho⟩ (setSO_new R')
end

/-! ### sorted -/
def leS : Str → Str → Bool := PySem.W.dataLe false PyData.str
theorem alikeS : ∀ (bs : List Str), PySem.W.AllAlike (bs.map PyData.str) := fun bs => PySem.W.AllAlike.of fun b b' => by simp [PySem.W.alike]
theorem txts_of : ∀ {vs : List Value}, (∀ v ∈ vs, ∃ (k : Str) (t : Tok), v = Value.str k t) → ∃ bs : List Str, PySem.W.EachIs (fun v b => ∃ t : Tok, v = Value.str b t) vs bs
  | [], _ => ⟨[], .nil⟩
  | v :: vs, h => by
    obtain ⟨k, t, e⟩ := h v (List.mem_cons_self ..)
    obtain ⟨bs, r⟩ := txts_of fun u hu => h u (List.mem_cons_of_mem _ hu)
    exact ⟨k :: bs, .cons ⟨t, e⟩ r⟩
theorem each_mem_iff {P : Program} {w : World} : ∀ {vs : List Value} {bs : List Str}, PySem.W.EachIs (fun v b => ∃ t : Tok, v = Value.str b t) vs bs → ∀ k : Str, (∃ v ∈ vs, (strKind P w).is k v = true) ↔ k ∈ bs
  | _, _, .nil, k => by simp
  | v :: vs, b :: bs, .cons h t, k => by
    obtain ⟨u, e⟩ := h
    have ih := each_mem_iff (P := P) (w := w) t k
    constructor
    · rintro ⟨x, hx, q⟩
      rcases List.mem_cons.mp hx with z | z
      · rw [z, e] at q
        rw [(strKind P w).inj (.str b u) k b q (is_str b u)]
        exact List.mem_cons_self ..
      · exact List.mem_cons_of_mem _ (ih.mp ⟨x, z, q⟩)
    · intro hk
      rcases List.mem_cons.mp hk with z | z
      · exact ⟨v, List.mem_cons_self .., by rw [z, e]; exact is_str b u⟩
      · obtain ⟨x, hx, q⟩ := ih.mpr z
        exact ⟨x, List.mem_cons_of_mem _ hx, q⟩
theorem strVals : ∀ {out : List Value} {bs : List Str}, PySem.W.EachIs (fun v b => ∃ t : Tok, v = Value.str b t) out bs → Vals (bs.map V.str) out
  | _, _, .nil => .nil
  | _, _, .cons h t => .cons h (strVals t)
section
variable {X : Cx}
/-- sorted(found) of a set of texts -/
theorem cr_sortSetS (hcalm : X.calm = true) (hu : X.A.units + 64 < cLine) : CallR X (.builtin "sorted") (fun vs H Q => ∃ (a : Addr) (l : List Str), vs = [V.ref a] ∧ H a = some (SetSO X.prog X.w a l) ∧
    ∀ (p : Addr) (bs : List Str), H p = none → (∀ z, z ∈ bs ↔ z ∈ l) → bs.length = l.length → Q (.ref p) (upd H p (.lst ((bs.mergeSort leS).map V.str)))) := by
  intro pins s σ H xs us Q I r h
  obtain ⟨a, l, rfl, ha, q⟩ := h
  obtain ⟨u, rfl, rx⟩ := vals1 r
  cases rx
  obtain ⟨⟨es, ep, t⟩, ho, F, nd, hz0, hr, hl⟩ := (show ObjOk X.prog X.w H s.heap a (SetSO X.prog X.w a l) from I.hok a _ ha).1
  have hsz : es.size = l.length := F.sz
  have hsb : es.size < scanBound := by omega
  refine Calls.call_function_entry PyProof.Rows.kind_sorted PyProof.Rows.plain_sorted PyProof.Rows.entry_sorted (PyProof.Rows.args_sorted1 _) ?_
  unfold Builtin.«sorted»
  refine wpAny_bind (m := checkCount "sorted" 1 1 _) (wpAny_pure ?_)
  refine wpAny_bind (collect_set (A := X.A.in1) (I.ok.hd hcalm) ⟨_, ho, rfl, rfl⟩ F.fit hsb hr hl fun s1 vs k1 hz g1 o1 pm => ?_)
  have I1 : Inv X pins σ H s1 := by
    have J : Inv X pins σ H { s with heap := s1.heap, gens := s1.gens, drawn := s1.drawn, toks := s1.toks } :=
      I.call (ch := []) ⟨fun b o e _ _ _ => k1 b o e, fun b o e _ _ _ => ⟨o.slots, k1 b o e⟩, fun _ _ _ h _ => h, fun b o e _ => ⟨o, k1 b o e⟩, fun _ _ h => h, fun _ _ _ h => h, fun b ps h => ⟨#[], by simpa using h⟩⟩
        (I.hok.kept k1) (by rw [g1]; exact I.bare) (fun _ z => nomatch z)
    have e : s1 = { s with heap := s1.heap, gens := s1.gens, drawn := s1.drawn, toks := s1.toks } := by
      cases s1
      cases s
      cases o1
      rfl
    rw [e]
    exact J
  have hst : ∀ v ∈ vs, ∃ (k : Str) (t : Tok), v = Value.str k t := fun v hv => by
    obtain ⟨e, he, q⟩ := List.mem_map.mp (pm.mem_iff.mp hv)
    obtain ⟨⟨k, h1, _⟩, _⟩ := F.el e he
    obtain ⟨t, e2⟩ := Value.isStrOf_shape h1
    exact ⟨k, t, by rw [← q]; exact e2⟩
  obtain ⟨bs, ev⟩ := txts_of hst
  have lb : bs.length = l.length := by rw [← ev.length, pm.length_eq, List.length_map, Array.length_toList]; exact hsz
  have hmem : ∀ z, z ∈ bs ↔ z ∈ l := fun z => by
    rw [← each_mem_iff (P := X.prog) (w := X.w) ev z, F.mem z]
    constructor
    · rintro ⟨v, hv, q⟩
      obtain ⟨e, he, q2⟩ := List.mem_map.mp (pm.mem_iff.mp hv)
      exact ⟨e, he, by rw [q2]; exact q⟩
    · rintro ⟨e, he, q⟩
      exact ⟨e.2, pm.mem_iff.mpr (List.mem_map.mpr ⟨e, he, rfl⟩), q⟩
  have hvl : vs.length = l.length := by rw [ev.length]; exact lb
  have hbig : l.length ≤ sizeLine := by rw [← hsz]; exact fits_of_scanBound hsb
  refine wpAny_bind (wpAny_newList ?_ (by omega))
  have hoL : (s1.heap.push (seqObj "list" vs.toArray 0)).get? s1.heap.objs.size = some (seqObj "list" vs.toArray 0) := Heap.get?_push_size _ rfl
  show wpAny _ _ _ _ _ { s1 with heap := s1.heap.push (seqObj "list" vs.toArray 0) }
  refine wpAny_bind (wpAny_holding (PySem.W.list_sort_data (s := { s1 with heap := s1.heap.push (seqObj "list" vs.toArray 0) }) (R := fun v (b : Str) => ∃ t : Tok, v = Value.str b t) (enc := PyData.str) (bs := bs) (vs := vs)
    hoL ev (ev.mono fun v b ⟨t, e⟩ => ⟨[], by rw [e]; exact .str b t, fun q => nomatch q⟩) (alikeS bs) (PySem.W.Sortable.others fun b => ⟨(fun e => nomatch e), fun xs e => nomatch e⟩) (by omega) (fun b _ => by show X.A.units + 1 + 1 + PyData.depth (.str b) < cLine; rw [PyData.depth]; omega) fun out ho2 eo => ?_))
  obtain ⟨c, hc⟩ := PyProof.Rows.sortedHeap_at (vs := vs) (out := out.toArray) hoL
  refine wpAny_pure ⟨_, rfl, .ref s1.heap.objs.size, upd H s1.heap.objs.size (.lst ((bs.mergeSort leS).map V.str)), I1.laid (t' := s1.toks) (fun b u e => ?_) (Nat.le_refl _)
    (show ObjOk X.prog X.w _ _ _ (.lst ((bs.mergeSort leS).map V.str)) from ⟨?_, out, c, strVals eo, hc⟩), rfl, q _ bs (I1.hok.fresh (Nat.le_refl _)) hmem lb⟩
  · have hbl : b < s1.heap.objs.size := Heap.lt_size e
    rw [PyProof.Rows.sortedHeap_old (Nat.ne_of_lt hbl) (by rw [size_push']; exact Nat.lt_succ_of_lt hbl)]
    exact Heap.get?_push_of_some _ e
  · have e := (List.mergeSort_perm bs leS).length_eq
    rw [List.length_map, e]
    omega
end
end L2
end
section
set_option Elab.async false
set_option linter.all false
set_option maxRecDepth 100000
set_option maxHeartbeats 2000000
/-! {elt for tg in iter if .. for tg1 in iter1 if ..}, elt a text. -/
namespace L2
open PySem PySem.Spec PyProof.Rows PpSet
section
variable {prog : Program} {w : World} {A : Around} {R : Result → Shared → Prop} {s : Shared} {elt t0 i0 t1 i1 : Expr} {f0 f1 : List Expr} {scope : Scope} {pos : Pos} {it acc : Value} {env : Env}
abbrev Sc2 (elt t0 i0 t1 i1 : Expr) (f0 f1 : List Expr) (scope : Scope) (pos : Pos) : Expr := .SetComp elt [⟨t0, i0, f0, 0⟩, ⟨t1, i1, f1, 0⟩] scope pos
theorem sc2_turn0 : compTurn (Sc2 elt t0 i0 t1 i1 f0 f1 scope pos) 0 it acc env = (do
      standAt i0.pos
      match ← pyNext it with
      | none => pure (.done .next)
      | some v =>
        letOwnedTupleGo t0 it v
        assign t0 env v
        let mut ok := true
        for c in f0 do
          if ok then ok ← isTrue c env (eval c env)
        if ok then
          let x ← eval i1 env
          standAt i1.pos
          let x ← foldedSetIterable i1 env x
          let _ ← runOwn (.compStart (Sc2 elt t0 i0 t1 i1 f0 f1 scope pos) 1 (← holding [x] (pyIter x)) acc env) env
        again (.compLoop (Sc2 elt t0 i0 t1 i1 f0 f1 scope pos) 0 it acc env)) := by rfl
theorem sc2_turn1 : compTurn (Sc2 elt t0 i0 t1 i1 f0 f1 scope pos) 1 it acc env = (do
      standAt i1.pos
      match ← pyNext it with
      | none => pure (.done .next)
      | some v =>
        letOwnedTupleGo t1 it v
        assign t1 env v
        let mut ok := true
        for c in f1 do
          if ok then ok ← isTrue c env (eval c env)
        if ok then
          (do let v ← eval elt env; standAt elt.pos; let _ ← call (.builtin "set.add") [acc, v])
        again (.compLoop (Sc2 elt t0 i0 t1 i1 f0 f1 scope pos) 1 it acc env)) := by rfl
/-- the outer loop -/
theorem sc2_out (hs : ∀ x, foldedSetIterable i1 env x = pure x) (I : Nat → Shared → Prop)
    (turn : ∀ n s, I n s → wpAny (model prog w) A (pyNext it) (fun r s₁ => match r with
      | none => R (.ok .next) s₁
      | some v => wpAny (model prog w) A (letOwnedTupleGo t0 it v) (fun _ s₁' => wpAny (model prog w) A (assign t0 env v) (fun _ s₂ =>
          wpAny (model prog w) A (forIn f0 true fun c r => if r = true then do let ok ← isTrue c env (eval c env); pure (ForInStep.yield ok) else pure (ForInStep.yield r)) (fun ok s₃ =>
            if ok = true then wpAny (model prog w) A (eval i1 env) (fun x s₄ => wpAny (model prog w) A (pyIter x) (fun it1 s₅ =>
              codeAny (model prog w) A (.compStart (Sc2 elt t0 i0 t1 i1 f0 f1 scope pos) 1 it1 acc env) (fun r s' => match r with
                | .ok _ => ∃ m, m < n ∧ I m s'
                | .error _ => False) s₅) (notedBy (model prog w) A env fun e s' => R (.error e) s') s₄) (notedBy (model prog w) A env fun e s' => R (.error e) s') s₃
            else ∃ m, m < n ∧ I m s₃) (notedBy (model prog w) A env fun e s' => R (.error e) s') s₂) (notedBy (model prog w) A env fun e s' => R (.error e) s') s₁') (notedBy (model prog w) A env fun e s' => R (.error e) s') s₁) (notedBy (model prog w) A env fun e s' => R (.error e) s') s)
    (n : Nat) (h : I n s) : codeAny (model prog w) A (.compLoop (Sc2 elt t0 i0 t1 i1 f0 f1 scope pos) 0 it acc env) R s := by
  refine codeAny_loop rfl I (fun n s hI => ?_) n h
  show wpAny _ A ((compTurn (Sc2 elt t0 i0 t1 i1 f0 f1 scope pos) 0 it acc env).onRaise (fun x => do noteFrame x env; theTreesLotGoes x)) _ _ s
  refine wpAny_noted ?_
  rw [sc2_turn0]
  refine wpAny_bind (wpAny_standAt (wpAny_bind (wpAny_mono (turn n s hI) (fun r s₁ h₁ => ?_) fun _ _ h' => h')))
  cases r with
  | none => exact wpAny_pure h₁
  | some v =>
    refine wpAny_bind (wpAny_mono h₁ (fun _ s₁' h₁' => ?_) fun _ _ h' => h')
    refine wpAny_bind (wpAny_mono h₁' (fun _ s₂ h₂ => wpAny_bind (wpAny_mono h₂ (fun ok s₃ h₃ => ?_) fun _ _ h' => h')) fun _ _ h' => h')
    cases ok with
    | false => exact wpAny_pure ⟨rfl, h₃⟩
    | true =>
      refine wpAny_bind (wpAny_mono h₃ (fun x s₄ h₄ => ?_) fun _ _ h' => h')
      refine wpAny_bind (wpAny_standAt (wpAny_bind (wpAny_of_eq (hs x) (wpAny_bind (wpAny_holding (wpAny_mono h₄ (fun it1 s₅ h₅ => ?_) fun _ _ h' => h'))))))
      refine wpAny_bind (wpAny_runOwn ?_)
      rw [Around.mark_none]
      refine codeAny_mono h₅ fun r s' hr => ?_
      cases r with
      | ok f =>
        first
          | exact wpAny_pure ⟨rfl, hr⟩
          | exact wpAny_bind (wpAny_pure (wpAny_pure ⟨rfl, hr⟩))
      | error e => exact hr.elim
/-- the inner one -/
theorem sc2_in (I : Nat → Shared → Prop)
    (turn : ∀ n s, I n s → wpAny (model prog w) A (pyNext it) (fun r s₁ => match r with
      | none => R (.ok .next) s₁
      | some v => wpAny (model prog w) A (letOwnedTupleGo t1 it v) (fun _ s₁' => wpAny (model prog w) A (assign t1 env v) (fun _ s₂ =>
          wpAny (model prog w) A (forIn f1 true fun c r => if r = true then do let ok ← isTrue c env (eval c env); pure (ForInStep.yield ok) else pure (ForInStep.yield r)) (fun ok s₃ =>
            if ok = true then wpAny (model prog w) A (eval elt env) (fun x s₄ =>
              wpAny (model prog w) A (call (.builtin "set.add") [acc, x]) (fun _ s₅ => ∃ m, m < n ∧ I m s₅) (notedBy (model prog w) A env fun e s' => R (.error e) s') s₄) (notedBy (model prog w) A env fun e s' => R (.error e) s') s₃
            else ∃ m, m < n ∧ I m s₃) (notedBy (model prog w) A env fun e s' => R (.error e) s') s₂) (notedBy (model prog w) A env fun e s' => R (.error e) s') s₁') (notedBy (model prog w) A env fun e s' => R (.error e) s') s₁) (notedBy (model prog w) A env fun e s' => R (.error e) s') s)
    (n : Nat) (h : I n s) : codeAny (model prog w) A (.compLoop (Sc2 elt t0 i0 t1 i1 f0 f1 scope pos) 1 it acc env) R s := by
  refine codeAny_loop rfl I (fun n s hI => ?_) n h
  show wpAny _ A ((compTurn (Sc2 elt t0 i0 t1 i1 f0 f1 scope pos) 1 it acc env).onRaise (fun x => do noteFrame x env; theTreesLotGoes x)) _ _ s
  refine wpAny_noted ?_
  rw [sc2_turn1]
  refine wpAny_bind (wpAny_standAt (wpAny_bind (wpAny_mono (turn n s hI) (fun r s₁ h₁ => ?_) fun _ _ h' => h')))
  cases r with
  | none => exact wpAny_pure h₁
  | some v =>
    refine wpAny_bind (wpAny_mono h₁ (fun _ s₁' h₁' => ?_) fun _ _ h' => h')
    refine wpAny_bind (wpAny_mono h₁' (fun _ s₂ h₂ => wpAny_bind (wpAny_mono h₂ (fun ok s₃ h₃ => ?_) fun _ _ h' => h')) fun _ _ h' => h')
    cases ok with
    | false => exact wpAny_pure ⟨rfl, h₃⟩
    | true =>
      exact wpAny_bind (wpAny_bind (wpAny_mono h₃ (fun x s₄ h₄ => wpAny_bind (wpAny_standAt (wpAny_bind (wpAny_mono h₄ (fun _ s₅ h₅ => wpAny_pure (wpAny_pure ⟨rfl, h₅⟩)) fun _ _ h' => h')))) fun _ _ h' => h'))
theorem sc2_start (h0 : codeAny (model prog w) A (.compLoop (Sc2 elt t0 i0 t1 i1 f0 f1 scope pos) 1 it acc env) R s)
    (h : wpAny (model prog w) A (pyIter it) (fun it' s' => codeAny (model prog w) A (.compLoop (Sc2 elt t0 i0 t1 i1 f0 f1 scope pos) 1 it' acc env) R s')
      (notedBy (model prog w) A env fun x s' => R (.error x) s') s) :
    codeAny (model prog w) A (.compStart (Sc2 elt t0 i0 t1 i1 f0 f1 scope pos) 1 it acc env) R s := by
  refine codeAny_of_tree ?_
  show wpAny _ _ ((compStart (Sc2 elt t0 i0 t1 i1 f0 f1 scope pos) 1 it acc env).onRaise (fun x => do noteFrame x env; standAt theWindowsPlace)) _ _ s
  refine wpAny_notedAt ?_
  unfold compStart
  show wpAny _ _ (ask >>= _) _ _ s
  refine wpAny_bind (wpAny_askSetting (wpAny_ite ?_))
  split
  · first
      | exact wpAny_bind (wpAny_pure (wpAny_pure (And.intro rfl h0)))
      | exact wpAny_pure (And.intro rfl h0)
  · first
      | exact wpAny_bind (wpAny_rule (wpAny_bind (wpAny_standAt (wpAny_bind (wpAny_mono h (fun it' s' h' => wpAny_pure (And.intro rfl h')) fun _ _ x => x)))))
      | (refine wpAny_bind (wpAny_rule ?_); show wpAny _ _ (standAt i1.pos >>= _) _ _ s; exact wpAny_bind (wpAny_standAt (wpAny_bind (wpAny_mono h (fun it' s' h' => wpAny_pure (And.intro rfl h')) fun _ _ x => x))))
end
section
variable {X : Cx}
/-- D: the new set; vs: the block's names; vs1: those of the second target -/
def tSc2 (P : Program) (w : World) (wi : TI) (g : TG) (tt : TT) (wi1 : TI) (g1 : TG) (tt1 : TT) (te : TE) (vs vs1 : List Nat) : TE := fun σ H Q => wi σ H fun J H1 => ∀ D, H1 D = none → ∃ W : Nat → Nat → Hp → Prop, (∃ m, W 0 m (upd H1 D (SetSO P w D []))) ∧ ∀ i m H, W i m H →
  (J.stop i H ∧ Q (.ref D) H) ∨ (J.go i H ∧ ∃ Nx : Hp → Prop, (∀ H', Nx H' → ∃ m', m' < m ∧ W (i + 1) m' H') ∧ ∀ x H', J.yld i H x H' → g x (wipe σ vs) H' fun σ2 H2 => wipe σ2 vs = wipe σ vs ∧ tt σ2 H2 fun b H3 =>
    if b = true then wi1 σ2 H3 fun J1 H4 => ∃ W1 : Nat → Nat → Hp → Prop, (∃ m, W1 0 m H4) ∧ ∀ j k H, W1 j k H →
      (J1.stop j H ∧ Nx H) ∨ (J1.go j H ∧ ∃ Nx1 : Hp → Prop, (∀ H', Nx1 H' → ∃ k', k' < k ∧ W1 (j + 1) k' H') ∧ ∀ x H', J1.yld j H x H' → g1 x (wipe σ2 vs1) H' fun σ3 H5 => wipe σ3 vs1 = wipe σ2 vs1 ∧ tt1 σ3 H5 fun b H6 =>
        if b = true then te σ3 H6 fun y H7 => ∃ (z : Str) (l : List Str), y = .str z ∧ H7 D = some (SetSO P w D l) ∧ l.length + 1 < scanBound ∧ ∀ l', (∀ c, c ∈ l' ↔ c = z ∨ c ∈ l) → l'.length ≤ l.length + 1 → Nx1 (upd H7 D (SetSO P w D l')) else Nx1 H6)
    else Nx H3)
theorem sc2_core {pins : List (Addr × Obj)} {s : Shared} {σ : St} {H : Hp} {Q : VK} {elt tg iter tg1 iter1 : Expr} {ifs ifs1 : List Expr} {scope : Scope} {own : List (Str × Nat)} {vs1 : List Nat} {pos pos' : Pos} {wi wi1 : TI} {g g1 : TG} {tt tt1 : TT} {te : TE} {use : Option (Value → Sem Unit)} {Qf : Value → Shared → Prop}
    (hc : X.calm = true) (hN : X.N.Nodup) (I : Inv X pins σ H s) (hi : PI X tg iter wi) (ok : BlkOk X.N X.env.scope scope own) (hv : ∀ i ∈ vs1, i ∈ own.map (·.2))
    (hg : ∀ (s : Shared) (H : Hp) (C : Addr) (cl : List (Str × Addr)) (fp : List Addr), PG (X.blk s H scope (compEnvC scope cl C X.env) fp) tg g) (ht : ∀ (s : Shared) (H : Hp) (C : Addr) (cl : List (Str × Addr)) (fp : List Addr), PTs (X.blk s H scope (compEnvC scope cl C X.env) fp) ifs tt)
    (he : ∀ (s : Shared) (H : Hp) (C : Addr) (cl : List (Str × Addr)) (fp : List Addr), PE (X.blk s H scope (compEnvC scope cl C X.env) fp) elt te) (hs : ∀ x, foldedSetIterable iter X.env x = pure x)
    (hi1 : ∀ (s : Shared) (H : Hp) (C : Addr) (cl : List (Str × Addr)) (fp : List Addr), PI (X.blk s H scope (compEnvC scope cl C X.env) fp) tg1 iter1 wi1)
    (hg1 : ∀ (s : Shared) (H : Hp) (C : Addr) (cl : List (Str × Addr)) (fp : List Addr), PG (X.blk s H scope (compEnvC scope cl C X.env) fp) tg1 g1)
    (ht1 : ∀ (s : Shared) (H : Hp) (C : Addr) (cl : List (Str × Addr)) (fp : List Addr), PTs (X.blk s H scope (compEnvC scope cl C X.env) fp) ifs1 tt1)
    (hs1 : ∀ env x, foldedSetIterable iter1 env x = pure x)
    (h : tSc2 X.prog X.w wi g tt wi1 g1 tt1 te (own.map (·.2)) vs1 σ H Q)
    (hRR : ∀ D C s' m H', Inv X pins σ H' s' → Q (.ref D) H' → s'.heap.Ns C m → FpOk X pins H' C → compPost (model X.prog X.w) X.A X.xe use Qf (.ref D) C (.ok .next) s') :
    wpAny (model X.prog X.w) X.A (comprehension (Sc2 elt tg iter tg1 iter1 ifs ifs1 scope pos) scope X.env pos' (newSet (.type "set")) false (eval iter X.env) use) Qf X.xe s := by
  have hfree : ∀ y ∈ scope.names, y.2 = .free → ∃ c, X.env.cells.lookup y.1 = some c := fun y hy e => by
    rcases ok.free y hy e with k | k
    · exact I.ok.has _ (.inl k)
    · exact I.ok.has _ (.inr k)
  refine wpAny_comprehension_free (use := use) rfl hs (closure_ok hfree) ok.kind (fun y hy e => by rw [ok.uniq y hy, e])
    (thn (hi.run pins s σ H _ I h) fun xv s1 hx => thn hx fun itv s2 h2 => ?_)
  obtain ⟨it, fp, tn, J, H2, e, I2, T, st2, f2, q⟩ := h2
  subst e
  refine newSet_ok (newEnv_comp ?_)
  generalize hD : s2.heap.objs.size = D
  have hDn : H2 D = none := I2.hok.fresh (Nat.le_of_eq hD)
  obtain ⟨W, ⟨m0, w0⟩, turn⟩ := q D hDn
  generalize hs3 : ({ s2 with heap := s2.heap.push { cls := .type "set", dict := none, data := .set #[] 0 (.fresh 0 0 (!X.w.params.followText "set-order")) } } : Shared) = s3
  generalize hO : SetSO X.prog X.w D [] = O at w0
  have I3 : Inv X pins σ (upd H2 D O) s3 := by
    rw [← hs3, ← hO]
    refine I2.laid (t' := s2.toks) (fun b o e => Heap.get?_push_of_some _ e) (Nat.le_of_eq hD) ?_
    rw [← hD]
    exact setSO_new (setS_fresh X.prog X.w)
  have h3 : s3.heap = s2.heap.push { cls := .type "set", dict := none, data := .set #[] 0 (.fresh 0 0 (!X.w.params.followText "set-order")) } := by rw [← hs3]
  have sz : ∀ b ∈ fp, b < s2.heap.objs.size := fun b hb => by
    obtain ⟨o, e, _⟩ := T.obj _ _ st2 b hb
    exact Heap.lt_size e
  have f3 : ∀ b ∈ fp, FpOk X pins (upd H2 D O) b ∧ b < s3.heap.objs.size := fun b hb => by
    have hlt := sz b hb
    refine ⟨⟨?_, (f2 b hb).2⟩, by rw [h3, Heap.size_push]; exact Nat.lt_succ_of_lt hlt⟩
    rw [upd_ne (by rw [← hD]; exact Nat.ne_of_lt hlt)]
    exact (f2 b hb).1
  have st3 : tn 0 s3.heap := T.keep _ _ _ st2 fun b _ o e => by rw [h3]; exact Heap.get?_push_of_some _ e
  have I4 := block_start I3 ok hN f3
  generalize hcl : cellsFrom (s3.heap.objs.size + 1) scope.names (cloFrom X.env.cells scope.names []) = cl at I4
  have pg := hg s3 (upd H2 D O) s3.heap.objs.size cl fp
  have pt := ht s3 (upd H2 D O) s3.heap.objs.size cl fp
  have pe := he s3 (upd H2 D O) s3.heap.objs.size cl fp
  have pi1 := hi1 s3 (upd H2 D O) s3.heap.objs.size cl fp
  have pg1 := hg1 s3 (upd H2 D O) s3.heap.objs.size cl fp
  have pt1 := ht1 s3 (upd H2 D O) s3.heap.objs.size cl fp
  show codeAny _ _ (.compStart (Sc2 elt tg iter tg1 iter1 ifs ifs1 scope pos) 0 (.ref it) (.ref D) (compEnvC scope cl s3.heap.objs.size X.env)) (compPost (model X.prog X.w) X.A X.xe use Qf (.ref D) s3.heap.objs.size) { s3 with heap := pushCells (s3.heap.push { cls := .type "dict", data := .dict #[] }) scope.names }
  have nfp : ∀ b ∈ fp, (upd H2 D O) b = none := fun b hb => (f3 b hb).1.1
  generalize hce : compEnvC scope cl s3.heap.objs.size X.env = ce at I4 pg pt pe pi1 pg1 pt1 ⊢
  have cL : ce.locals = s3.heap.objs.size := by subst hce; rfl
  generalize hH3 : upd H2 D O = H3 at I3 I4 pg pt pe pi1 pg1 pt1 w0 nfp f3
  generalize hs4 : ({ s3 with heap := pushCells (s3.heap.push { cls := .type "dict", data := .dict #[] }) scope.names } : Shared) = s4 at I4 ⊢
  have st4 : tn 0 s4.heap := T.keep _ _ _ st3 fun b _ o e => by rw [← hs4]; exact pushCells_keeps _ _ _ _ (Heap.get?_push_of_some _ e)
  have stat : ∀ {σ' : St} {H' : Hp} {s' : Shared}, Inv (X.blk s3 H3 scope ce fp) [] σ' H' s' → (∀ b ∈ fp, H' b = none) → ∀ b ∈ fp, FpOk (X.blk s3 H3 scope ce fp) [] H' b := fun {σ' H' s'} I' hn b hb =>
    ⟨hn b hb, (I'.ok.exf b hb).1, I'.ok.exfs b hb, .inl hb, fun x c e => (I'.ok.exf b hb).2 x c e, fun p hp => absurd (show p ∈ ([] : List (Addr × Obj)) ++ [] from hp) (by simp)⟩
  have loop : codeAny (model X.prog X.w) X.A (.compLoop (Sc2 elt tg iter tg1 iter1 ifs ifs1 scope pos) 0 (.ref it) (.ref D) ce) (compPost (model X.prog X.w) X.A X.xe use Qf (.ref D) s3.heap.objs.size) s4 := by
    refine sc2_out (hs1 ce) (fun n s' => ∃ i H', Inv (X.blk s3 H3 scope ce fp) [] (wipe σ (own.map (·.2))) H' s' ∧ tn i s'.heap ∧ (∀ b ∈ fp, H' b = none) ∧ W i n H') ?_ m0 ⟨0, H3, I4, st4, nfp, w0⟩
    rintro n s5 ⟨i, H5, I5, st5, n5, w5⟩
    rcases turn i n H5 w5 with ⟨stop, qq⟩ | ⟨go, Nx, hNx, step⟩
    · refine thnF (T.done (X.blk s3 H3 scope ce fp) rfl rfl rfl hc i [] s5 _ H5 (fun _ _ => False) I5 (stat I5 n5) st5 stop) fun r s6 ⟨hr, I6⟩ => ?_
      subst hr
      have I7 : Inv X pins σ H5 s6 := I3.call' (ch := fp) I6.os I6.base I6.hok I6.bare fun b hb => ⟨(f3 b hb).1.2.2.2.1, (f3 b hb).1.2.1, (f3 b hb).1.2.2.2.2.1, (f3 b hb).1.2.2.2.2.2⟩
      have nC : H5 s3.heap.objs.size = none := by
        have z : H5 ce.locals = none := I6.free
        rw [cL] at z
        exact z
      obtain ⟨m, hn, _⟩ := I6.loc
      have hn : s6.heap.Ns ce.locals m := hn
      rw [cL] at hn
      exact hRR D s3.heap.objs.size s6 m H5 I7 qq hn (I3.fpOk (Nat.le_refl _) nC)
    · refine thnF (T.item (X.blk s3 H3 scope ce fp) rfl rfl rfl hc i [] s5 _ H5 (fun _ _ => False) I5 (stat I5 n5) st5 go) fun r s6 ⟨u, hr, h6⟩ => ?_
      subst hr
      refine thnF h6 fun _ s7 ⟨x, H7, I7, r7, y7, st7, n7⟩ => ?_
      have I7' := I7.pinned (stat I7 n7) (T.obj _ _ st7)
      refine thnF (pg.run _ s7 _ H7 x u _ I7' r7 (step x H7 y7)) fun _ s8 ⟨σ8, H8, I8, hw8, q8⟩ => ?_
      refine thnF (pt.run _ s8 σ8 H8 _ I8 q8) fun b s9 ⟨H9, I9, q9⟩ => ?_
      have fin : ∀ {σ9 : St} {s' : Shared} {H' : Hp}, Inv (X.blk s3 H3 scope ce fp) ([] ++ pinsAt fp s7.heap) σ9 H' s' → (wipe σ (own.map (·.2))).length = σ9.length → (∀ (j : Nat) v, (wipe σ (own.map (·.2)))[j]? = some (some v) → σ9[j]? = some (some v)) → Nx H' →
          ∃ m, m < n ∧ ∃ i H', Inv (X.blk s3 H3 scope ce fp) [] (wipe σ (own.map (·.2))) H' s' ∧ tn i s'.heap ∧ (∀ b ∈ fp, H' b = none) ∧ W i m H' := fun {σ9 s' H'} I' hl hk nx => by
        obtain ⟨m', hm, w'⟩ := hNx H' nx
        have pin' : ∀ b ∈ fp, ∀ o, s7.heap.get? b = some o → s'.heap.get? b = some o ∧ H' b = none := fun b hb o e =>
          let z := I'.pin (b, o) (List.mem_append_right _ (List.mem_append_right _ (mem_pinsAt hb e)))
          ⟨z.1, z.2.1⟩
        refine ⟨m', hm, i + 1, H', (I'.unpinned (pins := [])).weak hl hk, T.keep _ _ _ st7 fun b hb o e => (pin' b hb o e).1, fun b hb => ?_, w'⟩
        obtain ⟨o, e, _⟩ := T.obj _ _ st7 b hb
        exact (pin' b hb o e).2
      have hl8 : (wipe σ (own.map (·.2))).length = σ8.length := by rw [← hw8, wipe_length]
      have hk8 : ∀ (j : Nat) v, (wipe σ (own.map (·.2)))[j]? = some (some v) → σ8[j]? = some (some v) := fun j v e => by
        rw [← hw8] at e
        exact (wipe_some e).1
      have hk9 : ∀ (j : Nat) v, (wipe σ (own.map (·.2)))[j]? = some (some v) → (wipe σ8 vs1)[j]? = some (some v) := fun j v e => by
        rw [← hw8] at e
        obtain ⟨e1, e2⟩ := wipe_some e
        rw [wipe_out fun z => e2 (hv j z)]
        exact e1
      cases b with
      | false =>
        simp only [Bool.false_eq_true, if_false] at q9 ⊢
        exact fin I9 hl8 hk8 q9
      | true =>
        simp only [if_true] at q9 ⊢
        refine thnF (pi1.run _ s9 σ8 H9 _ I9 q9) fun xv s10 hx => thnF hx fun itv s11 h11 => ?_
        obtain ⟨it1, fp1, tn1, J1, H11, e1, I11, T1, st11, f11, W1, ⟨m1, w1⟩, turn1⟩ := h11
        subst e1
        have stat1 : ∀ {H' : Hp}, (∀ b ∈ fp1, H' b = none) → ∀ b ∈ fp1, FpOk (X.blk s3 H3 scope ce fp) ([] ++ pinsAt fp s7.heap) H' b := fun hn b hb => ⟨hn b hb, (f11 b hb).2⟩
        have loop1 : codeAny (model X.prog X.w) X.A (.compLoop (Sc2 elt tg iter tg1 iter1 ifs ifs1 scope pos) 1 (.ref it1) (.ref D) ce)
            (fun r s' => match r with
              | .ok _ => ∃ m, m < n ∧ ∃ i H', Inv (X.blk s3 H3 scope ce fp) [] (wipe σ (own.map (·.2))) H' s' ∧ tn i s'.heap ∧ (∀ b ∈ fp, H' b = none) ∧ W i m H'
              | .error _ => False) s11 := by
          refine sc2_in (fun k s' => ∃ j H', Inv (X.blk s3 H3 scope ce fp) ([] ++ pinsAt fp s7.heap) (wipe σ8 vs1) H' s' ∧ tn1 j s'.heap ∧ (∀ b ∈ fp1, H' b = none) ∧ W1 j k H') ?_ m1 ⟨0, H11, I11.weak (wipe_length _ _) (fun j v e => (wipe_some e).1), st11, fun b hb => (f11 b hb).1, w1⟩
          rintro k s12 ⟨j, H12, I12, st12, n12, w12⟩
          rcases turn1 j k H12 w12 with ⟨stop1, nx1⟩ | ⟨go1, Nx1, hNx1, step1⟩
          · refine thnF (T1.done (X.blk s3 H3 scope ce fp) rfl rfl rfl hc j _ s12 (wipe σ8 vs1) H12 (fun _ _ => False) I12 (stat1 n12) st12 stop1) fun r s13 ⟨hr, I13⟩ => ?_
            subst hr
            exact fin I13 (hl8.trans (wipe_length σ8 vs1).symm) hk9 nx1
          · refine thnF (T1.item (X.blk s3 H3 scope ce fp) rfl rfl rfl hc j _ s12 (wipe σ8 vs1) H12 (fun _ _ => False) I12 (stat1 n12) st12 go1) fun r s13 ⟨u1, hr, h13⟩ => ?_
            subst hr
            refine thnF h13 fun _ s14 ⟨x1, H14, I14, r14, y14, st14, n14⟩ => ?_
            have I14' := I14.pinned (stat1 n14) (T1.obj _ _ st14)
            refine thnF (pg1.run _ s14 (wipe σ8 vs1) H14 x1 u1 _ I14' r14 (step1 x1 H14 y14)) fun _ s15 ⟨σ15, H15, I15, hw15, q15⟩ => ?_
            refine thnF (pt1.run _ s15 σ15 H15 _ I15 q15) fun b1 s16 ⟨H16, I16, q16⟩ => ?_
            have fin1 : ∀ {s' : Shared} {H' : Hp}, Inv (X.blk s3 H3 scope ce fp) (([] ++ pinsAt fp s7.heap) ++ pinsAt fp1 s14.heap) σ15 H' s' → Nx1 H' → ∃ m, m < k ∧ ∃ j H', Inv (X.blk s3 H3 scope ce fp) ([] ++ pinsAt fp s7.heap) (wipe σ8 vs1) H' s' ∧ tn1 j s'.heap ∧ (∀ b ∈ fp1, H' b = none) ∧ W1 j m H' := fun {s' H'} I' nx => by
              obtain ⟨m', hm, w'⟩ := hNx1 H' nx
              have pin' : ∀ b ∈ fp1, ∀ o, s14.heap.get? b = some o → s'.heap.get? b = some o ∧ H' b = none := fun b hb o e =>
                let z := I'.pin (b, o) (List.mem_append_right _ (List.mem_append_right _ (mem_pinsAt hb e)))
                ⟨z.1, z.2.1⟩
              refine ⟨m', hm, j + 1, H', I'.unpinned.weak (by rw [← hw15, wipe_length]) (fun j v e => by rw [← hw15] at e; exact (wipe_some e).1), T1.keep _ _ _ st14 fun b hb o e => (pin' b hb o e).1, fun b hb => ?_, w'⟩
              obtain ⟨o, e, _⟩ := T1.obj _ _ st14 b hb
              exact (pin' b hb o e).2
            cases b1 with
            | false =>
              simp only [Bool.false_eq_true, if_false] at q16 ⊢
              exact fin1 I16 q16
            | true =>
              simp only [if_true] at q16 ⊢
              refine thnF (pe.run _ s16 σ15 H16 _ I16 q16) fun z s17 ⟨yv, H17, I17, r17, zt, l0, ey, hD17, hz17, nx⟩ => ?_
              subst ey
              obtain ⟨tz, rfl⟩ := r17
              exact addS_ok (X := X.blk s3 H3 scope ce fp) I17 hD17 hz17 fun s18 l' m1 m2 I18 => fin1 I18 (nx l' m1 m2)
        exact sc2_start loop1 (T1.self X.A 0 _ _ _ st11 loop1)
  exact codeAny_compStart_set loop (T.self X.A 0 _ _ _ st4 loop)
theorem pe_sc2 {elt tg iter tg1 iter1 : Expr} {ifs ifs1 : List Expr} {scope : Scope} {own : List (Str × Nat)} {vs1 : List Nat} {pos : Pos} {wi wi1 : TI} {g g1 : TG} {tt tt1 : TT} {te : TE} (hc : X.calm = true) (hN : X.N.Nodup) (hi : PI X tg iter wi) (ok : BlkOk X.N X.env.scope scope own) (hv : ∀ i ∈ vs1, i ∈ own.map (·.2))
    (hg : ∀ (s : Shared) (H : Hp) (C : Addr) (cl : List (Str × Addr)) (fp : List Addr), PG (X.blk s H scope (compEnvC scope cl C X.env) fp) tg g) (ht : ∀ (s : Shared) (H : Hp) (C : Addr) (cl : List (Str × Addr)) (fp : List Addr), PTs (X.blk s H scope (compEnvC scope cl C X.env) fp) ifs tt)
    (hi1 : ∀ (s : Shared) (H : Hp) (C : Addr) (cl : List (Str × Addr)) (fp : List Addr), PI (X.blk s H scope (compEnvC scope cl C X.env) fp) tg1 iter1 wi1)
    (hg1 : ∀ (s : Shared) (H : Hp) (C : Addr) (cl : List (Str × Addr)) (fp : List Addr), PG (X.blk s H scope (compEnvC scope cl C X.env) fp) tg1 g1) (ht1 : ∀ (s : Shared) (H : Hp) (C : Addr) (cl : List (Str × Addr)) (fp : List Addr), PTs (X.blk s H scope (compEnvC scope cl C X.env) fp) ifs1 tt1)
    (he : ∀ (s : Shared) (H : Hp) (C : Addr) (cl : List (Str × Addr)) (fp : List Addr), PE (X.blk s H scope (compEnvC scope cl C X.env) fp) elt te) (hs : ∀ x, foldedSetIterable iter X.env x = pure x := by intro _; rfl) (hs1 : ∀ env x, foldedSetIterable iter1 env x = pure x := by intro _ _; rfl) :
    PE X (Sc2 elt tg iter tg1 iter1 ifs ifs1 scope pos) (tSc2 X.prog X.w wi g tt wi1 g1 tt1 te (own.map (·.2)) vs1) := by
  refine ⟨fun pins s σ H Q I h => ?_⟩
  rw [eval_SetComp]
  refine sc2_core hc hN I hi ok hv hg ht he hs hi1 hg1 ht1 hs1 h fun D C s' m H' I' q hn f => ⟨m, hn, fun h'' sb => ?_⟩
  obtain ⟨f0, f1, f2, f3, f4, f5⟩ := f
  exact ⟨.ref D, H', I'.turned (t' := s'.toks) (fun b o hb e => (sb.2 b hb).trans e) f0 f1 f3 f4 f5, rfl, q⟩
end
end L2
end
section
set_option Elab.async false
set_option linter.all false
set_option maxRecDepth 100000
set_option maxHeartbeats 2000000
namespace L2
open PySem PySem.Spec PyProof.Rows
/-- n turns, whatever the body asks -/
theorem walk_W {J : It} {n : Nat} {G : Hp → Prop} {Y : Nat → Hp → V → Hp → Prop} (w : Walk J n G Y) {B : (Hp → Prop) → V → Hp → Prop} {H0 : Hp} {Qd : Hp → Prop} (Pv : Nat → Hp → Prop) (h0 : Pv 0 H0) (hG : ∀ i H, i ≤ n → Pv i H → G H)
    (hs : ∀ i x H H', i < n → Pv i H → Y i H x H' → B (Pv (i + 1)) x H') (hd : ∀ H, Pv n H → Qd H) :
    ∃ W : Nat → Nat → Hp → Prop, (∃ m, W 0 m H0) ∧ ∀ i m H, W i m H →
      (J.stop i H ∧ Qd H) ∨ (J.go i H ∧ ∃ Nx : Hp → Prop, (∀ H', Nx H' → ∃ m', m' < m ∧ W (i + 1) m' H') ∧ ∀ x H', J.yld i H x H' → B Nx x H') := by
  refine ⟨fun i m H => m = n - i ∧ i ≤ n ∧ Pv i H, ⟨n, by simp, Nat.zero_le _, h0⟩, ?_⟩
  rintro i m H ⟨rfl, hi, p⟩
  have q := hG i H hi p
  by_cases hlt : i < n
  · exact .inr ⟨w.goes i H hlt q, Pv (i + 1), fun H' p' => ⟨n - (i + 1), by omega, rfl, hlt, p'⟩, fun x H' y => hs i x H H' hlt p (w.yields i H x H' hlt q y)⟩
  · have e : i = n := by omega
    subst e
    exact .inl ⟨w.stops H q, hd H p⟩
theorem walk_zipT {K : PySem.W.Frag} {a b : Addr} {xs ys : List V} {n : Nat} (hn : n = min xs.length ys.length) : Walk (RZ.ItzT K a b) n (fun H => SqT K H a xs ∧ SqT K H b ys) (YPair (fun i => xs[i]?) (fun i => ys[i]?)) := by
  subst hn
  refine ⟨fun i _ hi q => ?_, fun _ q => ⟨xs, ys, q.1, q.2, by omega⟩, fun i H v H' _ q y => ?_⟩
  · have h1 : i < xs.length := by omega
    have h2 : i < ys.length := by omega
    exact ⟨xs, ys, xs[i], ys[i], q.1, q.2, by simp [h1], by simp [h2]⟩
  · obtain ⟨T, x, z, h1, h2, h3, h4, h5⟩ := y
    exact ⟨T, x, z, h1, h2, h3, h4 xs q.1, h5 ys q.2⟩
end L2
namespace Ah
open PySem PySem.Spec PyProof.Rows L2
/-! ### told_of -/
def toldW (place : Str) : List Str → List Str
  | h :: rest => (match formsL.lookup h with
    | some ps => ((rest.zip ps).filter fun (z : Str × Str) => decide (z.2 = place)).map (fun (z : Str × Str) => z.1)
    | none => [])
  | [] => []
theorem Rw.form (r : Rw) : ∃ h rest ps, r.ws = h :: rest ∧ formsL.lookup h = some ps ∧ rest.length = ps.length ∧ rest.length ≤ 3 := by
  cases r <;> exact ⟨_, _, _, rfl, (by rfl), (by rfl), Nat.le_of_ble_eq_true rfl⟩
theorem toldW_of {place h : Str} {rest ps : List Str} (e : formsL.lookup h = some ps) : toldW place (h :: rest) = ((rest.zip ps).filter fun (z : Str × Str) => decide (z.2 = place)).map (fun (z : Str × Str) => z.1) := by
  show (match formsL.lookup h with
    | some ps => ((rest.zip ps).filter fun (z : Str × Str) => decide (z.2 = place)).map (fun (z : Str × Str) => z.1)
    | none => []) = _
  rw [e]
theorem mem_take_succ {α : Type} {l : List α} {i : Nat} {x y : α} (e : l[i]? = some x) : y ∈ l.take (i + 1) ↔ y ∈ l.take i ∨ y = x := by
  rw [List.take_add_one, e, List.mem_append]
  simp
theorem kD_far {H H' : Hp} {D : Addr} {o : HO} (n : H D = none) (k : Kept [] H H') : Kept [] H (upd H' D o) := Kept.far (Kept.refl H) n k
theorem scTd : FnScope ["rows", "place", "row", "word", "at"] ["rows", "place"] (defScope sToldOf) := ⟨rfl, rfl, rfl, by decide +kernel, rfl, by decide +kernel, by decide +kernel⟩
def spTold : Sp := fun vs H Q _ => ∃ (q : Addr) (rs : List Rw) (place : Str), vs = [.ref q, .str place] ∧ TextAt H q rs ∧ rs.length ≤ 1000 ∧
  ∀ (p : Addr) (bs : List Str) (H' : Hp), Kept [] H H' → H p = none → H' p = some (.lst ((bs.mergeSort leS).map V.str)) → (∀ z, z ∈ bs ↔ ∃ r ∈ rs, z ∈ toldW place (Rw.ws r)) → bs.length ≤ 3 * rs.length → Q (.ref p) H'
section
variable {P : Program} {w : World} {K : PySem.W.Frag} {mg : Str → Option Value} {base : Heap} {f d : Addr} {fd : FuncData}
theorem ok_told (F : FnP K "told_of" sToldOf f fd) (D : TF K w mg d) (B : Bl mg) : FnOk P w K mg base CX0 1 f fd ["rows", "place"] spTold := by
  refine F.ok scTd (fun vs H Q E h => ?_) (fun cdv A outer s H vs Q E hr h => ?_)
  · obtain ⟨q, rs, place, rfl, _⟩ := h
    rfl
  · obtain ⟨q, rs, place, rfl, tx, hl, k⟩ := h
    obtain ⟨es, nn, kd⟩ := D.kd
    refine ⟨_, PSs.nox (pss_one (ps_ret (pe_callB (cr_sortSetS rfl hr.units) (by rfl) B.sorted_ (by decide +kernel) (pa_cons
      (pe_sc2 (own := [("row", 2), ("word", 3), ("at", 4)]) (vs1 := [3, 4]) (tt := tYes) rfl scTd.nd (pi_tup (pv 0)) (blkOk_by (N := ["rows", "place", "row", "word", "at"]) (sc := defScope sToldOf) (by decide +kernel)) (by decide)
        (fun _ _ _ _ _ => pg_name (i := 2) scTd.nd rfl (Or.inl rfl)) (fun _ _ _ _ _ => pts_nil)
        (fun _ _ _ _ _ => show PI _ _ _ (RZ.iZipA K _) from RZ.pi_zipA (by rfl) B.zip_ (pa_cons (pe_slice (show SlR _ (rSlT K) from sl_tup) (pv 2) (po_some pe_int) po_none) (pa_cons (pe_ix (show IxR _ (rIxD K w) from ix_kdict) (pe_glob (v := .ref d) (by rfl) D.at_ rfl) (pe_ix (show IxR _ (rIxT K) from ix_tup) (pv 2) pe_int (fun _ _ => rfl)) (fun _ _ => rfl)) pa_nil)))
        (fun _ _ _ _ _ => show PG _ _ (gTup K 2 _) from pg_tup rfl (pgs_cons (pg_name (i := 3) scTd.nd rfl (Or.inl rfl)) (pgs_cons (pg_name (i := 4) scTd.nd rfl (Or.inl rfl)) pgs_nil)))
        (fun _ _ _ _ _ => pts_one (pt_cmpR op_eq (pv 4) (pv 1) (nomark _)))
        (fun _ _ _ _ _ => pv 3)) pa_nil)))), ?_⟩
    obtain ⟨ps, hq, hps⟩ := tx
    refine ⟨_, rfl, q, rfl, ⟨_, .inl (.of hq)⟩, fun Dz nD => ?_⟩
    have kD : Kept [] H (upd H Dz (SetSO P w Dz [])) := (Kept.refl H).upd nD
    have fin : ∀ {Ha : Hp} {l : List Str}, Kept [] H Ha → Ha Dz = some (SetSO P w Dz l) → (∀ z, z ∈ l ↔ ∃ r ∈ rs, z ∈ toldW place (Rw.ws r)) → l.length ≤ 3 * rs.length →
        ∀ (p : Addr) (bs : List Str), Ha p = none → (∀ z, z ∈ bs ↔ z ∈ l) → bs.length = l.length → Q (.ref p) (upd Ha p (.lst ((bs.mergeSort leS).map V.str))) := fun kk _ hm hz p bs np hb hbl => by
      refine k p bs _ (kk.upd np) ?_ upd_same (fun z => (hb z).trans (hm z)) (by omega)
      cases e : H p with
      | none => rfl
      | some o =>
        rw [kk p o e (by simp)] at np
        cases np
    have tq : ∀ {Ha : Hp}, Kept [] H Ha → SqT K Ha q (ps.map V.ref) := fun kk => .inl (.of (kk _ _ hq (by simp)))
    refine walk_W (walk_tup (K := K) (a := q) (xs := ps.map V.ref)) (fun i Ha => ∃ l, Ha Dz = some (SetSO P w Dz l) ∧ (∀ z, z ∈ l ↔ ∃ r ∈ rs.take i, z ∈ toldW place (Rw.ws r)) ∧ l.length ≤ 3 * i ∧ Kept [] H Ha)
      ⟨[], upd_same, (fun z => by simp), by simp, kD⟩ (fun i Ha _ pv => tq pv.choose_spec.2.2.2) ?_ ?_
    · rintro i x Ha0 Ha hi ⟨l, e1, hm, hz, kk⟩ ⟨rfl, ey⟩
      refine ⟨rfl, yes_if ?_⟩
      rw [List.getElem?_map] at ey
      obtain ⟨pr, epr, rfl⟩ := Option.map_eq_some_iff.mp ey
      obtain ⟨r, er, hr1⟩ := paired_at hps epr
      obtain ⟨hd, rest, fs, ew, ef, el1, el2⟩ := Rw.form r
      obtain ⟨ap, ea1, ea2⟩ := D.val hd fs ef
      have hpr : Ha pr = some (.tup (.str hd :: rest.map V.str)) := by
        have q := kk _ _ hr1 (by simp)
        rw [ew] at q
        exact q
      have sx : SqT K Ha pr (.str hd :: rest.map V.str) := .inl (.of hpr)
      refine ⟨_, rfl, 1, rfl, pr, _, rfl, sx, fun q => ?_, fun p np => ?_⟩
      · have h1 : HT.sIx (V.str hd :: rest.map V.str).length 0 (some 1) = 1 := by
          rw [show (1 : Int) = ((1 : Nat) : Int) from rfl, HT.sIx_nat, List.length_cons]
          omega
        have h2 := q.1
        rw [h1] at h2
        cases h2
      · rw [cut_tail]
        have k1 : Kept [] H (upd Ha p (.tup (rest.map V.str))) := kk.upd np
        have ndp : Dz ≠ p := ne_of_none e1 np
        refine ⟨_, rfl, pr, _, 0, .str hd, rfl, rfl, .inl (.of (by rw [upd_ne (ne_of_none hpr np)]; exact hpr)), at_of (j := 0) rfl rfl, d, hd, .ref ap, rfl, rfl, ⟨es, nn, _, kd.at_, kd.lit, ea1, rfl⟩, ?_⟩
        refine ⟨p, ap, rest.map V.str, fs.map V.str, rfl, .inr ⟨.inl (.of upd_same), ea2 _, ?_⟩⟩
        have lens : (rest.map V.str).length = rest.length ∧ (fs.map V.str).length = rest.length := ⟨List.length_map .., by rw [List.length_map, el1]⟩
        refine walk_W (walk_zipT (K := K) (a := p) (b := ap) (xs := rest.map V.str) (ys := fs.map V.str) (n := rest.length) (by omega))
          (fun j Hc => ∃ l', Hc Dz = some (SetSO P w Dz l') ∧ (∀ z, z ∈ l' ↔ z ∈ l ∨ z ∈ (((rest.zip fs).take j).filter fun (z : Str × Str) => decide (z.2 = place)).map fun (z : Str × Str) => z.1) ∧ l'.length ≤ l.length + j ∧ Kept [] H Hc ∧ Hc p = some (.tup (rest.map V.str)))
          ⟨l, by rw [upd_ne ndp]; exact e1, (fun z => by simp), by simp, k1, upd_same⟩ (fun j Hc _ pv => ⟨.inl (.of pv.choose_spec.2.2.2.2), ea2 _⟩) ?_ ?_
        · rintro j x Hc Hc' hj ⟨l', e2, hm2, hz2, kk2, ep2⟩ ⟨Tp, x1, x2, rfl, nT, rfl, g1, g2⟩
          dsimp only at g1 g2
          rw [List.getElem?_map] at g1 g2
          obtain ⟨a1, ga1, rfl⟩ := Option.map_eq_some_iff.mp g1
          obtain ⟨a2, ga2, rfl⟩ := Option.map_eq_some_iff.mp g2
          have ez : (rest.zip fs)[j]? = some (a1, a2) := List.getElem?_zip_eq_some.mpr ⟨ga1, ga2⟩
          have nd2 : Dz ≠ Tp := ne_of_none e2 nT
          refine ⟨Tp, _, rfl, .inl (.of upd_same), rfl, _, _, rfl, _, _, rfl, rfl, rfl, ?_⟩
          refine ⟨_, rfl, _, rfl, rfl, ?_⟩
          have k3 : Kept [] H (upd Hc Tp (.tup [.str a1, .str a2])) := kk2.upd nT
          by_cases hp : a2 = place
          · rw [decide_eq_true (by rw [hp])]
            refine ⟨true, rfl, iteT ⟨_, rfl, a1, l', rfl, (by rw [upd_ne nd2]; exact e2), ?_, fun l'' m1 m2 => ⟨l'', upd_same, fun z => ?_, by omega, kD_far nD k3, ?_⟩⟩⟩
            · exact Nat.lt_of_le_of_lt (show l'.length + 1 ≤ 4000 by
                have el : ps.length = rs.length := hps.length
                rw [List.length_map] at hi
                omega) (by decide)
            · rw [m1 z, hm2 z, List.take_add_one, ez]
              simp [hp, or_assoc, or_comm, or_left_comm]
            · rw [upd_ne (ne_of ep2 e2 (fun q => nomatch q)), upd_ne (ne_of_none ep2 nT)]
              exact ep2
          · rw [decide_eq_false (by intro q; exact hp (V.str.inj q))]
            refine ⟨false, rfl, iteF ⟨l', (by rw [upd_ne nd2]; exact e2), fun z => ?_, by omega, k3, ?_⟩⟩
            · rw [hm2 z, List.take_add_one, ez]
              simp [hp]
            · rw [upd_ne (ne_of_none ep2 nT)]
              exact ep2
        · rintro Hc ⟨l', e2, hm2, hz2, kk2, ep2⟩
          have et : (rest.zip fs).take rest.length = rest.zip fs := List.take_of_length_le (by rw [List.length_zip]; omega)
          rw [et] at hm2
          refine ⟨l', e2, fun z => ?_, by omega, kk2⟩
          rw [hm2, hm z]
          have et2 : toldW place (Rw.ws r) = ((rest.zip fs).filter fun (z : Str × Str) => decide (z.2 = place)).map fun (z : Str × Str) => z.1 := by
            rw [ew]
            exact toldW_of ef
          constructor
          · rintro (⟨r', hr', hz'⟩ | hz')
            · exact ⟨r', (mem_take_succ er).mpr (.inl hr'), hz'⟩
            · exact ⟨r, (mem_take_succ er).mpr (.inr rfl), by rw [et2]; exact hz'⟩
          · rintro ⟨r', hr', hz'⟩
            rcases (mem_take_succ er).mp hr' with q | q
            · exact .inl ⟨r', q, hz'⟩
            · right
              rw [q, et2] at hz'
              exact hz'
    · rintro Ha ⟨l, e1, hm, hz, kk⟩
      rw [List.length_map] at hm hz
      have el : ps.length = rs.length := hps.length
      rw [el, List.take_of_length_le (Nat.le_refl _)] at hm
      exact ⟨Dz, l, rfl, e1, fun p bs np hb hbl => fin kk e1 hm (by omega) p bs np hb hbl⟩
end
end Ah
end
section
set_option Elab.async false
set_option linter.all false
set_option maxRecDepth 100000
set_option maxHeartbeats 2000000
namespace Ah
open PySem PySem.Spec PyProof.Rows L2
/-! ### sayings and leads as data -/
inductive Say where
  | is (n k : Str) | has (n t m : Str) | clash
  deriving DecidableEq
def Say.ws : Say → List Str
  | .is n k => ["is", n, k] | .has n t m => ["has", n, t, m] | .clash => ["clash"]
theorem Say.inj {s t : Say} (h : s.ws = t.ws) : s = t := by
  cases s <;> cases t <;> simp [Say.ws] at h <;> first | rfl | (simp [h]) | (exact absurd h (by decide))
abbrev Lead := Say × Option Say × Say
def okW (ws : List Str) : Prop := ws.all PyData.strOk = true
/-- tuples, and what is known, stay -/
structure TK (H H' : Hp) : Prop where
  tup : ∀ b xs, H b = some (.tup xs) → H' b = some (.tup xs)
  frz : ∀ b o u, H b = some (.frz o u) → H' b = some (.frz o u)
theorem TK.refl (H : Hp) : TK H H := ⟨fun _ _ e => e, fun _ _ _ e => e⟩
theorem TK.trans {H H1 H2 : Hp} (a : TK H H1) (b : TK H1 H2) : TK H H2 := ⟨fun p x e => b.tup p x (a.tup p x e), fun p o u e => b.frz p o u (a.frz p o u e)⟩
theorem TK.of {H H' : Hp} (k : Kept [] H H') : TK H H' := ⟨fun b x e => k b _ e (by simp), fun b o u e => k b _ e (by simp)⟩
/-- what is neither a tuple nor known may be written -/
theorem TK.upd {H H' : Hp} {D : Addr} {u o : HO} (k : TK H H') (h : H' D = some u) (h1 : ∀ xs, u ≠ .tup xs) (h2 : ∀ o v, u ≠ .frz o v) : TK H (L2.upd H' D o) :=
  ⟨fun b x e => by
    have q := k.tup b x e
    rw [upd_ne (ne_of q h (fun z => h1 x z.symm))]
    exact q, fun b ob v e => by
    have q := k.frz b ob v e
    rw [upd_ne (ne_of q h (fun z => h2 ob v z.symm))]
    exact q⟩
theorem TK.updL {H H' : Hp} {D : Addr} {xs : List V} {o : HO} (k : TK H H') (h : H' D = some (.lst xs)) : TK H (L2.upd H' D o) := k.upd h (fun _ z => nomatch z) fun _ _ z => nomatch z
theorem TK.new {H H' : Hp} {D : Addr} {o : HO} (k : TK H H') (n : H' D = none) : TK H (L2.upd H' D o) :=
  ⟨fun b x e => by
    have q := k.tup b x e
    rw [upd_ne (ne_of_none q n)]
    exact q, fun b ob v e => by
    have q := k.frz b ob v e
    rw [upd_ne (ne_of_none q n)]
    exact q⟩
section
variable {K : PySem.W.Frag} {H H' : Hp} {a b : Addr} {xs ys : List V}
theorem sqT_tk (k : TK H H') (h : SqT K H a xs) : SqT K H' a xs := by
  rcases h with (h | ⟨o, h⟩) | h
  · exact .inl (.inl (k.tup _ _ h))
  · exact .inl (.inr ⟨o, k.frz _ _ _ h⟩)
  · exact .inr h
theorem sqL_kept (k : Kept [] H H') (h : SqL K H a xs) : SqL K H' a xs := by
  rcases h with (h | ⟨o, h⟩) | h
  · exact .inl (.inl (k _ _ h (by simp)))
  · exact .inl (.inr ⟨o, k _ _ h (by simp)⟩)
  · exact .inr h
end
def SayAt (K : PySem.W.Frag) (H : Hp) (v : V) (s : Say) : Prop := ∃ a, v = .ref a ∧ SqT K H a (s.ws.map V.str)
def OSayAt (K : PySem.W.Frag) (H : Hp) (v : V) : Option Say → Prop
  | none => v = .non
  | some s => SayAt K H v s
def LeadAt (K : PySem.W.Frag) (H : Hp) (v : V) (l : Lead) : Prop := ∃ q v1 v2 v3, v = .ref q ∧ H q = some (.tup [v1, v2, v3]) ∧ SayAt K H v1 l.1 ∧ OSayAt K H v2 l.2.1 ∧ SayAt K H v3 l.2.2
def LeadsAt (K : PySem.W.Frag) (H : Hp) (p : Addr) (ls : List Lead) : Prop := ∃ vs, H p = some (.lst vs) ∧ Paired (LeadAt K H) vs ls
section
variable {K : PySem.W.Frag} {H H' : Hp} {v : V}
theorem SayAt.tk {s : Say} (k : TK H H') (h : SayAt K H v s) : SayAt K H' v s := let ⟨a, e, q⟩ := h; ⟨a, e, sqT_tk k q⟩
theorem OSayAt.tk {s : Option Say} (k : TK H H') (h : OSayAt K H v s) : OSayAt K H' v s := by
  cases s with
  | none => exact h
  | some s => exact SayAt.tk k h
theorem LeadAt.tk {l : Lead} (k : TK H H') (h : LeadAt K H v l) : LeadAt K H' v l := by
  obtain ⟨q, v1, v2, v3, e, h1, h2, h3, h4⟩ := h
  exact ⟨q, v1, v2, v3, e, k.tup _ _ h1, h2.tk k, h3.tk k, h4.tk k⟩
theorem LeadsAt.kept {p : Addr} {ls : List Lead} (k : Kept [] H H') (h : LeadsAt K H p ls) : LeadsAt K H' p ls := by
  obtain ⟨vs, h1, h2⟩ := h
  exact ⟨vs, k _ _ h1 (by simp), Paired.mapP h2 fun _ _ q => q.tk (.of k)⟩
end
/-! ### tuples of texts are compared -/
theorem dpStrs {K : PySem.W.Frag} {H : Hp} : ∀ ws : List Str, DpAll K H (ws.map V.str) (ws.map PyData.str)
  | [] => .nil
  | w :: ws => .cons (.str w) (dpStrs ws)
theorem eqvStrs : ∀ xs ys : List Str, PyData.eqvAll (xs.map PyData.str) (ys.map PyData.str) = decide (xs = ys)
  | [], [] => by simp [PyData.eqvAll]
  | [], _ :: _ => by simp [PyData.eqvAll]
  | _ :: _, [] => by simp [PyData.eqvAll]
  | x :: xs, y :: ys => by
    rw [List.map_cons, List.map_cons, PyData.eqvAll, eqvStrs xs ys]
    by_cases h : x = y <;> by_cases h2 : xs = ys <;> simp [PyData.eqv, h, h2]
theorem shapedStrs {ws : List Str} (h : okW ws) : SeqAt.shaped (.tuple (ws.map PyData.str)) = true := by
  have h1 : ∀ l : List Str, l.all PyData.strOk = true → PyData.canLayAll0 (l.map PyData.str) = true := by
    intro l
    induction l with
    | nil => intro _; simp [PyData.canLayAll0]
    | cons w l ih =>
      intro h
      rw [List.all_cons, Bool.and_eq_true] at h
      rw [List.map_cons, PyData.canLayAll0, ih h.2, PyData.canLay0, h.1]
      rfl
  have h2 : ∀ l : List Str, PyData.depthAll (l.map PyData.str) = 0 := by
    intro l
    induction l with
    | nil => simp [PyData.depthAll]
    | cons w l ih => simp [PyData.depthAll, PyData.depth, ih]
  unfold SeqAt.shaped
  rw [PyData.canLay0, h1 ws h, PyData.depth, h2]
  rfl
section
variable {K : PySem.W.Frag} {H : Hp} {Q : VK}
theorem rd_eqW {a b : Addr} {xs ys : List Str} (ha : SqT K H a (xs.map V.str)) (hb : SqT K H b (ys.map V.str)) (ox : okW xs) (oy : okW ys) (q : Q (.bl (decide (xs = ys))) H) : rEqD K (.ref a) (.ref b) H Q := by
  refine ⟨_, _, .tup ha (dpStrs xs), .tup hb (dpStrs ys), shapedStrs ox, shapedStrs oy, ?_⟩
  rw [PyData.eqv, eqvStrs]
  exact q
theorem rd_neW {a b : Addr} {xs ys : List Str} (ha : SqT K H a (xs.map V.str)) (hb : SqT K H b (ys.map V.str)) (ox : okW xs) (oy : okW ys) (q : Q (.bl (!decide (xs = ys))) H) : rNeD K (.ref a) (.ref b) H Q := by
  refine ⟨_, _, .tup ha (dpStrs xs), .tup hb (dpStrs ys), shapedStrs ox, shapedStrs oy, ?_⟩
  rw [PyData.eqv, eqvStrs]
  exact q
theorem say_dec (s t : Say) : decide (s.ws = t.ws) = decide (s = t) := by
  by_cases h : s = t
  · rw [decide_eq_true h, decide_eq_true (by rw [h])]
  · rw [decide_eq_false h, decide_eq_false fun z => h (Say.inj z)]
theorem rd_eqS {v u : V} {s t : Say} (hv : SayAt K H v s) (hu : SayAt K H u t) (os : okW s.ws) (ot : okW t.ws) (q : Q (.bl (decide (s = t))) H) : rEqD K v u H Q := by
  obtain ⟨a, rfl, ha⟩ := hv
  obtain ⟨b, rfl, hb⟩ := hu
  refine rd_eqW ha hb os ot ?_
  rw [say_dec]
  exact q
theorem rd_neS {v u : V} {s : Say} {t : Option Say} (hv : SayAt K H v s) (hu : OSayAt K H u t) (os : okW s.ws) (ot : ∀ x, t = some x → okW x.ws) (q : Q (.bl (!decide (t = some s))) H) : rNeD K v u H Q := by
  obtain ⟨a, rfl, ha⟩ := hv
  cases t with
  | none =>
    obtain rfl : u = .non := hu
    refine ⟨_, _, .tup ha (dpStrs _), .non, shapedStrs os, rfl, ?_⟩
    have e : PyData.eqv (.tuple (s.ws.map PyData.str)) .none = false := by simp [PyData.eqv]
    rw [e]
    exact q
  | some t =>
    obtain ⟨b, rfl, hb⟩ := hu
    refine rd_neW ha hb os (ot t rfl) ?_
    rw [say_dec]
    have e : decide (s = t) = decide (some t = some s) := by
      by_cases h : s = t
      · rw [decide_eq_true h, decide_eq_true (by rw [h])]
      · rw [decide_eq_false h, decide_eq_false fun z => h (Option.some.inj z).symm]
    rw [e]
    exact q
end
theorem none_of {H Ha : Hp} {p : Addr} (k : Kept [] H Ha) (n : Ha p = none) : H p = none := by
  cases e : H p with
  | none => rfl
  | some o =>
    rw [k p o e (by simp)] at n
    cases n
/-! ### displays of leads -/
/-- arguments' values, from H0 on -/
def ValB (t : TA) (σ : L2.St) (H0 : Hp) (vs : List V) : Prop := ∀ H (Q : List V → Hp → Prop), Kept [] H0 H → Q vs H → t σ H Q
section
variable {K : PySem.W.Frag} {σ : L2.St} {H0 : Hp} {t : TA} {vs : List V} {i : Nat}
theorem valB_nil : ValB tNil σ H0 [] := fun _ _ _ h => h
theorem valB_str {z : Str} (h : ValB t σ H0 vs) : ValB (tCons (tC (.str z)) t) σ H0 (.str z :: vs) := fun H Q k q => h H _ k q
theorem valB_var {v : V} (e : σ[i]? = some (some v)) (h : ValB t σ H0 vs) : ValB (tCons (tVar i) t) σ H0 (v :: vs) := fun H Q k q => ⟨v, e, h H _ k q⟩
theorem valB_ix {a : Addr} {xs : List V} {c : Int} {j : Nat} {v : V} (e : σ[i]? = some (some (.ref a))) (hs : SqT K H0 a xs) (ec : c = (j : Int)) (ev : xs[j]? = some v) (h : ValB t σ H0 vs) : ValB (tCons (tOp (rIxT K) (tVar i) (tC (.int c))) t) σ H0 (v :: vs) :=
  fun H Q k q => ⟨_, e, a, xs, c, v, rfl, rfl, sqT_tk (.of k) hs, at_of ec ev, h H _ k q⟩
/-- a saying, or None -/
def MkV (K : PySem.W.Frag) (te : TE) (σ : L2.St) (H0 : Hp) (os : Option Say) : Prop := ∀ H (Q : VK), Kept [] H0 H → (∀ v H', Kept [] H H' → OSayAt K H' v os → Q v H') → te σ H Q
theorem mk_var {v : V} {os : Option Say} (e : σ[i]? = some (some v)) (h : OSayAt K H0 v os) : MkV K (tVar i) σ H0 os := fun H Q k q => ⟨v, e, q v H (Kept.refl H) (h.tk (.of k))⟩
theorem mk_non : MkV K (tC .non) σ H0 none := fun H Q k q => q _ H (Kept.refl H) rfl
theorem mk_glob {c : Addr} {s : Say} (h : ∀ H, SqT K H c (s.ws.map V.str)) : MkV K (tC (.ref c)) σ H0 (some s) := fun H Q k q => q _ H (Kept.refl H) ⟨c, rfl, h H⟩
theorem mk_new {s : Say} (h : ValB t σ H0 (s.ws.map V.str)) : MkV K (tTup t) σ H0 (some s) := fun H Q k q => h H _ k ⟨by rw [List.length_map]; exact Nat.le_trans (show s.ws.length ≤ 10 by cases s <;> simp [Say.ws]) (by decide), fun p np =>
  q _ _ ((Kept.refl H).upd np) ⟨p, rfl, .inl (.of upd_same)⟩⟩
/-- a lead -/
def MkL (K : PySem.W.Frag) (te : TE) (σ : L2.St) (H0 : Hp) (l : Lead) : Prop := ∀ H (Q : VK), Kept [] H0 H → (∀ v H', Kept [] H H' → LeadAt K H' v l → Q v H') → te σ H Q
theorem mk_lead {e1 e2 e3 : TE} {l : Lead} (h1 : MkV K e1 σ H0 (some l.1)) (h2 : MkV K e2 σ H0 l.2.1) (h3 : MkV K e3 σ H0 (some l.2.2)) : MkL K (tTup (tCons e1 (tCons e2 (tCons e3 tNil)))) σ H0 l := fun H Q k q =>
  h1 H _ k fun v1 H1 k1 o1 => h2 H1 _ (k.trans k1) fun v2 H2 k2 o2 => h3 H2 _ ((k.trans k1).trans k2) fun v3 H3 k3 o3 => ⟨by show 3 ≤ sizeLine; decide, fun p np =>
    q _ _ (((k1.trans k2).trans k3).upd np) ⟨p, v1, v2, v3, rfl, upd_same, (o1.tk (.of (k2.trans k3))).tk (TK.new (TK.refl _) np), (o2.tk (.of k3)).tk (TK.new (TK.refl _) np), o3.tk (TK.new (TK.refl _) np)⟩⟩
/-- [lead] -/
theorem mk_one {te : TE} {l : Lead} {H : Hp} {Q : VK} (h : MkL K te σ H0 l) (k : Kept [] H0 H) (q : ∀ p H', Kept [] H H' → H p = none → LeadsAt K H' p [l] → Q (.ref p) H') : tLst (tCons te tNil) σ H Q :=
  h H _ k fun v H1 k1 o1 => ⟨by show 1 ≤ sizeLine; decide, fun p np => q p _ (k1.upd np) (none_of k1 np) ⟨[v], upd_same, .cons (o1.tk (TK.new (TK.refl _) np)) .nil⟩⟩
/-- [] -/
theorem mk_none {H : Hp} {Q : VK} (q : ∀ p H', Kept [] H H' → H p = none → LeadsAt K H' p [] → Q (.ref p) H') : tLst tNil σ H Q :=
  ⟨by show 0 ≤ sizeLine; decide, fun p np => q p _ ((Kept.refl H).upd np) np ⟨[], upd_same, .nil⟩⟩
end
end Ah
end
section
set_option Elab.async false
set_option linter.all false
set_option maxRecDepth 100000
set_option maxHeartbeats 2000000
namespace Ah
open PySem PySem.Spec PyProof.Rows L2
/-- [a lead for name in names] -/
theorem rd_lcLeads {K : PySem.W.Frag} {σ : L2.St} {H : Hp} {Q : VK} {i j : Nat} {te : TE} {vs : List Nat} {na : Addr} {ns : List Str} {f : Str → Lead} (hσ : σ[i]? = some (some (.ref na))) (hs : SqL K H na (ns.map V.str)) (hl : ns.length ≤ 1000)
    (hw : ∀ v, wipe ((wipe σ vs).set j (some v)) vs = wipe σ vs) (he : ∀ x ∈ ns, MkL K te ((wipe σ vs).set j (some (.str x))) H (f x))
    (q : ∀ p H', Kept [] H H' → H p = none → LeadsAt K H' p (ns.map f) → Q (.ref p) H') : tLc (iList K (tVar i)) (gName j) tYes te vs σ H Q := by
  refine ⟨_, hσ, na, rfl, ⟨_, hs⟩, fun D nD => ?_⟩
  refine lc_it (walk_list (K := K) (a := na) (xs := ns.map V.str)) (fun i Ha => ∃ us, Ha D = some (.lst us) ∧ Paired (LeadAt K Ha) us ((ns.take i).map f) ∧ Kept [] H Ha) ⟨[], upd_same, .nil, (Kept.refl H).upd nD⟩ (fun i Ha _ pv => sqL_kept pv.choose_spec.2.2 hs) ?_ ?_
  · rintro i x Ha0 Ha hi ⟨us, e1, r, kk⟩ ⟨rfl, ey⟩
    refine ⟨hw x, yes_if ?_⟩
    rw [List.getElem?_map] at ey
    obtain ⟨z, ez, rfl⟩ := Option.map_eq_some_iff.mp ey
    refine he z (List.mem_of_getElem? ez) Ha _ kk fun v H' k1 lv => ?_
    have lu : us.length ≤ 1000 := by
      rw [r.length, List.length_map, List.length_take]
      omega
    refine ⟨us, k1 _ _ e1 (by simp), Nat.lt_of_le_of_lt lu (by decide), us ++ [v], upd_same, ?_, kD_far nD (kk.trans k1)⟩
    have tk : TK Ha (upd H' D (.lst (us ++ [v]))) := (TK.of k1).updL (k1 _ _ e1 (by simp))
    have tk2 : TK H' (upd H' D (.lst (us ++ [v]))) := (TK.refl H').updL (k1 _ _ e1 (by simp))
    rw [List.take_add_one, ez, List.map_append]
    exact paired_app (Paired.mapP r fun _ _ q => q.tk tk) (.cons (lv.tk tk2) .nil)
  · rintro Ha ⟨us, e1, r, kk⟩
    rw [List.length_map, List.take_of_length_le (Nat.le_refl _)] at r
    exact q D Ha kk nD ⟨us, e1, r⟩
theorem gN_eq {i : Nat} {v : V} {σ : L2.St} {H : Hp} {Q : L2.St → Hp → Prop} : gName i v σ H Q = Q (σ.set i (some v)) H := rfl
/-! ### leads_on -/
def leadsOn (n t m : Str) (names : List Str) : List Lead :=
  names.map (fun x => (Say.has n t m, some (Say.has m t x), Say.has n t x)) ++ names.map (fun x => (Say.has x t n, some (Say.has n t m), Say.has x t m))
theorem scOn : FnScope ["saying", "names", "_", "one", "tie", "other", "behind", "ahead", "name"] ["saying", "names"] (defScope sLOn) := ⟨rfl, rfl, rfl, by decide +kernel, rfl, by decide +kernel, by decide +kernel⟩
/-- saying, names -/
structure ArgsL (K : PySem.W.Frag) (H : Hp) (sv : V) (na : Addr) (s : Say) (names : List Str) : Prop where
  say : SayAt K H sv s
  ns : SqL K H na (names.map V.str)
  few : names.length ≤ 1000
theorem ArgsL.kept {K : PySem.W.Frag} {H H' : Hp} {sv : V} {na : Addr} {s : Say} {names : List Str} (k : Kept [] H H') (h : ArgsL K H sv na s names) : ArgsL K H' sv na s names := ⟨h.say.tk (.of k), sqL_kept k h.ns, h.few⟩
def spOn (K : PySem.W.Frag) : Sp := fun vs H Q _ => ∃ (sv : V) (na : Addr) (n t m : Str) (names : List Str), vs = [sv, .ref na] ∧ ArgsL K H sv na (.has n t m) names ∧ ∀ p H', Kept [] H H' → H p = none → LeadsAt K H' p (leadsOn n t m names) → Q (.ref p) H'
section
variable {P : Program} {w : World} {K : PySem.W.Frag} {mg : Str → Option Value} {base : Heap} {f : Addr} {fd : FuncData}
theorem ok_lon (F : FnP K "leads_on" sLOn f fd) : FnOk P w K mg base CX0 1 f fd ["saying", "names"] (spOn K) := by
  refine F.ok scOn (fun vs H Q E h => ?_) (fun cdv A outer s H vs Q E hr h => ?_)
  · obtain ⟨sv, na, n, t, m, names, rfl, _⟩ := h
    rfl
  · obtain ⟨sv, na, n, t, m, names, rfl, ⟨hsay, hns, hfew⟩, k⟩ := h
    refine ⟨_, PSs.nox (pss_cons (ps_asg (pv 0) (pg_tup rfl (pgs_cons (pg_name (i := 2) scOn.nd rfl (Or.inl rfl)) (pgs_cons (pg_name (i := 3) scOn.nd rfl (Or.inr rfl)) (pgs_cons (pg_name (i := 4) scOn.nd rfl (Or.inr rfl)) (pgs_cons (pg_name (i := 5) scOn.nd rfl (Or.inr rfl)) pgs_nil))))))
      (pss_cons (ps_setLc (i := 6) (own := [("name", 8)]) rfl scOn.nd rfl rfl (sw_true rfl rfl rfl (by decide +kernel)) (pi_list (pv 1)) (blkOk_by (N := ["saying", "names", "_", "one", "tie", "other", "behind", "ahead", "name"]) (sc := defScope sLOn) (by decide +kernel)) (fun _ _ _ _ _ => (pg_name (i := 8) scOn.nd rfl (Or.inl rfl))) (fun _ _ _ _ _ => pts_nil) (fun _ _ _ _ _ => (pe_tup (pa_cons (pv 0) (pa_cons (pe_tup (pa_cons pe_str (pa_cons (pv 5) (pa_cons (pv 4) (pa_cons (pv 8) pa_nil))))) (pa_cons (pe_tup (pa_cons pe_str (pa_cons (pv 3) (pa_cons (pv 4) (pa_cons (pv 8) pa_nil))))) pa_nil))))))
      (pss_cons (ps_setLc (i := 7) (own := [("name", 8)]) rfl scOn.nd rfl rfl (sw_true rfl rfl rfl (by decide +kernel)) (pi_list (pv 1)) (blkOk_by (N := ["saying", "names", "_", "one", "tie", "other", "behind", "ahead", "name"]) (sc := defScope sLOn) (by decide +kernel)) (fun _ _ _ _ _ => (pg_name (i := 8) scOn.nd rfl (Or.inl rfl))) (fun _ _ _ _ _ => pts_nil) (fun _ _ _ _ _ => (pe_tup (pa_cons (pe_tup (pa_cons pe_str (pa_cons (pv 8) (pa_cons (pv 4) (pa_cons (pv 3) pa_nil))))) (pa_cons (pv 0) (pa_cons (pe_tup (pa_cons pe_str (pa_cons (pv 8) (pa_cons (pv 4) (pa_cons (pv 5) pa_nil))))) pa_nil))))))
      (pss_one (ps_ret (pe_op op_cat (pv 6) (pv 7)))))) ), ?_⟩
    obtain ⟨sa, rfl, hsa⟩ := id hsay
    refine ⟨_, rfl, sa, _, rfl, hsa, rfl, ?_⟩
    refine ⟨_, _, rfl, _, _, rfl, _, _, rfl, _, _, rfl, rfl, ?_⟩
    dsimp only
    unfold tSeq tAsg
    dsimp only
    refine rd_lcLeads (f := fun x => (Say.has n t m, some (Say.has m t x), Say.has n t x)) rfl hns hfew (fun _ => rfl) (fun x hx => by exact mk_lead (mk_var rfl hsay) (mk_new (valB_str (valB_var rfl (valB_var rfl (valB_var rfl valB_nil))))) (mk_new (valB_str (valB_var rfl (valB_var rfl (valB_var rfl valB_nil)))))) fun p1 H1 k1 _ l1 => ?_
    rw [gN_eq]
    refine rd_lcLeads (f := fun x => (Say.has x t n, some (Say.has n t m), Say.has x t m)) rfl (sqL_kept k1 hns) hfew (fun _ => rfl) (fun x hx => by exact mk_lead (mk_new (valB_str (valB_var rfl (valB_var rfl (valB_var rfl valB_nil))))) (mk_var rfl (SayAt.tk (.of k1) hsay)) (mk_new (valB_str (valB_var rfl (valB_var rfl (valB_var rfl valB_nil)))))) fun p2 H2 k2 _ l2 => ?_
    obtain ⟨us1, e1, r1⟩ := l1.kept k2
    obtain ⟨us2, e2, r2⟩ := l2
    have z1 : us1.length = names.length := by rw [r1.length, List.length_map]
    have z2 : us2.length = names.length := by rw [r2.length, List.length_map]
    refine ⟨_, rfl, _, rfl, p1, p2, us1, us2, rfl, rfl, e1, e2, Nat.le_trans (show us1.length + us2.length ≤ 2000 by omega) (by decide), fun p np => ?_⟩
    have tk : TK H2 (upd H2 p (.lst (us1 ++ us2))) := (TK.refl H2).new np
    exact k p _ ((k1.trans k2).upd np) (none_of (k1.trans k2) np) ⟨us1 ++ us2, upd_same, paired_app (Paired.mapP r1 fun _ _ q => q.tk tk) (Paired.mapP r2 fun _ _ q => q.tk tk)⟩
end
end Ah
end
section
set_option Elab.async false
set_option linter.all false
set_option maxRecDepth 100000
set_option maxHeartbeats 4000000
namespace Ah
open PySem PySem.Spec PyProof.Rows L2
theorem if_no {p : Prop} [Decidable p] {A B : Prop} (h : ¬ p) (q : B) : if decide p = true then A else B := by rw [decide_eq_false h]; exact iteF q
theorem if_yes {p : Prop} [Decidable p] {A B : Prop} (h : p) (q : A) : if decide p = true then A else B := by rw [decide_eq_true h]; exact iteT q
theorem if_dec {p : Prop} [Decidable p] {A B : Prop} (h1 : p → A) (h2 : ¬ p → B) : if decide p = true then A else B := by
  by_cases h : p
  · exact if_yes h (h1 h)
  · exact if_no h (h2 h)
theorem okW_tail {w : Str} {ws : List Str} (h : okW (w :: ws)) : okW ws := by
  unfold okW at h ⊢
  rw [List.all_cons, Bool.and_eq_true] at h
  exact h.2
/-- row[1:] -/
theorem rd_tail {K : PySem.W.Frag} {σ : L2.St} {H : Hp} {Q : VK} {i : Nat} {ra : Addr} {h : V} {rest : List V} (hσ : σ[i]? = some (some (.ref ra))) (hr : SqT K H ra (h :: rest)) (q : ∀ p, H p = none → Q (.ref p) (upd H p (.tup rest))) :
    tSl (rSlT K) (tVar i) (tPart (tC (.int 1))) tNoPart σ H Q := by
  refine ⟨_, hσ, 1, rfl, ra, _, rfl, hr, fun z => ?_, fun p np => ?_⟩
  · have h1 : HT.sIx (h :: rest).length 0 (some 1) = 1 := by
      rw [show (1 : Int) = ((1 : Nat) : Int) from rfl, HT.sIx_nat, List.length_cons]
      omega
    have h2 := z.1
    rw [h1] at h2
    cases h2
  · rw [cut_tail]
    exact q p np
theorem mk_if {K : PySem.W.Frag} {σ : L2.St} {H0 : Hp} {tt : TT} {ta tb : TE} {os : Option Say} {b : Bool} (ht : ∀ H (Q : Bool → Hp → Prop), Kept [] H0 H → Q b H → tt σ H Q) (ha : b = true → MkV K ta σ H0 os) (hb : b = false → MkV K tb σ H0 os) : MkV K (tIf tt ta tb) σ H0 os := by
  intro H Q k q
  refine ht H _ k ?_
  cases b with
  | true => exact iteT (ha rfl H Q k q)
  | false => exact iteF (hb rfl H Q k q)
theorem mk_ifEq {K : PySem.W.Frag} {σ : L2.St} {H0 : Hp} {ta tb : TE} {os : Option Say} {i j : Nat} {x y : Str} (hi : σ[i]? = some (some (.str x))) (hj : σ[j]? = some (some (.str y))) (ha : x = y → MkV K ta σ H0 os) (hb : ¬ x = y → MkV K tb σ H0 os) :
    MkV K (tIf (tTest (tOp rEq (tVar i) (tVar j))) ta tb) σ H0 os := by
  refine mk_if (b := decide (x = y)) (fun H Q _ q => ⟨_, hi, _, hj, rfl, _, rfl, ?_⟩) (fun h => ha (of_decide_eq_true h)) fun h => hb (of_decide_eq_false h)
  have e : decide (V.str x = V.str y) = decide (x = y) := by
    by_cases h : x = y
    · rw [decide_eq_true h, decide_eq_true (by rw [h])]
    · rw [decide_eq_false h, decide_eq_false fun z => h (V.str.inj z)]
  rw [e]
  exact q
/-! ### leads_from_kind -/
def leadsKind (r : Rw) (n k : Str) (names : List Str) : List Lead :=
  match r with
  | .isnt n' k' => if [n', k'] = [n, k] then [(.is n k, none, .clash)] else []
  | .no k1 k2 => if k ∈ [k1, k2] then [(.is n k, if (if k1 = k then k2 else k1) = k then none else some (.is n (if k1 = k then k2 else k1)), .clash)] else []
  | .all k1 l => if k1 = k then [(.is n k, none, .is n l)] else []
  | .each k1 t m => if k1 = k then [(.is n k, none, .has n t m)] else []
  | .who t k1 l => if k1 = k then names.map (fun x => (Say.has x t n, some (Say.is n k), Say.is x l)) else []
  | _ => []
theorem scLK : FnScope ["row", "saying", "names", "_", "one", "kind", "word", "other", "name"] ["row", "saying", "names"] (defScope sLKind) := ⟨rfl, rfl, rfl, by decide +kernel, rfl, by decide +kernel, by decide +kernel⟩
def RowAt (K : PySem.W.Frag) (H : Hp) (ra : Addr) (r : Rw) : Prop := SqT K H ra (r.ws.map V.str)
def spLK (K : PySem.W.Frag) : Sp := fun vs H Q _ => ∃ (ra : Addr) (sv : V) (na : Addr) (r : Rw) (n k : Str) (names : List Str), vs = [.ref ra, sv, .ref na] ∧ RowAt K H ra r ∧ okW r.ws ∧ okW (Say.is n k).ws ∧ ArgsL K H sv na (.is n k) names ∧
  ∀ p H', Kept [] H H' → H p = none → LeadsAt K H' p (leadsKind r n k names) → Q (.ref p) H'
structure TClash (K : PySem.W.Frag) (mg : Str → Option Value) (cl : Addr) : Prop where
  g : mg "CLASH" = some (.ref cl)
  val : ∀ H, SqT K H cl ((Say.clash).ws.map V.str)
section
variable {P : Program} {w : World} {K : PySem.W.Frag} {mg : Str → Option Value} {base : Heap} {f cl : Addr} {fd : FuncData}
theorem ok_lkind (F : FnP K "leads_from_kind" sLKind f fd) (C : TClash K mg cl) : FnOk P w K mg base CX0 1 f fd ["row", "saying", "names"] (spLK K) := by
  refine F.ok scLK (fun vs H Q E h => ?_) (fun cdv A outer s H vs Q E hr h => ?_)
  · obtain ⟨ra, sv, na, r, n, k, names, rfl, _⟩ := h
    rfl
  · obtain ⟨ra, sv, na, r, n, k, names, rfl, hrow, okr, oks, ⟨hsay, hns, hfew⟩, q⟩ := h
    have gCl := C.g
    refine ⟨_, PSs.nox (pss_cons (ps_asg (pv 1) (pg_tup rfl (pgs_cons (pg_name (i := 3) scLK.nd rfl (Or.inl rfl)) (pgs_cons (pg_name (i := 4) scLK.nd rfl (Or.inr rfl)) (pgs_cons (pg_name (i := 5) scLK.nd rfl (Or.inl rfl)) pgs_nil)))))
      (pss_cons (ps_set (i := 6) scLK.nd rfl (.inl rfl) (pe_ix ix_tup (pv 0) pe_int (fun _ _ => rfl)))
      (pss_cons (ps_if (PW.pt (pw_and (pt_cmpR op_eq (pv 6) pe_str (nomark _)) (pw_and1 (pt_cmpR (op_eqD hr.units) (pe_slice sl_tup (pv 0) (po_some pe_int) po_none) (pe_tup (pa_cons (pv 4) (pa_cons (pv 5) pa_nil))) (nomark _))))) (pss_one (ps_ret (pe_lst (pa_cons (pe_tup (pa_cons (pv 1) (pa_cons pe_non (pa_cons (pe_glob (v := .ref cl) (by rfl) gCl rfl) pa_nil)))) pa_nil)))) pss_nil)
      (pss_cons (ps_if (PW.pt (pw_and (pt_cmpR op_eq (pv 6) pe_str (nomark _)) (pw_and1 (pt_cmpR op_in_seq (pv 5) (pe_slice sl_tup (pv 0) (po_some pe_int) po_none) (by rfl))))) (pss_cons (ps_set (i := 7) scLK.nd rfl (.inl rfl) (pe_ifExp (pt_cmpR op_eq (pe_ix ix_tup (pv 0) pe_int (fun _ _ => rfl)) (pv 5) (nomark _)) (pe_ix ix_tup (pv 0) pe_int (fun _ _ => rfl)) (pe_ix ix_tup (pv 0) pe_int (fun _ _ => rfl))))
      (pss_one (ps_ret (pe_lst (pa_cons (pe_tup (pa_cons (pv 1) (pa_cons (pe_ifExp (pt_cmpR op_eq (pv 7) (pv 5) (nomark _)) pe_non (pe_tup (pa_cons pe_str (pa_cons (pv 4) (pa_cons (pv 7) pa_nil))))) (pa_cons (pe_glob (v := .ref cl) (by rfl) gCl rfl) pa_nil)))) pa_nil))))) pss_nil)
      (pss_cons (ps_if (PW.pt (pw_and (pt_cmpR op_eq (pv 6) pe_str (nomark _)) (pw_and1 (pt_cmpR op_eq (pe_ix ix_tup (pv 0) pe_int (fun _ _ => rfl)) (pv 5) (nomark _))))) (pss_one (ps_ret (pe_lst (pa_cons (pe_tup (pa_cons (pv 1) (pa_cons pe_non (pa_cons (pe_tup (pa_cons pe_str (pa_cons (pv 4) (pa_cons (pe_ix ix_tup (pv 0) pe_int (fun _ _ => rfl)) pa_nil)))) pa_nil)))) pa_nil)))) pss_nil)
      (pss_cons (ps_if (PW.pt (pw_and (pt_cmpR op_eq (pv 6) pe_str (nomark _)) (pw_and1 (pt_cmpR op_eq (pe_ix ix_tup (pv 0) pe_int (fun _ _ => rfl)) (pv 5) (nomark _))))) (pss_one (ps_ret (pe_lst (pa_cons (pe_tup (pa_cons (pv 1) (pa_cons pe_non (pa_cons (pe_tup (pa_cons pe_str (pa_cons (pv 4) (pa_cons (pe_ix ix_tup (pv 0) pe_int (fun _ _ => rfl)) (pa_cons (pe_ix ix_tup (pv 0) pe_int (fun _ _ => rfl)) pa_nil))))) pa_nil)))) pa_nil)))) pss_nil)
      (pss_cons (ps_if (PW.pt (pw_and (pt_cmpR op_eq (pv 6) pe_str (nomark _)) (pw_and1 (pt_cmpR op_eq (pe_ix ix_tup (pv 0) pe_int (fun _ _ => rfl)) (pv 5) (nomark _))))) (pss_one (ps_ret (pe_lc (own := [("name", 8)]) rfl scLK.nd (pi_list (pv 2)) (blkOk_by (N := ["row", "saying", "names", "_", "one", "kind", "word", "other", "name"]) (sc := defScope sLKind) (by decide +kernel)) (fun _ _ _ _ _ => (pg_name (i := 8) scLK.nd rfl (Or.inl rfl))) (fun _ _ _ _ _ => pts_nil) (fun _ _ _ _ _ => (pe_tup (pa_cons (pe_tup (pa_cons pe_str (pa_cons (pv 8) (pa_cons (pe_ix (show IxR _ (rIxT K) from ix_tup) (pv 0) pe_int (fun _ _ => rfl)) (pa_cons (pv 4) pa_nil))))) (pa_cons (pv 1) (pa_cons (pe_tup (pa_cons pe_str (pa_cons (pv 8) (pa_cons (pe_ix (show IxR _ (rIxT K) from ix_tup) (pv 0) pe_int (fun _ _ => rfl)) pa_nil)))) pa_nil)))))))) pss_nil)
      (pss_one (ps_ret (pe_lst pa_nil)))))))))), ?_⟩
    obtain ⟨sa, rfl, hsa⟩ := id hsay
    refine ⟨_, rfl, sa, _, rfl, hsa, rfl, ?_⟩
    refine ⟨_, _, rfl, _, _, rfl, _, _, rfl, rfl, ?_⟩
    unfold RowAt at hrow
    have nil : ∀ H', Kept [] H H' → leadsKind r n k names = [] → tLst tNil [] H' Q := fun H' kk e => mk_none (K := K) fun p H2 k2 n2 l2 => q p H2 (kk.trans k2) (none_of kk n2) (by rw [e]; exact l2)
    cases r with
    | is a b =>
      refine ⟨_, rfl, ra, _, 0, _, rfl, rfl, hrow, at_of (j := 0) rfl rfl, ?_⟩
      (refine ⟨_, rfl, rfl, _, rfl, if_no (by decide +kernel) (iteF ?_)⟩)
      (refine ⟨_, rfl, rfl, _, rfl, if_no (by decide +kernel) (iteF ?_)⟩)
      (refine ⟨_, rfl, rfl, _, rfl, if_no (by decide +kernel) (iteF ?_)⟩)
      (refine ⟨_, rfl, rfl, _, rfl, if_no (by decide +kernel) (iteF ?_)⟩)
      (refine ⟨_, rfl, rfl, _, rfl, if_no (by decide +kernel) (iteF ?_)⟩)
      exact nil H (Kept.refl H) rfl
    | isnt a b =>
      refine ⟨_, rfl, ra, _, 0, _, rfl, rfl, hrow, at_of (j := 0) rfl rfl, ?_⟩
      (refine ⟨_, rfl, rfl, _, rfl, if_yes (by decide +kernel) ?_⟩)
      refine rd_tail rfl hrow fun p np => ?_
      refine ⟨_, rfl, _, rfl, (by show 2 ≤ sizeLine; decide), fun p2 np2 => ?_⟩
      have k2 := ((Kept.refl (M := []) H).upd (o := .tup [V.str a, V.str b]) np).upd (o := .tup [V.str n, V.str k]) np2
      refine rd_eqW (xs := [a, b]) (ys := [n, k]) (.inl (.of (by rw [upd_ne (ne_of_none upd_same np2)]; exact upd_same))) (.inl (.of upd_same)) (okW_tail okr) (okW_tail oks) ?_
      refine ⟨_, rfl, if_dec (fun e => ?_) (fun e => ?_)⟩
      · refine mk_one (l := (.is n k, none, .clash)) (mk_lead (mk_var rfl hsay) mk_non (mk_glob C.val)) k2 fun p H2 k3 n3 l3 => q p H2 (k2.trans k3) (none_of k2 n3) ?_
        have e2 : leadsKind (.isnt a b) n k names = [(.is n k, none, .clash)] := if_pos e
        rw [e2]
        exact l3
      · (refine ⟨_, rfl, rfl, _, rfl, if_no (by decide +kernel) (iteF ?_)⟩)
        (refine ⟨_, rfl, rfl, _, rfl, if_no (by decide +kernel) (iteF ?_)⟩)
        (refine ⟨_, rfl, rfl, _, rfl, if_no (by decide +kernel) (iteF ?_)⟩)
        (refine ⟨_, rfl, rfl, _, rfl, if_no (by decide +kernel) (iteF ?_)⟩)
        exact nil _ k2 (if_neg e)
    | has a b c =>
      refine ⟨_, rfl, ra, _, 0, _, rfl, rfl, hrow, at_of (j := 0) rfl rfl, ?_⟩
      (refine ⟨_, rfl, rfl, _, rfl, if_no (by decide +kernel) (iteF ?_)⟩)
      (refine ⟨_, rfl, rfl, _, rfl, if_no (by decide +kernel) (iteF ?_)⟩)
      (refine ⟨_, rfl, rfl, _, rfl, if_no (by decide +kernel) (iteF ?_)⟩)
      (refine ⟨_, rfl, rfl, _, rfl, if_no (by decide +kernel) (iteF ?_)⟩)
      (refine ⟨_, rfl, rfl, _, rfl, if_no (by decide +kernel) (iteF ?_)⟩)
      exact nil H (Kept.refl H) rfl
    | hasnt a b c =>
      refine ⟨_, rfl, ra, _, 0, _, rfl, rfl, hrow, at_of (j := 0) rfl rfl, ?_⟩
      (refine ⟨_, rfl, rfl, _, rfl, if_no (by decide +kernel) (iteF ?_)⟩)
      (refine ⟨_, rfl, rfl, _, rfl, if_no (by decide +kernel) (iteF ?_)⟩)
      (refine ⟨_, rfl, rfl, _, rfl, if_no (by decide +kernel) (iteF ?_)⟩)
      (refine ⟨_, rfl, rfl, _, rfl, if_no (by decide +kernel) (iteF ?_)⟩)
      (refine ⟨_, rfl, rfl, _, rfl, if_no (by decide +kernel) (iteF ?_)⟩)
      exact nil H (Kept.refl H) rfl
    | all a b =>
      refine ⟨_, rfl, ra, _, 0, _, rfl, rfl, hrow, at_of (j := 0) rfl rfl, ?_⟩
      (refine ⟨_, rfl, rfl, _, rfl, if_no (by decide +kernel) (iteF ?_)⟩)
      (refine ⟨_, rfl, rfl, _, rfl, if_no (by decide +kernel) (iteF ?_)⟩)
      (refine ⟨_, rfl, rfl, _, rfl, if_yes (by decide +kernel) ?_⟩)
      refine ⟨_, rfl, ra, _, 1, _, rfl, rfl, hrow, at_of (j := 1) rfl rfl, _, rfl, rfl, ?_⟩
      refine ⟨_, rfl, if_dec (fun e => ?_) (fun e => ?_)⟩
      · have e2 : leadsKind (.all a b) n k names = [(.is n k, none, .is n b)] := if_pos (V.str.inj e)
        refine mk_one (l := (.is n k, none, .is n b)) (mk_lead (mk_var rfl hsay) mk_non (mk_new (s := .is n b) (valB_str (valB_var rfl (valB_ix rfl hrow (j := 2) rfl rfl valB_nil))))) (Kept.refl H) fun p H2 k3 n3 l3 => q p H2 k3 n3 ?_
        rw [e2]
        exact l3
      · (refine ⟨_, rfl, rfl, _, rfl, if_no (by decide +kernel) (iteF ?_)⟩)
        (refine ⟨_, rfl, rfl, _, rfl, if_no (by decide +kernel) (iteF ?_)⟩)
        exact nil H (Kept.refl H) (if_neg fun z => e (by rw [z]))
    | no a b =>
      refine ⟨_, rfl, ra, _, 0, _, rfl, rfl, hrow, at_of (j := 0) rfl rfl, ?_⟩
      (refine ⟨_, rfl, rfl, _, rfl, if_no (by decide +kernel) (iteF ?_)⟩)
      (refine ⟨_, rfl, rfl, _, rfl, if_yes (by decide +kernel) ?_⟩)
      refine ⟨_, rfl, rd_tail rfl hrow fun p np => ?_⟩
      have k1 := (Kept.refl (M := []) H).upd (o := .tup [V.str a, V.str b]) np
      refine ⟨p, _, rfl, .inr (.inl (.of upd_same)), rfl, rfl, ?_⟩
      have ei : inV (V.str k) ([a, b].map V.str) = decide (k ∈ [a, b]) := by
        show ((a == k) || ((b == k) || false)) = _
        by_cases h1 : a = k <;> by_cases h2 : b = k <;> simp [h1, h2, show ¬ k = a ↔ ¬ a = k from ⟨fun h e => h e.symm, fun h e => h e.symm⟩, Ne.symm]
      simp only [Bool.false_eq_true, if_false]
      rw [ei]
      have hrow1 := sqT_tk (TK.of k1) hrow
      refine ⟨_, rfl, if_dec (fun e => ?_) (fun e => ?_)⟩
      · have e2 : leadsKind (.no a b) n k names = [(.is n k, if (if a = k then b else a) = k then none else some (.is n (if a = k then b else a)), .clash)] := if_pos e
        rw [e2] at q
        clear e2
        refine ⟨_, rfl, ra, _, 1, _, rfl, rfl, hrow1, at_of (j := 1) rfl rfl, _, rfl, rfl, ?_⟩
        refine ⟨_, rfl, if_dec (fun e1 => ?_) (fun e1 => ?_)⟩
        · rw [if_pos (V.str.inj e1)] at q
          refine ⟨_, rfl, ra, _, 2, _, rfl, rfl, hrow1, at_of (j := 2) rfl rfl, ?_⟩
          refine mk_one (l := (.is n k, if b = k then none else some (.is n b), .clash)) (mk_lead (mk_var rfl hsay) (mk_ifEq (x := b) (y := k) rfl rfl (fun h => by rw [if_pos h]; exact mk_non) (fun h => by rw [if_neg h]; exact mk_new (s := .is n b) (valB_str (valB_var rfl (valB_var rfl valB_nil))))) (mk_glob C.val)) k1 fun p H2 k3 n3 l3 => q p H2 (k1.trans k3) (none_of k1 n3) l3
        · rw [show (if a = k then b else a) = a from if_neg fun z => e1 (by rw [z])] at q
          refine ⟨_, rfl, ra, _, 1, _, rfl, rfl, hrow1, at_of (j := 1) rfl rfl, ?_⟩
          refine mk_one (l := (.is n k, if a = k then none else some (.is n a), .clash)) (mk_lead (mk_var rfl hsay) (mk_ifEq (x := a) (y := k) rfl rfl (fun h => by rw [if_pos h]; exact mk_non) (fun h => by rw [if_neg h]; exact mk_new (s := .is n a) (valB_str (valB_var rfl (valB_var rfl valB_nil))))) (mk_glob C.val)) k1 fun p H2 k3 n3 l3 => q p H2 (k1.trans k3) (none_of k1 n3) l3
      · (refine ⟨_, rfl, rfl, _, rfl, if_no (by decide +kernel) (iteF ?_)⟩)
        (refine ⟨_, rfl, rfl, _, rfl, if_no (by decide +kernel) (iteF ?_)⟩)
        (refine ⟨_, rfl, rfl, _, rfl, if_no (by decide +kernel) (iteF ?_)⟩)
        exact nil _ k1 (if_neg e)
    | each a b c =>
      refine ⟨_, rfl, ra, _, 0, _, rfl, rfl, hrow, at_of (j := 0) rfl rfl, ?_⟩
      (refine ⟨_, rfl, rfl, _, rfl, if_no (by decide +kernel) (iteF ?_)⟩)
      (refine ⟨_, rfl, rfl, _, rfl, if_no (by decide +kernel) (iteF ?_)⟩)
      (refine ⟨_, rfl, rfl, _, rfl, if_no (by decide +kernel) (iteF ?_)⟩)
      (refine ⟨_, rfl, rfl, _, rfl, if_yes (by decide +kernel) ?_⟩)
      refine ⟨_, rfl, ra, _, 1, _, rfl, rfl, hrow, at_of (j := 1) rfl rfl, _, rfl, rfl, ?_⟩
      refine ⟨_, rfl, if_dec (fun e => ?_) (fun e => ?_)⟩
      · have e2 : leadsKind (.each a b c) n k names = [(.is n k, none, .has n b c)] := if_pos (V.str.inj e)
        refine mk_one (l := (.is n k, none, .has n b c)) (mk_lead (mk_var rfl hsay) mk_non (mk_new (s := .has n b c) (valB_str (valB_var rfl (valB_ix rfl hrow (j := 2) rfl rfl (valB_ix rfl hrow (j := 3) rfl rfl valB_nil)))))) (Kept.refl H) fun p H2 k3 n3 l3 => q p H2 k3 n3 ?_
        rw [e2]
        exact l3
      · (refine ⟨_, rfl, rfl, _, rfl, if_no (by decide +kernel) (iteF ?_)⟩)
        exact nil H (Kept.refl H) (if_neg fun z => e (by rw [z]))
    | who a b c =>
      refine ⟨_, rfl, ra, _, 0, _, rfl, rfl, hrow, at_of (j := 0) rfl rfl, ?_⟩
      (refine ⟨_, rfl, rfl, _, rfl, if_no (by decide +kernel) (iteF ?_)⟩)
      (refine ⟨_, rfl, rfl, _, rfl, if_no (by decide +kernel) (iteF ?_)⟩)
      (refine ⟨_, rfl, rfl, _, rfl, if_no (by decide +kernel) (iteF ?_)⟩)
      (refine ⟨_, rfl, rfl, _, rfl, if_no (by decide +kernel) (iteF ?_)⟩)
      (refine ⟨_, rfl, rfl, _, rfl, if_yes (by decide +kernel) ?_⟩)
      refine ⟨_, rfl, ra, _, 2, _, rfl, rfl, hrow, at_of (j := 2) rfl rfl, _, rfl, rfl, ?_⟩
      refine ⟨_, rfl, if_dec (fun e => ?_) (fun e => ?_)⟩
      · have e2 : leadsKind (.who a b c) n k names = names.map (fun x => (Say.has x a n, some (Say.is n k), Say.is x c)) := if_pos (V.str.inj e)
        refine rd_lcLeads (f := fun x => (Say.has x a n, some (Say.is n k), Say.is x c)) rfl hns hfew (fun _ => rfl) (fun x hx => by exact mk_lead (mk_new (valB_str (valB_var rfl (valB_ix rfl hrow (j := 1) rfl rfl (valB_var rfl valB_nil))))) (mk_var rfl hsay) (mk_new (valB_str (valB_var rfl (valB_ix rfl hrow (j := 3) rfl rfl valB_nil))))) fun p1 H1 k1 n1 l1 => q p1 H1 k1 n1 ?_
        rw [e2]
        exact l1
      · exact nil H (Kept.refl H) (if_neg fun z => e (by rw [z]))
    | turned a b =>
      refine ⟨_, rfl, ra, _, 0, _, rfl, rfl, hrow, at_of (j := 0) rfl rfl, ?_⟩
      (refine ⟨_, rfl, rfl, _, rfl, if_no (by decide +kernel) (iteF ?_)⟩)
      (refine ⟨_, rfl, rfl, _, rfl, if_no (by decide +kernel) (iteF ?_)⟩)
      (refine ⟨_, rfl, rfl, _, rfl, if_no (by decide +kernel) (iteF ?_)⟩)
      (refine ⟨_, rfl, rfl, _, rfl, if_no (by decide +kernel) (iteF ?_)⟩)
      (refine ⟨_, rfl, rfl, _, rfl, if_no (by decide +kernel) (iteF ?_)⟩)
      exact nil H (Kept.refl H) rfl
    | on a =>
      refine ⟨_, rfl, ra, _, 0, _, rfl, rfl, hrow, at_of (j := 0) rfl rfl, ?_⟩
      (refine ⟨_, rfl, rfl, _, rfl, if_no (by decide +kernel) (iteF ?_)⟩)
      (refine ⟨_, rfl, rfl, _, rfl, if_no (by decide +kernel) (iteF ?_)⟩)
      (refine ⟨_, rfl, rfl, _, rfl, if_no (by decide +kernel) (iteF ?_)⟩)
      (refine ⟨_, rfl, rfl, _, rfl, if_no (by decide +kernel) (iteF ?_)⟩)
      (refine ⟨_, rfl, rfl, _, rfl, if_no (by decide +kernel) (iteF ?_)⟩)
      exact nil H (Kept.refl H) rfl
    | fr a b =>
      refine ⟨_, rfl, ra, _, 0, _, rfl, rfl, hrow, at_of (j := 0) rfl rfl, ?_⟩
      (refine ⟨_, rfl, rfl, _, rfl, if_no (by decide +kernel) (iteF ?_)⟩)
      (refine ⟨_, rfl, rfl, _, rfl, if_no (by decide +kernel) (iteF ?_)⟩)
      (refine ⟨_, rfl, rfl, _, rfl, if_no (by decide +kernel) (iteF ?_)⟩)
      (refine ⟨_, rfl, rfl, _, rfl, if_no (by decide +kernel) (iteF ?_)⟩)
      (refine ⟨_, rfl, rfl, _, rfl, if_no (by decide +kernel) (iteF ?_)⟩)
      exact nil H (Kept.refl H) rfl
    | to a b =>
      refine ⟨_, rfl, ra, _, 0, _, rfl, rfl, hrow, at_of (j := 0) rfl rfl, ?_⟩
      (refine ⟨_, rfl, rfl, _, rfl, if_no (by decide +kernel) (iteF ?_)⟩)
      (refine ⟨_, rfl, rfl, _, rfl, if_no (by decide +kernel) (iteF ?_)⟩)
      (refine ⟨_, rfl, rfl, _, rfl, if_no (by decide +kernel) (iteF ?_)⟩)
      (refine ⟨_, rfl, rfl, _, rfl, if_no (by decide +kernel) (iteF ?_)⟩)
      (refine ⟨_, rfl, rfl, _, rfl, if_no (by decide +kernel) (iteF ?_)⟩)
      exact nil H (Kept.refl H) rfl
    | under a b =>
      refine ⟨_, rfl, ra, _, 0, _, rfl, rfl, hrow, at_of (j := 0) rfl rfl, ?_⟩
      (refine ⟨_, rfl, rfl, _, rfl, if_no (by decide +kernel) (iteF ?_)⟩)
      (refine ⟨_, rfl, rfl, _, rfl, if_no (by decide +kernel) (iteF ?_)⟩)
      (refine ⟨_, rfl, rfl, _, rfl, if_no (by decide +kernel) (iteF ?_)⟩)
      (refine ⟨_, rfl, rfl, _, rfl, if_no (by decide +kernel) (iteF ?_)⟩)
      (refine ⟨_, rfl, rfl, _, rfl, if_no (by decide +kernel) (iteF ?_)⟩)
      exact nil H (Kept.refl H) rfl
end
end Ah
end
section
set_option Elab.async false
set_option linter.all false
set_option maxRecDepth 100000
set_option maxHeartbeats 4000000
namespace Ah
open PySem PySem.Spec PyProof.Rows L2
theorem if_nd {p : Prop} [Decidable p] {A B : Prop} (h1 : ¬ p → A) (h2 : p → B) : if (!decide p) = true then A else B := by
  by_cases h : p
  · rw [decide_eq_true h]; exact iteF (h2 h)
  · rw [decide_eq_false h]; exact iteT (h1 h)
/-! ### leads_from_tie -/
def leadsTie (r : Rw) (n t m : Str) (names : List Str) : List Lead :=
  match r with
  | .hasnt a b c => if [a, b, c] = [n, t, m] then [(.has n t m, none, .clash)] else []
  | .on a => if a = t then leadsOn n t m names else []
  | .who a k l => if a = t then [(.has n t m, some (.is m k), .is n l)] else []
  | .turned a b => if a = t then [(.has n t m, none, .has m b n)] else []
  | .under a b => if a = t then [(.has n t m, none, .has n b m)] else []
  | .fr a k => if a = t then [(.has n t m, none, .is n k)] else []
  | .to a k => if a = t then [(.has n t m, none, .is m k)] else []
  | _ => []
theorem scTi : FnScope ["row", "saying", "names", "_", "one", "tie", "other", "word"] ["row", "saying", "names"] (defScope sLTie) := ⟨rfl, rfl, rfl, by decide +kernel, rfl, by decide +kernel, by decide +kernel⟩
theorem scBy : FnScope ["row", "saying", "names"] ["row", "saying", "names"] (defScope sLBy) := ⟨rfl, rfl, rfl, by decide +kernel, rfl, by decide +kernel, by decide +kernel⟩
def spLT (K : PySem.W.Frag) : Sp := fun vs H Q _ => ∃ (ra : Addr) (sv : V) (na : Addr) (r : Rw) (n t m : Str) (names : List Str), vs = [.ref ra, sv, .ref na] ∧ RowAt K H ra r ∧ okW r.ws ∧ okW (Say.has n t m).ws ∧ ArgsL K H sv na (.has n t m) names ∧
  ∀ p H', Kept [] H H' → H p = none → LeadsAt K H' p (leadsTie r n t m names) → Q (.ref p) H'
def leadsBy (r : Rw) (s : Say) (names : List Str) : List Lead :=
  match s with
  | .is n k => leadsKind r n k names
  | .has n t m => leadsTie r n t m names
  | .clash => []
def spBy (K : PySem.W.Frag) : Sp := fun vs H Q _ => ∃ (ra : Addr) (sv : V) (na : Addr) (r : Rw) (s : Say) (names : List Str), vs = [.ref ra, sv, .ref na] ∧ RowAt K H ra r ∧ okW r.ws ∧ okW s.ws ∧ ArgsL K H sv na s names ∧
  ∀ p H', Kept [] H H' → H p = none → LeadsAt K H' p (leadsBy r s names) → Q (.ref p) H'
section
variable {P : Program} {w : World} {K : PySem.W.Frag} {mg : Str → Option Value} {base : Heap} {f cl fO fK fT : Addr} {fd fdO fdK fdT : FuncData}
theorem ok_ltie (F : FnP K "leads_from_tie" sLTie f fd) (C : TClash K mg cl) (c_leads_on : Own P w K mg base "leads_on" 1 fO fdO ["saying", "names"] (spOn K)) : FnOk P w K mg base CX0 2 f fd ["row", "saying", "names"] (spLT K) := by
  refine F.ok scTi (fun vs H Q E h => ?_) (fun cdv A outer s H vs Q E hr h => ?_)
  · obtain ⟨ra, sv, na, r, n, t, m, names, rfl, _⟩ := h
    rfl
  · obtain ⟨ra, sv, na, r, n, t, m, names, rfl, hrow, okr, oks, ⟨hsay, hns, hfew⟩, q⟩ := h
    have gCl := C.g
    refine ⟨_, PSs.nox (pss_cons (ps_asg (pv 1) (pg_tup rfl (pgs_cons (pg_name (i := 3) scTi.nd rfl (Or.inl rfl)) (pgs_cons (pg_name (i := 4) scTi.nd rfl (Or.inl rfl)) (pgs_cons (pg_name (i := 5) scTi.nd rfl (Or.inl rfl)) (pgs_cons (pg_name (i := 6) scTi.nd rfl (Or.inl rfl)) pgs_nil))))))
      (pss_cons (ps_set (i := 7) scTi.nd rfl (.inl rfl) (pe_ix ix_tup (pv 0) pe_int (fun _ _ => rfl)))
      (pss_cons (ps_if (PW.pt (pw_and (pt_cmpR op_eq (pv 7) pe_str (nomark _)) (pw_and1 (pt_cmpR (op_eqD hr.units) (pe_slice sl_tup (pv 0) (po_some pe_int) po_none) (pe_tup (pa_cons (pv 4) (pa_cons (pv 5) (pa_cons (pv 6) pa_nil)))) (nomark _))))) (pss_one (ps_ret (pe_lst (pa_cons (pe_tup (pa_cons (pv 1) (pa_cons pe_non (pa_cons (pe_glob (v := .ref cl) (by rfl) gCl rfl) pa_nil)))) pa_nil)))) pss_nil)
      (pss_cons (ps_if (pt_cmpR op_ne (pe_ix ix_tup (pv 0) pe_int (fun _ _ => rfl)) (pv 5) (nomark _)) (pss_one (ps_ret (pe_lst pa_nil))) pss_nil)
      (pss_cons (ps_if (pt_cmpR op_eq (pv 7) pe_str (nomark _)) (pss_one (ps_ret (pe_call c_leads_on.ok hr (by rfl) c_leads_on.g c_leads_on.kp c_leads_on.b .nil pass0 (pa_cons (pv 1) (pa_cons (pv 2) pa_nil))))) pss_nil)
      (pss_cons (ps_if (pt_cmpR op_eq (pv 7) pe_str (nomark _)) (pss_one (ps_ret (pe_lst (pa_cons (pe_tup (pa_cons (pv 1) (pa_cons (pe_tup (pa_cons pe_str (pa_cons (pv 6) (pa_cons (pe_ix ix_tup (pv 0) pe_int (fun _ _ => rfl)) pa_nil)))) (pa_cons (pe_tup (pa_cons pe_str (pa_cons (pv 4) (pa_cons (pe_ix ix_tup (pv 0) pe_int (fun _ _ => rfl)) pa_nil)))) pa_nil)))) pa_nil)))) pss_nil)
      (pss_cons (ps_if (pt_cmpR op_eq (pv 7) pe_str (nomark _)) (pss_one (ps_ret (pe_lst (pa_cons (pe_tup (pa_cons (pv 1) (pa_cons pe_non (pa_cons (pe_tup (pa_cons pe_str (pa_cons (pv 6) (pa_cons (pe_ix ix_tup (pv 0) pe_int (fun _ _ => rfl)) (pa_cons (pv 4) pa_nil))))) pa_nil)))) pa_nil)))) pss_nil)
      (pss_cons (ps_if (pt_cmpR op_eq (pv 7) pe_str (nomark _)) (pss_one (ps_ret (pe_lst (pa_cons (pe_tup (pa_cons (pv 1) (pa_cons pe_non (pa_cons (pe_tup (pa_cons pe_str (pa_cons (pv 4) (pa_cons (pe_ix ix_tup (pv 0) pe_int (fun _ _ => rfl)) (pa_cons (pv 6) pa_nil))))) pa_nil)))) pa_nil)))) pss_nil)
      (pss_cons (ps_if (pt_cmpR op_eq (pv 7) pe_str (nomark _)) (pss_one (ps_ret (pe_lst (pa_cons (pe_tup (pa_cons (pv 1) (pa_cons pe_non (pa_cons (pe_tup (pa_cons pe_str (pa_cons (pv 4) (pa_cons (pe_ix ix_tup (pv 0) pe_int (fun _ _ => rfl)) pa_nil)))) pa_nil)))) pa_nil)))) pss_nil)
      (pss_cons (ps_if (pt_cmpR op_eq (pv 7) pe_str (nomark _)) (pss_one (ps_ret (pe_lst (pa_cons (pe_tup (pa_cons (pv 1) (pa_cons pe_non (pa_cons (pe_tup (pa_cons pe_str (pa_cons (pv 6) (pa_cons (pe_ix ix_tup (pv 0) pe_int (fun _ _ => rfl)) pa_nil)))) pa_nil)))) pa_nil)))) pss_nil)
      (pss_one (ps_ret (pe_lst pa_nil))))))))))))), ?_⟩
    obtain ⟨sa, rfl, hsa⟩ := id hsay
    refine ⟨_, rfl, sa, _, rfl, hsa, rfl, ?_⟩
    refine ⟨_, _, rfl, _, _, rfl, _, _, rfl, _, _, rfl, rfl, ?_⟩
    unfold RowAt at hrow
    have nil : ∀ H', Kept [] H H' → leadsTie r n t m names = [] → tLst tNil [] H' Q := fun H' kk e => mk_none (K := K) fun p H2 k2 n2 l2 => q p H2 (kk.trans k2) (none_of kk n2) (by rw [e]; exact l2)
    cases r with
    | is a b =>
      refine ⟨_, rfl, ra, _, 0, _, rfl, rfl, hrow, at_of (j := 0) rfl rfl, ?_⟩
      (refine ⟨_, rfl, rfl, _, rfl, if_no (by decide +kernel) (iteF ?_)⟩)
      refine ⟨_, rfl, ra, _, 1, _, rfl, rfl, hrow, at_of (j := 1) rfl rfl, _, rfl, rfl, _, rfl, if_nd (fun e => ?_) (fun e => ?_)⟩
      · exact nil H (Kept.refl H) rfl
      · (refine ⟨_, rfl, rfl, _, rfl, if_no (by decide +kernel) ?_⟩)
        (refine ⟨_, rfl, rfl, _, rfl, if_no (by decide +kernel) ?_⟩)
        (refine ⟨_, rfl, rfl, _, rfl, if_no (by decide +kernel) ?_⟩)
        (refine ⟨_, rfl, rfl, _, rfl, if_no (by decide +kernel) ?_⟩)
        (refine ⟨_, rfl, rfl, _, rfl, if_no (by decide +kernel) ?_⟩)
        (refine ⟨_, rfl, rfl, _, rfl, if_no (by decide +kernel) ?_⟩)
        exact nil H (Kept.refl H) rfl
    | isnt a b =>
      refine ⟨_, rfl, ra, _, 0, _, rfl, rfl, hrow, at_of (j := 0) rfl rfl, ?_⟩
      (refine ⟨_, rfl, rfl, _, rfl, if_no (by decide +kernel) (iteF ?_)⟩)
      refine ⟨_, rfl, ra, _, 1, _, rfl, rfl, hrow, at_of (j := 1) rfl rfl, _, rfl, rfl, _, rfl, if_nd (fun e => ?_) (fun e => ?_)⟩
      · exact nil H (Kept.refl H) rfl
      · (refine ⟨_, rfl, rfl, _, rfl, if_no (by decide +kernel) ?_⟩)
        (refine ⟨_, rfl, rfl, _, rfl, if_no (by decide +kernel) ?_⟩)
        (refine ⟨_, rfl, rfl, _, rfl, if_no (by decide +kernel) ?_⟩)
        (refine ⟨_, rfl, rfl, _, rfl, if_no (by decide +kernel) ?_⟩)
        (refine ⟨_, rfl, rfl, _, rfl, if_no (by decide +kernel) ?_⟩)
        (refine ⟨_, rfl, rfl, _, rfl, if_no (by decide +kernel) ?_⟩)
        exact nil H (Kept.refl H) rfl
    | has a b c =>
      refine ⟨_, rfl, ra, _, 0, _, rfl, rfl, hrow, at_of (j := 0) rfl rfl, ?_⟩
      (refine ⟨_, rfl, rfl, _, rfl, if_no (by decide +kernel) (iteF ?_)⟩)
      refine ⟨_, rfl, ra, _, 1, _, rfl, rfl, hrow, at_of (j := 1) rfl rfl, _, rfl, rfl, _, rfl, if_nd (fun e => ?_) (fun e => ?_)⟩
      · exact nil H (Kept.refl H) rfl
      · (refine ⟨_, rfl, rfl, _, rfl, if_no (by decide +kernel) ?_⟩)
        (refine ⟨_, rfl, rfl, _, rfl, if_no (by decide +kernel) ?_⟩)
        (refine ⟨_, rfl, rfl, _, rfl, if_no (by decide +kernel) ?_⟩)
        (refine ⟨_, rfl, rfl, _, rfl, if_no (by decide +kernel) ?_⟩)
        (refine ⟨_, rfl, rfl, _, rfl, if_no (by decide +kernel) ?_⟩)
        (refine ⟨_, rfl, rfl, _, rfl, if_no (by decide +kernel) ?_⟩)
        exact nil H (Kept.refl H) rfl
    | hasnt a b c =>
      refine ⟨_, rfl, ra, _, 0, _, rfl, rfl, hrow, at_of (j := 0) rfl rfl, ?_⟩
      (refine ⟨_, rfl, rfl, _, rfl, if_yes (by decide +kernel) ?_⟩)
      refine rd_tail rfl hrow fun p np => ?_
      refine ⟨_, rfl, _, rfl, _, rfl, (by show 3 ≤ sizeLine; decide), fun p2 np2 => ?_⟩
      have k2 := ((Kept.refl (M := []) H).upd (o := .tup [V.str a, V.str b, V.str c]) np).upd (o := .tup [V.str n, V.str t, V.str m]) np2
      have hrow2 := sqT_tk (TK.of k2) hrow
      refine rd_eqW (xs := [a, b, c]) (ys := [n, t, m]) (.inl (.of (by rw [upd_ne (ne_of_none upd_same np2)]; exact upd_same))) (.inl (.of upd_same)) (okW_tail okr) (okW_tail oks) ?_
      refine ⟨_, rfl, if_dec (fun e => ?_) (fun e => ?_)⟩
      · have e2 : leadsTie (.hasnt a b c) n t m names = [(.has n t m, none, .clash)] := if_pos e
        rw [e2] at q
        refine mk_one (l := (.has n t m, none, .clash)) (mk_lead (mk_var rfl hsay) mk_non (mk_glob C.val)) k2 fun p H2 k3 n3 l3 => q p H2 (k2.trans k3) (none_of k2 n3) l3
      · refine ⟨_, rfl, ra, _, 1, _, rfl, rfl, hrow2, at_of (j := 1) rfl rfl, _, rfl, rfl, _, rfl, if_nd (fun e1 => ?_) (fun e1 => ?_)⟩
        · exact nil _ k2 (if_neg e)
        · (refine ⟨_, rfl, rfl, _, rfl, if_no (by decide +kernel) ?_⟩)
          (refine ⟨_, rfl, rfl, _, rfl, if_no (by decide +kernel) ?_⟩)
          (refine ⟨_, rfl, rfl, _, rfl, if_no (by decide +kernel) ?_⟩)
          (refine ⟨_, rfl, rfl, _, rfl, if_no (by decide +kernel) ?_⟩)
          (refine ⟨_, rfl, rfl, _, rfl, if_no (by decide +kernel) ?_⟩)
          (refine ⟨_, rfl, rfl, _, rfl, if_no (by decide +kernel) ?_⟩)
          exact nil _ k2 (if_neg e)
    | all a b =>
      refine ⟨_, rfl, ra, _, 0, _, rfl, rfl, hrow, at_of (j := 0) rfl rfl, ?_⟩
      (refine ⟨_, rfl, rfl, _, rfl, if_no (by decide +kernel) (iteF ?_)⟩)
      refine ⟨_, rfl, ra, _, 1, _, rfl, rfl, hrow, at_of (j := 1) rfl rfl, _, rfl, rfl, _, rfl, if_nd (fun e => ?_) (fun e => ?_)⟩
      · exact nil H (Kept.refl H) rfl
      · (refine ⟨_, rfl, rfl, _, rfl, if_no (by decide +kernel) ?_⟩)
        (refine ⟨_, rfl, rfl, _, rfl, if_no (by decide +kernel) ?_⟩)
        (refine ⟨_, rfl, rfl, _, rfl, if_no (by decide +kernel) ?_⟩)
        (refine ⟨_, rfl, rfl, _, rfl, if_no (by decide +kernel) ?_⟩)
        (refine ⟨_, rfl, rfl, _, rfl, if_no (by decide +kernel) ?_⟩)
        (refine ⟨_, rfl, rfl, _, rfl, if_no (by decide +kernel) ?_⟩)
        exact nil H (Kept.refl H) rfl
    | no a b =>
      refine ⟨_, rfl, ra, _, 0, _, rfl, rfl, hrow, at_of (j := 0) rfl rfl, ?_⟩
      (refine ⟨_, rfl, rfl, _, rfl, if_no (by decide +kernel) (iteF ?_)⟩)
      refine ⟨_, rfl, ra, _, 1, _, rfl, rfl, hrow, at_of (j := 1) rfl rfl, _, rfl, rfl, _, rfl, if_nd (fun e => ?_) (fun e => ?_)⟩
      · exact nil H (Kept.refl H) rfl
      · (refine ⟨_, rfl, rfl, _, rfl, if_no (by decide +kernel) ?_⟩)
        (refine ⟨_, rfl, rfl, _, rfl, if_no (by decide +kernel) ?_⟩)
        (refine ⟨_, rfl, rfl, _, rfl, if_no (by decide +kernel) ?_⟩)
        (refine ⟨_, rfl, rfl, _, rfl, if_no (by decide +kernel) ?_⟩)
        (refine ⟨_, rfl, rfl, _, rfl, if_no (by decide +kernel) ?_⟩)
        (refine ⟨_, rfl, rfl, _, rfl, if_no (by decide +kernel) ?_⟩)
        exact nil H (Kept.refl H) rfl
    | each a b c =>
      refine ⟨_, rfl, ra, _, 0, _, rfl, rfl, hrow, at_of (j := 0) rfl rfl, ?_⟩
      (refine ⟨_, rfl, rfl, _, rfl, if_no (by decide +kernel) (iteF ?_)⟩)
      refine ⟨_, rfl, ra, _, 1, _, rfl, rfl, hrow, at_of (j := 1) rfl rfl, _, rfl, rfl, _, rfl, if_nd (fun e => ?_) (fun e => ?_)⟩
      · exact nil H (Kept.refl H) rfl
      · (refine ⟨_, rfl, rfl, _, rfl, if_no (by decide +kernel) ?_⟩)
        (refine ⟨_, rfl, rfl, _, rfl, if_no (by decide +kernel) ?_⟩)
        (refine ⟨_, rfl, rfl, _, rfl, if_no (by decide +kernel) ?_⟩)
        (refine ⟨_, rfl, rfl, _, rfl, if_no (by decide +kernel) ?_⟩)
        (refine ⟨_, rfl, rfl, _, rfl, if_no (by decide +kernel) ?_⟩)
        (refine ⟨_, rfl, rfl, _, rfl, if_no (by decide +kernel) ?_⟩)
        exact nil H (Kept.refl H) rfl
    | who a b c =>
      refine ⟨_, rfl, ra, _, 0, _, rfl, rfl, hrow, at_of (j := 0) rfl rfl, ?_⟩
      (refine ⟨_, rfl, rfl, _, rfl, if_no (by decide +kernel) (iteF ?_)⟩)
      refine ⟨_, rfl, ra, _, 1, _, rfl, rfl, hrow, at_of (j := 1) rfl rfl, _, rfl, rfl, _, rfl, if_nd (fun e => ?_) (fun e => ?_)⟩
      · exact nil H (Kept.refl H) (if_neg fun z => e (by rw [z]))
      · have e2 : leadsTie (.who a b c) n t m names = [(.has n t m, some (.is m b), .is n c)] := if_pos (V.str.inj e)
        (refine ⟨_, rfl, rfl, _, rfl, if_no (by decide +kernel) ?_⟩)
        (refine ⟨_, rfl, rfl, _, rfl, if_yes (by decide +kernel) ?_⟩)
        rw [e2] at q
        refine mk_one (l := (.has n t m, some (.is m b), .is n c)) (mk_lead (mk_var rfl hsay) (mk_new (s := .is m b) (valB_str (valB_var rfl (valB_ix rfl hrow (j := 2) rfl rfl valB_nil)))) (mk_new (s := .is n c) (valB_str (valB_var rfl (valB_ix rfl hrow (j := 3) rfl rfl valB_nil))))) (Kept.refl H) fun p H2 k3 n3 l3 => q p H2 k3 n3 l3
    | turned a b =>
      refine ⟨_, rfl, ra, _, 0, _, rfl, rfl, hrow, at_of (j := 0) rfl rfl, ?_⟩
      (refine ⟨_, rfl, rfl, _, rfl, if_no (by decide +kernel) (iteF ?_)⟩)
      refine ⟨_, rfl, ra, _, 1, _, rfl, rfl, hrow, at_of (j := 1) rfl rfl, _, rfl, rfl, _, rfl, if_nd (fun e => ?_) (fun e => ?_)⟩
      · exact nil H (Kept.refl H) (if_neg fun z => e (by rw [z]))
      · have e2 : leadsTie (.turned a b) n t m names = [(.has n t m, none, .has m b n)] := if_pos (V.str.inj e)
        (refine ⟨_, rfl, rfl, _, rfl, if_no (by decide +kernel) ?_⟩)
        (refine ⟨_, rfl, rfl, _, rfl, if_no (by decide +kernel) ?_⟩)
        (refine ⟨_, rfl, rfl, _, rfl, if_yes (by decide +kernel) ?_⟩)
        rw [e2] at q
        refine mk_one (l := (.has n t m, none, .has m b n)) (mk_lead (mk_var rfl hsay) mk_non (mk_new (s := .has m b n) (valB_str (valB_var rfl (valB_ix rfl hrow (j := 2) rfl rfl (valB_var rfl valB_nil)))))) (Kept.refl H) fun p H2 k3 n3 l3 => q p H2 k3 n3 l3
    | on a =>
      refine ⟨_, rfl, ra, _, 0, _, rfl, rfl, hrow, at_of (j := 0) rfl rfl, ?_⟩
      (refine ⟨_, rfl, rfl, _, rfl, if_no (by decide +kernel) (iteF ?_)⟩)
      refine ⟨_, rfl, ra, _, 1, _, rfl, rfl, hrow, at_of (j := 1) rfl rfl, _, rfl, rfl, _, rfl, if_nd (fun e => ?_) (fun e => ?_)⟩
      · exact nil H (Kept.refl H) (if_neg fun z => e (by rw [z]))
      · have e2 : leadsTie (.on a) n t m names = leadsOn n t m names := if_pos (V.str.inj e)
        (refine ⟨_, rfl, rfl, _, rfl, if_yes (by decide +kernel) ?_⟩)
        rw [e2] at q
        refine ⟨_, rfl, _, rfl, _, na, n, t, m, names, rfl, ⟨hsay, hns, hfew⟩, fun p H' kk nn l => q p H' kk nn l⟩
    | fr a b =>
      refine ⟨_, rfl, ra, _, 0, _, rfl, rfl, hrow, at_of (j := 0) rfl rfl, ?_⟩
      (refine ⟨_, rfl, rfl, _, rfl, if_no (by decide +kernel) (iteF ?_)⟩)
      refine ⟨_, rfl, ra, _, 1, _, rfl, rfl, hrow, at_of (j := 1) rfl rfl, _, rfl, rfl, _, rfl, if_nd (fun e => ?_) (fun e => ?_)⟩
      · exact nil H (Kept.refl H) (if_neg fun z => e (by rw [z]))
      · have e2 : leadsTie (.fr a b) n t m names = [(.has n t m, none, .is n b)] := if_pos (V.str.inj e)
        (refine ⟨_, rfl, rfl, _, rfl, if_no (by decide +kernel) ?_⟩)
        (refine ⟨_, rfl, rfl, _, rfl, if_no (by decide +kernel) ?_⟩)
        (refine ⟨_, rfl, rfl, _, rfl, if_no (by decide +kernel) ?_⟩)
        (refine ⟨_, rfl, rfl, _, rfl, if_no (by decide +kernel) ?_⟩)
        (refine ⟨_, rfl, rfl, _, rfl, if_yes (by decide +kernel) ?_⟩)
        rw [e2] at q
        refine mk_one (l := (.has n t m, none, .is n b)) (mk_lead (mk_var rfl hsay) mk_non (mk_new (s := .is n b) (valB_str (valB_var rfl (valB_ix rfl hrow (j := 2) rfl rfl valB_nil))))) (Kept.refl H) fun p H2 k3 n3 l3 => q p H2 k3 n3 l3
    | to a b =>
      refine ⟨_, rfl, ra, _, 0, _, rfl, rfl, hrow, at_of (j := 0) rfl rfl, ?_⟩
      (refine ⟨_, rfl, rfl, _, rfl, if_no (by decide +kernel) (iteF ?_)⟩)
      refine ⟨_, rfl, ra, _, 1, _, rfl, rfl, hrow, at_of (j := 1) rfl rfl, _, rfl, rfl, _, rfl, if_nd (fun e => ?_) (fun e => ?_)⟩
      · exact nil H (Kept.refl H) (if_neg fun z => e (by rw [z]))
      · have e2 : leadsTie (.to a b) n t m names = [(.has n t m, none, .is m b)] := if_pos (V.str.inj e)
        (refine ⟨_, rfl, rfl, _, rfl, if_no (by decide +kernel) ?_⟩)
        (refine ⟨_, rfl, rfl, _, rfl, if_no (by decide +kernel) ?_⟩)
        (refine ⟨_, rfl, rfl, _, rfl, if_no (by decide +kernel) ?_⟩)
        (refine ⟨_, rfl, rfl, _, rfl, if_no (by decide +kernel) ?_⟩)
        (refine ⟨_, rfl, rfl, _, rfl, if_no (by decide +kernel) ?_⟩)
        (refine ⟨_, rfl, rfl, _, rfl, if_yes (by decide +kernel) ?_⟩)
        rw [e2] at q
        refine mk_one (l := (.has n t m, none, .is m b)) (mk_lead (mk_var rfl hsay) mk_non (mk_new (s := .is m b) (valB_str (valB_var rfl (valB_ix rfl hrow (j := 2) rfl rfl valB_nil))))) (Kept.refl H) fun p H2 k3 n3 l3 => q p H2 k3 n3 l3
    | under a b =>
      refine ⟨_, rfl, ra, _, 0, _, rfl, rfl, hrow, at_of (j := 0) rfl rfl, ?_⟩
      (refine ⟨_, rfl, rfl, _, rfl, if_no (by decide +kernel) (iteF ?_)⟩)
      refine ⟨_, rfl, ra, _, 1, _, rfl, rfl, hrow, at_of (j := 1) rfl rfl, _, rfl, rfl, _, rfl, if_nd (fun e => ?_) (fun e => ?_)⟩
      · exact nil H (Kept.refl H) (if_neg fun z => e (by rw [z]))
      · have e2 : leadsTie (.under a b) n t m names = [(.has n t m, none, .has n b m)] := if_pos (V.str.inj e)
        (refine ⟨_, rfl, rfl, _, rfl, if_no (by decide +kernel) ?_⟩)
        (refine ⟨_, rfl, rfl, _, rfl, if_no (by decide +kernel) ?_⟩)
        (refine ⟨_, rfl, rfl, _, rfl, if_no (by decide +kernel) ?_⟩)
        (refine ⟨_, rfl, rfl, _, rfl, if_yes (by decide +kernel) ?_⟩)
        rw [e2] at q
        refine mk_one (l := (.has n t m, none, .has n b m)) (mk_lead (mk_var rfl hsay) mk_non (mk_new (s := .has n b m) (valB_str (valB_var rfl (valB_ix rfl hrow (j := 2) rfl rfl (valB_var rfl valB_nil)))))) (Kept.refl H) fun p H2 k3 n3 l3 => q p H2 k3 n3 l3
theorem ok_lby (F : FnP K "leads_by" sLBy f fd) (c_leads_from_kind : Own P w K mg base "leads_from_kind" 1 fK fdK ["row", "saying", "names"] (spLK K)) (c_leads_from_tie : Own P w K mg base "leads_from_tie" 2 fT fdT ["row", "saying", "names"] (spLT K)) :
    FnOk P w K mg base CX0 3 f fd ["row", "saying", "names"] (spBy K) := by
  refine F.ok scBy (fun vs H Q E h => ?_) (fun cdv A outer s H vs Q E hr h => ?_)
  · obtain ⟨ra, sv, na, r, sy, names, rfl, _⟩ := h
    rfl
  · obtain ⟨ra, sv, na, r, sy, names, rfl, hrow, okr, oks, ⟨hsay, hns, hfew⟩, q⟩ := h
    refine ⟨_, PSs.nox (pss_cons (ps_if (pt_cmpR op_eq (pe_ix ix_tup (pv 1) pe_int (fun _ _ => rfl)) pe_str (nomark _)) (pss_one (ps_ret (pe_call c_leads_from_kind.ok (hr.mono (by decide)) (by rfl) c_leads_from_kind.g c_leads_from_kind.kp c_leads_from_kind.b .nil pass0 (pa_cons (pv 0) (pa_cons (pv 1) (pa_cons (pv 2) pa_nil)))))) pss_nil)
      (pss_cons (ps_if (pt_cmpR op_eq (pe_ix ix_tup (pv 1) pe_int (fun _ _ => rfl)) pe_str (nomark _)) (pss_one (ps_ret (pe_call c_leads_from_tie.ok hr (by rfl) c_leads_from_tie.g c_leads_from_tie.kp c_leads_from_tie.b .nil pass0 (pa_cons (pv 0) (pa_cons (pv 1) (pa_cons (pv 2) pa_nil)))))) pss_nil)
      (pss_one (ps_ret (pe_lst pa_nil))))), ?_⟩
    obtain ⟨sa, rfl, hsa⟩ := id hsay
    cases sy with
    | is n k =>
      refine ⟨_, rfl, sa, _, 0, _, rfl, rfl, hsa, at_of (j := 0) rfl rfl, rfl, _, rfl, if_yes (by decide +kernel) ?_⟩
      exact ⟨_, rfl, _, rfl, _, rfl, ra, _, na, r, n, k, names, rfl, hrow, okr, oks, ⟨hsay, hns, hfew⟩, q⟩
    | has n t m =>
      refine ⟨_, rfl, sa, _, 0, _, rfl, rfl, hsa, at_of (j := 0) rfl rfl, rfl, _, rfl, if_no (by decide +kernel) ?_⟩
      refine ⟨_, rfl, sa, _, 0, _, rfl, rfl, hsa, at_of (j := 0) rfl rfl, rfl, _, rfl, if_yes (by decide +kernel) ?_⟩
      exact ⟨_, rfl, _, rfl, _, rfl, ra, _, na, r, n, t, m, names, rfl, hrow, okr, oks, ⟨hsay, hns, hfew⟩, q⟩
    | clash =>
      refine ⟨_, rfl, sa, _, 0, _, rfl, rfl, hsa, at_of (j := 0) rfl rfl, rfl, _, rfl, if_no (by decide +kernel) ?_⟩
      refine ⟨_, rfl, sa, _, 0, _, rfl, rfl, hsa, at_of (j := 0) rfl rfl, rfl, _, rfl, if_no (by decide +kernel) ?_⟩
      exact mk_none (K := K) (σ := []) q
end
end Ah
end
section
set_option Elab.async false
set_option linter.all false
set_option maxRecDepth 100000
set_option maxHeartbeats 4000000
namespace Ah
open PySem PySem.Spec PyProof.Rows L2
open EnT
/-! ### places_of -/
def keyW (ws : List Str) : List Key := ws.map Sum.inr
theorem keyW_kV (ws : List Str) : (keyW ws).map kV = ws.map V.str := by
  unfold keyW
  rw [List.map_map]
  rfl
theorem keyW_inj : ∀ {xs ys : List Str}, keyW xs = keyW ys → xs = ys
  | [], [], _ => rfl
  | [], _ :: _, h => nomatch h
  | _ :: _, [], h => nomatch h
  | x :: xs, y :: ys, h => by
    have h' : (Sum.inr x : Key) :: keyW xs = Sum.inr y :: keyW ys := h
    injection h' with h1 h2
    rw [Sum.inr.inj h1, keyW_inj h2]
/-- the entries' own tuples are rows of rs, all rows are there -/
structure RowsE (K : PySem.W.Frag) (H : Hp) (es : List Ent) (rs : List Rw) : Prop where
  at_ : ∀ e ∈ es, ∃ r ∈ rs, e.1 = keyW (Rw.ws r) ∧ RowAt K H e.2.1 r
  all_ : ∀ r ∈ rs, ∃ e ∈ es, e.1 = keyW (Rw.ws r)
theorem RowsE.keys {K : PySem.W.Frag} {H : Hp} {es : List Ent} {rs : List Rw} (h : RowsE K H es rs) : KeysIn K H es := fun e he => by
  obtain ⟨r, _, h1, h2⟩ := h.at_ e he
  rw [h1, keyW_kV]
  exact h2
theorem RowsE.tk {K : PySem.W.Frag} {H H' : Hp} {es : List Ent} {rs : List Rw} (k : TK H H') (h : RowsE K H es rs) : RowsE K H' es rs :=
  ⟨fun e he => let ⟨r, h0, h1, h2⟩ := h.at_ e he; ⟨r, h0, h1, sqT_tk k h2⟩, h.all_⟩
theorem RowsE.put {K : PySem.W.Frag} {H : Hp} {es : List Ent} {rs : List Rw} {r : Rw} {b : Addr} {v : V} (h : RowsE K H es rs) (hb : RowAt K H b r) : RowsE K H (putE es (keyW r.ws) b v) (rs ++ [r]) := by
  constructor
  · intro e he
    rcases putE_mem he with ⟨e', h1, h2, h3, _⟩ | rfl
    · obtain ⟨r', q1, q2, q3⟩ := h.at_ e' h1
      exact ⟨r', List.mem_append_left _ q1, by rw [h2]; exact q2, by rw [h3]; exact q3⟩
    · exact ⟨r, List.mem_append_right _ (List.mem_singleton.mpr rfl), rfl, hb⟩
  · intro r' hr'
    have hk : keyW r'.ws ∈ (putE es (keyW r.ws) b v).map (·.1) := by
      rw [putE_keys]
      rcases List.mem_append.mp hr' with q | q
      · obtain ⟨e, he, e1⟩ := h.all_ r' q
        have : keyW r'.ws ∈ es.map (·.1) := List.mem_map.mpr ⟨e, he, e1⟩
        split
        · exact this
        · exact List.mem_append_left _ this
      · rw [List.mem_singleton.mp q]
        split
        · rename_i hs
          exact valE_some hs
        · exact List.mem_append_right _ (List.mem_singleton.mpr rfl)
    obtain ⟨e, he, e1⟩ := List.mem_map.mp hk
    exact ⟨e, he, e1⟩
/-- every value is a list of its own, made behind H0 -/
def ListsE (H0 H : Hp) (es : List Ent) (n : Nat) : Prop := ∀ e ∈ es, ∃ l ys, e.2.2 = V.ref l ∧ H l = some (.lst ys) ∧ H0 l = none ∧ ys.length ≤ n
theorem valE_at {es : List Ent} {k : List Key} {v : V} (h : valE es k = some v) : ∃ e ∈ es, e.1 = k ∧ e.2.2 = v := by
  unfold valE at h
  obtain ⟨e, h1, h2⟩ := Option.map_eq_some_iff.mp h
  have h3 : decide (e.1 = k) = true := List.find?_some (p := fun e : Ent => decide (e.1 = k)) h1
  exact ⟨e, List.mem_of_find?_eq_some h1, of_decide_eq_true h3, h2⟩
theorem scPl : FnScope ["rows", "places", "number", "row"] ["rows"] (defScope sPlaces) := ⟨rfl, rfl, rfl, by decide +kernel, rfl, by decide +kernel, by decide +kernel⟩
def spPlaces (K : PySem.W.Frag) (P : Program) (w : World) : Sp := fun vs H Q _ => ∃ (q : Addr) (rs : List Rw), vs = [.ref q] ∧ TextAt H q rs ∧ rs.length ≤ 1000 ∧
  ∀ p H' es, Kept [] H H' → H' p = some (DicO P w p es) → RowsE K H' es rs → es.length ≤ rs.length → Q (.ref p) H'
section
variable {P : Program} {w : World} {K : PySem.W.Frag} {mg : Str → Option Value} {base : Heap} {f : Addr} {fd : FuncData}
theorem ok_places (F : FnP K "places_of" sPlaces f fd) (B : Bl mg) : FnOk P w K mg base CX0 1 f fd ["rows"] (spPlaces K P w) := by
  refine F.ok scPl (fun vs H Q E h => ?_) (fun cdv A outer s H vs Q E hr h => ?_)
  · obtain ⟨q, rs, rfl, _⟩ := h
    rfl
  · obtain ⟨q, rs, rfl, ⟨ps, hq, hps⟩, hl, k⟩ := h
    have hu : A.units + 3 + 1 < cLine := by have := hr.units; exact (by have h2 : (A.deeper (envOfC "places_of" (defScope sPlaces) s.heap.objs.size f cdv)).units = A.units + 3 := rfl; omega)
    refine ⟨_, PSs.nox (pss_cons (ps_set (i := 1) scPl.nd rfl (.inl rfl) pe_dicNew)
      (pss_cons (ps_for PassesOwn.never rfl (pi_enumT (by rfl) B.enumerate_ (pa_cons (pv 0) pa_nil)) (pg_tup rfl (pgs_cons (pg_name (i := 2) scPl.nd rfl (.inl rfl)) (pgs_cons (pg_name (i := 3) scPl.nd rfl (.inl rfl)) pgs_nil)))
        (pss_one (ps_expr (pe_bm PySem.F.plainAttrs_list PySem.F.slot_list_append PySem.F.type_list_append mt_append
          (pe_dicM PySem.F.slot_dict_setdefault PySem.F.type_dict_setdefault (mt_dicSetd hu) (pv 1) (pa_cons (pv 3) (pa_cons (pe_lst pa_nil) pa_nil))) (pa_cons (pv 2) pa_nil)))))
      (pss_one (ps_ret (pv 1))))), ?_⟩
    intro Dz nD
    refine ⟨_, rfl, q, _, rfl, .inl (.of (by rw [upd_ne (ne_of_none hq nD)]; exact hq)), for_it (walk_enumT (K := K) (a := q) (xs := ps.map V.ref))
      (fun i σ Ha => (∃ v2 v3, σ = [some (.ref q), some (.ref Dz), v2, v3]) ∧ ∃ es, Ha Dz = some (DicO P w Dz es) ∧ RowsE K Ha es (rs.take i) ∧ ListsE H Ha es i ∧ es.length ≤ i ∧ Kept [] H Ha)
      ⟨⟨_, _, rfl⟩, [], upd_same, ⟨fun e h => absurd h (by simp), fun r h => absurd h (by simp)⟩, (fun e h => absurd h (by simp)), Nat.le_refl _, (Kept.refl H).upd nD⟩ (fun i σ Ha _ pv => .inl (.of (pv.2.choose_spec.2.2.2.2 _ _ hq (by simp)))) ?_ ?_⟩
    · rintro i x σ Ha Hb hi ⟨⟨v2, v3, rfl⟩, es, e1, re, le, hz, kk⟩ ⟨Tp, x1, x2, rfl, nT, rfl, g1, g2⟩
      cases g1
      dsimp only at g2
      rw [List.getElem?_map] at g2
      obtain ⟨pr, epr, rfl⟩ := Option.map_eq_some_iff.mp g2
      obtain ⟨r, er, hr1⟩ := paired_at hps epr
      have el : ps.length = rs.length := hps.length
      rw [List.length_map] at hi
      have kT := kk.upd (o := .tup [V.int (i : Nat), V.ref pr]) nT
      have dT : Dz ≠ Tp := ne_of_none e1 nT
      refine ⟨Tp, _, rfl, .inl (.of upd_same), rfl, _, _, rfl, _, _, rfl, rfl, ?_⟩
      refine ⟨_, rfl, ⟨Dz, es, rfl, .inl (by rw [upd_ne dT]; exact e1)⟩, _, rfl, Nat.zero_le _, fun ln nl => ?_⟩
      have nl0 : Ha ln = none := by
        by_cases h : ln = Tp
        · rw [h, upd_same] at nl
          cases nl
        · rw [upd_ne h] at nl
          exact nl
      have lD : Dz ≠ ln := ne_of_none e1 nl0
      have kL := kT.upd (o := .lst []) nl
      have tkA : TK Ha (L2.upd (L2.upd Ha Tp (.tup [V.int (i : Nat), V.ref pr])) ln (.lst [])) := ((TK.refl Ha).new nT).new nl
      have eD : (L2.upd (L2.upd Ha Tp (.tup [V.int (i : Nat), V.ref pr])) ln (.lst [])) Dz = some (DicO P w Dz es) := by rw [upd_ne lD, upd_ne dT]; exact e1
      have nHl : H ln = none := none_of kT nl
      have rowp : SqT K (L2.upd (L2.upd Ha Tp (.tup [V.int (i : Nat), V.ref pr])) ln (.lst [])) pr ((keyW r.ws).map kV) := by
        rw [keyW_kV]
        exact .inl (.of (kL _ _ hr1 (by simp)))
      have hsz : es.length < sizeLine := Nat.lt_of_le_of_lt (show es.length ≤ 1000 by omega) (by decide)
      have old : ∀ {l : Addr} {ys : List V}, Ha l = some (.lst ys) → (L2.upd (L2.upd Ha Tp (.tup [V.int (i : Nat), V.ref pr])) ln (.lst [])) l = some (.lst ys) ∧ l ≠ ln ∧ l ≠ Dz := fun {l ys} h => by
        have h1 : l ≠ ln := ne_of_none h nl0
        have h2 : l ≠ Tp := ne_of_none h nT
        exact ⟨by rw [upd_ne h1, upd_ne h2]; exact h, h1, ne_of h e1 (fun z => nomatch z)⟩
      have er2 : rs.take (i + 1) = rs.take i ++ [r] := by rw [List.take_add_one, er]; rfl
      refine ⟨Dz, pr, es, keyW r.ws, .ref ln, rfl, rfl, eD, (re.tk tkA).keys, rowp, hsz, fun y hy => ?_, fun hn => ?_⟩
      · obtain ⟨e, he, ek, ev⟩ := valE_at hy
        obtain ⟨l, ys, e2, hl2, nl2, lys⟩ := le e he
        obtain rfl : y = V.ref l := ev.symm.trans e2
        obtain ⟨o1, o2, o3⟩ := old hl2
        refine ⟨.inl ⟨rfl, ys, .inl (.of o1)⟩, _, rfl, l, ys, _, rfl, rfl, o1, Nat.lt_of_le_of_lt (show ys.length ≤ 1000 by omega) (by decide), ?_⟩
        refine ⟨⟨_, _, rfl⟩, es, by rw [upd_ne (Ne.symm o3)]; exact eD, ?_, fun e' he' => ?_, by omega, kD_far nl2 kL⟩
        · have re2 := re.tk (tkA.updL (o := .lst (ys ++ [V.int (i : Nat)])) o1)
          rw [er2]
          refine ⟨fun e' he' => ?_, fun r' hr' => ?_⟩
          · obtain ⟨r', q1, q2, q3⟩ := re2.at_ e' he'
            exact ⟨r', List.mem_append_left _ q1, q2, q3⟩
          · rcases List.mem_append.mp hr' with q1 | q1
            · exact re2.all_ r' q1
            · rw [List.mem_singleton.mp q1]
              exact ⟨e, he, ek⟩
        · obtain ⟨l', ys', e2', hl2', nl2', lys'⟩ := le e' he'
          by_cases hll : l' = l
          · subst hll
            exact ⟨l', ys ++ [V.int (i : Nat)], e2', upd_same, nl2', by rw [List.length_append, List.length_cons, List.length_nil]; omega⟩
          · exact ⟨l', ys', e2', by rw [upd_ne hll]; exact (old hl2').1, nl2', by omega⟩
      · refine ⟨.inl ⟨rfl, [], .inl (.of (by rw [upd_ne (Ne.symm lD)]; exact upd_same))⟩, _, rfl, ln, [], _, rfl, rfl, by rw [upd_ne (Ne.symm lD)]; exact upd_same, (by decide), ?_⟩
        have tk2 := (tkA.upd (o := DicO P w Dz (putE es (keyW r.ws) pr (V.ref ln))) eD (fun _ z => nomatch z) (fun _ _ z => nomatch z)).updL (o := .lst ([] ++ [V.int (i : Nat)])) (by rw [upd_ne (Ne.symm lD)]; exact upd_same)
        have hp := putE_len es (keyW r.ws) pr (V.ref ln)
        refine ⟨⟨_, _, rfl⟩, putE es (keyW r.ws) pr (V.ref ln), by rw [upd_ne lD]; exact upd_same, ?_, fun e' he' => ?_, by omega, kD_far nHl (kD_far nD kL)⟩
        · rw [er2]
          refine (re.tk tk2).put (sqT_tk tk2 ?_)
          exact .inl (.of (kk _ _ hr1 (by simp)))
        · have hpe : putE es (keyW r.ws) pr (V.ref ln) = es ++ [(keyW r.ws, pr, V.ref ln)] := by
            unfold putE
            rw [hn]
            rfl
          rw [hpe] at he'
          rcases List.mem_append.mp he' with q1 | q1
          · obtain ⟨l', ys', e2', hl2', nl2', lys'⟩ := le e' q1
            obtain ⟨o1, o2, o3⟩ := old hl2'
            exact ⟨l', ys', e2', by rw [upd_ne o2, upd_ne o3]; exact o1, nl2', by omega⟩
          · rw [List.mem_singleton.mp q1]
            exact ⟨ln, [] ++ [V.int (i : Nat)], rfl, upd_same, nHl, by show 1 ≤ i + 1; omega⟩
    · rintro σ Ha ⟨⟨v2, v3, rfl⟩, es, e1, re, le, hz, kk⟩
      rw [List.length_map] at re hz
      have el : ps.length = rs.length := hps.length
      rw [el, List.take_of_length_le (Nat.le_refl _)] at re
      exact ⟨_, rfl, k Dz Ha es kk e1 re (by omega)⟩
end
end Ah
end
section
set_option Elab.async false
set_option linter.all false
set_option maxRecDepth 100000
set_option maxHeartbeats 4000000
namespace Ah
open PySem PySem.Spec PyProof.Rows L2
open EnT
/-! ### what leads are worked out -/
abbrev MethP (K : PySem.W.Frag) (x q : Str) (st : Stmt) (f : Addr) (fd : FuncData) : Prop := FunD K x q (defArgs st) (defBody st) (defScope st) [] [] f fd
def useful (l : Lead) : Bool := !decide (l.1 = l.2.2) && !decide (l.2.1 = some l.2.2)
def workedL (rws : List Rw) (s : Say) (names : List Str) : List Lead := rws.flatMap fun r => (leadsBy r s names).filter useful
/-- a lead with its row's number -/
def Lead4 (K : PySem.W.Frag) (H : Hp) (v : V) (l : Lead) : Prop := ∃ q n v1 v2 v3, v = .ref q ∧ H q = some (.tup [.int n, v1, v2, v3]) ∧ SayAt K H v1 l.1 ∧ OSayAt K H v2 l.2.1 ∧ SayAt K H v3 l.2.2
theorem Lead4.tk {K : PySem.W.Frag} {H H' : Hp} {v : V} {l : Lead} (k : TK H H') (h : Lead4 K H v l) : Lead4 K H' v l := by
  obtain ⟨q, n, v1, v2, v3, e, h1, h2, h3, h4⟩ := h
  exact ⟨q, n, v1, v2, v3, e, k.tup _ _ h1, h2.tk k, h3.tk k, h4.tk k⟩
def FoundAt (K : PySem.W.Frag) (H : Hp) (p : Addr) (ls : List Lead) : Prop := ∃ vs, H p = some (.lst vs) ∧ Paired (Lead4 K H) vs ls
/-- rows in a list -/
def RowsV (K : PySem.W.Frag) (H : Hp) (vs : List V) (rws : List Rw) : Prop := Paired (fun v r => ∃ a, v = V.ref a ∧ RowAt K H a r) vs rws
theorem RowsV.tk {K : PySem.W.Frag} {H H' : Hp} {vs : List V} {rws : List Rw} (k : TK H H') (h : RowsV K H vs rws) : RowsV K H' vs rws := Paired.mapP h fun _ _ ⟨a, e, q⟩ => ⟨a, e, sqT_tk k q⟩
structure RObj where
  ro : Addr
  C : Addr
  dx : Addr
  rl : Addr
  na : Addr
  kd : Addr
/-- the entries of what is known -/
def KnownE (K : PySem.W.Frag) (H : Hp) (rws : List Rw) (names : List Str) (es : List Ent) : Prop :=
  ∀ e ∈ es, ∃ (s : Say) (fl : Addr), e.1 = keyW s.ws ∧ SqT K H e.2.1 (s.ws.map V.str) ∧ e.2.2 = .ref fl ∧ FoundAt K H fl (workedL rws s names)
structure RulesAt (K : PySem.W.Frag) (P : Program) (w : World) (H : Hp) (o : RObj) (rws : List Rw) (names : List Str) (es : List Ent) : Prop where
  ob : H o.ro = some (.ins o.C o.dx [("rows", .ref o.rl), ("names", .ref o.na), ("known", .ref o.kd)])
  rows : ∃ vs, H o.rl = some (.lst vs) ∧ RowsV K H vs rws
  ns : H o.na = some (.lst (names.map V.str))
  kn : H o.kd = some (DicO P w o.kd es)
  ents : KnownE K H rws names es
structure ClsR (K : PySem.W.Frag) (C : Addr) : Prop where
  c : Cls K C
  n1 : NoAttr K C "rows"
  n2 : NoAttr K C "names"
  n3 : NoAttr K C "known"
/-- the words can be written, the counts are small -/
structure OkD (rws : List Rw) (names : List Str) : Prop where
  l1 : rws.length ≤ 1000
  l2 : names.length ≤ 1000
  rok : ∀ r ∈ rws, okW r.ws
  nok : ∀ x ∈ names, PyData.strOk x = true
def okL (l : Lead) : Prop := okW l.1.ws ∧ (∀ x, l.2.1 = some x → okW x.ws) ∧ okW l.2.2.ws
theorem okW_cons {w : Str} {ws : List Str} : okW (w :: ws) ↔ PyData.strOk w = true ∧ okW ws := by
  unfold okW
  rw [List.all_cons, Bool.and_eq_true]
theorem okW_nil : okW [] := rfl
theorem okW_clash : okW (Say.clash).ws := by unfold okW; decide +kernel
theorem okL_by {r : Rw} {s : Say} {names : List Str} (hr : okW r.ws) (hs : okW s.ws) (hn : ∀ x ∈ names, PyData.strOk x = true) : ∀ l ∈ leadsBy r s names, okL l := by
  have c := okW_clash
  intro l hl
  unfold okL
  cases s with
  | clash => exact absurd hl (by simp [leadsBy])
  | is n k =>
    obtain ⟨hi, hs1⟩ := okW_cons.mp hs
    obtain ⟨h1, hs2⟩ := okW_cons.mp hs1
    obtain ⟨h2, _⟩ := okW_cons.mp hs2
    have h3 : PyData.strOk "has" = true := by decide +kernel
    have h4 : PyData.strOk "is" = true := by decide +kernel
    cases r <;> simp only [leadsBy, leadsKind] at hl <;> (try split at hl) <;> (try simp only [List.mem_cons, List.mem_map, List.not_mem_nil, or_false] at hl) <;> (try exact hl.elim)
    all_goals simp only [Rw.ws, okW_cons] at hr
    all_goals first
      | (subst hl; simp [okL, okW_cons, okW_nil, Say.ws, *] <;> done)
      | (obtain ⟨x, hx, rfl⟩ := hl; have hx2 := hn x hx; simp [okW_cons, okW_nil, Say.ws, *] <;> done)
      | skip
    · subst hl
      exact ⟨hs, (fun x hx => nomatch hx), c⟩
    · subst hl
      refine ⟨hs, fun x hx => ?_, c⟩
      dsimp only at hx
      (repeat' split at hx) <;> first
        | (simp at hx; done)
        | (rw [← Option.some.inj hx]; exact okW_cons.mpr ⟨h4, okW_cons.mpr ⟨h1, okW_cons.mpr ⟨by first | exact hr.2.2.1 | exact hr.2.1, okW_nil⟩⟩⟩)
  | has n t m =>
    obtain ⟨hi, hs1⟩ := okW_cons.mp hs
    obtain ⟨h1, hs2⟩ := okW_cons.mp hs1
    obtain ⟨h2, hs3⟩ := okW_cons.mp hs2
    obtain ⟨h5, _⟩ := okW_cons.mp hs3
    have h3 : PyData.strOk "has" = true := by decide +kernel
    have h4 : PyData.strOk "is" = true := by decide +kernel
    cases r <;> simp only [leadsBy, leadsTie, leadsOn] at hl <;> (try split at hl) <;> (try simp only [List.mem_cons, List.mem_map, List.not_mem_nil, or_false, List.mem_append] at hl) <;> (try exact hl.elim)
    all_goals simp only [Rw.ws, okW_cons] at hr
    all_goals first
      | (subst hl; simp [okL, okW_cons, okW_nil, Say.ws, *] <;> done)
      | (obtain (⟨x, hx, rfl⟩ | ⟨x, hx, rfl⟩) := hl <;> have hx2 := hn x hx <;> simp [okW_cons, okW_nil, Say.ws, *] <;> done)
      | skip
    · subst hl
      exact ⟨hs, (fun x hx => nomatch hx), c⟩
end Ah
end
section
set_option Elab.async false
set_option linter.all false
set_option maxRecDepth 100000
set_option maxHeartbeats 4000000
namespace Ah
open PySem PySem.Spec PyProof.Rows L2
open EnT
theorem RulesAt.kept {K : PySem.W.Frag} {P : Program} {w : World} {H H' : Hp} {o : RObj} {rws : List Rw} {names : List Str} {es : List Ent} (k : Kept [] H H') (h : RulesAt K P w H o rws names es) : RulesAt K P w H' o rws names es where
  ob := k _ _ h.ob (by simp)
  rows := let ⟨vs, h1, h2⟩ := h.rows; ⟨vs, k _ _ h1 (by simp), h2.tk (.of k)⟩
  ns := k _ _ h.ns (by simp)
  kn := k _ _ h.kn (by simp)
  ents := fun e he => by
    obtain ⟨s, fl, h1, h2, h3, vs, h4, h5⟩ := h.ents e he
    exact ⟨s, fl, h1, sqT_tk (.of k) h2, h3, vs, k _ _ h4 (by simp), Paired.mapP h5 fun _ _ q => q.tk (.of k)⟩
theorem by_len (r : Rw) (s : Say) (names : List Str) : (leadsBy r s names).length ≤ 2 * names.length + 1 := by
  cases s with
  | clash => simp [leadsBy]
  | is n k => cases r <;> simp only [leadsBy, leadsKind] <;> (try split) <;> simp <;> omega
  | has n t m => cases r <;> simp only [leadsBy, leadsTie, leadsOn] <;> (try split) <;> simp <;> omega
theorem worked_len (names : List Str) (s : Say) : ∀ rws : List Rw, (workedL rws s names).length ≤ rws.length * (2 * names.length + 1)
  | [] => by simp [workedL]
  | r :: rws => by
    have ih := worked_len names s rws
    have h1 := by_len r s names
    have h2 : ((leadsBy r s names).filter useful).length ≤ (leadsBy r s names).length := List.length_filter_le ..
    have e : workedL (r :: rws) s names = (leadsBy r s names).filter useful ++ workedL rws s names := by simp [workedL]
    rw [e, List.length_append, List.length_cons, Nat.add_mul]
    omega
theorem worked_snoc (rws : List Rw) (r : Rw) (s : Say) (names : List Str) : workedL (rws ++ [r]) s names = workedL rws s names ++ (leadsBy r s names).filter useful := by simp [workedL]
theorem scRW : FnScope ["self", "saying", "found", "number", "row", "first", "second", "result"] ["self", "saying"] (defScope sRWork) := ⟨rfl, rfl, rfl, by decide +kernel, rfl, by decide +kernel, by decide +kernel⟩
def spWork (K : PySem.W.Frag) (P : Program) (w : World) : Sp := fun vs H Q _ => ∃ (o : RObj) (sv : V) (rws : List Rw) (names : List Str) (es : List Ent) (s : Say), vs = [.ref o.ro, sv] ∧ RulesAt K P w H o rws names es ∧ ClsR K o.C ∧ SayAt K H sv s ∧ okW s.ws ∧ OkD rws names ∧
  ∀ p H', Kept [] H H' → H p = none → FoundAt K H' p (workedL rws s names) → Q (.ref p) H'
section
variable {P : Program} {w : World} {K : PySem.W.Frag} {mg : Str → Option Value} {base : Heap} {f fB : Addr} {fd fdB : FuncData}
theorem ok_work (F : MethP K "worked_out" "Rules.worked_out" sRWork f fd) (B : Bl mg) (c_leads_by : Own P w K mg base "leads_by" 3 fB fdB ["row", "saying", "names"] (spBy K)) : FnOk P w K mg base CX0 4 f fd ["self", "saying"] (spWork K P w) := by
  refine F.ok scRW (fun vs H Q E h => ?_) (fun cdv A outer s H vs Q E hr h => ?_)
  · obtain ⟨o, sv, rws, names, es, sy, rfl, _⟩ := h
    rfl
  · obtain ⟨o, sv, rws, names, es, sy, rfl, R, CR, hsay, oks, D, q⟩ := h
    refine ⟨_, PSs.nox (pss_cons (ps_set (i := 2) scRW.nd rfl (.inl rfl) (pe_lst pa_nil))
      (pss_cons (ps_for PassesOwn.never rfl (pi_enum (by rfl) B.enumerate_ (pa_cons (pe_fld (pv 0) rfl) pa_nil)) (pg_tup rfl (pgs_cons (pg_name (i := 3) scRW.nd rfl (Or.inl rfl)) (pgs_cons (pg_name (i := 4) scRW.nd rfl (Or.inl rfl)) pgs_nil)))
      (pss_one (ps_for PassesOwn.never rfl (pi_list (pe_call c_leads_by.ok hr (by rfl) c_leads_by.g c_leads_by.kp c_leads_by.b .nil pass0 (pa_cons (pv 4) (pa_cons (pv 1) (pa_cons (pe_fld (pv 0) rfl) pa_nil))))) (pg_tup rfl (pgs_cons (pg_name (i := 5) scRW.nd rfl (Or.inl rfl)) (pgs_cons (pg_name (i := 6) scRW.nd rfl (Or.inl rfl)) (pgs_cons (pg_name (i := 7) scRW.nd rfl (Or.inl rfl)) pgs_nil))))
      (pss_one (ps_if (PW.pt (pw_and (pt_cmpR (op_neD hr.units) (pv 7) (pv 5) (nomark _)) (pw_and1 (pt_cmpR (op_neD hr.units) (pv 7) (pv 6) (nomark _))))) (pss_one (ps_expr (pe_bm PySem.F.plainAttrs_list PySem.F.slot_list_append PySem.F.type_list_append mt_append (pv 2) (pa_cons (pe_tup (pa_cons (pv 3) (pa_cons (pv 5) (pa_cons (pv 6) (pa_cons (pv 7) pa_nil))))) pa_nil)))) pss_nil)))))
      (pss_one (ps_ret (pv 2))))), ?_⟩
    refine ⟨Nat.zero_le _, fun fD nD => ?_⟩
    have R1 := R.kept ((Kept.refl H).upd (o := .lst []) nD)
    obtain ⟨vs, hvs, rvs⟩ := R.rows
    have lvs : vs.length = rws.length := rvs.length
    have hlen := worked_len names sy
    refine ⟨_, rfl, _, _, _, _, _, rfl, R1.ob, CR.c, CR.n1, rfl, o.rl, vs, rfl, .inl (.of (by rw [upd_ne (ne_of_none hvs nD)]; exact hvs)), for_it (walk_enum (K := K) (a := o.rl) (xs := vs))
      (fun i σ Ha => (∃ v3 v4 v5 v6 v7, σ = [some (.ref o.ro), some sv, some (.ref fD), v3, v4, v5, v6, v7]) ∧ FoundAt K Ha fD (workedL (rws.take i) sy names) ∧ Kept [] H Ha)
      ⟨⟨_, _, _, _, _, rfl⟩, ⟨[], upd_same, .nil⟩, (Kept.refl H).upd nD⟩ (fun i σ Ha _ pv => .inl (.of (pv.2.2 _ _ hvs (by simp)))) ?_ ?_⟩
    · rintro i x σ Ha Hb hi ⟨⟨v3, v4, v5, v6, v7, rfl⟩, ⟨us, eu, ru⟩, kk⟩ ⟨Tp, x1, x2, rfl, nT, rfl, g1, g2⟩
      cases g1
      dsimp only at g2
      obtain ⟨r, er, pr, rfl, hrow⟩ := paired_at rvs g2
      have kT := kk.upd (o := .tup [V.int (i : Nat), V.ref pr]) nT
      have tkT : TK Ha (L2.upd Ha Tp (.tup [V.int (i : Nat), V.ref pr])) := (TK.refl Ha).new nT
      have R2 := R.kept kT
      have hr1 := D.rok r (List.mem_of_getElem? er)
      refine ⟨Tp, _, rfl, .inl (.of upd_same), rfl, _, _, rfl, _, _, rfl, rfl, ?_⟩
      refine ⟨_, rfl, _, rfl, _, rfl, _, _, _, _, _, rfl, R2.ob, CR.c, CR.n2, rfl, pr, sv, o.na, r, sy, names, rfl, sqT_tk (.of kT) hrow, hr1, oks, ⟨hsay.tk (.of kT), .inl (.of R2.ns), D.l2⟩, fun lp H2 k2 n2 l2 => ?_⟩
      obtain ⟨ls, el, rl⟩ := l2
      have kH := kT.trans k2
      have efD : H2 fD = some (.lst us) := k2 _ _ (by rw [upd_ne (ne_of_none eu nT)]; exact eu) (by simp)
      have ll : ls.length ≤ 2001 := by
        have h1 := by_len r sy names
        have h2 := D.l2
        rw [rl.length]
        omega
      have lpD : lp ≠ fD := fun e => by
        rw [e, upd_ne (ne_of_none eu nT), eu] at n2
        cases n2
      have bd : (workedL (rws.take i) sy names).length ≤ 1000 * 2001 := by
        refine Nat.le_trans (hlen (rws.take i)) (Nat.mul_le_mul ?_ ?_)
        · have h1 := D.l1
          rw [List.length_take]
          omega
        · have h2 := D.l2
          omega
      have er2 : rws.take (i + 1) = rws.take i ++ [r] := by rw [List.take_add_one, er]; rfl
      refine ⟨lp, rfl, ⟨_, .inl (.of el)⟩, for_it (walk_list (K := K) (a := lp) (xs := ls))
        (fun j σ Hc => (∃ v5 v6 v7, σ = [some (.ref o.ro), some sv, some (.ref fD), some (.int (i : Nat)), some (.ref pr), v5, v6, v7]) ∧ FoundAt K Hc fD (workedL (rws.take i) sy names ++ ((leadsBy r sy names).take j).filter useful) ∧ Kept [] H Hc ∧ Hc lp = some (.lst ls) ∧ TK H2 Hc)
        ⟨⟨_, _, _, rfl⟩, ⟨us, efD, by
          rw [List.take_zero, List.filter_nil, List.append_nil]
          exact Paired.mapP ru fun _ _ q => q.tk (tkT.trans (.of k2))⟩, kH, el, TK.refl _⟩ (fun j σ Hc _ pv => .inl (.of pv.2.2.2.1)) ?_ ?_⟩
      · rintro j y σ Hc0 Hc hj ⟨⟨v5, v6, v7, rfl⟩, ⟨us', eu', ru'⟩, kc, elc, tk2⟩ ⟨rfl, ey⟩
        obtain ⟨l, hl, hla⟩ := paired_at rl ey
        obtain ⟨qa, w1, w2, w3, rfl, t1, s1, s2, s3⟩ := hla.tk tk2
        have ol := okL_by hr1 oks D.nok l (List.mem_of_getElem? hl)
        have et : ((leadsBy r sy names).take (j + 1)).filter useful = ((leadsBy r sy names).take j).filter useful ++ if useful l = true then [l] else [] := by
          rw [List.take_add_one, hl, List.filter_append]
          congr 1
          show List.filter useful [l] = _
          rw [List.filter_cons, List.filter_nil]
        have skip : useful l = false → FoundAt K Hc fD (workedL (rws.take i) sy names ++ ((leadsBy r sy names).take (j + 1)).filter useful) := fun e => by
          rw [et, e, if_neg (by simp), List.append_nil]
          exact ⟨us', eu', ru'⟩
        refine ⟨qa, _, rfl, .inl (.of t1), rfl, _, _, rfl, _, _, rfl, _, _, rfl, rfl, ?_⟩
        refine ⟨_, rfl, _, rfl, rd_neS (s := l.2.2) (t := some l.1) s3 s1 ol.2.2 (fun x hx => by rw [← Option.some.inj hx]; exact ol.1) ⟨_, rfl, if_nd (fun ne => ?_) (fun e => ?_)⟩⟩
        · refine ⟨_, rfl, _, rfl, rd_neS (s := l.2.2) (t := l.2.1) s3 s2 ol.2.2 ol.2.1 ⟨_, rfl, if_nd (fun ne2 => ?_) (fun e2 => ?_)⟩⟩
          · have eu2 : useful l = true := by
              unfold useful
              rw [decide_eq_false fun z => ne (by rw [z]), decide_eq_false ne2]
              rfl
            refine ⟨_, rfl, .inl ⟨rfl, us', .inl (.of eu')⟩, _, rfl, _, rfl, _, rfl, _, rfl, (by show 4 ≤ sizeLine; decide), fun T4 n4 => ?_⟩
            have nfD : fD ≠ T4 := ne_of_none eu' n4
            refine ⟨fD, us', _, rfl, rfl, by rw [upd_ne nfD]; exact eu', ?_, ⟨_, _, _, rfl⟩, ⟨us' ++ [V.ref T4], upd_same, ?_⟩, kD_far nD (kc.upd n4), ?_, ?_⟩
            · have lu := ru'.length
              rw [List.length_append] at lu
              have h1 : (((leadsBy r sy names).take j).filter useful).length ≤ 2001 := by
                refine Nat.le_trans (List.length_filter_le ..) ?_
                rw [List.length_take]
                have h2 := rl.length
                omega
              exact Nat.lt_of_le_of_lt (show us'.length ≤ 1000 * 2001 + 2001 by omega) (by decide)
            · rw [et, if_pos eu2, ← List.append_assoc]
              have tk3 : TK Hc (L2.upd (L2.upd Hc T4 (.tup [V.int (i : Nat), w1, w2, w3])) fD (.lst (us' ++ [V.ref T4]))) := ((TK.refl Hc).new n4).updL (xs := us') (by rw [upd_ne nfD]; exact eu')
              refine paired_app (Paired.mapP ru' fun _ _ q => q.tk tk3) (.cons ⟨T4, (i : Nat), w1, w2, w3, rfl, ?_, s1.tk tk3, s2.tk tk3, s3.tk tk3⟩ .nil)
              rw [upd_ne (Ne.symm nfD)]
              exact upd_same
            · rw [upd_ne lpD, upd_ne (ne_of_none elc n4)]
              exact elc
            · exact (tk2.new n4).updL (xs := us') (by rw [upd_ne nfD]; exact eu')
          · refine ⟨⟨_, _, _, rfl⟩, skip ?_, kc, elc, tk2⟩
            unfold useful
            rw [decide_eq_true e2]
            simp
        · refine iteF ⟨⟨_, _, _, rfl⟩, skip ?_, kc, elc, tk2⟩
          unfold useful
          rw [decide_eq_true (Option.some.inj e)]
          simp
      · rintro σ Hc ⟨⟨v5, v6, v7, rfl⟩, fa, kc, elc, tk2⟩
        have h2 := rl.length
        rw [h2, List.take_of_length_le (Nat.le_refl _), ← worked_snoc, ← er2] at fa
        exact ⟨⟨_, _, _, _, _, rfl⟩, fa, kc⟩
    · rintro σ Ha ⟨⟨v3, v4, v5, v6, v7, rfl⟩, fa, kk⟩
      rw [lvs, List.take_of_length_le (Nat.le_refl _)] at fa
      exact ⟨_, rfl, q fD Ha kk nD fa⟩
end
end Ah
end
section
set_option Elab.async false
set_option linter.all false
set_option maxRecDepth 100000
set_option maxHeartbeats 4000000
namespace Ah
open PySem PySem.Spec PyProof.Rows L2
theorem valE_snoc {k : List Key} {b : Addr} {v : V} : ∀ {es : List Ent}, valE es k = none → valE (es ++ [(k, b, v)]) k = some v
  | [], _ => valE_pos rfl
  | p :: r, h => by
    have hk : ¬ p.1 = k := fun z => by rw [valE_pos z] at h; cases h
    rw [valE_neg hk] at h
    rw [List.cons_append, valE_neg hk]
    exact valE_snoc h
theorem putE_new {es : List Ent} {k : List Key} {b : Addr} {v : V} (h : valE es k = none) : putE es k b v = es ++ [(k, b, v)] := by
  unfold putE
  rw [h]
  rfl
theorem KnownE.keys {K : PySem.W.Frag} {H : Hp} {rws : List Rw} {names : List Str} {es : List Ent} (h : KnownE K H rws names es) : KeysIn K H es := fun e he => by
  obtain ⟨s, fl, h1, h2, _⟩ := h e he
  rw [h1, keyW_kV]
  exact h2
theorem scRL : FnScope ["self", "saying"] ["self", "saying"] (defScope sRLeads) := ⟨rfl, rfl, rfl, by decide +kernel, rfl, by decide +kernel, by decide +kernel⟩
theorem scRI : FnScope ["self", "rows", "names"] ["self", "rows", "names"] (defScope sRInit) := ⟨rfl, rfl, rfl, by decide +kernel, rfl, by decide +kernel, by decide +kernel⟩
def spLeads (K : PySem.W.Frag) (P : Program) (w : World) (C : Addr) : Sp := fun vs H Q _ => ∃ (o : RObj) (sv : V) (rws : List Rw) (names : List Str) (es : List Ent) (s : Say), vs = [.ref o.ro, sv] ∧ o.C = C ∧ RulesAt K P w H o rws names es ∧ SayAt K H sv s ∧ okW s.ws ∧ OkD rws names ∧ es.length ≤ 1000000 ∧
  ∀ fl H' es', Kept [o.kd] H H' → RulesAt K P w H' o rws names es' → es'.length ≤ es.length + 1 → FoundAt K H' fl (workedL rws s names) →
    (∀ W, H W ≠ none → (∀ e ∈ es, e.2.2 ≠ V.ref W) → fl ≠ W ∧ ∀ e ∈ es', e.2.2 ≠ V.ref W) → Q (.ref fl) H'
section
variable {P : Program} {w : World} {K : PySem.W.Frag} {mg : Str → Option Value} {base : Heap} {f fW fP C : Addr} {fd fdW fdP : FuncData}
theorem ok_leads (F : MethP K "leads" "Rules.leads" sRLeads f fd) (CR : ClsR K C) (mW : Meth K C "worked_out" fW) (FW : FnOk P w K mg base CX0 4 fW fdW ["self", "saying"] (spWork K P w)) (bW : Binds K fdW ["self", "saying"] []) :
    FnOk P w K mg base CX0 5 f fd ["self", "saying"] (spLeads K P w C) := by
  refine F.ok scRL (fun vs H Q E h => ?_) (fun cdv A outer s H vs Q E hr h => ?_)
  · obtain ⟨o, sv, rws, names, es, sy, rfl, _⟩ := h
    rfl
  · obtain ⟨o, sv, rws, names, es, sy, rfl, rfl, R, hsay, oks, D, hz, q⟩ := h
    have hu : A.units + 3 + 1 < cLine := by have := hr.units; exact (by have h2 : (A.deeper (envOfC "Rules.leads" (defScope sRLeads) s.heap.objs.size f cdv)).units = A.units + 3 := rfl; omega)
    refine ⟨_, PSs.nox (pss_cons (ps_if (pt_cmpR (op_notIn_dic hu) (pv 1) (pe_fld (pv 0) rfl) (by rfl)) (pss_one (ps_asg (pe_meth (pv 0) CR.c mW FW hr bW .nil pass0 (pa_cons (pv 1) pa_nil)) (pg_sub (pe_fld (pv 0) rfl) (pv 1) (set_dic hu)))) pss_nil)
      (pss_one (ps_ret (pe_ix (ix_dic hu) (pe_fld (pv 0) rfl) (pv 1) (fun _ _ => rfl))))), ?_⟩
    obtain ⟨sa, rfl, hsa⟩ := id hsay
    have hkey : ∀ {H'}, TK H H' → SqT K H' sa ((keyW sy.ws).map kV) := fun k => by
      rw [keyW_kV]
      exact sqT_tk k hsa
    have hsz : es.length < sizeLine := Nat.lt_of_le_of_lt hz (by decide)
    refine ⟨_, rfl, _, rfl, _, _, _, _, _, rfl, R.ob, CR.c, CR.n3, rfl, o.kd, sa, es, keyW sy.ws, rfl, rfl, .inl R.kn, R.ents.keys, hkey (TK.refl H), ?_⟩
    cases hv : valE es (keyW sy.ws) with
    | some v =>
      refine ⟨false, rfl, iteF ?_⟩
      obtain ⟨e, he, ek, ev⟩ := valE_at hv
      obtain ⟨s', fl, h1, h2, h3, h4⟩ := R.ents e he
      obtain rfl : v = V.ref fl := ev.symm.trans h3
      have es1 : s' = sy := Say.inj (keyW_inj (h1.symm.trans ek))
      rw [es1] at h4
      refine ⟨_, rfl, _, _, _, _, _, rfl, R.ob, CR.c, CR.n3, rfl, _, rfl, o.kd, sa, es, keyW sy.ws, _, rfl, rfl, .inl R.kn, R.ents.keys, hkey (TK.refl H), hv, ?_⟩
      exact q fl H es (Kept.refl H) R (Nat.le_succ _) h4 fun W _ hW => ⟨fun z => hW e he (by rw [h3, z]), hW⟩
    | none =>
      refine ⟨true, rfl, iteT ?_⟩
      refine ⟨_, rfl, o.ro, o.dx, _, rfl, R.ob, rfl, _, rfl, o, _, rws, names, es, sy, rfl, R, CR, hsay, oks, D, fun p H1 k1 n1 fa => ?_⟩
      have R1 := R.kept k1
      refine ⟨_, rfl, _, _, _, _, _, rfl, R1.ob, CR.c, CR.n3, rfl, _, rfl, o.kd, sa, es, keyW sy.ws, rfl, rfl, R1.kn, R1.ents.keys, hkey (.of k1), hsz, ?_⟩
      rw [putE_new hv]
      obtain ⟨us, eus, rus⟩ := fa
      have pk : p ≠ o.kd := ne_of eus R1.kn (fun z => nomatch z)
      have tk1 : TK H1 (L2.upd H1 o.kd (DicO P w o.kd (es ++ [(keyW sy.ws, sa, V.ref p)]))) := (TK.refl H1).upd R1.kn (fun _ z => nomatch z) (fun _ _ z => nomatch z)
      have lk : ∀ {l : Addr} {ys : List V}, H1 l = some (.lst ys) → (L2.upd H1 o.kd (DicO P w o.kd (es ++ [(keyW sy.ws, sa, V.ref p)]))) l = some (.lst ys) := fun {l ys} h => by
        rw [upd_ne (ne_of h R1.kn (fun z => nomatch z))]
        exact h
      have fa2 : FoundAt K (L2.upd H1 o.kd (DicO P w o.kd (es ++ [(keyW sy.ws, sa, V.ref p)]))) p (workedL rws sy names) := ⟨us, lk eus, Paired.mapP rus fun _ _ q => q.tk tk1⟩
      have R2 : RulesAt K P w (L2.upd H1 o.kd (DicO P w o.kd (es ++ [(keyW sy.ws, sa, V.ref p)]))) o rws names (es ++ [(keyW sy.ws, sa, V.ref p)]) := by
        refine ⟨?_, ?_, ?_, upd_same, fun e he => ?_⟩
        · rw [upd_ne (ne_of R1.ob R1.kn (fun z => nomatch z))]
          exact R1.ob
        · obtain ⟨vs, h1, h2⟩ := R1.rows
          exact ⟨vs, lk h1, h2.tk tk1⟩
        · exact lk R1.ns
        · rcases List.mem_append.mp he with he | he
          · obtain ⟨s', fl, h1, h2, h3, vs, h4, h5⟩ := R1.ents e he
            exact ⟨s', fl, h1, sqT_tk tk1 h2, h3, vs, lk h4, Paired.mapP h5 fun _ _ q => q.tk tk1⟩
          · rw [List.mem_singleton.mp he]
            exact ⟨sy, p, rfl, sqT_tk ((TK.of k1).trans tk1) hsa, rfl, fa2⟩
      refine ⟨_, rfl, _, _, _, _, _, rfl, R2.ob, CR.c, CR.n3, rfl, _, rfl, o.kd, sa, _, keyW sy.ws, _, rfl, rfl, .inl R2.kn, R2.ents.keys, ?_, valE_snoc hv, ?_⟩
      · exact hkey ((TK.of k1).trans tk1)
      · refine q p _ _ ?_ R2 (by rw [List.length_append]; exact Nat.le_refl _) fa2 fun W hW hn => ?_
        · intro b u e hb
          rw [upd_ne (fun z => hb (by rw [z]; simp))]
          exact k1 b u e (by simp)
        · have pW : p ≠ W := fun z => hW (by rw [← z]; exact n1)
          refine ⟨pW, fun e he => ?_⟩
          rcases List.mem_append.mp he with he | he
          · exact hn e he
          · rw [List.mem_singleton.mp he]
            exact fun z => pW (V.ref.inj z)
end
end Ah
end
section
set_option Elab.async false
set_option linter.all false
set_option maxRecDepth 100000
set_option maxHeartbeats 4000000
namespace Ah
open PySem PySem.Spec PyProof.Rows L2
def Rw.of : List Str → Option Rw
  | [a, b] => if a = "on" then some (.on b) else none
  | [a, b, c] => if a = "is" then some (.is b c) else if a = "isnt" then some (.isnt b c) else if a = "all" then some (.all b c) else if a = "no" then some (.no b c) else if a = "turned" then some (.turned b c) else if a = "from" then some (.fr b c)
      else if a = "to" then some (.to b c) else if a = "under" then some (.under b c) else none
  | [a, b, c, d] => if a = "has" then some (.has b c d) else if a = "hasnt" then some (.hasnt b c d) else if a = "each" then some (.each b c d) else if a = "who" then some (.who b c d) else none
  | _ => none
theorem Rw.of_ws (r : Rw) : Rw.of r.ws = some r := by
  cases r <;> simp only [Rw.ws, Rw.of] <;> rfl
theorem Rw.inj {r s : Rw} (h : r.ws = s.ws) : r = s := by
  have h1 := Rw.of_ws r
  rw [h, Rw.of_ws s] at h1
  exact (Option.some.inj h1).symm
theorem rowsE_list {K : PySem.W.Frag} {H : Hp} {es : List Ent} {rs : List Rw} (h : RowsE K H es rs) : ∃ rws, RowsV K H (entRefs es) rws ∧ ∀ r, r ∈ rws ↔ r ∈ rs := by
  have go : ∀ l : List Ent, (∀ e ∈ l, e ∈ es) → ∃ rws : List Rw, Paired (fun e r => r ∈ rs ∧ e.1 = keyW (Rw.ws r) ∧ RowAt K H e.2.1 r) l rws := by
    intro l
    induction l with
    | nil => intro _; exact ⟨[], .nil⟩
    | cons e l ih =>
      intro sub
      obtain ⟨rws, r1⟩ := ih fun x hx => sub x (List.mem_cons_of_mem _ hx)
      obtain ⟨r, h1, h2, h3⟩ := h.at_ e (sub e (List.mem_cons_self ..))
      exact ⟨r :: rws, .cons ⟨h1, h2, h3⟩ r1⟩
  obtain ⟨rws, p⟩ := go es fun _ h => h
  refine ⟨rws, ?_, fun r => ⟨fun hr => ?_, fun hr => ?_⟩⟩
  · have mk : ∀ {l : List Ent} {rws : List Rw}, Paired (fun e r => r ∈ rs ∧ e.1 = keyW (Rw.ws r) ∧ RowAt K H e.2.1 r) l rws → RowsV K H (entRefs l) rws := by
      intro l rws q
      induction q with
      | nil => exact .nil
      | @cons e r l rws h t ih => exact .cons ⟨e.2.1, rfl, h.2.2⟩ ih
    exact mk p
  · have mk : ∀ {l : List Ent} {rws : List Rw}, Paired (fun e r => r ∈ rs ∧ e.1 = keyW (Rw.ws r) ∧ RowAt K H e.2.1 r) l rws → ∀ r ∈ rws, r ∈ rs := by
      intro l rws q
      induction q with
      | nil => intro r hr; exact nomatch hr
      | @cons e r0 l rws h t ih =>
        intro r hr
        rcases List.mem_cons.mp hr with z | z
        · rw [z]; exact h.1
        · exact ih r z
    exact mk p r hr
  · obtain ⟨e, he, ek⟩ := h.all_ r hr
    have mk : ∀ {l : List Ent} {rws : List Rw}, Paired (fun e r => r ∈ rs ∧ e.1 = keyW (Rw.ws r) ∧ RowAt K H e.2.1 r) l rws → e ∈ l → r ∈ rws := by
      intro l rws q
      induction q with
      | nil => intro hr; exact nomatch hr
      | @cons e0 r0 l rws h t ih =>
        intro hm
        rcases List.mem_cons.mp hm with z | z
        · have : r0 = r := Rw.inj (keyW_inj (h.2.1.symm.trans (by rw [← z]; exact ek)))
          rw [this]
          exact List.mem_cons_self ..
        · exact List.mem_cons_of_mem _ (ih z)
    exact mk p he
theorem pf1 {a : Addr} : putF "rows" (V.ref a) [] = ([("rows", V.ref a)] : List (Str × V)) := rfl
theorem pf2 {a b : Addr} : putF "names" (V.ref b) ([("rows", V.ref a)] : List (Str × V)) = ([("rows", V.ref a), ("names", V.ref b)] : List (Str × V)) := rfl
theorem pf3 {a b c : Addr} : putF "known" (V.ref c) ([("rows", V.ref a), ("names", V.ref b)] : List (Str × V)) = ([("rows", V.ref a), ("names", V.ref b), ("known", V.ref c)] : List (Str × V)) := rfl
theorem lt1 {p : Str × V} : [p].length < 1000 := Nat.lt_of_sub_eq_succ rfl
theorem lt2 {p q : Str × V} : [p, q].length < 1000 := Nat.lt_of_sub_eq_succ rfl
def spInit (K : PySem.W.Frag) (P : Program) (w : World) (C : Addr) : Sp := fun vs H Q _ => ∃ (x q na dx : Addr) (rs : List Rw) (names : List Str), vs = [.ref x, .ref q, .ref na] ∧ H x = some (.ins C dx []) ∧ TextAt H q rs ∧ rs.length ≤ 1000 ∧ H na = some (.lst (names.map V.str)) ∧
  ∀ H' (o : RObj) rws, o.ro = x → o.C = C → H o.kd = none → Kept [x] H H' → RulesAt K P w H' o rws names [] → (∀ r, r ∈ rws ↔ r ∈ rs) → rws.length ≤ rs.length → Q .non H'
section
variable {P : Program} {w : World} {K : PySem.W.Frag} {mg : Str → Option Value} {base : Heap} {f fP C : Addr} {fd fdP : FuncData}
theorem ok_init (F : MethP K "__init__" "Rules.__init__" sRInit f fd) (CR : ClsR K C) (B : Bl mg) (c_places_of : Own P w K mg base "places_of" 1 fP fdP ["rows"] (spPlaces K P w)) : FnOk P w K mg base CX0 2 f fd ["self", "rows", "names"] (spInit K P w C) := by
  refine F.ok scRI (fun vs H Q E h => ?_) (fun cdv A outer s H vs Q E hr h => ?_)
  · obtain ⟨x, q, na, dx, rs, names, rfl, _⟩ := h
    rfl
  · obtain ⟨x, q, na, dx, rs, names, rfl, hx, tx, hl, hns, k⟩ := h
    refine ⟨_, PSs.nox (pss_cons (ps_fld (pv 0) (pe_callTy (call_list_dic rfl) (by rfl) B.list_ (by decide +kernel) (pa_cons (pe_call c_places_of.ok hr (by rfl) c_places_of.g c_places_of.kp c_places_of.b .nil pass0 (pa_cons (pv 1) pa_nil)) pa_nil)) rfl)
      (pss_cons (ps_fld (pv 0) (pv 2) rfl)
      (pss_one (ps_fld (pv 0) pe_dicNew rfl)))), ?_⟩
    refine ⟨_, rfl, q, rs, rfl, tx, hl, fun p H1 es k1 e1 re hz => ⟨p, es, rfl, .inl e1, fun rl nrl => ?_⟩⟩
    have x1 : H1 x = some (.ins C dx []) := k1 _ _ hx (by simp)
    have xr : x ≠ rl := ne_of_none x1 nrl
    refine ⟨_, rfl, x, C, dx, [], rfl, by rw [upd_ne xr]; exact x1, CR.c, CR.n1, by decide, ?_⟩
    rw [pf1]
    refine ⟨_, rfl, _, rfl, x, C, dx, _, rfl, upd_same, CR.c, CR.n2, lt1, ?_⟩
    rw [pf2]
    intro kd nkd
    have kx : kd ≠ x := fun z => by
      rw [z, upd_same] at nkd
      cases nkd
    refine ⟨_, rfl, x, C, dx, _, rfl, by rw [upd_ne (Ne.symm kx)]; exact upd_same, CR.c, CR.n3, lt2, ?_⟩
    rw [pf3]
    obtain ⟨rws, hv, hm⟩ := rowsE_list re
    rw [upd_upd] at nkd ⊢
    rw [upd_ne kx] at nkd
    have krl : kd ≠ rl := fun z => by
      rw [z, upd_same] at nkd
      cases nkd
    rw [upd_ne krl] at nkd
    have n0 : ∀ {b : Addr} {o : HO}, H1 b = some o → b ≠ kd ∧ b ≠ rl := fun h => ⟨ne_of_none h nkd, ne_of_none h nrl⟩
    have old : ∀ {b : Addr} {o : HO}, H1 b = some o → b ≠ x → (L2.upd (L2.upd (L2.upd (L2.upd H1 rl (.lst (entRefs es))) x (.ins C dx [("rows", .ref rl), ("names", .ref na)])) kd (DicO P w kd [])) x (.ins C dx [("rows", .ref rl), ("names", .ref na), ("known", .ref kd)])) b = some o := fun {b o} h hb => by
      rw [upd_ne hb, upd_ne (n0 h).1, upd_ne hb, upd_ne (n0 h).2]
      exact h
    have tk : TK H1 (L2.upd (L2.upd (L2.upd (L2.upd H1 rl (.lst (entRefs es))) x (.ins C dx [("rows", .ref rl), ("names", .ref na)])) kd (DicO P w kd [])) x (.ins C dx [("rows", .ref rl), ("names", .ref na), ("known", .ref kd)])) :=
      ⟨fun b ys h => old h (ne_of h x1 (fun z => nomatch z)), fun b ob u h => old h (ne_of h x1 (fun z => nomatch z))⟩
    refine k _ ⟨x, C, dx, rl, na, kd⟩ rws rfl rfl (none_of k1 nkd) (fun b o h hb => old (k1 b o h (by simp)) (fun z => hb (by rw [z]; simp))) ⟨upd_same, ⟨entRefs es, ?_, hv.tk tk⟩, ?_, ?_, fun e he => absurd he (by simp)⟩ hm ?_
    · rw [upd_ne (Ne.symm xr), upd_ne (Ne.symm krl), upd_ne (Ne.symm xr)]
      exact upd_same
    · exact old (k1 _ _ hns (by simp)) (ne_of hns hx (fun z => nomatch z))
    · rw [upd_ne kx]
      exact upd_same
    · have h := hv.length
      rw [List.length_map] at h
      omega
end
end Ah
end
section
set_option Elab.async false
set_option linter.all false
set_option maxRecDepth 100000
set_option maxHeartbeats 4000000
namespace Ah
open PySem PySem.Spec PyProof.Rows L2
/-! ### what follows, as the program's leads tell it -/
def other (l : Lead) (s : Say) : Option Say := if l.1 = s then l.2.1 else some l.1
def sayOf : Rw → Option Say
  | .is n k => some (.is n k) | .has n t m => some (.has n t m) | _ => none
inductive Fol (rws : List Rw) (names : List Str) : Say → Prop where
  | base {r : Rw} {s : Say} : r ∈ rws → sayOf r = some s → Fol rws names s
  | one {s : Say} {l : Lead} : Fol rws names s → l ∈ workedL rws s names → other l s = none → Fol rws names l.2.2
  | two {s s2 : Say} {l : Lead} : Fol rws names s → l ∈ workedL rws s names → other l s = some s2 → Fol rws names s2 → Fol rws names l.2.2
def Say.names : Say → List Str
  | .is n _ => [n] | .has n _ m => [n, m] | .clash => []
theorem mem_worked {rws : List Rw} {s : Say} {names : List Str} {l : Lead} : l ∈ workedL rws s names ↔ ∃ r ∈ rws, l ∈ leadsBy r s names ∧ useful l = true := by
  unfold workedL
  rw [List.mem_flatMap]
  constructor
  · rintro ⟨r, h1, h2⟩
    rw [List.mem_filter] at h2
    exact ⟨r, h1, h2⟩
  · rintro ⟨r, h1, h2⟩
    exact ⟨r, h1, List.mem_filter.mpr h2⟩
/-- a lead of two sayings is told by either -/
theorem lead_sym {r : Rw} {s s2 : Say} {names : List Str} {l : Lead} (hs : ∀ x ∈ s.names, x ∈ names) (hl : l ∈ leadsBy r s names) (ho : other l s = some s2) : ∃ l' ∈ leadsBy r s2 names, l'.2.2 = l.2.2 ∧ other l' s2 = some s ∧ (useful l = true → useful l' = true) := by
  cases s with
  | clash => exact absurd hl (by simp [leadsBy])
  | is n k =>
    cases r <;> simp only [leadsBy, leadsKind] at hl <;> (try split at hl) <;> (try simp only [List.mem_cons, List.mem_map, List.not_mem_nil, or_false] at hl) <;> (try exact hl.elim)
    all_goals first
      | (subst hl; simp [other] at ho; done)
      | skip
    · rename_i k1 k2 hk
      subst hl
      have ho' : (if (if k1 = k then k2 else k1) = k then none else some (Say.is n (if k1 = k then k2 else k1))) = some s2 := by
        unfold other at ho
        rw [if_pos rfl] at ho
        exact ho
      by_cases h1 : k1 = k
      · rw [if_pos h1] at ho'
        by_cases h2 : k2 = k
        · rw [if_pos h2] at ho'
          cases ho'
        · rw [if_neg h2] at ho'
          rw [← Option.some.inj ho']
          have h3 : ¬ k1 = k2 := fun z => h2 (z ▸ h1)
          refine ⟨(.is n k2, some (.is n k), .clash), ?_, rfl, by simp [other], fun _ => by simp [useful]⟩
          simp [leadsBy, leadsKind, h3, h1, Ne.symm h2, show ¬ k = k2 from fun z => h2 z.symm]
      · have h2 : k2 = k := by
          rcases List.mem_cons.mp hk with z | z
          · exact absurd z.symm h1
          · exact (List.mem_singleton.mp z).symm
        rw [if_neg h1, if_neg h1] at ho'
        rw [← Option.some.inj ho']
        refine ⟨(.is n k1, some (.is n k), .clash), ?_, rfl, by simp [other], fun _ => by simp [useful]⟩
        simp [leadsBy, leadsKind, h2, show ¬ k = k1 from fun z => h1 z.symm]
    · rename_i a b c hk
      obtain ⟨x, hx, rfl⟩ := hl
      have ho' : some (Say.has x a n) = some s2 := by
        unfold other at ho
        rw [if_neg (fun z => nomatch z)] at ho
        exact ho
      rw [← Option.some.inj ho']
      refine ⟨(.has x a n, some (.is n b), .is x c), by simp [leadsBy, leadsTie], rfl, by simp [other, hk], fun h => by simpa [useful, hk] using h⟩
  | has n t m =>
    cases r <;> simp only [leadsBy, leadsTie, leadsOn] at hl <;> (try split at hl) <;> (try simp only [List.mem_cons, List.mem_map, List.not_mem_nil, or_false, List.mem_append] at hl) <;> (try exact hl.elim)
    all_goals first
      | (subst hl; simp [other] at ho; done)
      | skip
    · rename_i a b c hk
      subst hl
      have ho' : some (Say.is m b) = some s2 := by
        unfold other at ho
        rw [if_pos rfl] at ho
        exact ho
      rw [← Option.some.inj ho']
      refine ⟨(.has n a m, some (.is m b), .is n c), ?_, rfl, by simp [other, hk], fun h => by simpa [useful, hk] using h⟩
      simp only [leadsBy, leadsKind, if_true, List.mem_map]
      exact ⟨n, hs n (by simp [Say.names]), rfl⟩
    · rename_i a hk
      subst hk
      rcases hl with ⟨x, hx, rfl⟩ | ⟨x, hx, rfl⟩
      · have ho' : some (Say.has m a x) = some s2 := by
          unfold other at ho
          rw [if_pos rfl] at ho
          exact ho
        rw [← Option.some.inj ho']
        refine ⟨(.has n a m, some (.has m a x), .has n a x), ?_, rfl, ?_, fun h => h⟩
        · simp only [leadsBy, leadsTie, leadsOn, if_true, List.mem_append, List.mem_map]
          exact .inr ⟨n, hs n (by simp [Say.names]), rfl⟩
        · unfold other
          split
          · rename_i e
            exact congrArg some e.symm
          · rfl
      · by_cases e : Say.has x a n = Say.has n a m
        · have ho' : some (Say.has n a m) = some s2 := by
            unfold other at ho
            rw [if_pos e] at ho
            exact ho
          rw [← Option.some.inj ho']
          refine ⟨(.has x a n, some (.has n a m), .has x a m), ?_, rfl, ?_, fun h => h⟩
          · simp only [leadsBy, leadsTie, leadsOn, if_true, List.mem_append, List.mem_map]
            exact .inr ⟨x, hx, rfl⟩
          · unfold other
            rw [if_pos e]
        · have ho' : some (Say.has x a n) = some s2 := by
            unfold other at ho
            rw [if_neg e] at ho
            exact ho
          rw [← Option.some.inj ho']
          refine ⟨(.has x a n, some (.has n a m), .has x a m), ?_, rfl, ?_, fun h => h⟩
          · simp only [leadsBy, leadsTie, leadsOn, if_true, List.mem_append, List.mem_map]
            exact .inl ⟨m, hs m (by simp [Say.names]), rfl⟩
          · unfold other
            rw [if_pos rfl]
theorem worked_sym {rws : List Rw} {s s2 : Say} {names : List Str} {l : Lead} (hs : ∀ x ∈ s.names, x ∈ names) (hl : l ∈ workedL rws s names) (ho : other l s = some s2) : ∃ l' ∈ workedL rws s2 names, l'.2.2 = l.2.2 ∧ other l' s2 = some s := by
  obtain ⟨r, h1, h2, h3⟩ := mem_worked.mp hl
  obtain ⟨l', g1, g2, g3, g4⟩ := lead_sym hs h2 ho
  exact ⟨l', mem_worked.mpr ⟨r, h1, g1, g4 h3⟩, g2, g3⟩
/-- a set of sayings that is closed so holds all that follows -/
theorem fol_least {rws : List Rw} {names : List Str} {M : Say → Prop} (h0 : ∀ r ∈ rws, ∀ s, sayOf r = some s → M s) (h1 : ∀ s l, M s → l ∈ workedL rws s names → (other l s = none ∨ ∃ s2, other l s = some s2 ∧ M s2) → M l.2.2) : ∀ s, Fol rws names s → M s := by
  intro s h
  induction h with
  | base hr e => exact h0 _ hr _ e
  | one _ hl ho ih => exact h1 _ _ ih hl (.inl ho)
  | two _ hl ho _ ih ih2 => exact h1 _ _ ih hl (.inr ⟨_, ho, ih2⟩)
end Ah
end
section
set_option Elab.async false
set_option linter.all false
set_option maxRecDepth 100000
set_option maxHeartbeats 4000000
namespace Ah
open PySem PySem.Spec PyProof.Rows L2
theorem len_sub {α : Type} : ∀ (l m : List α), l.Nodup → (∀ x ∈ l, x ∈ m) → l.length ≤ m.length
  | [], _, _, _ => Nat.zero_le _
  | a :: l, m, hn, h => by
    obtain ⟨m1, m2, e⟩ := List.append_of_mem (h a (List.mem_cons_self ..))
    rw [List.nodup_cons] at hn
    have ih := len_sub l (m1 ++ m2) hn.2 fun x hx => by
      have hx2 := h x (List.mem_cons_of_mem _ hx)
      rw [e] at hx2
      rcases List.mem_append.mp hx2 with q | q
      · exact List.mem_append_left _ q
      · rcases List.mem_cons.mp q with z | z
        · exact absurd (z ▸ hx) hn.1
        · exact List.mem_append_right _ z
    rw [e, List.length_append, List.length_cons]
    rw [List.length_append] at ih
    rw [List.length_cons]
    omega
theorem paired_last {α β : Type} {R : α → β → Prop} : ∀ {ws : List α} {ss : List β}, Paired R ws ss → ss ≠ [] → ∃ ws0 y ss0 s, ws = ws0 ++ [y] ∧ ss = ss0 ++ [s] ∧ Paired R ws0 ss0 ∧ R y s
  | _, _, .nil, h => (h rfl).elim
  | a :: ws, b :: ss, .cons h t, _ => by
    cases ss with
    | nil =>
      cases t
      exact ⟨[], a, [], b, rfl, rfl, .nil, h⟩
    | cons c ss =>
      obtain ⟨ws0, y, ss0, s, e1, e2, r, q⟩ := paired_last t (fun z => nomatch z)
      exact ⟨a :: ws0, y, b :: ss0, s, by rw [e1]; rfl, by rw [e2]; rfl, .cons h r, q⟩
/-- the saying is a key -/
def HasE (es : List Ent) (s : Say) : Prop := ∃ e ∈ es, e.1 = keyW s.ws
theorem hasE_val {es : List Ent} {s : Say} : HasE es s ↔ (valE es (keyW s.ws)).isSome = true := by
  rw [valE_mem]
  constructor
  · rintro ⟨e, h1, h2⟩
    exact List.mem_map.mpr ⟨e, h1, h2⟩
  · intro h
    obtain ⟨e, h1, h2⟩ := List.mem_map.mp h
    exact ⟨e, h1, h2⟩
/-- the keys are sayings that follow -/
def SayE (K : PySem.W.Frag) (H : Hp) (rws : List Rw) (names : List Str) (es : List Ent) : Prop := ∀ e ∈ es, ∃ s, Fol rws names s ∧ e.1 = keyW s.ws ∧ SqT K H e.2.1 (s.ws.map V.str)
theorem SayE.keys {K : PySem.W.Frag} {H : Hp} {rws : List Rw} {names : List Str} {es : List Ent} (h : SayE K H rws names es) : KeysIn K H es := fun e he => by
  obtain ⟨s, _, h1, h2⟩ := h e he
  rw [h1, keyW_kV]
  exact h2
theorem SayE.tk {K : PySem.W.Frag} {H H' : Hp} {rws : List Rw} {names : List Str} {es : List Ent} (k : TK H H') (h : SayE K H rws names es) : SayE K H' rws names es := fun e he => let ⟨s, h1, h2, h3⟩ := h e he; ⟨s, h1, h2, sqT_tk k h3⟩
theorem SayE.fol {K : PySem.W.Frag} {H : Hp} {rws : List Rw} {names : List Str} {es : List Ent} (h : SayE K H rws names es) {s : Say} (hs : HasE es s) : Fol rws names s := by
  obtain ⟨e, he, e1⟩ := hs
  obtain ⟨s', h1, h2, _⟩ := h e he
  rw [Say.inj (keyW_inj (e1.symm.trans h2))]
  exact h1
/-- another list is written -/
theorem RulesAt.updL {K : PySem.W.Frag} {P : Program} {w : World} {H : Hp} {o : RObj} {rws : List Rw} {names : List Str} {es : List Ent} {Wz : Addr} {ws ws' : List V} (h : RulesAt K P w H o rws names es) (hW : H Wz = some (.lst ws)) (n1 : o.rl ≠ Wz) (n2 : o.na ≠ Wz) (n3 : ∀ e ∈ es, e.2.2 ≠ V.ref Wz) :
    RulesAt K P w (L2.upd H Wz (.lst ws')) o rws names es := by
  have tk : TK H (L2.upd H Wz (.lst ws')) := (TK.refl H).updL hW
  refine ⟨?_, ?_, ?_, ?_, fun e he => ?_⟩
  · rw [upd_ne (ne_of h.ob hW (fun z => nomatch z))]
    exact h.ob
  · obtain ⟨vs, h1, h2⟩ := h.rows
    exact ⟨vs, by rw [upd_ne n1]; exact h1, h2.tk tk⟩
  · rw [upd_ne n2]
    exact h.ns
  · rw [upd_ne (ne_of h.kn hW (fun z => nomatch z))]
    exact h.kn
  · obtain ⟨s, fl, h1, h2, h3, vs, h4, h5⟩ := h.ents e he
    exact ⟨s, fl, h1, sqT_tk tk h2, h3, vs, by rw [upd_ne (fun z => n3 e he (by rw [h3, z]))]; exact h4, Paired.mapP h5 fun _ _ q => q.tk tk⟩
theorem RulesAt.updD {K : PySem.W.Frag} {P : Program} {w : World} {H : Hp} {o : RObj} {rws : List Rw} {names : List Str} {es es1 es2 : List Ent} {Dz : Addr} (h : RulesAt K P w H o rws names es) (hD : H Dz = some (DicO P w Dz es1)) (n1 : o.kd ≠ Dz) :
    RulesAt K P w (L2.upd H Dz (DicO P w Dz es2)) o rws names es := by
  have tk : TK H (L2.upd H Dz (DicO P w Dz es2)) := (TK.refl H).upd hD (fun _ z => nomatch z) (fun _ _ z => nomatch z)
  have lk : ∀ {l : Addr} {ys : List V}, H l = some (.lst ys) → (L2.upd H Dz (DicO P w Dz es2)) l = some (.lst ys) := fun {l ys} q => by
    rw [upd_ne (ne_of q hD (fun z => nomatch z))]
    exact q
  refine ⟨?_, ?_, ?_, ?_, fun e he => ?_⟩
  · rw [upd_ne (ne_of h.ob hD (fun z => nomatch z))]
    exact h.ob
  · obtain ⟨vs, h1, h2⟩ := h.rows
    exact ⟨vs, lk h1, h2.tk tk⟩
  · exact lk h.ns
  · rw [upd_ne n1]
    exact h.kn
  · obtain ⟨s, fl, h1, h2, h3, vs, h4, h5⟩ := h.ents e he
    exact ⟨s, fl, h1, sqT_tk tk h2, h3, vs, lk h4, Paired.mapP h5 fun _ _ q => q.tk tk⟩
theorem kM_far {M : List Addr} {H H' : Hp} {D : Addr} {o : HO} (n : H D = none) (k : Kept M H H') : Kept M H (L2.upd H' D o) := Kept.far (Kept.refl H) n k
/-- what is fixed while the sayings are gathered -/
structure AllFix (H : Hp) (o : RObj) (rws : List Rw) (names : List Str) (U : List Say) (Dz Wz : Addr) : Prop where
  nD : H Dz = none
  nW : H Wz = none
  n1 : o.rl ≠ Wz
  n2 : o.na ≠ Wz
  n3 : o.kd ≠ Dz
  d : OkD rws names
  u1 : U.length ≤ 1000
  u2 : ∀ s, Fol rws names s → s ∈ U
  u3 : ∀ s ∈ U, okW s.ws ∧ ∀ x ∈ s.names, x ∈ names
/-- within the loop over the leads of s -/
structure AllFor (K : PySem.W.Frag) (P : Program) (w : World) (H : Hp) (o : RObj) (rws : List Rw) (names : List Str) (Dz Wz : Addr) (s : Say) (es2 esk : List Ent) (ss0 : List Say) (fl : Addr) (fvs : List V) (H' : Hp) (j : Nat) (Hd : Hp) (ws : List V) (ss : List Say) : Prop where
  w1 : Hd Wz = some (.lst ws)
  w2 : Paired (fun v s => SayAt K Hd v s) ws ss
  f : ∀ s ∈ ss, Fol rws names s
  old : ∀ s ∈ ss0, s ∈ ss
  new : ∀ l ∈ (workedL rws s names).take j, (other l s = none ∨ ∃ s2, other l s = some s2 ∧ HasE es2 s2) → l.2.2 ∈ ss
  len : ss.length ≤ ss0.length + j
  d : Hd Dz = some (DicO P w Dz es2)
  R : RulesAt K P w Hd o rws names esk
  wk : ∀ e ∈ esk, e.2.2 ≠ V.ref Wz
  kp : Kept [o.kd] H Hd
  fl1 : Hd fl = some (.lst fvs)
  fl2 : fl ≠ Wz
  tk : TK H' Hd
theorem AllFor.push {K : PySem.W.Frag} {P : Program} {w : World} {H : Hp} {o : RObj} {rws : List Rw} {names : List Str} {U : List Say} {Dz Wz : Addr} {s : Say} {es2 esk : List Ent} {ss0 : List Say} {fl : Addr} {fvs : List V} {H' : Hp} {j : Nat} {Hd : Hp} {ws : List V} {ss : List Say} {l : Lead} {v : V}
    (X : AllFix H o rws names U Dz Wz) (h : AllFor K P w H o rws names Dz Wz s es2 esk ss0 fl fvs H' j Hd ws ss) (hl : (workedL rws s names)[j]? = some l) (hv : SayAt K Hd v l.2.2) (hf : Fol rws names l.2.2) :
    AllFor K P w H o rws names Dz Wz s es2 esk ss0 fl fvs H' (j + 1) (L2.upd Hd Wz (.lst (ws ++ [v]))) (ws ++ [v]) (ss ++ [l.2.2]) := by
  have tk : TK Hd (L2.upd Hd Wz (.lst (ws ++ [v]))) := (TK.refl Hd).updL h.w1
  refine ⟨upd_same, paired_app (Paired.mapP h.w2 fun _ _ q => q.tk tk) (.cons (hv.tk tk) .nil), fun x hx => ?_, fun x hx => List.mem_append_left _ (h.old x hx), fun l' hl' c => ?_, ?_, ?_, h.R.updL h.w1 X.n1 X.n2 h.wk, h.wk, kM_far X.nW h.kp, ?_, h.fl2, h.tk.trans tk⟩
  · rcases List.mem_append.mp hx with q | q
    · exact h.f x q
    · rw [List.mem_singleton.mp q]
      exact hf
  · rcases (mem_take_succ hl).mp hl' with q | q
    · exact List.mem_append_left _ (h.new l' q c)
    · rw [q]
      exact List.mem_append_right _ (List.mem_singleton.mpr rfl)
  · rw [List.length_append, List.length_singleton]
    have := h.len
    omega
  · rw [upd_ne (ne_of h.d h.w1 (fun z => nomatch z))]
    exact h.d
  · rw [upd_ne h.fl2]
    exact h.fl1
theorem AllFor.skip {K : PySem.W.Frag} {P : Program} {w : World} {H : Hp} {o : RObj} {rws : List Rw} {names : List Str} {Dz Wz : Addr} {s : Say} {es2 esk : List Ent} {ss0 : List Say} {fl : Addr} {fvs : List V} {H' : Hp} {j : Nat} {Hd : Hp} {ws : List V} {ss : List Say} {l : Lead}
    (h : AllFor K P w H o rws names Dz Wz s es2 esk ss0 fl fvs H' j Hd ws ss) (hl : (workedL rws s names)[j]? = some l) (hn : ¬ (other l s = none ∨ ∃ s2, other l s = some s2 ∧ HasE es2 s2)) :
    AllFor K P w H o rws names Dz Wz s es2 esk ss0 fl fvs H' (j + 1) Hd ws ss := by
  refine ⟨h.w1, h.w2, h.f, h.old, fun l' hl' c => ?_, ?_, h.d, h.R, h.wk, h.kp, h.fl1, h.fl2, h.tk⟩
  · rcases (mem_take_succ hl).mp hl' with q | q
    · exact h.new l' q c
    · rw [q] at c
      exact absurd c hn
  · have := h.len
    omega
/-- at the while -/
structure AllInv (K : PySem.W.Frag) (P : Program) (w : World) (H : Hp) (o : RObj) (rws : List Rw) (names : List Str) (Dz Wz : Addr) (n0 : Nat) (Ha : Hp) (es esk : List Ent) (ws : List V) (ss : List Say) : Prop where
  d : Ha Dz = some (DicO P w Dz es)
  nd : (es.map (·.1)).Nodup
  se : SayE K Ha rws names es
  w1 : Ha Wz = some (.lst ws)
  w2 : Paired (fun v s => SayAt K Ha v s) ws ss
  f : ∀ s ∈ ss, Fol rws names s
  R : RulesAt K P w Ha o rws names esk
  kl : esk.length ≤ es.length + n0
  wk : ∀ e ∈ esk, e.2.2 ≠ V.ref Wz
  kp : Kept [o.kd] H Ha
  sl : ss.length ≤ 1000 + es.length * (rws.length * (2 * names.length + 1))
  base : ∀ r ∈ rws, ∀ s, sayOf r = some s → HasE es s ∨ s ∈ ss
  step : ∀ s l, HasE es s → l ∈ workedL rws s names → (other l s = none ∨ ∃ s2, other l s = some s2 ∧ HasE es s2) → HasE es l.2.2 ∨ l.2.2 ∈ ss
theorem AllInv.len {K : PySem.W.Frag} {P : Program} {w : World} {H : Hp} {o : RObj} {rws : List Rw} {names : List Str} {U : List Say} {Dz Wz : Addr} {n0 : Nat} {Ha : Hp} {es esk : List Ent} {ws : List V} {ss : List Say} (X : AllFix H o rws names U Dz Wz) (h : AllInv K P w H o rws names Dz Wz n0 Ha es esk ws ss) : es.length ≤ U.length := by
  have q := len_sub (es.map (·.1)) (U.map fun s => keyW s.ws) h.nd fun k hk => by
    obtain ⟨e, he, rfl⟩ := List.mem_map.mp hk
    obtain ⟨s, h1, h2, _⟩ := h.se e he
    exact List.mem_map.mpr ⟨s, X.u2 s h1, h2.symm⟩
  rw [List.length_map, List.length_map] at q
  exact q
end Ah
end
section
set_option Elab.async false
set_option linter.all false
set_option maxRecDepth 100000
set_option maxHeartbeats 8000000
namespace Ah
open PySem PySem.Spec PyProof.Rows L2
theorem scAR : FnScope ["rules", "found", "waiting", "row", "saying", "_", "first", "second", "result", "other"] ["rules"] (defScope sAll) := ⟨rfl, rfl, rfl, by decide +kernel, rfl, by decide +kernel, by decide +kernel⟩
def spAll (K : PySem.W.Frag) (P : Program) (w : World) (C : Addr) : Sp := fun vs H Q _ => ∃ (o : RObj) (rws : List Rw) (names : List Str) (esk : List Ent) (U : List Say), vs = [.ref o.ro] ∧ o.C = C ∧ RulesAt K P w H o rws names esk ∧ OkD rws names ∧ esk.length ≤ 1000 ∧ U.length ≤ 1000 ∧ (U.length + 1) * (rws.length * (2 * names.length + 1)) ≤ 10000000 ∧
  (∀ s, Fol rws names s → s ∈ U) ∧ (∀ s ∈ U, okW s.ws ∧ ∀ x ∈ s.names, x ∈ names) ∧
  ∀ p H' es, Kept [o.kd] H H' → H p = none → H' p = some (DicO P w p es) → SayE K H' rws names es → (∀ s, HasE es s ↔ Fol rws names s) → (es.map (·.1)).Nodup → es.length ≤ 1000 → Q (.ref p) H'
theorem row_test (r : Rw) : ∃ h rest, r.ws = h :: rest ∧ inV (V.str h) [V.str "is", V.str "has"] = (sayOf r).isSome := by
  cases r <;> exact ⟨_, _, rfl, by rfl⟩
theorem say_ws {r : Rw} {s : Say} (h : sayOf r = some s) : r.ws = s.ws := by
  cases r <;> simp [sayOf] at h <;> subst h <;> rfl
section
variable {P : Program} {w : World} {K : PySem.W.Frag} {mg : Str → Option Value} {base : Heap} {f fL C : Addr} {fd fdL : FuncData}
theorem ok_all (F : FnP K "all_results" sAll f fd) (CR : ClsR K C) (mL : Meth K C "leads" fL) (FL : FnOk P w K mg base CX0 5 fL fdL ["self", "saying"] (spLeads K P w C)) (bL : Binds K fdL ["self", "saying"] []) :
    FnOk P w K mg base CX0 6 f fd ["rules"] (spAll K P w C) := by
  refine F.ok scAR (fun vs H Q E h => ?_) (fun cdv A outer s H vs Q E hr h => ?_)
  · obtain ⟨o, rws, names, esk, U, rfl, _⟩ := h
    rfl
  · obtain ⟨o, rws, names, esk0, U, rfl, rfl, R, D, hk0, hU1, hB, hU2, hU3, q⟩ := h
    have hu : A.units + 3 + 1 < cLine := by have := hr.units; exact (by have h2 : (A.deeper (envOfC "all_results" (defScope sAll) s.heap.objs.size f cdv)).units = A.units + 3 := rfl; omega)
    refine ⟨_, PSs.nox (pss_cons (ps_set (i := 1) scAR.nd rfl (.inl rfl) pe_dicNew)
      (pss_cons (ps_setLc (i := 2) (own := [("row", 3)]) rfl scAR.nd rfl rfl (sw_true rfl rfl rfl (by decide +kernel)) (pi_list (pe_fld (pv 0) rfl)) (blkOk_by (N := ["rules", "found", "waiting", "row", "saying", "_", "first", "second", "result", "other"]) (sc := defScope sAll) (by decide +kernel)) (fun _ _ _ _ _ => (pg_name (i := 3) scAR.nd rfl (Or.inl rfl))) (fun _ _ _ _ _ => (pts_one (pt_cmpR (show OpR _ _ (rIn K false) from op_in_seq) (pe_ix (show IxR _ (rIxT K) from ix_tup) (pv 3) pe_int (fun _ _ => rfl)) (pe_tup (pa_cons pe_str (pa_cons pe_str pa_nil))) (by rfl)))) (fun _ _ _ _ _ => (pv 3)))
      (pss_cons (ps_while PassesOwn.never (pt_truth (pv 2) (by intro _; rfl))
      (pss_cons (ps_set (i := 4) scAR.nd rfl (.inl rfl) (pe_bm0 PySem.F.plainAttrs_list PySem.F.slot_list_pop PySem.F.type_list_pop mt_pop (pv 2)))
      (pss_one (ps_if (pt_cmpR (op_notIn_dic hu) (pv 4) (pv 1) (by rfl)) (pss_cons (ps_asg pe_bl (pg_sub (pv 1) (pv 4) (set_dic hu)))
      (pss_one (ps_for PassesOwn.never rfl (pi_list (pe_meth (pv 0) CR.c mL FL hr bL .nil pass0 (pa_cons (pv 4) pa_nil))) (pg_tup rfl (pgs_cons (pg_name (i := 5) scAR.nd rfl (Or.inl rfl)) (pgs_cons (pg_name (i := 6) scAR.nd rfl (Or.inl rfl)) (pgs_cons (pg_name (i := 7) scAR.nd rfl (Or.inl rfl)) (pgs_cons (pg_name (i := 8) scAR.nd rfl (Or.inl rfl)) pgs_nil)))))
      (pss_cons (ps_set (i := 9) scAR.nd rfl (.inl rfl) (pe_ifExp (pt_cmpR (op_eqD hr.units) (pv 6) (pv 4) (nomark _)) (pv 7) (pv 6)))
      (pss_one (ps_if (PW.pt (pw_or (pt_cmpR op_isN (pv 9) pe_non (nomark _)) (pw_or1 (pt_cmpR (op_in_dic hu) (pv 9) (pv 1) (by rfl))))) (pss_one (ps_expr (pe_bm PySem.F.plainAttrs_list PySem.F.slot_list_append PySem.F.type_list_append mt_append (pv 2) (pa_cons (pv 8) pa_nil)))) pss_nil)))))) pss_nil))))
      (pss_one (ps_ret (pv 1)))))), ?_⟩
    intro Dz nD
    have R1 := R.kept ((Kept.refl (M := []) H).upd (o := DicO P w Dz []) nD)
    obtain ⟨vs, hvs, rvs⟩ := R1.rows
    have lvs : vs.length = rws.length := rvs.length
    refine ⟨_, rfl, _, _, _, _, _, rfl, R1.ob, CR.c, CR.n1, rfl, o.rl, rfl, ⟨vs, .inl (.of hvs)⟩, fun Wz nW => ?_⟩
    have nW0 : H Wz = none := none_of ((Kept.refl H).upd nD) nW
    have dw : Dz ≠ Wz := fun z => by
      rw [← z, upd_same] at nW
      cases nW
    have X : AllFix H o rws names U Dz Wz := by
      refine ⟨nD, nW0, ne_of_none hvs nW, ?_, ?_, D, hU1, hU2, hU3⟩
      · exact ne_of_none R1.ns nW
      · exact ne_of_none R.kn nD
    refine lc_it (walk_list (K := K) (a := o.rl) (xs := vs)) (fun i Ha => ∃ ws, Ha Wz = some (.lst ws) ∧ Paired (fun v s => SayAt K Ha v s) ws ((rws.take i).filterMap sayOf) ∧ Kept [] (L2.upd H Dz (DicO P w Dz [])) Ha)
      ⟨[], upd_same, .nil, (Kept.refl _).upd nW⟩ (fun i Ha _ pv => .inl (.of (pv.choose_spec.2.2 _ _ hvs (by simp)))) ?_ ?_
    · rintro i x Ha0 Ha hi ⟨ws, e1, r1, kk⟩ ⟨rfl, ey⟩
      obtain ⟨r, er, pr, rfl, hrow0⟩ := paired_at rvs ey
      have hrow : RowAt K Ha pr r := sqT_tk (.of kk) hrow0
      obtain ⟨hd, rest, ew, ei⟩ := row_test r
      have hrow2 : SqT K Ha pr (V.str hd :: rest.map V.str) := by
        unfold RowAt at hrow
        rw [ew] at hrow
        exact hrow
      refine ⟨rfl, ?_⟩
      refine ⟨_, rfl, pr, _, 0, _, rfl, rfl, hrow2, at_of (j := 0) rfl rfl, (by show 2 ≤ sizeLine; decide), fun Tp nT => ⟨Tp, _, rfl, .inr (.inl (.of upd_same)), rfl, rfl, ?_⟩⟩
      have eW : (L2.upd Ha Tp (.tup [V.str "is", V.str "has"])) Wz = some (.lst ws) := by rw [upd_ne (ne_of_none e1 nT)]; exact e1
      have kT : Kept [] (L2.upd H Dz (DicO P w Dz [])) (L2.upd Ha Tp (.tup [V.str "is", V.str "has"])) := kk.upd nT
      have tkT : TK Ha (L2.upd Ha Tp (.tup [V.str "is", V.str "has"])) := (TK.refl Ha).new nT
      have et : (rws.take (i + 1)).filterMap sayOf = (rws.take i).filterMap sayOf ++ (sayOf r).toList := by
        rw [List.take_add_one, er, List.filterMap_append]
        congr 1
      simp only [Bool.false_eq_true, if_false]
      rw [ei]
      cases hs : sayOf r with
      | none =>
        refine ⟨false, rfl, iteF ⟨ws, eW, ?_, kT⟩⟩
        rw [et, hs]
        simp only [Option.toList, List.append_nil]
        exact Paired.mapP r1 fun _ _ q => q.tk tkT
      | some sy =>
        have lw : ws.length ≤ 1000 := by
          have h1 := r1.length
          have h2 := List.length_filterMap_le sayOf (rws.take i)
          rw [List.length_take] at h2
          have h3 := D.l1
          omega
        refine ⟨true, rfl, iteT ⟨_, rfl, ws, eW, Nat.lt_of_le_of_lt lw (by decide), ws ++ [V.ref pr], upd_same, ?_, kD_far nW kT⟩⟩
        rw [et, hs]
        have tk2 := tkT.updL (o := .lst (ws ++ [V.ref pr])) eW
        refine paired_app (Paired.mapP r1 fun _ _ q => q.tk tk2) (.cons ⟨pr, rfl, ?_⟩ .nil)
        have h1 := sqT_tk tk2 hrow
        rw [say_ws hs] at h1
        exact h1
    · rintro Ha ⟨ws, e1, r1, kk⟩
      rw [lvs, List.take_of_length_le (Nat.le_refl _)] at r1
      have R2 := R1.kept kk
      have kH : Kept [o.kd] H Ha := fun b u e hb => kk _ _ (((Kept.refl (M := []) H).upd (o := DicO P w Dz []) nD) _ _ e (by simp)) (by simp)
      have I0 : AllInv K P w H o rws names Dz Wz esk0.length Ha [] esk0 ws (rws.filterMap sayOf) := by
        refine ⟨kk _ _ upd_same (by simp), List.nodup_nil, fun e he => absurd he (by simp), e1, r1, fun s hs => ?_, R2, by simp, fun e he => ?_, kH, (by have h1 := List.length_filterMap_le sayOf rws; have h2 := D.l1; simp only [List.length_nil]; omega), fun r hr s hs => .inr (List.mem_filterMap.mpr ⟨r, hr, hs⟩), fun s l h => absurd h (by rintro ⟨e, he, _⟩; exact absurd he (by simp))⟩
        · obtain ⟨r, hr, e⟩ := List.mem_filterMap.mp hs
          exact .base hr e
        · obtain ⟨s', fl, h1, h2, h3, vs', h4, h5⟩ := R1.ents e he
          rw [h3]
          exact fun z => ne_of_none h4 nW (V.ref.inj z)
      refine ⟨fun m σ Ha => ∃ es esk ws ss, (∃ v3 v4 v5 v6 v7 v8 v9, σ = [some (.ref o.ro), some (.ref Dz), some (.ref Wz), v3, v4, v5, v6, v7, v8, v9]) ∧ AllInv K P w H o rws names Dz Wz esk0.length Ha es esk ws ss ∧ m = (U.length - es.length) * (1000 * 2001 + 1) + ss.length,
        ⟨_, [], esk0, ws, _, ⟨_, _, _, _, _, _, _, rfl⟩, I0, rfl⟩, ?_⟩
      rintro m σ Ha ⟨es, esk, ws, ss, ⟨v3, v4, v5, v6, v7, v8, v9, rfl⟩, I, rfl⟩
      by_cases hss : ss = []
      · subst hss
        have ew : ws = [] := by
          have h := I.w2.length
          cases ws with
          | nil => rfl
          | cons a b => simp at h
        subst ew
        refine ⟨_, rfl, false, .inl ⟨[], .inl (.of I.w1), rfl⟩, iteF ?_⟩
        refine ⟨_, rfl, q Dz Ha es I.kp nD I.d I.se (fun s => ⟨fun h => I.se.fol h, fun h => ?_⟩) I.nd (Nat.le_trans (I.len X) hU1)⟩
        refine fol_least (M := HasE es) (fun r hr s hs => ?_) (fun s l hs hl ho => ?_) s h
        · rcases I.base r hr s hs with z | z
          · exact z
          · exact absurd z (by simp)
        · rcases I.step s l hs hl ho with z | z
          · exact z
          · exact absurd z (by simp)
      · obtain ⟨ws0, y, ss0, sy, e1', e2', r0, hsy⟩ := paired_last I.w2 hss
        subst e1' e2'
        have fs : Fol rws names sy := I.f sy (List.mem_append_right _ (List.mem_singleton.mpr rfl))
        have oks := (hU3 sy (hU2 sy fs)).1
        have lU := I.len X
        have sl0 : ss0.length ≤ 1000 + es.length * (rws.length * (2 * names.length + 1)) := by
          have h := I.sl
          rw [List.length_append, List.length_singleton] at h
          omega
        refine ⟨_, rfl, true, .inl ⟨ws0 ++ [y], .inl (.of I.w1), by simp⟩, iteT ?_⟩
        refine ⟨fun σ' H' => ∃ m', m' < (U.length - es.length) * (1000 * 2001 + 1) + (ss0 ++ [sy]).length ∧ ∃ es esk ws ss, (∃ v3 v4 v5 v6 v7 v8 v9, σ' = [some (.ref o.ro), some (.ref Dz), some (.ref Wz), v3, v4, v5, v6, v7, v8, v9]) ∧ AllInv K P w H o rws names Dz Wz esk0.length H' es esk ws ss ∧ m' = (U.length - es.length) * (1000 * 2001 + 1) + ss.length, fun σ' H' h => h, ?_⟩
        refine ⟨_, rfl, .inl ⟨rfl, ws0 ++ [y], .inl (.of I.w1)⟩, Wz, ws0 ++ [y], y, rfl, rfl, I.w1, by simp, ?_⟩
        rw [List.dropLast_concat]
        -- the list is shorter by one
        have tkb : TK Ha (L2.upd Ha Wz (.lst ws0)) := (TK.refl Ha).updL I.w1
        have eDb : (L2.upd Ha Wz (.lst ws0)) Dz = some (DicO P w Dz es) := by rw [upd_ne dw]; exact I.d
        have Rb : RulesAt K P w (L2.upd Ha Wz (.lst ws0)) o rws names esk := I.R.updL I.w1 X.n1 X.n2 I.wk
        have seb := I.se.tk tkb
        have hsyb := hsy.tk tkb
        have kb : Kept [o.kd] H (L2.upd Ha Wz (.lst ws0)) := kM_far nW0 I.kp
        generalize hHb : L2.upd Ha Wz (.lst ws0) = Hb at tkb eDb Rb seb hsyb kb
        have eWb : Hb Wz = some (.lst ws0) := by rw [← hHb]; exact upd_same
        obtain ⟨sa, rfl, hsa⟩ := id hsyb
        have hkey : SqT K Hb sa ((keyW sy.ws).map kV) := by
          rw [keyW_kV]
          exact hsa
        refine ⟨_, rfl, _, rfl, Dz, sa, es, keyW sy.ws, rfl, rfl, .inl eDb, seb.keys, hkey, ?_⟩
        cases hv : valE es (keyW sy.ws) with
        | some v =>
          have hh : HasE es sy := hasE_val.mpr (by rw [hv]; rfl)
          have dr : ∀ s, s ∈ ss0 ++ [sy] → HasE es s ∨ s ∈ ss0 := fun s h => by
            rcases List.mem_append.mp h with z | z
            · exact .inr z
            · rw [List.mem_singleton.mp z]
              exact .inl hh
          refine ⟨false, rfl, iteF ⟨_, ?_, es, esk, ws0, ss0, ⟨_, _, _, _, _, _, _, rfl⟩, ⟨eDb, I.nd, seb, eWb, Paired.mapP r0 fun _ _ q => q.tk tkb, fun s hs => I.f s (List.mem_append_left _ hs), Rb, I.kl, I.wk, kb, sl0, fun r hr s hs => ?_, fun s l h1 h2 h3 => ?_⟩, rfl⟩⟩
          · rw [List.length_append, List.length_singleton]
            omega
          · rcases I.base r hr s hs with z | z
            · exact .inl z
            · exact dr s z
          · rcases I.step s l h1 h2 h3 with z | z
            · exact .inl z
            · exact dr _ z
        | none =>
          have hsz : es.length < sizeLine := Nat.lt_of_le_of_lt (show es.length ≤ 1000 by omega) (by decide)
          refine ⟨true, rfl, iteT ?_⟩
          refine ⟨_, rfl, _, rfl, Dz, sa, es, keyW sy.ws, rfl, rfl, eDb, seb.keys, hkey, hsz, ?_⟩
          rw [putE_new hv]
          generalize hes2 : es ++ [(keyW sy.ws, sa, V.bl true)] = es2
          have tkc : TK Hb (L2.upd Hb Dz (DicO P w Dz es2)) := (TK.refl Hb).upd eDb (fun _ z => nomatch z) (fun _ _ z => nomatch z)
          have Rc : RulesAt K P w (L2.upd Hb Dz (DicO P w Dz es2)) o rws names esk := Rb.updD eDb X.n3
          have l2 : es2.length = es.length + 1 := by rw [← hes2, List.length_append, List.length_singleton]
          have nd2 : (es2.map (·.1)).Nodup := by
            have h := putE_nodup (keyW sy.ws) sa (V.bl true) I.nd
            rw [putE_new hv, hes2] at h
            exact h
          have has2 : ∀ s, HasE es2 s ↔ HasE es s ∨ s = sy := fun s => by
            constructor
            · rintro ⟨e, he, ek⟩
              rw [← hes2] at he
              rcases List.mem_append.mp he with z | z
              · exact .inl ⟨e, z, ek⟩
              · rw [List.mem_singleton.mp z] at ek
                exact .inr (Say.inj (keyW_inj ek.symm))
            · rintro (⟨e, he, ek⟩ | z)
              · exact ⟨e, by rw [← hes2]; exact List.mem_append_left _ he, ek⟩
              · exact ⟨_, by rw [← hes2]; exact List.mem_append_right _ (List.mem_singleton.mpr rfl), by rw [z]⟩
          have sec : SayE K (L2.upd Hb Dz (DicO P w Dz es2)) rws names es2 := fun e he => by
            rw [← hes2] at he
            rcases List.mem_append.mp he with z | z
            · exact (seb.tk tkc) e z
            · rw [List.mem_singleton.mp z]
              exact ⟨sy, fs, rfl, sqT_tk tkc hsa⟩
          have hsyc : SayAt K (L2.upd Hb Dz (DicO P w Dz es2)) (V.ref sa) sy := SayAt.tk tkc ⟨sa, rfl, hsa⟩
          have eWc : (L2.upd Hb Dz (DicO P w Dz es2)) Wz = some (.lst ws0) := by rw [upd_ne (Ne.symm dw)]; exact eWb
          have eDc : (L2.upd Hb Dz (DicO P w Dz es2)) Dz = some (DicO P w Dz es2) := upd_same
          have kc : Kept [o.kd] H (L2.upd Hb Dz (DicO P w Dz es2)) := kM_far nD kb
          have r0c := Paired.mapP r0 fun _ _ q => SayAt.tk tkc (SayAt.tk tkb q)
          have lU2 : es2.length ≤ U.length := by
            have qq := len_sub (es2.map (·.1)) (U.map fun s => keyW s.ws) nd2 fun k hk => by
              obtain ⟨e, he, rfl⟩ := List.mem_map.mp hk
              obtain ⟨s, h1, h2, _⟩ := sec e he
              exact List.mem_map.mpr ⟨s, hU2 s h1, h2.symm⟩
            rw [List.length_map, List.length_map] at qq
            exact qq
          have kl := I.kl
          refine ⟨_, rfl, o.ro, o.dx, _, rfl, Rc.ob, rfl, _, rfl, o, _, rws, names, esk, sy, rfl, rfl, Rc, hsyc, oks, D, by omega, fun fl Hl esk2 k2 R2 lk fa sep => ?_⟩
          obtain ⟨fw, esk3⟩ := sep Wz (fun z => by have q := eWc.symm.trans z; cases q) I.wk
          obtain ⟨fvs, efl, rfl2⟩ := fa
          have nWk : Wz ≠ o.kd := ne_of eWc Rc.kn (fun z => nomatch z)
          have nDk : Dz ≠ o.kd := Ne.symm X.n3
          have tkl : TK (L2.upd Hb Dz (DicO P w Dz es2)) Hl := ⟨fun b ys h => k2 b _ h (by simp; exact ne_of h Rc.kn (fun z => nomatch z)), fun b ob u h => k2 b _ h (by simp; exact ne_of h Rc.kn (fun z => nomatch z))⟩
          have bdw : (workedL rws sy names).length ≤ 1000 * 2001 := by
            refine Nat.le_trans (worked_len names sy rws) (Nat.mul_le_mul D.l1 ?_)
            have := D.l2
            omega
          have lf : fvs.length = (workedL rws sy names).length := rfl2.length
          have G0 : AllFor K P w H o rws names Dz Wz sy es2 esk2 ss0 fl fvs Hl 0 Hl ws0 ss0 :=
            ⟨k2 _ _ eWc (by simp [nWk]), Paired.mapP r0c fun _ _ q => q.tk tkl, fun s hs => I.f s (List.mem_append_left _ hs), fun _ h => h, fun l hl => absurd hl (by simp), Nat.le_refl _, k2 _ _ eDc (by simp [nDk]), R2, esk3, kc.trans k2, efl, fw, TK.refl Hl⟩
          have se2 := sec.tk tkl
          have lss : ss0.length ≤ 1000 + 10000000 := by
            have h1 : es.length * (rws.length * (2 * names.length + 1)) ≤ (U.length + 1) * (rws.length * (2 * names.length + 1)) := Nat.mul_le_mul_right _ (by omega)
            omega
          refine ⟨fl, rfl, ⟨_, .inl (.of efl)⟩, for_it (walk_list (K := K) (a := fl) (xs := fvs))
            (fun j σ Hd => (∃ v3 v5 v6 v7 v8 v9, σ = [some (.ref o.ro), some (.ref Dz), some (.ref Wz), v3, some (.ref sa), v5, v6, v7, v8, v9]) ∧ ∃ ws2 ss2, AllFor K P w H o rws names Dz Wz sy es2 esk2 ss0 fl fvs Hl j Hd ws2 ss2)
            ⟨⟨_, _, _, _, _, _, rfl⟩, ws0, ss0, G0⟩ (fun j σ Hd _ pv => .inl (.of pv.2.choose_spec.choose_spec.fl1)) ?_ ?_⟩
          · rintro j x σ Hd0 Hd hj ⟨⟨v3, v5, v6, v7, v8, v9, rfl⟩, ws2, ss2, G⟩ ⟨rfl, ey⟩
            obtain ⟨l, hl, hla⟩ := paired_at rfl2 ey
            obtain ⟨qa, nn, w1, w2, w3, rfl, t1, s1, s2', s3⟩ := hla.tk G.tk
            have hlm : l ∈ workedL rws sy names := List.mem_of_getElem? hl
            have hsd : SayAt K Hd (V.ref sa) sy := (hsyc.tk tkl).tk G.tk
            obtain ⟨rr, hr1, hr2, hr3⟩ := mem_worked.mp hlm
            have ol := okL_by (D.rok rr hr1) oks D.nok l hr2
            have gl := G.len
            have lw2 : ws2.length = ss2.length := G.w2.length
            refine ⟨qa, _, rfl, .inl (.of t1), rfl, _, _, rfl, _, _, rfl, _, _, rfl, _, _, rfl, rfl, ?_⟩
            refine ⟨_, rfl, _, rfl, rd_eqS (s := l.1) (t := sy) s1 hsd ol.1 oks ⟨_, rfl, if_dec (fun e => ?_) (fun e => ?_)⟩⟩
            · refine ⟨_, rfl, ?_⟩
              have oX : OSayAt K Hd w2 (other l sy) := by
                unfold other
                rw [if_pos e]
                exact s2'
              cases ho : other l sy with
              | none =>
                obtain rfl : w2 = V.non := by
                  have q := oX
                  rw [ho] at q
                  exact q
                refine ⟨_, rfl, rfl, _, rfl, ?_⟩
                rw [decide_eq_true rfl]
                refine iteT ?_
                refine ⟨_, rfl, .inl ⟨rfl, ws2, .inl (.of G.w1)⟩, _, rfl, Wz, ws2, _, rfl, rfl, G.w1, ?_, ⟨⟨_, _, _, _, _, _, rfl⟩, _, _, G.push X hl s3 (.one fs hlm ho)⟩⟩
                exact Nat.lt_of_le_of_lt (show ws2.length ≤ 1000 + 10000000 + 2001000 by omega) (by decide)
              | some s2 =>
                obtain ⟨a2, rfl, ha2⟩ : SayAt K Hd w2 s2 := by
                  have q := oX
                  rw [ho] at q
                  exact q
                refine ⟨_, rfl, rfl, _, rfl, ?_⟩
                rw [decide_eq_false (fun z => nomatch z)]
                refine iteF ?_
                have ha3 : SqT K Hd a2 ((keyW s2.ws).map kV) := by
                  rw [keyW_kV]
                  exact ha2
                refine ⟨_, rfl, _, rfl, Dz, a2, es2, keyW s2.ws, rfl, rfl, .inl G.d, (se2.tk G.tk).keys, ha3, ?_⟩
                cases hv2 : valE es2 (keyW s2.ws) with
                | some v =>
                  have hh : HasE es2 s2 := hasE_val.mpr (by rw [hv2]; rfl)
                  refine ⟨true, rfl, iteT ?_⟩
                  refine ⟨_, rfl, .inl ⟨rfl, ws2, .inl (.of G.w1)⟩, _, rfl, Wz, ws2, _, rfl, rfl, G.w1, ?_, ⟨⟨_, _, _, _, _, _, rfl⟩, _, _, G.push X hl s3 (.two fs hlm ho (se2.fol hh))⟩⟩
                  exact Nat.lt_of_le_of_lt (show ws2.length ≤ 1000 + 10000000 + 2001000 by omega) (by decide)
                | none =>
                  have hh : ¬ (other l sy = none ∨ ∃ s2, other l sy = some s2 ∧ HasE es2 s2) := by
                    rintro (z | ⟨s3', z1, z2⟩)
                    · rw [ho] at z
                      cases z
                    · rw [ho] at z1
                      rw [← Option.some.inj z1] at z2
                      have z3 := hasE_val.mp z2
                      rw [hv2] at z3
                      cases z3
                  exact ⟨false, rfl, iteF ⟨⟨_, _, _, _, _, _, rfl⟩, _, _, G.skip hl hh⟩⟩
            · refine ⟨_, rfl, ?_⟩
              have oX : OSayAt K Hd w1 (other l sy) := by
                unfold other
                rw [if_neg e]
                exact s1
              cases ho : other l sy with
              | none =>
                obtain rfl : w1 = V.non := by
                  have q := oX
                  rw [ho] at q
                  exact q
                refine ⟨_, rfl, rfl, _, rfl, ?_⟩
                rw [decide_eq_true rfl]
                refine iteT ?_
                refine ⟨_, rfl, .inl ⟨rfl, ws2, .inl (.of G.w1)⟩, _, rfl, Wz, ws2, _, rfl, rfl, G.w1, ?_, ⟨⟨_, _, _, _, _, _, rfl⟩, _, _, G.push X hl s3 (.one fs hlm ho)⟩⟩
                exact Nat.lt_of_le_of_lt (show ws2.length ≤ 1000 + 10000000 + 2001000 by omega) (by decide)
              | some s2 =>
                obtain ⟨a2, rfl, ha2⟩ : SayAt K Hd w1 s2 := by
                  have q := oX
                  rw [ho] at q
                  exact q
                refine ⟨_, rfl, rfl, _, rfl, ?_⟩
                rw [decide_eq_false (fun z => nomatch z)]
                refine iteF ?_
                have ha3 : SqT K Hd a2 ((keyW s2.ws).map kV) := by
                  rw [keyW_kV]
                  exact ha2
                refine ⟨_, rfl, _, rfl, Dz, a2, es2, keyW s2.ws, rfl, rfl, .inl G.d, (se2.tk G.tk).keys, ha3, ?_⟩
                cases hv2 : valE es2 (keyW s2.ws) with
                | some v =>
                  have hh : HasE es2 s2 := hasE_val.mpr (by rw [hv2]; rfl)
                  refine ⟨true, rfl, iteT ?_⟩
                  refine ⟨_, rfl, .inl ⟨rfl, ws2, .inl (.of G.w1)⟩, _, rfl, Wz, ws2, _, rfl, rfl, G.w1, ?_, ⟨⟨_, _, _, _, _, _, rfl⟩, _, _, G.push X hl s3 (.two fs hlm ho (se2.fol hh))⟩⟩
                  exact Nat.lt_of_le_of_lt (show ws2.length ≤ 1000 + 10000000 + 2001000 by omega) (by decide)
                | none =>
                  have hh : ¬ (other l sy = none ∨ ∃ s2, other l sy = some s2 ∧ HasE es2 s2) := by
                    rintro (z | ⟨s3', z1, z2⟩)
                    · rw [ho] at z
                      cases z
                    · rw [ho] at z1
                      rw [← Option.some.inj z1] at z2
                      have z3 := hasE_val.mp z2
                      rw [hv2] at z3
                      cases z3
                  exact ⟨false, rfl, iteF ⟨⟨_, _, _, _, _, _, rfl⟩, _, _, G.skip hl hh⟩⟩
          · rintro σ Hd ⟨⟨v3, v5, v6, v7, v8, v9, rfl⟩, ws2, ss2, G⟩
            have gl := G.len
            rw [lf] at gl
            have gn := G.new
            rw [lf, List.take_of_length_le (Nat.le_refl _)] at gn
            refine ⟨_, ?_, es2, esk2, ws2, ss2, ⟨_, _, _, _, _, _, _, rfl⟩, ⟨G.d, nd2, se2.tk G.tk, G.w1, G.w2, G.f, G.R, by omega, G.wk, G.kp, ?_, fun r hr s hs => ?_, fun s l h1 h2 h3 => ?_⟩, rfl⟩
            · rw [List.length_append, List.length_singleton, l2]
              have ea : U.length - es.length = (U.length - (es.length + 1)) + 1 := by omega
              rw [ea, Nat.add_mul]
              omega
            · have wl := worked_len names sy rws
              rw [l2, Nat.add_mul]
              omega
            · rcases I.base r hr s hs with z | z
              · exact .inl ((has2 s).mpr (.inl z))
              · rcases List.mem_append.mp z with z | z
                · exact .inr (G.old s z)
                · exact .inl ((has2 s).mpr (.inr (List.mem_singleton.mp z)))
            · have up : HasE es l.2.2 ∨ l.2.2 ∈ ss0 ++ [sy] → HasE es2 l.2.2 ∨ l.2.2 ∈ ss2 := fun z => by
                rcases z with z | z
                · exact .inl ((has2 _).mpr (.inl z))
                · rcases List.mem_append.mp z with z | z
                  · exact .inr (G.old _ z)
                  · exact .inl ((has2 _).mpr (.inr (List.mem_singleton.mp z)))
              rcases (has2 s).mp h1 with z1 | z1
              · rcases h3 with z3 | ⟨s2, z3, z4⟩
                · exact up (I.step s l z1 h2 (.inl z3))
                · rcases (has2 s2).mp z4 with z5 | z5
                  · exact up (I.step s l z1 h2 (.inr ⟨s2, z3, z5⟩))
                  · subst z5
                    obtain ⟨l', g1, g2, g3⟩ := worked_sym (hU3 s (hU2 s (I.se.fol z1))).2 h2 z3
                    rw [← g2]
                    exact .inr (gn l' g1 (.inr ⟨s, g3, (has2 s).mpr (.inl z1)⟩))
              · subst z1
                exact .inr (gn l h2 h3)
end
end Ah
end
section
set_option Elab.async false
set_option linter.all false
set_option maxRecDepth 100000
set_option maxHeartbeats 4000000
namespace Ah
open PySem PySem.Spec PyProof.Rows L2
/-! ### the law's few words -/
def rowNames : Rw → List Str
  | .is n _ => [n] | .isnt n _ => [n] | .has n _ m => [n, m] | .hasnt n _ m => [n, m] | .each _ _ m => [m] | _ => []
theorem told_name (r : Rw) : toldW "name" r.ws = rowNames r := by
  cases r <;> rfl
def Say.few : Say → Prop
  | .is n k => n ∈ namesL ∧ k ∈ kindsL | .has n t m => n ∈ namesL ∧ t ∈ tiesL ∧ m ∈ namesL | .clash => True
def allSay : List Say := (namesL.flatMap fun n => kindsL.map fun k => Say.is n k) ++ (namesL.flatMap fun n => tiesL.flatMap fun t => namesL.map fun m => Say.has n t m) ++ [.clash]
theorem mem_allSay {s : Say} (h : s.few) : s ∈ allSay := by
  unfold allSay
  cases s with
  | clash => simp
  | is n k =>
    obtain ⟨h1, h2⟩ := h
    refine List.mem_append_left _ (List.mem_append_left _ (List.mem_flatMap.mpr ⟨n, h1, List.mem_map.mpr ⟨k, h2, rfl⟩⟩))
  | has n t m =>
    obtain ⟨h1, h2, h3⟩ := h
    refine List.mem_append_left _ (List.mem_append_right _ (List.mem_flatMap.mpr ⟨n, h1, List.mem_flatMap.mpr ⟨t, h2, List.mem_map.mpr ⟨m, h3, rfl⟩⟩⟩))
theorem allSay_len : allSay.length = 28 := by decide +kernel
theorem allSay_ok : ∀ s ∈ allSay, okW s.ws := by
  unfold okW
  decide +kernel
theorem few_word : ∀ w ∈ namesL ++ kindsL ++ tiesL, PyData.strOk w = true ∧ isWord w = true := by decide +kernel
theorem w_name {w : Str} (h : w ∈ namesL) : PyData.strOk w = true ∧ isWord w = true := few_word w (List.mem_append_left _ (List.mem_append_left _ h))
theorem w_kind {w : Str} (h : w ∈ kindsL) : PyData.strOk w = true ∧ isWord w = true := few_word w (List.mem_append_left _ (List.mem_append_right _ h))
theorem w_tie {w : Str} (h : w ∈ tiesL) : PyData.strOk w = true ∧ isWord w = true := few_word w (List.mem_append_right _ h)
theorem few_ok {r : Rw} (h : r.few) : okW r.ws := by
  unfold okW
  cases r <;> simp only [Rw.few] at h <;> simp only [Rw.ws, List.all_cons, List.all_nil, Bool.and_true, Bool.and_eq_true]
  case is n k => exact ⟨by decide +kernel, (w_name h.1).1, (w_kind h.2).1⟩
  case isnt n k => exact ⟨by decide +kernel, (w_name h.1).1, (w_kind h.2).1⟩
  case has n t m => exact ⟨by decide +kernel, (w_name h.1).1, (w_tie h.2.1).1, (w_name h.2.2).1⟩
  case hasnt n t m => exact ⟨by decide +kernel, (w_name h.1).1, (w_tie h.2.1).1, (w_name h.2.2).1⟩
  case all k l => exact ⟨by decide +kernel, (w_kind h.1).1, (w_kind h.2).1⟩
  case no k l => exact ⟨by decide +kernel, (w_kind h.1).1, (w_kind h.2).1⟩
  case each k t m => exact ⟨by decide +kernel, (w_kind h.1).1, (w_tie h.2.1).1, (w_name h.2.2).1⟩
  case who t k l => exact ⟨by decide +kernel, (w_tie h.1).1, (w_kind h.2.1).1, (w_kind h.2.2).1⟩
  case turned t s => exact ⟨by decide +kernel, (w_tie h.1).1, (w_tie h.2).1⟩
  case on t => exact ⟨by decide +kernel, (w_tie h).1⟩
  case fr t k => exact ⟨by decide +kernel, (w_tie h.1).1, (w_kind h.2).1⟩
  case to t k => exact ⟨by decide +kernel, (w_tie h.1).1, (w_kind h.2).1⟩
  case under t s => exact ⟨by decide +kernel, (w_tie h.1).1, (w_tie h.2).1⟩
theorem rowL_of {h : Str} {rest ps : List Str} (e : formsL.lookup h = some ps) (hl : rest.length = ps.length) (hw : ∀ w ∈ rest, isWord w = true) : isRowL ((h :: rest).map V.str) = true := by
  show (match formsL.lookup h with
    | some ps => decide ((rest.map V.str).length = ps.length) && (rest.map V.str).all isWordV
    | none => false) = true
  rw [e]
  dsimp only
  rw [List.length_map, decide_eq_true hl, Bool.true_and, List.all_eq_true]
  intro v hv
  obtain ⟨w, h1, rfl⟩ := List.mem_map.mp hv
  exact hw w h1
theorem few_words {r : Rw} (h : r.few) : ∀ w ∈ r.ws.tail, isWord w = true := by
  intro w hw
  cases r <;> simp only [Rw.few] at h <;> simp only [Rw.ws, List.tail_cons, List.mem_cons, List.not_mem_nil, or_false] at hw
  case is n k => rcases hw with rfl | rfl; exact (w_name h.1).2; exact (w_kind h.2).2
  case isnt n k => rcases hw with rfl | rfl; exact (w_name h.1).2; exact (w_kind h.2).2
  case has n t m => rcases hw with rfl | rfl | rfl; exact (w_name h.1).2; exact (w_tie h.2.1).2; exact (w_name h.2.2).2
  case hasnt n t m => rcases hw with rfl | rfl | rfl; exact (w_name h.1).2; exact (w_tie h.2.1).2; exact (w_name h.2.2).2
  case all k l => rcases hw with rfl | rfl; exact (w_kind h.1).2; exact (w_kind h.2).2
  case no k l => rcases hw with rfl | rfl; exact (w_kind h.1).2; exact (w_kind h.2).2
  case each k t m => rcases hw with rfl | rfl | rfl; exact (w_kind h.1).2; exact (w_tie h.2.1).2; exact (w_name h.2.2).2
  case who t k l => rcases hw with rfl | rfl | rfl; exact (w_tie h.1).2; exact (w_kind h.2.1).2; exact (w_kind h.2.2).2
  case turned t s => rcases hw with rfl | rfl; exact (w_tie h.1).2; exact (w_tie h.2).2
  case on t => subst hw; exact (w_tie h).2
  case fr t k => rcases hw with rfl | rfl; exact (w_tie h.1).2; exact (w_kind h.2).2
  case to t k => rcases hw with rfl | rfl; exact (w_tie h.1).2; exact (w_kind h.2).2
  case under t s => rcases hw with rfl | rfl; exact (w_tie h.1).2; exact (w_tie h.2).2
theorem few_row {r : Rw} (h : r.few) : isRowL (r.ws.map V.str) = true := by
  obtain ⟨hd, rest, ps, e1, e2, e3, _⟩ := Rw.form r
  have h2 := few_words h
  rw [e1] at h2 ⊢
  exact rowL_of e2 e3 h2
theorem few_names {r : Rw} (h : r.few) : ∀ x ∈ rowNames r, x ∈ namesL := by
  intro x hx
  cases r <;> simp only [Rw.few] at h <;> simp only [rowNames, List.mem_cons, List.not_mem_nil, or_false] at hx
  case is n k => subst hx; exact h.1
  case isnt n k => subst hx; exact h.1
  case has n t m => rcases hx with rfl | rfl; exact h.1; exact h.2.2
  case hasnt n t m => rcases hx with rfl | rfl; exact h.1; exact h.2.2
  case each k t m => subst hx; exact h.2.2
/-- what follows is told by the few words, its names by the rows -/
theorem lead_few {r : Rw} {s : Say} {names : List Str} (hr : r.few) (hn : ∀ x ∈ rowNames r, x ∈ names) (hL : ∀ x ∈ names, x ∈ namesL) (hs : s.few ∧ ∀ x ∈ s.names, x ∈ names) {l : Lead} (hl : l ∈ leadsBy r s names) : l.2.2.few ∧ ∀ x ∈ l.2.2.names, x ∈ names := by
  obtain ⟨hs1, hs2⟩ := hs
  cases s with
  | clash => exact absurd hl (by simp [leadsBy])
  | is n k =>
    cases r <;> simp only [leadsBy, leadsKind] at hl <;> (try split at hl) <;> (try simp only [List.mem_cons, List.mem_map, List.not_mem_nil, or_false] at hl) <;> (try exact hl.elim)
    all_goals simp only [Rw.few, Say.few, Say.names, rowNames, List.mem_cons, List.not_mem_nil, or_false, forall_eq, forall_eq_or_imp] at hr hs1 hs2 hn
    all_goals first
      | (subst hl; simp [Say.few, Say.names, *] <;> done)
      | (obtain ⟨x, hx, rfl⟩ := hl; have hx2 := hL x hx; simp [Say.few, Say.names, *] <;> done)
  | has n t m =>
    cases r <;> simp only [leadsBy, leadsTie, leadsOn] at hl <;> (try split at hl) <;> (try simp only [List.mem_cons, List.mem_map, List.not_mem_nil, or_false, List.mem_append] at hl) <;> (try exact hl.elim)
    all_goals simp only [Rw.few, Say.few, Say.names, rowNames, List.mem_cons, List.not_mem_nil, or_false, forall_eq, forall_eq_or_imp] at hr hs1 hs2 hn
    all_goals first
      | (subst hl; simp [Say.few, Say.names, *] <;> done)
      | (obtain (⟨x, hx, rfl⟩ | ⟨x, hx, rfl⟩) := hl <;> have hx2 := hL x hx <;> simp [Say.few, Say.names, *] <;> done)
theorem fol_few {rws : List Rw} {names : List Str} (hr : ∀ r ∈ rws, r.few) (hn : ∀ r ∈ rws, ∀ x ∈ rowNames r, x ∈ names) (hL : ∀ x ∈ names, x ∈ namesL) : ∀ s, Fol rws names s → s.few ∧ ∀ x ∈ s.names, x ∈ names := by
  refine fol_least (fun r h1 s h2 => ?_) fun s l h1 h2 _ => ?_
  · have a := hr r h1
    have b := hn r h1
    cases r <;> simp [sayOf] at h2 <;> subst h2
    · exact ⟨a, b⟩
    · exact ⟨a, b⟩
  · obtain ⟨r, g1, g2, _⟩ := mem_worked.mp h2
    exact lead_few (hr r g1) (hn r g1) hL h1 g2
end Ah
end
section
set_option Elab.async false
set_option linter.all false
set_option maxRecDepth 100000
set_option maxHeartbeats 8000000
namespace Ah
open PySem PySem.Spec PyProof.Rows L2
open GxR (TabB TabG Tabbed)
theorem scNO : FnScope ["rows"] ["rows"] (defScope sNamesOf) := ⟨rfl, rfl, rfl, by decide +kernel, rfl, by decide +kernel, by decide +kernel⟩
theorem scFo : FnScope ["rows", "found", "saying"] ["rows"] (defScope sFollows) := ⟨rfl, rfl, rfl, by decide +kernel, rfl, by decide +kernel, by decide +kernel⟩
def spNames : Sp := fun vs H Q _ => ∃ (q : Addr) (rs : List Rw), vs = [.ref q] ∧ TextAt H q rs ∧ rs.length ≤ 1000 ∧
  ∀ (p : Addr) (bs : List Str) (H' : Hp), Kept [] H H' → H p = none → H' p = some (.lst (bs.map V.str)) → (∀ z, z ∈ bs ↔ ∃ r ∈ rs, z ∈ rowNames r) → bs.length ≤ 3 * rs.length → Q (.ref p) H'
theorem TextAt.kp {T : List Addr} {H H' : Hp} {q : Addr} {rs : List Rw} (ht : ∀ P ∈ T, TabG H P) (k : Kp T H H') (h : TextAt H q rs) : TextAt H' q rs := by
  obtain ⟨ps, h1, h2⟩ := h
  exact ⟨ps, k.obj ht h1, Paired.mapP h2 fun _ _ e => k.obj ht e⟩
theorem TextAt.kept {M : List Addr} {H H' : Hp} {q : Addr} {rs : List Rw} (k : TK H H') (h : TextAt H q rs) : TextAt H' q rs := by
  obtain ⟨ps, h1, h2⟩ := h
  exact ⟨ps, k.tup _ _ h1, Paired.mapP h2 fun _ _ e => k.tup _ _ e⟩
theorem sort_says {rws : List Rw} {names : List Str} {bs : List Tx} (h : ∀ b ∈ bs, ∃ s, s ≠ Say.clash ∧ Fol rws names s ∧ b.2 = keyW s.ws) : SortT bs := by
  constructor
  · intro d hd d' hd'
    obtain ⟨b, hb, rfl⟩ := List.mem_map.mp hd
    obtain ⟨b', hb', rfl⟩ := List.mem_map.mp hd'
    obtain ⟨s, _, _, e⟩ := h b hb
    obtain ⟨s', _, _, e'⟩ := h b' hb'
    unfold encT
    rw [e, e', PySem.W.alike]
    have go : ∀ xs ys : List Str, PySem.W.alikeAll ((keyW xs).map keyD) ((keyW ys).map keyD) = true := by
      intro xs
      induction xs with
      | nil => intro ys; simp [keyW, PySem.W.alikeAll]
      | cons x xs ih =>
        intro ys
        cases ys with
        | nil => simp [keyW, PySem.W.alikeAll]
        | cons y ys =>
          show PySem.W.alikeAll (PyData.str x :: (keyW xs).map keyD) (PyData.str y :: (keyW ys).map keyD) = true
          rw [PySem.W.alikeAll, ih ys]
          simp [PySem.W.alike]
    exact go _ _
  · intro b hb e
    obtain ⟨s, _, _, e'⟩ := h b hb
    rw [e] at e'
    cases s <;> cases e'
theorem few_len {r : Rw} (h : r.few) : ∀ z ∈ r.ws, z.length ≤ 100 := by
  intro z hz
  obtain ⟨hd, rest, ps, e1, _, _, _⟩ := Rw.form r
  have h2 := few_words h
  rw [e1] at h2 hz
  rcases List.mem_cons.mp hz with q | q
  · rw [q]
    cases r <;> cases e1 <;> decide +kernel
  · have h3 := h2 z q
    unfold isWord at h3
    simp only [Bool.and_eq_true, decide_eq_true_eq] at h3
    omega
theorem Kp.of {T : List Addr} {H H' : Hp} (ht : ∀ P ∈ T, TabG H P) (k : Kept [] H H') : Kp T H H' := ⟨fun P hP => by
  obtain ⟨qs, h2, h3⟩ := ht P hP
  exact ⟨qs, k _ _ h2 (by simp), h3⟩, fun b o e _ => k b o e (by simp)⟩
theorem Kp.fresh {T : List Addr} {H H' : Hp} {p : Addr} (ht : ∀ P ∈ T, TabG H P) (k : Kp T H H') (n : H' p = none) : H p = none := by
  cases e : H p with
  | none => rfl
  | some o =>
    by_cases hp : p ∈ T
    · obtain ⟨qs, h2, _⟩ := k.tab p hp
      rw [n] at h2
      cases h2
    · rw [k.keep p o e hp] at n
      cases n
/-- what is told as following: the entries of the sayings, without the clash -/
def toldT (es : List Ent) : List Tx := (es.filter fun e => !decide (e.1 = keyW (Say.clash).ws)).map fun e => (e.2.1, e.1)
def spFollows (K : PySem.W.Frag) (T : List Addr) : Sp := fun vs H Q _ => ∃ (q : Addr) (rs : List Rw), vs = [.ref q] ∧ TextAt H q rs ∧ (∀ r ∈ rs, r.few) ∧ rs.length ≤ 20 ∧ (∀ P ∈ T, TabG H P) ∧
  ∀ (p : Addr) (bs : List Tx) (rws : List Rw) (names : List Str) (H' : Hp), Kp T H H' → H p = none → H' p = some (.lst ((bs.mergeSort leT).map fun b => V.ref b.1)) → (∀ r, r ∈ rws ↔ r ∈ rs) → (∀ z, z ∈ names ↔ ∃ r ∈ rs, z ∈ rowNames r) →
    (∀ b ∈ bs, ∃ s, s ≠ .clash ∧ Fol rws names s ∧ b.2 = keyW s.ws ∧ SqT K H' b.1 (s.ws.map V.str)) → (∀ s, s ≠ .clash → Fol rws names s → ∃ b ∈ bs, b.2 = keyW s.ws) → (bs.map (·.2)).Nodup → bs.length ≤ 28 → Q (.ref p) H'
section
variable {P : Program} {w : World} {K : PySem.W.Frag} {mg : Str → Option Value} {base : Heap} {f fT fC fA fN fI C cl : Addr} {fd fdT fdC fdA fdN fdI : FuncData} {T : List Addr}
theorem ok_names (F : FnP K "names_of" sNamesOf f fd) (c_told_of : Own P w K mg base "told_of" 1 fT fdT ["rows", "place"] spTold) : FnOk P w K mg base CX0 2 f fd ["rows"] spNames := by
  refine F.ok scNO (fun vs H Q E h => ?_) (fun cdv A outer s H vs Q E hr h => ?_)
  · obtain ⟨q, rs, rfl, _⟩ := h
    rfl
  · obtain ⟨q, rs, rfl, tx, hl, k⟩ := h
    refine ⟨_, PSs.nox (pss_one (ps_ret (pe_call c_told_of.ok hr (by rfl) c_told_of.g c_told_of.kp c_told_of.b .nil pass0 (pa_cons (pv 0) (pa_cons pe_str pa_nil))))), ?_⟩
    refine ⟨_, rfl, q, rs, "name", rfl, tx, hl, fun p bs H' kk np e hm hb => ?_⟩
    refine k p (bs.mergeSort leS) H' kk np e (fun z => ?_) ?_
    · rw [(List.mergeSort_perm bs leS).mem_iff, hm]
      constructor
      · rintro ⟨r, h1, h2⟩
        rw [told_name] at h2
        exact ⟨r, h1, h2⟩
      · rintro ⟨r, h1, h2⟩
        exact ⟨r, h1, by rw [told_name]; exact h2⟩
    · rw [(List.mergeSort_perm bs leS).length_eq]
      exact hb
theorem ok_follows (F : FnP K "follows" sFollows f fd) (B : Bl mg) (Cc : TClash K mg cl) (CR : ClsR K C) (M : Mk K C fI) (gR : mg "Rules" = some (.ref C)) (FI : FnOk P w K mg base CX0 2 fI fdI ["self", "rows", "names"] (spInit K P w C)) (bI : Binds K fdI ["self", "rows", "names"] [])
    (c_check_text : Own P w K mg base "check_text" 6 fC fdC ["rows"] (spCheck0 T)) (c_all_results : Own P w K mg base "all_results" 6 fA fdA ["rules"] (spAll K P w C)) (c_names_of : Own P w K mg base "names_of" 2 fN fdN ["rows"] spNames) :
    FnOk P w K mg base CX0 7 f fd ["rows"] (spFollows K T) := by
  refine F.ok scFo (fun vs H Q E h => ?_) (fun cdv A outer s H vs Q E hr h => ?_)
  · obtain ⟨q, rs, rfl, _⟩ := h
    rfl
  · obtain ⟨q, rs, rfl, tx, hf, hl, ht, k⟩ := h
    have gCl := Cc.g
    refine ⟨_, PSs.nox (pss_cons (ps_expr (pe_call c_check_text.ok hr (by rfl) c_check_text.g c_check_text.kp c_check_text.b .nil pass0 (pa_cons (pv 0) pa_nil)))
      (pss_cons (ps_set (i := 1) scFo.nd rfl (.inl rfl) (pe_call c_all_results.ok hr (by rfl) c_all_results.g c_all_results.kp c_all_results.b .nil pass0 (pa_cons (pe_make M FI (hr.mono (by decide)) (by rfl) gR bI .nil pass0 (pa_cons (pv 0) (pa_cons (pe_call c_names_of.ok (hr.mono (by decide)) (by rfl) c_names_of.g c_names_of.kp c_names_of.b .nil pass0 (pa_cons (pv 0) pa_nil)) pa_nil))) pa_nil)))
      (pss_one (ps_ret (pe_callB (cr_sortT hr.units) (by rfl) B.sorted_ (by decide +kernel) (pa_cons (pe_lock (pe_lc (own := [("saying", 2)]) rfl scFo.nd (pi_dic (pv 1)) (blkOk_by (N := ["rows", "found", "saying"]) (sc := defScope sFollows) (by decide +kernel)) (fun _ _ _ _ _ => (pg_name (i := 2) scFo.nd rfl (Or.inl rfl))) (fun _ _ _ _ _ => (pts_one (pt_cmpR (show OpR _ _ (rNeD K) from op_neD hr.units) (pv 2) (pe_glob (v := .ref cl) (by rfl) gCl rfl) (nomark _)))) (fun _ _ _ _ _ => (pv 2)))) pa_nil)))))), ?_⟩
    obtain ⟨ps, hq, hps⟩ := id tx
    have lps : ps.length = rs.length := hps.length
    refine ⟨_, rfl, q, ps.map V.ref, rfl, hq, by rw [List.length_map]; omega, fun v hv => ?_, ht, fun H1 kp1 => ?_⟩
    · obtain ⟨a, ha, rfl⟩ := List.mem_map.mp hv
      obtain ⟨i, hi⟩ := List.mem_iff_getElem?.mp ha
      obtain ⟨r, er, hr1⟩ := paired_at hps hi
      have fr := hf r (List.mem_of_getElem? er)
      refine .inr ⟨a, _, rfl, hr1, ?_, fun x hx => ?_, (few_row fr).symm⟩
      · rw [List.length_map]
        exact Nat.le_trans (show r.ws.length ≤ 10 by cases r <;> simp [Rw.ws]) (by decide)
      · obtain ⟨z, hz, rfl⟩ := List.mem_map.mp hx
        exact .inl ⟨z, rfl, Nat.le_trans (few_len fr z hz) (by decide)⟩
    · have tx1 := tx.kp ht kp1
      refine ⟨_, rfl, _, rfl, q, rs, rfl, tx1, by omega, fun na nb H2 k2 nna e2 hm2 hl2 => ?_⟩
      intro x dx nx ndx dxx
      have kx : Kept [] H2 (L2.upd (L2.upd H2 dx (.own x)) x (.ins C dx [])) := ((Kept.refl H2).upd ndx).upd (by rw [upd_ne (Ne.symm dxx)]; exact nx)
      refine ⟨x, q, na, dx, rs, nb, rfl, upd_same, (tx1.kept (M := []) (TK.of k2)).kept (M := []) (TK.of kx), by omega, kx _ _ e2 (by simp), fun H3 o rws ho hC nkd k3 R3 hrw hrl => ⟨rfl, ?_⟩⟩
      have hnb : ∀ z ∈ nb, z ∈ namesL := fun z hz => by
        obtain ⟨r, h1, h2⟩ := (hm2 z).mp hz
        exact few_names (hf r h1) z h2
      have hrf : ∀ r ∈ rws, r.few := fun r hr => hf r ((hrw r).mp hr)
      have hff := fol_few (names := nb) hrf (fun r hr z hz => (hm2 z).mpr ⟨r, (hrw r).mp hr, hz⟩) hnb
      have okd : OkD rws nb := ⟨by omega, by omega, fun r hr => few_ok (hrf r hr), fun z hz => (w_name (hnb z hz)).1⟩
      subst ho
      refine ⟨o, rws, nb, [], allSay.filter (fun s => s.names.all fun z => decide (z ∈ nb)), rfl, hC, R3, okd, Nat.zero_le _, ?_, ?_, fun s hs => ?_, fun s hs => ?_, fun d H4 es k4 nd4 e4 se4 hes nd hle => ?_⟩
      · exact Nat.le_trans (List.length_filter_le ..) (by rw [allSay_len]; decide)
      · have h1 : (allSay.filter (fun s => s.names.all fun z => decide (z ∈ nb))).length ≤ 28 := by
          rw [← allSay_len]
          exact List.length_filter_le ..
        have h2 : rws.length * (2 * nb.length + 1) ≤ 20 * 121 := Nat.mul_le_mul (by omega) (by omega)
        exact Nat.le_trans (Nat.mul_le_mul (show _ ≤ 29 by omega) h2) (by decide)
      · obtain ⟨h1, h2⟩ := hff s hs
        exact List.mem_filter.mpr ⟨mem_allSay h1, List.all_eq_true.mpr fun z hz => decide_eq_true (h2 z hz)⟩
      · obtain ⟨h1, h2⟩ := List.mem_filter.mp hs
        exact ⟨allSay_ok s h1, fun z hz => of_decide_eq_true (List.all_eq_true.mp h2 z hz)⟩
      · refine ⟨d, DicO P w d es, e4, trivial, fun od => ?_⟩
        have k14 : Kept [] H1 H4 := fun b u e hb => by
          have b2 := k2 b u e hb
          have b3 := kx b u b2 hb
          have b4 := k3 b u b3 (by rw [List.mem_singleton]; exact ne_of_none b2 nx)
          exact k4 b u b4 (by rw [List.mem_singleton]; exact ne_of_none b3 nkd)
        have tkf : TK H4 (L2.upd H4 d (.frz od (DicO P w d es))) := (TK.refl H4).upd e4 (fun _ z => nomatch z) (fun _ _ z => nomatch z)
        refine ⟨_, rfl, d, od, es, rfl, upd_same, fun Dl nDl => ?_⟩
        refine lc_it (walk_dic (P := P) (w := w) (d := d) (o := od) (es := es)) (fun i Ha => Ha Dl = some (.lst (((es.take i).filter fun e => !decide (e.1 = keyW (Say.clash).ws)).map fun e => V.ref e.2.1)) ∧ Kept [] (L2.upd H4 d (.frz od (DicO P w d es))) Ha)
          ⟨by rw [List.take_zero]; exact upd_same, (Kept.refl _).upd nDl⟩ (fun i Ha _ pv => pv.2 _ _ upd_same (by simp)) ?_ ?_
        · rintro i v Ha0 Ha hi ⟨eD, kk⟩ ⟨rfl, ey⟩
          rw [List.getElem?_map] at ey
          obtain ⟨e, ee, rfl⟩ := Option.map_eq_some_iff.mp ey
          obtain ⟨s', f1, f2, f3⟩ := se4 e (List.mem_of_getElem? ee)
          have tka : TK H4 Ha := tkf.trans (TK.of kk)
          have et : (es.take (i + 1)).filter (fun e => !decide (e.1 = keyW (Say.clash).ws)) = (es.take i).filter (fun e => !decide (e.1 = keyW (Say.clash).ws)) ++ if s' = .clash then [] else [e] := by
            rw [List.take_add_one, ee, List.filter_append]
            congr 1
            show List.filter _ [e] = _
            rw [List.filter_cons, List.filter_nil]
            by_cases hc : s' = .clash
            · rw [if_pos hc, if_neg]
              rw [f2, hc]
              simp
            · rw [if_neg hc, if_pos]
              rw [f2, decide_eq_false fun z => hc (Say.inj (keyW_inj z))]
              rfl
          have oks : okW s'.ws := allSay_ok s' (mem_allSay (hff s' f1).1)
          refine ⟨rfl, ?_⟩
          refine ⟨_, rfl, ?_⟩
          unfold tC
          refine rd_neS (s := s') (t := some .clash) ⟨_, rfl, sqT_tk tka f3⟩ ⟨cl, rfl, Cc.val Ha⟩ oks (fun y hy => by rw [← Option.some.inj hy]; exact okW_clash) ⟨_, rfl, if_nd (fun ne => ?_) (fun eq => ?_)⟩
          · have hc : ¬ s' = .clash := fun z => ne (by rw [z])
            refine ⟨_, rfl, _, eD, ?_, ?_, kD_far nDl kk⟩
            · rw [List.length_map]
              refine Nat.lt_of_le_of_lt (Nat.le_trans (List.length_filter_le ..) ?_) (show 1000 < sizeLine by decide)
              rw [List.length_take]
              omega
            · rw [et, if_neg hc, List.map_append]
              exact upd_same
          · have hc : s' = .clash := (Option.some.inj eq).symm
            rw [et, if_pos hc, List.append_nil]
            exact ⟨eD, kk⟩
        · rintro Ha ⟨eD, kk⟩
          rw [List.take_of_length_le (Nat.le_refl _)] at eD
          have fz : Ha d = some (.frz od (DicO P w d es)) := kk _ _ upd_same (by simp)
          have dl : Dl ≠ d := ne_of eD fz (fun z => nomatch z)
          refine ⟨fz, ?_⟩
          have k45 : Kept [] H4 (L2.upd Ha d (DicO P w d es)) := fun b u e hb => by
            by_cases h : b = d
            · rw [h, e4] at e
              rw [h, upd_same]
              exact e
            · rw [upd_ne h]
              exact kk b u (by rw [upd_ne h]; exact e) hb
          have tk5 := TK.of k45
          have hbs : ∀ b ∈ toldT es, ∃ s, s ≠ Say.clash ∧ Fol rws nb s ∧ b.2 = keyW s.ws ∧ SqT K H4 b.1 (s.ws.map V.str) := fun b hb => by
            obtain ⟨e, he, rfl⟩ := List.mem_map.mp hb
            obtain ⟨h1, h2⟩ := List.mem_filter.mp he
            obtain ⟨s', f1, f2, f3⟩ := se4 e h1
            refine ⟨s', fun z => ?_, f1, f2, f3⟩
            rw [f2, z] at h2
            simp at h2
          have ndt : ((toldT es).map (·.2)).Nodup := by
            unfold toldT
            rw [List.map_map]
            exact (List.Sublist.map _ List.filter_sublist).nodup nd
          have eD2 : (L2.upd Ha d (DicO P w d es)) Dl = some (.lst ((toldT es).map fun b => V.ref b.1)) := by
            rw [upd_ne dl, eD]
            unfold toldT
            rw [List.map_map]
            rfl
          refine ⟨Dl, toldT es, rfl, .inl (.of eD2), fun b hb => ?_, sort_says (rws := rws) (names := nb) fun b hb => ?_, fun p np => ?_⟩
          · obtain ⟨s', _, _, f2, f3⟩ := hbs b hb
            rw [f2, keyW_kV]
            exact sqT_tk tk5 f3
          · obtain ⟨s', f0, f1, f2, _⟩ := hbs b hb
            exact ⟨s', f0, f1, f2⟩
          · have k1f := (k14.trans k45).upd (o := .lst (((toldT es).mergeSort leT).map fun b => V.ref b.1)) np
            have kpf := kp1.trans (Kp.of kp1.tab k1f)
            refine k p (toldT es) rws nb _ kpf (kp1.fresh ht (none_of (k14.trans k45) np)) upd_same hrw hm2 (fun b hb => ?_) (fun s' n1 f1 => ?_) ndt ?_
            · obtain ⟨s', f0, f1, f2, f3⟩ := hbs b hb
              exact ⟨s', f0, f1, f2, sqT_tk (TK.new tk5 np) f3⟩
            · obtain ⟨e, he, ek⟩ := (hes s').mpr f1
              refine ⟨(e.2.1, e.1), List.mem_map.mpr ⟨e, List.mem_filter.mpr ⟨he, ?_⟩, rfl⟩, ek⟩
              rw [ek, decide_eq_false fun z => n1 (Say.inj (keyW_inj z))]
              rfl
            · have h := len_sub ((toldT es).map (·.2)) (allSay.map fun s => keyW s.ws) ndt fun y hy => by
                obtain ⟨b, hb, rfl⟩ := List.mem_map.mp hy
                obtain ⟨s', _, f1, f2, _⟩ := hbs b hb
                exact List.mem_map.mpr ⟨s', mem_allSay (hff s' f1).1, f2.symm⟩
              rw [List.length_map, List.length_map, allSay_len] at h
              exact h
end
end Ah
end
section
set_option Elab.async false
set_option linter.all false
set_option maxRecDepth 100000
set_option maxHeartbeats 8000000
namespace Ah
open PySem PySem.Spec PyProof.Rows L2
/-! ### the law's own steps -/
def lawLed (r : Rw) (x : Say) : List Say :=
  match x with
  | .is n k => (match r with
    | .all a b => if a = k then [.is n b] else []
    | .each a b c => if a = k then [.has n b c] else []
    | _ => [])
  | .has n t m => (match r with
    | .turned a b => if a = t then [.has m b n] else []
    | .under a b => if a = t then [.has n b m] else []
    | .fr a b => if a = t then [.is n b] else []
    | .to a b => if a = t then [.is m b] else []
    | _ => [])
  | .clash => []
def lawBoth (r : Rw) (x y : Say) : List Say :=
  match r with
  | .on a => (match x, y with
    | .has n t m, .has n' t' m' => if t = a ∧ t' = a ∧ m = n' then [.has n a m'] else []
    | _, _ => [])
  | .who a b c => (match x with
    | .has n t m => if t = a ∧ y = .is m b then [.is n c] else []
    | _ => [])
  | _ => []
def SaysAt (K : PySem.W.Frag) (H : Hp) (p : Addr) (ls : List Say) : Prop := ∃ vs, H p = some (.lst vs) ∧ Paired (fun v s => SayAt K H v s) vs ls
theorem mk_say1 {K : PySem.W.Frag} {σ : L2.St} {H0 : Hp} {te : TE} {s : Say} {H : Hp} {Q : VK} (h : MkV K te σ H0 (some s)) (k : Kept [] H0 H) (q : ∀ p H', Kept [] H H' → H p = none → SaysAt K H' p [s] → Q (.ref p) H') : tLst (tCons te tNil) σ H Q :=
  h H _ k fun v H1 k1 o1 => ⟨by show 1 ≤ sizeLine; decide, fun p np => q p _ (k1.upd np) (none_of k1 np) ⟨[v], upd_same, .cons (SayAt.tk (TK.new (TK.refl _) np) o1) .nil⟩⟩
theorem mk_say0 {K : PySem.W.Frag} {σ : L2.St} {H : Hp} {Q : VK} (q : ∀ p H', Kept [] H H' → H p = none → SaysAt K H' p [] → Q (.ref p) H') : tLst tNil σ H Q :=
  ⟨by show 0 ≤ sizeLine; decide, fun p np => q p _ ((Kept.refl H).upd np) np ⟨[], upd_same, .nil⟩⟩
theorem scLd : FnScope ["_law_one_here", "_law_x", "_law_word"] ["_law_one_here", "_law_x"] (defScope lLed) := ⟨rfl, rfl, rfl, by decide +kernel, rfl, by decide +kernel, by decide +kernel⟩
theorem scBo : FnScope ["_law_one_here", "_law_x", "_law_y"] ["_law_one_here", "_law_x", "_law_y"] (defScope lBoth) := ⟨rfl, rfl, rfl, by decide +kernel, rfl, by decide +kernel, by decide +kernel⟩
def spLed (K : PySem.W.Frag) : Sp := fun vs H Q _ => ∃ (ra xa : Addr) (r : Rw) (sx : Say), vs = [.ref ra, .ref xa] ∧ RowAt K H ra r ∧ SqT K H xa (sx.ws.map V.str) ∧ sx ≠ .clash ∧
  ∀ p H', Kept [] H H' → H p = none → SaysAt K H' p (lawLed r sx) → Q (.ref p) H'
def spBoth (K : PySem.W.Frag) : Sp := fun vs H Q _ => ∃ (ra xa ya : Addr) (r : Rw) (sx sy : Say), vs = [.ref ra, .ref xa, .ref ya] ∧ RowAt K H ra r ∧ SqT K H xa (sx.ws.map V.str) ∧ SqT K H ya (sy.ws.map V.str) ∧ sx ≠ .clash ∧ sy ≠ .clash ∧ okW r.ws ∧ okW sx.ws ∧ okW sy.ws ∧
  ∀ p H', Kept [] H H' → H p = none → SaysAt K H' p (lawBoth r sx sy) → Q (.ref p) H'
section
variable {P : Program} {w : World} {K : PySem.W.Frag} {mg : Str → Option Value} {base : Heap} {f : Addr} {fd : FuncData}
theorem ok_led (F : FnP K "_law_led" lLed f fd) : FnOk P w K mg base CX0 1 f fd ["_law_one_here", "_law_x"] (spLed K) := by
  refine F.ok scLd (fun vs H Q E h => ?_) (fun cdv A outer s H vs Q E hr h => ?_)
  · obtain ⟨ra, xa, r, sx, rfl, _⟩ := h
    rfl
  · obtain ⟨ra, xa, r, sx, rfl, hrow, hxa, hne, q⟩ := h
    refine ⟨_, PSs.nox (pss_cons (ps_set (i := 2) scLd.nd rfl (.inl rfl) (pe_ix ix_tup (pv 0) pe_int (fun _ _ => rfl)))
      (pss_cons (ps_if (pt_cmpR op_eq (pe_ix ix_tup (pv 1) pe_int (fun _ _ => rfl)) pe_str (nomark _)) (pss_cons (ps_if (PW.pt (pw_and (pt_cmpR op_eq (pv 2) pe_str (nomark _)) (pw_and1 (pt_cmpR op_eq (pe_ix ix_tup (pv 0) pe_int (fun _ _ => rfl)) (pe_ix ix_tup (pv 1) pe_int (fun _ _ => rfl)) (nomark _))))) (pss_one (ps_ret (pe_lst (pa_cons (pe_tup (pa_cons pe_str (pa_cons (pe_ix ix_tup (pv 1) pe_int (fun _ _ => rfl)) (pa_cons (pe_ix ix_tup (pv 0) pe_int (fun _ _ => rfl)) pa_nil)))) pa_nil)))) pss_nil)
      (pss_one (ps_ret (pe_ifExp (PW.pt (pw_and (pt_cmpR op_eq (pv 2) pe_str (nomark _)) (pw_and1 (pt_cmpR op_eq (pe_ix ix_tup (pv 0) pe_int (fun _ _ => rfl)) (pe_ix ix_tup (pv 1) pe_int (fun _ _ => rfl)) (nomark _))))) (pe_lst (pa_cons (pe_tup (pa_cons pe_str (pa_cons (pe_ix ix_tup (pv 1) pe_int (fun _ _ => rfl)) (pa_cons (pe_ix ix_tup (pv 0) pe_int (fun _ _ => rfl)) (pa_cons (pe_ix ix_tup (pv 0) pe_int (fun _ _ => rfl)) pa_nil))))) pa_nil)) (pe_lst pa_nil))))) pss_nil)
      (pss_cons (ps_if (pt_cmpR op_ne (pe_ix ix_tup (pv 0) pe_int (fun _ _ => rfl)) (pe_ix ix_tup (pv 1) pe_int (fun _ _ => rfl)) (nomark _)) (pss_one (ps_ret (pe_lst pa_nil))) pss_nil)
      (pss_cons (ps_if (pt_cmpR op_eq (pv 2) pe_str (nomark _)) (pss_one (ps_ret (pe_lst (pa_cons (pe_tup (pa_cons pe_str (pa_cons (pe_ix ix_tup (pv 1) pe_int (fun _ _ => rfl)) (pa_cons (pe_ix ix_tup (pv 0) pe_int (fun _ _ => rfl)) (pa_cons (pe_ix ix_tup (pv 1) pe_int (fun _ _ => rfl)) pa_nil))))) pa_nil)))) pss_nil)
      (pss_cons (ps_if (pt_cmpR op_eq (pv 2) pe_str (nomark _)) (pss_one (ps_ret (pe_lst (pa_cons (pe_tup (pa_cons pe_str (pa_cons (pe_ix ix_tup (pv 1) pe_int (fun _ _ => rfl)) (pa_cons (pe_ix ix_tup (pv 0) pe_int (fun _ _ => rfl)) (pa_cons (pe_ix ix_tup (pv 1) pe_int (fun _ _ => rfl)) pa_nil))))) pa_nil)))) pss_nil)
      (pss_cons (ps_if (pt_cmpR op_eq (pv 2) pe_str (nomark _)) (pss_one (ps_ret (pe_lst (pa_cons (pe_tup (pa_cons pe_str (pa_cons (pe_ix ix_tup (pv 1) pe_int (fun _ _ => rfl)) (pa_cons (pe_ix ix_tup (pv 0) pe_int (fun _ _ => rfl)) pa_nil)))) pa_nil)))) pss_nil)
      (pss_one (ps_ret (pe_ifExp (pt_cmpR op_eq (pv 2) pe_str (nomark _)) (pe_lst (pa_cons (pe_tup (pa_cons pe_str (pa_cons (pe_ix ix_tup (pv 1) pe_int (fun _ _ => rfl)) (pa_cons (pe_ix ix_tup (pv 0) pe_int (fun _ _ => rfl)) pa_nil)))) pa_nil)) (pe_lst pa_nil)))))))))), ?_⟩
    unfold RowAt at hrow
    have nil : ∀ H', Kept [] H H' → lawLed r sx = [] → tLst tNil [] H' Q := fun H' kk e => mk_say0 (K := K) fun p H2 k2 n2 l2 => q p H2 (kk.trans k2) (none_of kk n2) (by rw [e]; exact l2)
    cases sx with
    | clash => exact (hne rfl).elim
    | is n k =>
      have hx0 := hxa
      cases r with
      | is a b =>
        refine ⟨_, rfl, ra, _, 0, _, rfl, rfl, hrow, at_of (j := 0) rfl rfl, ?_⟩
        refine ⟨_, rfl, xa, _, 0, _, rfl, rfl, hxa, at_of (j := 0) rfl rfl, rfl, _, rfl, if_yes (by decide +kernel) ?_⟩
        (refine ⟨_, rfl, rfl, _, rfl, if_no (by decide +kernel) (iteF ?_)⟩)
        (refine ⟨_, rfl, rfl, _, rfl, if_no (by decide +kernel) (iteF ?_)⟩)
        exact nil H (Kept.refl H) rfl
      | isnt a b =>
        refine ⟨_, rfl, ra, _, 0, _, rfl, rfl, hrow, at_of (j := 0) rfl rfl, ?_⟩
        refine ⟨_, rfl, xa, _, 0, _, rfl, rfl, hxa, at_of (j := 0) rfl rfl, rfl, _, rfl, if_yes (by decide +kernel) ?_⟩
        (refine ⟨_, rfl, rfl, _, rfl, if_no (by decide +kernel) (iteF ?_)⟩)
        (refine ⟨_, rfl, rfl, _, rfl, if_no (by decide +kernel) (iteF ?_)⟩)
        exact nil H (Kept.refl H) rfl
      | has a b c =>
        refine ⟨_, rfl, ra, _, 0, _, rfl, rfl, hrow, at_of (j := 0) rfl rfl, ?_⟩
        refine ⟨_, rfl, xa, _, 0, _, rfl, rfl, hxa, at_of (j := 0) rfl rfl, rfl, _, rfl, if_yes (by decide +kernel) ?_⟩
        (refine ⟨_, rfl, rfl, _, rfl, if_no (by decide +kernel) (iteF ?_)⟩)
        (refine ⟨_, rfl, rfl, _, rfl, if_no (by decide +kernel) (iteF ?_)⟩)
        exact nil H (Kept.refl H) rfl
      | hasnt a b c =>
        refine ⟨_, rfl, ra, _, 0, _, rfl, rfl, hrow, at_of (j := 0) rfl rfl, ?_⟩
        refine ⟨_, rfl, xa, _, 0, _, rfl, rfl, hxa, at_of (j := 0) rfl rfl, rfl, _, rfl, if_yes (by decide +kernel) ?_⟩
        (refine ⟨_, rfl, rfl, _, rfl, if_no (by decide +kernel) (iteF ?_)⟩)
        (refine ⟨_, rfl, rfl, _, rfl, if_no (by decide +kernel) (iteF ?_)⟩)
        exact nil H (Kept.refl H) rfl
      | all a b =>
        refine ⟨_, rfl, ra, _, 0, _, rfl, rfl, hrow, at_of (j := 0) rfl rfl, ?_⟩
        refine ⟨_, rfl, xa, _, 0, _, rfl, rfl, hxa, at_of (j := 0) rfl rfl, rfl, _, rfl, if_yes (by decide +kernel) ?_⟩
        (refine ⟨_, rfl, rfl, _, rfl, if_yes (by decide +kernel) ?_⟩)
        refine ⟨_, rfl, ra, _, 1, _, rfl, rfl, hrow, at_of (j := 1) rfl rfl, _, rfl, xa, _, 2, _, rfl, rfl, hxa, at_of (j := 2) rfl rfl, rfl, _, rfl, if_dec (fun e => ?_) (fun e => ?_)⟩
        · refine mk_say1 (K := K) (s := .is n b) (mk_new (valB_str (valB_ix rfl hxa (j := 1) rfl rfl (valB_ix rfl hrow (j := 2) rfl rfl valB_nil)))) (Kept.refl H) fun p H' kk nn l => q p H' kk nn ?_
          have e2 : lawLed (.all a b) (.is n k) = [.is n b] := if_pos (V.str.inj e)
          rw [e2]
          exact l
        · (refine ⟨_, rfl, rfl, _, rfl, if_no (by decide +kernel) (iteF ?_)⟩)
          exact nil H (Kept.refl H) (if_neg fun z => e (by rw [z]))
      | no a b =>
        refine ⟨_, rfl, ra, _, 0, _, rfl, rfl, hrow, at_of (j := 0) rfl rfl, ?_⟩
        refine ⟨_, rfl, xa, _, 0, _, rfl, rfl, hxa, at_of (j := 0) rfl rfl, rfl, _, rfl, if_yes (by decide +kernel) ?_⟩
        (refine ⟨_, rfl, rfl, _, rfl, if_no (by decide +kernel) (iteF ?_)⟩)
        (refine ⟨_, rfl, rfl, _, rfl, if_no (by decide +kernel) (iteF ?_)⟩)
        exact nil H (Kept.refl H) rfl
      | each a b c =>
        refine ⟨_, rfl, ra, _, 0, _, rfl, rfl, hrow, at_of (j := 0) rfl rfl, ?_⟩
        refine ⟨_, rfl, xa, _, 0, _, rfl, rfl, hxa, at_of (j := 0) rfl rfl, rfl, _, rfl, if_yes (by decide +kernel) ?_⟩
        (refine ⟨_, rfl, rfl, _, rfl, if_no (by decide +kernel) (iteF ?_)⟩)
        (refine ⟨_, rfl, rfl, _, rfl, if_yes (by decide +kernel) ?_⟩)
        refine ⟨_, rfl, ra, _, 1, _, rfl, rfl, hrow, at_of (j := 1) rfl rfl, _, rfl, xa, _, 2, _, rfl, rfl, hxa, at_of (j := 2) rfl rfl, rfl, _, rfl, if_dec (fun e => ?_) (fun e => ?_)⟩
        · refine mk_say1 (K := K) (s := .has n b c) (mk_new (valB_str (valB_ix rfl hxa (j := 1) rfl rfl (valB_ix rfl hrow (j := 2) rfl rfl (valB_ix rfl hrow (j := 3) rfl rfl valB_nil))))) (Kept.refl H) fun p H' kk nn l => q p H' kk nn ?_
          have e2 : lawLed (.each a b c) (.is n k) = [.has n b c] := if_pos (V.str.inj e)
          rw [e2]
          exact l
        · exact nil H (Kept.refl H) (if_neg fun z => e (by rw [z]))
      | who a b c =>
        refine ⟨_, rfl, ra, _, 0, _, rfl, rfl, hrow, at_of (j := 0) rfl rfl, ?_⟩
        refine ⟨_, rfl, xa, _, 0, _, rfl, rfl, hxa, at_of (j := 0) rfl rfl, rfl, _, rfl, if_yes (by decide +kernel) ?_⟩
        (refine ⟨_, rfl, rfl, _, rfl, if_no (by decide +kernel) (iteF ?_)⟩)
        (refine ⟨_, rfl, rfl, _, rfl, if_no (by decide +kernel) (iteF ?_)⟩)
        exact nil H (Kept.refl H) rfl
      | turned a b =>
        refine ⟨_, rfl, ra, _, 0, _, rfl, rfl, hrow, at_of (j := 0) rfl rfl, ?_⟩
        refine ⟨_, rfl, xa, _, 0, _, rfl, rfl, hxa, at_of (j := 0) rfl rfl, rfl, _, rfl, if_yes (by decide +kernel) ?_⟩
        (refine ⟨_, rfl, rfl, _, rfl, if_no (by decide +kernel) (iteF ?_)⟩)
        (refine ⟨_, rfl, rfl, _, rfl, if_no (by decide +kernel) (iteF ?_)⟩)
        exact nil H (Kept.refl H) rfl
      | on a =>
        refine ⟨_, rfl, ra, _, 0, _, rfl, rfl, hrow, at_of (j := 0) rfl rfl, ?_⟩
        refine ⟨_, rfl, xa, _, 0, _, rfl, rfl, hxa, at_of (j := 0) rfl rfl, rfl, _, rfl, if_yes (by decide +kernel) ?_⟩
        (refine ⟨_, rfl, rfl, _, rfl, if_no (by decide +kernel) (iteF ?_)⟩)
        (refine ⟨_, rfl, rfl, _, rfl, if_no (by decide +kernel) (iteF ?_)⟩)
        exact nil H (Kept.refl H) rfl
      | fr a b =>
        refine ⟨_, rfl, ra, _, 0, _, rfl, rfl, hrow, at_of (j := 0) rfl rfl, ?_⟩
        refine ⟨_, rfl, xa, _, 0, _, rfl, rfl, hxa, at_of (j := 0) rfl rfl, rfl, _, rfl, if_yes (by decide +kernel) ?_⟩
        (refine ⟨_, rfl, rfl, _, rfl, if_no (by decide +kernel) (iteF ?_)⟩)
        (refine ⟨_, rfl, rfl, _, rfl, if_no (by decide +kernel) (iteF ?_)⟩)
        exact nil H (Kept.refl H) rfl
      | to a b =>
        refine ⟨_, rfl, ra, _, 0, _, rfl, rfl, hrow, at_of (j := 0) rfl rfl, ?_⟩
        refine ⟨_, rfl, xa, _, 0, _, rfl, rfl, hxa, at_of (j := 0) rfl rfl, rfl, _, rfl, if_yes (by decide +kernel) ?_⟩
        (refine ⟨_, rfl, rfl, _, rfl, if_no (by decide +kernel) (iteF ?_)⟩)
        (refine ⟨_, rfl, rfl, _, rfl, if_no (by decide +kernel) (iteF ?_)⟩)
        exact nil H (Kept.refl H) rfl
      | under a b =>
        refine ⟨_, rfl, ra, _, 0, _, rfl, rfl, hrow, at_of (j := 0) rfl rfl, ?_⟩
        refine ⟨_, rfl, xa, _, 0, _, rfl, rfl, hxa, at_of (j := 0) rfl rfl, rfl, _, rfl, if_yes (by decide +kernel) ?_⟩
        (refine ⟨_, rfl, rfl, _, rfl, if_no (by decide +kernel) (iteF ?_)⟩)
        (refine ⟨_, rfl, rfl, _, rfl, if_no (by decide +kernel) (iteF ?_)⟩)
        exact nil H (Kept.refl H) rfl
    | has n t m =>
      cases r with
      | is a b =>
        refine ⟨_, rfl, ra, _, 0, _, rfl, rfl, hrow, at_of (j := 0) rfl rfl, ?_⟩
        refine ⟨_, rfl, xa, _, 0, _, rfl, rfl, hxa, at_of (j := 0) rfl rfl, rfl, _, rfl, if_no (by decide +kernel) ?_⟩
        refine ⟨_, rfl, ra, _, 1, _, rfl, rfl, hrow, at_of (j := 1) rfl rfl, _, rfl, xa, _, 2, _, rfl, rfl, hxa, at_of (j := 2) rfl rfl, rfl, _, rfl, if_nd (fun e => ?_) (fun e => ?_)⟩
        · exact nil H (Kept.refl H) rfl
        · (refine ⟨_, rfl, rfl, _, rfl, if_no (by decide +kernel) ?_⟩)
          (refine ⟨_, rfl, rfl, _, rfl, if_no (by decide +kernel) ?_⟩)
          (refine ⟨_, rfl, rfl, _, rfl, if_no (by decide +kernel) ?_⟩)
          (refine ⟨_, rfl, rfl, _, rfl, if_no (by decide +kernel) ?_⟩)
          exact nil H (Kept.refl H) rfl
      | isnt a b =>
        refine ⟨_, rfl, ra, _, 0, _, rfl, rfl, hrow, at_of (j := 0) rfl rfl, ?_⟩
        refine ⟨_, rfl, xa, _, 0, _, rfl, rfl, hxa, at_of (j := 0) rfl rfl, rfl, _, rfl, if_no (by decide +kernel) ?_⟩
        refine ⟨_, rfl, ra, _, 1, _, rfl, rfl, hrow, at_of (j := 1) rfl rfl, _, rfl, xa, _, 2, _, rfl, rfl, hxa, at_of (j := 2) rfl rfl, rfl, _, rfl, if_nd (fun e => ?_) (fun e => ?_)⟩
        · exact nil H (Kept.refl H) rfl
        · (refine ⟨_, rfl, rfl, _, rfl, if_no (by decide +kernel) ?_⟩)
          (refine ⟨_, rfl, rfl, _, rfl, if_no (by decide +kernel) ?_⟩)
          (refine ⟨_, rfl, rfl, _, rfl, if_no (by decide +kernel) ?_⟩)
          (refine ⟨_, rfl, rfl, _, rfl, if_no (by decide +kernel) ?_⟩)
          exact nil H (Kept.refl H) rfl
      | has a b c =>
        refine ⟨_, rfl, ra, _, 0, _, rfl, rfl, hrow, at_of (j := 0) rfl rfl, ?_⟩
        refine ⟨_, rfl, xa, _, 0, _, rfl, rfl, hxa, at_of (j := 0) rfl rfl, rfl, _, rfl, if_no (by decide +kernel) ?_⟩
        refine ⟨_, rfl, ra, _, 1, _, rfl, rfl, hrow, at_of (j := 1) rfl rfl, _, rfl, xa, _, 2, _, rfl, rfl, hxa, at_of (j := 2) rfl rfl, rfl, _, rfl, if_nd (fun e => ?_) (fun e => ?_)⟩
        · exact nil H (Kept.refl H) rfl
        · (refine ⟨_, rfl, rfl, _, rfl, if_no (by decide +kernel) ?_⟩)
          (refine ⟨_, rfl, rfl, _, rfl, if_no (by decide +kernel) ?_⟩)
          (refine ⟨_, rfl, rfl, _, rfl, if_no (by decide +kernel) ?_⟩)
          (refine ⟨_, rfl, rfl, _, rfl, if_no (by decide +kernel) ?_⟩)
          exact nil H (Kept.refl H) rfl
      | hasnt a b c =>
        refine ⟨_, rfl, ra, _, 0, _, rfl, rfl, hrow, at_of (j := 0) rfl rfl, ?_⟩
        refine ⟨_, rfl, xa, _, 0, _, rfl, rfl, hxa, at_of (j := 0) rfl rfl, rfl, _, rfl, if_no (by decide +kernel) ?_⟩
        refine ⟨_, rfl, ra, _, 1, _, rfl, rfl, hrow, at_of (j := 1) rfl rfl, _, rfl, xa, _, 2, _, rfl, rfl, hxa, at_of (j := 2) rfl rfl, rfl, _, rfl, if_nd (fun e => ?_) (fun e => ?_)⟩
        · exact nil H (Kept.refl H) rfl
        · (refine ⟨_, rfl, rfl, _, rfl, if_no (by decide +kernel) ?_⟩)
          (refine ⟨_, rfl, rfl, _, rfl, if_no (by decide +kernel) ?_⟩)
          (refine ⟨_, rfl, rfl, _, rfl, if_no (by decide +kernel) ?_⟩)
          (refine ⟨_, rfl, rfl, _, rfl, if_no (by decide +kernel) ?_⟩)
          exact nil H (Kept.refl H) rfl
      | all a b =>
        refine ⟨_, rfl, ra, _, 0, _, rfl, rfl, hrow, at_of (j := 0) rfl rfl, ?_⟩
        refine ⟨_, rfl, xa, _, 0, _, rfl, rfl, hxa, at_of (j := 0) rfl rfl, rfl, _, rfl, if_no (by decide +kernel) ?_⟩
        refine ⟨_, rfl, ra, _, 1, _, rfl, rfl, hrow, at_of (j := 1) rfl rfl, _, rfl, xa, _, 2, _, rfl, rfl, hxa, at_of (j := 2) rfl rfl, rfl, _, rfl, if_nd (fun e => ?_) (fun e => ?_)⟩
        · exact nil H (Kept.refl H) rfl
        · (refine ⟨_, rfl, rfl, _, rfl, if_no (by decide +kernel) ?_⟩)
          (refine ⟨_, rfl, rfl, _, rfl, if_no (by decide +kernel) ?_⟩)
          (refine ⟨_, rfl, rfl, _, rfl, if_no (by decide +kernel) ?_⟩)
          (refine ⟨_, rfl, rfl, _, rfl, if_no (by decide +kernel) ?_⟩)
          exact nil H (Kept.refl H) rfl
      | no a b =>
        refine ⟨_, rfl, ra, _, 0, _, rfl, rfl, hrow, at_of (j := 0) rfl rfl, ?_⟩
        refine ⟨_, rfl, xa, _, 0, _, rfl, rfl, hxa, at_of (j := 0) rfl rfl, rfl, _, rfl, if_no (by decide +kernel) ?_⟩
        refine ⟨_, rfl, ra, _, 1, _, rfl, rfl, hrow, at_of (j := 1) rfl rfl, _, rfl, xa, _, 2, _, rfl, rfl, hxa, at_of (j := 2) rfl rfl, rfl, _, rfl, if_nd (fun e => ?_) (fun e => ?_)⟩
        · exact nil H (Kept.refl H) rfl
        · (refine ⟨_, rfl, rfl, _, rfl, if_no (by decide +kernel) ?_⟩)
          (refine ⟨_, rfl, rfl, _, rfl, if_no (by decide +kernel) ?_⟩)
          (refine ⟨_, rfl, rfl, _, rfl, if_no (by decide +kernel) ?_⟩)
          (refine ⟨_, rfl, rfl, _, rfl, if_no (by decide +kernel) ?_⟩)
          exact nil H (Kept.refl H) rfl
      | each a b c =>
        refine ⟨_, rfl, ra, _, 0, _, rfl, rfl, hrow, at_of (j := 0) rfl rfl, ?_⟩
        refine ⟨_, rfl, xa, _, 0, _, rfl, rfl, hxa, at_of (j := 0) rfl rfl, rfl, _, rfl, if_no (by decide +kernel) ?_⟩
        refine ⟨_, rfl, ra, _, 1, _, rfl, rfl, hrow, at_of (j := 1) rfl rfl, _, rfl, xa, _, 2, _, rfl, rfl, hxa, at_of (j := 2) rfl rfl, rfl, _, rfl, if_nd (fun e => ?_) (fun e => ?_)⟩
        · exact nil H (Kept.refl H) rfl
        · (refine ⟨_, rfl, rfl, _, rfl, if_no (by decide +kernel) ?_⟩)
          (refine ⟨_, rfl, rfl, _, rfl, if_no (by decide +kernel) ?_⟩)
          (refine ⟨_, rfl, rfl, _, rfl, if_no (by decide +kernel) ?_⟩)
          (refine ⟨_, rfl, rfl, _, rfl, if_no (by decide +kernel) ?_⟩)
          exact nil H (Kept.refl H) rfl
      | who a b c =>
        refine ⟨_, rfl, ra, _, 0, _, rfl, rfl, hrow, at_of (j := 0) rfl rfl, ?_⟩
        refine ⟨_, rfl, xa, _, 0, _, rfl, rfl, hxa, at_of (j := 0) rfl rfl, rfl, _, rfl, if_no (by decide +kernel) ?_⟩
        refine ⟨_, rfl, ra, _, 1, _, rfl, rfl, hrow, at_of (j := 1) rfl rfl, _, rfl, xa, _, 2, _, rfl, rfl, hxa, at_of (j := 2) rfl rfl, rfl, _, rfl, if_nd (fun e => ?_) (fun e => ?_)⟩
        · exact nil H (Kept.refl H) rfl
        · (refine ⟨_, rfl, rfl, _, rfl, if_no (by decide +kernel) ?_⟩)
          (refine ⟨_, rfl, rfl, _, rfl, if_no (by decide +kernel) ?_⟩)
          (refine ⟨_, rfl, rfl, _, rfl, if_no (by decide +kernel) ?_⟩)
          (refine ⟨_, rfl, rfl, _, rfl, if_no (by decide +kernel) ?_⟩)
          exact nil H (Kept.refl H) rfl
      | turned a b =>
        refine ⟨_, rfl, ra, _, 0, _, rfl, rfl, hrow, at_of (j := 0) rfl rfl, ?_⟩
        refine ⟨_, rfl, xa, _, 0, _, rfl, rfl, hxa, at_of (j := 0) rfl rfl, rfl, _, rfl, if_no (by decide +kernel) ?_⟩
        refine ⟨_, rfl, ra, _, 1, _, rfl, rfl, hrow, at_of (j := 1) rfl rfl, _, rfl, xa, _, 2, _, rfl, rfl, hxa, at_of (j := 2) rfl rfl, rfl, _, rfl, if_nd (fun e => ?_) (fun e => ?_)⟩
        · exact nil H (Kept.refl H) (if_neg fun z => e (by rw [z]))
        · have e2 : lawLed (.turned a b) (.has n t m) = [.has m b n] := if_pos (V.str.inj e)
          rw [e2] at q
          (refine ⟨_, rfl, rfl, _, rfl, if_yes (by decide +kernel) ?_⟩)
          exact mk_say1 (K := K) (s := .has m b n) (mk_new (valB_str (valB_ix rfl hxa (j := 3) rfl rfl (valB_ix rfl hrow (j := 2) rfl rfl (valB_ix rfl hxa (j := 1) rfl rfl valB_nil))))) (Kept.refl H) q
      | on a =>
        refine ⟨_, rfl, ra, _, 0, _, rfl, rfl, hrow, at_of (j := 0) rfl rfl, ?_⟩
        refine ⟨_, rfl, xa, _, 0, _, rfl, rfl, hxa, at_of (j := 0) rfl rfl, rfl, _, rfl, if_no (by decide +kernel) ?_⟩
        refine ⟨_, rfl, ra, _, 1, _, rfl, rfl, hrow, at_of (j := 1) rfl rfl, _, rfl, xa, _, 2, _, rfl, rfl, hxa, at_of (j := 2) rfl rfl, rfl, _, rfl, if_nd (fun e => ?_) (fun e => ?_)⟩
        · exact nil H (Kept.refl H) rfl
        · (refine ⟨_, rfl, rfl, _, rfl, if_no (by decide +kernel) ?_⟩)
          (refine ⟨_, rfl, rfl, _, rfl, if_no (by decide +kernel) ?_⟩)
          (refine ⟨_, rfl, rfl, _, rfl, if_no (by decide +kernel) ?_⟩)
          (refine ⟨_, rfl, rfl, _, rfl, if_no (by decide +kernel) ?_⟩)
          exact nil H (Kept.refl H) rfl
      | fr a b =>
        refine ⟨_, rfl, ra, _, 0, _, rfl, rfl, hrow, at_of (j := 0) rfl rfl, ?_⟩
        refine ⟨_, rfl, xa, _, 0, _, rfl, rfl, hxa, at_of (j := 0) rfl rfl, rfl, _, rfl, if_no (by decide +kernel) ?_⟩
        refine ⟨_, rfl, ra, _, 1, _, rfl, rfl, hrow, at_of (j := 1) rfl rfl, _, rfl, xa, _, 2, _, rfl, rfl, hxa, at_of (j := 2) rfl rfl, rfl, _, rfl, if_nd (fun e => ?_) (fun e => ?_)⟩
        · exact nil H (Kept.refl H) (if_neg fun z => e (by rw [z]))
        · have e2 : lawLed (.fr a b) (.has n t m) = [.is n b] := if_pos (V.str.inj e)
          rw [e2] at q
          (refine ⟨_, rfl, rfl, _, rfl, if_no (by decide +kernel) ?_⟩)
          (refine ⟨_, rfl, rfl, _, rfl, if_no (by decide +kernel) ?_⟩)
          (refine ⟨_, rfl, rfl, _, rfl, if_yes (by decide +kernel) ?_⟩)
          exact mk_say1 (K := K) (s := .is n b) (mk_new (valB_str (valB_ix rfl hxa (j := 1) rfl rfl (valB_ix rfl hrow (j := 2) rfl rfl valB_nil)))) (Kept.refl H) q
      | to a b =>
        refine ⟨_, rfl, ra, _, 0, _, rfl, rfl, hrow, at_of (j := 0) rfl rfl, ?_⟩
        refine ⟨_, rfl, xa, _, 0, _, rfl, rfl, hxa, at_of (j := 0) rfl rfl, rfl, _, rfl, if_no (by decide +kernel) ?_⟩
        refine ⟨_, rfl, ra, _, 1, _, rfl, rfl, hrow, at_of (j := 1) rfl rfl, _, rfl, xa, _, 2, _, rfl, rfl, hxa, at_of (j := 2) rfl rfl, rfl, _, rfl, if_nd (fun e => ?_) (fun e => ?_)⟩
        · exact nil H (Kept.refl H) (if_neg fun z => e (by rw [z]))
        · have e2 : lawLed (.to a b) (.has n t m) = [.is m b] := if_pos (V.str.inj e)
          rw [e2] at q
          (refine ⟨_, rfl, rfl, _, rfl, if_no (by decide +kernel) ?_⟩)
          (refine ⟨_, rfl, rfl, _, rfl, if_no (by decide +kernel) ?_⟩)
          (refine ⟨_, rfl, rfl, _, rfl, if_no (by decide +kernel) ?_⟩)
          (refine ⟨_, rfl, rfl, _, rfl, if_yes (by decide +kernel) ?_⟩)
          exact mk_say1 (K := K) (s := .is m b) (mk_new (valB_str (valB_ix rfl hxa (j := 3) rfl rfl (valB_ix rfl hrow (j := 2) rfl rfl valB_nil)))) (Kept.refl H) q
      | under a b =>
        refine ⟨_, rfl, ra, _, 0, _, rfl, rfl, hrow, at_of (j := 0) rfl rfl, ?_⟩
        refine ⟨_, rfl, xa, _, 0, _, rfl, rfl, hxa, at_of (j := 0) rfl rfl, rfl, _, rfl, if_no (by decide +kernel) ?_⟩
        refine ⟨_, rfl, ra, _, 1, _, rfl, rfl, hrow, at_of (j := 1) rfl rfl, _, rfl, xa, _, 2, _, rfl, rfl, hxa, at_of (j := 2) rfl rfl, rfl, _, rfl, if_nd (fun e => ?_) (fun e => ?_)⟩
        · exact nil H (Kept.refl H) (if_neg fun z => e (by rw [z]))
        · have e2 : lawLed (.under a b) (.has n t m) = [.has n b m] := if_pos (V.str.inj e)
          rw [e2] at q
          (refine ⟨_, rfl, rfl, _, rfl, if_no (by decide +kernel) ?_⟩)
          (refine ⟨_, rfl, rfl, _, rfl, if_yes (by decide +kernel) ?_⟩)
          exact mk_say1 (K := K) (s := .has n b m) (mk_new (valB_str (valB_ix rfl hxa (j := 1) rfl rfl (valB_ix rfl hrow (j := 2) rfl rfl (valB_ix rfl hxa (j := 3) rfl rfl valB_nil))))) (Kept.refl H) q
theorem ok_both (F : FnP K "_law_both" lBoth f fd) : FnOk P w K mg base CX0 1 f fd ["_law_one_here", "_law_x", "_law_y"] (spBoth K) := by
  refine F.ok scBo (fun vs H Q E h => ?_) (fun cdv A outer s H vs Q E hr h => ?_)
  · obtain ⟨ra, xa, ya, r, sx, sy, rfl, _⟩ := h
    rfl
  · obtain ⟨ra, xa, ya, r, sx, sy, rfl, hrow, hxa, hya, hnx, hny, okr, okx, oky, q⟩ := h
    refine ⟨_, PSs.nox (pss_cons (ps_if (PW.pt (pw_and (pt_cmpR op_eq (pe_ix ix_tup (pv 0) pe_int (fun _ _ => rfl)) pe_str (nomark _)) (pw_and (pt_cmpR op_eq (pe_ix ix_tup (pv 1) pe_int (fun _ _ => rfl)) pe_str (nomark _)) (pw_and (pt_cmpR op_eq (pe_ix ix_tup (pv 2) pe_int (fun _ _ => rfl)) pe_str (nomark _)) (pw_and (pt_cmpR op_eq (pe_ix ix_tup (pv 1) pe_int (fun _ _ => rfl)) (pe_ix ix_tup (pv 0) pe_int (fun _ _ => rfl)) (nomark _)) (pw_and (pt_cmpR op_eq (pe_ix ix_tup (pv 2) pe_int (fun _ _ => rfl)) (pe_ix ix_tup (pv 0) pe_int (fun _ _ => rfl)) (nomark _)) (pw_and1 (pt_cmpR op_eq (pe_ix ix_tup (pv 1) pe_int (fun _ _ => rfl)) (pe_ix ix_tup (pv 2) pe_int (fun _ _ => rfl)) (nomark _))))))))) (pss_one (ps_ret (pe_lst (pa_cons (pe_tup (pa_cons pe_str (pa_cons (pe_ix ix_tup (pv 1) pe_int (fun _ _ => rfl)) (pa_cons (pe_ix ix_tup (pv 0) pe_int (fun _ _ => rfl)) (pa_cons (pe_ix ix_tup (pv 2) pe_int (fun _ _ => rfl)) pa_nil))))) pa_nil)))) pss_nil)
      (pss_cons (ps_if (PW.pt (pw_and (pt_cmpR op_eq (pe_ix ix_tup (pv 0) pe_int (fun _ _ => rfl)) pe_str (nomark _)) (pw_and (pt_cmpR op_eq (pe_ix ix_tup (pv 1) pe_int (fun _ _ => rfl)) pe_str (nomark _)) (pw_and (pt_cmpR op_eq (pe_ix ix_tup (pv 1) pe_int (fun _ _ => rfl)) (pe_ix ix_tup (pv 0) pe_int (fun _ _ => rfl)) (nomark _)) (pw_and1 (pt_cmpR (op_eqD hr.units) (pv 2) (pe_tup (pa_cons pe_str (pa_cons (pe_ix ix_tup (pv 1) pe_int (fun _ _ => rfl)) (pa_cons (pe_ix ix_tup (pv 0) pe_int (fun _ _ => rfl)) pa_nil)))) (nomark _))))))) (pss_one (ps_ret (pe_lst (pa_cons (pe_tup (pa_cons pe_str (pa_cons (pe_ix ix_tup (pv 1) pe_int (fun _ _ => rfl)) (pa_cons (pe_ix ix_tup (pv 0) pe_int (fun _ _ => rfl)) pa_nil)))) pa_nil)))) pss_nil)
      (pss_one (ps_ret (pe_lst pa_nil))))), ?_⟩
    unfold RowAt at hrow
    have nil : ∀ H', Kept [] H H' → lawBoth r sx sy = [] → tLst tNil [] H' Q := fun H' kk e => mk_say0 (K := K) fun p H2 k2 n2 l2 => q p H2 (kk.trans k2) (none_of kk n2) (by rw [e]; exact l2)
    cases r with
    | is a b =>
      refine ⟨_, rfl, ra, _, 0, _, rfl, rfl, hrow, at_of (j := 0) rfl rfl, rfl, _, rfl, if_no (by decide +kernel) (iteF ?_)⟩
      refine ⟨_, rfl, ra, _, 0, _, rfl, rfl, hrow, at_of (j := 0) rfl rfl, rfl, _, rfl, if_no (by decide +kernel) (iteF ?_)⟩
      exact nil H (Kept.refl H) rfl
    | isnt a b =>
      refine ⟨_, rfl, ra, _, 0, _, rfl, rfl, hrow, at_of (j := 0) rfl rfl, rfl, _, rfl, if_no (by decide +kernel) (iteF ?_)⟩
      refine ⟨_, rfl, ra, _, 0, _, rfl, rfl, hrow, at_of (j := 0) rfl rfl, rfl, _, rfl, if_no (by decide +kernel) (iteF ?_)⟩
      exact nil H (Kept.refl H) rfl
    | has a b c =>
      refine ⟨_, rfl, ra, _, 0, _, rfl, rfl, hrow, at_of (j := 0) rfl rfl, rfl, _, rfl, if_no (by decide +kernel) (iteF ?_)⟩
      refine ⟨_, rfl, ra, _, 0, _, rfl, rfl, hrow, at_of (j := 0) rfl rfl, rfl, _, rfl, if_no (by decide +kernel) (iteF ?_)⟩
      exact nil H (Kept.refl H) rfl
    | hasnt a b c =>
      refine ⟨_, rfl, ra, _, 0, _, rfl, rfl, hrow, at_of (j := 0) rfl rfl, rfl, _, rfl, if_no (by decide +kernel) (iteF ?_)⟩
      refine ⟨_, rfl, ra, _, 0, _, rfl, rfl, hrow, at_of (j := 0) rfl rfl, rfl, _, rfl, if_no (by decide +kernel) (iteF ?_)⟩
      exact nil H (Kept.refl H) rfl
    | all a b =>
      refine ⟨_, rfl, ra, _, 0, _, rfl, rfl, hrow, at_of (j := 0) rfl rfl, rfl, _, rfl, if_no (by decide +kernel) (iteF ?_)⟩
      refine ⟨_, rfl, ra, _, 0, _, rfl, rfl, hrow, at_of (j := 0) rfl rfl, rfl, _, rfl, if_no (by decide +kernel) (iteF ?_)⟩
      exact nil H (Kept.refl H) rfl
    | no a b =>
      refine ⟨_, rfl, ra, _, 0, _, rfl, rfl, hrow, at_of (j := 0) rfl rfl, rfl, _, rfl, if_no (by decide +kernel) (iteF ?_)⟩
      refine ⟨_, rfl, ra, _, 0, _, rfl, rfl, hrow, at_of (j := 0) rfl rfl, rfl, _, rfl, if_no (by decide +kernel) (iteF ?_)⟩
      exact nil H (Kept.refl H) rfl
    | each a b c =>
      refine ⟨_, rfl, ra, _, 0, _, rfl, rfl, hrow, at_of (j := 0) rfl rfl, rfl, _, rfl, if_no (by decide +kernel) (iteF ?_)⟩
      refine ⟨_, rfl, ra, _, 0, _, rfl, rfl, hrow, at_of (j := 0) rfl rfl, rfl, _, rfl, if_no (by decide +kernel) (iteF ?_)⟩
      exact nil H (Kept.refl H) rfl
    | who a b c =>
      refine ⟨_, rfl, ra, _, 0, _, rfl, rfl, hrow, at_of (j := 0) rfl rfl, rfl, _, rfl, if_no (by decide +kernel) (iteF ?_)⟩
      refine ⟨_, rfl, ra, _, 0, _, rfl, rfl, hrow, at_of (j := 0) rfl rfl, rfl, _, rfl, if_yes (by decide +kernel) ?_⟩
      cases sx with
      | clash => exact (hnx rfl).elim
      | is n k =>
        refine ⟨_, rfl, xa, _, 0, _, rfl, rfl, hxa, at_of (j := 0) rfl rfl, rfl, _, rfl, if_no (by decide +kernel) (iteF ?_)⟩
        exact nil H (Kept.refl H) rfl
      | has n t m =>
        refine ⟨_, rfl, xa, _, 0, _, rfl, rfl, hxa, at_of (j := 0) rfl rfl, rfl, _, rfl, if_yes (by decide +kernel) ?_⟩
        refine ⟨_, rfl, xa, _, 2, _, rfl, rfl, hxa, at_of (j := 2) rfl rfl, _, rfl, ra, _, 1, _, rfl, rfl, hrow, at_of (j := 1) rfl rfl, rfl, _, rfl, if_dec (fun e1 => ?_) (fun e1 => iteF ?_)⟩
        · refine ⟨_, rfl, _, rfl, xa, _, 3, _, rfl, rfl, hxa, at_of (j := 3) rfl rfl, _, rfl, ra, _, 2, _, rfl, rfl, hrow, at_of (j := 2) rfl rfl, (by show 3 ≤ sizeLine; decide), fun Tp nT => ?_⟩
          have kT := (Kept.refl (M := []) H).upd (o := .tup [V.str "is", V.str m, V.str b]) nT
          have ok2 : okW (Say.is m b).ws := okW_cons.mpr ⟨by decide +kernel, okW_cons.mpr ⟨(okW_cons.mp (okW_tail (okW_tail (okW_tail okx)))).1, okW_cons.mpr ⟨(okW_cons.mp (okW_tail (okW_tail okr))).1, okW_nil⟩⟩⟩
          refine rd_eqW (xs := sy.ws) (ys := (Say.is m b).ws) (sqT_tk (.of kT) hya) (.inl (.of upd_same)) oky ok2 ⟨_, rfl, if_dec (fun e2 => ?_) (fun e2 => ?_)⟩
          · have e4 : lawBoth (.who a b c) (.has n t m) sy = [.is n c] := if_pos ⟨V.str.inj e1, Say.inj e2⟩
            rw [e4] at q
            exact mk_say1 (K := K) (s := .is n c) (mk_new (valB_str (valB_ix rfl hxa (j := 1) rfl rfl (valB_ix rfl hrow (j := 3) rfl rfl valB_nil)))) kT fun p H2 k2 n2 l2 => q p H2 (kT.trans k2) (none_of kT n2) l2
          · exact nil _ kT (if_neg fun z => e2 (by rw [z.2]))
        · exact nil H (Kept.refl H) (if_neg fun z => e1 (by rw [z.1]))
    | turned a b =>
      refine ⟨_, rfl, ra, _, 0, _, rfl, rfl, hrow, at_of (j := 0) rfl rfl, rfl, _, rfl, if_no (by decide +kernel) (iteF ?_)⟩
      refine ⟨_, rfl, ra, _, 0, _, rfl, rfl, hrow, at_of (j := 0) rfl rfl, rfl, _, rfl, if_no (by decide +kernel) (iteF ?_)⟩
      exact nil H (Kept.refl H) rfl
    | on a =>
      refine ⟨_, rfl, ra, _, 0, _, rfl, rfl, hrow, at_of (j := 0) rfl rfl, rfl, _, rfl, if_yes (by decide +kernel) ?_⟩
      cases sx with
      | clash => exact (hnx rfl).elim
      | is n k =>
        refine ⟨_, rfl, xa, _, 0, _, rfl, rfl, hxa, at_of (j := 0) rfl rfl, rfl, _, rfl, if_no (by decide +kernel) (iteF ?_)⟩
        refine ⟨_, rfl, ra, _, 0, _, rfl, rfl, hrow, at_of (j := 0) rfl rfl, rfl, _, rfl, if_no (by decide +kernel) (iteF ?_)⟩
        exact nil H (Kept.refl H) rfl
      | has n t m =>
        refine ⟨_, rfl, xa, _, 0, _, rfl, rfl, hxa, at_of (j := 0) rfl rfl, rfl, _, rfl, if_yes (by decide +kernel) ?_⟩
        cases sy with
        | clash => exact (hny rfl).elim
        | is n' k' =>
          refine ⟨_, rfl, ya, _, 0, _, rfl, rfl, hya, at_of (j := 0) rfl rfl, rfl, _, rfl, if_no (by decide +kernel) (iteF ?_)⟩
          refine ⟨_, rfl, ra, _, 0, _, rfl, rfl, hrow, at_of (j := 0) rfl rfl, rfl, _, rfl, if_no (by decide +kernel) (iteF ?_)⟩
          exact nil H (Kept.refl H) rfl
        | has n' t' m' =>
          refine ⟨_, rfl, ya, _, 0, _, rfl, rfl, hya, at_of (j := 0) rfl rfl, rfl, _, rfl, if_yes (by decide +kernel) ?_⟩
          refine ⟨_, rfl, xa, _, 2, _, rfl, rfl, hxa, at_of (j := 2) rfl rfl, _, rfl, ra, _, 1, _, rfl, rfl, hrow, at_of (j := 1) rfl rfl, rfl, _, rfl, if_dec (fun e1 => ?_) (fun e1 => iteF ?_)⟩
          · refine ⟨_, rfl, ya, _, 2, _, rfl, rfl, hya, at_of (j := 2) rfl rfl, _, rfl, ra, _, 1, _, rfl, rfl, hrow, at_of (j := 1) rfl rfl, rfl, _, rfl, if_dec (fun e2 => ?_) (fun e2 => iteF ?_)⟩
            · refine ⟨_, rfl, xa, _, 3, _, rfl, rfl, hxa, at_of (j := 3) rfl rfl, _, rfl, ya, _, 1, _, rfl, rfl, hya, at_of (j := 1) rfl rfl, rfl, _, rfl, if_dec (fun e3 => ?_) (fun e3 => ?_)⟩
              · have e4 : lawBoth (.on a) (.has n t m) (.has n' t' m') = [.has n a m'] := if_pos ⟨V.str.inj e1, V.str.inj e2, V.str.inj e3⟩
                rw [e4] at q
                exact mk_say1 (K := K) (s := .has n a m') (mk_new (valB_str (valB_ix rfl hxa (j := 1) rfl rfl (valB_ix rfl hrow (j := 1) rfl rfl (valB_ix rfl hya (j := 3) rfl rfl valB_nil))))) (Kept.refl H) q
              · refine ⟨_, rfl, ra, _, 0, _, rfl, rfl, hrow, at_of (j := 0) rfl rfl, rfl, _, rfl, if_no (by decide +kernel) (iteF ?_)⟩
                exact nil H (Kept.refl H) (if_neg fun z => e3 (by rw [z.2.2]))
            · refine ⟨_, rfl, ra, _, 0, _, rfl, rfl, hrow, at_of (j := 0) rfl rfl, rfl, _, rfl, if_no (by decide +kernel) (iteF ?_)⟩
              exact nil H (Kept.refl H) (if_neg fun z => e2 (by rw [z.2.1]))
          · refine ⟨_, rfl, ra, _, 0, _, rfl, rfl, hrow, at_of (j := 0) rfl rfl, rfl, _, rfl, if_no (by decide +kernel) (iteF ?_)⟩
            exact nil H (Kept.refl H) (if_neg fun z => e1 (by rw [z.1]))
    | fr a b =>
      refine ⟨_, rfl, ra, _, 0, _, rfl, rfl, hrow, at_of (j := 0) rfl rfl, rfl, _, rfl, if_no (by decide +kernel) (iteF ?_)⟩
      refine ⟨_, rfl, ra, _, 0, _, rfl, rfl, hrow, at_of (j := 0) rfl rfl, rfl, _, rfl, if_no (by decide +kernel) (iteF ?_)⟩
      exact nil H (Kept.refl H) rfl
    | to a b =>
      refine ⟨_, rfl, ra, _, 0, _, rfl, rfl, hrow, at_of (j := 0) rfl rfl, rfl, _, rfl, if_no (by decide +kernel) (iteF ?_)⟩
      refine ⟨_, rfl, ra, _, 0, _, rfl, rfl, hrow, at_of (j := 0) rfl rfl, rfl, _, rfl, if_no (by decide +kernel) (iteF ?_)⟩
      exact nil H (Kept.refl H) rfl
    | under a b =>
      refine ⟨_, rfl, ra, _, 0, _, rfl, rfl, hrow, at_of (j := 0) rfl rfl, rfl, _, rfl, if_no (by decide +kernel) (iteF ?_)⟩
      refine ⟨_, rfl, ra, _, 0, _, rfl, rfl, hrow, at_of (j := 0) rfl rfl, rfl, _, rfl, if_no (by decide +kernel) (iteF ?_)⟩
      exact nil H (Kept.refl H) rfl
end
end Ah
end
section
set_option Elab.async false
set_option linter.all false
set_option maxRecDepth 100000
set_option maxHeartbeats 4000000
namespace L2
open PySem PySem.Spec PyProof.Rows
/-- dict([]) -/
theorem cr_dict0 {X : Cx} (hc : X.calm = true) (hu : X.A.units + 64 < cLine) : CallR X (.type "dict") (fun xs H Q => ∃ a : Addr, xs = [V.ref a] ∧ SqL X.K H a [] ∧ ∀ p, H p = none → Q (.ref p) (upd H p (DicO X.prog X.w p []))) := by
  intro pins s σ H xs us Q I r h
  obtain ⟨a, rfl, ha, q⟩ := h
  obtain ⟨u, rfl, rx⟩ := vals1 r
  cases rx
  obtain ⟨its, rv, pl, hz⟩ := I.list ha
  cases rv
  obtain ⟨o, n, ho, hcl, hd, hdat⟩ := pl
  refine call_dict_pairsH (knd := tupleKind (mixKind X.prog X.w)) (ps := []) (PairArg.list a ([] : List Value).toArray (fun _ => 0) []) (I.ok.hd hc) (tupleKind_room_in1 (A := X.A.in1) (by show X.A.units + 1 + 1 < cLine; omega)) ⟨⟨o, n, ho, hcl, hd, hdat⟩, rfl, fun j k v hj => absurd hj (by simp)⟩ ⟨rfl, fun i key v h => absurd h (by simp)⟩ (fun h' hk x hx => absurd hx (by simp)) (Nat.zero_le _) fun h' tk hd' hk => ?_
  have hm : (s.heap.objs.size == sysModules) = false := beq_eq_false_iff_ne.mpr (Nat.ne_of_gt I.big)
  exact ⟨.ref s.heap.objs.size, upd H s.heap.objs.size (DicO X.prog X.w s.heap.objs.size []), I.laid (t' := tk) (fun b o e => hk b o (fun z => nomatch z) e) (Nat.le_refl _) (dic_ok (xs := []) (Nat.zero_le _) hm List.nodup_nil .nil hd'), rfl, q _ (I.hok.fresh (Nat.le_refl _))⟩
def iIf (tt : TT) (wa wb : TI) : TI := fun σ H R => tt σ H fun c H1 => if c = true then wa σ H1 R else wb σ H1 R
theorem pi_if {X : Cx} {tg c a b : Expr} {pos : Pos} {tt : TT} {wa wb : TI} (hc : PT X c tt) (ha : PI X tg a wa) (hb : PI X tg b wb) : PI X tg (.IfExp c a b pos) (iIf tt wa wb) := by
  refine ⟨fun pins s σ H R I h => ?_⟩
  refine wpAny_IfExp (thn (hc.run pins s σ H _ I h) fun d s1 ⟨H1, I1, q1⟩ => ?_)
  cases d with
  | true => exact ha.run pins s1 σ H1 R I1 q1
  | false => exact hb.run pins s1 σ H1 R I1 q1
def rDicInK (K : PySem.W.Frag) (P : Program) (w : World) (neg : Bool) : R2 := fun y x H Q => ∃ (a b : Addr) (es : List Ent) (k : List Key), x = .ref a ∧ y = .ref b ∧ Rd H a (DicO P w a es) ∧ KeysIn K H es ∧ SqT K H b (k.map kV) ∧
  Q (.bl (if neg then !(valE es k).isSome else (valE es k).isSome)) H
end L2
namespace Ah
open PySem PySem.Spec PyProof.Rows L2
inductive LFol (rs : List Rw) : Say → Prop where
  | base {r : Rw} {s : Say} : r ∈ rs → sayOf r = some s → LFol rs s
  | led {r : Rw} {x y : Say} : LFol rs x → r ∈ rs → y ∈ lawLed r x → LFol rs y
  | both {r : Rw} {x y z : Say} : LFol rs x → LFol rs y → r ∈ rs → z ∈ lawBoth r x y → LFol rs z
theorem led_ne {r : Rw} {x y : Say} (h : y ∈ lawLed r x) : y ≠ .clash := by
  intro e
  subst e
  cases x <;> cases r <;> simp only [lawLed] at h <;> (try split at h) <;> simp at h
theorem both_ne {r : Rw} {x y z : Say} (h : z ∈ lawBoth r x y) : z ≠ .clash := by
  intro e
  subst e
  cases r <;> simp only [lawBoth] at h <;> (try (simp at h; done))
  · cases x <;> simp only at h <;> (try split at h) <;> simp at h
  · cases x <;> cases y <;> simp only at h <;> (try split at h) <;> simp at h
theorem lfol_ne {rs : List Rw} {s : Say} (h : LFol rs s) : s ≠ .clash := by
  cases h with
  | base _ e => intro z; subst z; rename_i r _; cases r <;> simp [sayOf] at e
  | led _ _ h => exact led_ne h
  | both _ _ _ h => exact both_ne h
theorem led_few {r : Rw} {x y : Say} (hr : r.few) (hx : x.few) (h : y ∈ lawLed r x) : y.few := by
  cases x <;> cases r <;> simp only [lawLed] at h <;> (try split at h) <;> (try (simp at h; done)) <;> (rw [List.mem_singleton] at h; subst h; simp only [Rw.few, Say.few] at hr hx ⊢; simp [*])
theorem both_few {r : Rw} {x y z : Say} (hr : r.few) (hx : x.few) (hy : y.few) (h : z ∈ lawBoth r x y) : z.few := by
  cases r <;> simp only [lawBoth] at h <;> (try (simp at h; done))
  · cases x <;> simp only at h <;> (try split at h) <;> (try (simp at h; done))
    rw [List.mem_singleton] at h
    subst h
    simp only [Rw.few, Say.few] at hr hx ⊢
    simp [*]
  · cases x <;> cases y <;> simp only at h <;> (try split at h) <;> (try (simp at h; done))
    rw [List.mem_singleton] at h
    subst h
    simp only [Rw.few, Say.few] at hr hx hy ⊢
    simp [*]
theorem lfol_few {rs : List Rw} (hr : ∀ r ∈ rs, r.few) {s : Say} (h : LFol rs s) : s.few := by
  induction h with
  | base h1 e =>
    rename_i r s
    have a := hr r h1
    cases r <;> simp [sayOf] at e <;> subst e <;> exact a
  | led _ h1 h2 ih => exact led_few (hr _ h1) ih h2
  | both _ _ h1 h2 ih1 ih2 => exact both_few (hr _ h1) ih1 ih2 h2
end Ah
end
section
set_option Elab.async false
set_option linter.all false
set_option maxRecDepth 100000
set_option maxHeartbeats 4000000
namespace Ah
open PySem PySem.Spec PyProof.Rows L2
/-! ### the program's closure is the law's -/
theorem fol_lfol {rs rws : List Rw} {names : List Str} (hr : ∀ r, r ∈ rws ↔ r ∈ rs) : ∀ s, Fol rws names s → s = .clash ∨ LFol rs s := by
  refine fol_least (fun r h1 s h2 => .inr (.base ((hr r).mp h1) h2)) fun s l h1 h2 h3 => ?_
  obtain ⟨r, g1, g2, _⟩ := mem_worked.mp h2
  replace g1 := (hr r).mp g1
  have un : ∀ y, (y = Say.clash ∨ LFol rs y) → y ≠ .clash → LFol rs y := fun y h n => h.resolve_left n
  cases s with
  | clash => exact absurd g2 (by simp [leadsBy])
  | is n k =>
    have hs := un _ h1 (fun z => nomatch z)
    cases r <;> simp only [leadsBy, leadsKind] at g2 <;> (try split at g2) <;> (try simp only [List.mem_cons, List.mem_map, List.not_mem_nil, or_false] at g2) <;> (try exact g2.elim)
    case isnt.isTrue => subst g2; exact .inl rfl
    case no.isTrue => subst g2; exact .inl rfl
    case all.isTrue a b e =>
      subst g2
      exact .inr (.led hs g1 (by simp [lawLed, e]))
    case each.isTrue a b c e =>
      subst g2
      exact .inr (.led hs g1 (by simp [lawLed, e]))
    case who.isTrue a b c e =>
      obtain ⟨x, hx, rfl⟩ := g2
      have ho : other (Say.has x a n, some (Say.is n k), Say.is x c) (.is n k) = some (.has x a n) := by
        unfold other
        rw [if_neg (fun z => nomatch z)]
      rcases h3 with h3 | ⟨s2, h3, h4⟩
      · rw [ho] at h3
        cases h3
      · rw [ho] at h3
        rw [← Option.some.inj h3] at h4
        exact .inr (.both (un _ h4 (fun z => nomatch z)) hs g1 (by simp [lawBoth, e]))
  | has n t m =>
    have hs := un _ h1 (fun z => nomatch z)
    cases r <;> simp only [leadsBy, leadsTie, leadsOn] at g2 <;> (try split at g2) <;> (try simp only [List.mem_cons, List.mem_map, List.not_mem_nil, or_false, List.mem_append] at g2) <;> (try exact g2.elim)
    case hasnt.isTrue => subst g2; exact .inl rfl
    case who.isTrue a b c e =>
      subst g2
      have ho : other (Say.has n t m, some (Say.is m b), Say.is n c) (.has n t m) = some (.is m b) := by
        unfold other
        rw [if_pos rfl]
      rcases h3 with h3 | ⟨s2, h3, h4⟩
      · rw [ho] at h3
        cases h3
      · rw [ho] at h3
        rw [← Option.some.inj h3] at h4
        exact .inr (.both hs (un _ h4 (fun z => nomatch z)) g1 (by simp [lawBoth, e]))
    case turned.isTrue a b e =>
      subst g2
      exact .inr (.led hs g1 (by simp [lawLed, e]))
    case fr.isTrue a b e =>
      subst g2
      exact .inr (.led hs g1 (by simp [lawLed, e]))
    case to.isTrue a b e =>
      subst g2
      exact .inr (.led hs g1 (by simp [lawLed, e]))
    case under.isTrue a b e =>
      subst g2
      exact .inr (.led hs g1 (by simp [lawLed, e]))
    case on.isTrue a e =>
      subst e
      rcases g2 with ⟨x, hx, rfl⟩ | ⟨x, hx, rfl⟩
      · have ho : other (Say.has n a m, some (Say.has m a x), Say.has n a x) (.has n a m) = some (.has m a x) := by
          unfold other
          rw [if_pos rfl]
        rcases h3 with h3 | ⟨s2, h3, h4⟩
        · rw [ho] at h3
          cases h3
        · rw [ho] at h3
          rw [← Option.some.inj h3] at h4
          exact .inr (.both hs (un _ h4 (fun z => nomatch z)) g1 (by simp [lawBoth]))
      · have hx2 : LFol rs (.has x a n) := by
          by_cases ex : Say.has x a n = Say.has n a m
          · rw [ex]
            exact hs
          · have ho : other (Say.has x a n, some (Say.has n a m), Say.has x a m) (.has n a m) = some (.has x a n) := by
              unfold other
              rw [if_neg ex]
            rcases h3 with h3 | ⟨s2, h3, h4⟩
            · rw [ho] at h3
              cases h3
            · rw [ho] at h3
              rw [← Option.some.inj h3] at h4
              exact un _ h4 (fun z => nomatch z)
        exact .inr (.both hx2 hs g1 (by simp [lawBoth]))
theorem fol_use {rws : List Rw} {names : List Str} {r : Rw} {x z : Say} {l : Lead} (hx : Fol rws names x) (hr : r ∈ rws) (hl : l ∈ leadsBy r x names) (h1 : Fol rws names l.1) (ho : other l x = none ∨ ∃ y, other l x = some y ∧ Fol rws names y) (h2 : ∀ y, l.2.1 = some y → Fol rws names y) (e : l.2.2 = z) : Fol rws names z := by
  subst e
  by_cases hu : useful l = true
  · have hm := mem_worked.mpr ⟨r, hr, hl, hu⟩
    rcases ho with ho | ⟨y, ho, hy⟩
    · exact .one hx hm ho
    · exact .two hx hm ho hy
  · unfold useful at hu
    by_cases e1 : l.1 = l.2.2
    · rw [← e1]
      exact h1
    · by_cases e2 : l.2.1 = some l.2.2
      · exact h2 _ e2
      · exact absurd (by simp [e1, e2]) hu
theorem lfol_fol {rs rws : List Rw} {names : List Str} (hf : ∀ r ∈ rs, r.few) (hr : ∀ r, r ∈ rws ↔ r ∈ rs) (hn : ∀ z, z ∈ names ↔ ∃ r ∈ rs, z ∈ rowNames r) : ∀ s, LFol rs s → Fol rws names s := by
  have hff := fol_few (rws := rws) (names := names) (fun r h => hf r ((hr r).mp h)) (fun r h x hx => (hn x).mpr ⟨r, (hr r).mp h, hx⟩) fun x hx => by
    obtain ⟨r, h1, h2⟩ := (hn x).mp hx
    exact few_names (hf r h1) x h2
  intro s h
  induction h with
  | base h1 e => exact .base ((hr _).mpr h1) e
  | @led r x y q1 h1 h2 ih =>
    clear q1
    replace h1 := (hr r).mpr h1
    cases x <;> cases r <;> simp only [lawLed] at h2 <;> (try split at h2) <;> (try (simp at h2; done))
    all_goals
      rw [List.mem_singleton] at h2
      subst h2
      rename_i e
      refine fol_use (l := (_, none, _)) ih h1 (by simp only [leadsBy, leadsKind, leadsTie]; rw [if_pos e]; exact List.mem_singleton.mpr rfl) ih (.inl (by simp [other])) (fun y hy => nomatch hy) rfl
  | @both r x y z q1 q2 h1 h2 ih1 ih2 =>
    clear q1 q2
    replace h1 := (hr r).mpr h1
    cases r <;> simp only [lawBoth] at h2 <;> (try (simp at h2; done))
    case who a b c =>
      cases x <;> simp only at h2 <;> (try split at h2) <;> (try (simp at h2; done))
      rename_i n t m e
      rw [List.mem_singleton] at h2
      subst h2
      obtain ⟨e1, e2⟩ := e
      subst e1 e2
      exact fol_use (l := (.has n t m, some (.is m b), .is n c)) ih1 h1 (by simp [leadsBy, leadsTie]) ih1 (.inr ⟨.is m b, by simp [other], ih2⟩) (fun y hy => by rw [← Option.some.inj hy]; exact ih2) rfl
    case on a =>
      cases x <;> cases y <;> simp only at h2 <;> (try split at h2) <;> (try (simp at h2; done))
      rename_i n t m n' t' m' e
      rw [List.mem_singleton] at h2
      subst h2
      obtain ⟨e1, e2, e3⟩ := e
      subst e1 e2 e3
      have hm' : m' ∈ names := (hff _ ih2).2 m' (by simp [Say.names])
      refine fol_use (l := (.has n t' m, some (.has m t' m'), .has n t' m')) ih1 h1 ?_ ih1 (.inr ⟨.has m t' m', by simp [other], ih2⟩) (fun y hy => by rw [← Option.some.inj hy]; exact ih2) rfl
      simp only [leadsBy, leadsTie, leadsOn, if_true, List.mem_append, List.mem_map]
      exact .inl ⟨m', hm', rfl⟩
theorem fol_eq {rs rws : List Rw} {names : List Str} (hf : ∀ r ∈ rs, r.few) (hr : ∀ r, r ∈ rws ↔ r ∈ rs) (hn : ∀ z, z ∈ names ↔ ∃ r ∈ rs, z ∈ rowNames r) (s : Say) : LFol rs s ↔ (s ≠ .clash ∧ Fol rws names s) :=
  ⟨fun h => ⟨lfol_ne h, lfol_fol hf hr hn s h⟩, fun h => (fol_lfol hr s h.2).resolve_left h.1⟩
end Ah
end
section
set_option Elab.async false
set_option linter.all false
set_option maxRecDepth 100000
set_option maxHeartbeats 8000000
namespace Ah
open PySem PySem.Spec PyProof.Rows L2
/-! ### _law_follow -/
def SayEL (K : PySem.W.Frag) (H : Hp) (rs : List Rw) (es : List Ent) : Prop := ∀ e ∈ es, ∃ s, LFol rs s ∧ e.1 = keyW s.ws ∧ SqT K H e.2.1 (s.ws.map V.str)
theorem SayEL.keys {K : PySem.W.Frag} {H : Hp} {rs : List Rw} {es : List Ent} (h : SayEL K H rs es) : KeysIn K H es := fun e he => by
  obtain ⟨s, _, h1, h2⟩ := h e he
  rw [h1, keyW_kV]
  exact h2
theorem SayEL.tk {K : PySem.W.Frag} {H H' : Hp} {rs : List Rw} {es : List Ent} (k : TK H H') (h : SayEL K H rs es) : SayEL K H' rs es := fun e he => let ⟨s, h1, h2, h3⟩ := h e he; ⟨s, h1, h2, sqT_tk k h3⟩
theorem SayEL.fol {K : PySem.W.Frag} {H : Hp} {rs : List Rw} {es : List Ent} (h : SayEL K H rs es) {s : Say} (hs : HasE es s) : LFol rs s := by
  obtain ⟨e, he, e1⟩ := hs
  obtain ⟨s', h1, h2, _⟩ := h e he
  rw [Say.inj (keyW_inj (e1.symm.trans h2))]
  exact h1
theorem hasE_put {ds : List Ent} {s s' : Say} {b : Addr} {v : V} : HasE (putE ds (keyW s.ws) b v) s' ↔ HasE ds s' ∨ s' = s := by
  have key : ∀ es : List Ent, HasE es s' ↔ keyW s'.ws ∈ es.map (·.1) := fun es => by
    constructor
    · rintro ⟨e, h1, h2⟩
      exact List.mem_map.mpr ⟨e, h1, h2⟩
    · intro h
      obtain ⟨e, h1, h2⟩ := List.mem_map.mp h
      exact ⟨e, h1, h2⟩
  rw [key, key, putE_keys]
  split
  · rename_i h
    constructor
    · exact .inl
    · rintro (h1 | h1)
      · exact h1
      · rw [h1]
        exact valE_some h
  · rw [List.mem_append, List.mem_singleton]
    constructor
    · rintro (h1 | h1)
      · exact .inl h1
      · exact .inr (Say.inj (keyW_inj h1))
    · rintro (h1 | h1)
      · exact .inl h1
      · exact .inr (by rw [h1])
theorem SayEL.put {K : PySem.W.Frag} {H : Hp} {rs : List Rw} {ds : List Ent} {s : Say} {b : Addr} {v : V} (h : SayEL K H rs ds) (hs : LFol rs s) (hb : SqT K H b (s.ws.map V.str)) : SayEL K H rs (putE ds (keyW s.ws) b v) := fun e he => by
  rcases putE_mem he with ⟨e', h1, h2, h3, _⟩ | rfl
  · obtain ⟨s', g1, g2, g3⟩ := h e' h1
    exact ⟨s', g1, by rw [h2]; exact g2, by rw [h3]; exact g3⟩
  · exact ⟨s, hs, rfl, hb⟩
theorem SayEL.len {K : PySem.W.Frag} {H : Hp} {rs : List Rw} {es : List Ent} (hf : ∀ r ∈ rs, r.few) (nd : (es.map (·.1)).Nodup) (h : SayEL K H rs es) : es.length ≤ 28 := by
  have q := len_sub (es.map (·.1)) (allSay.map fun s => keyW s.ws) nd fun y hy => by
    obtain ⟨b, hb, rfl⟩ := List.mem_map.mp hy
    obtain ⟨s', f1, f2, _⟩ := h b hb
    exact List.mem_map.mpr ⟨s', mem_allSay (lfol_few hf f1), f2.symm⟩
  rw [List.length_map, List.length_map, allSay_len] at q
  exact q
/-- the sayings that are due, at least those of N -/
structure DInv (K : PySem.W.Frag) (P : Program) (w : World) (rs : List Rw) (H0 : Hp) (dz : Addr) (N : Say → Prop) (Hd : Hp) (ds : List Ent) : Prop where
  d : Hd dz = some (DicO P w dz ds)
  nd : (ds.map (·.1)).Nodup
  se : SayEL K Hd rs ds
  need : ∀ z, N z → HasE ds z
  kp : Kept [] H0 Hd
  n0 : H0 dz = none
theorem DInv.kept {K : PySem.W.Frag} {P : Program} {w : World} {rs : List Rw} {H0 : Hp} {dz : Addr} {N : Say → Prop} {Hd Hd' : Hp} {ds : List Ent} (k : Kept [] Hd Hd') (h : DInv K P w rs H0 dz N Hd ds) : DInv K P w rs H0 dz N Hd' ds :=
  ⟨k _ _ h.d (by simp), h.nd, h.se.tk (.of k), h.need, h.kp.trans k, h.n0⟩
theorem DInv.mono {K : PySem.W.Frag} {P : Program} {w : World} {rs : List Rw} {H0 : Hp} {dz : Addr} {N N' : Say → Prop} {Hd : Hp} {ds : List Ent} (k : ∀ z, N' z → N z) (h : DInv K P w rs H0 dz N Hd ds) : DInv K P w rs H0 dz N' Hd ds :=
  ⟨h.d, h.nd, h.se, fun z hz => h.need z (k z hz), h.kp, h.n0⟩
theorem DInv.put {K : PySem.W.Frag} {P : Program} {w : World} {rs : List Rw} {H0 : Hp} {dz : Addr} {N : Say → Prop} {Hd : Hp} {ds : List Ent} {s : Say} {b : Addr} {v : V} (h : DInv K P w rs H0 dz N Hd ds) (hs : LFol rs s) (hb : SqT K Hd b (s.ws.map V.str)) :
    DInv K P w rs H0 dz (fun z => N z ∨ z = s) (L2.upd Hd dz (DicO P w dz (putE ds (keyW s.ws) b v))) (putE ds (keyW s.ws) b v) := by
  have tk : TK Hd (L2.upd Hd dz (DicO P w dz (putE ds (keyW s.ws) b v))) := (TK.refl Hd).upd h.d (fun _ z => nomatch z) (fun _ _ z => nomatch z)
  exact ⟨upd_same, putE_nodup _ b v h.nd, (h.se.put hs hb).tk tk, fun z hz => hasE_put.mpr (hz.imp (h.need z) id), kD_far h.n0 h.kp, h.n0⟩
def Nd (es : List Ent) (r : Rw) (x z : Say) : Prop := z ∈ lawLed r x ∨ ∃ o, HasE es o ∧ (z ∈ lawBoth r x o ∨ z ∈ lawBoth r o x)
structure WInv (K : PySem.W.Frag) (P : Program) (w : World) (rs : List Rw) (H : Hp) (Fz : Addr) (Ha : Hp) (es : List Ent) (fr : Addr) (ws : List V) (ss : List Say) : Prop where
  d : Ha Fz = some (DicO P w Fz es)
  nd : (es.map (·.1)).Nodup
  se : SayEL K Ha rs es
  f1 : Ha fr = some (.lst ws)
  f2 : Paired (fun v s => SayAt K Ha v s) ws ss
  f3 : ∀ s ∈ ss, HasE es s
  kp : Kept [] H Ha
  base : ∀ r ∈ rs, ∀ s, sayOf r = some s → HasE es s
  stepL : ∀ x, HasE es x → x ∉ ss → ∀ r ∈ rs, ∀ y ∈ lawLed r x, HasE es y
  stepB : ∀ x y, HasE es x → x ∉ ss → HasE es y → y ∉ ss → ∀ r ∈ rs, ∀ z ∈ lawBoth r x y, HasE es z
theorem sayEL_list {K : PySem.W.Frag} {H : Hp} {rs : List Rw} : ∀ {es : List Ent}, SayEL K H rs es → ∃ ss, Paired (fun v s => SayAt K H v s) (entRefs es) ss ∧ (∀ s ∈ ss, HasE es s) ∧ (∀ s, HasE es s → s ∈ ss)
  | [], _ => ⟨[], .nil, (fun s h => absurd h (by simp)), fun s ⟨e, h, _⟩ => absurd h (by simp)⟩
  | e :: es, h => by
    obtain ⟨ss, r1, r2, r3⟩ := sayEL_list (es := es) fun x hx => h x (List.mem_cons_of_mem _ hx)
    obtain ⟨s, _, h1, h2⟩ := h e (List.mem_cons_self ..)
    refine ⟨s :: ss, .cons ⟨e.2.1, rfl, h2⟩ r1, fun s' hs' => ?_, fun s' hs' => ?_⟩
    · rcases List.mem_cons.mp hs' with z | z
      · exact ⟨e, List.mem_cons_self .., by rw [z]; exact h1⟩
      · obtain ⟨x, hx, hk⟩ := r2 s' z
        exact ⟨x, List.mem_cons_of_mem _ hx, hk⟩
    · obtain ⟨x, hx, hk⟩ := hs'
      rcases List.mem_cons.mp hx with z | z
      · rw [z] at hk
        rw [Say.inj (keyW_inj (hk.symm.trans h1))]
        exact List.mem_cons_self ..
      · exact List.mem_cons_of_mem _ (r3 s' ⟨x, z, hk⟩)
theorem dpSays {K : PySem.W.Frag} {H : Hp} : ∀ {ws : List V} {ss : List Say}, Paired (fun v s => SayAt K H v s) ws ss → DpAll K H ws (ss.map fun s => PyData.tuple (s.ws.map PyData.str))
  | _, _, .nil => .nil
  | _, _, .cons ⟨a, e, h⟩ t => by
    rw [List.map_cons, e]
    exact .cons (.tup h (dpStrs _)) (dpSays t)
theorem shapedSays : ∀ {ss : List Say}, (∀ s ∈ ss, okW s.ws) → SeqAt.shaped (.list (ss.map fun s => PyData.tuple (s.ws.map PyData.str))) = true := by
  intro ss h
  have h1 : ∀ l : List Say, (∀ s ∈ l, okW s.ws) → PyData.canLayAll0 (l.map fun s => PyData.tuple (s.ws.map PyData.str)) = true ∧ PyData.depthAll (l.map fun s => PyData.tuple (s.ws.map PyData.str)) ≤ 2 := by
    intro l
    induction l with
    | nil => intro _; exact ⟨by simp [PyData.canLayAll0], by simp [PyData.depthAll]⟩
    | cons s l ih =>
      intro h
      obtain ⟨i1, i2⟩ := ih fun x hx => h x (List.mem_cons_of_mem _ hx)
      have s1 := shapedStrs (h s (List.mem_cons_self ..))
      have s2 := SeqAt.canLay_of_shaped s1
      have d0 : ∀ l : List Str, PyData.depthAll (l.map PyData.str) = 0 := by
        intro l
        induction l with
        | nil => simp [PyData.depthAll]
        | cons w l ih => simp [PyData.depthAll, PyData.depth, ih]
      refine ⟨by rw [List.map_cons, PyData.canLayAll0, s2, i1]; rfl, ?_⟩
      rw [List.map_cons, PyData.depthAll, PyData.depth, d0]
      omega
  obtain ⟨i1, i2⟩ := h1 ss h
  unfold SeqAt.shaped
  rw [PyData.canLay0, i1, PyData.depth, Bool.true_and]
  exact decide_eq_true (by omega)
/-- fresh != [] -/
theorem rd_neNil {K : PySem.W.Frag} {H : Hp} {Q : VK} {fr le : Addr} {ws : List V} {ss : List Say} (h1 : SqL K H fr ws) (h2 : Paired (fun v s => SayAt K H v s) ws ss) (h3 : ∀ s ∈ ss, okW s.ws) (h4 : SqL K H le []) (q : Q (.bl (!decide (ss = []))) H) : rNeD K (.ref fr) (.ref le) H Q := by
  refine ⟨_, .list [], .lst h1 (dpSays h2), .lst h4 .nil, shapedSays h3, rfl, ?_⟩
  have e : PyData.eqv (.list (ss.map fun s => PyData.tuple (s.ws.map PyData.str))) (.list []) = decide (ss = []) := by
    rw [PyData.eqv]
    cases ss <;> simp [PyData.eqvAll]
  rw [e]
  exact q
theorem mem_putAll {k : List Key} : ∀ {more es : List Ent}, k ∈ (putAll es more).map (·.1) ↔ k ∈ es.map (·.1) ∨ k ∈ more.map (·.1)
  | [], es => by
    show k ∈ es.map (·.1) ↔ _
    simp
  | e :: more, es => by
    have h : k ∈ (putAll (putE es e.1 e.2.1 e.2.2) more).map (·.1) ↔ _ := mem_putAll (more := more) (es := putE es e.1 e.2.1 e.2.2)
    show k ∈ (putAll (putE es e.1 e.2.1 e.2.2) more).map (·.1) ↔ _
    rw [h, putE_keys, List.map_cons, List.mem_cons]
    split
    · rename_i hs
      have hs := valE_some hs
      constructor
      · rintro (q | q)
        · exact .inl q
        · exact .inr (.inr q)
      · rintro (q | q | q)
        · exact .inl q
        · exact .inl (q ▸ hs)
        · exact .inr q
    · rw [List.mem_append, List.mem_singleton, or_assoc]
theorem hasE_putAll {es more : List Ent} {s : Say} : HasE (putAll es more) s ↔ HasE es s ∨ HasE more s := by
  have key : ∀ l : List Ent, HasE l s ↔ keyW s.ws ∈ l.map (·.1) := fun l => by
    constructor
    · rintro ⟨e, h1, h2⟩
      exact List.mem_map.mpr ⟨e, h1, h2⟩
    · intro h
      obtain ⟨e, h1, h2⟩ := List.mem_map.mp h
      exact ⟨e, h1, h2⟩
  rw [key, key, key, mem_putAll]
theorem SayEL.putAll {K : PySem.W.Frag} {H : Hp} {rs : List Rw} : ∀ {more es : List Ent}, SayEL K H rs es → SayEL K H rs more → SayEL K H rs (L2.putAll es more)
  | [], es, h, _ => h
  | e :: more, es, h, h2 => by
    obtain ⟨s, g1, g2, g3⟩ := h2 e (List.mem_cons_self ..)
    refine SayEL.putAll (more := more) (es := putE es e.1 e.2.1 e.2.2) ?_ fun x hx => h2 x (List.mem_cons_of_mem _ hx)
    rw [g2]
    exact h.put g1 g3
theorem both_len (r : Rw) (x y : Say) : (lawBoth r x y).length ≤ 1 := by
  cases r <;> simp only [lawBoth] <;> (try (simp; done))
  · cases x <;> simp only <;> (try split) <;> simp
  · cases x <;> cases y <;> simp only <;> (try split) <;> simp
def wide : Rw → Bool
  | .on _ => true | .who _ _ _ => true | _ => false
theorem row_wide (r : Rw) : ∃ h rest, r.ws = h :: rest ∧ inV (V.str h) [V.str "on", V.str "who"] = wide r := by
  cases r <;> exact ⟨_, _, rfl, by rfl⟩
theorem wide_no {r : Rw} (h : wide r = false) {x y : Say} : lawBoth r x y = [] := by
  cases r <;> first | rfl | (simp [wide] at h; done)
theorem scLF : FnScope ["_law_rows", "_law_more", "_law_found", "_law_one_here", "_law_fresh", "_law_due", "_law_x", "_law_y", "_law_other"] ["_law_rows", "_law_more"] (defScope lFollow) := ⟨rfl, rfl, rfl, by decide +kernel, rfl, by decide +kernel, by decide +kernel⟩
def spFollowL (K : PySem.W.Frag) (P : Program) (w : World) : Sp := fun vs H Q _ => ∃ (q mo : Addr) (rs : List Rw), vs = [.ref q, .ref mo] ∧ TextAt H q rs ∧ SqT K H mo [] ∧ (∀ r ∈ rs, r.few) ∧ rs.length ≤ 20 ∧
  ∀ p H' es, Kept [] H H' → H p = none → H' p = some (DicO P w p es) → SayEL K H' rs es → (∀ s, HasE es s ↔ LFol rs s) → (es.map (·.1)).Nodup → es.length ≤ 28 → Q (.ref p) H'
section
variable {P : Program} {w : World} {K : PySem.W.Frag} {mg : Str → Option Value} {base : Heap} {f fL fB : Addr} {fd fdL fdB : FuncData}
theorem ok_lfollow (F : FnP K "_law_follow" lFollow f fd) (B : Bl mg) (c__law_led : Own P w K mg base "_law_led" 1 fL fdL ["_law_one_here", "_law_x"] (spLed K)) (c__law_both : Own P w K mg base "_law_both" 1 fB fdB ["_law_one_here", "_law_x", "_law_y"] (spBoth K)) :
    FnOk P w K mg base CX0 2 f fd ["_law_rows", "_law_more"] (spFollowL K P w) := by
  refine F.ok scLF (fun vs H Q E h => ?_) (fun cdv A outer s H vs Q E hr h => ?_)
  · obtain ⟨q, mo, rs, rfl, _⟩ := h
    rfl
  · obtain ⟨q, mo, rs, rfl, tx, hmo, hf, hl, k⟩ := h
    have hu : A.units + 3 + 1 < cLine := by have := hr.units; exact (by have h2 : (A.deeper (envOfC "_law_follow" (defScope lFollow) s.heap.objs.size f cdv)).units = A.units + 3 := rfl; omega)
    refine ⟨_, PSs.nox (pss_cons (ps_set (i := 2) scLF.nd rfl (.inr rfl) (pe_callTy (cr_dict0 rfl hr.units) (by rfl) B.dict_ (by decide +kernel) (pa_cons (pe_lc (own := [("_law_x", 6)]) rfl scLF.nd (pi_tup (pv 1)) (blkOk_by (N := ["_law_rows", "_law_more", "_law_found", "_law_one_here", "_law_fresh", "_law_due", "_law_x", "_law_y", "_law_other"]) (sc := defScope lFollow) (by decide +kernel)) (fun _ _ _ _ _ => (pg_name (i := 6) scLF.nd rfl (Or.inl rfl))) (fun _ _ _ _ _ => pts_nil) (fun _ _ _ _ _ => (pe_tup (pa_cons (pv 6) (pa_cons pe_bl pa_nil))))) pa_nil)))
      (pss_cons (ps_for PassesOwn.never rfl (pi_tup (pv 0)) (pg_name (i := 3) scLF.nd rfl (Or.inl rfl))
      (pss_one (ps_if (pt_cmpR op_in_seq (pe_ix ix_tup (pv 3) pe_int (fun _ _ => rfl)) (pe_tup (pa_cons pe_str (pa_cons pe_str pa_nil))) (by rfl)) (pss_one (ps_asg pe_bl (pg_sub (pv 2) (pv 3) (set_dic hu)))) pss_nil)))
      (pss_cons (ps_set (i := 4) scLF.nd rfl (.inl rfl) (pe_callTy (call_list_dic rfl) (by rfl) B.list_ (by decide +kernel) (pa_cons (pv 2) pa_nil)))
      (pss_cons (ps_while PassesOwn.never (pt_cmpR (op_neD hr.units) (pv 4) (pe_lst pa_nil) (nomark _))
      (pss_cons (ps_set (i := 5) scLF.nd rfl (.inl rfl) pe_dicNew)
      (pss_cons (ps_for PassesOwn.never rfl (pi_tup (pv 0)) (pg_name (i := 3) scLF.nd rfl (Or.inl rfl))
      (pss_one (ps_for PassesOwn.never rfl (pi_list (pv 4)) (pg_name (i := 6) scLF.nd rfl (Or.inl rfl))
      (pss_cons (ps_for PassesOwn.never rfl (pi_list (pe_call c__law_led.ok hr (by rfl) c__law_led.g c__law_led.kp c__law_led.b .nil pass0 (pa_cons (pv 3) (pa_cons (pv 6) pa_nil)))) (pg_name (i := 7) scLF.nd rfl (Or.inl rfl))
      (pss_one (ps_asg pe_bl (pg_sub (pv 5) (pv 7) (set_dic hu)))))
      (pss_one (ps_for PassesOwn.never rfl (pi_if (pt_cmpR op_in_seq (pe_ix ix_tup (pv 3) pe_int (fun _ _ => rfl)) (pe_tup (pa_cons pe_str (pa_cons pe_str pa_nil))) (by rfl)) (pi_list (pe_callTy (call_list_dic rfl) (by rfl) B.list_ (by decide +kernel) (pa_cons (pv 2) pa_nil))) (pi_tup (pe_tup pa_nil))) (pg_name (i := 8) scLF.nd rfl (Or.inl rfl))
      (pss_one (ps_for PassesOwn.never rfl (pi_list (pe_op op_cat (pe_call c__law_both.ok hr (by rfl) c__law_both.g c__law_both.kp c__law_both.b .nil pass0 (pa_cons (pv 3) (pa_cons (pv 6) (pa_cons (pv 8) pa_nil)))) (pe_call c__law_both.ok hr (by rfl) c__law_both.g c__law_both.kp c__law_both.b .nil pass0 (pa_cons (pv 3) (pa_cons (pv 8) (pa_cons (pv 6) pa_nil)))))) (pg_name (i := 7) scLF.nd rfl (Or.inl rfl))
      (pss_one (ps_asg pe_bl (pg_sub (pv 5) (pv 7) (set_dic hu))))))))))))
      (pss_cons (ps_lock (ps_setLc (i := 4) (own := [("_law_x", 6)]) rfl scLF.nd rfl rfl (sw_true rfl rfl rfl (by decide +kernel)) (pi_dic (pv 5)) (blkOk_by (N := ["_law_rows", "_law_more", "_law_found", "_law_one_here", "_law_fresh", "_law_due", "_law_x", "_law_y", "_law_other"]) (sc := defScope lFollow) (by decide +kernel)) (fun _ _ _ _ _ => (pg_name (i := 6) scLF.nd rfl (Or.inl rfl))) (fun _ _ _ _ _ => (pts_one (pt_cmpR (show OpR _ _ (rDicInK K P w true) from op_notIn_dic hu) (pv 6) (pv 2) (by rfl)))) (fun _ _ _ _ _ => (pv 6))))
      (pss_one (ps_expr (pe_dicM PySem.F.slot_dict_update PySem.F.type_dict_update (mt_dicUpd hu) (pv 2) (pa_cons (pv 5) pa_nil))))))))
      (pss_one (ps_ret (pv 2))))))), ?_⟩
    obtain ⟨ps, hq, hps⟩ := id tx
    have lps : ps.length = rs.length := hps.length
    -- dict([])
    refine ⟨_, rfl, mo, rfl, ⟨_, hmo⟩, fun D0 nD0 => ?_⟩
    refine lc_it (walk_tup (K := K) (a := mo) (xs := [])) (fun i Ha => Ha = L2.upd H D0 (.lst [])) rfl (fun i Ha _ e => by rw [e]; exact sqT_tk ((TK.refl H).new nD0) hmo) (fun i x Ha0 Ha hi => absurd hi (by simp)) ?_
    rintro Ha rfl
    refine ⟨D0, rfl, .inl (.of upd_same), fun Fz nFz => ?_⟩
    have k1 : Kept [] H (L2.upd (L2.upd H D0 (.lst [])) Fz (DicO P w Fz [])) := ((Kept.refl H).upd nD0).upd nFz
    have nF0 : H Fz = none := none_of ((Kept.refl H).upd nD0) nFz
    -- the rows that say
    refine ⟨_, rfl, q, rfl, ⟨_, .inl (.of (k1 _ _ hq (by simp)))⟩, for_it (walk_tup (K := K) (a := q) (xs := ps.map V.ref))
      (fun i σ Ha => (∃ v3 v4 v5 v6 v7 v8, σ = [some (.ref q), some (.ref mo), some (.ref Fz), v3, v4, v5, v6, v7, v8]) ∧ ∃ es, Ha Fz = some (DicO P w Fz es) ∧ (es.map (·.1)).Nodup ∧ SayEL K Ha rs es ∧ (∀ r ∈ rs.take i, ∀ s, sayOf r = some s → HasE es s) ∧ Kept [] H Ha)
      ⟨⟨_, _, _, _, _, _, rfl⟩, [], upd_same, List.nodup_nil, (fun e h => absurd h (by simp)), (fun r h => absurd h (by simp)), k1⟩ (fun i σ Ha _ pv => .inl (.of (pv.2.choose_spec.2.2.2.2 _ _ hq (by simp)))) ?_ ?_⟩
    · rintro i x σ Ha0 Ha hi ⟨⟨v3, v4, v5, v6, v7, v8, rfl⟩, es, e1, nd, se, hb, kk⟩ ⟨rfl, ey⟩
      rw [List.getElem?_map] at ey
      obtain ⟨pr, epr, rfl⟩ := Option.map_eq_some_iff.mp ey
      obtain ⟨r, er, hr1⟩ := paired_at hps epr
      obtain ⟨hd, rest, ew, ei⟩ := row_test r
      have hrow : SqT K Ha pr (r.ws.map V.str) := .inl (.of (kk _ _ hr1 (by simp)))
      have hrow2 : SqT K Ha pr (V.str hd :: rest.map V.str) := by
        rw [ew] at hrow
        exact hrow
      refine ⟨_, rfl, pr, _, 0, _, rfl, rfl, hrow2, at_of (j := 0) rfl rfl, (by show 2 ≤ sizeLine; decide), fun Tp nT => ⟨Tp, _, rfl, .inr (.inl (.of upd_same)), rfl, rfl, ?_⟩⟩
      have kT := kk.upd (o := .tup [V.str "is", V.str "has"]) nT
      have tkT : TK Ha (L2.upd Ha Tp (.tup [V.str "is", V.str "has"])) := (TK.refl Ha).new nT
      have eF : (L2.upd Ha Tp (.tup [V.str "is", V.str "has"])) Fz = some (DicO P w Fz es) := by rw [upd_ne (ne_of_none e1 nT)]; exact e1
      have seT := se.tk tkT
      simp only [Bool.false_eq_true, if_false]
      rw [ei]
      cases hs : sayOf r with
      | none =>
        refine ⟨false, rfl, iteF ⟨⟨_, _, _, _, _, _, rfl⟩, es, eF, nd, seT, fun r' hr' s h => ?_, kT⟩⟩
        rcases (mem_take_succ er).mp hr' with z | z
        · exact hb r' z s h
        · rw [z, hs] at h
          cases h
      | some sy =>
        have fy : LFol rs sy := .base (List.mem_of_getElem? er) hs
        have hsy : SqT K (L2.upd Ha Tp (.tup [V.str "is", V.str "has"])) pr (sy.ws.map V.str) := by
          rw [← say_ws hs]
          exact sqT_tk tkT hrow
        refine ⟨true, rfl, iteT ?_⟩
        refine ⟨_, rfl, _, rfl, Fz, pr, es, keyW sy.ws, rfl, rfl, eF, seT.keys, by rw [keyW_kV]; exact hsy, Nat.lt_of_le_of_lt (se.len hf nd) (by decide), ?_⟩
        have I := (DInv.put (K := K) (P := P) (w := w) (rs := rs) (H0 := H) (dz := Fz) (N := fun z => HasE es z) (v := V.bl true) ⟨eF, nd, seT, fun _ h => h, kT, nF0⟩ fy hsy)
        refine ⟨⟨_, _, _, _, _, _, rfl⟩, _, I.d, I.nd, I.se, fun r' hr' s h => ?_, I.kp⟩
        rcases (mem_take_succ er).mp hr' with z | z
        · exact I.need s (.inl (hb r' z s h))
        · rw [z, hs] at h
          exact I.need s (.inr (Option.some.inj h).symm)
    · rintro σ Ha ⟨⟨v3, v4, v5, v6, v7, v8, rfl⟩, es, e1, nd, se, hb, kk⟩
      rw [List.length_map, lps, List.take_of_length_le (Nat.le_refl _)] at hb
      refine ⟨_, rfl, Fz, es, rfl, .inl e1, fun fr nfr => ?_⟩
      have tkf : TK Ha (L2.upd Ha fr (.lst (entRefs es))) := (TK.refl Ha).new nfr
      obtain ⟨ss, r1, r2, r3⟩ := sayEL_list (se.tk tkf)
      have W0 : WInv K P w rs H Fz (L2.upd Ha fr (.lst (entRefs es))) es fr (entRefs es) ss :=
        ⟨by rw [upd_ne (ne_of_none e1 nfr)]; exact e1, nd, se.tk tkf, upd_same, r1, r2, kk.upd nfr, hb, fun x h1 h2 => absurd (r3 x h1) h2, fun x y h1 h2 => absurd (r3 x h1) h2⟩
      refine ⟨fun m σ Ha => ∃ es fr ws ss, (∃ v3 v5 v6 v7 v8, σ = [some (.ref q), some (.ref mo), some (.ref Fz), v3, some (.ref fr), v5, v6, v7, v8]) ∧ WInv K P w rs H Fz Ha es fr ws ss ∧ m = (28 - es.length) + (if ss = [] then 0 else 1),
        ⟨_, es, fr, _, ss, ⟨_, _, _, _, _, rfl⟩, W0, rfl⟩, ?_⟩
      clear W0 r1 r2 r3 tkf nfr
      rintro m σ Ha ⟨es, fr, ws, ss, ⟨v3, v5, v6, v7, v8, rfl⟩, W, rfl⟩
      refine ⟨_, rfl, Nat.zero_le _, fun le nle => ?_⟩
      have tke : TK Ha (L2.upd Ha le (.lst [])) := (TK.refl Ha).new nle
      have oks : ∀ s ∈ ss, okW s.ws := fun s hs => allSay_ok s (mem_allSay (lfol_few hf (W.se.fol (W.f3 s hs))))
      refine rd_neNil (fr := fr) (ws := ws) (ss := ss) (.inl (.of (by rw [upd_ne (ne_of_none W.f1 nle)]; exact W.f1))) (Paired.mapP W.f2 fun _ _ h => SayAt.tk tke h) oks (.inl (.of upd_same)) ?_
      have W1 : WInv K P w rs H Fz (L2.upd Ha le (.lst [])) es fr ws ss :=
        ⟨by rw [upd_ne (ne_of_none W.d nle)]; exact W.d, W.nd, W.se.tk tke, by rw [upd_ne (ne_of_none W.f1 nle)]; exact W.f1, Paired.mapP W.f2 fun _ _ h => SayAt.tk tke h, W.f3, W.kp.upd nle, W.base, W.stepL, W.stepB⟩
      generalize L2.upd Ha le (.lst []) = Hb at W1
      clear W tke nle
      by_cases hss : ss = []
      · refine ⟨false, by rw [hss]; rfl, iteF ?_⟩
        subst hss
        refine ⟨_, rfl, k Fz Hb es W1.kp nF0 W1.d W1.se (fun s => ⟨fun h => W1.se.fol h, fun h => ?_⟩) W1.nd (W1.se.len hf W1.nd)⟩
        induction h with
        | base h1 e => exact W1.base _ h1 _ e
        | led _ h1 h2 ih => exact W1.stepL _ ih (by simp) _ h1 _ h2
        | both _ _ h1 h2 ih1 ih2 => exact W1.stepB _ _ ih1 (by simp) ih2 (by simp) _ h1 _ h2
      · refine ⟨true, by rw [decide_eq_false hss]; rfl, iteT ?_⟩
        rw [if_neg hss]
        refine ⟨fun σ' H' => ∃ es' fr' ws' ss', (∃ v3 v5 v6 v7 v8, σ' = [some (.ref q), some (.ref mo), some (.ref Fz), v3, some (.ref fr'), v5, v6, v7, v8]) ∧ WInv K P w rs H Fz H' es' fr' ws' ss' ∧ (28 - es'.length) + (if ss' = [] then 0 else 1) < (28 - es.length) + 1,
          fun σ' H' ⟨es', fr', ws', ss', h1, h2, h3⟩ => ⟨_, h3, es', fr', ws', ss', h1, h2, rfl⟩, ?_⟩
        intro dz ndz
        have kdz : Kept [] Hb (L2.upd Hb dz (DicO P w dz [])) := (Kept.refl Hb).upd ndz
        have I0 : DInv K P w rs Hb dz (fun z => ∃ r ∈ rs.take 0, ∃ x ∈ ss, Nd es r x z) (L2.upd Hb dz (DicO P w dz [])) [] :=
          ⟨upd_same, List.nodup_nil, (fun e h => absurd h (by simp)), (fun z ⟨r, h, _⟩ => absurd h (by simp)), kdz, ndz⟩
        have hqb : Hb q = some (.tup (ps.map V.ref)) := W1.kp _ _ hq (by simp)
        have Fd : Fz ≠ dz := ne_of_none W1.d ndz
        have fd' : fr ≠ dz := ne_of_none W1.f1 ndz
        refine ⟨_, rfl, q, rfl, ⟨_, .inl (.of (kdz _ _ hqb (by simp)))⟩, for_it (walk_tup (K := K) (a := q) (xs := ps.map V.ref))
          (fun i σ Hd => (∃ v3 v6 v7 v8, σ = [some (.ref q), some (.ref mo), some (.ref Fz), v3, some (.ref fr), some (.ref dz), v6, v7, v8]) ∧ ∃ ds, DInv K P w rs Hb dz (fun z => ∃ r ∈ rs.take i, ∃ x ∈ ss, Nd es r x z) Hd ds)
          ⟨⟨_, _, _, _, rfl⟩, [], I0⟩ (fun i σ Hd _ pv => .inl (.of (pv.2.choose_spec.kp _ _ hqb (by simp)))) ?_ ?_⟩
        · rintro i x σ Hd0 Hd hi ⟨⟨v3, v6, v7, v8, rfl⟩, ds, I⟩ ⟨rfl, ey⟩
          rw [List.getElem?_map] at ey
          obtain ⟨pr, epr, rfl⟩ := Option.map_eq_some_iff.mp ey
          obtain ⟨r, er, hr1⟩ := paired_at hps epr
          have hrb : Hb pr = some (.tup (r.ws.map V.str)) := W1.kp _ _ hr1 (by simp)
          have hrm : r ∈ rs := List.mem_of_getElem? er
          have fr_ := hf r hrm
          refine ⟨_, rfl, fr, rfl, ⟨_, .inl (.of (I.kp _ _ W1.f1 (by simp)))⟩, for_it (walk_list (K := K) (a := fr) (xs := ws))
            (fun j σ Hd => (∃ v6 v7 v8, σ = [some (.ref q), some (.ref mo), some (.ref Fz), some (.ref pr), some (.ref fr), some (.ref dz), v6, v7, v8]) ∧ ∃ ds, DInv K P w rs Hb dz (fun z => (∃ r ∈ rs.take i, ∃ x ∈ ss, Nd es r x z) ∨ ∃ x ∈ ss.take j, Nd es r x z) Hd ds)
            ⟨⟨_, _, _, rfl⟩, ds, I.mono fun z hz => hz.resolve_right (by rintro ⟨x, h, _⟩; simp at h)⟩ (fun j σ Hd _ pv => .inl (.of (pv.2.choose_spec.kp _ _ W1.f1 (by simp)))) ?_ ?_⟩
          · clear I v6 v7 v8 ds Hd
            rintro j y σ Hd0 Hd hj ⟨⟨v6, v7, v8, rfl⟩, ds, I⟩ ⟨rfl, ey⟩
            obtain ⟨sx, ex, xa, rfl, hxb⟩ := paired_at W1.f2 ey
            have fsx : LFol rs sx := W1.se.fol (W1.f3 sx (List.mem_of_getElem? ex))
            have nsx := lfol_ne fsx
            have tkI : TK Hb Hd := .of I.kp
            refine ⟨_, rfl, _, rfl, pr, xa, r, sx, rfl, .inl (.of (I.kp _ _ hrb (by simp))), sqT_tk tkI hxb, nsx, fun p H1 k1 n1 sa => ?_⟩
            obtain ⟨vs1, ep1, rv1⟩ := sa
            have pd : p ≠ dz := fun z => by rw [z, I.d] at n1; cases n1
            have I1 := I.kept k1
            refine ⟨p, rfl, ⟨_, .inl (.of ep1)⟩, for_it (walk_list (K := K) (a := p) (xs := vs1))
              (fun m σ Hd => (∃ v7 v8, σ = [some (.ref q), some (.ref mo), some (.ref Fz), some (.ref pr), some (.ref fr), some (.ref dz), some (.ref xa), v7, v8]) ∧ ∃ ds, DInv K P w rs Hb dz (fun z => ((∃ r ∈ rs.take i, ∃ x ∈ ss, Nd es r x z) ∨ ∃ x ∈ ss.take j, Nd es r x z) ∨ z ∈ (lawLed r sx).take m) Hd ds ∧ Hd p = some (.lst vs1) ∧ TK H1 Hd)
              ⟨⟨_, _, rfl⟩, ds, I1.mono fun z hz => hz.resolve_right (by simp), ep1, TK.refl H1⟩ (fun m σ Hd _ pv => .inl (.of pv.2.choose_spec.2.1)) ?_ ?_⟩
            · clear I I1 v6 v7 v8 ds
              rintro m y σ Hc0 Hc hm ⟨⟨v7, v8, rfl⟩, ds, I, ep, tk⟩ ⟨rfl, ey2⟩
              obtain ⟨sy, ey3, ya, rfl, hya⟩ := paired_at rv1 ey2
              have hyc := sqT_tk tk hya
              have fsy : LFol rs sy := .led fsx hrm (List.mem_of_getElem? ey3)
              refine ⟨_, rfl, _, rfl, dz, ya, ds, keyW sy.ws, rfl, rfl, I.d, I.se.keys, by rw [keyW_kV]; exact hyc, Nat.lt_of_le_of_lt (I.se.len hf I.nd) (by decide), ?_⟩
              have I2 := I.put (v := V.bl true) fsy hyc
              refine ⟨⟨_, _, rfl⟩, _, I2.mono fun z hz => ?_, by rw [upd_ne pd]; exact ep, tk.trans ((TK.refl Hc).upd I.d (fun _ z => nomatch z) (fun _ _ z => nomatch z))⟩
              rcases hz with hz | hz
              · exact .inl (.inl hz)
              · exact ((mem_take_succ ey3).mp hz).imp .inr id
            · clear I I1 v6 v7 v8 ds
              rintro σ Hc ⟨⟨v7, v8, rfl⟩, ds, I, _, _⟩
              rw [rv1.length, List.take_of_length_le (Nat.le_refl _)] at I
              have tkc : TK Hb Hc := .of I.kp
              obtain ⟨hd, rest, ew, ei⟩ := row_wide r
              have hrow2 : SqT K Hc pr (V.str hd :: rest.map V.str) := by
                have h := I.kp _ _ hrb (by simp)
                rw [ew] at h
                exact .inl (.of h)
              refine ⟨_, rfl, pr, _, 0, _, rfl, rfl, hrow2, at_of (j := 0) rfl rfl, (by show 2 ≤ sizeLine; decide), fun Tp nT => ⟨Tp, _, rfl, .inr (.inl (.of upd_same)), rfl, rfl, ?_⟩⟩
              have I3 := I.kept ((Kept.refl (M := []) Hc).upd (o := .tup [V.str "on", V.str "who"]) nT)
              simp only [Bool.false_eq_true, if_false]
              rw [ei]
              cases hw : wide r with
              | false =>
                refine ⟨false, rfl, iteF ?_⟩
                refine ⟨Nat.zero_le _, fun tp ntp => ⟨tp, rfl, ⟨[], .inl (.of upd_same)⟩, ?_⟩⟩
                have I4 := I3.kept ((Kept.refl (M := []) _).upd (o := .tup []) ntp)
                dsimp only
                refine for_it (D := { nx := (fun σ Hd => (∃ v6 v7 v8, σ = [some (.ref q), some (.ref mo), some (.ref Fz), some (.ref pr), some (.ref fr), some (.ref dz), v6, v7, v8]) ∧ ∃ ds, DInv K P w rs Hb dz (fun z => (∃ r ∈ rs.take i, ∃ x ∈ ss, Nd es r x z) ∨ ∃ x ∈ ss.take (j + 1), Nd es r x z) Hd ds), rt := Q, bk := (fun σ Hd => (∃ v6 v7 v8, σ = [some (.ref q), some (.ref mo), some (.ref Fz), some (.ref pr), some (.ref fr), some (.ref dz), v6, v7, v8]) ∧ ∃ ds, DInv K P w rs Hb dz (fun z => (∃ r ∈ rs.take i, ∃ x ∈ ss, Nd es r x z) ∨ ∃ x ∈ ss.take (j + 1), Nd es r x z) Hd ds), ct := (fun σ Hd => (∃ v6 v7 v8, σ = [some (.ref q), some (.ref mo), some (.ref Fz), some (.ref pr), some (.ref fr), some (.ref dz), v6, v7, v8]) ∧ ∃ ds, DInv K P w rs Hb dz (fun z => (∃ r ∈ rs.take i, ∃ x ∈ ss, Nd es r x z) ∨ ∃ x ∈ ss.take (j + 1), Nd es r x z) Hd ds) }) (walk_tup (K := K) (a := tp) (xs := [])) (fun _ σ Hd => (∃ v7 v8, σ = [some (.ref q), some (.ref mo), some (.ref Fz), some (.ref pr), some (.ref fr), some (.ref dz), some (.ref xa), v7, v8]) ∧ Hd = L2.upd (L2.upd Hc Tp (.tup [V.str "on", V.str "who"])) tp (.tup [])) ⟨⟨_, _, rfl⟩, rfl⟩ (fun _ σ Hd _ pv => by rw [pv.2]; exact .inl (.of upd_same)) (fun i x σ H H' hi => absurd hi (by simp)) ?_
                rintro σ Hd ⟨⟨v7, v8, rfl⟩, rfl⟩
                refine ⟨⟨_, _, _, rfl⟩, ds, I4.mono fun z hz => ?_⟩
                rcases hz with hz | ⟨x, hx, hz⟩
                · exact .inl (.inl hz)
                · rcases (mem_take_succ ex).mp hx with q1 | q1
                  · exact .inl (.inr ⟨x, q1, hz⟩)
                  · subst q1
                    rcases hz with hz | ⟨o, _, hz⟩
                    · exact .inr hz
                    · rw [wide_no hw, wide_no hw] at hz
                      simp at hz
              | true =>
                refine ⟨true, rfl, iteT ?_⟩
                refine ⟨_, rfl, Fz, es, rfl, .inl (I3.kp _ _ W1.d (by simp)), fun lp nlp => ?_⟩
                have I4 := I3.kept ((Kept.refl (M := []) _).upd (o := .lst (entRefs es)) nlp)
                refine ⟨lp, rfl, ⟨_, .inl (.of upd_same)⟩, ?_⟩
                dsimp only
                refine for_it (D := { nx := (fun σ Hd => (∃ v6 v7 v8, σ = [some (.ref q), some (.ref mo), some (.ref Fz), some (.ref pr), some (.ref fr), some (.ref dz), v6, v7, v8]) ∧ ∃ ds, DInv K P w rs Hb dz (fun z => (∃ r ∈ rs.take i, ∃ x ∈ ss, Nd es r x z) ∨ ∃ x ∈ ss.take (j + 1), Nd es r x z) Hd ds), rt := Q, bk := (fun σ Hd => (∃ v6 v7 v8, σ = [some (.ref q), some (.ref mo), some (.ref Fz), some (.ref pr), some (.ref fr), some (.ref dz), v6, v7, v8]) ∧ ∃ ds, DInv K P w rs Hb dz (fun z => (∃ r ∈ rs.take i, ∃ x ∈ ss, Nd es r x z) ∨ ∃ x ∈ ss.take (j + 1), Nd es r x z) Hd ds), ct := (fun σ Hd => (∃ v6 v7 v8, σ = [some (.ref q), some (.ref mo), some (.ref Fz), some (.ref pr), some (.ref fr), some (.ref dz), v6, v7, v8]) ∧ ∃ ds, DInv K P w rs Hb dz (fun z => (∃ r ∈ rs.take i, ∃ x ∈ ss, Nd es r x z) ∨ ∃ x ∈ ss.take (j + 1), Nd es r x z) Hd ds) }) (walk_list (K := K) (a := lp) (xs := entRefs es))
                  (fun m σ Hd => (∃ v7 v8, σ = [some (.ref q), some (.ref mo), some (.ref Fz), some (.ref pr), some (.ref fr), some (.ref dz), some (.ref xa), v7, v8]) ∧ ∃ ds, DInv K P w rs Hb dz (fun z => (((∃ r ∈ rs.take i, ∃ x ∈ ss, Nd es r x z) ∨ ∃ x ∈ ss.take j, Nd es r x z) ∨ z ∈ lawLed r sx) ∨ ∃ e ∈ es.take m, ∃ o : Say, e.1 = keyW o.ws ∧ (z ∈ lawBoth r sx o ∨ z ∈ lawBoth r o sx)) Hd ds ∧ Hd lp = some (.lst (entRefs es)))
                  ⟨⟨_, _, rfl⟩, ds, I4.mono fun z hz => hz.resolve_right (by rintro ⟨e, h, _⟩; simp at h), upd_same⟩ (fun m σ Hd _ pv => .inl (.of pv.2.choose_spec.2)) ?_ ?_
                · clear I I3 I4 hrow2 tkc v7 v8 ds
                  rintro m y σ Hd0 Hd hm ⟨⟨v7, v8, rfl⟩, ds, I, elp⟩ ⟨rfl, ey2⟩
                  rw [List.getElem?_map] at ey2
                  obtain ⟨e, ee, rfl⟩ := Option.map_eq_some_iff.mp ey2
                  obtain ⟨so, fso, eo, heo⟩ := W1.se e (List.mem_of_getElem? ee)
                  have nso := lfol_ne fso
                  have tkd : TK Hb Hd := .of I.kp
                  have hrd : RowAt K Hd pr r := .inl (.of (I.kp _ _ hrb (by simp)))
                  have okr := few_ok fr_
                  have okx := allSay_ok sx (mem_allSay (lfol_few hf fsx))
                  have oko := allSay_ok so (mem_allSay (lfol_few hf fso))
                  refine ⟨_, rfl, _, rfl, _, rfl, pr, xa, e.2.1, r, sx, so, rfl, hrd, sqT_tk tkd hxb, sqT_tk tkd heo, nsx, nso, okr, okx, oko, fun p1 H2 k2 n2 s2 => ?_⟩
                  have tk2 : TK Hd H2 := .of k2
                  refine ⟨_, rfl, _, rfl, _, rfl, pr, e.2.1, xa, r, so, sx, rfl, sqT_tk tk2 hrd, sqT_tk tk2 (sqT_tk tkd heo), sqT_tk tk2 (sqT_tk tkd hxb), nso, nsx, okr, oko, okx, fun p2 H3 k3 n3 s3 => ?_⟩
                  obtain ⟨us1, eu1, ru1⟩ := s2
                  obtain ⟨us2, eu2, ru2⟩ := s3
                  have l1 := both_len r sx so
                  have l2 := both_len r so sx
                  refine ⟨p1, p2, us1, us2, rfl, rfl, k3 _ _ eu1 (by simp), eu2, ?_, fun p3 np3 => ?_⟩
                  · rw [ru1.length, ru2.length]
                    exact Nat.le_trans (show _ ≤ 2 by omega) (by decide)
                  have k4 : Kept [] Hd (L2.upd H3 p3 (.lst (us1 ++ us2))) := (k2.trans k3).upd np3
                  have I5 := I.kept k4
                  have rv : Paired (fun v s => SayAt K (L2.upd H3 p3 (.lst (us1 ++ us2))) v s) (us1 ++ us2) (lawBoth r sx so ++ lawBoth r so sx) :=
                    paired_app (Paired.mapP ru1 fun _ _ h => SayAt.tk ((TK.of k3).new np3) h) (Paired.mapP ru2 fun _ _ h => SayAt.tk ((TK.refl H3).new np3) h)
                  have pd3 : p3 ≠ dz := fun z => by
                    have h := none_of (k2.trans k3) np3
                    rw [z, I.d] at h
                    cases h
                  refine ⟨p3, rfl, ⟨_, .inl (.of upd_same)⟩, for_it (walk_list (K := K) (a := p3) (xs := us1 ++ us2))
                    (fun m2 σ Hc => (∃ v7, σ = [some (.ref q), some (.ref mo), some (.ref Fz), some (.ref pr), some (.ref fr), some (.ref dz), some (.ref xa), v7, some (.ref e.2.1)]) ∧ ∃ ds, DInv K P w rs Hb dz (fun z => ((((∃ r ∈ rs.take i, ∃ x ∈ ss, Nd es r x z) ∨ ∃ x ∈ ss.take j, Nd es r x z) ∨ z ∈ lawLed r sx) ∨ ∃ e ∈ es.take m, ∃ o : Say, e.1 = keyW o.ws ∧ (z ∈ lawBoth r sx o ∨ z ∈ lawBoth r o sx)) ∨ z ∈ (lawBoth r sx so ++ lawBoth r so sx).take m2) Hc ds ∧ Hc p3 = some (.lst (us1 ++ us2)) ∧ TK (L2.upd H3 p3 (.lst (us1 ++ us2))) Hc ∧ Hc lp = some (.lst (entRefs es)))
                    ⟨⟨_, rfl⟩, ds, I5.mono fun z hz => hz.resolve_right (by simp), upd_same, TK.refl _, k4 _ _ elp (by simp)⟩ (fun m σ Hd _ pv => .inl (.of pv.2.choose_spec.2.1)) ?_ ?_⟩
                  · clear I I5 v7 v8 ds
                    rintro m2 y σ Hc0 Hc hm2 ⟨⟨v7, rfl⟩, ds, I, ep, tk, elp2⟩ ⟨rfl, ey2⟩
                    obtain ⟨sy, ey3, ya, rfl, hya⟩ := paired_at rv ey2
                    have hyc := sqT_tk tk hya
                    have fsy : LFol rs sy := by
                      rcases List.mem_append.mp (List.mem_of_getElem? ey3) with z | z
                      · exact .both fsx fso hrm z
                      · exact .both fso fsx hrm z
                    refine ⟨_, rfl, _, rfl, dz, ya, ds, keyW sy.ws, rfl, rfl, I.d, I.se.keys, by rw [keyW_kV]; exact hyc, Nat.lt_of_le_of_lt (I.se.len hf I.nd) (by decide), ?_⟩
                    have I2 := I.put (v := V.bl true) fsy hyc
                    refine ⟨⟨_, rfl⟩, _, I2.mono fun z hz => ?_, by rw [upd_ne pd3]; exact ep, tk.trans ((TK.refl Hc).upd I.d (fun _ z => nomatch z) (fun _ _ z => nomatch z)), by rw [upd_ne (ne_of elp2 I.d (fun z => nomatch z))]; exact elp2⟩
                    rcases hz with hz | hz
                    · exact .inl (.inl hz)
                    · exact ((mem_take_succ ey3).mp hz).imp .inr id
                  · clear I I5 v7 v8 ds
                    rintro σ Hc ⟨⟨v7, rfl⟩, ds, I, _, _, elp2⟩
                    rw [rv.length, List.take_of_length_le (Nat.le_refl _)] at I
                    refine ⟨⟨_, _, rfl⟩, ds, I.mono fun z hz => ?_, elp2⟩
                    rcases hz with hz | ⟨e', he', o', ho', hz⟩
                    · exact .inl (.inl hz)
                    · rcases (mem_take_succ ee).mp he' with q1 | q1
                      · exact .inl (.inr ⟨e', q1, o', ho', hz⟩)
                      · subst q1
                        have : o' = so := Say.inj (keyW_inj (ho'.symm.trans eo))
                        subst this
                        exact .inr (List.mem_append.mpr hz)
                · clear I I3 I4 hrow2 tkc v7 v8 ds
                  rintro σ Hd ⟨⟨v7, v8, rfl⟩, ds, I, elp⟩
                  rw [List.length_map, List.take_of_length_le (Nat.le_refl _)] at I
                  refine ⟨⟨_, _, _, rfl⟩, ds, I.mono fun z hz => ?_⟩
                  rcases hz with hz | ⟨x, hx, hz⟩
                  · exact .inl (.inl (.inl hz))
                  · rcases (mem_take_succ ex).mp hx with q1 | q1
                    · exact .inl (.inl (.inr ⟨x, q1, hz⟩))
                    · subst q1
                      rcases hz with hz | ⟨o, ⟨e, he, ek⟩, hz⟩
                      · exact .inl (.inr hz)
                      · exact .inr ⟨e, he, o, ek, hz⟩
          · rintro σ Hd ⟨⟨v6, v7, v8, rfl⟩, ds, I⟩
            rw [W1.f2.length, List.take_of_length_le (Nat.le_refl _)] at I
            refine ⟨⟨_, _, _, _, rfl⟩, ds, I.mono fun z hz => ?_⟩
            obtain ⟨r', h1, x, h2, h3⟩ := hz
            rcases (mem_take_succ er).mp h1 with q1 | q1
            · exact .inl ⟨r', q1, x, h2, h3⟩
            · exact .inr ⟨x, h2, by rw [← q1]; exact h3⟩
        · rintro σ Hd ⟨⟨v3, v6, v7, v8, rfl⟩, ds, I⟩
          rw [List.length_map, lps, List.take_of_length_le (Nat.le_refl _)] at I
          refine ⟨dz, DicO P w dz ds, I.d, trivial, fun od => ?_⟩
          have tkf : TK Hd (L2.upd Hd dz (.frz od (DicO P w dz ds))) := (TK.refl Hd).upd I.d (fun _ z => nomatch z) (fun _ _ z => nomatch z)
          refine ⟨_, rfl, dz, od, ds, rfl, upd_same, fun Dl nDl => ?_⟩
          refine lc_it (walk_dic (P := P) (w := w) (d := dz) (o := od) (es := ds)) (fun i Ha => ∃ us ss2, Ha Dl = some (.lst us) ∧ Paired (fun v s => SayAt K Ha v s) us ss2 ∧ (∀ s ∈ ss2, HasE ds s ∧ ¬ HasE es s) ∧ (∀ s, HasE (ds.take i) s → ¬ HasE es s → s ∈ ss2) ∧ us.length ≤ i ∧ Kept [] (L2.upd Hd dz (.frz od (DicO P w dz ds))) Ha)
            ⟨[], [], upd_same, .nil, (fun s h => absurd h (by simp)), (fun s ⟨e, h, _⟩ => absurd h (by simp)), Nat.le_refl _, (Kept.refl _).upd nDl⟩ (fun i Ha _ pv => pv.choose_spec.choose_spec.2.2.2.2.2 _ _ upd_same (by simp)) ?_ ?_
          · rintro i v Ha0 Ha hi ⟨us, ss2, e1, r1, h1, h2, hl1, kk⟩ ⟨rfl, ey⟩
            rw [List.getElem?_map] at ey
            obtain ⟨e, ee, rfl⟩ := Option.map_eq_some_iff.mp ey
            obtain ⟨so, fso, eo, heo⟩ := I.se e (List.mem_of_getElem? ee)
            have tka : TK Hd Ha := tkf.trans (.of kk)
            have eF : Ha Fz = some (DicO P w Fz es) := kk _ _ (by rw [upd_ne Fd]; exact I.kp _ _ W1.d (by simp)) (by simp)
            have tkba : TK Hb Ha := (TK.of I.kp).trans tka
            have hea := sqT_tk tka heo
            refine ⟨rfl, ?_⟩
            refine ⟨_, rfl, _, rfl, Fz, e.2.1, es, keyW so.ws, rfl, rfl, .inl eF, (W1.se.tk tkba).keys, by rw [keyW_kV]; exact hea, ?_⟩
            have ht : ∀ s, HasE (ds.take (i + 1)) s → HasE (ds.take i) s ∨ s = so := fun s ⟨x, hx, hk⟩ => by
              rcases (mem_take_succ ee).mp hx with z | z
              · exact .inl ⟨x, z, hk⟩
              · rw [z] at hk
                exact .inr (Say.inj (keyW_inj (hk.symm.trans eo)))
            cases hv : valE es (keyW so.ws) with
            | some v =>
              have hh : HasE es so := hasE_val.mpr (by rw [hv]; rfl)
              refine ⟨false, rfl, iteF ⟨us, ss2, e1, r1, h1, fun s hs hn => ?_, by omega, kk⟩⟩
              rcases ht s hs with z | z
              · exact h2 s z hn
              · exact absurd (z ▸ hh) hn
            | none =>
              have hn : ¬ HasE es so := fun h => by
                have h := hasE_val.mp h
                rw [hv] at h
                cases h
              have tk2 : TK Ha (L2.upd Ha Dl (.lst (us ++ [V.ref e.2.1]))) := (TK.refl Ha).updL e1
              refine ⟨true, rfl, iteT ⟨_, rfl, us, e1, ?_, us ++ [V.ref e.2.1], ss2 ++ [so], upd_same, paired_app (Paired.mapP r1 fun _ _ h => SayAt.tk tk2 h) (.cons ⟨e.2.1, rfl, sqT_tk tk2 hea⟩ .nil), fun s hs => ?_, fun s hs hns => ?_, ?_, kD_far nDl kk⟩⟩
              · have := I.se.len hf I.nd
                exact Nat.lt_of_le_of_lt (show us.length ≤ 28 by omega) (by decide)
              · rcases List.mem_append.mp hs with z | z
                · exact h1 s z
                · rw [List.mem_singleton.mp z]
                  exact ⟨⟨e, List.mem_of_getElem? ee, eo⟩, hn⟩
              · rcases ht s hs with z | z
                · exact List.mem_append_left _ (h2 s z hns)
                · exact List.mem_append_right _ (List.mem_singleton.mpr z)
              · rw [List.length_append, List.length_singleton]
                omega
          · rintro Ha ⟨us, ss2, e1, r1, h1, h2, hl1, kk⟩
            rw [List.take_of_length_le (Nat.le_refl _)] at h2
            have fz : Ha dz = some (.frz od (DicO P w dz ds)) := kk _ _ upd_same (by simp)
            have eF : Ha Fz = some (DicO P w Fz es) := kk _ _ (by rw [upd_ne Fd]; exact I.kp _ _ W1.d (by simp)) (by simp)
            have dl : Dl ≠ dz := ne_of e1 fz (fun z => nomatch z)
            have dF : Dl ≠ Fz := ne_of e1 eF (fun z => nomatch z)
            have tka : TK Hd Ha := tkf.trans (.of kk)
            have nHdz : H dz = none := none_of W1.kp ndz
            refine ⟨fz, ?_⟩
            have hold : ∀ b u, H b = some u → Ha b = some u := fun b u e => kk b u (by rw [upd_ne (ne_of_none e nHdz)]; exact I.kp _ _ (W1.kp _ _ e (by simp)) (by simp)) (by simp)
            -- tuples of Hd and of Ha stay while the two dicts are written
            have tkg : ∀ (oa ob : HO), TK Hd (L2.upd (L2.upd Ha dz oa) Fz ob) := fun oa ob => ⟨fun b ys h => by
                rw [upd_ne (ne_of h (I.kp _ _ W1.d (by simp)) (fun z => nomatch z)), upd_ne (ne_of h I.d (fun z => nomatch z))]
                exact tka.tup _ _ h, fun b o u h => by
                rw [upd_ne (ne_of h (I.kp _ _ W1.d (by simp)) (fun z => nomatch z)), upd_ne (ne_of h I.d (fun z => nomatch z))]
                exact tka.frz _ _ _ h⟩
            have tkg1 : ∀ (oa : HO), TK Hd (L2.upd Ha dz oa) := fun oa => ⟨fun b ys h => by
                rw [upd_ne (ne_of h I.d (fun z => nomatch z))]
                exact tka.tup _ _ h, fun b o u h => by
                rw [upd_ne (ne_of h I.d (fun z => nomatch z))]
                exact tka.frz _ _ _ h⟩
            have seH : SayEL K Hd rs es := W1.se.tk (.of I.kp)
            have hne : es ≠ [] := fun z => by
              cases hs : ss with
              | nil => exact hss hs
              | cons s0 _ =>
                obtain ⟨e, he, _⟩ := W1.f3 s0 (by rw [hs]; exact List.mem_cons_self ..)
                rw [z] at he
                exact absurd he (by simp)
            have l1 := seH.len hf W1.nd
            have l2 := I.se.len hf I.nd
            refine ⟨_, rfl, ⟨Fz, es, rfl, .inl (by rw [upd_ne Fd]; exact eF)⟩, _, rfl, Fz, dz, es, ds, rfl, rfl, Fd, by rw [upd_ne Fd]; exact eF, .inl upd_same, (seH.tk (tkg1 _)).keys, (I.se.tk (tkg1 _)).keys, hne, Nat.le_trans (show _ ≤ 56 by omega) (by decide), ?_⟩
            have hp : ∀ s, HasE (putAll es ds) s ↔ HasE es s ∨ HasE ds s := fun s => hasE_putAll
            have nd2 := putAll_nodup ds es W1.nd
            have se2 : SayEL K Hd rs (putAll es ds) := seH.putAll I.se
            have l3 := se2.len hf nd2
            have sub : ∀ k ∈ es.map (·.1), k ∈ (putAll es ds).map (·.1) := fun k hk => mem_putAll.mpr (.inl hk)
            have es_of : ∀ x, HasE (putAll es ds) x → x ∉ ss2 → HasE es x := fun x hx hn => by
              rcases (hp x).mp hx with z | z
              · exact z
              · exact Classical.byContradiction fun q => hn (h2 x z q)
            refine ⟨putAll es ds, Dl, us, ss2, ⟨_, _, _, _, _, rfl⟩, ⟨upd_same, nd2, se2.tk (tkg _ _), ?_, ?_, fun s hs => (hp s).mpr (.inr (h1 s hs).1), fun b u e hb => ?_, fun r hr s hs => (hp s).mpr (.inl (W1.base r hr s hs)), fun x hx hn r hr y hy => ?_, fun x y hx hnx hy hny r hr z hz => ?_⟩, ?_⟩
            · rw [upd_ne dF, upd_ne dl]
              exact e1
            · refine Paired.mapP r1 fun v s ⟨a, ev, ha⟩ => ⟨a, ev, ?_⟩
              rcases ha with (ha | ⟨o, ha⟩) | ha
              · refine .inl (.inl ?_)
                rw [upd_ne (ne_of ha eF (fun z => nomatch z)), upd_ne (ne_of ha fz (fun z => nomatch z))]
                exact ha
              · refine .inl (.inr ⟨o, ?_⟩)
                have hz : a ≠ dz := fun z => by
                  rw [z, fz] at ha
                  cases ha
                rw [upd_ne (ne_of ha eF (fun z => nomatch z)), upd_ne hz]
                exact ha
              · exact .inr ha
            · rw [upd_ne (ne_of_none e nF0), upd_ne (ne_of_none e nHdz)]
              exact hold b u e
            · have hx1 := es_of x hx hn
              by_cases hxs : x ∈ ss
              · exact (hp y).mpr (.inr (I.need y ⟨r, hr, x, hxs, .inl hy⟩))
              · exact (hp y).mpr (.inl (W1.stepL x hx1 hxs r hr y hy))
            · have hx1 := es_of x hx hnx
              have hy1 := es_of y hy hny
              by_cases hxs : x ∈ ss
              · exact (hp z).mpr (.inr (I.need z ⟨r, hr, x, hxs, .inr ⟨y, hy1, .inl hz⟩⟩))
              · by_cases hys : y ∈ ss
                · exact (hp z).mpr (.inr (I.need z ⟨r, hr, y, hys, .inr ⟨x, hx1, .inr hz⟩⟩))
                · exact (hp z).mpr (.inl (W1.stepB x y hx1 hxs hy1 hys r hr z hz))
            · have g1 := len_sub _ _ W1.nd sub
              rw [List.length_map, List.length_map] at g1
              cases hs2 : ss2 with
              | nil =>
                rw [if_pos rfl]
                omega
              | cons s0 rest =>
                rw [if_neg (by simp)]
                obtain ⟨a1, a2⟩ := h1 s0 (by rw [hs2]; exact List.mem_cons_self ..)
                have g2 := len_sub (keyW s0.ws :: es.map (·.1)) ((putAll es ds).map (·.1)) (List.nodup_cons.mpr ⟨fun hk => a2 (by
                  obtain ⟨e, he, hk⟩ := List.mem_map.mp hk
                  exact ⟨e, he, hk⟩), W1.nd⟩) fun k hk => by
                  rcases List.mem_cons.mp hk with z | z
                  · obtain ⟨e, he, hk2⟩ := a1
                    rw [z, ← hk2]
                    exact mem_putAll.mpr (.inr (List.mem_map.mpr ⟨e, he, rfl⟩))
                  · exact sub k z
                rw [List.length_cons, List.length_map, List.length_map] at g2
                omega
end
end Ah
end
section
set_option Elab.async false
set_option linter.all false
set_option maxRecDepth 100000
set_option maxHeartbeats 4000000
namespace Ah
open PySem PySem.Spec PyProof.Rows L2
/-! ### both lists are in one order -/
def leSay : Say → Say → Bool := PySem.W.dataLe false fun s => .tuple (s.ws.map PyData.str)
def leKy : List Key → List Key → Bool := PySem.W.dataLe false fun k => .tuple (k.map keyD)
theorem anti_say : ∀ s ∈ allSay, ∀ t ∈ allSay, leSay s t = true → leSay t s = true → s = t := by decide +kernel
theorem tot_say : PySem.W.TotalLe leSay := by
  unfold leSay PySem.W.dataLe
  exact PySem.W.sortLe_total _ _ _
theorem one_list {α : Type} [DecidableEq α] {l m : List α} (h1 : l.Nodup) (h2 : m.Nodup) (h3 : ∀ x, x ∈ l ↔ x ∈ m) (h4 : ∀ x ∈ l, ∀ y ∈ l, x = y) : l = m := by
  have sh : ∀ {k : List α}, k.Nodup → (∀ x ∈ k, ∀ y ∈ k, x = y) → k = [] ∨ ∃ a, k = [a] := by
    intro k hn he
    cases k with
    | nil => exact .inl rfl
    | cons a k =>
      cases k with
      | nil => exact .inr ⟨a, rfl⟩
      | cons b k =>
        rw [List.nodup_cons] at hn
        exact absurd (he a (by simp) b (by simp) ▸ List.mem_cons_self ..) hn.1
  rcases sh h1 h4 with e | ⟨a, e⟩
  · rcases sh h2 (fun x hx y hy => h4 x ((h3 x).mpr hx) y ((h3 y).mpr hy)) with e' | ⟨b, e'⟩
    · rw [e, e']
    · have := (h3 b).mpr (by rw [e']; simp)
      rw [e] at this
      exact absurd this (by simp)
  · rcases sh h2 (fun x hx y hy => h4 x ((h3 x).mpr hx) y ((h3 y).mpr hy)) with e' | ⟨b, e'⟩
    · have := (h3 a).mp (by rw [e]; simp)
      rw [e'] at this
      exact absurd this (by simp)
    · have := (h3 a).mp (by rw [e]; simp)
      rw [e'] at this
      rw [e, e', List.mem_singleton.mp this]
theorem sort_says_eq {ss ts : List Say} (h1 : ss.Nodup) (h2 : ts.Nodup) (h3 : ∀ s, s ∈ ss ↔ s ∈ ts) (h4 : ∀ s ∈ ss, s ∈ allSay) : ss.mergeSort leSay = ts.mergeSort leSay := by
  refine PySem.W.sort_unique tot_say (PySem.W.sort_pairwise tot_say ss) fun c => ?_
  rw [PySem.W.sort_stable tot_say]
  refine one_list (h1.filter _) (h2.filter _) (fun x => by rw [List.mem_filter, List.mem_filter, h3]) fun x hx y hy => ?_
  obtain ⟨x1, x2⟩ := List.mem_filter.mp hx
  obtain ⟨y1, y2⟩ := List.mem_filter.mp hy
  unfold PySem.W.sameRank at x2 y2
  rw [Bool.and_eq_true] at x2 y2
  exact anti_say x (h4 x x1) y (h4 y y1) (tot_say.trans _ _ _ x2.2 y2.1) (tot_say.trans _ _ _ y2.2 x2.1)
/-- tuples of sayings, sorted: their words in the order of the sorted sayings -/
theorem sort_tx {bs : List Tx} {ss : List Say} (h : bs.map (·.2) = ss.map fun s => keyW s.ws) : (bs.mergeSort leT).map (·.2) = (ss.mergeSort leSay).map fun s => keyW s.ws := by
  have e1 : (bs.mergeSort leT).map (·.2) = (bs.map (·.2)).mergeSort leKy := PySem.W.sort_maps (r := leT) (s := leKy) (fun b : Tx => b.2) fun a _ b _ => rfl
  have e2 : (ss.mergeSort leSay).map (fun s => keyW s.ws) = (ss.map fun s => keyW s.ws).mergeSort leKy := PySem.W.sort_maps (r := leSay) (s := leKy) (fun s : Say => keyW s.ws) fun a _ b _ => by
    have e : ∀ ws : List Str, (keyW ws).map keyD = ws.map PyData.str := fun ws => by
      unfold keyW
      rw [List.map_map]
      rfl
    unfold leSay leKy
    rw [PySem.W.dataLe_eq, PySem.W.dataLe_eq]
    dsimp only
    rw [e, e]
  rw [e1, h, ← e2]
theorem says_of {bs : List Tx} {M : Say → Prop} (h : ∀ b ∈ bs, ∃ s, M s ∧ b.2 = keyW s.ws) : ∃ ss : List Say, bs.map (·.2) = ss.map (fun s => keyW s.ws) ∧ ∀ s ∈ ss, M s := by
  induction bs with
  | nil => exact ⟨[], rfl, fun s hs => absurd hs (by simp)⟩
  | cons b bs ih =>
    obtain ⟨ss, e, m⟩ := ih fun x hx => h x (List.mem_cons_of_mem _ hx)
    obtain ⟨s, h1, h2⟩ := h b (List.mem_cons_self ..)
    refine ⟨s :: ss, by rw [List.map_cons, List.map_cons, h2, e], fun x hx => ?_⟩
    rcases List.mem_cons.mp hx with z | z
    · rw [z]; exact h1
    · exact m x z
/-- the program's list and the law's: the same words place by place -/
theorem told_eq {bs ts : List Tx} {M : Say → Prop} (hM : ∀ s, M s → s ∈ allSay) (b1 : ∀ b ∈ bs, ∃ s, M s ∧ b.2 = keyW s.ws) (b2 : ∀ s, M s → ∃ b ∈ bs, b.2 = keyW s.ws) (b3 : (bs.map (·.2)).Nodup)
    (t1 : ∀ b ∈ ts, ∃ s, M s ∧ b.2 = keyW s.ws) (t2 : ∀ s, M s → ∃ b ∈ ts, b.2 = keyW s.ws) (t3 : (ts.map (·.2)).Nodup) : (bs.mergeSort leT).map (·.2) = (ts.mergeSort leT).map (·.2) := by
  obtain ⟨ss, e1, m1⟩ := says_of b1
  obtain ⟨us, e2, m2⟩ := says_of t1
  have back : ∀ {l : List Tx} {k : List Say}, l.map (·.2) = k.map (fun s => keyW s.ws) → (∀ s, M s → ∃ b ∈ l, b.2 = keyW s.ws) → ∀ s, M s → s ∈ k := fun {l k} e h s hs => by
    obtain ⟨b, hb, eb⟩ := h s hs
    have : b.2 ∈ l.map (·.2) := List.mem_map.mpr ⟨b, hb, rfl⟩
    rw [e, eb] at this
    obtain ⟨s', h1, h2⟩ := List.mem_map.mp this
    rw [← Say.inj (keyW_inj h2)]
    exact h1
  have nd : ∀ {l : List Tx} {k : List Say}, l.map (·.2) = k.map (fun s => keyW s.ws) → (l.map (·.2)).Nodup → k.Nodup := fun e h => by
    rw [e] at h
    exact List.Pairwise.of_map _ (fun a b hne e => hne (by rw [e])) h
  rw [sort_tx e1, sort_tx e2, sort_says_eq (nd e1 b3) (nd e2 t3) (fun s => ⟨fun h => back e2 t2 s (m1 s h), fun h => back e1 b2 s (m2 s h)⟩) fun s h => hM s (m1 s h)]
end Ah
end
section
set_option Elab.async false
set_option linter.all false
set_option maxRecDepth 100000
set_option maxHeartbeats 4000000
namespace Ah
open PySem PySem.Spec PyProof.Rows L2
open GxR (TabB TabG Tabbed)
theorem StAt.kp {K : PySem.W.Frag} {T : List Addr} {H H' : Hp} {p a : Addr} {ns : List Int} (ht : ∀ P ∈ T, TabG H P) (k : Kp T H H') (S : StAt K H p a ns) : StAt K H' p a ns := by
  obtain ⟨i, r, m, h, h1, h2, h3⟩ := S
  refine ⟨i, r, m, k.obj ht h, h1, h2, ?_⟩
  rcases h3 with (h3 | ⟨o, h3⟩) | h3
  · exact .inl (.inl (k.obj ht h3))
  · exact .inl (.inr ⟨o, k.obj ht h3⟩)
  · exact .inr h3
theorem rd_for2 {g : TG} {tb : TS} {D : Ends} {σ : L2.St} {H : Hp} (Pv : Nat → L2.St → Hp → Prop) (h0 : Pv 0 σ H)
    (hs : ∀ (i : Nat) (x : V) (σ : L2.St) (H H' : Hp), i < 2 → Pv i σ H → YFn (fun i => V.int (0 + (i : Int))) i H x H' → g x σ H' fun σ2 H2 => tb { nx := Pv (i + 1), rt := D.rt, bk := D.nx, ct := Pv (i + 1) } σ2 H2) (hd : ∀ σ H, Pv 2 σ H → D.nx σ H) :
    tFor (iRng1 (tCons (tC (V.int 2)) tNil)) g tb D σ H :=
  ⟨2, rfl, by omega, by omega, for_it (walk_range (lo := 0) (n := 2)) Pv h0 (fun _ _ _ _ _ => trivial) hs hd⟩
theorem sqT_kp {K : PySem.W.Frag} {T : List Addr} {H H' : Hp} {a : Addr} {xs : List V} (ht : ∀ P ∈ T, TabG H P) (k : Kp T H H') (h : SqT K H a xs) : SqT K H' a xs := by
  rcases h with (h | ⟨o, h⟩) | h
  · exact .inl (.inl (k.obj ht h))
  · exact .inl (.inr ⟨o, k.obj ht h⟩)
  · exact .inr h
theorem TabG.keptM {M : List Addr} {T : List Addr} {H H' : Hp} (k : Kept M H H') (hM : ∀ b ∈ M, ∃ xs, H b = some (.lst xs)) (ht : ∀ P ∈ T, TabG H P) : ∀ P ∈ T, TabG H' P := fun P hP => by
  obtain ⟨qs, h2, h3⟩ := ht P hP
  refine ⟨qs, k _ _ h2 (fun hm => ?_), h3⟩
  obtain ⟨xs, h⟩ := hM P hm
  rw [h2] at h
  cases h
theorem sort_saysM {bs : List Tx} (h : ∀ b ∈ bs, ∃ s : Say, b.2 = keyW s.ws) : SortT bs := by
  constructor
  · intro d hd d' hd'
    obtain ⟨b, hb, rfl⟩ := List.mem_map.mp hd
    obtain ⟨b', hb', rfl⟩ := List.mem_map.mp hd'
    obtain ⟨s, e⟩ := h b hb
    obtain ⟨s', e'⟩ := h b' hb'
    unfold encT
    rw [e, e', PySem.W.alike]
    have go : ∀ xs ys : List Str, PySem.W.alikeAll ((keyW xs).map keyD) ((keyW ys).map keyD) = true := by
      intro xs
      induction xs with
      | nil => intro ys; simp [keyW, PySem.W.alikeAll]
      | cons x xs ih =>
        intro ys
        cases ys with
        | nil => simp [keyW, PySem.W.alikeAll]
        | cons y ys =>
          show PySem.W.alikeAll (PyData.str x :: (keyW xs).map keyD) (PyData.str y :: (keyW ys).map keyD) = true
          rw [PySem.W.alikeAll, ih ys]
          simp [PySem.W.alike]
    exact go _ _
  · intro b hb e
    obtain ⟨s, e'⟩ := h b hb
    rw [e] at e'
    cases s <;> cases e'
theorem at_words {K : PySem.W.Frag} {H : Hp} : ∀ ws : List Str, Paired (At K H 0) (ws.map V.str) (ws.map V.str)
  | [] => .nil
  | w :: ws => .cons ⟨rfl, trivial⟩ (at_words ws)
theorem at_lists {K : PySem.W.Frag} {H : Hp} : ∀ {bs ts : List Tx}, bs.map (·.2) = ts.map (·.2) → (∀ b ∈ bs, ∃ s : Say, b.2 = keyW s.ws ∧ SqT K H b.1 (s.ws.map V.str)) → (∀ b ∈ ts, ∃ s : Say, b.2 = keyW s.ws ∧ SqT K H b.1 (s.ws.map V.str)) →
    Paired (At K H 1) (bs.map fun b => V.ref b.1) (ts.map fun b => V.ref b.1)
  | [], [], _, _, _ => .nil
  | [], _ :: _, e, _, _ => by simp at e
  | _ :: _, [], e, _, _ => by simp at e
  | b :: bs, t :: ts, e, h1, h2 => by
    rw [List.map_cons, List.map_cons] at e
    injection e with e1 e2
    refine .cons ?_ (at_lists e2 (fun x hx => h1 x (List.mem_cons_of_mem _ hx)) fun x hx => h2 x (List.mem_cons_of_mem _ hx))
    obtain ⟨s, g1, g2⟩ := h1 b (List.mem_cons_self ..)
    obtain ⟨s', g3, g4⟩ := h2 t (List.mem_cons_self ..)
    have es : s = s' := Say.inj (keyW_inj (g1.symm.trans (e1.trans g3)))
    subst es
    refine .inr ⟨b.1, t.1, _, _, rfl, rfl, .inl ⟨g2, g4⟩, ?_, at_words s.ws⟩
    rw [List.length_map]
    exact Nat.le_trans (show s.ws.length ≤ 10 by cases s <;> simp [Say.ws]) (by decide)
end Ah
end
section
set_option Elab.async false
set_option linter.all false
set_option maxRecDepth 100000
set_option maxHeartbeats 4000000
namespace Ah
open PySem PySem.Spec PyProof.Rows L2
open GxR (TabB TabG Tabbed)
/-! ### slices and sums of texts -/
def cutL {α : Type} (xs : List α) (lo hi : Option Int) : List α := (xs.drop (HT.sIx xs.length 0 lo)).take (HT.sIx xs.length xs.length hi - HT.sIx xs.length 0 lo)
theorem cutV_map {α : Type} (f : α → V) (xs : List α) (lo hi : Option Int) : cutV (xs.map f) lo hi = (cutL xs lo hi).map f := by
  unfold cutV cutL
  rw [List.length_map, List.map_take, List.map_drop]
theorem cutL_take {α : Type} (xs : List α) (n : Nat) : cutL xs none (some (n : Int)) = xs.take n := by
  unfold cutL
  rw [HT.sIx_none, HT.sIx_nat, List.drop_zero, Nat.sub_zero]
  by_cases h : n ≤ xs.length
  · rw [Nat.min_eq_left h]
  · rw [Nat.min_eq_right (by omega), List.take_of_length_le (Nat.le_refl _), List.take_of_length_le (by omega)]
theorem cutL_drop {α : Type} (xs : List α) (n : Nat) : cutL xs (some (n : Int)) none = xs.drop n := by
  unfold cutL
  rw [HT.sIx_none, HT.sIx_nat]
  by_cases h : n ≤ xs.length
  · rw [Nat.min_eq_left h, List.take_of_length_le (by rw [List.length_drop]; exact Nat.le_refl _)]
  · rw [Nat.min_eq_right (by omega), List.drop_eq_nil_of_le (Nat.le_refl _), List.drop_eq_nil_of_le (by omega), List.take_nil]
theorem pd_take {α β : Type} {F : α → β → Prop} {l : List α} {m : List β} (h : Paired F l m) : ∀ n, Paired F (l.take n) (m.take n) := by
  induction h with
  | nil => intro n; rw [List.take_nil, List.take_nil]; exact .nil
  | cons h t ih =>
    intro n
    cases n with
    | zero => exact .nil
    | succ n => exact .cons h (ih n)
theorem pd_drop {α β : Type} {F : α → β → Prop} {l : List α} {m : List β} (h : Paired F l m) : ∀ n, Paired F (l.drop n) (m.drop n) := by
  induction h with
  | nil => intro n; rw [List.drop_nil, List.drop_nil]; exact .nil
  | cons h t ih =>
    intro n
    cases n with
    | zero => exact .cons h t
    | succ n => exact ih n
theorem pd_append {α β : Type} {F : α → β → Prop} {l l' : List α} {m m' : List β} (h : Paired F l m) (h' : Paired F l' m') : Paired F (l ++ l') (m ++ m') := by
  induction h with
  | nil => exact h'
  | cons h t ih => exact .cons h ih
theorem pd_cut {α β : Type} {F : α → β → Prop} {l : List α} {m : List β} (h : Paired F l m) (lo hi : Option Int) : Paired F (cutL l lo hi) (cutL m lo hi) := by
  unfold cutL
  rw [h.length]
  exact pd_take (pd_drop h _) _
theorem textAt_upd {H : Hp} {p : Addr} {o : HO} {ps : List Addr} {rs : List Rw} (np : H p = none) (h : Paired (fun a r => H a = some (.tup ((Rw.ws r).map V.str))) ps rs) : Paired (fun a r => (L2.upd H p o) a = some (.tup ((Rw.ws r).map V.str))) ps rs :=
  Paired.mapP h fun _ _ e => by rw [upd_ne (ne_of_none e np)]; exact e
theorem slA_text {K : PySem.W.Frag} {H : Hp} {q : Addr} {rs : List Rw} {lo hi : Option Int} {Q : VK} (tx : TextAt H q rs) (k : ∀ q' H', Kept [] H H' → TextAt H' q' (cutL rs lo hi) → Q (.ref q') H') : rSlA K (.ref q) lo hi H Q := by
  obtain ⟨ps, h1, h2⟩ := tx
  refine ⟨q, ps.map V.ref, rfl, .inl (.of h1), fun ⟨w1, w2⟩ => ?_, fun _ p np => ?_⟩
  · rw [List.length_map, h2.length] at w1 w2
    have e : cutL rs lo hi = rs := by
      unfold cutL
      rw [w1, w2, List.drop_zero, Nat.sub_zero, List.take_of_length_le (Nat.le_refl _)]
    refine k q H (Kept.refl H) ?_
    rw [e]
    exact ⟨ps, h1, h2⟩
  · rw [cutV_map]
    exact k p _ ((Kept.refl H).upd np) ⟨_, upd_same, textAt_upd np (pd_cut h2 lo hi)⟩
theorem catA_text {K : PySem.W.Frag} {H : Hp} {q1 q2 : Addr} {rs1 rs2 : List Rw} {Q : VK} (t1 : TextAt H q1 rs1) (t2 : TextAt H q2 rs2) (hl : rs1.length + rs2.length ≤ 1000) (k : ∀ q' H', Kept [] H H' → TextAt H' q' (rs1 ++ rs2) → Q (.ref q') H') : rCatA K (.ref q1) (.ref q2) H Q := by
  obtain ⟨ps1, h1, p1⟩ := id t1
  obtain ⟨ps2, h2, p2⟩ := id t2
  have l1 := p1.length
  have l2 := p2.length
  refine ⟨q1, q2, ps1.map V.ref, ps2.map V.ref, rfl, rfl, .inl (.of h1), .inl (.of h2), by rw [List.length_map, List.length_map]; exact Nat.le_trans (show _ ≤ 1000 by omega) (by decide), fun e => ?_, fun e1 e2 => ?_, fun e1 e2 p np => ?_⟩
  · have e' : rs1 = [] := List.eq_nil_of_length_eq_zero (by rw [← l1, List.map_eq_nil_iff.mp e]; rfl)
    refine k q2 H (Kept.refl H) ?_
    rw [e', List.nil_append]
    exact t2
  · have e' : rs2 = [] := List.eq_nil_of_length_eq_zero (by rw [← l2, List.map_eq_nil_iff.mp e2]; rfl)
    refine k q1 H (Kept.refl H) ?_
    rw [e', List.append_nil]
    exact t1
  · rw [← List.map_append]
    exact k p _ ((Kept.refl H).upd np) ⟨_, upd_same, textAt_upd np (pd_append p1 p2)⟩
/-! ### those of a list that are no keys of a dict -/
def keepT (es : List Ent) (b : Tx) : Bool := !(valE es b.2).isSome
theorem rd_keep {J : It} {n : Nat} {G : Hp → Prop} {us : List V} (wk : Walk J n G (YAt us)) {bs : List Tx} (hus : us = bs.map fun b => V.ref b.1) (hn : n = bs.length) {K : PySem.W.Frag} {P : Program} {w : World} {σ : L2.St} {H : Hp} {Q : VK} {b c : Nat} {d2 : Addr} {es2 : List Ent}
    (hG : ∀ Ha, Kept [] H Ha → G Ha) (h2 : ∀ x : V, wipe ((wipe σ [c]).set c (some x)) [c] = wipe σ [c]) (h3 : ∀ x : V, ((wipe σ [c]).set c (some x))[c]? = some (some x)) (h4 : ∀ x : V, ((wipe σ [c]).set c (some x))[b]? = some (some (.ref d2)))
    (hd2 : H d2 = some (DicO P w d2 es2)) (k2 : KeysIn K H es2) (hb : ∀ b ∈ bs, SqT K H b.1 (b.2.map kV)) (lb : bs.length ≤ 1000)
    (q : ∀ D Ha, H D = none → Ha D = some (.lst ((bs.filter (keepT es2)).map fun b => V.ref b.1)) → Kept [] H Ha → Q (.ref D) Ha) :
    ∀ D, H D = none → ∃ W : Nat → Nat → Hp → Prop, (∃ m, W 0 m (L2.upd H D (.lst []))) ∧ ∀ i m Ha, W i m Ha →
      (J.stop i Ha ∧ Q (.ref D) Ha) ∨ (J.go i Ha ∧ ∃ Nx : Hp → Prop, (∀ H', Nx H' → ∃ m', m' < m ∧ W (i + 1) m' H') ∧ ∀ x H', J.yld i Ha x H' → gName c x (wipe σ [c]) H' fun σ2 H2 => wipe σ2 [c] = wipe σ [c] ∧ tTest (tOp (rDicInK K P w true) (tVar c) (tVar b)) σ2 H2 fun b H3 =>
        if b = true then tVar c σ2 H3 fun y H4 => ∃ acc, H4 D = some (.lst acc) ∧ acc.length < sizeLine ∧ Nx (L2.upd H4 D (.lst (acc ++ [y]))) else Nx H3) := by
  intro D nD
  refine lc_it wk (fun i Ha => Ha D = some (.lst (((bs.take i).filter (keepT es2)).map fun b => V.ref b.1)) ∧ Kept [] H Ha) ⟨by rw [List.take_zero]; exact upd_same, (Kept.refl H).upd nD⟩ (fun i Ha _ pv => hG Ha pv.2) ?_ ?_
  · rintro i v Ha0 Ha hi ⟨eD, kk⟩ ⟨rfl, ey⟩
    rw [hus, List.getElem?_map] at ey
    obtain ⟨e, ee, rfl⟩ := Option.map_eq_some_iff.mp ey
    have tk : TK H Ha := .of kk
    refine ⟨h2 _, ?_⟩
    refine ⟨_, h3 _, _, h4 _, d2, e.1, es2, e.2, rfl, rfl, .inl (kk _ _ hd2 (by simp)), fun x hx => sqT_tk tk (k2 x hx), sqT_tk tk (hb e (List.mem_of_getElem? ee)), ?_⟩
    have et : (bs.take (i + 1)).filter (keepT es2) = (bs.take i).filter (keepT es2) ++ if keepT es2 e = true then [e] else [] := by
      rw [List.take_add_one, ee, List.filter_append]
      congr 1
      show List.filter _ [e] = _
      rw [List.filter_cons, List.filter_nil]
    refine ⟨keepT es2 e, rfl, ?_⟩
    cases hk : keepT es2 e with
    | true =>
      refine iteT ⟨_, h3 _, _, eD, ?_, ?_, kD_far nD kk⟩
      · rw [List.length_map]
        refine Nat.lt_of_le_of_lt (Nat.le_trans (List.length_filter_le ..) ?_) (show 1000 < sizeLine by decide)
        rw [List.length_take]
        omega
      · rw [et, hk, if_pos rfl, List.map_append]
        exact upd_same
    | false =>
      refine iteF ⟨?_, kk⟩
      rw [et, hk, if_neg (by decide), List.append_nil]
      exact eD
  · rintro Ha ⟨eD, kk⟩
    rw [hn, List.take_of_length_le (Nat.le_refl _)] at eD
    exact q D Ha nD eD kk
/-! ### what follows from the one text and not from the other -/
structure OnlyT (K : PySem.W.Frag) (H : Hp) (rs rs2 : List Rw) (ts : List Tx) : Prop where
  at_ : ∀ b ∈ ts, ∃ s : Say, (LFol rs s ∧ ¬ LFol rs2 s) ∧ b.2 = keyW s.ws ∧ SqT K H b.1 (s.ws.map V.str)
  all_ : ∀ s, (LFol rs s ∧ ¬ LFol rs2 s) → ∃ b ∈ ts, b.2 = keyW s.ws
  nd : (ts.map (·.2)).Nodup
  srt : ts.mergeSort leT = ts
  len : ts.length ≤ 1000
theorem tot_t : PySem.W.TotalLe leT := by
  unfold leT PySem.W.dataLe
  exact PySem.W.sortLe_total _ _ _
theorem sorted_filter (bs : List Tx) (f : Tx → Bool) : ((bs.mergeSort leT).filter f).mergeSort leT = (bs.mergeSort leT).filter f :=
  List.mergeSort_of_pairwise ((PySem.W.sort_pairwise tot_t bs).filter f)
theorem keep_no {es : List Ent} {b : Tx} {s : Say} (e : b.2 = keyW s.ws) : keepT es b = true ↔ ¬ HasE es s := by
  unfold keepT
  rw [hasE_val, e]
  cases (valE es (keyW s.ws)).isSome <;> simp
/-- both lists, the program's and the law's, by one form -/
theorem onlyT_of {K : PySem.W.Frag} {H : Hp} {rs rs2 : List Rw} {bs : List Tx} {es2 : List Ent} {M N : Say → Prop} (h1 : ∀ b ∈ bs, ∃ s : Say, M s ∧ b.2 = keyW s.ws ∧ SqT K H b.1 (s.ws.map V.str)) (h2 : ∀ s, M s → ∃ b ∈ bs, b.2 = keyW s.ws) (h3 : (bs.map (·.2)).Nodup) (h4 : bs.length ≤ 1000)
    (hM : ∀ s, M s ↔ LFol rs s) (hN : ∀ s, HasE es2 s ↔ N s) (hN2 : ∀ s, LFol rs s → (N s ↔ LFol rs2 s)) : OnlyT K H rs rs2 ((bs.mergeSort leT).filter (keepT es2)) := by
  have mem : ∀ b, b ∈ bs.mergeSort leT ↔ b ∈ bs := fun b => (List.mergeSort_perm bs leT).mem_iff
  refine ⟨fun b hb => ?_, fun s hs => ?_, ?_, sorted_filter _ _, ?_⟩
  · obtain ⟨a1, a2⟩ := List.mem_filter.mp hb
    obtain ⟨s, m, e, r⟩ := h1 b ((mem b).mp a1)
    exact ⟨s, ⟨(hM s).mp m, fun z => (keep_no e).mp a2 ((hN s).mpr ((hN2 s ((hM s).mp m)).mpr z))⟩, e, r⟩
  · obtain ⟨b, hb, e⟩ := h2 s ((hM s).mpr hs.1)
    exact ⟨b, List.mem_filter.mpr ⟨(mem b).mpr hb, (keep_no e).mpr fun z => hs.2 ((hN2 s hs.1).mp ((hN s).mp z))⟩, e⟩
  · exact (List.Sublist.map _ List.filter_sublist).nodup (((List.mergeSort_perm bs leT).map (·.2)).nodup_iff.mpr h3)
  · exact Nat.le_trans (List.length_filter_le ..) (by rw [mergeT_len]; exact h4)
theorem onlyT_eq {K : PySem.W.Frag} {H H' : Hp} {rs rs2 : List Rw} {ts us : List Tx} (few : ∀ r ∈ rs, r.few) (h : OnlyT K H rs rs2 ts) (h' : OnlyT K H' rs rs2 us) : ts.map (·.2) = us.map (·.2) := by
  have e := told_eq (bs := ts) (ts := us) (M := fun s => LFol rs s ∧ ¬ LFol rs2 s) (fun s hs => mem_allSay (lfol_few few hs.1)) (fun b hb => let ⟨s, a, b, _⟩ := h.at_ b hb; ⟨s, a, b⟩) h.all_ h.nd (fun b hb => let ⟨s, a, b, _⟩ := h'.at_ b hb; ⟨s, a, b⟩) h'.all_ h'.nd
  rw [h.srt, h'.srt] at e
  exact e
theorem OnlyT.tk {K : PySem.W.Frag} {H H' : Hp} {rs rs2 : List Rw} {ts : List Tx} (k : TK H H') (h : OnlyT K H rs rs2 ts) : OnlyT K H' rs rs2 ts :=
  ⟨fun b hb => let ⟨s, a, b, c⟩ := h.at_ b hb; ⟨s, a, b, sqT_tk k c⟩, h.all_, h.nd, h.srt, h.len⟩
end Ah
end
section
set_option Elab.async false
set_option linter.all false
set_option maxRecDepth 100000
set_option maxHeartbeats 4000000
namespace Ah
open PySem PySem.Spec PyProof.Rows L2
open GxR (TabB TabG Tabbed)
theorem scRes : FnScope ["rows"] ["rows"] (defScope sResultsOf) := ⟨rfl, rfl, rfl, by decide +kernel, rfl, by decide +kernel, by decide +kernel⟩
theorem scLeft : FnScope ["rows", "number"] ["rows", "number"] (defScope sLeft) := ⟨rfl, rfl, rfl, by decide +kernel, rfl, by decide +kernel, by decide +kernel⟩
theorem scHang : FnScope ["rows", "number"] ["rows", "number"] (defScope sHanging) := ⟨rfl, rfl, rfl, by decide +kernel, rfl, by decide +kernel, by decide +kernel⟩
theorem scPart : FnScope ["rows", "other"] ["rows", "other"] (defScope sParted) := ⟨rfl, rfl, rfl, by decide +kernel, rfl, by decide +kernel, by decide +kernel⟩
theorem scOnly : FnScope ["rows", "other", "known", "saying"] ["rows", "other"] (defScope sOnlyFirst) := ⟨rfl, rfl, rfl, by decide +kernel, rfl, by decide +kernel, by decide +kernel⟩
theorem scNum : FnScope ["number", "many"] ["number", "many"] (defScope sIsNumber) := ⟨rfl, rfl, rfl, by decide +kernel, rfl, by decide +kernel, by decide +kernel⟩
theorem scChN : FnScope ["number", "many"] ["number", "many"] (defScope sCheckNumber) := ⟨rfl, rfl, rfl, by decide +kernel, rfl, by decide +kernel, by decide +kernel⟩
def spRes (K : PySem.W.Frag) (P : Program) (w : World) : Sp := fun vs H Q _ => ∃ (q : Addr) (rs : List Rw), vs = [.ref q] ∧ TextAt H q rs ∧ (∀ r ∈ rs, r.few) ∧ rs.length ≤ 20 ∧
  ∀ p H' es rws names, Kept [] H H' → H p = none → H' p = some (DicO P w p es) → (∀ r, r ∈ rws ↔ r ∈ rs) → (∀ z, z ∈ names ↔ ∃ r ∈ rs, z ∈ rowNames r) → SayE K H' rws names es → (∀ s, HasE es s ↔ Fol rws names s) → (es.map (·.1)).Nodup → es.length ≤ 1000 → Q (.ref p) H'
def spLeft : Sp := fun vs H Q _ => ∃ (q : Addr) (rs : List Rw) (n : Nat), vs = [.ref q, .int n] ∧ TextAt H q rs ∧ rs.length ≤ 100 ∧ ∀ q' H', Kept [] H H' → TextAt H' q' (rs.take n ++ rs.drop (n + 1)) → Q (.ref q') H'
def spNum : Sp := fun vs H Q _ => ∃ (i m : Int), vs = [.int i, .int m] ∧ Q (.bl (decide (0 ≤ i) && decide (i < m))) H
def spChN : Sp := fun vs H Q _ => ∃ (i m : Int), vs = [.int i, .int m] ∧ 0 ≤ i ∧ i < m ∧ Q .non H
def spOnly (K : PySem.W.Frag) (T : List Addr) : Sp := fun vs H Q _ => ∃ (q q2 : Addr) (rs rs2 : List Rw), vs = [.ref q, .ref q2] ∧ TextAt H q rs ∧ TextAt H q2 rs2 ∧ (∀ r ∈ rs, r.few) ∧ (∀ r ∈ rs2, r.few) ∧ rs.length ≤ 20 ∧ rs2.length ≤ 20 ∧ (∀ P ∈ T, TabG H P) ∧
  ∀ p ts H', Kp T H H' → H p = none → H' p = some (.lst (ts.map fun b => V.ref b.1)) → OnlyT K H' rs rs2 ts → Q (.ref p) H'
def spParted (K : PySem.W.Frag) (T : List Addr) : Sp := fun vs H Q _ => ∃ (q q2 : Addr) (rs rs2 : List Rw), vs = [.ref q, .ref q2] ∧ TextAt H q rs ∧ TextAt H q2 rs2 ∧ (∀ r ∈ rs, r.few) ∧ (∀ r ∈ rs2, r.few) ∧ rs.length ≤ 20 ∧ rs2.length ≤ 20 ∧ (∀ P ∈ T, TabG H P) ∧
  ∀ p p1 p2 ts us H', Kp T H H' → H p1 = none → H' p = some (.tup [.ref p1, .ref p2]) → H' p1 = some (.lst (ts.map fun b => V.ref b.1)) → H' p2 = some (.lst (us.map fun b => V.ref b.1)) → OnlyT K H' rs rs2 ts → OnlyT K H' rs2 rs us → Q (.ref p) H'
def spHang (K : PySem.W.Frag) (T : List Addr) : Sp := fun vs H Q _ => ∃ (q : Addr) (rs : List Rw) (n : Nat), vs = [.ref q, .int n] ∧ TextAt H q rs ∧ (∀ r ∈ rs, r.few) ∧ rs.length ≤ 20 ∧ n < rs.length ∧ (∀ P ∈ T, TabG H P) ∧
  ∀ p ts H', Kp T H H' → H p = none → H' p = some (.lst (ts.map fun b => V.ref b.1)) → OnlyT K H' rs (rs.take n ++ rs.drop (n + 1)) ts → Q (.ref p) H'
/-- a text of few words is let by -/
theorem rows_v {H : Hp} {q : Addr} {rs : List Rw} (tx : TextAt H q rs) (hf : ∀ r ∈ rs, r.few) (hl : rs.length ≤ 24) : ∃ vs, H q = some (.tup vs) ∧ vs.length ≤ 24 ∧ ∀ r ∈ vs, RowV H r true := by
  obtain ⟨ps, hq, hps⟩ := id tx
  have lps : ps.length = rs.length := hps.length
  refine ⟨ps.map V.ref, hq, by rw [List.length_map]; omega, fun v hv => ?_⟩
  obtain ⟨a, ha, rfl⟩ := List.mem_map.mp hv
  obtain ⟨i, hi⟩ := List.mem_iff_getElem?.mp ha
  obtain ⟨r, er, hr1⟩ := paired_at hps hi
  have fr := hf r (List.mem_of_getElem? er)
  refine .inr ⟨a, _, rfl, hr1, ?_, fun x hx => ?_, (few_row fr).symm⟩
  · rw [List.length_map]
    exact Nat.le_trans (show r.ws.length ≤ 10 by cases r <;> simp [Rw.ws]) (by decide)
  · obtain ⟨z, hz, rfl⟩ := List.mem_map.mp hx
    exact .inl ⟨z, rfl, Nat.le_trans (few_len fr z hz) (by decide)⟩
section
variable {P : Program} {w : World} {K : PySem.W.Frag} {mg : Str → Option Value} {base : Heap} {f fT fC fA fN fI C cl : Addr} {fd fdT fdC fdA fdN fdI : FuncData} {T : List Addr}
theorem ok_results (F : FnP K "results_of" sResultsOf f fd) (CR : ClsR K C) (M : Mk K C fI) (gR : mg "Rules" = some (.ref C)) (FI : FnOk P w K mg base CX0 2 fI fdI ["self", "rows", "names"] (spInit K P w C)) (bI : Binds K fdI ["self", "rows", "names"] [])
    (c_all_results : Own P w K mg base "all_results" 6 fA fdA ["rules"] (spAll K P w C)) (c_names_of : Own P w K mg base "names_of" 2 fN fdN ["rows"] spNames) : FnOk P w K mg base CX0 7 f fd ["rows"] (spRes K P w) := by
  refine F.ok scRes (fun vs H Q E h => ?_) (fun cdv A outer s H vs Q E hr h => ?_)
  · obtain ⟨q, rs, rfl, _⟩ := h
    rfl
  · obtain ⟨q, rs, rfl, tx, hf, hl, k⟩ := h
    refine ⟨_, PSs.nox (pss_one (ps_ret (pe_call c_all_results.ok hr (by rfl) c_all_results.g c_all_results.kp c_all_results.b .nil pass0 (pa_cons (pe_make M FI (hr.mono (by decide)) (by rfl) gR bI .nil pass0 (pa_cons (pv 0) (pa_cons (pe_call c_names_of.ok (hr.mono (by decide)) (by rfl) c_names_of.g c_names_of.kp c_names_of.b .nil pass0 (pa_cons (pv 0) pa_nil)) pa_nil))) pa_nil)))), ?_⟩
    refine ⟨_, rfl, _, rfl, q, rs, rfl, tx, by omega, fun na nb H2 k2 nna e2 hm2 hl2 => ?_⟩
    intro x dx nx ndx dxx
    have kx : Kept [] H2 (L2.upd (L2.upd H2 dx (.own x)) x (.ins C dx [])) := ((Kept.refl H2).upd ndx).upd (by rw [upd_ne (Ne.symm dxx)]; exact nx)
    refine ⟨x, q, na, dx, rs, nb, rfl, upd_same, (tx.kept (M := []) (TK.of k2)).kept (M := []) (TK.of kx), by omega, kx _ _ e2 (by simp), fun H3 o rws ho hC nkd k3 R3 hrw hrl => ⟨rfl, ?_⟩⟩
    have hnb : ∀ z ∈ nb, z ∈ namesL := fun z hz => by
      obtain ⟨r, h1, h2⟩ := (hm2 z).mp hz
      exact few_names (hf r h1) z h2
    have hrf : ∀ r ∈ rws, r.few := fun r hr => hf r ((hrw r).mp hr)
    have hff := fol_few (names := nb) hrf (fun r hr z hz => (hm2 z).mpr ⟨r, (hrw r).mp hr, hz⟩) hnb
    have okd : OkD rws nb := ⟨by omega, by omega, fun r hr => few_ok (hrf r hr), fun z hz => (w_name (hnb z hz)).1⟩
    subst ho
    refine ⟨o, rws, nb, [], allSay.filter (fun s => s.names.all fun z => decide (z ∈ nb)), rfl, hC, R3, okd, Nat.zero_le _, ?_, ?_, fun s hs => ?_, fun s hs => ?_, fun d H4 es k4 nd4 e4 se4 hes nd hle => ?_⟩
    · exact Nat.le_trans (List.length_filter_le ..) (by rw [allSay_len]; decide)
    · have h1 : (allSay.filter (fun s => s.names.all fun z => decide (z ∈ nb))).length ≤ 28 := by
        rw [← allSay_len]
        exact List.length_filter_le ..
      have h2 : rws.length * (2 * nb.length + 1) ≤ 20 * 121 := Nat.mul_le_mul (by omega) (by omega)
      exact Nat.le_trans (Nat.mul_le_mul (show _ ≤ 29 by omega) h2) (by decide)
    · obtain ⟨h1, h2⟩ := hff s hs
      exact List.mem_filter.mpr ⟨mem_allSay h1, List.all_eq_true.mpr fun z hz => decide_eq_true (h2 z hz)⟩
    · obtain ⟨h1, h2⟩ := List.mem_filter.mp hs
      exact ⟨allSay_ok s h1, fun z hz => of_decide_eq_true (List.all_eq_true.mp h2 z hz)⟩
    · have k14 : Kept [] H H4 := fun b u e hb => by
        have b2 := k2 b u e hb
        have b3 := kx b u b2 hb
        have b4 := k3 b u b3 (by rw [List.mem_singleton]; exact ne_of_none b2 nx)
        exact k4 b u b4 (by rw [List.mem_singleton]; exact ne_of_none b3 nkd)
      have nd0 : H d = none := by
        cases e : H d with
        | none => rfl
        | some u =>
          have b2 := k2 d u e (by simp)
          have b3 := kx d u b2 (by simp)
          have b4 := k3 d u b3 (by rw [List.mem_singleton]; exact ne_of_none b2 nx)
          rw [nd4] at b4
          cases b4
      exact k d H4 es rws nb k14 nd0 e4 hrw hm2 se4 hes nd hle
theorem ok_left (F : FnP K "left" sLeft f fd) : FnOk P w K mg base CX0 1 f fd ["rows", "number"] spLeft := by
  refine F.ok scLeft (fun vs H Q E h => ?_) (fun cdv A outer s H vs Q E hr h => ?_)
  · obtain ⟨q, rs, n, rfl, _⟩ := h
    rfl
  · obtain ⟨q, rs, n, rfl, tx, hl, k⟩ := h
    refine ⟨_, PSs.nox (pss_one (ps_ret (pe_op (show OpR _ _ (rCatA K) from op_catA) (pe_slice (show SlR _ (rSlA K) from sl_tupA) (pv 0) po_none (po_some (pv 1))) (pe_slice (show SlR _ (rSlA K) from sl_tupA) (pv 0) (po_some (pe_op op_add (pv 1) pe_int)) po_none)))), ?_⟩
    refine ⟨_, rfl, _, rfl, (n : Int), rfl, ?_⟩
    refine slA_text tx fun q1 H1 k1 tx1 => ?_
    refine ⟨_, rfl, _, rfl, _, _, rfl, rfl, ((n + 1 : Nat) : Int), rfl, ?_⟩
    dsimp only
    unfold tNoPart
    dsimp only
    refine slA_text (tx.kept (M := []) (TK.of k1)) fun q2 H2 k2 tx2 => ?_
    rw [cutL_take] at tx1
    rw [cutL_drop] at tx2
    refine catA_text (tx1.kept (M := []) (TK.of k2)) tx2 ?_ fun q3 H3 k3 tx3 => k q3 H3 ((k1.trans k2).trans k3) tx3
    rw [List.length_take, List.length_drop]
    omega
theorem ok_number (F : FnP K "is_number" sIsNumber f fd) (B : Bl mg) (zi : mg "int" = none) : FnOk P w K mg base CX0 1 f fd ["number", "many"] spNum := by
  refine F.ok scNum (fun vs H Q E h => ?_) (fun cdv A outer s H vs Q E hr h => ?_)
  · obtain ⟨i, m, rfl, _⟩ := h
    rfl
  · obtain ⟨i, m, rfl, k⟩ := h
    refine ⟨_, PSs.nox (pss_one (ps_ret (pe_and (pe_callB (show CallR _ _ (rIsi K) from call_isi) (by rfl) B.isinstance_ (by decide +kernel) (pa_cons (pv 0) (pa_cons (pe_bltn (v := .ty "int") (by rfl) zi (by decide +kernel) rfl) pa_nil))) (pe_and (pe_not (pe_callB (show CallR _ _ (rIsi K) from call_isi) (by rfl) B.isinstance_ (by decide +kernel) (pa_cons (pv 0) (pa_cons (pe_bltn (v := .ty "bool") (by rfl) B.bool_ (by decide +kernel) rfl) pa_nil)))) (pe_one (pe_chain op_le op_lt pe_int (pv 0) (pv 1))))))), ?_⟩
    refine rd_isi rfl (.int i) (b := true) (by decide +kernel) ⟨_, rfl, iteT ?_⟩
    refine rd_isi rfl (.int i) (b := false) (by decide +kernel) ⟨_, rfl, _, rfl, iteT ?_⟩
    refine ⟨_, rfl, _, _, rfl, rfl, _, rfl, ?_⟩
    by_cases h0 : 0 ≤ i
    · rw [decide_eq_true h0] at k ⊢
      exact iteT ⟨_, rfl, _, _, rfl, rfl, k⟩
    · rw [decide_eq_false h0] at k ⊢
      exact iteF k
theorem ok_checkN (F : FnP K "check_number" sCheckNumber f fd) (c_is_number : Own P w K mg base "is_number" 1 fT fdT ["number", "many"] spNum) : FnOk P w K mg base CX0 2 f fd ["number", "many"] spChN := by
  refine F.ok scChN (fun vs H Q E h => ?_) (fun cdv A outer s H vs Q E hr h => ?_)
  · obtain ⟨i, m, rfl, _⟩ := h
    rfl
  · obtain ⟨i, m, rfl, h0, h1, k⟩ := h
    refine ⟨_, PSs.nox (pss_one (ps_if (pt_not (pt_val (pe_call c_is_number.ok hr (by rfl) c_is_number.g c_is_number.kp c_is_number.b .nil pass0 (pa_cons (pv 0) (pa_cons (pv 1) pa_nil))))) (pss_one ps_never) pss_nil)), ?_⟩
    refine ⟨_, rfl, _, rfl, i, m, rfl, ⟨_, rfl, ?_⟩⟩
    rw [decide_eq_true h0, decide_eq_true h1]
    exact iteF k
theorem ok_only (F : FnP K "only_first" sOnlyFirst f fd) (c_results_of : Own P w K mg base "results_of" 7 fA fdA ["rows"] (spRes K P w)) (c_follows : Own P w K mg base "follows" 7 fT fdT ["rows"] (spFollows K T)) :
    FnOk P w K mg base CX0 8 f fd ["rows", "other"] (spOnly K T) := by
  refine F.ok scOnly (fun vs H Q E h => ?_) (fun cdv A outer s H vs Q E hr h => ?_)
  · obtain ⟨q, q2, rs, rs2, rfl, _⟩ := h
    rfl
  · obtain ⟨q, q2, rs, rs2, rfl, tx, tx2, hf, hf2, hl, hl2, ht, k⟩ := h
    have hu : A.units + 3 + 1 < cLine := by have := hr.units; exact (by have h2 : (A.deeper (envOfC "only_first" (defScope sOnlyFirst) s.heap.objs.size f cdv)).units = A.units + 3 := rfl; omega)
    refine ⟨_, PSs.nox (pss_cons (ps_set (i := 2) scOnly.nd rfl (.inr rfl) (pe_call c_results_of.ok hr (by rfl) c_results_of.g c_results_of.kp c_results_of.b .nil pass0 (pa_cons (pv 1) pa_nil)))
      (pss_one (ps_ret (pe_lc (own := [("saying", 3)]) rfl scOnly.nd (pi_list (pe_call c_follows.ok hr (by rfl) c_follows.g c_follows.kp c_follows.b .nil pass0 (pa_cons (pv 0) pa_nil))) (blkOk_by (N := ["rows", "other", "known", "saying"]) (sc := defScope sOnlyFirst) (by decide +kernel)) (fun _ _ _ _ _ => (pg_name (i := 3) scOnly.nd rfl (Or.inl rfl))) (fun _ _ _ _ _ => (pts_one (pt_cmpR (show OpR _ _ (rDicInK K P w true) from op_notIn_dic hu) (pv 3) (pv 2) (by rfl)))) (fun _ _ _ _ _ => (pv 3)))))), ?_⟩
    refine ⟨_, rfl, q2, rs2, rfl, tx2, hf2, hl2, fun d H1 es rws2 nb2 k1 nd1 e1 hrw2 hnb2 se2 hes2 nde2 le2 => ?_⟩
    have tx1 := tx.kept (M := []) (TK.of k1)
    have ht1 : ∀ P ∈ T, TabG H1 P := (Kp.of ht k1).tab
    refine ⟨_, rfl, q, rs, rfl, tx1, hf, hl, ht1, fun p bs rws nb H2 kp2 np2 ep hrw hnb hb hall ndb lb => ?_⟩
    have e2 : H2 d = some (DicO P w d es) := kp2.obj ht1 e1 (by intro ps q; unfold DicO at q; cases q)
    refine ⟨p, rfl, ⟨_, .inl (.of ep)⟩, ?_⟩
    have mem : ∀ b, b ∈ bs.mergeSort leT ↔ b ∈ bs := fun b => (List.mergeSort_perm bs leT).mem_iff
    refine rd_keep (walk_list (K := K) (a := p) (xs := (bs.mergeSort leT).map fun b => V.ref b.1)) rfl (by rw [List.length_map]) (es2 := es) (d2 := d) (b := 2) (c := 3) (fun Ha kk => .inl (.of (kk _ _ ep (by simp)))) (fun _ => rfl) (fun _ => rfl) (fun _ => rfl) e2 (fun e he => ?_) (fun b hb' => ?_) ?_ fun D Ha nD eD kk => ?_
    · obtain ⟨s', _, a2, a3⟩ := se2 e he
      rw [a2, keyW_kV]
      exact sqT_kp ht1 kp2 a3
    · obtain ⟨s', _, _, a2, a3⟩ := hb b ((mem b).mp hb')
      rw [a2, keyW_kV]
      exact a3
    · rw [mergeT_len]
      omega
    · have kpa := ((Kp.of ht k1).trans kp2).trans (Kp.of kp2.tab kk)
      refine k D _ Ha kpa ((Kp.of ht k1).fresh ht (kp2.fresh ht1 nD)) eD ?_
      refine OnlyT.tk (TK.of kk) (onlyT_of (M := fun s => s ≠ .clash ∧ Fol rws nb s) (N := fun s => Fol rws2 nb2 s) (fun b h => ?_) (fun s hs => hall s hs.1 hs.2) ndb (by omega) (fun s => (fol_eq hf hrw hnb s).symm) hes2 fun s hs => ?_)
      · obtain ⟨s, a1, a2, a3, a4⟩ := hb b h
        exact ⟨s, ⟨a1, a2⟩, a3, a4⟩
      · rw [fol_eq hf2 hrw2 hnb2 s]
        exact ⟨fun h => ⟨lfol_ne hs, h⟩, fun h => h.2⟩
theorem ok_parted (F : FnP K "parted" sParted f fd) (c_check_text : Own P w K mg base "check_text" 6 fC fdC ["rows"] (spCheck0 T)) (c_only_first : Own P w K mg base "only_first" 8 fA fdA ["rows", "other"] (spOnly K T)) :
    FnOk P w K mg base CX0 9 f fd ["rows", "other"] (spParted K T) := by
  refine F.ok scPart (fun vs H Q E h => ?_) (fun cdv A outer s H vs Q E hr h => ?_)
  · obtain ⟨q, q2, rs, rs2, rfl, _⟩ := h
    rfl
  · obtain ⟨q, q2, rs, rs2, rfl, tx, tx2, hf, hf2, hl, hl2, ht, k⟩ := h
    refine ⟨_, PSs.nox (pss_cons (ps_expr (pe_call c_check_text.ok (hr.mono (by decide)) (by rfl) c_check_text.g c_check_text.kp c_check_text.b .nil pass0 (pa_cons (pv 0) pa_nil)))
      (pss_cons (ps_expr (pe_call c_check_text.ok (hr.mono (by decide)) (by rfl) c_check_text.g c_check_text.kp c_check_text.b .nil pass0 (pa_cons (pv 1) pa_nil)))
      (pss_one (ps_ret (pe_tup (pa_cons (pe_call c_only_first.ok hr (by rfl) c_only_first.g c_only_first.kp c_only_first.b .nil pass0 (pa_cons (pv 0) (pa_cons (pv 1) pa_nil))) (pa_cons (pe_call c_only_first.ok hr (by rfl) c_only_first.g c_only_first.kp c_only_first.b .nil pass0 (pa_cons (pv 1) (pa_cons (pv 0) pa_nil))) pa_nil))))))), ?_⟩
    obtain ⟨vs1, a1, a2, a3⟩ := rows_v tx hf (by omega)
    refine ⟨_, rfl, q, vs1, rfl, a1, a2, a3, ht, fun H1 kp1 => ?_⟩
    have tx1 := tx.kp ht kp1
    have tx21 := tx2.kp ht kp1
    obtain ⟨vs2, b1, b2, b3⟩ := rows_v tx21 hf2 (by omega)
    refine ⟨_, rfl, q2, vs2, rfl, b1, b2, b3, kp1.tab, fun H2 kp2 => ?_⟩
    have tx3 := tx1.kp kp1.tab kp2
    have tx23 := tx21.kp kp1.tab kp2
    refine ⟨_, rfl, _, rfl, q, q2, rs, rs2, rfl, tx3, tx23, hf, hf2, hl, hl2, kp2.tab, fun p1 ts H3 kp3 np1 ep1 ot => ?_⟩
    refine ⟨_, rfl, _, rfl, q2, q, rs2, rs, rfl, tx23.kp kp2.tab kp3, tx3.kp kp2.tab kp3, hf2, hf, hl2, hl, kp3.tab, fun p2 us H4 kp4 np2 ep2 ou => ?_⟩
    refine ⟨(by show 2 ≤ sizeLine; decide), fun p np => ?_⟩
    have k4 : Kp T H3 (L2.upd H4 p (.tup [V.ref p1, V.ref p2])) := kp4.upd np
    have e1 : (L2.upd H4 p (.tup [V.ref p1, V.ref p2])) p1 = some (.lst (ts.map fun b => V.ref b.1)) := k4.obj kp3.tab ep1
    refine k p p1 p2 ts us _ (((kp1.trans kp2).trans kp3).trans k4) ((kp1.trans kp2).fresh ht np1) upd_same e1 (by rw [upd_ne (ne_of_none ep2 np)]; exact ep2) ⟨fun b hb => ?_, ot.all_, ot.nd, ot.srt, ot.len⟩ (ou.tk ((TK.refl _).new np))
    obtain ⟨s, c1, c2, c3⟩ := ot.at_ b hb
    exact ⟨s, c1, c2, sqT_kp kp3.tab k4 c3⟩
theorem ok_hanging (F : FnP K "hanging" sHanging f fd) (B : Bl mg) (c_check_text : Own P w K mg base "check_text" 6 fC fdC ["rows"] (spCheck0 T)) (c_check_number : Own P w K mg base "check_number" 2 fT fdT ["number", "many"] spChN)
    (c_only_first : Own P w K mg base "only_first" 8 fA fdA ["rows", "other"] (spOnly K T)) (c_left : Own P w K mg base "left" 1 fN fdN ["rows", "number"] spLeft) : FnOk P w K mg base CX0 9 f fd ["rows", "number"] (spHang K T) := by
  refine F.ok scHang (fun vs H Q E h => ?_) (fun cdv A outer s H vs Q E hr h => ?_)
  · obtain ⟨q, rs, n, rfl, _⟩ := h
    rfl
  · obtain ⟨q, rs, n, rfl, tx, hf, hl, hn, ht, k⟩ := h
    refine ⟨_, PSs.nox (pss_cons (ps_expr (pe_call c_check_text.ok (hr.mono (by decide)) (by rfl) c_check_text.g c_check_text.kp c_check_text.b .nil pass0 (pa_cons (pv 0) pa_nil)))
      (pss_cons (ps_expr (pe_call c_check_number.ok (hr.mono (by decide)) (by rfl) c_check_number.g c_check_number.kp c_check_number.b .nil pass0 (pa_cons (pv 1) (pa_cons (pe_callB call_len_seq (by rfl) B.len_ (by decide +kernel) (pa_cons (pv 0) pa_nil)) pa_nil))))
      (pss_one (ps_ret (pe_call c_only_first.ok hr (by rfl) c_only_first.g c_only_first.kp c_only_first.b .nil pass0 (pa_cons (pv 0) (pa_cons (pe_call c_left.ok (hr.mono (by decide)) (by rfl) c_left.g c_left.kp c_left.b .nil pass0 (pa_cons (pv 0) (pa_cons (pv 1) pa_nil))) pa_nil))))))), ?_⟩
    obtain ⟨vs1, a1, a2, a3⟩ := rows_v tx hf (by omega)
    refine ⟨_, rfl, q, vs1, rfl, a1, a2, a3, ht, fun H1 kp1 => ?_⟩
    have tx1 := tx.kp ht kp1
    obtain ⟨ps, hq, hps⟩ := id tx1
    refine ⟨_, rfl, _, rfl, q, _, rfl, .inr (.of hq), (n : Int), _, rfl, by omega, by rw [List.length_map, hps.length]; omega, ?_⟩
    refine ⟨_, rfl, _, rfl, _, rfl, q, rs, n, rfl, tx1, by omega, fun q2 H2 k2 tx2 => ?_⟩
    have hl2 : (rs.take n ++ rs.drop (n + 1)).length ≤ 20 := by
      rw [List.length_append, List.length_take, List.length_drop]
      omega
    have ht2 := (Kp.of kp1.tab k2).tab
    refine ⟨q, q2, rs, _, rfl, tx1.kept (M := []) (TK.of k2), tx2, hf, fun r hr => ?_, hl, hl2, ht2, fun p ts H3 kp3 np ep ot => ?_⟩
    · rcases List.mem_append.mp hr with z | z
      · exact hf r (List.mem_of_mem_take z)
      · exact hf r (List.mem_of_mem_drop z)
    · have kp12 := kp1.trans (Kp.of kp1.tab k2)
      exact k p ts H3 (kp12.trans kp3) (kp12.fresh ht np) ep ot
end
end Ah
end
section
set_option Elab.async false
set_option linter.all false
set_option maxRecDepth 100000
set_option maxHeartbeats 8000000
namespace Ah
open PySem PySem.Spec PyProof.Rows L2
open GxR (TabB TabG Tabbed)
theorem TK.ofM {M : List Addr} {H H' : Hp} (k : Kept M H H') (hM : ∀ b ∈ M, ∃ xs, H b = some (.lst xs)) : TK H H' :=
  have no : ∀ b o, (∀ xs, o ≠ HO.lst xs) → H b = some o → b ∉ M := fun b o n e hm => by
    obtain ⟨xs, h⟩ := hM b hm
    rw [e] at h
    exact n xs (Option.some.inj h)
  ⟨fun b x e => k b _ e (no b _ (fun _ z => by cases z) e), fun b o u e => k b _ e (no b _ (fun _ z => by cases z) e)⟩
/-- what is new may be written -/
theorem Kp.mut {T : List Addr} {H H' : Hp} {p : Addr} {o : HO} (ht : ∀ P ∈ T, TabG H P) (k : Kp T H H') (n : H p = none) : Kp T H (L2.upd H' p o) :=
  ⟨fun q hq => by
    obtain ⟨ps, e, h⟩ := k.tab q hq
    obtain ⟨ps0, e0, _⟩ := ht q hq
    exact ⟨ps, by rw [upd_ne (ne_of_none e0 n)]; exact e, h⟩, fun b u e hb => by
    rw [upd_ne (ne_of_none e n)]
    exact k.keep b u e hb⟩
theorem onlyT_ofS {K : PySem.W.Frag} {H : Hp} {rs rs2 : List Rw} {bs : List Tx} {es2 : List Ent} {M N : Say → Prop} (h1 : ∀ b ∈ bs, ∃ s : Say, M s ∧ b.2 = keyW s.ws ∧ SqT K H b.1 (s.ws.map V.str)) (h2 : ∀ s, M s → ∃ b ∈ bs, b.2 = keyW s.ws) (h3 : (bs.map (·.2)).Nodup) (h4 : bs.length ≤ 1000)
    (hM : ∀ s, M s ↔ LFol rs s) (hN : ∀ s, HasE es2 s ↔ N s) (hN2 : ∀ s, LFol rs s → (N s ↔ LFol rs2 s)) : OnlyT K H rs rs2 ((bs.filter (keepT es2)).mergeSort leT) := by
  have mem : ∀ b, b ∈ (bs.filter (keepT es2)).mergeSort leT ↔ b ∈ bs.filter (keepT es2) := fun b => (List.mergeSort_perm _ leT).mem_iff
  refine ⟨fun b hb => ?_, fun s hs => ?_, ?_, List.mergeSort_of_pairwise (PySem.W.sort_pairwise tot_t _), ?_⟩
  · obtain ⟨a1, a2⟩ := List.mem_filter.mp ((mem b).mp hb)
    obtain ⟨s, m, e, r⟩ := h1 b a1
    exact ⟨s, ⟨(hM s).mp m, fun z => (keep_no e).mp a2 ((hN s).mpr ((hN2 s ((hM s).mp m)).mpr z))⟩, e, r⟩
  · obtain ⟨b, hb, e⟩ := h2 s ((hM s).mpr hs.1)
    exact ⟨b, (mem b).mpr (List.mem_filter.mpr ⟨hb, (keep_no e).mpr fun z => hs.2 ((hN2 s hs.1).mp ((hN s).mp z))⟩), e⟩
  · exact ((List.mergeSort_perm (bs.filter (keepT es2)) leT).map (·.2)).nodup_iff.mpr ((List.Sublist.map _ List.filter_sublist).nodup h3)
  · rw [mergeT_len]
    exact Nat.le_trans (List.length_filter_le ..) h4
def rSrt (K : PySem.W.Frag) : List V → Hp → VK → Prop := fun vs H Q => ∃ (a : Addr) (bs : List Tx), vs = [V.ref a] ∧ SqL K H a (bs.map fun b => V.ref b.1) ∧ (∀ b ∈ bs, SqT K H b.1 (b.2.map kV)) ∧ SortT bs ∧
    ∀ p, H p = none → Q (.ref p) (L2.upd H p (.lst ((bs.mergeSort leT).map fun b => V.ref b.1)))
/-- sorted([x for x in d1 if x not in d2]) -/
theorem rd_sortKeep {K : PySem.W.Frag} {P : Program} {w : World} {σ : L2.St} {H : Hp} {Q : VK} {i b c : Nat} {d1 d2 : Addr} {es1 es2 : List Ent} {rs rs2 : List Rw} (h1 : σ[i]? = some (some (.ref d1)))
    (h2 : ∀ x : V, wipe ((wipe σ [c]).set c (some x)) [c] = wipe σ [c]) (h3 : ∀ x : V, ((wipe σ [c]).set c (some x))[c]? = some (some x)) (h4 : ∀ x : V, ((wipe σ [c]).set c (some x))[b]? = some (some (.ref d2))) (ne : d1 ≠ d2)
    (e1 : H d1 = some (DicO P w d1 es1)) (e2 : H d2 = some (DicO P w d2 es2)) (s1 : SayEL K H rs es1) (s2 : SayEL K H rs2 es2) (f1 : ∀ s, HasE es1 s ↔ LFol rs s) (f2 : ∀ s, HasE es2 s ↔ LFol rs2 s) (nd1 : (es1.map (·.1)).Nodup) (l1 : es1.length ≤ 28)
    (q : ∀ D Ha ts, Kept [] H Ha → H D = none → Ha D = some (.lst (ts.map fun b => V.ref b.1)) → OnlyT K Ha rs rs2 ts → Q (.ref D) Ha) :
    tCB (rSrt K) (tCons (tLockE (tLc (iDic P w (tVar i)) (gName c) (tTest (tOp (rDicInK K P w true) (tVar c) (tVar b))) (tVar c) [c])) tNil) σ H Q := by
  refine ⟨d1, _, e1, trivial, fun od => ?_⟩
  have tkf : TK H (L2.upd H d1 (.frz od (DicO P w d1 es1))) := (TK.refl H).upd e1 (fun _ z => nomatch z) (fun _ _ z => nomatch z)
  refine ⟨_, h1, d1, od, es1, rfl, upd_same, ?_⟩
  refine rd_keep (Q := fun v H' => H' d1 = some (.frz od (DicO P w d1 es1)) ∧ tNil σ (L2.upd H' d1 (DicO P w d1 es1)) fun xs H2 => rSrt K (v :: xs) H2 Q) (walk_dic (P := P) (w := w) (d := d1) (o := od) (es := es1)) (bs := es1.map fun e => (e.2.1, e.1)) (by unfold entRefs; rw [List.map_map]; rfl) (by rw [List.length_map]) (es2 := es2) (d2 := d2) (fun Ha kk => kk _ _ upd_same (by simp)) h2 h3 h4
    (by rw [upd_ne (Ne.symm ne)]; exact e2) (fun e he => sqT_tk tkf (s2.keys e he)) (fun b hb => ?_) (by rw [List.length_map]; omega) fun D Ha nD eD kk => ?_
  · obtain ⟨e, he, rfl⟩ := List.mem_map.mp hb
    exact sqT_tk tkf (s1.keys e he)
  · have fz : Ha d1 = some (.frz od (DicO P w d1 es1)) := kk _ _ upd_same (by simp)
    have nD0 : H D = none := by
      cases e : H D with
      | none => rfl
      | some u =>
        by_cases h : D = d1
        · rw [h, upd_same] at nD
          cases nD
        · rw [upd_ne h, e] at nD
          cases nD
    have dl : D ≠ d1 := fun h => by rw [h, e1] at nD0; cases nD0
    refine ⟨fz, ?_⟩
    have k45 : Kept [] H (L2.upd Ha d1 (DicO P w d1 es1)) := fun b u e hb => by
      by_cases h : b = d1
      · rw [h, e1] at e
        rw [h, upd_same]
        exact e
      · rw [upd_ne h]
        exact kk b u (by rw [upd_ne h]; exact e) hb
    have tk5 := TK.of k45
    have hbs : ∀ b ∈ es1.map (fun e => (e.2.1, e.1)), ∃ s : Say, HasE es1 s ∧ b.2 = keyW s.ws ∧ SqT K (L2.upd Ha d1 (DicO P w d1 es1)) b.1 (s.ws.map V.str) := fun b hb => by
      obtain ⟨e, he, rfl⟩ := List.mem_map.mp hb
      obtain ⟨s, _, g2, g3⟩ := s1 e he
      exact ⟨s, ⟨e, he, g2⟩, g2, sqT_tk tk5 g3⟩
    refine ⟨D, (es1.map fun e => (e.2.1, e.1)).filter (keepT es2), rfl, .inl (.of (by rw [upd_ne dl]; exact eD)), fun b hb => ?_, sort_saysM fun b hb => ?_, fun p np => ?_⟩
    · obtain ⟨s, _, g2, g3⟩ := hbs b (List.mem_filter.mp hb).1
      rw [g2, keyW_kV]
      exact g3
    · obtain ⟨s, _, g2, _⟩ := hbs b (List.mem_filter.mp hb).1
      exact ⟨s, g2⟩
    · refine q p _ _ (k45.upd np) (none_of k45 np) upd_same (OnlyT.tk ((TK.refl _).new np) (onlyT_ofS (M := fun s => HasE es1 s) (N := fun s => LFol rs2 s) hbs (fun s hs => ?_) (by rw [List.map_map]; exact nd1) (by rw [List.length_map]; omega) f1 f2 fun s _ => Iff.rfl))
      obtain ⟨e, he, g⟩ := hs
      exact ⟨(e.2.1, e.1), List.mem_map.mpr ⟨e, he, rfl⟩, g⟩
theorem onlyT_at {K : PySem.W.Frag} {H : Hp} {rs rs2 : List Rw} {ts us : List Tx} (few : ∀ r ∈ rs, r.few) (h : OnlyT K H rs rs2 ts) (h' : OnlyT K H rs rs2 us) {p q : Addr} (e1 : H p = some (.lst (ts.map fun b => V.ref b.1))) (e2 : H q = some (.lst (us.map fun b => V.ref b.1))) : At K H 2 (.ref p) (.ref q) := by
  refine .inr ⟨p, q, _, _, rfl, rfl, .inr ⟨e1, e2⟩, ?_, at_lists (onlyT_eq few h h') (fun b hb => ?_) (fun b hb => ?_)⟩
  · rw [List.length_map]
    exact Nat.le_trans h.len (by decide)
  · obtain ⟨s, _, a, b⟩ := h.at_ b hb
    exact ⟨s, a, b⟩
  · obtain ⟨s, _, a, b⟩ := h'.at_ b hb
    exact ⟨s, a, b⟩
structure TurnAt (K : PySem.W.Frag) (T : List Addr) (H : Hp) (p a : Addr) (ns : List Int) (q3 q4 : Addr) (rs ro : List Rw) : Prop where
  S : StAt K H p a ns
  T : ∀ P ∈ T, TabG H P
  t3 : TextAt H q3 rs
  t4 : TextAt H q4 ro
  f3 : ∀ r ∈ rs, r.few
  f4 : ∀ r ∈ ro, r.few
  l3 : rs.length ≤ 12
  l4 : ro.length ≤ 20
theorem TurnAt.kp {K : PySem.W.Frag} {T : List Addr} {H H' : Hp} {p a : Addr} {ns : List Int} {q3 q4 : Addr} {rs ro : List Rw} (k : Kp T H H') (h : TurnAt K T H p a ns q3 q4 rs ro) : TurnAt K T H' p a ns q3 q4 rs ro :=
  ⟨h.S.kp (T := T) h.T k, k.tab, h.t3.kp h.T k, h.t4.kp h.T k, h.f3, h.f4, h.l3, h.l4⟩
structure DueAt (K : PySem.W.Frag) (P : Program) (w : World) (H : Hp) (d1 du D1 D2 : Addr) (es1 : List Ent) (ts us : List Tx) (rs ro : List Rw) : Prop where
  e1 : H d1 = some (DicO P w d1 es1)
  s1 : SayEL K H rs es1
  du : H du = some (.tup [.ref D1, .ref D2])
  D1 : H D1 = some (.lst (ts.map fun b => V.ref b.1))
  D2 : H D2 = some (.lst (us.map fun b => V.ref b.1))
  o1 : OnlyT K H rs ro ts
  o2 : OnlyT K H ro rs us
theorem OnlyT.kp {K : PySem.W.Frag} {T : List Addr} {H H' : Hp} {rs rs2 : List Rw} {ts : List Tx} (ht : ∀ P ∈ T, TabG H P) (k : Kp T H H') (h : OnlyT K H rs rs2 ts) : OnlyT K H' rs rs2 ts :=
  ⟨fun b hb => let ⟨s, a, b, c⟩ := h.at_ b hb; ⟨s, a, b, sqT_kp ht k c⟩, h.all_, h.nd, h.srt, h.len⟩
theorem DueAt.kp {K : PySem.W.Frag} {P : Program} {w : World} {T : List Addr} {H H' : Hp} {d1 du D1 D2 : Addr} {es1 : List Ent} {ts us : List Tx} {rs ro : List Rw} (ht : ∀ P ∈ T, TabG H P) (k : Kp T H H') (h : DueAt K P w H d1 du D1 D2 es1 ts us rs ro) : DueAt K P w H' d1 du D1 D2 es1 ts us rs ro :=
  ⟨k.obj ht h.e1 (by intro ps q; unfold DicO at q; cases q), fun e he => let ⟨s, a, b, c⟩ := h.s1 e he; ⟨s, a, b, sqT_kp ht k c⟩, k.obj ht h.du, k.obj ht h.D1, k.obj ht h.D2, h.o1.kp ht k, h.o2.kp ht k⟩
end Ah
end
section
set_option Elab.async false
set_option linter.all false
set_option maxRecDepth 100000
set_option maxHeartbeats 8000000
namespace Ah
open PySem PySem.Spec PyProof.Rows L2
open GxR (TabB TabG Tabbed)
theorem scLaw : FnScope ["_law_script", "_law_row_here", "_law_turn", "_law_rows", "_law_other", "_law_one_here", "_law_two", "_law_due", "_law_x", "_law_again", "_law_told", "_law_k", "_law_rest"] ["_law_script"] (defScope lLaw) := ⟨rfl, rfl, rfl, by decide +kernel, rfl, by decide +kernel, by decide +kernel⟩
def spLaw (K : PySem.W.Frag) (T : List Addr) : Sp := fun vs H Q _ => ∃ (a : Addr) (ns : List Int), vs = [.ref a] ∧ SqL K H a (ns.map V.int) ∧ ns.length ≤ 63 ∧ (∀ P ∈ T, TabG H P) ∧ ∀ H', Q (.bl true) H'
abbrev lawN : List Str := ["_law_script", "_law_row_here", "_law_turn", "_law_rows", "_law_other", "_law_one_here", "_law_two", "_law_due", "_law_x", "_law_again", "_law_told", "_law_k", "_law_rest"]
theorem fol_one {rs : List Rw} {s : Say} (P : Prop) (h : P) : P := h
section
variable {P : Program} {w : World} {K : PySem.W.Frag} {mg : Str → Option Value} {base : Heap} {f f1 f2 f3 f4 f5 f6 f7 : Addr} {fd fd1 fd2 fd3 fd4 fd5 fd6 fd7 : FuncData} {T : List Addr}
theorem ok_law (F : FnP K "law" lLaw f fd) (B : Bl mg) (c__law_row : Own P w K mg base "_law_row" 1 f1 fd1 ["_law_script"] (spLRow K)) (c__law_text : Own P w K mg base "_law_text" 3 f2 fd2 ["_law_row_here", "_law_many"] (spText K))
    (c__law_taken : Own P w K mg base "_law_taken" 1 f3 fd3 ["_law_row_here", "_law_many"] (spTaken K)) (c__law_follow : Own P w K mg base "_law_follow" 2 f4 fd4 ["_law_rows", "_law_more"] (spFollowL K P w))
    (c_parted : Own P w K mg base "parted" 9 f5 fd5 ["rows", "other"] (spParted K T)) (c_hanging : Own P w K mg base "hanging" 9 f7 fd7 ["rows", "number"] (spHang K T)) (c_alike4 : Own P w K mg base "_law_alike" 4 f6 fd6 ["_law_found", "_law_due"] (spAlike K 4))
    (c_alike3 : Own P w K mg base "_law_alike" 3 f6 fd6 ["_law_found", "_law_due"] (spAlike K 3)) :
    FnOk P w K mg base CX0 10 f fd ["_law_script"] (spLaw K T) := by
  refine F.ok scLaw (fun vs H Q E h => ?_) (fun cdv A outer s H vs Q E hr h => ?_)
  · obtain ⟨a, ns, rfl, _⟩ := h
    rfl
  · obtain ⟨a, ns, rfl, hs, hl, ht, k⟩ := h
    have hu : A.units + 3 + 1 < cLine := by have := hr.units; exact (by have h2 : (A.deeper (envOfC "law" (defScope lLaw) s.heap.objs.size f cdv)).units = A.units + 3 := rfl; omega)
    refine ⟨_, PSs.nox (pss_cons (ps_set (i := 1) scLaw.nd rfl (.inl rfl) (pe_call c__law_row.ok (hr.mono (by decide)) (by rfl) c__law_row.g c__law_row.kp c__law_row.b .nil pass0 (pa_cons (pv 0) pa_nil)))
      (pss_cons (ps_for PassesOwn.never rfl (pi_range1 (by rfl) B.range_ (pa_cons pe_int pa_nil)) (pg_name (i := 2) scLaw.nd rfl (Or.inl rfl))
      (pss_cons (ps_par (by rfl) scLaw.nd (i := 3) (j := 4) rfl rfl (by decide) rfl rfl (pa_cons (pe_call c__law_text.ok (hr.mono (by decide)) (by rfl) c__law_text.g c__law_text.kp c__law_text.b .nil pass0 (pa_cons (pv 1) (pa_cons pe_int pa_nil))) (pa_cons (pe_call c__law_text.ok (hr.mono (by decide)) (by rfl) c__law_text.g c__law_text.kp c__law_text.b .nil pass0 (pa_cons (pv 1) (pa_cons pe_int pa_nil))) pa_nil)) (by rfl))
      (Evl.pss_cut (ps_if (pt_cmpR op_eq (pe_call c__law_taken.ok (hr.mono (by decide)) (by rfl) c__law_taken.g c__law_taken.kp c__law_taken.b .nil pass0 (pa_cons (pv 1) (pa_cons pe_int pa_nil))) pe_int (nomark _)) (pss_one (ps_set (i := 4) scLaw.nd rfl (.inl rfl) (pe_op (show OpR _ _ (rCatA K) from op_catA) (pe_slice (show SlR _ (rSlA K) from sl_tupA) (pv 3) po_none (po_some (pe_call c__law_taken.ok (hr.mono (by decide)) (by rfl) c__law_taken.g c__law_taken.kp c__law_taken.b .nil pass0 (pa_cons (pv 1) (pa_cons (pe_op op_add (pe_callB call_len_seq (by rfl) B.len_ (by decide +kernel) (pa_cons (pv 3) pa_nil)) pe_int) pa_nil))))) (pe_slice (show SlR _ (rSlA K) from sl_tupA) (pv 4) po_none (po_some pe_int))))) pss_nil)
      (pss_cons (ps_asg (pe_tup (pa_cons (pe_call c__law_follow.ok (hr.mono (by decide)) (by rfl) c__law_follow.g c__law_follow.kp c__law_follow.b .nil pass0 (pa_cons (pv 3) (pa_cons (pe_tup pa_nil) pa_nil))) (pa_cons (pe_call c__law_follow.ok (hr.mono (by decide)) (by rfl) c__law_follow.g c__law_follow.kp c__law_follow.b .nil pass0 (pa_cons (pv 4) (pa_cons (pe_tup pa_nil) pa_nil))) pa_nil))) (pg_tup rfl (pgs_cons (pg_name (i := 5) scLaw.nd rfl (.inr rfl)) (pgs_cons (pg_name (i := 6) scLaw.nd rfl (.inr rfl)) pgs_nil))))
      (Evl.pss_cut (ps_set (i := 7) scLaw.nd rfl (.inl rfl) (pe_tup (pa_cons (pe_callB (show CallR _ _ (rSrt K) from cr_sortT hr.units) (by rfl) B.sorted_ (by decide +kernel) (pa_cons (pe_lock (pe_lc (own := [("_law_x", 8)]) rfl scLaw.nd (pi_dic (pv 5)) (blkOk_by (N := lawN) (sc := defScope lLaw) (by decide +kernel)) (fun _ _ _ _ _ => (pg_name (i := 8) scLaw.nd rfl (Or.inl rfl))) (fun _ _ _ _ _ => (pts_one (pt_cmpR (show OpR _ _ (rDicInK K P w true) from op_notIn_dic hu) (pv 8) (pv 6) (by rfl)))) (fun _ _ _ _ _ => (pv 8)))) pa_nil)) (pa_cons (pe_callB (show CallR _ _ (rSrt K) from cr_sortT hr.units) (by rfl) B.sorted_ (by decide +kernel) (pa_cons (pe_lock (pe_lc (own := [("_law_x", 8)]) rfl scLaw.nd (pi_dic (pv 6)) (blkOk_by (N := lawN) (sc := defScope lLaw) (by decide +kernel)) (fun _ _ _ _ _ => (pg_name (i := 8) scLaw.nd rfl (Or.inl rfl))) (fun _ _ _ _ _ => (pts_one (pt_cmpR (show OpR _ _ (rDicInK K P w true) from op_notIn_dic hu) (pv 8) (pv 5) (by rfl)))) (fun _ _ _ _ _ => (pv 8)))) pa_nil)) pa_nil))))
      (Evl.pss_cut (ps_for PassesOwn.never rfl (pi_range1 (by rfl) B.range_ (pa_cons pe_int pa_nil)) (pg_name (i := 9) scLaw.nd rfl (Or.inl rfl))
      (pss_cons (ps_set (i := 10) scLaw.nd rfl (.inl rfl) (pe_call c_parted.ok (hr.mono (by decide)) (by rfl) c_parted.g c_parted.kp c_parted.b .nil pass0 (pa_cons (pv 3) (pa_cons (pv 4) pa_nil))))
      (pss_cons (ps_if (pt_not (pt_val (pe_call c_alike4.ok (hr.mono (by decide)) (by rfl) c_alike4.g c_alike4.kp c_alike4.b .nil pass0 (pa_cons (pv 10) (pa_cons (pv 7) pa_nil))))) (pss_one (ps_ret pe_bl)) pss_nil)
      (pss_one (ps_expr (pe_bm PySem.F.plainAttrs_list PySem.F.slot_list_append PySem.F.type_list_append mt_append (pe_ix (show IxR _ (rIxT K) from ix_tup) (pv 10) pe_int (fun _ _ => rfl)) (pa_cons (pe_tup pa_nil) pa_nil)))))))
      (pss_one (ps_for PassesOwn.never rfl (pi_range1 (by rfl) B.range_ (pa_cons (pe_callB call_len_seq (by rfl) B.len_ (by decide +kernel) (pa_cons (pv 3) pa_nil)) pa_nil)) (pg_name (i := 11) scLaw.nd rfl (Or.inl rfl))
      (pss_cons (ps_set (i := 12) scLaw.nd rfl (.inr rfl) (pe_call c__law_follow.ok (hr.mono (by decide)) (by rfl) c__law_follow.g c__law_follow.kp c__law_follow.b .nil pass0 (pa_cons (pe_op (show OpR _ _ (rCatA K) from op_catA) (pe_slice (show SlR _ (rSlA K) from sl_tupA) (pv 3) po_none (po_some (pv 11))) (pe_slice (show SlR _ (rSlA K) from sl_tupA) (pv 3) (po_some (pe_op op_add (pv 11) pe_int)) po_none)) (pa_cons (pe_tup pa_nil) pa_nil))))
      (pss_cons (ps_set (i := 10) scLaw.nd rfl (.inl rfl) (pe_call c_hanging.ok (hr.mono (by decide)) (by rfl) c_hanging.g c_hanging.kp c_hanging.b .nil pass0 (pa_cons (pv 3) (pa_cons (pv 11) pa_nil))))
      (pss_one (ps_if (pt_not (pt_val (pe_call c_alike3.ok (hr.mono (by decide)) (by rfl) c_alike3.g c_alike3.kp c_alike3.b .nil pass0 (pa_cons (pv 10) (pa_cons (pe_callB (show CallR _ _ (rSrt K) from cr_sortT hr.units) (by rfl) B.sorted_ (by decide +kernel) (pa_cons (pe_lock (pe_lc (own := [("_law_x", 8)]) rfl scLaw.nd (pi_dic (pv 5)) (blkOk_by (N := lawN) (sc := defScope lLaw) (by decide +kernel)) (fun _ _ _ _ _ => (pg_name (i := 8) scLaw.nd rfl (Or.inl rfl))) (fun _ _ _ _ _ => (pts_one (pt_cmpR (show OpR _ _ (rDicInK K P w true) from op_notIn_dic hu) (pv 8) (pv 12) (by rfl)))) (fun _ _ _ _ _ => (pv 8)))) pa_nil)) pa_nil))))) (pss_one (ps_ret pe_bl)) pss_nil))))))))))))
      (pss_one (ps_ret pe_bl)))), ?_⟩
    refine ⟨_, rfl, a, ns, rfl, hs, hl, fun p m np => ?_⟩
    have S0 : StAt K (L2.upd H p (.lst [.ref a, .int 0, .int 0, .int m])) p a ns := by
      refine ⟨0, 0, m, upd_same, Int.le_refl _, Int.le_refl _, ?_⟩
      rcases hs with (h | ⟨o, h⟩) | h
      · exact .inl (.inl (by rw [upd_ne (ne_of_none h np)]; exact h))
      · exact .inl (.inr ⟨o, by rw [upd_ne (ne_of_none h np)]; exact h⟩)
      · exact .inr h
    have ht0 : ∀ P ∈ T, TabG (L2.upd H p (.lst [.ref a, .int 0, .int 0, .int m])) P := TabG.keptM (M := []) ((Kept.refl H).upd np) (fun b hb => absurd hb (by simp)) ht
    refine ⟨3, rfl, by omega, by omega, for_it (walk_range (lo := 0) (n := 3)) (fun i σ Ha => (∃ v2 v3 v4 v5 v6 v7 v8 v9 v10 v11 v12, σ = [some (.ref a), some (.ref p), v2, v3, v4, v5, v6, v7, v8, v9, v10, v11, v12]) ∧ StAt K Ha p a ns ∧ ∀ P ∈ T, TabG Ha P)
      ⟨⟨_, _, _, _, _, _, _, _, _, _, _, rfl⟩, S0, ht0⟩ (fun _ _ _ _ _ => trivial) ?_ ?_⟩
    rotate_left
    · rintro σ Ha ⟨⟨v2, v3, v4, v5, v6, v7, v8, v9, v10, v11, v12, rfl⟩, _⟩
      exact k Ha
    · clear S0 ht0 np hs ht
      rintro i x σ Ha0 Ha hi ⟨⟨v2, v3, v4, v5, v6, v7, v8, v9, v10, v11, v12, rfl⟩, S, hT⟩ ⟨rfl, rfl⟩
      have keptL : ∀ {H1 H2 : Hp}, StAt K H1 p a ns → Kept [p] H1 H2 → TK H1 H2 ∧ ((∀ P ∈ T, TabG H1 P) → ∀ P ∈ T, TabG H2 P) := fun {H1 H2} S k => by
        have hM : ∀ b ∈ [p], ∃ xs, H1 b = some (.lst xs) := fun b hb => by rw [List.mem_singleton.mp hb]; exact S.ob
        exact ⟨TK.ofM k hM, fun h => TabG.keptM k hM h⟩
      refine ⟨_, rfl, p, a, ns, 12, rfl, S, by omega, by omega, fun q3 rs H1 few3 len3 S1 k1 tx3 => ?_⟩
      obtain ⟨tk1, kt1⟩ := keptL S k1
      have hT1 := kt1 hT
      refine ⟨_, rfl, p, a, ns, 8, rfl, S1, by omega, by omega, fun q4 ro H2 few4 len4 S2 k2 tx4 => ?_⟩
      obtain ⟨tk2, kt2⟩ := keptL S1 k2
      have hT2 := kt2 hT1
      refine ⟨_, _, rfl, ?_⟩
      -- the other text, from the first one
      refine ⟨fun σ' H' => ∃ q4' ro', (∃ u2 v5 v6 v7 v8 v9 v10 v11 v12, σ' = [some (.ref a), some (.ref p), u2, some (.ref q3), some (.ref q4'), v5, v6, v7, v8, v9, v10, v11, v12]) ∧ TurnAt K T H' p a ns q3 q4' rs ro', ?_, ?_⟩
      · refine ⟨_, rfl, p, a, ns, 2, rfl, S2, by omega, by omega, fun n H3 h0 h1 S3 k3 => ?_⟩
        obtain ⟨tk3, kt3⟩ := keptL S2 k3
        have t3 := (tx3.kept (M := []) tk2).kept (M := []) tk3
        have t4 := tx4.kept (M := []) tk3
        refine ⟨rfl, _, rfl, ?_⟩
        refine if_dec (fun e => ?_) (fun e => ?_)
        · obtain ⟨ps, hq, hps⟩ := id t3
          refine ⟨_, rfl, _, rfl, _, rfl, q3, _, rfl, .inr (.of hq), ?_⟩
          refine ⟨_, _, rfl, rfl, p, a, ns, _, rfl, S3, by omega, by rw [List.length_map, hps.length]; omega, fun n2 H4 g0 g1 S4 k4 => ?_⟩
          obtain ⟨tk4, kt4⟩ := keptL S3 k4
          refine ⟨n2, rfl, ?_⟩
          refine slA_text (t3.kept (M := []) tk4) fun q5 H5 k5 tx5 => ?_
          have tk5 := TK.of k5
          have hT5 := (Kp.of (kt4 (kt3 hT2)) k5).tab
          refine ⟨_, rfl, ?_⟩
          refine ⟨(2 : Int), rfl, ?_⟩
          refine slA_text ((t4.kept (M := []) tk4).kept (M := []) tk5) fun q6 H6 k6 tx6 => ?_
          have l5 : (cutL rs none (some n2)).length ≤ rs.length := by
            unfold cutL
            rw [List.length_take, List.length_drop]
            omega
          have l6 : (cutL ro none (some 2)).length ≤ ro.length := by
            unfold cutL
            rw [List.length_take, List.length_drop]
            omega
          refine catA_text (tx5.kept (M := []) (TK.of k6)) tx6 (by omega) fun q7 H7 k7 tx7 => ?_
          have k67 := k6.trans k7
          have kp7 := Kp.of hT5 k67
          refine ⟨q7, _, ⟨_, _, _, _, _, _, _, _, _, rfl⟩, ⟨(S4.kp (T := T) (kt4 (kt3 hT2)) (Kp.of (kt4 (kt3 hT2)) (k5.trans k67))), kp7.tab, (((t3.kept (M := []) tk4).kept (M := []) tk5).kept (M := []) (TK.of k67)), tx7, few3, fun r hr => ?_, by omega, by rw [List.length_append]; omega⟩⟩
          unfold cutL at hr
          rcases List.mem_append.mp hr with z | z
          · exact few3 r (List.mem_of_mem_drop (List.mem_of_mem_take z))
          · exact few4 r (List.mem_of_mem_drop (List.mem_of_mem_take z))
        · exact ⟨q4, ro, ⟨_, _, _, _, _, _, _, _, _, rfl⟩, ⟨S3, kt3 hT2, t3, t4, few3, few4, by omega, by omega⟩⟩
      · clear S S1 S2 hT hT1 hT2 tx3 tx4 k1 k2 tk1 tk2 kt1 kt2 few3 few4 len3 len4 H1 H2 v2 v3 v4 v5 v6 v7 v8 v9 v10 v11 v12 q4 ro
        rintro σ Hb ⟨q4, ro, ⟨u2, v5, v6, v7, v8, v9, v10, v11, v12, rfl⟩, W⟩
        -- what follows from both
        refine ⟨_, rfl, Nat.zero_le _, fun t0 nt0 => ?_⟩
        have W1 := W.kp (Kp.of W.T ((Kept.refl Hb).upd (o := .tup []) nt0))
        refine ⟨q3, t0, rs, rfl, W1.t3, .inl (.of upd_same), W.f3, by have := W.l3; omega, fun d1 H5 es1 k5 n5 e5 se5 hes5 nd5 l5 => ?_⟩
        have W5 := W1.kp (Kp.of W1.T k5)
        refine ⟨_, rfl, Nat.zero_le _, fun t1 nt1 => ?_⟩
        have k51 : Kept [] H5 (L2.upd H5 t1 (.tup [])) := (Kept.refl H5).upd nt1
        have W51 := W5.kp (Kp.of W5.T k51)
        refine ⟨q4, t1, ro, rfl, W51.t4, .inl (.of upd_same), W.f4, W.l4, fun d2 H6 es2 k6 n6 e6 se6 hes6 nd6 l6 => ?_⟩
        have W6 := W51.kp (Kp.of W51.T k6)
        have k56 := k51.trans k6
        have e56 : H6 d1 = some (DicO P w d1 es1) := k56 _ _ e5 (by simp)
        have ne12 : d1 ≠ d2 := fun h => by
          have := k51 _ _ e5 (by simp)
          rw [h, n6] at this
          cases this
        have s56 : SayEL K H6 rs es1 := se5.tk (.of k56)
        refine ⟨(by show 2 ≤ sizeLine; decide), fun Tp nTp => ⟨Tp, _, rfl, .inl (.of upd_same), rfl, ?_⟩⟩
        refine ⟨_, _, rfl, _, _, rfl, rfl, ?_⟩
        have k7 : Kept [] H6 (L2.upd H6 Tp (.tup [V.ref d1, V.ref d2])) := (Kept.refl H6).upd nTp
        have W7 := W6.kp (Kp.of W6.T k7)
        have e71 : (L2.upd H6 Tp (.tup [V.ref d1, V.ref d2])) d1 = some (DicO P w d1 es1) := k7 _ _ e56 (by simp)
        have e72 : (L2.upd H6 Tp (.tup [V.ref d1, V.ref d2])) d2 = some (DicO P w d2 es2) := k7 _ _ e6 (by simp)
        have s71 := s56.tk (.of k7)
        have s72 := se6.tk (.of k7)
        generalize L2.upd H6 Tp (.tup [V.ref d1, V.ref d2]) = Hc at W7 e71 e72 s71 s72
        clear k7 nTp s56 e56 k56 W6 W51 W5 W1 W k51 nt1 nt0 n5 n6 k5 k6 e5 e6 se5 se6 H5 H6 t0 t1 Tp Hb
        -- what is due
        refine ⟨fun σ' H' => ∃ du D1 D2 ts us, (∃ u2 v8 v9 v10 v11 v12, σ' = [some (.ref a), some (.ref p), u2, some (.ref q3), some (.ref q4), some (.ref d1), some (.ref d2), some (.ref du), v8, v9, v10, v11, v12]) ∧ TurnAt K T H' p a ns q3 q4 rs ro ∧ DueAt K P w H' d1 du D1 D2 es1 ts us rs ro, ?_, ?_⟩
        · refine rd_sortKeep (es1 := es1) (es2 := es2) (rs := rs) (rs2 := ro) (d1 := d1) (d2 := d2) rfl (fun _ => rfl) (fun _ => rfl) (fun _ => rfl) ne12 e71 e72 s71 s72 hes5 hes6 nd5 l5 fun D1 H8 ts k8 n8 e8 o8 => ?_
          refine rd_sortKeep (es1 := es2) (es2 := es1) (rs := ro) (rs2 := rs) (d1 := d2) (d2 := d1) rfl (fun _ => rfl) (fun _ => rfl) (fun _ => rfl) (Ne.symm ne12) (k8 _ _ e72 (by simp)) (k8 _ _ e71 (by simp)) (s72.tk (.of k8)) (s71.tk (.of k8)) hes6 hes5 nd6 l6 fun D2 H9 us k9 n9 e9 o9 => ?_
          refine ⟨(by show 2 ≤ sizeLine; decide), fun du ndu => ?_⟩
          have k10 : Kept [] H9 (L2.upd H9 du (.tup [V.ref D1, V.ref D2])) := (Kept.refl H9).upd ndu
          have k810 := (k8.trans k9).trans k10
          have k910 := k9.trans k10
          exact ⟨du, D1, D2, ts, us, ⟨_, _, _, _, _, _, rfl⟩, W7.kp (Kp.of W7.T k810), ⟨k810 _ _ e71 (by simp), s71.tk (.of k810), upd_same, k910 _ _ e8 (by simp), k10 _ _ e9 (by simp), o8.tk (.of k910), o9.tk (.of k10)⟩⟩
        · clear W7 e71 e72 s71 s72 ne12 nd6 l6 hes6 Hc u2 v7 v8 v9 v10 v11 v12
          rintro σ Hc ⟨du, D1, D2, ts, us, ⟨u2, v8, v9, v10, v11, v12, rfl⟩, W, Dd⟩
          -- parted
          refine ⟨fun σ' H' => (∃ u2 v8 v9 v10 v11 v12, σ' = [some (.ref a), some (.ref p), u2, some (.ref q3), some (.ref q4), some (.ref d1), some (.ref d2), some (.ref du), v8, v9, v10, v11, v12]) ∧ TurnAt K T H' p a ns q3 q4 rs ro ∧ DueAt K P w H' d1 du D1 D2 es1 ts us rs ro, ?_, ?_⟩
          · refine rd_for2 (fun j σ Hd => (∃ u2 v8 v9 v10 v11 v12, σ = [some (.ref a), some (.ref p), u2, some (.ref q3), some (.ref q4), some (.ref d1), some (.ref d2), some (.ref du), v8, v9, v10, v11, v12]) ∧ TurnAt K T Hd p a ns q3 q4 rs ro ∧ DueAt K P w Hd d1 du D1 D2 es1 ts us rs ro)
              ⟨⟨_, _, _, _, _, _, rfl⟩, W, Dd⟩ ?_ (fun σ H h => h)
            clear W Dd Hc u2 v8 v9 v10 v11 v12
            rintro j x σ Hd0 Hd hj ⟨⟨u2, v8, v9, v10, v11, v12, rfl⟩, W, Dd⟩ ⟨rfl, rfl⟩
            refine ⟨_, rfl, _, rfl, q3, q4, rs, ro, rfl, W.t3, W.t4, W.f3, W.f4, by have := W.l3; omega, W.l4, W.T, fun pt p1 p2 ts' us' H7 kp7 np1 ept ep1 ep2 ot ou => ?_⟩
            have D7 := Dd.kp W.T kp7
            have W7 := W.kp kp7
            refine ⟨_, rfl, _, rfl, _, _, rfl, .inr ⟨pt, du, _, _, rfl, rfl, .inl ⟨.inl (.of ept), .inl (.of D7.du)⟩, (by show 2 ≤ 1000000; decide), .cons (onlyT_at W.f3 ot D7.o1 ep1 D7.D1) (.cons (onlyT_at W.f4 ou D7.o2 ep2 D7.D2) .nil)⟩, fun H8 k8 => ?_⟩
            refine ⟨_, rfl, iteF ?_⟩
            have ept8 := k8 _ _ ept (by simp)
            have ep18 := k8 _ _ ep1 (by simp)
            refine ⟨_, rfl, pt, _, 0, _, rfl, rfl, .inl (.of ept8), at_of (j := 0) rfl rfl, .inl ⟨rfl, _, .inl (.inl ep18)⟩, Nat.zero_le _, fun tz ntz => ?_⟩
            have nz : tz ≠ p1 := fun h => by
              rw [h, ep18] at ntz
              cases ntz
            refine ⟨p1, _, _, rfl, rfl, by rw [upd_ne (Ne.symm nz)]; exact ep18, ?_, ?_⟩
            · rw [List.length_map]
              exact Nat.lt_of_le_of_lt ot.len (by decide)
            · have kp8 := (kp7.trans (Kp.of kp7.tab k8)).trans (Kp.of (Kp.of kp7.tab k8).tab ((Kept.refl H8).upd (o := .tup []) ntz))
              have kp9 := Kp.mut (o := .lst (ts'.map (fun b => V.ref b.1) ++ [V.ref tz])) W.T kp8 np1
              exact ⟨⟨_, _, _, _, _, _, rfl⟩, W.kp kp9, Dd.kp W.T kp9⟩
          · clear W Dd Hc u2 v8 v9 v10 v11 v12
            rintro σ Hc ⟨⟨u2, v8, v9, v10, v11, v12, rfl⟩, W, Dd⟩
            -- hanging
            obtain ⟨ps, hq, hps⟩ := id W.t3
            refine ⟨_, rfl, q3, _, rfl, .inr (.of hq), _, rfl, by omega, by rw [List.length_map, hps.length]; have := W.l3; omega, ?_⟩
            rw [Int.toNat_natCast, List.length_map, hps.length]
            clear hq hps ps
            refine for_it (walk_range (lo := 0) (n := rs.length)) (fun j σ Hd => (∃ u2 v8 v9 v10 v11 v12, σ = [some (.ref a), some (.ref p), u2, some (.ref q3), some (.ref q4), some (.ref d1), some (.ref d2), some (.ref du), v8, v9, v10, v11, v12]) ∧ TurnAt K T Hd p a ns q3 q4 rs ro ∧ DueAt K P w Hd d1 du D1 D2 es1 ts us rs ro)
              ⟨⟨_, _, _, _, _, _, rfl⟩, W, Dd⟩ (fun _ _ _ _ _ => trivial) ?_ (fun σ H h => ?_)
            · clear W Dd Hc u2 v8 v9 v10 v11 v12
              rintro j x σ Hd0 Hd hj ⟨⟨u2, v8, v9, v10, v11, v12, rfl⟩, W, Dd⟩ ⟨rfl, ex⟩
              have ex2 : x = V.int (j : Int) := by
                rw [ex]
                show V.int (0 + (j : Int)) = _
                rw [Int.zero_add]
              clear ex
              subst ex2
              refine ⟨_, rfl, _, rfl, (j : Int), rfl, ?_⟩
              refine slA_text W.t3 fun q5 H5 k5 tx5 => ?_
              have W5 := W.kp (Kp.of W.T k5)
              refine ⟨_, rfl, _, rfl, _, _, rfl, rfl, ((j + 1 : Nat) : Int), rfl, ?_⟩
              dsimp only
              unfold tNoPart
              dsimp only
              refine slA_text W5.t3 fun q6 H6 k6 tx6 => ?_
              have W6 := W5.kp (Kp.of W5.T k6)
              rw [cutL_take] at tx5
              rw [cutL_drop] at tx6
              have lt : (rs.take j ++ rs.drop (j + 1)).length ≤ 12 := by
                have := W.l3
                rw [List.length_append, List.length_take, List.length_drop]
                omega
              have ft : ∀ r ∈ rs.take j ++ rs.drop (j + 1), r.few := fun r hr => by
                rcases List.mem_append.mp hr with z | z
                · exact W.f3 r (List.mem_of_mem_take z)
                · exact W.f3 r (List.mem_of_mem_drop z)
              refine catA_text (tx5.kept (M := []) (TK.of k6)) tx6 (by rw [← List.length_append]; omega) fun q7 H7 k7 tx7 => ?_
              have W7 := W6.kp (Kp.of W6.T k7)
              refine ⟨Nat.zero_le _, fun t0 nt0 => ?_⟩
              have k70 : Kept [] H7 (L2.upd H7 t0 (.tup [])) := (Kept.refl H7).upd nt0
              refine ⟨q7, t0, _, rfl, tx7.kept (M := []) (TK.of k70), .inl (.of upd_same), ft, by omega, fun d3 H8 es3 k8 n8 e8 se8 hes8 nd8 l8 => ?_⟩
              have k58 := (((k5.trans k6).trans k7).trans k70).trans k8
              have kp58 := Kp.of W.T k58
              have W8 := W.kp kp58
              have D8 := Dd.kp W.T kp58
              have ne13 : d1 ≠ d3 := fun h => by
                have := (((k5.trans k6).trans k7).trans k70) _ _ Dd.e1 (by simp)
                rw [h, n8] at this
                cases this
              refine ⟨_, rfl, _, rfl, q3, rs, j, rfl, W8.t3, W.f3, by have := W.l3; omega, hj, W8.T, fun pt ts' H9 kp9 npt ept ot => ?_⟩
              have W9 := W8.kp kp9
              have D9 := D8.kp W8.T kp9
              have e39 : H9 d3 = some (DicO P w d3 es3) := kp9.obj W8.T e8 (by intro ps q; unfold DicO at q; cases q)
              have se9 : SayEL K H9 (rs.take j ++ rs.drop (j + 1)) es3 := fun e he => let ⟨s, a, b, c⟩ := se8 e he; ⟨s, a, b, sqT_kp W8.T kp9 c⟩
              refine ⟨_, rfl, ?_⟩
              refine rd_sortKeep (es1 := es1) (es2 := es3) (rs := rs) (rs2 := rs.take j ++ rs.drop (j + 1)) (d1 := d1) (d2 := d3) rfl (fun _ => rfl) (fun _ => rfl) (fun _ => rfl) ne13 D9.e1 e39 D9.s1 se9 hes5 hes8 nd5 l5 fun D3 H10 us' k10 n10 e10 o10 => ?_
              have kp10 := Kp.of W9.T k10
              refine ⟨_, _, rfl, onlyT_at W.f3 (ot.tk (.of k10)) o10 (k10 _ _ ept (by simp)) e10, fun H11 k11 => ?_⟩
              have kp11 := kp10.trans (Kp.of kp10.tab k11)
              exact ⟨_, rfl, iteF ⟨⟨_, _, _, _, _, _, rfl⟩, W9.kp kp11, D9.kp W9.T kp11⟩⟩
            · obtain ⟨⟨u2, v8, v9, v10, v11, v12, rfl⟩, W, _⟩ := h
              exact ⟨⟨_, _, _, _, _, _, _, _, _, _, _, rfl⟩, W.S, W.T⟩
end
end Ah
end
section
set_option Elab.async false
set_option linter.all false
set_option maxRecDepth 100000
set_option maxHeartbeats 0
namespace Ah
open PySem PySem.Spec PyProof.Rows L2
/-! ### the head -/
def dF (x : Str) (st : Stmt) : He.DefD := ⟨(x, none), x, x, defArgs st, defBody st, defScope st, [], []⟩
def dM (c x q : Str) (st : Stmt) : He.DefD := ⟨(c, some x), x, q, defArgs st, defBody st, defScope st, [], []⟩
def fn0 : List He.DefD := [dF "places_of" sPlaces, dF "leads_from_kind" sLKind, dF "leads_on" sLOn, dF "leads_from_tie" sLTie, dF "leads_by" sLBy, dM "Rules" "__init__" "Rules.__init__" sRInit, dM "Rules" "leads" "Rules.leads" sRLeads, dM "Rules" "worked_out" "Rules.worked_out" sRWork, dF "all_results" sAll, dF "is_word" sIsWord, dF "is_row" sIsRow, dF "is_number" sIsNumber, dF "check_text" sCheck, dF "check_number" sCheckNumber, dF "told_of" sToldOf, dF "names_of" sNamesOf, dF "follows" sFollows, dF "results_of" sResultsOf, dF "left" sLeft, dF "hanging" sHanging]
def fn1 : List He.DefD := [dF "parted" sParted, dF "only_first" sOnlyFirst, dF "_law_row" lRow, dF "_law_taken" lTaken, dF "_law_one" lOne, dF "_law_text" lText, dF "_law_led" lLed, dF "_law_both" lBoth, dF "_law_follow" lFollow, dF "_law_alike" lAlike, dF "law" lLaw]
def fn : List He.DefD := fn0 ++ fn1
def fa0 : List He.Fa := [.glo "places_of", .glo "leads_from_kind", .glo "leads_on", .glo "leads_from_tie", .glo "leads_by", .glo "all_results", .glo "is_word", .glo "is_row", .glo "is_number", .glo "check_text", .glo "check_number", .glo "told_of", .glo "names_of", .glo "follows", .glo "results_of", .glo "left", .glo "hanging", .glo "parted", .glo "only_first", .glo "_law_row", .glo "_law_taken", .glo "_law_one", .glo "_law_text", .glo "_law_led", .glo "_law_both"]
def fa1 : List He.Fa := [.glo "_law_follow", .glo "_law_alike", .glo "law", .free "isinstance", .free "len", .free "tuple", .free "list", .free "str", .free "bool", .free "range", .free "enumerate", .free "sorted", .free "zip", .free "dict", .free "all", .free "int", .glo "FORMS", .glo "BARRED", .glo "CLASH", .glo "Rules", .int "LONGEST_WORD" 6, .int "MOST_ROWS" 24, .str "LETTERS" letters, .cls "Rules", .noat "Rules" "rows"]
def fa2 : List He.Fa := [.noat "Rules" "names", .noat "Rules" "known", .meth "Rules" "leads", .meth "Rules" "worked_out", .mkr "Rules"]
def fa : List He.Fa := fa0 ++ fa1 ++ fa2
abbrev R : PySem.W.OpenRow := PySem.W.OpenLaw.row PySem.Challenge.rw_answerhouse_k12_what_hangs_on_a_row
def ts : List He.Tab := [(fun K => He.ga K "FORMS", formsL.map (·.1))]
def tf : List He.Defn := [("is_word", none), ("is_row", none)]
def tupK (K : PySem.W.Frag) (a : Addr) (ws : List Str) : Bool := match K.lookup a with
  | some ⟨.type c, _, .seq its _, _⟩ => decide (c = "tuple") && (decide (its.size ≤ 1000) && He.relAll (ws.map V.str) its.toList)
  | _ => false
def formsB (K : PySem.W.Frag) : Bool := formsL.all fun q => match PySem.W.nsIn K (He.ga K "FORMS") q.1 with
  | some (some (.ref a)) => tupK K a q.2
  | _ => false
def exB (K : PySem.W.Frag) : Bool := formsB K && (tupK K (He.ga K "BARRED") barred && tupK K (He.ga K "CLASH") (Say.clash).ws)
abbrev hk : PySem.W.Hook := He.hookX 5 fa fn ts tf exB
def ob (s : PySem.W.SharedT) : He.AlX := He.obsX 5 fa fn ts tf exB (HandSHeadRun.getT s)
theorem ob_eq (s : PySem.W.SharedT) : ob s = hk.obs s.abs := He.obsX_eq (HandSHeadRun.getT_eq s)
def loose0 : List Str := ["CLASH", "places_of", "leads_from_kind", "leads_on", "leads_from_tie", "leads_by", "Rules", "all_results", "AnswerError", "BadRow", "NoRow", "MOST_ROWS", "LONGEST_WORD", "LETTERS", "BARRED", "FORMS", "is_word", "is_row", "is_number", "check_text", "check_number", "told_of", "names_of", "follows", "results_of", "left", "hanging", "parted", "only_first", "_law_row"]
def loose1 : List Str := ["_law_taken", "_law_one", "_law_text", "_law_led", "_law_both", "_law_follow", "_law_alike"]
def loose : List Str := loose0 ++ loose1
theorem run2 (b : Bool) (w : World) : HandSHeadRun.RunEq R (PySem.W.view R.prog [43]) hk ob 6000 loose (w.withFollow "special-get-raises" b) := by
  intro os
  cases b <;> kernel_rfl
theorem run (w : World) : HandSHeadRun.RunEq R (PySem.W.view R.prog [43]) hk ob 6000 loose w := by
  have h := run2 (w.params.followText "special-get-raises") w
  rwa [World.withFollow_self] at h
end Ah
end
section
set_option Elab.async false
set_option linter.all false
set_option maxRecDepth 100000
set_option maxHeartbeats 4000000
namespace Ah
open PySem PySem.Spec PyProof.Rows L2
open GxR (TabB TabG Tabbed)
/-! ### what the head tells, for the defs -/
theorem tupK_ok {K : PySem.W.Frag} {a : Addr} {ws : List Str} (h : tupK K a ws = true) (H : Hp) : SqT K H a (ws.map V.str) := by
  unfold tupK at h
  cases q : K.lookup a with
  | none =>
    rw [q] at h
    cases h
  | some o =>
    obtain ⟨oc, od, dt, osl⟩ := o
    rw [q] at h
    cases oc with
    | type c =>
      cases dt with
      | seq its n =>
        obtain ⟨h1, h2⟩ := He.ba h
        obtain ⟨h3, h4⟩ := He.ba h2
        have e : c = "tuple" := of_decide_eq_true h1
        have l : its.size ≤ 1000 := of_decide_eq_true h3
        exact .inr ⟨_, its, n, q, by rw [e], rfl, Nat.le_trans l (by decide), He.relAll_ok h4⟩
      | _ => cases h
    | _ => cases dt <;> cases h
theorem out_of {K : PySem.W.Frag} {P : Params} {a : Addr} {ks : List Str} (h : He.dicW K a = some (He.keysIn P ks)) {z : Str} (hz : z ∉ ks) : PySem.W.nsIn K a z = some none := by
  unfold He.dicW at h
  cases q : K.lookup a with
  | none =>
    rw [q] at h
    cases h
  | some o =>
    obtain ⟨oc, od, dt, osl⟩ := o
    rw [q] at h
    cases oc with
    | type c =>
      cases od with
      | none =>
        cases dt with
        | dict es n =>
          have h1 : (match decide (c = "dict") && (osl.isEmpty && !(a == sysModules)) with
            | true => some (es.toList.map He.keyOf)
            | false => none) = some (He.keysIn P ks) := h
          have h2 : es.toList.map He.keyOf = He.keysIn P ks := by
            cases y : decide (c = "dict") && (osl.isEmpty && !(a == sysModules)) with
            | false =>
              rw [y] at h1
              cases h1
            | true =>
              rw [y] at h1
              exact Option.some.inj h1
          have key : ∀ e ∈ es.toList, e.key.isStr z = false ∧ e.refKey = false := by
            intro e he
            have m : He.keyOf e ∈ He.keysIn P ks := by
              rw [← h2]
              exact List.mem_map_of_mem he
            obtain ⟨k, hk, ek⟩ := List.mem_map.mp m
            unfold He.keyOf at ek
            cases qk : e.key with
            | str x t =>
              rw [qk] at ek
              have ex : k = x := (Prod.mk.inj (Option.some.inj ek)).1
              refine ⟨?_, ?_⟩
              · rw [PySem.W.isStr_of]
                unfold Value.isStrOf
                cases y : (x == z) with
                | false => simpa using y
                | true =>
                  rw [ex, beq_iff_eq.mp y] at hk
                  exact absurd hk hz
              · unfold DictEntry.refKey
                rw [qk]
            | _ =>
              rw [qk] at ek
              cases ek
          unfold PySem.W.nsIn
          rw [q]
          show (match es.toList.find? (·.key.isStr z) with | some e => some (some e.val) | none => if es.toList.any (·.refKey) then none else some none) = some none
          rw [List.find?_eq_none.mpr fun e he => by rw [(key e he).1]; decide]
          show (if es.toList.any (·.refKey) then none else some none) = some none
          rw [if_neg]
          intro y
          obtain ⟨e, he, hr⟩ := List.any_eq_true.mp y
          rw [(key e he).2] at hr
          cases hr
        | _ => cases h
      | some d => cases dt <;> cases h
    | _ => cases od <;> cases dt <;> cases h
theorem lookup_none {β : Type} {z : Str} : ∀ {l : List (Str × β)}, l.lookup z = none → z ∉ l.map (·.1)
  | [], _ => by simp
  | (k, v) :: r, h => by
    have h2 : (match z == k with | true => some v | false => r.lookup z) = none := h
    cases q : (z == k) with
    | true =>
      rw [q] at h2
      cases h2
    | false =>
      rw [q] at h2
      have ne : z ≠ k := fun e => by rw [e, beq_self_eq_true] at q; cases q
      intro m
      rcases List.mem_cons.mp (show z ∈ k :: r.map (·.1) from m) with e | e
      · exact ne e
      · exact lookup_none h2 e
theorem lookup_in {β : Type} {z : Str} {b : β} : ∀ {l : List (Str × β)}, l.lookup z = some b → (z, b) ∈ l
  | [], h => by cases h
  | (k, v) :: r, h => by
    have h2 : (match z == k with | true => some v | false => r.lookup z) = some b := h
    cases q : (z == k) with
    | true =>
      rw [q] at h2
      rw [beq_iff_eq.mp q, Option.some.inj h2]
      exact List.mem_cons_self
    | false =>
      rw [q] at h2
      exact List.mem_cons_of_mem _ (lookup_in h2)
end Ah
end
section
set_option Elab.async false
set_option linter.all false
set_option maxRecDepth 100000
set_option maxHeartbeats 4000000
namespace Ah
open PySem PySem.Spec PyProof.Rows L2
open GxR (TabB TabG Tabbed)
theorem forms_ok {K : PySem.W.Frag} (h : formsB K = true) {z : Str} {ps : List Str} (e : formsL.lookup z = some ps) : ∃ a, PySem.W.nsIn K (He.ga K "FORMS") z = some (some (.ref a)) ∧ ∀ H, SqT K H a (ps.map V.str) := by
  have m := lookup_in e
  have h2 := List.all_eq_true.mp h _ m
  have h3 : (match PySem.W.nsIn K (He.ga K "FORMS") z with
    | some (some (.ref a)) => tupK K a ps
    | _ => false) = true := h2
  cases q : PySem.W.nsIn K (He.ga K "FORMS") z with
  | none =>
    rw [q] at h3
    cases h3
  | some r =>
    rw [q] at h3
    cases r with
    | none => cases h3
    | some u =>
      cases u with
      | ref a => exact ⟨a, rfl, tupK_ok h3⟩
      | _ => cases h3
theorem mapK_len {α β : Type} {f : α → β} {l : List α} {m : List β} (h : l.map f = m) (i : Nat) {a : α} (ha : l[i]? = some a) : m[i]? = some (f a) := by
  rw [← h, List.getElem?_map, ha] <;> rfl
theorem facts {w : World} {K : PySem.W.Frag} {h : Heap} {mg : Str → Option Value} {f : Addr} (X : K.In h) (G : h.Ns mainGlobals mg) (hfa : mg ("law" : Str) = some (.ref f)) (c : He.SaysX fa fn ts tf exB w h K) :
    LamX.LawAtS PySem.Challenge.rw_answerhouse_k12_what_hangs_on_a_row w K CX0 10 63 "_law_script" mg f h := by
  have d := c.t.d
  obtain ⟨fd0, F0⟩ : ∃ fd, FnP K "places_of" sPlaces (He.ga K "places_of") fd := d.def_ 0 (d := dF "places_of" sPlaces) rfl
  obtain ⟨fd1, F1⟩ : ∃ fd, FnP K "leads_from_kind" sLKind (He.ga K "leads_from_kind") fd := d.def_ 1 (d := dF "leads_from_kind" sLKind) rfl
  obtain ⟨fd2, F2⟩ : ∃ fd, FnP K "leads_on" sLOn (He.ga K "leads_on") fd := d.def_ 2 (d := dF "leads_on" sLOn) rfl
  obtain ⟨fd3, F3⟩ : ∃ fd, FnP K "leads_from_tie" sLTie (He.ga K "leads_from_tie") fd := d.def_ 3 (d := dF "leads_from_tie" sLTie) rfl
  obtain ⟨fd4, F4⟩ : ∃ fd, FnP K "leads_by" sLBy (He.ga K "leads_by") fd := d.def_ 4 (d := dF "leads_by" sLBy) rfl
  obtain ⟨fd5, F5⟩ : ∃ fd, MethP K "__init__" "Rules.__init__" sRInit (He.ma K (He.ga K "Rules") "__init__") fd := d.def_ 5 (d := dM "Rules" "__init__" "Rules.__init__" sRInit) rfl
  obtain ⟨fd6, F6⟩ : ∃ fd, MethP K "leads" "Rules.leads" sRLeads (He.ma K (He.ga K "Rules") "leads") fd := d.def_ 6 (d := dM "Rules" "leads" "Rules.leads" sRLeads) rfl
  obtain ⟨fd7, F7⟩ : ∃ fd, MethP K "worked_out" "Rules.worked_out" sRWork (He.ma K (He.ga K "Rules") "worked_out") fd := d.def_ 7 (d := dM "Rules" "worked_out" "Rules.worked_out" sRWork) rfl
  obtain ⟨fd8, F8⟩ : ∃ fd, FnP K "all_results" sAll (He.ga K "all_results") fd := d.def_ 8 (d := dF "all_results" sAll) rfl
  obtain ⟨fd9, F9⟩ : ∃ fd, FnP K "is_word" sIsWord (He.ga K "is_word") fd := d.def_ 9 (d := dF "is_word" sIsWord) rfl
  obtain ⟨fd10, F10⟩ : ∃ fd, FnP K "is_row" sIsRow (He.ga K "is_row") fd := d.def_ 10 (d := dF "is_row" sIsRow) rfl
  obtain ⟨fd11, F11⟩ : ∃ fd, FnP K "is_number" sIsNumber (He.ga K "is_number") fd := d.def_ 11 (d := dF "is_number" sIsNumber) rfl
  obtain ⟨fd12, F12⟩ : ∃ fd, FnP K "check_text" sCheck (He.ga K "check_text") fd := d.def_ 12 (d := dF "check_text" sCheck) rfl
  obtain ⟨fd13, F13⟩ : ∃ fd, FnP K "check_number" sCheckNumber (He.ga K "check_number") fd := d.def_ 13 (d := dF "check_number" sCheckNumber) rfl
  obtain ⟨fd14, F14⟩ : ∃ fd, FnP K "told_of" sToldOf (He.ga K "told_of") fd := d.def_ 14 (d := dF "told_of" sToldOf) rfl
  obtain ⟨fd15, F15⟩ : ∃ fd, FnP K "names_of" sNamesOf (He.ga K "names_of") fd := d.def_ 15 (d := dF "names_of" sNamesOf) rfl
  obtain ⟨fd16, F16⟩ : ∃ fd, FnP K "follows" sFollows (He.ga K "follows") fd := d.def_ 16 (d := dF "follows" sFollows) rfl
  obtain ⟨fd17, F17⟩ : ∃ fd, FnP K "results_of" sResultsOf (He.ga K "results_of") fd := d.def_ 17 (d := dF "results_of" sResultsOf) rfl
  obtain ⟨fd18, F18⟩ : ∃ fd, FnP K "left" sLeft (He.ga K "left") fd := d.def_ 18 (d := dF "left" sLeft) rfl
  obtain ⟨fd19, F19⟩ : ∃ fd, FnP K "hanging" sHanging (He.ga K "hanging") fd := d.def_ 19 (d := dF "hanging" sHanging) rfl
  obtain ⟨fd20, F20⟩ : ∃ fd, FnP K "parted" sParted (He.ga K "parted") fd := d.def_ 20 (d := dF "parted" sParted) rfl
  obtain ⟨fd21, F21⟩ : ∃ fd, FnP K "only_first" sOnlyFirst (He.ga K "only_first") fd := d.def_ 21 (d := dF "only_first" sOnlyFirst) rfl
  obtain ⟨fd22, F22⟩ : ∃ fd, FnP K "_law_row" lRow (He.ga K "_law_row") fd := d.def_ 22 (d := dF "_law_row" lRow) rfl
  obtain ⟨fd23, F23⟩ : ∃ fd, FnP K "_law_taken" lTaken (He.ga K "_law_taken") fd := d.def_ 23 (d := dF "_law_taken" lTaken) rfl
  obtain ⟨fd24, F24⟩ : ∃ fd, FnP K "_law_one" lOne (He.ga K "_law_one") fd := d.def_ 24 (d := dF "_law_one" lOne) rfl
  obtain ⟨fd25, F25⟩ : ∃ fd, FnP K "_law_text" lText (He.ga K "_law_text") fd := d.def_ 25 (d := dF "_law_text" lText) rfl
  obtain ⟨fd26, F26⟩ : ∃ fd, FnP K "_law_led" lLed (He.ga K "_law_led") fd := d.def_ 26 (d := dF "_law_led" lLed) rfl
  obtain ⟨fd27, F27⟩ : ∃ fd, FnP K "_law_both" lBoth (He.ga K "_law_both") fd := d.def_ 27 (d := dF "_law_both" lBoth) rfl
  obtain ⟨fd28, F28⟩ : ∃ fd, FnP K "_law_follow" lFollow (He.ga K "_law_follow") fd := d.def_ 28 (d := dF "_law_follow" lFollow) rfl
  obtain ⟨fd29, F29⟩ : ∃ fd, FnP K "_law_alike" lAlike (He.ga K "_law_alike") fd := d.def_ 29 (d := dF "_law_alike" lAlike) rfl
  obtain ⟨fd30, F30⟩ : ∃ fd, FnP K "law" lLaw (He.ga K "law") fd := d.def_ 30 (d := dF "law" lLaw) rfl
  have e := hfa.symm.trans (He.glo_ok X G (d.fact 27 (f := .glo "law") rfl))
  cases e
  have gl : ∀ (i : Nat) (x : Str), fa[i]? = some (.glo x) → mg x = some (.ref (He.ga K x)) := fun i x q => He.glo_ok X G (d.fact i q)
  have fr : ∀ (i : Nat) (x : Str), fa[i]? = some (.free x) → mg x = none := fun i x q => He.free_ok X G (d.fact i q)
  have z_isinstance := fr 28 "isinstance" rfl
  have z_len := fr 29 "len" rfl
  have z_tuple := fr 30 "tuple" rfl
  have z_list := fr 31 "list" rfl
  have z_str := fr 32 "str" rfl
  have z_bool := fr 33 "bool" rfl
  have z_range := fr 34 "range" rfl
  have z_enumerate := fr 35 "enumerate" rfl
  have z_sorted := fr 36 "sorted" rfl
  have z_zip := fr 37 "zip" rfl
  have z_dict := fr 38 "dict" rfl
  have z_all := fr 39 "all" rfl
  have z_int := fr 40 "int" rfl
  have g_FORMS := gl 41 "FORMS" rfl
  have g_BARRED := gl 42 "BARRED" rfl
  have g_CLASH := gl 43 "CLASH" rfl
  have g_Rules := gl 44 "Rules" rfl
  obtain ⟨hex, hex2⟩ := He.ba (show (formsB K && (tupK K (He.ga K "BARRED") barred && tupK K (He.ga K "CLASH") (Say.clash).ws)) = true from c.more)
  obtain ⟨hbar, hcl⟩ := He.ba hex2
  have B : Bl mg := ⟨z_isinstance, z_len, z_tuple, z_list, z_str, z_bool, z_range, z_enumerate, z_sorted, z_zip, z_dict, z_all⟩
  have W : TW K mg := ⟨z_isinstance, z_len, z_all, z_str, z_tuple, z_enumerate, He.int_ok X G (d.fact 45 (f := .int "LONGEST_WORD" 6) rfl), He.str_ok X G (d.fact 47 (f := .str "LETTERS" letters) rfl), He.ga K "BARRED", g_BARRED, tupK_ok hbar⟩
  have hdic : He.dicW K (He.ga K "FORMS") = some (He.keysIn w.params (formsL.map (·.1))) := by
    have e2 : ts.map (fun t => He.dicW K (t.1 K)) = ts.map fun t => some (He.keysIn w.params t.2) := congrArg (fun z : He.AlT => z.2) c.t
    have e3 := List.cons.inj (show He.dicW K (He.ga K "FORMS") :: _ = some (He.keysIn w.params (formsL.map (·.1))) :: _ from e2)
    exact e3.1
  have D : TF K w mg (He.ga K "FORMS") := ⟨g_FORMS, He.dicW_ok hdic, fun z ps hz => forms_ok hex hz, fun z hz => out_of hdic (lookup_none hz)⟩
  have C : TClash K mg (He.ga K "CLASH") := ⟨g_CLASH, tupK_ok hcl⟩
  have CR : ClsR K (He.ga K "Rules") := ⟨He.cls_ok (d.fact 48 (f := .cls "Rules") rfl), He.noat_ok (d.fact 49 (f := .noat "Rules" "rows") rfl), He.noat_ok (d.fact 50 (f := .noat "Rules" "names") rfl), He.noat_ok (d.fact 51 (f := .noat "Rules" "known") rfl)⟩
  have mL := He.meth_ok (d.fact 52 (f := .meth "Rules" "leads") rfl)
  have mW := He.meth_ok (d.fact 53 (f := .meth "Rules" "worked_out") rfl)
  have M := He.mkr_ok (d.fact 54 (f := .mkr "Rules") rfl)
  have hMost := He.int_ok X G (d.fact 46 (f := .int "MOST_ROWS" 24) rfl)
  have bLaw := FunD.bindsA (ps := ["_law_script"]) F30 fun _ _ _ _ _ _ us hl => match us, hl with | [_], _ => rfl
  have code : ∀ {p : He.Defn} {x q : Str} {st : Stmt} {fd : FuncData}, FunD K x q (defArgs st) (defBody st) (defScope st) [] [] (He.fAd K p) fd → fd.code = .ref (He.cT K p).1 := by
    intro p x q st fd F
    obtain ⟨oc, od, dV, kV, doc, pm, an, cdv, ct, osl, rfl, lk, hcd, _, _⟩ := F.ex
    obtain ⟨c0, e0⟩ := He.codeIn_ref hcd
    have e1 := He.codeOf_eq (p := p) lk (show (PySem.W.fnOf x q (defArgs st) (defBody st) (defScope st) dV kV doc pm an cdv ct).code = .ref c0 from e0)
    show cdv = .ref (He.codeOf K p)
    rw [e1, e0]
  refine ⟨fd30, tf.map (He.cT K), spLaw K ((tf.map (He.cT K)).map (·.2)), fun p hp => ?_, fun p hp => ?_, fun p hp => ?_, fun s u => bLaw s [u] rfl, fun H a ns hl _ hT hS => ⟨a, ns, rfl, hS, hl, fun P hP => ?_, fun _ => rfl⟩, fun base hK hN hTB => ?_⟩
  · obtain ⟨q, hq, rfl⟩ := List.mem_map.mp hp
    exact c.empty q hq
  · obtain ⟨q, hq, rfl⟩ := List.mem_map.mp hp
    exact c.out q hq
  · obtain ⟨q, hq, rfl⟩ := List.mem_map.mp hp
    exact PySem.W.codeHd_of_K X (c.hd q hq)
  · obtain ⟨p, hp, rfl⟩ := List.mem_map.mp hP
    exact ⟨#[], hT p hp, trivial⟩
  · have tb : ∀ q ∈ tf, TabB base mg (He.cT K q).1 (He.cT K q).2 := fun q hq => by
      have z := hTB _ (List.mem_map_of_mem (f := He.cT K) hq)
      exact ⟨z.code, z.bm, z.gP⟩
    have inT : ∀ q ∈ tf, (He.cT K q).2 ∈ (tf.map (He.cT K)).map (·.2) := fun q hq => List.mem_map_of_mem (List.mem_map_of_mem hq)
    have m0 : (("is_word", none) : He.Defn) ∈ tf := List.mem_cons_self
    have m1 : (("is_row", none) : He.Defn) ∈ tf := List.mem_cons_of_mem _ List.mem_cons_self
    generalize (tf.map (He.cT K)).map (·.2) = T at inT ⊢
    have c9 := code (p := ("is_word", none)) F9
    have c10 := code (p := ("is_row", none)) F10
    have t9 := tb _ m0
    have t10 := tb _ m1
    have i9 := inT _ m0
    have i10 := inT _ m1
    have b_9 : Binds K fd9 ["word"] [] := F9.bindsN fun _ _ _ _ _ _ us hl => match us, hl with | [_], _ => rfl
    have o_is_word : Own (PySem.Challenge.rw_answerhouse_k12_what_hangs_on_a_row).prog w K mg base "is_word" 3 _ fd9 ["word"] (spWord T) := ⟨ok_word F9 c9 t9 i9 W, gl 6 "is_word" rfl, F9.kp, b_9⟩
    have b_10 : Binds K fd10 ["row"] [] := F10.bindsN fun _ _ _ _ _ _ us hl => match us, hl with | [_], _ => rfl
    have o_is_row : Own (PySem.Challenge.rw_answerhouse_k12_what_hangs_on_a_row).prog w K mg base "is_row" 5 _ fd10 ["row"] (spRow T) := ⟨ok_row F10 c10 t10 i10 W D o_is_word.g o_is_word.ok o_is_word.kp o_is_word.b, gl 7 "is_row" rfl, F10.kp, b_10⟩
    have b_12 : Binds K fd12 ["rows"] [] := F12.bindsN fun _ _ _ _ _ _ us hl => match us, hl with | [_], _ => rfl
    have o_check : Own (PySem.Challenge.rw_answerhouse_k12_what_hangs_on_a_row).prog w K mg base "check_text" 6 _ fd12 ["rows"] (spCheck0 T) := ⟨ok_check F12 W hMost o_is_row.g o_is_row.ok o_is_row.kp o_is_row.b, gl 9 "check_text" rfl, F12.kp, b_12⟩
    have b_0 : Binds K fd0 ["rows"] [] := F0.bindsN fun _ _ _ _ _ _ us hl => match us, hl with | [_], _ => rfl
    have o_places : Own (PySem.Challenge.rw_answerhouse_k12_what_hangs_on_a_row).prog w K mg base "places_of" 1 _ fd0 ["rows"] (spPlaces K (PySem.Challenge.rw_answerhouse_k12_what_hangs_on_a_row).prog w) := ⟨ok_places F0 B, gl 0 "places_of" rfl, F0.kp, b_0⟩
    have b_2 : Binds K fd2 ["saying", "names"] [] := F2.bindsN fun _ _ _ _ _ _ us hl => match us, hl with | [_, _], _ => rfl
    have o_lon : Own (PySem.Challenge.rw_answerhouse_k12_what_hangs_on_a_row).prog w K mg base "leads_on" 1 _ fd2 ["saying", "names"] (spOn K) := ⟨ok_lon F2, gl 2 "leads_on" rfl, F2.kp, b_2⟩
    have b_1 : Binds K fd1 ["row", "saying", "names"] [] := F1.bindsN fun _ _ _ _ _ _ us hl => match us, hl with | [_, _, _], _ => rfl
    have o_lkind : Own (PySem.Challenge.rw_answerhouse_k12_what_hangs_on_a_row).prog w K mg base "leads_from_kind" 1 _ fd1 ["row", "saying", "names"] (spLK K) := ⟨ok_lkind F1 C, gl 1 "leads_from_kind" rfl, F1.kp, b_1⟩
    have b_3 : Binds K fd3 ["row", "saying", "names"] [] := F3.bindsN fun _ _ _ _ _ _ us hl => match us, hl with | [_, _, _], _ => rfl
    have o_ltie : Own (PySem.Challenge.rw_answerhouse_k12_what_hangs_on_a_row).prog w K mg base "leads_from_tie" 2 _ fd3 ["row", "saying", "names"] (spLT K) := ⟨ok_ltie F3 C o_lon, gl 3 "leads_from_tie" rfl, F3.kp, b_3⟩
    have b_4 : Binds K fd4 ["row", "saying", "names"] [] := F4.bindsN fun _ _ _ _ _ _ us hl => match us, hl with | [_, _, _], _ => rfl
    have o_lby : Own (PySem.Challenge.rw_answerhouse_k12_what_hangs_on_a_row).prog w K mg base "leads_by" 3 _ fd4 ["row", "saying", "names"] (spBy K) := ⟨ok_lby F4 o_lkind o_ltie, gl 4 "leads_by" rfl, F4.kp, b_4⟩
    have b_7 : Binds K fd7 ["self", "saying"] [] := F7.bindsN fun _ _ _ _ _ _ us hl => match us, hl with | [_, _], _ => rfl
    have k_work : FnOk (PySem.Challenge.rw_answerhouse_k12_what_hangs_on_a_row).prog w K mg base CX0 4 _ fd7 ["self", "saying"] (spWork K (PySem.Challenge.rw_answerhouse_k12_what_hangs_on_a_row).prog w) := ok_work F7 B o_lby
    have b_6 : Binds K fd6 ["self", "saying"] [] := F6.bindsN fun _ _ _ _ _ _ us hl => match us, hl with | [_, _], _ => rfl
    have k_leads : FnOk (PySem.Challenge.rw_answerhouse_k12_what_hangs_on_a_row).prog w K mg base CX0 5 _ fd6 ["self", "saying"] (spLeads K (PySem.Challenge.rw_answerhouse_k12_what_hangs_on_a_row).prog w (He.ga K "Rules")) := ok_leads F6 CR mW k_work b_7
    have b_5 : Binds K fd5 ["self", "rows", "names"] [] := F5.bindsN fun _ _ _ _ _ _ us hl => match us, hl with | [_, _, _], _ => rfl
    have k_init : FnOk (PySem.Challenge.rw_answerhouse_k12_what_hangs_on_a_row).prog w K mg base CX0 2 _ fd5 ["self", "rows", "names"] (spInit K (PySem.Challenge.rw_answerhouse_k12_what_hangs_on_a_row).prog w (He.ga K "Rules")) := ok_init F5 CR B o_places
    have b_14 : Binds K fd14 ["rows", "place"] [] := F14.bindsN fun _ _ _ _ _ _ us hl => match us, hl with | [_, _], _ => rfl
    have o_told : Own (PySem.Challenge.rw_answerhouse_k12_what_hangs_on_a_row).prog w K mg base "told_of" 1 _ fd14 ["rows", "place"] spTold := ⟨ok_told F14 D B, gl 11 "told_of" rfl, F14.kp, b_14⟩
    have b_15 : Binds K fd15 ["rows"] [] := F15.bindsN fun _ _ _ _ _ _ us hl => match us, hl with | [_], _ => rfl
    have o_names : Own (PySem.Challenge.rw_answerhouse_k12_what_hangs_on_a_row).prog w K mg base "names_of" 2 _ fd15 ["rows"] spNames := ⟨ok_names F15 o_told, gl 12 "names_of" rfl, F15.kp, b_15⟩
    have b_8 : Binds K fd8 ["rules"] [] := F8.bindsN fun _ _ _ _ _ _ us hl => match us, hl with | [_], _ => rfl
    have o_all : Own (PySem.Challenge.rw_answerhouse_k12_what_hangs_on_a_row).prog w K mg base "all_results" 6 _ fd8 ["rules"] (spAll K (PySem.Challenge.rw_answerhouse_k12_what_hangs_on_a_row).prog w (He.ga K "Rules")) := ⟨ok_all F8 CR mL k_leads b_6, gl 5 "all_results" rfl, F8.kp, b_8⟩
    have b_16 : Binds K fd16 ["rows"] [] := F16.bindsN fun _ _ _ _ _ _ us hl => match us, hl with | [_], _ => rfl
    have o_follows : Own (PySem.Challenge.rw_answerhouse_k12_what_hangs_on_a_row).prog w K mg base "follows" 7 _ fd16 ["rows"] (spFollows K T) := ⟨ok_follows F16 B C CR M g_Rules k_init b_5 o_check o_all o_names, gl 13 "follows" rfl, F16.kp, b_16⟩
    have b_22 : Binds K fd22 ["_law_script"] [] := F22.bindsN fun _ _ _ _ _ _ us hl => match us, hl with | [_], _ => rfl
    have o_lrow : Own (PySem.Challenge.rw_answerhouse_k12_what_hangs_on_a_row).prog w K mg base "_law_row" 1 _ fd22 ["_law_script"] (spLRow K) := ⟨ok_lrow F22, gl 19 "_law_row" rfl, F22.kp, b_22⟩
    have b_23 : Binds K fd23 ["_law_row_here", "_law_many"] [] := F23.bindsN fun _ _ _ _ _ _ us hl => match us, hl with | [_, _], _ => rfl
    have o_ltaken : Own (PySem.Challenge.rw_answerhouse_k12_what_hangs_on_a_row).prog w K mg base "_law_taken" 1 _ fd23 ["_law_row_here", "_law_many"] (spTaken K) := ⟨ok_ltaken F23 z_len, gl 20 "_law_taken" rfl, F23.kp, b_23⟩
    have b_24 : Binds K fd24 ["_law_row_here"] [] := F24.bindsN fun _ _ _ _ _ _ us hl => match us, hl with | [_], _ => rfl
    have o_lone : Own (PySem.Challenge.rw_answerhouse_k12_what_hangs_on_a_row).prog w K mg base "_law_one" 2 _ fd24 ["_law_row_here"] (spOne K) := ⟨ok_lone F24 o_ltaken.g o_ltaken.ok o_ltaken.kp o_ltaken.b, gl 21 "_law_one" rfl, F24.kp, b_24⟩
    have b_25 : Binds K fd25 ["_law_row_here", "_law_many"] [] := F25.bindsN fun _ _ _ _ _ _ us hl => match us, hl with | [_, _], _ => rfl
    have o_ltext : Own (PySem.Challenge.rw_answerhouse_k12_what_hangs_on_a_row).prog w K mg base "_law_text" 3 _ fd25 ["_law_row_here", "_law_many"] (spText K) := ⟨ok_ltext F25 o_ltaken.g o_ltaken.ok o_ltaken.kp o_ltaken.b o_lone.g o_lone.ok o_lone.kp o_lone.b z_tuple z_range, gl 22 "_law_text" rfl, F25.kp, b_25⟩
    have b_26 : Binds K fd26 ["_law_one_here", "_law_x"] [] := F26.bindsN fun _ _ _ _ _ _ us hl => match us, hl with | [_, _], _ => rfl
    have o_lled : Own (PySem.Challenge.rw_answerhouse_k12_what_hangs_on_a_row).prog w K mg base "_law_led" 1 _ fd26 ["_law_one_here", "_law_x"] (spLed K) := ⟨ok_led F26, gl 23 "_law_led" rfl, F26.kp, b_26⟩
    have b_27 : Binds K fd27 ["_law_one_here", "_law_x", "_law_y"] [] := F27.bindsN fun _ _ _ _ _ _ us hl => match us, hl with | [_, _, _], _ => rfl
    have o_lboth : Own (PySem.Challenge.rw_answerhouse_k12_what_hangs_on_a_row).prog w K mg base "_law_both" 1 _ fd27 ["_law_one_here", "_law_x", "_law_y"] (spBoth K) := ⟨ok_both F27, gl 24 "_law_both" rfl, F27.kp, b_27⟩
    have b_28 : Binds K fd28 ["_law_rows", "_law_more"] [] := F28.bindsN fun _ _ _ _ _ _ us hl => match us, hl with | [_, _], _ => rfl
    have o_lfollow : Own (PySem.Challenge.rw_answerhouse_k12_what_hangs_on_a_row).prog w K mg base "_law_follow" 2 _ fd28 ["_law_rows", "_law_more"] (spFollowL K (PySem.Challenge.rw_answerhouse_k12_what_hangs_on_a_row).prog w) := ⟨ok_lfollow F28 B o_lled o_lboth, gl 25 "_law_follow" rfl, F28.kp, b_28⟩
    have b_11 : Binds K fd11 ["number", "many"] [] := F11.bindsN fun _ _ _ _ _ _ us hl => match us, hl with | [_, _], _ => rfl
    have o_num : Own (PySem.Challenge.rw_answerhouse_k12_what_hangs_on_a_row).prog w K mg base "is_number" 1 _ fd11 ["number", "many"] spNum := ⟨ok_number F11 B z_int, gl 8 "is_number" rfl, F11.kp, b_11⟩
    have b_13 : Binds K fd13 ["number", "many"] [] := F13.bindsN fun _ _ _ _ _ _ us hl => match us, hl with | [_, _], _ => rfl
    have o_chn : Own (PySem.Challenge.rw_answerhouse_k12_what_hangs_on_a_row).prog w K mg base "check_number" 2 _ fd13 ["number", "many"] spChN := ⟨ok_checkN F13 o_num, gl 10 "check_number" rfl, F13.kp, b_13⟩
    have b_17 : Binds K fd17 ["rows"] [] := F17.bindsN fun _ _ _ _ _ _ us hl => match us, hl with | [_], _ => rfl
    have o_res : Own (PySem.Challenge.rw_answerhouse_k12_what_hangs_on_a_row).prog w K mg base "results_of" 7 _ fd17 ["rows"] (spRes K (PySem.Challenge.rw_answerhouse_k12_what_hangs_on_a_row).prog w) := ⟨ok_results F17 CR M g_Rules k_init b_5 o_all o_names, gl 14 "results_of" rfl, F17.kp, b_17⟩
    have b_18 : Binds K fd18 ["rows", "number"] [] := F18.bindsN fun _ _ _ _ _ _ us hl => match us, hl with | [_, _], _ => rfl
    have o_left : Own (PySem.Challenge.rw_answerhouse_k12_what_hangs_on_a_row).prog w K mg base "left" 1 _ fd18 ["rows", "number"] spLeft := ⟨ok_left F18, gl 15 "left" rfl, F18.kp, b_18⟩
    have b_21 : Binds K fd21 ["rows", "other"] [] := F21.bindsN fun _ _ _ _ _ _ us hl => match us, hl with | [_, _], _ => rfl
    have o_only : Own (PySem.Challenge.rw_answerhouse_k12_what_hangs_on_a_row).prog w K mg base "only_first" 8 _ fd21 ["rows", "other"] (spOnly K T) := ⟨ok_only F21 o_res o_follows, gl 18 "only_first" rfl, F21.kp, b_21⟩
    have b_20 : Binds K fd20 ["rows", "other"] [] := F20.bindsN fun _ _ _ _ _ _ us hl => match us, hl with | [_, _], _ => rfl
    have o_parted : Own (PySem.Challenge.rw_answerhouse_k12_what_hangs_on_a_row).prog w K mg base "parted" 9 _ fd20 ["rows", "other"] (spParted K T) := ⟨ok_parted F20 o_check o_only, gl 17 "parted" rfl, F20.kp, b_20⟩
    have b_19 : Binds K fd19 ["rows", "number"] [] := F19.bindsN fun _ _ _ _ _ _ us hl => match us, hl with | [_, _], _ => rfl
    have o_hang : Own (PySem.Challenge.rw_answerhouse_k12_what_hangs_on_a_row).prog w K mg base "hanging" 9 _ fd19 ["rows", "number"] (spHang K T) := ⟨ok_hanging F19 B o_check o_chn o_only o_left, gl 16 "hanging" rfl, F19.kp, b_19⟩
    have b_29 : Binds K fd29 ["_law_found", "_law_due"] [] := F29.bindsN fun _ _ _ _ _ _ us hl => match us, hl with | [_, _], _ => rfl
    have o_alike4 : Own (PySem.Challenge.rw_answerhouse_k12_what_hangs_on_a_row).prog w K mg base "_law_alike" 4 _ fd29 ["_law_found", "_law_due"] (spAlike K 4) := ⟨ok_lalike F29 (gl 26 "_law_alike" rfl) b_29 B 4, gl 26 "_law_alike" rfl, F29.kp, b_29⟩
    have o_alike3 : Own (PySem.Challenge.rw_answerhouse_k12_what_hangs_on_a_row).prog w K mg base "_law_alike" 3 _ fd29 ["_law_found", "_law_due"] (spAlike K 3) := ⟨ok_lalike F29 (gl 26 "_law_alike" rfl) b_29 B 3, gl 26 "_law_alike" rfl, F29.kp, b_29⟩
    exact ok_law F30 B o_lrow o_ltext o_ltaken o_lfollow o_parted o_hang o_alike4 o_alike3
end Ah
end
section
open PySem PySem.W PySem.Calls PyProof.Rows
set_option Elab.async false
set_option maxRecDepth 100000
set_option maxHeartbeats 0
theorem PySem.Challenge.cw_answerhouse_k12_what_hangs_on_a_row_holds : PySem.Challenge.rw_answerhouse_k12_what_hangs_on_a_row.Holds := by
  w_on; o_law
  refine HandSHeadRun.head_any (r := OpenLaw.row PySem.Challenge.rw_answerhouse_k12_what_hangs_on_a_row) (q := view (OpenLaw.row PySem.Challenge.rw_answerhouse_k12_what_hangs_on_a_row).prog [43]) (H := Ah.hk) (ob := Ah.ob) (M := 6000) (loose := Ah.loose) (d := HandSHeadRun.topDef (OpenLaw.row PySem.Challenge.rw_answerhouse_k12_what_hangs_on_a_row).prog 43) (kwd := []) Ah.ob_eq
    (by kernel_rfl) (fun s => by kernel_rfl) Ah.run (by kernel_rfl) (by kernel_rfl) (by kernel_rfl) (by rfl) (by first | assumption | decide +kernel) (by decide +kernel) ⟨rfl, rfl, rfl, rfl, rfl, by decide +kernel⟩ ?hw ?hc
  case hw => w_witness2
  case hc =>
    refine LamX.walk_ofTsE (l := PySem.Challenge.rw_answerhouse_k12_what_hangs_on_a_row) (n := 63) (k := 10) (x := "_law_script") (CX := fun _ => L2.CX0) rfl (by decide) (by kernel_rfl) ⟨rfl, by decide, by decide⟩ ?F (fun _ _ _ _ _ z => z)
    intro w mg fa h Y G hmg0
    obtain ⟨K, KX, c⟩ := Y
    have hmg : mg ("law" : PySem.Str) = some (.ref fa) := by
      have e : (HandSHeadRun.topDef (OpenLaw.row PySem.Challenge.rw_answerhouse_k12_what_hangs_on_a_row).prog 43).name = ("law" : PySem.Str) := by kernel_rfl
      rw [← e]
      exact hmg0
    exact ⟨K, KX, Ah.facts KX G hmg c⟩
end
