import PyProof.Rows.All
import Wide.All
import OpenK.AllK
import Wide.FinOn
import HandS.ForMost
import HandS.AnyAll
import HandS.GenList
import HandS.Walk
import KE.GoesEnum
import HandS.IsInst
import HandS.Defaults
import HandS.HeadHook4
import HandS.HeadWalk
import HandS.ExcInit
import HandS.ExcField
import HandS.ExcIs
import HandS.Head2
import Open.TreeImp
import HandS.HeadEnd
import HandS.Zip
import HandS.SetTxt0
import HandS.SetBool
import PyProof.DictMoreH
import KE.KDictCopyH
import KE.KDictKeyed
import HandS.Conv
import KE.SortData
import HandS.Lambda
import HandS.SortKw
import KE.SortKeyHeap
import PyProof.FString3
import PyProof.Rows.StrIntSpec
import HandS.FStr
import HandS.Text
import HandS.Star
import HandS.SortInts
import KE.KDictWalk
import HandS.Evl
import HandS.WordsExc
import KE.KExcSuper
import KE.KSuper
import KE.KExcIs
import HandS.DictComp
import HandS.WordsList
import HandS.TupAny
import HandS.EndTab
import PySem.Challenge.RW_answerhouse_k05_sayings_counts_numbers_r
section
set_option Elab.async false
set_option linter.all false
set_option maxRecDepth 100000
set_option maxHeartbeats 2000000
/-! all(elt for x in iter) where elt may call defs: the generator's block as a context of its own. -/
namespace GxG
open PySem PySem.Spec PyProof.Rows L2 GenW
open GxR (TabB TabG Tabbed inv_tab sh_eta)

/-- the generator expression's own scope: one name of its own, nothing captured, no cells -/
structure GenS (env : Env) (scope : Scope) (x : Str) : Prop where
  kind : scope.kind = .function
  co : scope.isCoroutine = false
  nocf : ∀ y ∈ scope.names, y.2 ≠ .cell ∧ y.2 ≠ .free
  dot : scope.names.lookup (".0" : Str) = some NameKind.local
  loc : scope.names.lookup x = some .local
  clo : cloFrom env.cells scope.names [] = []

/-- the generator has been made: the state sB ahead of its frame, and s5 behind it -/
structure Made (X : Cx) (pins : List (Addr × Obj)) (σ : L2.St) (P : Addr) (H1 H2 : Hp) (tg : Expr) (c0 : Expr) (scope : Scope) (J : It) (it : Addr) (fp : List Addr) (tn : Nat → Heap → Prop) (code : Value) (sB s5 : Shared) : Prop where
  tab : Tabbed P H1 H2
  inv : Inv X pins σ H2 sB
  turn : Turn X.prog X.w X.K tg J fp it tn
  tn0 : tn 0 sB.heap
  fpo : ∀ b ∈ fp, FpOk X pins H2 b ∧ b < sB.heap.objs.size
  os : s5.os = sB.os
  bare : AllBare s5.gens
  keep : ∀ b o, sB.heap.get? b = some o → s5.heap.get? b = some o
  ns : s5.heap.Ns sB.heap.objs.size (fun y => if y = (".0" : Str) then some (.ref it) else none)
  gen : ∃ go nm qn, s5.heap.get? (sB.heap.objs.size + 1) = some go ∧ go.cls = .type "generator" ∧ go.data = .fields #[.int sB.gens.size 0, nm, qn] ∧ go.slots = #[]
  gs : s5.gens[sB.gens.size]? = some (.fresh (.compStart c0 0 (.ref it) .none (genEnv scope [] sB.heap.objs.size code builtinsNs X.env)))

section
variable {X : Cx} {pins : List (Addr × Obj)} {σ : L2.St} {H : Hp} {s : Shared}
theorem gen_it {c P : Addr} {elt iter tg : Expr} {x : Str} {gpos : Pos} {scope : Scope} {wi : TI} {k : Nat} {Q' : Value → Shared → Prop} {R : It → Hp → Prop}
    (hr : Room k X.A) (TB : TabB X.base X.mg c P) (hcode : X.env.code = .ref c) (S : GenS X.env scope x) (hi : PI X tg iter wi)
    (hs : ∀ v, genFold iter X.env v = pure v) (I : Inv X pins σ H s) (h : wi σ H fun J H1 => TabG H1 P ∧ R J H1)
    (hQ : ∀ J H1 H2 it fp tn code sB s5, R J H1 → Made X pins σ P H1 H2 tg (.GeneratorExp elt [⟨tg, iter, [], 0⟩] scope gpos) scope J it fp tn code sB s5 → Q' (.ref (sB.heap.objs.size + 1)) s5) :
    wpAny (model X.prog X.w) X.A (eval (.GeneratorExp elt [⟨tg, iter, [], 0⟩] scope gpos) X.env) Q' X.xe s := by
  refine wpAny_GeneratorExp_make (cl := []) S.co (by rw [← S.clo]; exact closure_ok fun y hy e => absurd e (S.nocf y hy).2) (fun y hy => (S.nocf y hy).1) S.dot S.kind (by have := hr.dp; omega) ?_ hs
  refine thn (hi.run pins s σ H _ I h) fun xv s1 h1 => thn h1 fun itv s2 h2 => ?_
  obtain ⟨it, fp, tn, J, H1, rfl, I1, T, st1, f1, ⟨ps, hP, ht⟩, hR⟩ := h2
  have hPs : s2.heap.get? P = some { cls := .none, data := .fields ps } := I1.hok P _ hP
  have cd : PySem.W.CodeHd s2.heap c P := TB.code.keeps fun b u e => I1.bk b u e
  refine ⟨I1.nolimit, ?_⟩
  have fpl : ∀ b ∈ fp, b < s2.heap.objs.size := fun b hb => let ⟨o, e, _⟩ := T.obj _ _ st1 b hb; Heap.lt_size e
  have fpP : ∀ b ∈ fp, b ≠ P := fun b hb z => by
    have := (f1 b hb).1
    rw [z, hP] at this
    cases this
  have cont : ∀ (code : Value) (h3 : Heap) (tk : Nat) (more : Array Value), Heap.ExtBut P s2.heap h3 → s2.heap.objs.size ≤ h3.objs.size → h3.get? P = some { cls := .none, data := .fields (ps ++ more) } → TriplesOk (ps ++ more).toList →
      wpAny (model X.prog X.w) X.A (builtinsFor X.env.globals X.env.builtins) (fun bi s₄ => ∀ h', h'.Ns s₄.heap.objs.size (fun y => if y = (".0" : Str) then some (.ref it) else none) → Heap.SameBut s₄.heap.objs.size (s₄.heap.push { cls := .type "frame", data := .dict #[] }) h' →
          Q' (.ref h'.objs.size) { s₄ with
            gens := s₄.gens.push (.fresh (.compStart (.GeneratorExp elt [⟨tg, iter, [], 0⟩] scope gpos) 0 (.ref it) .none (genEnv scope [] s₄.heap.objs.size code bi X.env))),
            toks := s₄.toks + 1 + 1 + 1,
            heap := h'.push { cls := .type "generator", data := .fields #[.int s₄.gens.size 0, .str "<genexpr>" (s₄.toks + 1), .str (X.env.qual ++ "<genexpr>") (s₄.toks + 1 + 1)] } }) X.xe { s2 with heap := h3, toks := tk } := by
    intro code h3 tk more hx hsz hP3 ht3
    obtain ⟨bm, ob, e1, e2, e3, e4, e5, e6, e7, e8⟩ := TB.bm
    refine wpAny_builtinsFor (m := X.mg) (by rw [I1.ok.glob]; exact (I1.mod.glob.keeps I1.bk).extBut hx TB.gP) e1 e2 (hx _ _ e4 (I1.bk _ _ e5)) e6 e7 e8 ?_
    intro h' hn' hs'
    have J3 : Inv X pins σ (upd H1 P (.tbl (ps ++ more))) { s2 with heap := h3, toks := tk } :=
      inv_tab (more := more) (h' := h3) (g' := s2.gens) (d' := s2.drawn) (t' := tk) I1 hP (fun b u hb e => hx b u hb e) hP3 I1.bare
    have hsz' : h'.objs.size = h3.objs.size + 1 := by rw [hs'.1, Heap.size_push]
    have keep' : ∀ b o, h3.get? b = some o → h'.get? b = some o := fun b o e => hs'.extBut b o (Nat.ne_of_lt (Heap.lt_size e)) (Heap.get?_push_of_some _ e)
    have e9 : Value.ref h'.objs.size = Value.ref (h3.objs.size + 1) := by rw [hsz']
    rw [e9]
    refine hQ J H1 (upd H1 P (.tbl (ps ++ more))) it fp tn code { s2 with heap := h3, toks := tk } _ hR
      ⟨⟨⟨_, upd_same, ht3⟩, fun b hb => upd_ne hb⟩, J3, T, T.keep _ _ _ st1 fun b hb o e => hx b o (fpP b hb) e, fun b hb => ⟨?_, Nat.lt_of_lt_of_le (fpl b hb) hsz⟩, rfl, I1.bare.push rfl, fun b o e => Heap.get?_push_of_some _ (keep' b o e), hn'.push _, ?_, Array.getElem?_push_size ..⟩
    · obtain ⟨q0, q1⟩ := f1 b hb
      exact ⟨by rw [upd_ne (fpP b hb)]; exact q0, q1⟩
    · have hg := Heap.get?_push_size (h := h') (o := { cls := .type "generator", data := .fields #[.int s2.gens.size 0, .str "<genexpr>" (tk + 1), .str (X.env.qual ++ "<genexpr>") (tk + 1 + 1)] }) rfl
      rw [hsz'] at hg
      exact ⟨_, _, _, hg, rfl, rfl, rfl⟩
  cases hf : codeAmong gpos ps.toList with
  | none =>
    refine wpAny_genexprCodeX hcode (cd.code hPs ht) (cd.tab hPs) hf fun c' h' tk hx hge hlt hco' _ htab' _ => ?_
    obtain ⟨o1, vs, f1', tf, fl, tg', inF, tx, tt, op, _, _, _, _, _, _, _, _, _, htr, _⟩ := hco'
    exact cont _ h' tk _ hx (Nat.le_trans hge (Nat.le_of_lt hlt)) htab'.2 htr
  | some cv =>
    refine wpAny_genexprCode_hit hcode (cd.code hPs ht) hf ?_
    have e0 : ps ++ (#[] : Array Value) = ps := by simp
    exact cont cv s2.heap s2.toks #[] (Heap.ExtBut.refl _ _) (Nat.le_refl _) (by rw [e0]; exact hPs) (by rw [e0]; exact ht)
end
end GxG
end
section
set_option Elab.async false
set_option linter.all false
set_option maxRecDepth 100000
set_option maxHeartbeats 2000000
namespace GxG
open PySem PySem.Spec PyProof.Rows L2 GenW
open GxR (TabB TabG Tabbed inv_tab sh_eta)
abbrev gEnv (X : Cx) (sB : Shared) (scope : Scope) (code : Value) : Env := genEnv scope [] sB.heap.objs.size code builtinsNs X.env
/-- the generator's block -/
def gcx (X : Cx) (A : Around) (sB : Shared) (H : Hp) (x : Str) (scope : Scope) (code : Value) (fp : List Addr) (pn : List (Addr × Obj)) : Cx :=
  { X with A := A.deeper (gEnv X sB scope code), N := [x], s_0 := sB, H_0 := H, env := gEnv X sB scope code, outer := X.stack, stack := gEnv X sB scope code :: X.stack, ex := fp, fn := fun _ => true, calm := true, pn := pn, xe := fun _ _ => False }
theorem over_gen {A : Around} {elt tg iter : Expr} {ifs : List Expr} {scope : Scope} {pos : Pos} {it acc : Value} {env : Env} :
    A.over (.compLoop (.GeneratorExp elt [⟨tg, iter, ifs, 0⟩] scope pos) 0 it acc env) [] = A.deeper env := by
  obtain ⟨hd, d, fr, gs, u⟩ := A
  simp [Around.over, Around.deeper, marksOver, frameCount, unitsOf, envsOf, guardsOf, pushEnvs, pushGuards, Code.envs, Code.env?, Code.isFrame, Code.guards, Code.isGuard, Code.weight, Code.frames, Code.isCreation, Code.isCaller, Code.cUnits]
theorem over_gen0 {A : Around} {elt tg iter : Expr} {ifs : List Expr} {scope : Scope} {pos : Pos} {it acc : Value} {env : Env} :
    A.over (.compStart (.GeneratorExp elt [⟨tg, iter, ifs, 0⟩] scope pos) 0 it acc env) [] = A.deeper env := by
  obtain ⟨hd, d, fr, gs, u⟩ := A
  simp [Around.over, Around.deeper, marksOver, frameCount, unitsOf, envsOf, guardsOf, pushEnvs, pushGuards, Code.envs, Code.env?, Code.isFrame, Code.guards, Code.isGuard, Code.weight, Code.frames, Code.isCreation, Code.isCaller, Code.cUnits]
end GxG
namespace GxG
open PySem PySem.Spec PyProof.Rows L2 GenW
open GxR (TabB TabG Tabbed inv_tab sh_eta)
section
variable {X : Cx} {pins : List (Addr × Obj)} {σ : L2.St} {P : Addr} {H1 H2 : Hp} {tg c0 : Expr} {scope : Scope} {J : It} {it : Addr} {fp : List Addr} {tn : Nat → Heap → Prop} {code : Value} {sB s5 : Shared} {A : Around} {x : Str} {pn : List (Addr × Obj)}
theorem gcx_ok (M : Made X pins σ P H1 H2 tg c0 scope J it fp tn code sB s5) (S : GenS X.env scope x) (hA : A.frames = some X.stack) (hh : A.handled = none) : (gcx X A sB H2 x scope code fp pn).Ok := by
  have I := M.inv
  have noc : ∀ (y : Str) (c : Addr), (gEnv X sB scope code).cells.lookup y = some c → False := fun y c e => by
    have e' : ([] : List (Str × Addr)).lookup y = some c := e
    cases e'
  refine ⟨I.ok.mod, S.kind, I.ok.glob, rfl, Nat.le_refl _, fun y z c e => (noc y c e).elim, fun y hy => ?_, fun y c _ e => (noc y c e).elim, fun _ => hh, ?_, .inr ⟨rfl, rfl⟩, fun b hb => ⟨Nat.ne_of_lt (M.fpo b hb).2, fun y c e => (noc y c e).elim⟩, I.bs, Nat.le_trans I.ok.bsz I.sz, fun b o e hb => ?_, fun b hb z => ?_, I.stack, I.stkFree⟩
  · have key : ∀ k, scope.names.lookup y = some k → k = .cell ∨ k = .free → False := fun k hk hk' => by
      have q := S.nocf (y, k) (PySem.mem_of_lookup hk)
      rcases hk' with z | z
      · exact q.1 z
      · exact q.2 z
    rcases hy with hy | hy
    · exact (key _ hy (.inl rfl)).elim
    · exact (key _ hy (.inr rfl)).elim
  · show (A.frames.map _) = some (gEnv X sB scope code :: X.stack)
    rw [hA] <;> rfl
  · rcases (M.fpo b hb).1.2.2.2.1 with z | z
    · exact I.ok.noex b o e z
    · exact absurd (Nat.lt_of_lt_of_le (Heap.lt_size e) (Nat.le_trans I.ok.bsz z)) (Nat.lt_irrefl _)
  · rcases List.mem_cons.mp (I.stkSub b z) with z | z
    · exact (M.fpo b hb).1.2.1 z
    · exact (M.fpo b hb).1.2.2.1 z
theorem inv_gen {go : Obj} {nm qn : Value} (M : Made X pins σ P H1 H2 tg c0 scope J it fp tn code sB s5) (S : GenS X.env scope x) (hA : A.frames = some X.stack) (hh : A.handled = none)
    (hg : s5.heap.get? (sB.heap.objs.size + 1) = some go) (hd : go.data = .fields #[.int sB.gens.size 0, nm, qn]) : Inv (gcx X A sB H2 x scope code fp [(sB.heap.objs.size + 1, go)]) [] [none] H2 s5 := by
  have I := M.inv
  refine ⟨gcx_ok M S hA hh, M.os, M.bare, Un.kept M.keep, ⟨_, M.ns, fun i y v e1 e2 e3 => ?_⟩, fun y c e => ?_, I.hok.fresh (Nat.le_refl _), fun y c e => ?_, fun p hp => ?_, I.hok.kept M.keep, rfl⟩
  · cases i with
    | zero => cases e2
    | succ i => cases e2
  · have e' : ([] : List (Str × Addr)).lookup y = some c := e
    cases e'
  · have e' : ([] : List (Str × Addr)).lookup y = some c := e
    cases e'
  · rcases List.mem_append.mp hp with z | z
    · rw [List.mem_singleton.mp z]
      refine ⟨hg, I.hok.fresh (Nat.le_succ _), Nat.succ_ne_self _, fun hm => ?_, fun v q => by rw [hd] at q; cases q⟩
      have q := I.stkSub _ hm
      rcases List.mem_cons.mp q with z2 | z2
      · have h1 : X.env.locals < sB.heap.objs.size := I.lt
        have h2 : sB.heap.objs.size + 1 = X.env.locals := z2
        rw [← h2] at h1
        exact absurd h1 (Nat.not_lt_of_le (Nat.le_succ _))
      · exact I.nofs (Nat.le_succ _) z2
    · cases z
/-- what a state with the same heap inherits -/
theorem inv_same {Y : Cx} {pins : List (Addr × Obj)} {σ : L2.St} {H : Hp} {s s' : Shared} (I : Inv Y pins σ H s) (ho : s'.os = s.os) (hg : AllBare s'.gens) (hk : ∀ b o, s.heap.get? b = some o → s'.heap.get? b = some o) : Inv Y pins σ H s' :=
  I.call' (ch := []) ho (Un.kept hk) (I.hok.kept hk) hg fun b hb => absurd hb (by simp)
/-- back in the def -/
theorem inv_back {σ' : L2.St} {pins' : List (Addr × Obj)} {H' : Hp} {s' : Shared} (M : Made X pins σ P H1 H2 tg c0 scope J it fp tn code sB s5) (I' : Inv (gcx X A sB H2 x scope code fp pn) pins' σ' H' s') : Inv X pins σ H' s' :=
  M.inv.call' (ch := fp) I'.os I'.base I'.hok I'.bare fun b hb => ⟨(M.fpo b hb).1.2.2.2.1, (M.fpo b hb).1.2.1, (M.fpo b hb).1.2.2.2.2.1, (M.fpo b hb).1.2.2.2.2.2⟩
end
end GxG
end
section
set_option Elab.async false
set_option linter.all false
set_option maxRecDepth 100000
set_option maxHeartbeats 2000000
namespace GxG
open PySem PySem.Spec PyProof.Rows L2 GenW
open GxR (TabB TabG Tabbed inv_tab sh_eta)
/-- what the generator keeps to: the end, an item -/
def GEnd (B : Cx) (QT : Hp → Prop) : GenEnd := fun _ _ r s1 => ((r = .ok (.ret .none) ∨ r = .ok .next) ∧ ∃ H', Inv B [] [none] H' s1 ∧ QT H') ∨ ∃ e, r = .error e ∧ False
def GItem (B : Cx) (QF : Hp → Prop) : Protocol := fun _ _ v s1 kap => ∃ c H' σ' pins', v = .bool c ∧ Inv B pins' σ' H' s1 ∧ (c = false → QF H') ∧ (c = true → ∀ s', s'.heap = s1.heap → s'.os = s1.os → AllBare s'.gens → kap (.send .none) s')
/-- the walk's invariant and its turns -/
def GTurns (J : It) (g : TG) (te : TE) (W : Nat → Nat → Hp → Prop) (QT QF : Hp → Prop) : Prop :=
  ∀ i m H, W i m H → (J.stop i H ∧ QT H) ∨ (J.go i H ∧ ∃ Nx : Hp → Prop, (∀ H', Nx H' → ∃ m', m' < m ∧ W (i + 1) m' H') ∧ ∀ y H', J.yld i H y H' → g y [none] H' fun σ2 H2 => te σ2 H2 fun z H3 => ∃ c, z = .bl c ∧ if c = true then Nx H3 else QF H3)
section
variable {X : Cx} {pins : List (Addr × Obj)} {σ : L2.St} {P : Addr} {H1 H2 : Hp} {elt tg iter : Expr} {scope : Scope} {gpos : Pos} {J : It} {it : Addr} {fp : List Addr} {tn : Nat → Heap → Prop} {code : Value} {sB s5 : Shared} {A : Around} {x : Str} {pn : List (Addr × Obj)}
theorem seg_loop {g : TG} {te : TE} {W : Nat → Nat → Hp → Prop} {QT QF : Hp → Prop} (hco : scope.isCoroutine = false) (T : Turn X.prog X.w X.K tg J fp it tn)
    (hg : PG (gcx X A sB H2 x scope code fp pn) tg g) (he : PE (gcx X A sB H2 x scope code fp pn) elt te) (turn : GTurns J g te W QT QF) :
    ∀ (m n i : Nat) (s₀ s : Shared) (H : Hp), m < n → W i m H → Inv (gcx X A sB H2 x scope code fp pn) [] [none] H s → tn i s.heap → (∀ b ∈ fp, FpOk (gcx X A sB H2 x scope code fp pn) [] H b) →
      Seg (model X.prog X.w) A (GEnd (gcx X A sB H2 x scope code fp pn) QT) (GItem (gcx X A sB H2 x scope code fp pn) QF) n s₀
        (.compLoop (.GeneratorExp elt [⟨tg, iter, [], 0⟩] scope gpos) 0 (.ref it) .none (gEnv X sB scope code))
        ((model X.prog X.w).den (.compLoop (.GeneratorExp elt [⟨tg, iter, [], 0⟩] scope gpos) 0 (.ref it) .none (gEnv X sB scope code))) [] s := by
  intro m
  induction m using Nat.strongRecOn with
  | ind m ih =>
    intro n i s₀ s H hn hW I hst hfp
    obtain ⟨n, rfl⟩ : ∃ q, n = q + 1 := ⟨n - 1, by omega⟩
    show Seg _ A _ _ _ s₀ _ ((compTurn (.GeneratorExp elt [⟨tg, iter, [], 0⟩] scope gpos) 0 (.ref it) .none (gEnv X sB scope code)).onRaise (leaving (gEnv X sB scope code))) [] s
    rw [compTurn_gen, Sem.onRaise_eq_wrap]
    refine seg_bind_wrap (wpAny_standAt ?_)
    rcases turn i m H hW with ⟨stop, q⟩ | ⟨go, Nx, hNx, step⟩
    · refine seg_bind_wrap ?_
      rw [over_gen]
      refine thnF (T.done (gcx X A sB H2 x scope code fp pn) rfl rfl rfl rfl i [] s [none] H (fun _ _ => False) I hfp hst stop) fun r s1 ⟨hr, I1⟩ => ?_
      subst hr
      exact seg_end (.ok .next) (.inl ⟨.inr rfl, H, I1, q⟩)
    · refine seg_bind_wrap ?_
      rw [over_gen]
      refine thnF (T.item (gcx X A sB H2 x scope code fp pn) rfl rfl rfl rfl i [] s [none] H (fun _ _ => False) I hfp hst go) fun r s1 ⟨u, hr, h1⟩ => ?_
      subst hr
      dsimp only
      refine seg_bind_wrap ?_
      rw [over_gen]
      refine thnF h1 fun _ s2 ⟨y, H', I2, r2, y2, st2, n2⟩ => ?_
      have f2 : ∀ b ∈ fp, FpOk (gcx X A sB H2 x scope code fp pn) [] H' b := fun b hb => ⟨n2 b hb, (hfp b hb).2⟩
      have I2' := I2.pinned f2 (T.obj _ _ st2)
      refine seg_bind_wrap ?_
      rw [over_gen]
      refine thnF (hg.run _ s2 _ H' y u _ I2' r2 (step y H' y2)) fun _ s3 ⟨σ3, H3, I3, q3⟩ => ?_
      simp only [List.forIn_nil]
      refine seg_bind_wrap (wpAny_pure ?_)
      simp only [if_true]
      have hy : ∀ v, yieldOut (gEnv X sB scope code) v = yieldValue v := fun v => by
        have e : (gEnv X sB scope code).scope.isCoroutine = false := hco
        simp only [yieldOut, e, Bool.false_eq_true, if_false]
      simp only [hy]
      rw [Sem.bind_eq_wrap', Sem.bind_eq_wrap', Sem.wrap_wrap, Sem.wrap_wrap]
      refine seg_wrap ?_
      rw [over_gen]
      refine thnF (he.run _ s3 σ3 H3 _ I3 q3) fun v s4 ⟨z, H4, I4, r4, c, ez, q4⟩ => ?_
      subst ez
      cases (show v = Value.bool c from r4)
      refine seg_at (seg_yield rfl rfl rfl ⟨c, H4, _, _, rfl, I4, fun e => ?_, fun e s'' eh eo eb => ?_⟩)
      · subst e
        exact q4
      · subst e
        obtain ⟨m', hm', hW'⟩ := hNx H4 q4
        have pin' : ∀ b ∈ fp, ∀ o, s2.heap.get? b = some o → s4.heap.get? b = some o ∧ H4 b = none := fun b hb o e =>
          let z := I4.pin (b, o) (List.mem_append_right _ (List.mem_append_right _ (mem_pinsAt hb e)))
          ⟨z.1, z.2.1⟩
        have I5 : Inv (gcx X A sB H2 x scope code fp pn) [] [none] H4 s'' := inv_same ((I4.unpinned (pins := [])).weak (by rw [I4.len]; rfl) (fun j v e => by
          cases j with
          | zero => cases e
          | succ j => cases e)) eo eb fun b o e => by rw [eh]; exact e
        refine seg_again rfl (ih m' hm' n (i + 1) s'' s'' H4 (by omega) hW' I5 (T.keep _ _ _ st2 fun b hb o e => by rw [eh]; exact (pin' b hb o e).1) fun b hb => ⟨?_, (hfp b hb).2⟩)
        obtain ⟨o, e, _⟩ := T.obj _ _ st2 b hb
        exact (pin' b hb o e).2
end
end GxG
end
section
set_option Elab.async false
set_option linter.all false
set_option maxRecDepth 100000
set_option maxHeartbeats 2000000
namespace GxG
open PySem PySem.Spec PyProof.Rows L2 GenW
open GxR (TabB TabG Tabbed inv_tab sh_eta)
section
variable {A : Around} {R : Result → Shared → Prop} {B : Cx} {QT QF : Hp → Prop} {a : Addr} {g : Nat} {go : Obj} {nm qn : Value}
theorem drain_all (hh : A.handled = none) (hd : A.depth < recursionLimit) (hpn : (a, go) ∈ B.pn) (hgo : go.cls = .type "generator" ∧ go.data = .fields #[.int g 0, nm, qn] ∧ go.slots = #[])
    (hT : ∀ H' s1 s', Inv B [] [none] H' s1 → QT H' → s'.os = s1.os → AllBare s'.gens → (∀ b o, s1.heap.get? b = some o → s'.heap.get? b = some o) → R (.ok (.ret (.bool true))) s')
    (hF : ∀ H' σ' pins' s1 s', Inv B pins' σ' H' s1 → QF H' → s'.os = s1.os → AllBare s'.gens → (∀ b o, s1.heap.get? b = some o → s'.heap.get? b = some o) → R (.ok (.ret (.bool false))) s') :
    ∀ (n : Nat) (s : Shared), s.heap.IsGen a g → s.heap.NoLimit →
      (∃ gs, s.gens[g]? = some gs ∧ gs.Goes (model B.prog B.w) A.in1.in1 (GEnd B QT) (GItem B QF) n (.send .none) (s.setGen g .running)) →
      codeAny (model B.prog B.w) A (.builtin "all.loop" ⟨[.ref a], []⟩) R s := by
  have goes : ∀ {gs : GenState} {A' : Around} {n : Nat} {r : Resume} {s : Shared}, gs.Goes (model B.prog B.w) A' (GEnd B QT) (GItem B QF) n r s →
      gs.Goes (model B.prog B.w) A' (fun n s₀ r s1 => ((r = .ok (.ret .none) ∨ r = .ok .next) ∧ (∃ H', Inv B [] [none] H' s1 ∧ QT H')) ∨ ∃ e, r = .error e ∧ False) (GItem B QF) n r s := fun h => h
  have isg : ∀ {pins' σ' H' s'}, Inv B pins' σ' H' s' → s'.heap.IsGen a g := fun {pins' σ' H' s'} I =>
    ⟨go, nm, qn, (I.pin (a, go) (List.mem_append_left _ hpn)).1, hgo.1, hgo.2.1, hgo.2.2⟩
  intro n
  induction n with
  | zero =>
    intro s hg hl ⟨gs, hgs, hgo'⟩
    refine codeAny_builtin F.entry_all_loop ?_
    rw [Around.under_plainId F.plain_all_loop _]
    show wpAny _ A.in1 (pyNext (.ref a) >>= _) _ _ s
    refine wpAny_bind (next_genG (A := A.in1) (Er := fun _ _ => False) hh hl hd hg hgs (goes hgo') (fun v s₁ gs' hbare hv => ?_) (fun s₁ hp h' hk => ?_) fun e s₁ he => he.elim)
    · obtain ⟨c, H', σ', pins', rfl, I', q1, q2⟩ := hv
      refine wpAny_bind (wpAny_holding (wpAny_truthy_bool ?_))
      refine wpAny_bind (wpAny_letGo ?_)
      cases c with
      | true => exact False.elim (q2 rfl s₁ rfl rfl I'.bare)
      | false =>
        simp only [Bool.false_eq_true, if_false]
        exact wpAny_bind (wpAny_rule (wpAny_pure (hF H' σ' pins' s₁ _ I' (q1 rfl) rfl (allBare_setGen I'.bare hbare) fun b o e => e)))
    · obtain ⟨H', I', q⟩ := hp
      exact wpAny_bind (wpAny_rule (wpAny_pure (hT H' s₁ _ I' q rfl (allBare_setGen I'.bare rfl) hk)))
  | succ n ih =>
    intro s hg hl ⟨gs, hgs, hgo'⟩
    have hgl : g < s.gens.size := (Array.getElem?_eq_some_iff.mp hgs).1
    refine codeAny_builtin F.entry_all_loop ?_
    rw [Around.under_plainId F.plain_all_loop _]
    show wpAny _ A.in1 (pyNext (.ref a) >>= _) _ _ s
    refine wpAny_bind (wpAny_gsz (n := g + 1) hgl (next_genG (A := A.in1) (Er := fun _ _ => False) hh hl hd hg hgs (goes hgo') (fun v s₁ gs' hbare hv => ?_) (fun s₁ hp h' hk => ?_) fun e s₁ he => he.elim))
    · intro hsz
      obtain ⟨c, H', σ', pins', rfl, I', q1, q2⟩ := hv
      refine wpAny_bind (wpAny_holding (wpAny_truthy_bool ?_))
      refine wpAny_bind (wpAny_letGo ?_)
      cases c with
      | true =>
        simp only [if_true]
        have hsz1 : g < s₁.gens.size := by
          have q : (s₁.setGen g gs').gens.size = s₁.gens.size := setGen_size _ _ _
          have hsz' : g + 1 ≤ (s₁.setGen g gs').gens.size := hsz
          omega
        refine wpAny_pure ⟨plainId_quiet F.plain_all_loop _, ih (s₁.setGen g gs') (show s₁.heap.IsGen a g from isg I') (show s₁.heap.NoLimit from I'.nolimit) ⟨gs', setGen_at hsz1, ?_⟩⟩
        exact q2 rfl _ rfl rfl (allBare_setGen (s := s₁.setGen g gs') (allBare_setGen I'.bare hbare) rfl)
      | false =>
        simp only [Bool.false_eq_true, if_false]
        exact wpAny_bind (wpAny_rule (wpAny_pure (hF H' σ' pins' s₁ _ I' (q1 rfl) rfl (allBare_setGen I'.bare hbare) fun b o e => e)))
    · intro hsz
      obtain ⟨H', I', q⟩ := hp
      exact wpAny_bind (wpAny_rule (wpAny_pure (hT H' s₁ _ I' q rfl (allBare_setGen I'.bare rfl) hk)))
end
/-- all(elt for tg in iter): the walk's invariant W by turn and measure; behind it the def's table may have grown -/
def tAllG (P : Addr) (wi : TI) (g : TG) (te : TE) : TE := fun σ H Q => wi σ H fun J H1 => TabG H1 P ∧ ∀ H2, Tabbed P H1 H2 → ∃ W : Nat → Nat → Hp → Prop, (∃ m, W 0 m H2) ∧ GTurns J g te W (Q (.bl true)) (Q (.bl false))
section
variable {X : Cx}
theorem pe_allG {c P : Addr} {elt iter tg : Expr} {x : Str} {p pos gpos : Pos} {scope : Scope} {wi : TI} {g : TG} {te : TE} {k : Nat}
    (hr : Room (k + 1) X.A) (hg : Gl X "all") (hm : X.mg "all" = none) (TB : TabB X.base X.mg c P) (hcode : X.env.code = .ref c) (S : GenS X.env scope x) (hi : PI X tg iter wi)
    (hpg : ∀ (A : Around) (sB : Shared) (H : Hp) (code : Value) (fp : List Addr) (pn : List (Addr × Obj)), PG (gcx X A sB H x scope code fp pn) tg g)
    (hel : ∀ (A : Around) (sB : Shared) (H : Hp) (code : Value) (fp : List Addr) (pn : List (Addr × Obj)), Room k (gcx X A sB H x scope code fp pn).A → PE (gcx X A sB H x scope code fp pn) elt te)
    (hs : ∀ v, genFold iter X.env v = pure v := by intro _; rfl)
    (he : starEach [.GeneratorExp elt [⟨tg, iter, [], 0⟩] scope gpos] X.env = (false, eval (.GeneratorExp elt [⟨tg, iter, [], 0⟩] scope gpos) X.env) :: starEach [] X.env := by rfl) :
    PE X (.Call (.Name "all" p) [.GeneratorExp elt [⟨tg, iter, [], 0⟩] scope gpos] [] pos) (tAllG P wi g te) := by
  refine ⟨fun pins s σ H Q I h => ?_⟩
  refine wpAny_Call_Name_kw (ld_blt I hg hm (by decide +kernel : bootBuiltins "all" = some (.builtin "all")) ?_)
  refine PyProof.Rows.callWith_builtin1 ?_ he (by rfl)
  rw [he]
  show wpAny _ _ (spliced ((false, eval (.GeneratorExp elt [⟨tg, iter, [], 0⟩] scope gpos) X.env) :: backTo pos (starEach [] X.env))) _ _ s
  refine Calls.spliced_cons (gen_it (R := fun J H1 => ∀ H2, Tabbed P H1 H2 → ∃ W : Nat → Nat → Hp → Prop, (∃ m, W 0 m H2) ∧ GTurns J g te W (Q (.bl true)) (Q (.bl false))) hr TB hcode S hi hs I h fun J H1 H2 it fp tn code sB s5 hR M => ?_)
  refine Calls.spliced_nil ?_
  obtain ⟨W, ⟨m0, w0⟩, turn⟩ := hR H2 M.tab
  obtain ⟨go, nm, qn, hgo, hc, hd, hsl⟩ := M.gen
  have hh : X.A.handled = none := hr.hd
  have hA : X.A.in1.in1.frames = some X.stack := I.ok.frames
  have I5 := inv_gen (A := X.A.in1.in1) M S hA hh hgo hd
  have hroom : Room k (gcx X X.A.in1.in1 sB H2 x scope code fp [(sB.heap.objs.size + 1, go)]).A := by
    refine ⟨hh, ?_, ?_⟩
    · have := hr.dp
      show X.A.depth + 1 + 3 * k + 5 < _
      omega
    · have := hr.un
      show X.A.units + 1 + 1 + 3 + 16 * k + 200 < _
      omega
  have hgl : sB.gens.size < s5.gens.size := (Array.getElem?_eq_some_iff.mp M.gs).1
  refine call_function_tree F.kind_all F.plain_all F.entry_all (F.args_all1 _) ?_
  unfold Builtin.«all»
  refine wpAny_bind (m := oneArg "all" _) (wpAny_pure ?_)
  refine wpAny_bind (wpAny_pyIter_gen (g := sB.gens.size) ⟨go, nm, qn, hgo, hc, hd, hsl⟩ ?_)
  refine wpAny_pure ⟨plainId_quiet F.plain_all_loop _, ?_⟩
  refine drain_all (B := gcx X X.A.in1.in1 sB H2 x scope code fp [(sB.heap.objs.size + 1, go)]) (QT := Q (.bl true)) (QF := Q (.bl false)) (g := sB.gens.size) hh hr.depth (List.mem_singleton.mpr rfl) ⟨hc, hd, hsl⟩
    (fun H' s1 s' I' q ho hb hk => ⟨.bl true, H', inv_back M (inv_same I' ho hb hk), rfl, q⟩) (fun H' σ' pins' s1 s' I' q ho hb hk => ⟨.bl false, H', inv_back M (inv_same I' ho hb hk), rfl, q⟩)
    (m0 + 1) s5 ⟨go, nm, qn, hgo, hc, hd, hsl⟩ I5.nolimit ⟨_, M.gs, rfl, ?_⟩
  -- the generator starts
  have I6 : Inv (gcx X X.A.in1.in1 sB H2 x scope code fp [(sB.heap.objs.size + 1, go)]) [] [none] H2 (s5.setGen sB.gens.size .running) := inv_same I5 rfl (allBare_setGen M.bare rfl) fun b o e => e
  have f6 : ∀ b ∈ fp, FpOk (gcx X X.A.in1.in1 sB H2 x scope code fp [(sB.heap.objs.size + 1, go)]) [] H2 b := fun b hb => by
    refine ⟨(M.fpo b hb).1.1, Nat.ne_of_lt (M.fpo b hb).2, fun z => I5.ok.exfs b hb z, .inl hb, fun y c e => ?_, fun p hp => ?_⟩
    · have e' : ([] : List (Str × Addr)).lookup y = some c := e
      cases e'
    · rw [List.mem_singleton.mp hp]
      exact Nat.ne_of_gt (Nat.lt_succ_of_lt (M.fpo b hb).2)
  have tn6 : tn 0 (s5.setGen sB.gens.size .running).heap := M.turn.keep _ _ _ M.tn0 fun b _ o e => M.keep b o e
  have loop := seg_loop (A := X.A.in1.in1) (elt := elt) (iter := iter) (gpos := gpos) (g := g) (te := te) (W := W) (QT := Q (.bl true)) (QF := Q (.bl false)) S.co M.turn (hpg _ sB H2 code fp [(sB.heap.objs.size + 1, go)]) (hel _ sB H2 code fp [(sB.heap.objs.size + 1, go)] hroom) turn
    m0 (m0 + 1) 0 (s5.setGen sB.gens.size .running) (s5.setGen sB.gens.size .running) H2 (Nat.lt_succ_self _) w0 I6 tn6 f6
  show Seg _ _ _ _ _ _ _ ((compStart (.GeneratorExp elt [⟨tg, iter, [], 0⟩] scope gpos) 0 (.ref it) .none (gEnv X sB scope code)).onRaise (leaving (gEnv X sB scope code))) [] _
  unfold compStart
  rw [Sem.onRaise_eq_wrap]
  show Seg _ _ _ _ _ _ _ ((ask >>= _).wrap _ _ _ _) [] _
  refine seg_bind_wrap (wpAny_askSetting ?_)
  split
  · exact seg_again rfl loop
  · refine seg_bind_wrap (wpAny_rule ?_)
    show Seg _ _ _ _ _ _ _ ((standAt iter.pos >>= _).wrap _ _ _ _) [] _
    refine seg_bind_wrap (wpAny_standAt (seg_bind_wrap ?_))
    exact M.turn.self _ 0 _ _ _ tn6 (seg_again rfl loop)
end
end GxG
end
section
set_option Elab.async false
set_option linter.all false
set_option maxRecDepth 100000
namespace GxG
open PySem PySem.Spec PyProof.Rows L2 GenW
theorem nd1 (x : Str) : [x].Nodup := by simp
/-- the turns of all(..) over a walk -/
theorem ga_it {J : It} {n : Nat} {G : Hp → Prop} {Y : Nat → Hp → V → Hp → Prop} (w : Walk J n G Y) {g : TG} {te : TE} {H0 : Hp} {QT QF : Hp → Prop} (Pv : Nat → Hp → Prop) (h0 : Pv 0 H0) (hG : ∀ i H, i ≤ n → Pv i H → G H)
    (hs : ∀ i y H H', i < n → Pv i H → Y i H y H' → g y [none] H' fun σ2 H2 => te σ2 H2 fun z H3 => ∃ c, z = .bl c ∧ if c = true then Pv (i + 1) H3 else QF H3) (hd : ∀ H, Pv n H → QT H) :
    ∃ W : Nat → Nat → Hp → Prop, (∃ m, W 0 m H0) ∧ GTurns J g te W QT QF := by
  refine ⟨fun i m H => m = n - i ∧ i ≤ n ∧ Pv i H, ⟨n, by simp, Nat.zero_le _, h0⟩, ?_⟩
  rintro i m H ⟨rfl, hi, p⟩
  have q := hG i H hi p
  by_cases hlt : i < n
  · exact .inr ⟨w.goes i H hlt q, Pv (i + 1), fun H' p' => ⟨n - (i + 1), by omega, rfl, hlt, p'⟩, fun y H' yy => hs i y H H' hlt p (w.yields i H y H' hlt q yy)⟩
  · have e : i = n := by omega
    subst e
    exact .inl ⟨w.stops H q, hd H p⟩
/-- all of a list, by its first parts -/
theorem all_take {α : Type} {l : List α} {p : α → Bool} {i : Nat} {c : α} (h : (l.take i).all p = true) (hc : l[i]? = some c) : (p c = true → (l.take (i + 1)).all p = true) ∧ (p c = false → l.all p = false) := by
  have e : l.take (i + 1) = l.take i ++ [c] := by rw [List.take_add_one, hc] <;> rfl
  refine ⟨fun z => by rw [e, List.all_append, h]; simp [z], fun z => ?_⟩
  cases q : l.all p with
  | false => rfl
  | true =>
    have := List.all_eq_true.mp q c (List.mem_of_getElem? hc)
    rw [z] at this
    cases this
end GxG
end
section
set_option Elab.async false
set_option linter.all false
set_option maxRecDepth 100000
set_option maxHeartbeats 2000000
/-! enumerate(t), t a tuple, in a for -/
namespace EnT
open PySem PySem.Spec PyProof.Rows L2
theorem meets_new {t : Addr} (items : Array Value) :
    Meets (Builtin.«enumerate.__new__» ⟨[.type "enumerate", .ref t], []⟩) (fun _ R s => s.heap.IsTuple t items ∧
      R (.ok (.ret (.ref (s.heap.push { cls := .type "tuple_iterator", data := .fields #[.ref t, .int 0 0] }).objs.size)))
        { s with heap := (s.heap.push { cls := .type "tuple_iterator", data := .fields #[.ref t, .int 0 0] }).push { cls := .type "enumerate", data := .fields #[.none, .bool false, .ref s.heap.objs.size, rawInt 0, .none, .none] } }) :=
  .of_wp fun prog w A R s h => by
    obtain ⟨hp, g, d, tk, os⟩ := s; obtain ⟨h1, h⟩ := h
    have hsub := sub_enumerate
    have q1 : ∀ {A' : Around} {E : Value → Shared → Prop} {Q : Value → Shared → Prop}, Q (.ref hp.objs.size) ⟨hp.push { cls := .type "tuple_iterator", data := .fields #[.ref t, .int 0 0] }, g, d, tk, os⟩ → wpAny (model prog w) A' (pyIter (.ref t)) Q E ⟨hp, g, d, tk, os⟩ :=
      fun q => (begins_tuple t items).iter prog w _ _ ⟨hp, g, d, tk, os⟩ _ h1 q
    wp_walk using q1
    refine wpAny_stack_any fun st => wpAny_pure ?_
    split
    · rename_i c _ _ _ _ _
      cases (c == Value.type "enumerate")
      · wp_walk using q1
        exact ⟨_, rfl, h⟩
      · wp_walk using q1
        exact ⟨_, rfl, h⟩
    · wp_walk using q1
      exact ⟨_, rfl, h⟩
section
variable {prog : Program} {w : World} {A : Around} {E : Value → Shared → Prop} {s : Shared}
theorem call_enum {t : Addr} {items : Array Value} {Q : Value → Shared → Prop} (h1 : s.heap.IsTuple t items)
    (h : ∀ h', IsEnum h' (s.heap.objs.size + 1) s.heap.objs.size 0 .none → h'.IsTupleIter s.heap.objs.size t 0 →
      (∀ b o, s.heap.get? b = some o → h'.get? b = some o) → Q (.ref (s.heap.objs.size + 1)) { s with heap := h' }) :
    wpAny (model prog w) A (call (.type "enumerate") [.ref t]) Q E s := by
  refine callType_new F.called_enumerate (by decide) (F.typeCall_enumerate_1 _) (F.newCall_enumerate_1 _) (fun obj => F.args_object_init_2 obj _) F.entry_enumerate_new (meets_new items) ⟨h1, ?_⟩
  generalize hob : ({ cls := .type "tuple_iterator", data := .fields #[.ref t, .int 0 0] } : Obj) = ob
  have hfree : ob.isFreed = false := by rw [← hob]; rfl
  have hz : (s.heap.push ob).objs.size = s.heap.objs.size + 1 := Heap.size_push ..
  show _ ∧ _
  rw [hz]
  have he : IsEnum ((s.heap.push ob).push { cls := .type "enumerate", data := .fields #[.none, .bool false, .ref s.heap.objs.size, rawInt 0, .none, .none] }) (s.heap.objs.size + 1) s.heap.objs.size 0 .none := by
    have q := Heap.get?_push_size (s.heap.push ob) (o := { cls := .type "enumerate", data := .fields #[.none, .bool false, .ref s.heap.objs.size, rawInt 0, .none, .none] }) rfl
    rw [hz] at q
    exact q
  refine ⟨⟨_, he, rfl⟩, h _ he ⟨ob, Heap.get?_push_of_some _ (Heap.get?_push_size _ hfree), by subst hob; rfl, by subst hob; rfl⟩ fun b o x => Heap.get?_push_of_some _ (Heap.get?_push_of_some _ x)⟩
end
def IteT (K : PySem.W.Frag) (a : Addr) : It :=
  ⟨fun i H => ∃ (xs : List V) (x : V), SqT K H a xs ∧ xs[i]? = some x, fun i H v H' => ∃ T x, v = .ref T ∧ H T = none ∧ H' = upd H T (.tup [.int (i : Nat), x]) ∧ ∀ xs, SqT K H a xs → xs[i]? = some x, fun i H => ∃ xs : List V, SqT K H a xs ∧ xs.length ≤ i⟩
theorem turn_enumT {P : Program} {w : World} {K : PySem.W.Frag} {elts : List Expr} {kk : Nat} {tpos : Pos} (a e it : Addr) :
    Turn P w K (.Tuple elts kk tpos) (IteT K a) [e, it] e (fun i h => (∃ old, IsEnum h e it ((i : Nat) : Int) old) ∧ h.IsTupleIter it a i ∧ e ≠ it ∧ a ≠ it ∧ e ≠ a) where
  mem := by simp
  obj := fun i h st b hb => by
    obtain ⟨⟨old, he⟩, ⟨o, ho, hc, hd⟩, _⟩ := st
    have e' : b = e ∨ b = it := by simpa using hb
    rcases e' with z | z
    · rw [z]; exact ⟨_, he, fun v q => nomatch q⟩
    · rw [z]; exact ⟨o, ho, fun v q => by rw [hd] at q; cases q⟩
  keep := fun i h h' st k => let ⟨⟨old, he⟩, hi, hne⟩ := st; ⟨⟨old, k e (by simp) _ he⟩, hi.at fun o q => k it (by simp) o q, hne⟩
  item := by
    intro X hP hw hK hc i pins s σ H E I hf st hg
    subst hP hw hK
    obtain ⟨⟨old, he⟩, hit, hne, hai, hea⟩ := st
    obtain ⟨xs, x, hq, hx⟩ := hg
    obtain ⟨its, rv, p, hz⟩ := I.tuple hq
    obtain ⟨u, hu, ru⟩ := rv.get hx
    have hel : e < s.heap.objs.size := Heap.lt_size he
    have hil : it < s.heap.objs.size := by obtain ⟨_, q, _⟩ := hit; exact Heap.lt_size q
    have hsz0 : i < its.toArray.size := by
      have := (List.getElem?_eq_some_iff.mp hu).1
      simpa using this
    refine wpAny_pyNext_enum_itemD (Draws.tuple (A := X.A.in1) (I.ok.hd hc) it a hai its.toArray) he ⟨hit, p⟩ hsz0 hne (by simp [hne, hea]) fun y h' tk hy ho hst hT hsz hk => ?_
    obtain rfl : y = u := by
      rw [show its.toArray[i]? = some u by simpa using hu] at hy
      exact (Option.some.inj hy).symm
    refine ⟨_, rfl, wpAny_letOwnedTupleGo_enum (s := { s with heap := h', toks := tk + 1 }) ho fun h'' he' sb => ?_⟩
    have hT2 : h''.get? s.heap.objs.size = some { cls := .type "tuple", data := .seq #[.int i tk, y] } := (sb.2 _ (Nat.ne_of_gt hel)).trans hT
    have new : ObjOk X.prog X.w (upd H s.heap.objs.size (.tup [.int (i : Nat), x])) h'' s.heap.objs.size (.tup [.int (i : Nat), x]) :=
      ⟨by show 2 ≤ sizeLine; decide, [.int i tk, y], .cons ⟨_, rfl⟩ (.cons ru .nil), ⟨_, hT2, rfl, _, rfl⟩⟩
    have I1 : Inv X pins σ (upd H s.heap.objs.size (.tup [.int (i : Nat), x])) { s with heap := h'', toks := tk + 1 } :=
      I.turnedNew (ch := [e, it]) (fun b ob hb q => (sb.2 b (fun z => hb (by simp [z]))).trans (hk b ob (fun z => hb (by simp [z])) (fun z => hb (by simp [z])) q)) hf (Nat.le_refl _) new
    refine ⟨.ref s.heap.objs.size, _, I1, rfl, ⟨_, x, rfl, I.hok.fresh (Nat.le_refl _), rfl, fun ys hy => by rw [I.tuple_inj hy hq]; exact hx⟩, ⟨⟨y, ?_⟩, hst.1.at fun o q => (sb.2 it (Ne.symm hne)).trans q, hne, hai, hea⟩, fun b hb => ?_⟩
    · have e1 : ((i + 1 : Nat) : Int) = (i : Int) + 1 := by omega
      rw [e1]; exact he'
    · have hb' : b < s.heap.objs.size := by
        have e' : b = e ∨ b = it := by simpa using hb
        rcases e' with z | z
        · rw [z]; exact hel
        · rw [z]; exact hil
      rw [upd_ne (Nat.ne_of_lt hb')]
      exact (hf b hb).1
  done := by
    intro X hP hw hK hc i pins s σ H E I hf st hg
    subst hP hw hK
    obtain ⟨⟨old, he⟩, hit, hne, hai, hea⟩ := st
    obtain ⟨xs, hq, hx⟩ := hg
    obtain ⟨its, rv, p, hz⟩ := I.tuple hq
    obtain ⟨f0, f1, f2, f3, f4, f5⟩ := hf it (by simp)
    have hl := rv.length
    have hT : s.TypeIs (.ref e) "enumerate" := ⟨_, he, rfl⟩
    unfold pyNext
    refine wpAny_bind (wpAny_attempt (wpAny_callSpecial?_slot (name := Str.ofString "__next__") hT F.slot_enumerate_next (wpAny_call_entry F.slot_enumerate_next hT F.entry_enumerate_next ?_ (F.args_enumerate_next_1 _))))
    show wpAny _ _ (field (.ref e) 2 >>= _) _ _ _
    refine wpAny_bind (wpAny_field he rfl (x := .ref it) rfl ?_)
    refine wpAny_bind (wpAny_nextOf_tuple_end (I.ok.hd hc) hit p (by simp; omega) fun h' x he' hx' => ?_)
    obtain ⟨o, ho, hc⟩ := hx'
    refine wpAny_bind (wpAny_isInstance (T := "StopIteration") (b := true) ⟨o, ho, hc⟩ isSubtype_stop ?_)
    exact wpAny_pure ⟨rfl, I.turned (t' := s.toks) (fun b o hb q => he' b o hb q) f0 f1 f3 f4 f5⟩
  self := fun A i s Q E st h => let ⟨⟨_, he⟩, _⟩ := st; wpAny_pyIter_enum he h
def iEnumT (K : PySem.W.Frag) (ta : TA) : TI := fun σ H R => ta σ H fun vs H1 => ∃ a xs, vs = [.ref a] ∧ SqT K H1 a xs ∧ R (IteT K a) H1
theorem pi_enumT {X : Cx} {e : Expr} {ta : TA} {p pos tpos : Pos} {elts : List Expr} {kk : Nat} (hg : Gl X "enumerate") (hm : X.mg "enumerate" = none) (ha : PA X [e] ta) (hs : starEach [e] X.env = [(false, eval e X.env)] := by rfl) :
    PI X (.Tuple elts kk tpos) (.Call (.Name "enumerate" p) [e] [] pos) (iEnumT X.K ta) := by
  refine ⟨fun pins s σ H R I h => ?_⟩
  refine Call_ (ld_blt I hg hm boot_enumerate (PyProof.Rows.callWith_type1 (thn (ha.run pos pins s σ H _ I h) fun us s1 ⟨vs, H1, I1, r1, q1⟩ => ?_) hs rfl))
  obtain ⟨a, xs, ex, hq, q⟩ := q1
  subst ex
  cases r1 with
  | cons r rr =>
    cases rr
    cases r
    obtain ⟨its, rv, p', hz⟩ := I1.tuple hq
    have hal : a < s1.heap.objs.size := let ⟨_, h, _⟩ := p'; Heap.lt_size h
    refine call_enum (items := its.toArray) p' fun h' he hit hk => wpAny_pyIter_enum he ?_
    have I2 : Inv X pins σ H1 { s1 with heap := h' } := I1.kept (t' := s1.toks) hk
    refine ⟨s1.heap.objs.size + 1, [s1.heap.objs.size + 1, s1.heap.objs.size], _, _, H1, rfl, I2, turn_enumT a (s1.heap.objs.size + 1) s1.heap.objs.size, ⟨⟨.none, he⟩, hit, Nat.succ_ne_self _, Nat.ne_of_lt hal, Nat.ne_of_gt (Nat.lt_succ_of_lt hal)⟩, fun b hb => ?_, q⟩
    have e' : b = s1.heap.objs.size + 1 ∨ b = s1.heap.objs.size := by simpa using hb
    have hle : s1.heap.objs.size ≤ b := by
      rcases e' with z | z
      · rw [z]; exact Nat.le_add_right _ _
      · rw [z]; exact Nat.le_refl _
    exact I1.fpOk hle (I1.hok.fresh hle)
theorem walk_enumT {K : PySem.W.Frag} {a : Addr} {xs : List V} : Walk (IteT K a) xs.length (fun H => SqT K H a xs) (YPair (fun i => some (.int (i : Nat))) (fun i => xs[i]?)) := by
  refine ⟨fun i _ hi q => ⟨xs, xs[i], q, by simp [hi]⟩, fun _ q => ⟨xs, q, Nat.le_refl _⟩, fun i H v H' _ q y => ?_⟩
  obtain ⟨T, x, h1, h2, h3, h4⟩ := y
  exact ⟨T, .int (i : Nat), x, h1, h2, h3, rfl, h4 xs q⟩
end EnT
end
section
set_option Elab.async false
set_option linter.all false
set_option maxRecDepth 100000
set_option maxHeartbeats 2000000
namespace Ah
open PySem PySem.Spec PyProof.Rows L2
open GxR (TabB TabG Tabbed)
/-! ### the text by places -/
def top (i : Nat) : Stmt := PySem.Challenge.pw_answerhouse_k05_sayings_counts_numbers_r.main.body.getD i (.Pass ⟨0, 0, 0, 0⟩)
abbrev sWall : Stmt := top 2
abbrev sPlaces : Stmt := top 5
abbrev sLKind : Stmt := top 6
abbrev sLOn : Stmt := top 7
abbrev sLTie : Stmt := top 8
abbrev sLBy : Stmt := top 9
abbrev sRInit : Stmt := inClass (top 10) 0
abbrev sRLeads : Stmt := inClass (top 10) 1
abbrev sRWork : Stmt := inClass (top 10) 2
abbrev sAll : Stmt := top 11
abbrev sSizeOf : Stmt := top 13
abbrev sSearchInit : Stmt := inClass (top 14) 0
abbrev sSearchRun : Stmt := inClass (top 14) 1
abbrev sSearchRunLevel : Stmt := inClass (top 14) 2
abbrev sSearchFindsOther : Stmt := inClass (top 14) 3
abbrev sSearchHasPart : Stmt := inClass (top 14) 4
abbrev sSearchPut : Stmt := inClass (top 14) 5
abbrev sSearchTake : Stmt := inClass (top 14) 6
abbrev sSearchJoinSecond : Stmt := inClass (top 14) 7
abbrev sSearchJoinFirst : Stmt := inClass (top 14) 8
abbrev sSearchMasks : Stmt := inClass (top 14) 9
abbrev sMasksOf : Stmt := top 15
abbrev sLotsOfMask : Stmt := top 16
abbrev sAsLots : Stmt := top 17
abbrev sBadrowInit : Stmt := inClass (top 20) 0
abbrev sBadstepsInit : Stmt := inClass (top 23) 0
abbrev sBaddeedInit : Stmt := inClass (top 26) 0
abbrev sHaltedInit : Stmt := inClass (top 27) 0
abbrev sBadtextInit : Stmt := inClass (top 28) 0
abbrev sIsWord : Stmt := top 35
abbrev sIsRow : Stmt := top 36
abbrev sIsSaying : Stmt := top 37
abbrev sIsQuestion : Stmt := top 38
abbrev sIsNumber : Stmt := top 39
abbrev sCheck : Stmt := top 40
abbrev sCheckSaying : Stmt := top 41
abbrev sCheckQuestion : Stmt := top 42
abbrev sCheckNumber : Stmt := top 43
abbrev sToldOf : Stmt := top 44
abbrev sNamesOf : Stmt := top 45
abbrev sFillings : Stmt := top 46
abbrev sFollows : Stmt := top 48
abbrev sBearers : Stmt := top 49
abbrev sLotsOf : Stmt := top 50
abbrev sFirstBits : Stmt := top 53
abbrev sTrialInit : Stmt := inClass (top 54) 0
abbrev sTrialBits : Stmt := inClass (top 54) 1
abbrev sTrialOtherLotsClash : Stmt := inClass (top 54) 2
abbrev sTrialDisturbing : Stmt := inClass (top 54) 3
abbrev sTrialFirstFit : Stmt := inClass (top 54) 4
abbrev sTrialFirstWay : Stmt := inClass (top 54) 5
abbrev sTrialHelpful : Stmt := inClass (top 54) 6
abbrev sAsk : Stmt := top 58
abbrev sWordOf : Stmt := top 60
abbrev sFirstOf : Stmt := top 61
abbrev sAgainst : Stmt := top 62
abbrev sWhich : Stmt := top 63
abbrev sWordsOf : Stmt := top 64
abbrev sMissing : Stmt := top 65
abbrev sWorthTelling : Stmt := top 66
abbrev sIsDeed : Stmt := top 69
abbrev sCheckDeeds : Stmt := top 70
abbrev sHouseInit : Stmt := inClass (top 71) 0
abbrev sHouseText : Stmt := inClass (top 71) 1
abbrev sHousePut : Stmt := inClass (top 71) 2
abbrev sHouseDrop : Stmt := inClass (top 71) 3
abbrev sHouseTell : Stmt := inClass (top 71) 4
abbrev sHouseAsk : Stmt := inClass (top 71) 5
abbrev sHouseKept : Stmt := inClass (top 71) 6
abbrev sHouseTurned : Stmt := inClass (top 71) 7
abbrev sHouseBatch : Stmt := inClass (top 71) 8
abbrev sHouseBegin : Stmt := inClass (top 71) 9
abbrev sHouseEnd : Stmt := inClass (top 71) 10
abbrev sHouseDo : Stmt := inClass (top 71) 11
abbrev sHouseTold : Stmt := inClass (top 71) 12
abbrev sHouseIsIdle : Stmt := inClass (top 71) 13
abbrev sResultsOf : Stmt := top 73
abbrev sLeft : Stmt := top 74
abbrev sHanging : Stmt := top 75
abbrev sOnlyFirst : Stmt := top 76
abbrev sPaper : Stmt := top 78
abbrev sReasonsInit : Stmt := inClass (top 79) 0
abbrev sReasonsSeek : Stmt := inClass (top 79) 1
abbrev sReasonsNeedsOf : Stmt := inClass (top 79) 2
abbrev sReasonsPut : Stmt := inClass (top 79) 3
abbrev sReasonsTake : Stmt := inClass (top 79) 4
abbrev sReasonsSteps : Stmt := inClass (top 79) 5
abbrev lRow : Stmt := top 81
abbrev lTaken : Stmt := top 82
abbrev lOne : Stmt := top 83
abbrev lText : Stmt := top 84
abbrev lWord : Stmt := top 85
abbrev lSaying : Stmt := top 86
abbrev lLaw : Stmt := top 87
abbrev FnP (K : PySem.W.Frag) (x : Str) (st : Stmt) (f : Addr) (fd : FuncData) : Prop := FunD K x x (defArgs st) (defBody st) (defScope st) [] [] f fd
/-- the rule for a def whose code object is known -/
theorem okC {P : Program} {w : World} {K : PySem.W.Frag} {mg : Str → Option Value} {base : Heap} {x qual : Str} {params : Arguments} {body : List Stmt} {scope : Scope} {dvs : List V} {kws : List (Str × V)} {f c : Addr} {fd : FuncData}
    {CX : CXT} {N ps : List Str} {k : Nat} {sp : Sp} (F : FunD K x qual params body scope dvs kws f fd) (hc : fd.code = .ref c) (S : FnScope N ps scope) (len : ∀ vs H Q E, sp vs H Q E → vs.length = ps.length)
    (hbody : ∀ (A : Around) (outer : List Env) (s : Shared) (H : Hp) (vs : List V) (Q : VK) (E : XK), Room k (A.deeper (envOfC qual scope s.heap.objs.size f (.ref c))) → sp vs H Q E →
      ∃ t, PSs (cxOf CX P w K mg base N qual scope f (.ref c) A outer s H E) body t ∧ t { nx := fun _ H' => Q .non H', rt := Q } (start N vs) H) : FnOk P w K mg base CX (k + 1) f fd ps sp := by
  obtain ⟨oc, od, dV, kV, doc, pm, an, cdv, ct, osl, rfl, lk, hcd, _, _⟩ := F.ex
  have e : cdv = .ref c := hc
  subst e
  exact fn_of lk hcd S len fun A outer s H vs Q E hr hsp => hbody A outer s H vs Q E hr hsp
/-! ### words -/
def letters : Str := "abcdefghijklmnopqrstuvwxyz"
def barred : List Str := ["is", "isnt", "has", "hasnt", "to", "all", "are", "no", "each", "who", "some", "turned", "goes", "on", "comes", "from", "leads", "also"]
def isWord (z : Str) : Bool := decide (1 ≤ z.length) && decide (z.length ≤ 6) && !(barred.contains z) && z.cps.toList.all fun c => decide (c ∈ letters.cps.toList)
structure TW (K : PySem.W.Frag) (mg : Str → Option Value) : Prop where
  isi : mg "isinstance" = none
  len : mg "len" = none
  all_ : mg "all" = none
  str : mg "str" = none
  tup : mg "tuple" = none
  enu : mg "enumerate" = none
  lw : ∃ t, mg "LONGEST_WORD" = some (.int 6 t)
  let_ : ∃ t, mg "LETTERS" = some (.str letters t)
  bar : ∃ a, mg "BARRED" = some (.ref a) ∧ ∀ H, SqT K H a (barred.map V.str)
/-- the tables may have grown, all else that was held is held -/
structure Kp (T : List Addr) (H H' : Hp) : Prop where
  tab : ∀ P ∈ T, TabG H' P
  keep : ∀ b o, H b = some o → b ∉ T → H' b = some o
end Ah
end
section
set_option Elab.async false
set_option linter.all false
set_option maxRecDepth 100000
set_option maxHeartbeats 2000000
namespace Ah
open PySem PySem.Spec PyProof.Rows L2
open GxR (TabB TabG Tabbed)
open GxG
/-- what may be looked at as a word -/
def PlainV (H : Hp) (v : V) : Prop := (∃ z, v = .str z ∧ z.length ≤ sizeLine) ∨ v = .non ∨ (∃ i, v = .int i) ∨ ∃ a xs, v = .ref a ∧ (H a = some (.tup xs) ∨ H a = some (.lst xs))
theorem PlainV.kp {T : List Addr} {H H' : Hp} {v : V} (ht : ∀ P ∈ T, TabG H P) (k : Kp T H H') (h : PlainV H v) : PlainV H' v := by
  have out : ∀ {a : Addr} {o : HO}, H a = some o → (∀ ps, o ≠ .tbl ps) → H' a = some o := fun {a o} e n => k.keep a o e fun hm => by
    obtain ⟨ps, e2, _⟩ := ht a hm
    rw [e] at e2
    exact n ps (Option.some.inj e2)
  rcases h with h | h | h | ⟨a, xs, rfl, e | e⟩
  · exact .inl h
  · exact .inr (.inl h)
  · exact .inr (.inr (.inl h))
  · exact .inr (.inr (.inr ⟨a, xs, rfl, .inl (out e fun ps q => by cases q)⟩))
  · exact .inr (.inr (.inr ⟨a, xs, rfl, .inr (out e fun ps q => by cases q)⟩))
def isWordV : V → Bool
  | .str z => isWord z
  | _ => false
def spWord (T : List Addr) : Sp := fun vs H Q _ => ∃ v : V, vs = [v] ∧ PlainV H v ∧ (∀ P ∈ T, TabG H P) ∧ ∀ H', Kp T H H' → Q (.bl (isWordV v)) H'
theorem scW : FnScope ["word"] ["word"] (defScope sIsWord) := ⟨rfl, rfl, rfl, by decide +kernel, rfl, by decide +kernel, by decide +kernel⟩
theorem inV_strs (z : Str) (l : List Str) : inV (V.str z) (l.map V.str) = l.contains z := by
  unfold inV
  induction l with
  | nil => rfl
  | cons a r ih =>
    rw [List.map_cons, List.any_cons, List.contains_cons, ih]
    congr 1
    show (a == z) = (z == a)
    exact Bool.beq_comm
section
variable {P : Program} {w : World} {K : PySem.W.Frag} {mg : Str → Option Value} {base : Heap} {f c P1 : Addr} {fd : FuncData} {T : List Addr}
theorem ok_word (F : FnP K "is_word" sIsWord f fd) (hc : fd.code = .ref c) (TB : TabB base mg c P1) (hT : P1 ∈ T) (W : TW K mg) : FnOk P w K mg base CX0 3 f fd ["word"] (spWord T) := by
  refine okC F hc scW (fun vs H Q E h => ?_) (fun A outer s H vs Q E hr h => ?_)
  · obtain ⟨v, rfl, _⟩ := h
    rfl
  · obtain ⟨v, rfl, hv, ht, k⟩ := h
    obtain ⟨lwt, lw⟩ := W.lw
    obtain ⟨ltt, lt⟩ := W.let_
    obtain ⟨ba, bg, bs⟩ := W.bar
    refine ⟨_, pss_cons (ps_if (PW.pt (pw_or (pt_not (pt_val (pe_callB call_isi (by rfl) W.isi (by decide +kernel) (pa_cons (pv 0) (pa_cons (pe_bltn (v := .ty "str") (by rfl) W.str (by decide +kernel) rfl) pa_nil)))))
        (pw_or (pt_not (pt_chain op_le op_le pe_int (pe_callB call_len_str (by rfl) W.len (by decide +kernel) (pa_cons (pv 0) pa_nil)) (pe_glob (v := .int 6) (by rfl) lw ⟨_, rfl⟩)))
        (pw_or1 (pt_cmpR op_in_seq (pv 0) (pe_glob (v := .ref ba) (by rfl) bg rfl) (by rfl))))))
        (pss_one (ps_ret pe_bl)) pss_nil)
      (pss_one (ps_ret (pe_allG (k := 1) (x := "letter") (P := P1) hr (by rfl) W.all_ TB rfl ⟨rfl, rfl, by decide +kernel, by decide +kernel, by decide +kernel, by rfl⟩ (pi_str (pv 0))
        (fun A sB H code fp pn => pg_name (i := 0) (nd1 _) rfl (Or.inl rfl))
        (fun A sB H code fp pn hr' => pe_cmpR op_in_sign (pv 0) (pe_glob (v := .str letters) (by rfl) lt ⟨_, rfl⟩) (by rfl))))), ?_⟩
    rcases hv with ⟨z, rfl, hz⟩ | hn
    · have fin : ∀ b, isWordV (V.str z) = b → Q (.bl b) H := fun b e => by
        rw [← e]
        exact k H ⟨ht, fun _ _ e _ => e⟩
      refine ⟨_, rfl, _, _, _, _, true, rfl, ClsV.ty _, TyX.base (.str z), kit_ty (by decide +kernel), true, rfl, ?_⟩
      refine iteF ?_
      refine ⟨_, rfl, z, rfl, hz, 1, _, rfl, rfl, _, rfl, ?_⟩
      by_cases h1 : (1 : Int) ≤ z.length
      · rw [decide_eq_true h1]
        refine iteT ⟨_, _, rfl, rfl, _, rfl, ?_⟩
        by_cases h6 : (z.length : Int) ≤ 6
        · rw [decide_eq_true h6]
          refine iteF ⟨_, rfl, ba, _, rfl, .inr (bs H), rfl, by decide +kernel, _, rfl, ?_⟩
          show (fun b H1 => _) (inV (V.str z) (List.map V.str barred)) H
          rw [inV_strs]
          cases hb : barred.contains z with
          | true => exact iteT (fin false (by show isWord z = false; unfold isWord; rw [hb]; simp))
          | false =>
            refine iteF ⟨_, rfl, z, rfl, ht P1 hT, fun H2 tb => ?_⟩
            have kp : Kp T H H2 := ⟨fun p hp => by
              by_cases e : p = P1
              · rw [e]; exact tb.1
              · obtain ⟨ps, h2, h3⟩ := ht p hp
                exact ⟨ps, (tb.2 p e).trans h2, h3⟩, fun b o e hb => (tb.2 b fun z => hb (by rw [z]; exact hT)).trans e⟩
            have fin2 : ∀ b, z.cps.toList.all (fun c => decide (c ∈ letters.cps.toList)) = b → Q (.bl b) H2 := fun b e => by
              have q := k H2 kp
              have e2 : isWordV (V.str z) = b := by
                show isWord z = b
                unfold isWord
                rw [hb, e, decide_eq_true (show 1 ≤ z.length by omega), decide_eq_true (show z.length ≤ 6 by omega)] <;> simp
              rw [e2] at q
              exact q
            refine ga_it (walk_str (z := z)) (fun i H' => H' = H2 ∧ (z.cps.toList.take i).all (fun c => decide (c ∈ letters.cps.toList)) = true) ⟨rfl, rfl⟩ (fun _ _ _ _ => trivial) (fun i y Ha Hb hi p yy => ?_) (fun H' p => ?_)
            · obtain ⟨rfl, p⟩ := p
              obtain ⟨rfl, cc, e, rfl⟩ := yy
              have e' : z.cps.toList[i]? = some cc := by rw [Array.getElem?_toList]; exact e
              obtain ⟨a1, a2⟩ := all_take p e'
              refine ⟨_, rfl, cc, letters, rfl, rfl, _, rfl, ?_⟩
              cases hd : decide (cc ∈ letters.cps.toList) with
              | true => exact iteT ⟨rfl, a1 hd⟩
              | false => exact iteF (fin2 false (a2 hd))
            · obtain ⟨rfl, p⟩ := p
              rw [List.take_of_length_le (by simp)] at p
              exact fin2 true p
        · rw [decide_eq_false h6]
          exact iteT (fin false (by simp [isWordV, isWord]; omega))
      · rw [decide_eq_false h1]
        refine iteF ⟨_, rfl, ?_⟩
        exact iteT (fin false (by simp [isWordV, isWord]; omega))
    · rcases hn with rfl | ⟨i, rfl⟩ | ⟨a, xs, rfl, e | e⟩
      · exact ⟨_, rfl, _, _, _, _, false, rfl, ClsV.ty _, TyX.base .non, kit_ty (by decide +kernel), false, rfl, iteT (iteT (k H ⟨ht, fun _ _ e _ => e⟩))⟩
      · exact ⟨_, rfl, _, _, _, _, false, rfl, ClsV.ty _, TyX.base (.int i), kit_ty (by decide +kernel), false, rfl, iteT (iteT (k H ⟨ht, fun _ _ e _ => e⟩))⟩
      · exact ⟨_, rfl, _, _, _, _, false, rfl, ClsV.ty _, TyX.base (.tup e), kit_ty (by decide +kernel), false, rfl, iteT (iteT (k H ⟨ht, fun _ _ e _ => e⟩))⟩
      · exact ⟨_, rfl, _, _, _, _, false, rfl, ClsV.ty _, TyX.base (.lst e), kit_ty (by decide +kernel), false, rfl, iteT (iteT (k H ⟨ht, fun _ _ e _ => e⟩))⟩
end
end Ah
end
section
set_option Elab.async false
set_option linter.all false
set_option maxRecDepth 100000
set_option maxHeartbeats 2000000
namespace Ah
open PySem PySem.Spec PyProof.Rows L2
open GxR (TabB TabG Tabbed)
open GxG
/-! ### rows -/
def formsL : List (Str × List Str) := [("is", ["name", "kind"]), ("isnt", ["name", "kind"]), ("has", ["name", "tie", "name"]), ("hasnt", ["name", "tie", "name"]), ("all", ["kind", "kind"]), ("no", ["kind", "kind"]),
  ("each", ["kind", "tie", "name"]), ("who", ["tie", "kind", "kind"]), ("turned", ["tie", "tie"]), ("on", ["tie"]), ("from", ["tie", "kind"]), ("to", ["tie", "kind"]), ("under", ["tie", "tie"])]
/-- the module's dict FORMS -/
structure TF (K : PySem.W.Frag) (w : World) (mg : Str → Option Value) (d : Addr) : Prop where
  at_ : mg "FORMS" = some (.ref d)
  kd : ∃ es n, KDict K w d es n
  val : ∀ z ps, formsL.lookup z = some ps → ∃ a, PySem.W.nsIn K d z = some (some (.ref a)) ∧ ∀ H, SqT K H a (ps.map V.str)
  out : ∀ z, formsL.lookup z = none → PySem.W.nsIn K d z = some none
def isRowL : List V → Bool
  | .str h :: rest => (match formsL.lookup h with
    | some ps => decide (rest.length = ps.length) && rest.all isWordV
    | none => false)
  | _ => false
/-- what may be looked at as a row, and the answer -/
theorem tyTup {K : PySem.W.Frag} {H : Hp} {a : Addr} {xs : List V} (h : SqT K H a xs) : TyX K H (.ref a) (.type "tuple") := by
  rcases h with (e | ⟨o, e⟩) | ⟨o, its, n, h1, h2, _⟩
  · exact .base (.tup e)
  · exact .fTuple e
  · exact .kTuple h1 h2
def RowV (K : PySem.W.Frag) (H : Hp) (v : V) (b : Bool) : Prop := (((∃ z, v = .str z) ∨ v = .non ∨ (∃ i, v = .int i) ∨ ∃ a xs, v = .ref a ∧ H a = some (.lst xs)) ∧ b = false) ∨ ∃ a xs, v = .ref a ∧ SqT K H a xs ∧ xs.length ≤ 1000 ∧ (∀ x ∈ xs, PlainV H x) ∧ b = isRowL xs
def spRow (K : PySem.W.Frag) (T : List Addr) : Sp := fun vs H Q _ => ∃ (v : V) (b : Bool), vs = [v] ∧ RowV K H v b ∧ (∀ P ∈ T, TabG H P) ∧ ∀ H', Kp T H H' → Q (.bl b) H'
theorem scR : FnScope ["row"] ["row"] (defScope sIsRow) := ⟨rfl, rfl, rfl, by decide +kernel, rfl, by decide +kernel, by decide +kernel⟩
theorem cut_tail (h : V) (rest : List V) : cutV (h :: rest) (some 1) none = rest := by
  have h1 : HT.sIx (h :: rest).length 0 (some 1) = 1 := by
    rw [show (1 : Int) = ((1 : Nat) : Int) from rfl, HT.sIx_nat, List.length_cons]
    omega
  unfold cutV
  rw [h1, HT.sIx_none]
  simp
theorem Kp.trans {T : List Addr} {H H1 H2 : Hp} (a : Kp T H H1) (b : Kp T H1 H2) : Kp T H H2 := ⟨b.tab, fun p o e n => b.keep p o (a.keep p o e n) n⟩
/-- what is no table is held -/
theorem Kp.obj {T : List Addr} {H H' : Hp} {a : Addr} {o : HO} (k : Kp T H H') (ht : ∀ P ∈ T, TabG H P) (e : H a = some o) (n : ∀ ps, o ≠ .tbl ps := by intro ps q; cases q) : H' a = some o := k.keep a o e fun hm => by
  obtain ⟨ps, e2, _⟩ := ht a hm
  rw [e] at e2
  exact n ps (Option.some.inj e2)
section
variable {P : Program} {w : World} {K : PySem.W.Frag} {mg : Str → Option Value} {base : Heap} {f c P1 fW d : Addr} {fd fdW : FuncData} {T : List Addr}
theorem ok_row (F : FnP K "is_row" sIsRow f fd) (hc : fd.code = .ref c) (TB : TabB base mg c P1) (hT : P1 ∈ T) (W : TW K mg) (D : TF K w mg d) (gW : mg "is_word" = some (.ref fW)) (FW : FnOk P w K mg base CX0 3 fW fdW ["word"] (spWord T))
    (kW : PySem.W.keepIn K (.ref fW) = true) (bW : Binds K fdW ["word"] []) : FnOk P w K mg base CX0 5 f fd ["row"] (spRow K T) := by
  refine okC F hc scR (fun vs H Q E h => ?_) (fun A outer s H vs Q E hr h => ?_)
  · obtain ⟨v, b, rfl, _⟩ := h
    rfl
  · obtain ⟨v, b, rfl, hv, ht, k⟩ := h
    obtain ⟨es, nn, kd⟩ := D.kd
    refine ⟨_, pss_cons (ps_if (PW.pt (pw_or (pt_not (pt_val (pe_callB call_isi (by rfl) W.isi (by decide +kernel) (pa_cons (pv 0) (pa_cons (pe_bltn (v := .ty "tuple") (by rfl) W.tup (by decide +kernel) rfl) pa_nil)))))
        (pw_or (pt_not (pt_truth (pv 0) (by intro _; rfl)))
        (pw_or (pt_not (pt_val (pe_callB call_isi (by rfl) W.isi (by decide +kernel) (pa_cons (pe_ix ix_tup (pv 0) pe_int (fun _ _ => rfl)) (pa_cons (pe_bltn (v := .ty "str") (by rfl) W.str (by decide +kernel) rfl) pa_nil)))))
        (pw_or1 (pt_cmpR (op_notIn_kd kd) (pe_ix ix_tup (pv 0) pe_int (fun _ _ => rfl)) (pe_glob (v := .ref d) (by rfl) D.at_ rfl) (by rfl)))))))
        (pss_one (ps_ret pe_bl)) pss_nil)
      (pss_one (ps_ret (pe_and (pe_cmpR op_eq (pe_callB call_len_seq (by rfl) W.len (by decide +kernel) (pa_cons (pv 0) pa_nil)) (pe_op op_add pe_int (pe_callB call_len_seq (by rfl) W.len (by decide +kernel) (pa_cons
          (pe_ix ix_kdict (pe_glob (v := .ref d) (by rfl) D.at_ rfl) (pe_ix ix_tup (pv 0) pe_int (fun _ _ => rfl)) (fun _ _ => rfl)) pa_nil))) (nomark _))
        (pe_one (pe_allG (k := 3) (x := "word") (P := P1) hr (by rfl) W.all_ TB rfl ⟨rfl, rfl, by decide +kernel, by decide +kernel, by decide +kernel, by rfl⟩ (pi_tup (pe_slice sl_tup (pv 0) (po_some pe_int) po_none))
          (fun A sB H code fp pn => pg_name (i := 0) (nd1 _) rfl (Or.inl rfl))
          (fun A sB H code fp pn hr' => pe_call FW hr' (by rfl) gW kW bW .nil pass0 (pa_cons (pv 0) pa_nil))))))), ?_⟩
    have kp0 : Kp T H H := ⟨ht, fun _ _ e _ => e⟩
    rcases hv with ⟨hn, rfl⟩ | ⟨a, xs, rfl, hx, hl, hp, rfl⟩
    · rcases hn with ⟨z, rfl⟩ | rfl | ⟨i, rfl⟩ | ⟨a, xs, rfl, e⟩
      · exact ⟨_, rfl, _, _, _, _, false, rfl, ClsV.ty _, TyX.base (.str z), kit_ty (by decide +kernel), false, rfl, iteT (iteT (k H kp0))⟩
      · exact ⟨_, rfl, _, _, _, _, false, rfl, ClsV.ty _, TyX.base .non, kit_ty (by decide +kernel), false, rfl, iteT (iteT (k H kp0))⟩
      · exact ⟨_, rfl, _, _, _, _, false, rfl, ClsV.ty _, TyX.base (.int i), kit_ty (by decide +kernel), false, rfl, iteT (iteT (k H kp0))⟩
      · exact ⟨_, rfl, _, _, _, _, false, rfl, ClsV.ty _, TyX.base (.lst e), kit_ty (by decide +kernel), false, rfl, iteT (iteT (k H kp0))⟩
    · have sx : SqT K H a xs := hx
      refine ⟨_, rfl, _, _, _, _, true, rfl, ClsV.ty _, tyTup hx, kit_ty (by decide +kernel), true, rfl, ?_⟩
      refine iteF ⟨_, rfl, !xs.isEmpty, .inr (.inl ⟨xs, sx, rfl⟩), ?_⟩
      cases xs with
      | nil => exact iteT (iteT (k H kp0))
      | cons h rest =>
        have ph := hp h List.mem_cons_self
        refine iteF ⟨_, rfl, a, _, 0, h, rfl, rfl, sx, at_of (j := 0) rfl rfl, ?_⟩
        rcases ph with ⟨z, rfl, hz⟩ | rfl | ⟨i, rfl⟩ | ⟨a', ys, rfl, e | e⟩
        · refine ⟨_, _, _, _, true, rfl, ClsV.ty _, TyX.base (.str z), kit_ty (by decide +kernel), true, rfl, ?_⟩
          refine iteF ⟨_, rfl, a, _, 0, .str z, rfl, rfl, sx, at_of (j := 0) rfl rfl, ?_⟩
          cases hf : formsL.lookup z with
          | none =>
            refine ⟨z, _, rfl, rfl, D.out z hf, _, rfl, ?_⟩
            refine iteT ?_
            have e : isRowL (.str z :: rest) = false := by
              show (match formsL.lookup z with
                | some ps => decide (rest.length = ps.length) && rest.all isWordV
                | none => false) = false
              rw [hf]
            have q := k H kp0
            rw [e] at q
            exact q
          | some ps =>
            obtain ⟨ap, e1, e2⟩ := D.val z ps hf
            have er : isRowL (.str z :: rest) = (decide (rest.length = ps.length) && rest.all isWordV) := by
              show (match formsL.lookup z with
                | some ps => decide (rest.length = ps.length) && rest.all isWordV
                | none => false) = _
              rw [hf]
            rw [er] at k
            refine ⟨z, _, rfl, rfl, e1, _, rfl, ?_⟩
            refine iteF ?_
            refine ⟨_, rfl, a, _, rfl, .inr sx, ?_⟩
            refine ⟨_, rfl, a, _, 0, .str z, rfl, rfl, sx, at_of (j := 0) rfl rfl, d, z, .ref ap, rfl, rfl, ⟨es, nn, _, kd.at_, kd.lit, e1, rfl⟩, ap, _, rfl, .inr (e2 H), _, _, rfl, rfl, rfl, _, rfl, ?_⟩
            have ed : decide (V.int (((V.str z :: rest).length : Nat) : Int) = V.int (1 + ((ps.map V.str).length : Int))) = decide (rest.length = ps.length) := by
              rw [List.length_cons, List.length_map]
              by_cases e : rest.length = ps.length
              · rw [decide_eq_true e, e]
                exact decide_eq_true (by congr 1; omega)
              · rw [decide_eq_false e]
                refine decide_eq_false fun q => e ?_
                have := V.int.inj q
                omega
            rw [ed]
            cases hl2 : decide (rest.length = ps.length) with
            | false =>
              refine iteF ?_
              have q := k H kp0
              rw [hl2] at q
              exact q
            | true =>
              rw [hl2, Bool.true_and] at k
              refine iteT ⟨_, rfl, 1, rfl, a, _, rfl, sx, fun q => ?_, fun p np => ⟨p, rfl, ⟨rest, .inl (.of ?_)⟩, ?_, fun H2 tb => ?_⟩⟩
              · have h1 : HT.sIx (V.str z :: rest).length 0 (some 1) = 1 := by
                  rw [show (1 : Int) = ((1 : Nat) : Int) from rfl, HT.sIx_nat, List.length_cons]
                  omega
                have h2 := q.1
                rw [h1] at h2
                cases h2
              · rw [cut_tail]; exact upd_same
              · obtain ⟨qs, h2, h3⟩ := ht P1 hT
                exact ⟨qs, by rw [upd_ne (ne_of_none h2 np)]; exact h2, h3⟩
              · rw [cut_tail] at tb
                have hpP : p ≠ P1 := fun e => by
                  obtain ⟨qs, h2, h3⟩ := ht P1 hT
                  rw [e, h2] at np
                  cases np
                have kp2 : Kp T H H2 := ⟨fun q hq => by
                  by_cases e : q = P1
                  · rw [e]; exact tb.1
                  · obtain ⟨qs, h2, h3⟩ := ht q hq
                    exact ⟨qs, by rw [tb.2 q e, upd_ne (ne_of_none h2 np)]; exact h2, h3⟩, fun b o e hb => by
                    rw [tb.2 b fun z => hb (by rw [z]; exact hT), upd_ne (ne_of_none e np)]
                    exact e⟩
                have hp2 : H2 p = some (.tup rest) := by rw [tb.2 p hpP, upd_same]
                refine ga_it (walk_tup (K := K) (a := p) (xs := rest)) (fun i H' => Kp T H2 H' ∧ (rest.take i).all isWordV = true) ⟨⟨kp2.tab, fun _ _ e _ => e⟩, rfl⟩ (fun i H' _ pv => ?_) (fun i y Ha Hb hi pv yy => ?_) (fun H' pv => ?_)
                · exact .inl (.of (pv.1.obj kp2.tab hp2))
                · obtain ⟨k1, p1⟩ := pv
                  obtain ⟨rfl, ey⟩ := yy
                  obtain ⟨a1, a2⟩ := all_take p1 ey
                  have py : PlainV Hb y := (hp y (List.mem_cons_of_mem _ (List.mem_of_getElem? ey))).kp ht (kp2.trans k1)
                  refine ⟨y, rfl, y, rfl, py, k1.tab, fun H3 k3 => ⟨_, rfl, ?_⟩⟩
                  cases hw : isWordV y with
                  | true => exact iteT ⟨k1.trans k3, a1 hw⟩
                  | false =>
                    have q := k H3 (kp2.trans (k1.trans k3))
                    rw [a2 hw] at q
                    exact iteF q
                · obtain ⟨k1, p1⟩ := pv
                  rw [List.take_of_length_le (Nat.le_refl _)] at p1
                  have q := k H' (kp2.trans k1)
                  rw [p1] at q
                  exact q
        · exact ⟨_, _, _, _, false, rfl, ClsV.ty _, TyX.base .non, kit_ty (by decide +kernel), false, rfl, iteT (iteT (k H kp0))⟩
        · exact ⟨_, _, _, _, false, rfl, ClsV.ty _, TyX.base (.int i), kit_ty (by decide +kernel), false, rfl, iteT (iteT (k H kp0))⟩
        · exact ⟨_, _, _, _, false, rfl, ClsV.ty _, TyX.base (.tup e), kit_ty (by decide +kernel), false, rfl, iteT (iteT (k H kp0))⟩
        · exact ⟨_, _, _, _, false, rfl, ClsV.ty _, TyX.base (.lst e), kit_ty (by decide +kernel), false, rfl, iteT (iteT (k H kp0))⟩
end
end Ah
end
section
set_option Elab.async false
set_option linter.all false
set_option maxRecDepth 100000
set_option maxHeartbeats 2000000
namespace Ah
open PySem PySem.Spec PyProof.Rows L2
/-! ### what the head tells of a def that closes over its class -/
abbrev FnY : Type := Option (Str × Str × Arguments × FuncBody × Scope × Addr × List Str × Addr)
def fnY (K : PySem.W.Frag) (a : Addr) : FnY := match K.lookup a with
  | some ⟨_, _, .func fd, _⟩ => some (fd.name, fd.qualname, fd.params, fd.body, fd.scope, fd.globals, fd.closure.map (·.1), fd.builtins)
  | _ => none
def valY (qual : Str) (st : Stmt) : FnY := some ("__init__", qual, defArgs st, .stmts (defBody st), defScope st, mainGlobals, [("__class__" : Str)], builtinsNs)
def supB (K : PySem.W.Frag) (file : Str) (qual : Str) (fI C : Addr) : Bool := (match K.lookup fI with
    | some ⟨_, _, .func fd, _⟩ => (decide (fd.defaults = .none) && PySem.W.codeIn K fd.code qual) && ((match fd.code with
        | .ref cda => (match K.lookup cda with
          | some ⟨_, _, .fields vs, _⟩ => (match (vs : Array Value)[2]? with
            | some (Value.str f _) => file == f
            | _ => false)
          | _ => false)
        | _ => false) && (match fd.closure with
        | [(_, cc)] => (match K.lookup cc with
          | some ⟨_, _, .cell (some (.ref c)), _⟩ => decide (c = C)
          | _ => false)
        | _ => false))
    | _ => false) &&
  (decide (PySem.W.nsIn K cStatics "thirdparty.any" = some none) && (decide (PySem.W.ks_superIn K C C "__init__" = some (some (.builtin "ValueError.__init__"))) &&
    (decide (PySem.W.subIn K (.ref C) (.type "ValueError") = some true) && decide (PySem.W.mroIn K C (.ref C) = some true))))
theorem band {a b : Bool} (h : (a && b) = true) : a = true ∧ b = true := Bool.and_eq_true_iff.mp h
/-- the module's dict DEEDS, as a list -/
def deedsL : List (Str × Nat) := [("put", 3), ("drop", 2), ("tell", 3)]
end Ah
end
section
set_option Elab.async false
set_option linter.all false
set_option maxRecDepth 100000
set_option maxHeartbeats 2000000
namespace Ah
open PySem PySem.Spec PyProof.Rows L2
/-! ### the classes' facts by a Bool -/
def oexB (K : PySem.W.Frag) (C : Addr) : Bool := (match K.lookup C with
  | some ⟨.type c, _, .cls cd, sl⟩ => decide (c = "type") && ((match cd.mro with
      | .ref C' :: bm => decide (C' = C) && PySem.HandSPX.refsVE bm
      | _ => false) && (cd.hasDict && (!cd.hasDel && (match sl.toList with
      | [_, _, _, _, some (.builtin n), _] => decide (n = "ValueError.__new__")
      | _ => false))))
  | _ => false) && (decide (PySem.W.findIn K (.ref C) "__setattr__" = some (some (.builtin "object.__setattr__"))) && (decide (PySem.W.subIn K (.ref C) (.type "BaseException") = some true) && (decide (PySem.W.typeIn K (.ref C) = some (.type "type")) && PySem.W.keepIn K (.ref C))))
theorem oexB_ok {K : PySem.W.Frag} {C : Addr} (h : oexB K C = true) : OexC K C := by
  obtain ⟨h1, h2⟩ := band h
  obtain ⟨h2, h3⟩ := band h2
  obtain ⟨h3, h4⟩ := band h3
  obtain ⟨h4, h5⟩ := band h4
  refine ⟨?_, of_decide_eq_true h2, of_decide_eq_true h3, of_decide_eq_true h4, h5⟩
  cases q : K.lookup C with
  | none => rw [q] at h1; cases h1
  | some o =>
    obtain ⟨oc, od, dt, sl⟩ := o
    rw [q] at h1
    cases oc with
    | type c =>
      cases dt with
      | cls cd =>
        have h1 : (decide (c = "type") && ((match cd.mro with
          | .ref C' :: bm => decide (C' = C) && PySem.HandSPX.refsVE bm
          | _ => false) && (cd.hasDict && (!cd.hasDel && (match sl.toList with
          | [_, _, _, _, some (.builtin n), _] => decide (n = "ValueError.__new__")
          | _ => false))))) = true := h1
        obtain ⟨a1, r1⟩ := band h1
        obtain ⟨a2, r2⟩ := band r1
        obtain ⟨a3, r3⟩ := band r2
        obtain ⟨a4, a5⟩ := band r3
        clear r1 r2 r3
        have a1 : c = "type" := of_decide_eq_true a1
        subst a1
        obtain ⟨nm, bs, mro, N, qn, hd, sn, sb, ab, col, del⟩ := cd
        dsimp only at a2 a3 a4
        have a4 : del = false := by simpa using a4
        subst a3 a4
        match mro, a2 with
        | .ref C' :: bm, a2 =>
          obtain ⟨b1, b2⟩ := band a2
          have b1 : C' = C := of_decide_eq_true b1
          subst b1
          obtain ⟨sl⟩ := sl
          match sl, a5 with
          | [k0, k1, k2, k3, some (.builtin n), k5], a5 =>
            have a5 : n = "ValueError.__new__" := of_decide_eq_true a5
            subst a5
            exact ⟨nm, qn, N, bs, bm, sn, sb, ab, col, od, k0, k1, k2, k3, k5, rfl, b2⟩
      | _ => cases h1
    | _ => cases dt <;> cases h1
def xcB (K : PySem.W.Frag) (D : Addr) : Bool := decide (PySem.W.findIn K (.ref D) "__getattribute__" = some (some (.builtin "BaseException.__getattribute__"))) && (decide (PySem.W.findIn K (.ref D) "__getattr__" = some none) && (decide (PySem.W.subIn K (.ref D) (.type "BaseException") = some true) && (PySem.W.hasDictIn K D &&
  (decide (PySem.W.findIn K (.ref D) "__class__" = some (some (.builtin "object.__class__"))) && (decide (PySem.W.specialIn K (.builtin "object.__class__") "__get__" = some (some (.builtin "getset_descriptor.__get__"))) && (decide (PySem.W.takesIn K (.builtin "object.__class__") = some true) && decide (PySem.W.mroIn K D (.type "object") = some true)))))))
theorem xcB_ok {K : PySem.W.Frag} {D : Addr} (h : xcB K D = true) : ExcC K D := by
  obtain ⟨h1, h⟩ := band h
  obtain ⟨h2, h⟩ := band h
  obtain ⟨h3, h⟩ := band h
  obtain ⟨h4, h⟩ := band h
  obtain ⟨h5, h⟩ := band h
  obtain ⟨h6, h⟩ := band h
  obtain ⟨h7, h8⟩ := band h
  exact ⟨of_decide_eq_true h1, of_decide_eq_true h2, of_decide_eq_true h3, h4, of_decide_eq_true h5, of_decide_eq_true h6, of_decide_eq_true h7, of_decide_eq_true h8⟩
/-- the nine classes -/
def nine : List Str := ["BadRow", "BadSaying", "BadCount", "BadSteps", "NoRow", "NoFollow", "BadDeed", "Halted", "BadText"]
def cW (K : PySem.W.Frag) (i : Nat) : Addr := He.ga K (nine.getD i "")
def wordB (K : PySem.W.Frag) (CA : Addr) : Bool := (List.range 9).all (fun i => (List.range 9).all fun j => decide (PySem.W.kitOne K (.ref (cW K i)) (.ref (cW K j)) = some (decide (i = j)))) &&
  ((List.range 9).all (fun i => decide (PySem.W.kitOne K (.ref (cW K i)) (.type "ValueError") = some true) && (decide (PySem.W.exmOne K (.ref (cW K i)) (.ref CA) = some true) && xcB K (cW K i))) &&
  [0, 3, 6].all fun i => xfB K (cW K i) && decide (PySem.W.findIn K (.ref (cW K i)) "number" = some none))
theorem wordB_ok {K : PySem.W.Frag} {CA : Addr} (h : wordB K CA = true) : (∀ i j, i < 9 → j < 9 → PySem.W.kitOne K (.ref (cW K i)) (.ref (cW K j)) = some (decide (i = j))) ∧ (∀ i, i < 9 → PySem.W.kitOne K (.ref (cW K i)) (.type "ValueError") = some true) ∧
    (∀ i, i < 9 → PySem.W.exmOne K (.ref (cW K i)) (.ref CA) = some true) ∧ (∀ i, i < 9 → ExcC K (cW K i)) ∧ ∀ i, i = 0 ∨ i = 3 ∨ i = 6 → XfC K (cW K i) ∧ PySem.W.findIn K (.ref (cW K i)) "number" = some none := by
  obtain ⟨h1, h⟩ := band h
  obtain ⟨h2, h3⟩ := band h
  have g2 : ∀ i, i < 9 → _ := fun i hi => band (List.all_eq_true.mp h2 i (List.mem_range.mpr hi))
  refine ⟨fun i j hi hj => of_decide_eq_true (List.all_eq_true.mp (List.all_eq_true.mp h1 i (List.mem_range.mpr hi)) j (List.mem_range.mpr hj)), fun i hi => of_decide_eq_true (g2 i hi).1, fun i hi => of_decide_eq_true (band (g2 i hi).2).1, fun i hi => xcB_ok (band (g2 i hi).2).2, fun i hi => ?_⟩
  obtain ⟨a, b⟩ := band (List.all_eq_true.mp h3 i (by simp; exact hi))
  exact ⟨xfB_ok a, of_decide_eq_true b⟩
def deedsB (K : PySem.W.Frag) : Bool := deedsL.all fun q => match PySem.W.nsIn K (He.ga K "DEEDS") q.1 with
  | some (some (.int i _)) => decide (i = (q.2 : Int))
  | _ => false
theorem deedsB_ok {K : PySem.W.Frag} (h : deedsB K = true) {z : Str} {n : Nat} (m : (z, n) ∈ deedsL) : ∃ t, PySem.W.nsIn K (He.ga K "DEEDS") z = some (some (.int (n : Int) t)) := by
  have h2 : (match PySem.W.nsIn K (He.ga K "DEEDS") z with
    | some (some (.int i _)) => decide (i = (n : Int))
    | _ => false) = true := List.all_eq_true.mp h _ m
  cases q : PySem.W.nsIn K (He.ga K "DEEDS") z with
  | none => rw [q] at h2; cases h2
  | some r =>
    rw [q] at h2
    cases r with
    | none => cases h2
    | some u =>
      cases u with
      | int i t =>
        have e : i = (n : Int) := of_decide_eq_true h2
        exact ⟨t, by rw [e]⟩
      | _ => cases h2
end Ah
end
section
set_option Elab.async false
set_option linter.all false
set_option maxRecDepth 100000
set_option maxHeartbeats 2000000
/-! the head of a program whose text opens with imports: the opening, the fence, the top, in the kernel -/
noncomputable section
namespace Ah
open PySem PySem.W PySem.Calls PyProof.Rows HandSHeadRun
/-- the opening, to its end -/
def impF (st : SharedT → Thread → Option (SharedT × Thread)) : Nat → SharedT → Thread → Option SharedT
  | 0, _, _ => none
  | m + 1, s, t => match t.atExitBegin with
    | some [] => some s
    | some (_ :: _) => none
    | none => match st s t with
      | some (s', t') => frS s' fun s' => impF st m s' t'
      | none => none
theorem impF_ok {tb : String → Option Builtin} {p : Program} {w : World} : ∀ {m : Nat} {s s' : SharedT} {t : Thread}, impF (stepT (denote tb) p w) m s t = some s' → importEnds tb p w m s.abs t = some s'.abs
  | 0, _, _, _, h => by cases h
  | m + 1, s, s', t, h => by
    have h1 : (match t.atExitBegin with
      | some [] => some s
      | some (_ :: _) => none
      | none => match stepT (denote tb) p w s t with
        | some (s', t') => frS s' fun s' => impF (stepT (denote tb) p w) m s' t'
        | none => none) = some s' := h
    unfold importEnds
    cases ht : t.atExitBegin with
    | some l =>
      rw [ht] at h1
      cases l with
      | nil => cases h1; rfl
      | cons a r => cases h1
    | none =>
      rw [ht] at h1
      have h2 : (match stepT (denote tb) p w s t with
        | some (s', t') => frS s' fun s' => impF (stepT (denote tb) p w) m s' t'
        | none => none) = some s' := h1
      cases hs : stepT (denote tb) p w s t with
      | none =>
        rw [hs] at h2
        cases h2
      | some r =>
        obtain ⟨s2, t2⟩ := r
        rw [hs] at h2
        have h3 : (frS s2 fun s' => impF (stepT (denote tb) p w) m s' t2) = some s' := h2
        rw [frS_eq] at h3
        have q := impF_ok h3
        show (match step (denote tb) p w s.abs t with
          | .go s' t' => importEnds tb p w m s' t'
          | .halt _ _ => none) = some s'.abs
        rw [stepT_spec hs]
        exact q
def startT (p : Program) : SharedT := ⟨.nil, 0, (start p).1.heap.life, #[], (start p).1.drawn, (start p).1.toks, (start p).1.os⟩
theorem startT_abs (p : Program) : (startT p).abs = (start p).1 := rfl
/-- the fence of one module, on the tree -/
def fenceO (m : Str) (s : SharedT) : Option SharedT := match boundIn s.abs.heap sysModules m, tameNamesOf? m with
  | some (.ref a), some row => (match s.abs.heap.get? a with
    | some o => (match o.dict with
      | some D => (match Nat.blt D s.n with
        | true => (match s.tree.get D with
          | some oo => (match alive oo with
            | some od => (match fenceDict? m row od with
              | some od' => some ⟨s.tree.set D fun _ => od', s.n, s.life, s.gens, s.drawn, s.toks, s.os⟩
              | none => none)
            | none => none)
          | none => none)
        | false => none)
      | none => none)
    | none => none)
  | _, _ => none
theorem fenceO_ok {m : Str} {s s' : SharedT} (h : fenceO m s = some s') : fenceModule? m s.abs = some s'.abs := by
  unfold fenceO at h
  unfold fenceModule?
  cases e1 : boundIn s.abs.heap sysModules m with
  | none => rw [e1] at h; cases h
  | some v =>
    rw [e1] at h
    cases v with
    | ref a =>
      cases e2 : tameNamesOf? m with
      | none => rw [e2] at h; cases h
      | some row =>
        rw [e2] at h
        dsimp only at h ⊢
        cases e3 : s.abs.heap.get? a with
        | none => rw [e3] at h; cases h
        | some o =>
          rw [e3] at h
          dsimp only at h ⊢
          cases e4 : o.dict with
          | none => rw [e4] at h; cases h
          | some D =>
            rw [e4] at h
            dsimp only at h ⊢
            cases e5 : Nat.blt D s.n with
            | false => rw [e5] at h; cases h
            | true =>
              rw [e5] at h
              dsimp only at h
              cases e6 : s.tree.get D with
              | none => rw [e6] at h; cases h
              | some oo =>
                rw [e6] at h
                dsimp only at h
                cases e7 : alive oo with
                | none => rw [e7] at h; cases h
                | some od =>
                  rw [e7] at h
                  dsimp only at h
                  cases e8 : fenceDict? m row od with
                  | none => rw [e8] at h; cases h
                  | some od' =>
                    rw [e8] at h
                    obtain rfl := Option.some.inj h
                    have lt : D < s.n := Nat.le_of_ble_eq_true e5
                    have g : s.abs.heap.get? D = some od := by
                      show (absHeap s.tree s.n s.life).get? D = _
                      rw [abs_get lt e6, e7]
                    rw [g]
                    show (fenceDict? m row od).map _ = _
                    rw [e8]
                    show some (⟨(absHeap s.tree s.n s.life).update D fun _ => od', s.gens, s.drawn, s.toks, s.os⟩ : Shared) = some ⟨absHeap (s.tree.set D fun _ => od') s.n s.life, s.gens, s.drawn, s.toks, s.os⟩
                    rw [absHeap_set e6]
    | _ => cases h
def fenceL : List Str → SharedT → Option SharedT
  | [], s => some s
  | m :: r, s => match fenceO m s with
    | some s' => fenceL r s'
    | none => none
theorem fenceL_ok : ∀ {l : List Str} {s s' : SharedT}, fenceL l s = some s' → fenceAll? l s.abs = some s'.abs
  | [], s, s', h => by cases h; rfl
  | m :: r, s, s', h => by
    have h1 : (match fenceO m s with
      | some s' => fenceL r s'
      | none => none) = some s' := h
    cases e : fenceO m s with
    | none => rw [e] at h1; cases h1
    | some s2 =>
      rw [e] at h1
      show (fenceModule? m s.abs).bind (fenceAll? r) = _
      rw [fenceO_ok e]
      exact fenceL_ok h1
/-- the states ahead of the top and behind it -/
def endI (st sq : SharedT → Thread → Option (SharedT × Thread)) (MI M : Nat) (p : Program) : Option (SharedT × SharedT) := match impF sq MI (startT (opening p)) (start (opening p)).2 with
  | some s => (match fenceL (importedModules p.main.body) s with
    | some s0 => (match s0.abs.heap.isNs mainGlobals && s0.gens.size == 0 with
      | true => (match goF st s0.n (s0.abs.heap.nsMap mainGlobals "__annotations__") M s0 (topStub p) with
        | some s1 => some (s0, s1)
        | none => none)
      | false => none)
    | none => none)
  | none => none
theorem left_imp {p q : Program} {loose : List Str} {Xt : Shared → Bool} {α : Type} {Yf : Shared → α} {Ya : World → α} {N MI M : Nat}
    (nn : p.main.body.any namesNumpy = false) (leI : Nat.ble MI N = true) (le : Nat.ble M N = true)
    (run : ∀ w : World, (endI (stepT (denote treeTable) p w) (stepT (denote treeTable) (opening p) w) MI M p).map (fun z => (looksF p z.1.abs.heap z.2.abs, openSeen q loose (importedModules p.main.body) Xt true z.2.abs, Yf z.2.abs)) = some (true, openGood q loose, Ya w)) :
    LeftO p q loose Xt Yf Ya N true := fun w => by
  obtain ⟨⟨s0, s1⟩, hs, hv⟩ := Option.map_eq_some_iff.mp (run w)
  obtain ⟨l1, l2, l3⟩ : _ ∧ _ ∧ _ := by simpa only [Prod.mk.injEq] using hv
  unfold endI at hs
  cases e1 : impF (stepT (denote treeTable) (opening p) w) MI (startT (opening p)) (start (opening p)).2 with
  | none => rw [e1] at hs; cases hs
  | some s =>
    rw [e1] at hs
    dsimp only at hs
    cases e2 : fenceL (importedModules p.main.body) s with
    | none => rw [e2] at hs; cases hs
    | some s0' =>
      rw [e2] at hs
      dsimp only at hs
      cases e3 : s0'.abs.heap.isNs mainGlobals && s0'.gens.size == 0 with
      | false => rw [e3] at hs; cases hs
      | true =>
        rw [e3] at hs
        dsimp only at hs
        cases e4 : goF (stepT (denote treeTable) p w) s0'.n (s0'.abs.heap.nsMap mainGlobals "__annotations__") M s0' (topStub p) with
        | none => rw [e4] at hs; cases hs
        | some s1' =>
          rw [e4] at hs
          have e5 := Option.some.inj hs
          cases e5
          have i1 := importEnds_mono (N - MI) _ _ _ _ (impF_ok e1)
          rw [show MI + (N - MI) = N by have := Nat.le_of_ble_eq_true leI; omega, startT_abs] at i1
          have i2 := fenceL_ok e2
          have i3 := topRun_mono (N - M) _ _ _ _ (goF_ok e4)
          rw [show M + (N - M) = N by have := Nat.le_of_ble_eq_true le; omega] at i3
          have f0 : fencedOpening treeTable p w N = some s0.abs := by
            unfold fencedOpening
            rw [i1]
            show fenceModules? p s.abs = _
            unfold fenceModules?
            rw [i2]
            show (if p.main.body.any namesNumpy = true then _ else some s0.abs) = _
            rw [nn]
            rfl
          have sz : s0.abs.heap.objs.size = s0.n := absHeap_size _ _ _
          have t : topFrom treeTable p w N s0.abs = some s1.abs := by
            unfold topFrom
            have e3' : (s0.abs.heap.isNs mainGlobals && s0.abs.gens.size == 0) = true := e3
            rw [e3', sz]
            show (topRun treeTable p w s0.n (s0.abs.heap.nsMap mainGlobals "__annotations__") N s0.abs (topStub p)).bind _ = _
            rw [i3]
            have l1' : (staticsOk (importedModules p.main.body) s0.abs.heap s1.abs.heap && namesBound p s1.abs.heap && gensDone s1.abs && laidKept s0.abs.heap s1.abs.heap) = true := l1
            show (match staticsOk (importedModules p.main.body) s0.abs.heap s1.abs.heap && namesBound p s1.abs.heap && gensDone s1.abs && laidKept s0.abs.heap s1.abs.heap with | true => some s1.abs | false => none) = _
            rw [l1']
          unfold openEnds
          rw [f0]
          show (topFrom treeTable p w N s0.abs).map _ = _
          rw [t]
          exact congrArg some (Prod.ext l2 l3)
/-- the runs' equation, of a program that opens with imports -/
def RunI (r : OpenRow) (q : Program) (H : Hook) (ob : SharedT → H.α) (MI M : Nat) (loose : List PySem.Str) (w : World) : Prop :=
  (endI (stepQ (denQ tabQ) r.prog w) (stepQ (denQ tabQ) (opening r.prog) w) MI M r.prog).map (fun z => (looksF r.prog z.1.abs.heap z.2.abs, seenQ q loose (importedModules r.prog.main.body) (fun s => xlAt q [] s && recOk r.toRowW.records s) z.2.abs, ob z.2)) = some (true, openGood q loose, H.val w)
def RunIL (r : OpenRow) (MI M : Nat) (w : World) : Prop :=
  (endI (stepQ (denQ tabQ) r.prog w) (stepQ (denQ tabQ) (opening r.prog) w) MI M r.prog).map (fun z => looksF r.prog z.1.abs.heap z.2.abs) = some true
def RunIA (r : OpenRow) (q : Program) (MI M : Nat) (loose : List PySem.Str) (w : World) : Prop :=
  (endI (stepQ (denQ tabQ) r.prog w) (stepQ (denQ tabQ) (opening r.prog) w) MI M r.prog).map (fun z => seenQ q loose (importedModules r.prog.main.body) (fun s => xlAt q [] s && recOk r.toRowW.records s) z.2.abs) = some (openGood q loose)
def RunIC (r : OpenRow) {α : Type} (ob : SharedT → α) (val : α) (MI M : Nat) (w : World) : Prop :=
  (endI (stepQ (denQ tabQ) r.prog w) (stepQ (denQ tabQ) (opening r.prog) w) MI M r.prog).map (fun z => ob z.2) = some val
theorem map_three {α β γ δ : Type} {x : Option α} {f : α → β} {g : α → γ} {h : α → δ} {b : β} {c : γ} {d : δ} (h1 : x.map f = some b) (h2 : x.map g = some c) (h3 : x.map h = some d) : x.map (fun s => (f s, g s, h s)) = some (b, c, d) := by
  cases x with
  | none => cases h1
  | some s =>
    have e1 : f s = b := Option.some.inj h1
    have e2 : g s = c := Option.some.inj h2
    have e3 : h s = d := Option.some.inj h3
    show some (f s, g s, h s) = some (b, c, d)
    rw [e1, e2, e3]
theorem runI_of {r : OpenRow} {q : Program} {H : Hook} {ob : SharedT → H.α} {MI M : Nat} {loose : List PySem.Str} {w : World} (l : RunIL r MI M w) (a : RunIA r q MI M loose w) (c : RunIC r ob (H.val w) MI M w) : RunI r q H ob MI M loose w := map_three l a c
theorem head_imp {r : OpenRow} {q : Program} {H : Hook} {ob : SharedT → H.α} {MI M : Nat} {loose : List PySem.Str} {d : DefRec} {kwd : List (PySem.Str × PySem.Expr)} (ho : ∀ s : SharedT, ob s = H.obs s.abs)
    (nn : r.prog.main.body.any namesNumpy = false) (run : ∀ w, RunI r q H ob MI M loose w)
    (hdef : defOf q r.name = some (d, kwd)) (hp : r.prog.theDef r.name = some (d.params, d.body, d.scope)) (hk : kwWritten? d.params.kwonlyargs d.params.kw_defaults = some kwd)
    (hwr : (!r.writes || r.records.isEmpty) = true) (k1 : r.wellSaid = true) (ok : (chainsOk q && opensWell r.prog && (frees r.toRowW && r.within.isEmpty)) = true) (hb : r.prog.bare) (hw : r.toRowW.promised)
    (call : WalkO q loose (XL q []) H.says r.toRowW d kwd fun f vs => PySem.call f vs) : r.Holds := by
  have left : LeftO r.prog q loose (fun s => xlAt q [] s && recOk r.toRowW.records s) H.obs H.val (MI + M) true :=
    left_imp (MI := MI) (M := M) nn (Nat.ble_eq_true_of_le (by omega)) (Nat.ble_eq_true_of_le (by omega)) fun w => by
      have z := run w
      have eo : ob = fun s => H.obs s.abs := funext ho
      unfold RunI at z
      rw [eo] at z
      rw [stepQ_eq, denQ_eq, tabQ_eq]
      simp only [seenQ_eq]
      exact z
  exact holds_open (r := r) (q := q) (loose := loose) (XP := XL q []) (YP := H.says) (d := d) (kwd := kwd) left H.of H.keeps (fun s z => xl_of s (Bool.and_eq_true_iff.mp z).1) XL.keeps hdef hp hk (fun s z => recFacts_of (Bool.and_eq_true_iff.mp z).2) hwr k1 ok hb hw call
end Ah
end
section
set_option Elab.async false
set_option linter.all false
set_option maxRecDepth 100000
set_option maxHeartbeats 2000000
/-! the head's run in two halves, so that each takes less of the kernel's memory -/
namespace Ah
open PySem PySem.W PySem.Calls PyProof.Rows HandSHeadRun
theorem map_pair {α β γ δ : Type} {x : Option α} {f : α → β} {g : α → γ} {h : α → δ} {b : β} {c : γ} {d : δ} (h1 : x.map (fun s => (f s, g s)) = some (b, c)) (h2 : x.map h = some d) : x.map (fun s => (f s, g s, h s)) = some (b, c, d) := by
  cases x with
  | none => cases h1
  | some s =>
    have e1 : (f s, g s) = (b, c) := Option.some.inj h1
    have e2 : h s = d := Option.some.inj h2
    have e3 := Prod.mk.inj e1
    show some (f s, g s, h s) = some (b, c, d)
    rw [e3.1, e3.2, e2]
/-- what the library looks at -/
def RunA (r : OpenRow) (q : Program) (M : Nat) (loose : List PySem.Str) (w : World) : Prop :=
  ∀ os : OsState, (endF (stepQ (denQ tabQ) r.prog w) M r.prog w os).map (fun s => (looksF r.prog (boot_heap w.params) s.abs, seenQ q loose (importedModules r.prog.main.body) (fun s => xlAt q [] s && recOk r.toRowW.records s) s.abs)) = some (true, openGood q loose)
/-- what our own hook looks at -/
def RunC (r : OpenRow) {α : Type} (ob : SharedT → α) (val : α) (M : Nat) (w : World) : Prop :=
  ∀ os : OsState, (endF (stepQ (denQ tabQ) r.prog w) M r.prog w os).map ob = some val
theorem run_of {r : OpenRow} {q : Program} {H : Hook} {ob : SharedT → H.α} {M : Nat} {loose : List PySem.Str} {w : World} (a : RunA r q M loose w) (c : RunC r ob (H.val w) M w) : RunEq r q H ob M loose w := fun os => map_pair (a os) (c os)
end Ah
end
section
set_option Elab.async false
set_option linter.all false
set_option maxRecDepth 100000
set_option maxHeartbeats 2000000
namespace Ah
open PySem PySem.Spec PyProof.Rows L2
/-! ### the hook that reads the objects at given places alone, and tells of defs that close over their class -/
def frZ (g : Addr → Option Obj) (as : List Addr) : PySem.W.Frag := He.frT g as
abbrev AlZ : Type := He.AlX × List FnY
def obsZ (as : List Addr) (fa : List He.Fa) (fn : List He.DefD) (ts : List He.Tab) (tf : List He.Defn) (ex : PySem.W.Frag → Bool) (sup : PySem.W.Frag → List FnY) (g : Addr → Option Obj) : AlZ :=
  ((He.obsT fa fn ts (frZ g as), ex (frZ g as) && He.tabsB g tf (frZ g as)), sup (frZ g as))
theorem saysZ_of {as : List Addr} {fa : List He.Fa} {fn : List He.DefD} {ts : List He.Tab} {tf : List He.Defn} {ex : PySem.W.Frag → Bool} {w : World} {h : Heap} (e1 : He.obsT fa fn ts (frZ h.get? as) = He.valT fn ts w) (e2 : (ex (frZ h.get? as) && He.tabsB h.get? tf (frZ h.get? as)) = true) : He.SaysX fa fn ts tf ex w h (frZ h.get? as) := by
  obtain ⟨x1, x2⟩ := band e2
  have all : ∀ q ∈ tf, PySem.W.codeHdIn (frZ h.get? as) (He.cT (frZ h.get? as) q).1 (He.cT (frZ h.get? as) q).2 = true ∧ ∃ u, h.get? (He.cT (frZ h.get? as) q).2 = some u ∧ He.emptyTab u = true := by
    intro q hq
    have y := band (List.all_eq_true.mp x2 q hq)
    refine ⟨y.1, ?_⟩
    have y2 := y.2
    cases r : h.get? (He.cT (frZ h.get? as) q).2 with
    | none => rw [r] at y2; cases y2
    | some u => rw [r] at y2; exact ⟨u, rfl, y2⟩
  refine ⟨e1, x1, fun q hq => (all q hq).1, fun q hq => ?_, fun q hq => ?_⟩
  · obtain ⟨u, r, z⟩ := (all q hq).2
    exact He.frT_none r z
  · obtain ⟨u, r, z⟩ := (all q hq).2
    rw [r, He.emptyTab_eq z]
def hookZ (as : List Addr) (fa : List He.Fa) (fn : List He.DefD) (ts : List He.Tab) (tf : List He.Defn) (ex : PySem.W.Frag → Bool) (sup : PySem.W.Frag → List FnY) (val : List FnY) : PySem.W.Hook where
  α := AlZ
  obs := fun s => obsZ as fa fn ts tf ex sup s.heap.get?
  val := fun w => (He.valX fn ts w, val)
  says := fun w h => ∃ K : PySem.W.Frag, K.In h ∧ He.SaysX fa fn ts tf ex w h K ∧ sup K = val
  of := fun _ _ e => ⟨_, He.frT_in, saysZ_of (congrArg (fun z : AlZ => z.1.1) e) (congrArg (fun z : AlZ => z.1.2) e), congrArg (fun z : AlZ => z.2) e⟩
  keeps := fun _ _ _ ⟨K, hK, c, v⟩ k => ⟨K, PySem.W.Frag.In.keeps hK k, ⟨c.t, c.more, c.hd, c.out, fun p hp => k _ _ (c.empty p hp)⟩, v⟩
theorem obsZ_eq {as : List Addr} {fa : List He.Fa} {fn : List He.DefD} {ts : List He.Tab} {tf : List He.Defn} {ex : PySem.W.Frag → Bool} {sup : PySem.W.Frag → List FnY} {val : List FnY} {g : Addr → Option Obj} {s : Shared} (h : ∀ a, g a = s.heap.get? a) : obsZ as fa fn ts tf ex sup g = (hookZ as fa fn ts tf ex sup val).obs s := by
  have e : g = s.heap.get? := funext h
  rw [e] <;> rfl
end Ah
end
section
set_option Elab.async false
set_option linter.all false
set_option maxRecDepth 100000
set_option maxHeartbeats 0
namespace Ah
open PySem PySem.Spec PyProof.Rows L2
/-! ### the head -/
def dF (x : Str) (st : Stmt) : He.DefD := ⟨(x, none), x, x, defArgs st, defBody st, defScope st, [], []⟩
def dM (c x q : Str) (st : Stmt) : He.DefD := ⟨(c, some x), x, q, defArgs st, defBody st, defScope st, [], []⟩
def dWhich : He.DefD := ⟨("which", none), "which", "which", defArgs sWhich, defBody sWhich, defScope sWhich, [], [("answer", .str "yes")]⟩
def dMissing : He.DefD := ⟨("missing", none), "missing", "missing", defArgs sMissing, defBody sMissing, defScope sMissing, [], [("most", .int 1)]⟩
def fn0 : List He.DefD := [dF "places_of" sPlaces, dM "Rules" "__init__" "Rules.__init__" sRInit, dM "Search" "__init__" "Search.__init__" sSearchInit, dM "Search" "run" "Search.run" sSearchRun, dM "Search" "run_level" "Search.run_level" sSearchRunLevel, dM "Search" "masks" "Search.masks" sSearchMasks, dF "masks_of" sMasksOf, dF "as_lots" sAsLots, dF "is_word" sIsWord, dF "is_row" sIsRow, dF "is_saying" sIsSaying, dF "is_question" sIsQuestion, dF "is_number" sIsNumber, dF "check_text" sCheck, dF "check_saying" sCheckSaying, dF "check_question" sCheckQuestion, dF "check_number" sCheckNumber, dF "told_of" sToldOf, dF "names_of" sNamesOf, dF "bearers" sBearers]
def fn1 : List He.DefD := [dF "lots_of" sLotsOf, dF "ask" sAsk, dF "against" sAgainst, dWhich, dMissing, dM "House" "__init__" "House.__init__" sHouseInit, dM "House" "ask" "House.ask" sHouseAsk, dF "hanging" sHanging, dF "paper" sPaper, dF "_law_row" lRow, dF "_law_taken" lTaken, dF "_law_one" lOne, dF "_law_text" lText, dF "_law_word" lWord, dF "_law_saying" lSaying, dF "law" lLaw]
def fn : List He.DefD := fn0 ++ fn1
def fa0 : List He.Fa := [.glo "places_of", .glo "masks_of", .glo "as_lots", .glo "is_word", .glo "is_row", .glo "is_saying", .glo "is_question", .glo "is_number", .glo "check_text", .glo "check_saying", .glo "check_question", .glo "check_number", .glo "told_of", .glo "names_of", .glo "bearers", .glo "lots_of", .glo "ask", .glo "against", .glo "which", .glo "missing", .glo "hanging", .glo "paper", .glo "_law_row", .glo "_law_taken", .glo "_law_one"]
def fa1 : List He.Fa := [.glo "_law_text", .glo "_law_word", .glo "_law_saying", .glo "law", .free "isinstance", .free "len", .free "tuple", .free "list", .free "str", .free "bool", .free "range", .free "enumerate", .free "sorted", .free "zip", .free "dict", .free "all", .free "super", .free "ValueError", .free "int", .glo "FORMS", .glo "BARRED", .glo "ANSWERS", .glo "Rules", .glo "Search", .glo "House"]
def fa2 : List He.Fa := [.glo "AnswerError", .glo "ask_asking", .glo "BadRow", .glo "BadSaying", .glo "BadCount", .glo "BadSteps", .glo "NoRow", .glo "NoFollow", .glo "BadDeed", .glo "Halted", .glo "BadText", .int "LONGEST_WORD" 6, .int "MOST_ROWS" 24, .str "LETTERS" letters, .cls "Rules", .noat "Rules" "rows", .noat "Rules" "names", .noat "Rules" "known", .mkr "Rules", .int "MOST_MISSING" 2, .cls "Search", .noat "Search" "rules", .noat "Search" "found", .noat "Search" "levels", .meth "Search" "run_level"]
def fa3 : List He.Fa := [.meth "Search" "run", .meth "Search" "masks", .mkr "Search", .cls "House", .noat "House" "standing", .noat "House" "asked", .noat "House" "events", .noat "House" "idle", .meth "House" "ask", .mkr "House", .exc "BadSaying", .exc "BadCount", .exc "NoRow", .exc "NoFollow"]
def fa : List He.Fa := fa0 ++ fa1 ++ fa2 ++ fa3
abbrev R : PySem.W.OpenRow := PySem.W.OpenLaw.row PySem.Challenge.rw_answerhouse_k05_sayings_counts_numbers_r
def ansL : List Str := ["yes", "no", "both", "doubt"]
def ts : List He.Tab := [(fun K => He.ga K "FORMS", formsL.map (·.1)), (fun K => He.ga K "ANSWERS", ansL)]
def tf : List He.Defn := [("is_word", none), ("is_row", none), ("as_lots", none), ("law", none)]
def tupK (K : PySem.W.Frag) (a : Addr) (ws : List Str) : Bool := match K.lookup a with
  | some ⟨.type c, _, .seq its _, _⟩ => decide (c = "tuple") && (decide (its.size ≤ 1000) && He.relAll (ws.map V.str) its.toList)
  | _ => false
def formsB (K : PySem.W.Frag) : Bool := formsL.all fun q => match PySem.W.nsIn K (He.ga K "FORMS") q.1 with
  | some (some (.ref a)) => tupK K a q.2
  | _ => false
def neT (a b : Addr) : Bool := !decide (a = b)
def tabsB (K : PySem.W.Frag) : Bool := neT (He.cT K ("as_lots", none)).2 (He.cT K ("is_word", none)).2 && (neT (He.cT K ("as_lots", none)).2 (He.cT K ("is_row", none)).2 && (neT (He.cT K ("law", none)).2 (He.cT K ("is_word", none)).2 && (neT (He.cT K ("law", none)).2 (He.cT K ("is_row", none)).2 && (neT (He.cT K ("as_lots", none)).2 (He.cT K ("law", none)).2 && decide (He.ga K "ask_asking" = He.ga K "ask")))))
def bdB (K : PySem.W.Frag) : Bool := supB K PySem.Challenge.pw_answerhouse_k05_sayings_counts_numbers_r.main.file "BadRow.__init__" (He.ma K (He.ga K "BadRow") "__init__") (He.ga K "BadRow") && (oexB K (He.ga K "BadRow") && (xfB K (He.ga K "BadRow") && (decide (PySem.W.findIn K (.ref (He.ga K "BadRow")) "__init__" = some (some (.ref (He.ma K (He.ga K "BadRow") "__init__")))) && (decide (PySem.W.typeIn K (.ref (He.ma K (He.ga K "BadRow") "__init__")) = some (.type "function")) && decide (PySem.W.findIn K (.ref (He.ga K "BadRow")) "number" = some none)))))
def exB (K : PySem.W.Frag) : Bool := formsB K && (tupK K (He.ga K "BARRED") barred && (tabsB K && (bdB K && wordB K (He.ga K "AnswerError"))))
def sup05 (K : PySem.W.Frag) : List FnY := [fnY K (He.ma K (He.ga K "BadRow") "__init__")]
def val05 : List FnY := [valY "BadRow.__init__" sBadrowInit]
def asL0 : List Addr := [2, 3, 68, 226, 236, 424, 431, 438, 443, 450, 457, 464, 471, 478, 483, 490, 507, 514, 592, 611, 782, 792, 853, 860, 867, 872, 879, 886, 891, 617, 630, 123, 757, 215, 404, 403, 581, 246, 268, 280]
def asL1 : List Addr := [292, 313, 325, 337, 358, 379, 400, 0, 67, 225, 235, 423, 430, 437, 442, 449, 456, 463, 470, 477, 482, 489, 506, 513, 591, 610, 781, 791, 852, 859, 866, 871, 878, 885, 890, 616, 612, 629, 623, 122]
def asL2 : List Addr := [756, 214, 405, 406, 407, 408, 409, 410, 411, 412, 413, 414, 415, 416, 417, 582, 583, 584, 585, 245, 267, 279, 291, 312, 324, 336, 357, 378, 399, 62, 63, 64, 65, 66, 220, 221, 222, 223, 224, 232]
def asL3 : List Addr := [233, 234, 418, 419, 420, 421, 422, 425, 426, 427, 428, 429, 432, 433, 434, 435, 436, 439, 440, 441, 444, 445, 446, 447, 448, 451, 452, 453, 454, 455, 458, 459, 460, 461, 462, 465, 466, 467, 468, 469]
def asL4 : List Addr := [472, 473, 474, 475, 476, 479, 480, 481, 484, 485, 486, 487, 488, 501, 502, 503, 504, 505, 508, 509, 510, 511, 512, 586, 587, 588, 589, 590, 607, 608, 609, 776, 777, 778, 779, 780, 788, 789, 790, 847]
def asL5 : List Addr := [848, 849, 850, 851, 854, 855, 856, 857, 858, 861, 862, 863, 864, 865, 868, 869, 870, 873, 874, 875, 876, 877, 880, 881, 882, 883, 884, 887, 888, 889, 613, 614, 615, 624, 625, 626, 627, 628, 106, 113]
def asL6 : List Addr := [120, 121, 124, 125, 664, 671, 678, 685, 692, 699, 706, 711, 719, 726, 733, 740, 747, 754, 755, 758, 759, 151, 158, 165, 172, 179, 186, 193, 200, 207, 212, 213, 216, 217, 244, 247, 265, 266, 278, 290]
def asL7 : List Addr := [310, 311, 323, 335, 355, 356, 376, 377, 397, 398, 105, 112, 119, 663, 670, 677, 684, 691, 698, 705, 710, 718, 712, 725, 732, 739, 746, 753, 150, 157, 164, 171, 178, 185, 192, 199, 206, 211, 264, 253]
def asL8 : List Addr := [309, 298, 354, 343, 375, 364, 396, 385, 100, 101, 102, 103, 104, 107, 108, 109, 110, 111, 114, 115, 116, 117, 118, 658, 659, 660, 661, 662, 665, 666, 667, 668, 669, 672, 673, 674, 675, 676, 679, 680]
def asL9 : List Addr := [681, 682, 683, 686, 687, 688, 689, 690, 693, 694, 695, 696, 697, 700, 701, 702, 703, 704, 707, 708, 709, 713, 714, 715, 716, 717, 720, 721, 722, 723, 724, 727, 728, 729, 730, 731, 734, 735, 736, 737]
def asL10 : List Addr := [738, 741, 742, 743, 744, 745, 748, 749, 750, 751, 752, 147, 148, 149, 152, 153, 154, 155, 156, 159, 160, 161, 162, 163, 166, 167, 168, 169, 170, 173, 174, 175, 176, 177, 180, 181, 182, 183, 184, 187]
def asL11 : List Addr := [188, 189, 190, 191, 194, 195, 196, 197, 198, 201, 202, 203, 204, 205, 208, 209, 210, 259, 260, 261, 262, 263, 304, 305, 306, 307, 308, 349, 350, 351, 352, 353, 370, 371, 372, 373, 374, 391, 392, 393]
def asL12 : List Addr := [394, 395]
def asL : List Addr := asL0 ++ asL1 ++ asL2 ++ asL3 ++ asL4 ++ asL5 ++ asL6 ++ asL7 ++ asL8 ++ asL9 ++ asL10 ++ asL11 ++ asL12
abbrev hk : PySem.W.Hook := hookZ asL fa fn ts tf exB sup05 val05
def ob (s : PySem.W.SharedT) : AlZ := obsZ asL fa fn ts tf exB sup05 (HandSHeadRun.getT s)
theorem ob_eq (s : PySem.W.SharedT) : ob s = hk.obs s.abs := obsZ_eq (HandSHeadRun.getT_eq s)
def loose0 : List Str := ["heappop", "heappush", "combinations", "_wall", "CLASH", "places_of", "leads_from_kind", "leads_on", "leads_from_tie", "leads_by", "Rules", "all_results", "size_of", "Search", "masks_of", "lots_of_mask", "as_lots", "AnswerError", "BadRow", "BadSaying", "BadCount", "BadSteps", "NoRow", "NoFollow", "BadDeed", "Halted", "BadText", "MOST_ROWS", "LONGEST_WORD", "LETTERS"]
def loose1 : List Str := ["BARRED", "FORMS", "is_word", "is_row", "is_saying", "is_question", "is_number", "check_text", "check_saying", "check_question", "check_number", "told_of", "names_of", "fillings", "follows", "bearers", "lots_of", "BATCH", "first_bits", "Trial", "MOST_MISSING", "ANSWERS", "ask", "ask_asking", "word_of", "first_of", "against", "which", "words_of", "missing"]
def loose2 : List Str := ["worth_telling", "DEEDS", "is_deed", "check_deeds", "House", "results_of", "left", "hanging", "only_first", "paper", "Reasons", "_law_row", "_law_taken", "_law_one", "_law_text", "_law_word", "_law_saying"]
def loose : List Str := loose0 ++ loose1 ++ loose2
theorem runL0 (w : World) : RunIL R 6000 12000 (w.withFollow "special-get-raises" false) := by
  delta RunIL
  kernel_rfl
theorem runL1 (w : World) : RunIL R 6000 12000 (w.withFollow "special-get-raises" true) := by
  delta RunIL
  kernel_rfl
theorem runA0 (w : World) : RunIA R (PySem.W.view R.prog [87]) 6000 12000 loose (w.withFollow "special-get-raises" false) := by
  delta RunIA
  kernel_rfl
theorem runA1 (w : World) : RunIA R (PySem.W.view R.prog [87]) 6000 12000 loose (w.withFollow "special-get-raises" true) := by
  delta RunIA
  kernel_rfl
theorem runC0 (w : World) : RunIC R ob (hk.val (w.withFollow "special-get-raises" false)) 6000 12000 (w.withFollow "special-get-raises" false) := by
  delta RunIC
  kernel_rfl
theorem runC1 (w : World) : RunIC R ob (hk.val (w.withFollow "special-get-raises" true)) 6000 12000 (w.withFollow "special-get-raises" true) := by
  delta RunIC
  kernel_rfl
theorem run2 (b : Bool) (w : World) : RunI R (PySem.W.view R.prog [87]) hk ob 6000 12000 loose (w.withFollow "special-get-raises" b) := by
  cases b
  · exact runI_of (runL0 w) (runA0 w) (runC0 w)
  · exact runI_of (runL1 w) (runA1 w) (runC1 w)
theorem run (w : World) : RunI R (PySem.W.view R.prog [87]) hk ob 6000 12000 loose w := by
  have h := run2 (w.params.followText "special-get-raises") w
  rwa [World.withFollow_self] at h
end Ah
end
section
set_option Elab.async false
set_option linter.all false
set_option maxRecDepth 100000
set_option maxHeartbeats 4000000
namespace Ah
open PySem PySem.Spec PyProof.Rows L2
open GxR (TabB TabG Tabbed)
/-! ### what the head tells, for the defs -/
theorem tupK_ok {K : PySem.W.Frag} {a : Addr} {ws : List Str} (h : tupK K a ws = true) (H : Hp) : SqT K H a (ws.map V.str) := by
  unfold tupK at h
  cases q : K.lookup a with
  | none =>
    rw [q] at h
    cases h
  | some o =>
    obtain ⟨oc, od, dt, osl⟩ := o
    rw [q] at h
    cases oc with
    | type c =>
      cases dt with
      | seq its n =>
        obtain ⟨h1, h2⟩ := He.ba h
        obtain ⟨h3, h4⟩ := He.ba h2
        have e : c = "tuple" := of_decide_eq_true h1
        have l : its.size ≤ 1000 := of_decide_eq_true h3
        exact .inr ⟨_, its, n, q, by rw [e], rfl, Nat.le_trans l (by decide), He.relAll_ok h4⟩
      | _ => cases h
    | _ => cases dt <;> cases h
theorem out_of {K : PySem.W.Frag} {P : Params} {a : Addr} {ks : List Str} (h : He.dicW K a = some (He.keysIn P ks)) {z : Str} (hz : z ∉ ks) : PySem.W.nsIn K a z = some none := by
  unfold He.dicW at h
  cases q : K.lookup a with
  | none =>
    rw [q] at h
    cases h
  | some o =>
    obtain ⟨oc, od, dt, osl⟩ := o
    rw [q] at h
    cases oc with
    | type c =>
      cases od with
      | none =>
        cases dt with
        | dict es n =>
          have h1 : (match decide (c = "dict") && (osl.isEmpty && !(a == sysModules)) with
            | true => some (es.toList.map He.keyOf)
            | false => none) = some (He.keysIn P ks) := h
          have h2 : es.toList.map He.keyOf = He.keysIn P ks := by
            cases y : decide (c = "dict") && (osl.isEmpty && !(a == sysModules)) with
            | false =>
              rw [y] at h1
              cases h1
            | true =>
              rw [y] at h1
              exact Option.some.inj h1
          have key : ∀ e ∈ es.toList, e.key.isStr z = false ∧ e.refKey = false := by
            intro e he
            have m : He.keyOf e ∈ He.keysIn P ks := by
              rw [← h2]
              exact List.mem_map_of_mem he
            obtain ⟨k, hk, ek⟩ := List.mem_map.mp m
            unfold He.keyOf at ek
            cases qk : e.key with
            | str x t =>
              rw [qk] at ek
              have ex : k = x := (Prod.mk.inj (Option.some.inj ek)).1
              refine ⟨?_, ?_⟩
              · rw [PySem.W.isStr_of]
                unfold Value.isStrOf
                cases y : (x == z) with
                | false => simpa using y
                | true =>
                  rw [ex, beq_iff_eq.mp y] at hk
                  exact absurd hk hz
              · unfold DictEntry.refKey
                rw [qk]
            | _ =>
              rw [qk] at ek
              cases ek
          unfold PySem.W.nsIn
          rw [q]
          show (match es.toList.find? (·.key.isStr z) with | some e => some (some e.val) | none => if es.toList.any (·.refKey) then none else some none) = some none
          rw [List.find?_eq_none.mpr fun e he => by rw [(key e he).1]; decide]
          show (if es.toList.any (·.refKey) then none else some none) = some none
          rw [if_neg]
          intro y
          obtain ⟨e, he, hr⟩ := List.any_eq_true.mp y
          rw [(key e he).2] at hr
          cases hr
        | _ => cases h
      | some d => cases dt <;> cases h
    | _ => cases od <;> cases dt <;> cases h
theorem lookup_none {β : Type} {z : Str} : ∀ {l : List (Str × β)}, l.lookup z = none → z ∉ l.map (·.1)
  | [], _ => by simp
  | (k, v) :: r, h => by
    have h2 : (match z == k with | true => some v | false => r.lookup z) = none := h
    cases q : (z == k) with
    | true =>
      rw [q] at h2
      cases h2
    | false =>
      rw [q] at h2
      have ne : z ≠ k := fun e => by rw [e, beq_self_eq_true] at q; cases q
      intro m
      rcases List.mem_cons.mp (show z ∈ k :: r.map (·.1) from m) with e | e
      · exact ne e
      · exact lookup_none h2 e
theorem lookup_in {β : Type} {z : Str} {b : β} : ∀ {l : List (Str × β)}, l.lookup z = some b → (z, b) ∈ l
  | [], h => by cases h
  | (k, v) :: r, h => by
    have h2 : (match z == k with | true => some v | false => r.lookup z) = some b := h
    cases q : (z == k) with
    | true =>
      rw [q] at h2
      rw [beq_iff_eq.mp q, Option.some.inj h2]
      exact List.mem_cons_self
    | false =>
      rw [q] at h2
      exact List.mem_cons_of_mem _ (lookup_in h2)
end Ah
end
section
set_option Elab.async false
set_option linter.all false
set_option maxRecDepth 100000
set_option maxHeartbeats 2000000
namespace Ah
open PySem PySem.Spec PyProof.Rows L2
open GxR (TabB TabG Tabbed)
open GxG EnT
/-! ### texts -/
def spCheck0 (K : PySem.W.Frag) (T : List Addr) : Sp := fun vs H Q _ => ∃ (a : Addr) (rs : List V), vs = [.ref a] ∧ H a = some (.tup rs) ∧ rs.length ≤ 24 ∧ (∀ r ∈ rs, RowV K H r true) ∧ (∀ P ∈ T, TabG H P) ∧ ∀ H', Kp T H H' → Q .non H'
theorem Kp.sqT {K : PySem.W.Frag} {T : List Addr} {H H' : Hp} {a : Addr} {xs : List V} (ht : ∀ P ∈ T, TabG H P) (k : Kp T H H') (h : SqT K H a xs) : SqT K H' a xs := by
  rcases h with (h | ⟨o, h⟩) | h
  · exact .inl (.inl (k.obj ht h))
  · exact .inl (.inr ⟨o, k.obj ht h⟩)
  · exact .inr h
theorem RowV.kp {K : PySem.W.Frag} {T : List Addr} {H H' : Hp} {v : V} {b : Bool} (ht : ∀ P ∈ T, TabG H P) (k : Kp T H H') (h : RowV K H v b) : RowV K H' v b := by
  rcases h with ⟨h, e⟩ | ⟨a, xs, e, h1, h2, h3, h4⟩
  · refine .inl ⟨?_, e⟩
    rcases h with h | h | h | ⟨a, xs, e, h⟩
    · exact .inl h
    · exact .inr (.inl h)
    · exact .inr (.inr (.inl h))
    · exact .inr (.inr (.inr ⟨a, xs, e, k.obj ht h⟩))
  · exact .inr ⟨a, xs, e, Kp.sqT ht k h1, h2, fun x hx => (h3 x hx).kp ht k, h4⟩
theorem scC : FnScope ["rows", "number", "row"] ["rows"] (defScope sCheck) := ⟨rfl, rfl, rfl, by decide +kernel, rfl, by decide +kernel, by decide +kernel⟩
theorem Kp.upd {T : List Addr} {H H1 : Hp} {p : Addr} {o : HO} (k : Kp T H H1) (n : H1 p = none) : Kp T H (upd H1 p o) := ⟨fun q hq => by
    obtain ⟨ps, e, h⟩ := k.tab q hq
    exact ⟨ps, by rw [upd_ne (ne_of_none e n)]; exact e, h⟩, fun b u e hb => by
    have q := k.keep b u e hb
    rw [upd_ne (ne_of_none q n)]
    exact q⟩
section
variable {P : Program} {w : World} {K : PySem.W.Frag} {mg : Str → Option Value} {base : Heap} {f fR : Addr} {fd fdR : FuncData} {T : List Addr}
theorem ok_check (F : FnP K "check_text" sCheck f fd) (W : TW K mg) (hm : ∃ t, mg "MOST_ROWS" = some (.int 24 t)) (gR : mg "is_row" = some (.ref fR)) (FR : FnOk P w K mg base CX0 5 fR fdR ["row"] (spRow K T))
    (kR : PySem.W.keepIn K (.ref fR) = true) (bR : Binds K fdR ["row"] []) : FnOk P w K mg base CX0 6 f fd ["rows"] (spCheck0 K T) := by
  refine F.ok scC (fun vs H Q E h => ?_) (fun cdv A outer s H vs Q E hr h => ?_)
  · obtain ⟨a, rs, rfl, _⟩ := h
    rfl
  · obtain ⟨a, rs, rfl, ha, hl, hrs, ht, k⟩ := h
    obtain ⟨mt, hm⟩ := hm
    have sa : SqT K H a rs := .inl (.of ha)
    refine ⟨_, PSs.nox (pss_cons (ps_if (pt_not (pt_val (pe_callB call_isi (by rfl) W.isi (by decide +kernel) (pa_cons (pv 0) (pa_cons (pe_bltn (v := .ty "tuple") (by rfl) W.tup (by decide +kernel) rfl) pa_nil))))) (pss_one ps_never) pss_nil)
      (pss_one (ps_for PassesOwn.never rfl (pi_enumT (by rfl) W.enu (pa_cons (pv 0) pa_nil)) (pg_tup rfl (pgs_cons (pg_name (i := 1) scC.nd rfl (.inl rfl)) (pgs_cons (pg_name (i := 2) scC.nd rfl (.inl rfl)) pgs_nil)))
        (pss_one (ps_if (PW.pt (pw_or (pt_cmpR op_eq (pv 1) (pe_glob (v := .int 24) (by rfl) hm ⟨_, rfl⟩) (nomark _)) (pw_or1 (pt_not (pt_val (pe_call FR hr (by rfl) gR kR bR .nil pass0 (pa_cons (pv 2) pa_nil))))))) (pss_one ps_never) pss_nil))))), ?_⟩
    refine ⟨_, rfl, _, _, _, _, true, rfl, ClsV.ty _, TyX.base (.tup ha), kit_ty (by decide +kernel), true, rfl, ?_⟩
    refine iteF ?_
    refine ⟨_, rfl, a, rs, rfl, sa, for_it (walk_enumT (K := K) (a := a) (xs := rs)) (fun i σ H' => (∃ v1 v2, σ = [some (.ref a), v1, v2]) ∧ Kp T H H') ⟨⟨_, _, rfl⟩, ht, fun _ _ e _ => e⟩ (fun i σ H' _ pv => .inl (.of (pv.2.obj ht ha))) ?_ ?_⟩
    · rintro i x σ Ha Hb hi ⟨⟨v1, v2, rfl⟩, kp⟩ ⟨Tp, x1, x2, rfl, nT, rfl, e1, e2⟩
      cases e1
      have kp1 : Kp T H (L2.upd Ha Tp (.tup [.int (i : Nat), x2])) := kp.upd nT
      refine ⟨Tp, _, rfl, .inl (.of upd_same), rfl, ?_⟩
      refine ⟨_, _, rfl, _, _, rfl, rfl, ?_⟩
      refine ⟨_, rfl, rfl, _, rfl, ?_⟩
      have hi24 : ¬ V.int ((i : Nat) : Int) = V.int 24 := fun e => by
        have := V.int.inj e
        omega
      rw [decide_eq_false hi24]
      refine iteF ⟨_, rfl, ?_⟩
      refine ⟨_, true, rfl, (hrs x2 (List.mem_of_getElem? e2)).kp ht kp1, kp1.tab, fun H2 k2 => ⟨_, rfl, iteF ⟨⟨_, _, rfl⟩, kp1.trans k2⟩⟩⟩
    · rintro σ H' ⟨_, kp⟩
      exact k H' kp
end
end Ah
end
section
set_option Elab.async false
set_option linter.all false
set_option maxRecDepth 100000
set_option maxHeartbeats 2000000
namespace Ah
open PySem PySem.Spec PyProof.Rows L2
/-! ### the law's draws -/
theorem scLR : FnScope ["_law_script", "_law_mixed", "_law_cell"] ["_law_script"] (defScope lRow) := ⟨rfl, rfl, rfl, by decide +kernel, rfl, by decide +kernel, by decide +kernel⟩
theorem scLT : FnScope ["_law_row_here", "_law_many", "_law_found", "_law_cell"] ["_law_row_here", "_law_many"] (defScope lTaken) := ⟨rfl, rfl, rfl, by decide +kernel, rfl, by decide +kernel, by decide +kernel⟩
def spLRow (K : PySem.W.Frag) : Sp := fun vs H Q _ => ∃ (a : Addr) (ns : List Int), vs = [.ref a] ∧ SqL K H a (ns.map V.int) ∧ ns.length ≤ 63 ∧ ∀ (p : Addr) (m : Int), H p = none → Q (.ref p) (upd H p (.lst [.ref a, .int 0, .int 0, .int m]))
/-- the draws' state: the script, the place, what is left, the mixed number -/
def StAt (K : PySem.W.Frag) (H : Hp) (p a : Addr) (ns : List Int) : Prop := ∃ i r m : Int, H p = some (.lst [.ref a, .int i, .int r, .int m]) ∧ 0 ≤ i ∧ 0 ≤ r ∧ SqL K H a (ns.map V.int)
/-- all that was held is held, but at M -/
def Kept (M : List Addr) (H H' : Hp) : Prop := ∀ b o, H b = some o → b ∉ M → H' b = some o
def spTaken (K : PySem.W.Frag) : Sp := fun vs H Q _ => ∃ (p a : Addr) (ns : List Int) (many : Int), vs = [.ref p, .int many] ∧ StAt K H p a ns ∧ 0 < many ∧ many < 1000000 ∧
  ∀ (n : Int) (H' : Hp), 0 ≤ n → n < many → StAt K H' p a ns → Kept [p] H H' → Q (.int n) H'
theorem seqL_upd {K : PySem.W.Frag} {H : Hp} {a p : Addr} {o : HO} {xs ys : List V} (hp : H p = some (.lst ys)) (h : SqL K H a xs) (n : ys ≠ xs) : SqL K (upd H p o) a xs := by
  rcases h with (h | ⟨ob, h⟩) | h
  · exact .inl (.inl (by rw [upd_ne (fun e => n (by rw [e, hp] at h; cases h; rfl))]; exact h))
  · exact .inl (.inr ⟨ob, by rw [upd_ne (fun e => by rw [e, hp] at h; cases h)]; exact h⟩)
  · exact .inr h
section
variable {P : Program} {w : World} {K : PySem.W.Frag} {mg : Str → Option Value} {base : Heap} {f : Addr} {fd : FuncData}
theorem ok_lrow (F : FnP K "_law_row" lRow f fd) : FnOk P w K mg base CX0 1 f fd ["_law_script"] (spLRow K) := by
  refine F.ok scLR (fun vs H Q E h => ?_) (fun cdv A outer s H vs Q E hr h => ?_)
  · obtain ⟨a, ns, rfl, _⟩ := h
    rfl
  · obtain ⟨a, ns, rfl, hs, hl, k⟩ := h
    refine ⟨_, PSs.nox (pss_cons (ps_set (i := 1) scLR.nd rfl (.inl rfl) pe_int) (pss_cons (ps_for PassesOwn.never rfl (pi_list (pv 0)) (pg_name (i := 2) scLR.nd rfl (.inl rfl))
        (pss_one (ps_set (i := 1) scLR.nd rfl (.inl rfl) (pe_op op_mod (pe_op op_add (pe_op op_add (pe_op op_mul (pv 1) pe_int) (pv 2)) pe_int) pe_int))))
      (pss_one (ps_ret (pe_lst (pa_cons (pv 0) (pa_cons pe_int (pa_cons pe_int (pa_cons (pv 1) pa_nil))))))))), ?_⟩
    refine ⟨_, rfl, a, rfl, ⟨_, hs⟩, for_list (K := K) (a := a) (xs := ns.map V.int) (fun i σ H' => (∃ (m : Int) (v : Option V), σ = [some (.ref a), some (.int m), v]) ∧ H' = H) ⟨⟨7, none, rfl⟩, rfl⟩ (fun i σ H' _ pv => by rw [pv.2]; exact hs) ?_ ?_⟩
    · rintro i x σ Ha hi ⟨⟨m, v, rfl⟩, rfl⟩
      obtain ⟨c, rfl⟩ : ∃ c, x = V.int c := by
        obtain ⟨c, _, e⟩ := List.mem_map.mp (List.mem_of_getElem? hi)
        exact ⟨c, e.symm⟩
      exact ⟨_, rfl, _, _, rfl, rfl, .inr ⟨by decide, by decide⟩, _, rfl, _, _, rfl, rfl, _, _, rfl, rfl, _, _, rfl, rfl, (by decide : (0 : Int) < 2147483647), ⟨_, _, rfl⟩, rfl⟩
    · rintro σ Ha ⟨⟨m, v, rfl⟩, rfl⟩
      exact ⟨_, rfl, _, rfl, (by show 4 ≤ sizeLine; decide), fun p np => k p m np⟩
theorem ok_ltaken (F : FnP K "_law_taken" lTaken f fd) (hlen : mg "len" = none) : FnOk P w K mg base CX0 1 f fd ["_law_row_here", "_law_many"] (spTaken K) := by
  refine F.ok scLT (fun vs H Q E h => ?_) (fun cdv A outer s H vs Q E hr h => ?_)
  · obtain ⟨p, a, ns, many, rfl, _⟩ := h
    rfl
  · obtain ⟨p, a, ns, many, rfl, ⟨i, r, m, hp, hi, hr0, hs⟩, hm, hm2, k⟩ := h
    have ne : ∀ z1 z2 z3 : Int, ([.ref a, .int z1, .int z2, .int z3] : List V) ≠ ns.map V.int := fun z1 z2 z3 e => by
      cases ns with
      | nil => cases e
      | cons q qs => cases e
    have k : ∀ (n i r m : Int), 0 ≤ n → n < many → 0 ≤ i → 0 ≤ r → Q (.int n) (upd H p (.lst [.ref a, .int i, .int r, .int m])) := fun n i' r' m' h1 h2 h3 h4 =>
      k n _ h1 h2 ⟨i', r', m', upd_same, h3, h4, seqL_upd hp hs (ne _ _ _)⟩ fun b o e hb => by rw [upd_ne (fun z => hb (by simp [z]))]; exact e
    have sp : SqL K H p [.ref a, .int i, .int r, .int m] := .inl (.of hp)
    have cd : CDiv 5 many := ⟨hm, by omega⟩
    have a0 : ∀ {xs : List V} {j : Nat} {v : V} {z : Int}, z = (j : Int) → xs[j]? = some v → atI xs z = some v := fun h1 h2 => at_of h1 h2
    refine ⟨_, PSs.nox (pss_cons (ps_if (pt_cmpR op_gt (pe_ix ix_list (pv 0) pe_int (fun _ _ => rfl)) pe_int (nomark _))
        (pss_cons (ps_set (i := 2) scLT.nd rfl (.inl rfl) (pe_op op_mod (pe_ix ix_list (pv 0) pe_int (fun _ _ => rfl)) (pv 1)))
        (pss_cons (ps_asg (pe_op op_fdiv (pe_ix ix_list (pv 0) pe_int (fun _ _ => rfl)) (pv 1)) (pg_sub (pv 0) pe_int set_list))
        (pss_one (ps_ret (pv 2))))) pss_nil)
      (pss_cons (ps_if (pt_cmpR op_lt (pe_ix ix_list (pv 0) pe_int (fun _ _ => rfl)) (pe_callB call_len_seq (by rfl) hlen PySem.boot_len (pa_cons (pe_ix ix_list (pv 0) pe_int (fun _ _ => rfl)) pa_nil)) (nomark _))
        (pss_cons (ps_set (i := 3) scLT.nd rfl (.inl rfl) (pe_ix ix_list (pe_ix ix_list (pv 0) pe_int (fun _ _ => rfl)) (pe_ix ix_list (pv 0) pe_int (fun _ _ => rfl)) (fun _ _ => rfl)))
        (pss_cons (ps_asg (pe_op op_add (pe_ix ix_list (pv 0) pe_int (fun _ _ => rfl)) pe_int) (pg_sub (pv 0) pe_int set_list))
        (pss_cons (ps_if (pt_cmpR op_ge (pv 3) (pe_op op_pow pe_int pe_int) (nomark _)) (pss_one (ps_asg (pe_op op_fdiv (pv 3) (pv 1)) (pg_sub (pv 0) pe_int set_list))) pss_nil)
        (pss_one (ps_ret (pe_op op_mod (pv 3) (pv 1))))))) pss_nil)
      (pss_cons (ps_asg (pe_op op_mod (pe_op op_add (pe_op op_mul (pe_ix ix_list (pv 0) pe_int (fun _ _ => rfl)) pe_int) pe_int) pe_int) (pg_sub (pv 0) pe_int set_list))
      (pss_one (ps_ret (pe_op op_mod (pe_op op_fdiv (pe_ix ix_list (pv 0) pe_int (fun _ _ => rfl)) pe_int) (pv 1))))))), ?_⟩
    refine ⟨_, rfl, p, _, 2, _, rfl, rfl, sp, a0 (j := 2) rfl rfl, _, _, rfl, rfl, _, rfl, ?_⟩
    by_cases h2 : 0 < r
    · rw [decide_eq_true h2]
      refine iteT ⟨_, rfl, p, _, 2, _, rfl, rfl, sp, a0 (j := 2) rfl rfl, _, rfl, _, _, rfl, rfl, hm, ?_⟩
      refine ⟨_, rfl, p, _, 2, _, rfl, rfl, sp, a0 (j := 2) rfl rfl, _, rfl, _, _, rfl, rfl, ⟨hm, by omega⟩, ?_⟩
      refine ⟨_, rfl, p, _, 2, 2, rfl, rfl, hp, rfl, ?_⟩
      refine ⟨_, rfl, ?_⟩
      exact k (r % many) i (r / many) m (Int.emod_nonneg _ (by omega)) (Int.emod_lt_of_pos _ hm) hi (Int.ediv_nonneg hr0 (by omega))
    · rw [decide_eq_false h2]
      refine iteF ?_
      refine ⟨_, rfl, p, _, 1, _, rfl, rfl, sp, a0 (j := 1) rfl rfl, _, rfl, p, _, 0, _, rfl, rfl, sp, a0 (j := 0) rfl rfl, a, _, rfl, .inl hs, _, _, rfl, rfl, _, rfl, ?_⟩
      rw [List.length_map]
      by_cases h3 : i < (ns.length : Int)
      · rw [decide_eq_true h3]
        obtain ⟨j, rfl⟩ : ∃ j : Nat, i = (j : Int) := ⟨i.toNat, by omega⟩
        have hj : j < ns.length := by omega
        have ej : (ns.map V.int)[j]? = some (.int ns[j]) := by rw [List.getElem?_map, List.getElem?_eq_getElem hj]; rfl
        have up1 : upd H p (.lst [.ref a, .int ((j : Int) + 1), .int r, .int m]) p = some (.lst [.ref a, .int ((j : Int) + 1), .int r, .int m]) := upd_same
        refine iteT ⟨_, rfl, p, _, 0, _, rfl, rfl, sp, a0 (j := 0) rfl rfl, _, rfl, p, _, 1, _, rfl, rfl, sp, a0 (j := 1) rfl rfl, a, _, _, _, rfl, rfl, hs, a0 rfl ej, ?_⟩
        refine ⟨_, rfl, p, _, 1, _, rfl, rfl, sp, a0 (j := 1) rfl rfl, _, _, rfl, rfl, ?_⟩
        refine ⟨_, rfl, p, _, 1, 1, rfl, rfl, hp, rfl, ?_⟩
        refine ⟨_, rfl, _, _, rfl, rfl, ⟨by decide, by decide, by decide⟩, _, _, rfl, rfl, _, rfl, ?_⟩
        have md : 0 ≤ ns[j] % many ∧ ns[j] % many < many := ⟨Int.emod_nonneg _ (by omega), Int.emod_lt_of_pos _ hm⟩
        refine ite2 (fun hb => ?_) (fun _ => ?_)
        · refine ⟨_, rfl, _, rfl, _, _, rfl, rfl, ⟨hm, by omega⟩, ?_⟩
          refine ⟨_, rfl, p, _, 2, 2, rfl, rfl, up1, rfl, ?_⟩
          refine ⟨_, rfl, _, rfl, _, _, rfl, rfl, hm, ?_⟩
          have q := k (ns[j] % many) ((j : Int) + 1) (ns[j] / many) m md.1 md.2 (by omega) (Int.ediv_nonneg (by
            have hb' := of_decide_eq_true hb
            have : (0 : Int) ≤ 10 ^ (18 : Int).toNat := by decide
            omega) (by omega))
          rw [upd_upd]
          exact q
        · refine ⟨_, rfl, _, rfl, _, _, rfl, rfl, hm, ?_⟩
          exact k _ ((j : Int) + 1) r m md.1 md.2 (by omega) hr0
      · rw [decide_eq_false h3]
        refine iteF ?_
        refine ⟨_, rfl, p, _, 3, _, rfl, rfl, sp, a0 (j := 3) rfl rfl, _, _, rfl, rfl, .inr ⟨by decide, by decide⟩, _, _, rfl, rfl, _, _, rfl, rfl, (by decide : (0 : Int) < 2147483647), ?_⟩
        refine ⟨_, rfl, p, _, 3, 3, rfl, rfl, hp, rfl, ?_⟩
        refine ⟨_, rfl, p, _, 3, _, rfl, rfl, .inl (.of upd_same), a0 (j := 3) rfl rfl, _, _, rfl, rfl, ⟨by decide, by decide⟩, _, rfl, _, _, rfl, rfl, hm, ?_⟩
        exact k _ i r _ (Int.emod_nonneg _ (by omega)) (Int.emod_lt_of_pos _ hm) hi hr0
end
end Ah
end
section
set_option Elab.async false
set_option linter.all false
set_option maxRecDepth 100000
set_option maxHeartbeats 2000000
namespace Ah
open PySem PySem.Spec PyProof.Rows L2
/-! ### rows and sayings as data -/
inductive Rw where
  | is (n k : Str) | isnt (n k : Str) | has (n t m : Str) | hasnt (n t m : Str) | all (k l : Str) | no (k l : Str) | each (k t m : Str) | who (t k l : Str) | turned (t s : Str) | on (t : Str) | fr (t k : Str) | to (t k : Str) | under (t s : Str)
  deriving DecidableEq
def Rw.ws : Rw → List Str
  | .is n k => ["is", n, k] | .isnt n k => ["isnt", n, k] | .has n t m => ["has", n, t, m] | .hasnt n t m => ["hasnt", n, t, m] | .all k l => ["all", k, l] | .no k l => ["no", k, l]
  | .each k t m => ["each", k, t, m] | .who t k l => ["who", t, k, l] | .turned t s => ["turned", t, s] | .on t => ["on", t] | .fr t k => ["from", t, k] | .to t k => ["to", t, k] | .under t s => ["under", t, s]
def namesL : List Str := ["ann", "ben", "cy"]
def kindsL : List Str := ["cat", "dog", "owl"]
def tiesL : List Str := ["likes", "owns"]
/-- a row of the law's few words -/
def Rw.few : Rw → Prop
  | .is n k => n ∈ namesL ∧ k ∈ kindsL | .isnt n k => n ∈ namesL ∧ k ∈ kindsL | .has n t m => n ∈ namesL ∧ t ∈ tiesL ∧ m ∈ namesL | .hasnt n t m => n ∈ namesL ∧ t ∈ tiesL ∧ m ∈ namesL
  | .all k l => k ∈ kindsL ∧ l ∈ kindsL | .no k l => k ∈ kindsL ∧ l ∈ kindsL | .each k t m => k ∈ kindsL ∧ t ∈ tiesL ∧ m ∈ namesL | .who t k l => t ∈ tiesL ∧ k ∈ kindsL ∧ l ∈ kindsL
  | .turned t s => t ∈ tiesL ∧ s ∈ tiesL | .on t => t ∈ tiesL | .fr t k => t ∈ tiesL ∧ k ∈ kindsL | .to t k => t ∈ tiesL ∧ k ∈ kindsL | .under t s => t ∈ tiesL ∧ s ∈ tiesL
theorem Kept.refl {M : List Addr} (H : Hp) : Kept M H H := fun _ _ e _ => e
theorem Kept.trans {M : List Addr} {H H1 H2 : Hp} (a : Kept M H H1) (b : Kept M H1 H2) : Kept M H H2 := fun p o e n => b p o (a p o e n) n
theorem Kept.mono {M M' : List Addr} {H H1 : Hp} (a : Kept M H H1) (h : ∀ b ∈ M, b ∈ M') : Kept M' H H1 := fun p o e n => a p o e fun z => n (h p z)
theorem Kept.upd {M : List Addr} {H H1 : Hp} {p : Addr} {o : HO} (a : Kept M H H1) (n : H1 p = none) : Kept M H (upd H1 p o) := fun b u e hb => by
  have q := a b u e hb
  rw [upd_ne (ne_of_none q n)]
  exact q
/-- what stands at an address not in M: it is another than M's -/
theorem notin1 {H : Hp} {a p : Addr} {o u : HO} (h : H a = some o) (hp : H p = some u) (d : o ≠ u) : a ∉ [p] := fun z => by
  rw [List.mem_singleton.mp z, hp] at h
  exact d (Option.some.inj h).symm
theorem StAt.ob {K : PySem.W.Frag} {H : Hp} {p a : Addr} {ns : List Int} (S : StAt K H p a ns) : ∃ xs, H p = some (.lst xs) := let ⟨_, _, _, h, _⟩ := S; ⟨_, h⟩
theorem StAt.upd {K : PySem.W.Frag} {H : Hp} {p a q : Addr} {ns : List Int} {o : HO} (S : StAt K H p a ns) (n : H q = none) : StAt K (upd H q o) p a ns := by
  obtain ⟨i, r, m, h, h1, h2, h3⟩ := S
  refine ⟨i, r, m, by rw [upd_ne (ne_of_none h n)]; exact h, h1, h2, ?_⟩
  rcases h3 with (h3 | ⟨ob, h3⟩) | h3
  · exact .inl (.inl (by rw [upd_ne (ne_of_none h3 n)]; exact h3))
  · exact .inl (.inr ⟨ob, by rw [upd_ne (ne_of_none h3 n)]; exact h3⟩)
  · exact .inr h3
/-! ### displays -/
/-- arguments that are evaluated without a change: their values -/
def ValA (t : TA) (σ : L2.St) (vs : List V) : Prop := ∀ H (Q : List V → Hp → Prop), Q vs H → t σ H Q
theorem valA_nil {σ : L2.St} : ValA tNil σ [] := fun _ _ h => h
theorem valA_str {σ : L2.St} {t : TA} {z : Str} {vs : List V} (h : ValA t σ vs) : ValA (tCons (tC (.str z)) t) σ (.str z :: vs) := fun H Q q => h H _ q
theorem valA_var {σ : L2.St} {t : TA} {i : Nat} {v : V} {vs : List V} (e : σ[i]? = some (some v)) (h : ValA t σ vs) : ValA (tCons (tVar i) t) σ (v :: vs) := fun H Q q => ⟨v, e, h H _ q⟩
/-- arguments that are new tuples -/
def MkA (t : TA) (σ : L2.St) (xss : List (List V)) : Prop := ∀ H (Q : List V → Hp → Prop), (∀ (ps : List Addr) H', Kept [] H H' → Paired (fun p xs => H' p = some (.tup xs)) ps xss → Q (ps.map V.ref) H') → t σ H Q
theorem mkA_nil {σ : L2.St} : MkA tNil σ [] := fun H Q h => h [] H (Kept.refl H) .nil
theorem mkA_cons {σ : L2.St} {s t : TA} {xs : List V} {xss : List (List V)} (hs : ValA s σ xs) (h : MkA t σ xss) (hl : xs.length ≤ 100 := by exact Nat.le_of_ble_eq_true rfl) : MkA (tCons (tTup s) t) σ (xs :: xss) := fun H Q q =>
  hs H _ ⟨Nat.le_trans hl (by decide), fun p np => h _ _ fun ps H' k r => q (p :: ps) H' (fun b o e hb => k b o (by rw [upd_ne (ne_of_none e np)]; exact e) hb) (.cons (k p _ upd_same (by simp)) r)⟩
/-- [..][_law_taken(row, m)]: one of them -/
theorem rd_pick {K : PySem.W.Frag} {σ : L2.St} {H : Hp} {Q : VK} {tl : TA} {l : List Str} {m : Int} {p a : Addr} {ns : List Int} {E : XK} (hl : ValA tl σ (l.map V.str)) (hm : m = (l.length : Int)) (h0 : 0 < l.length) (h1 : l.length ≤ 100)
    (hσ : σ[0]? = some (some (.ref p))) (S : StAt K H p a ns) (h : ∀ z ∈ l, ∀ H', StAt K H' p a ns → Kept [p] H H' → Q (.str z) H') :
    tOp (rIxL K) (tLst tl) (tCall (spTaken K) [] E (tCons (tVar 0) (tCons (tC (.int m)) tNil))) σ H Q := by
  refine hl H _ ⟨by rw [List.length_map]; exact Nat.le_trans h1 (by decide), fun q nq => ?_⟩
  refine ⟨_, hσ, p, a, ns, m, rfl, S.upd nq, by omega, by omega, fun n H' hn0 hn1 S' k => ?_⟩
  obtain ⟨j, rfl⟩ : ∃ j : Nat, n = (j : Int) := ⟨n.toNat, by omega⟩
  have hj : j < l.length := by omega
  obtain ⟨xs, hp⟩ := S.ob
  have hq : q ∉ [p] := fun z => by
    rw [List.mem_singleton.mp z, hp] at nq
    cases nq
  refine ⟨q, l.map V.str, (j : Int), .str l[j], rfl, rfl, .inl (.of (k q _ upd_same hq)), at_of (j := j) rfl (by rw [List.getElem?_map, List.getElem?_eq_getElem hj]; rfl), ?_⟩
  exact h _ (List.getElem_mem hj) H' S' fun b o e hb => k b o (by rw [upd_ne (ne_of_none e nq)]; exact e) hb
theorem mkL {t : TA} {σ : L2.St} {xss : List (List V)} {H : Hp} {Q : VK} (h : MkA t σ xss) (hl : xss.length ≤ 100) (k : ∀ (ps : List Addr) (l : Addr) H', Kept [] H H' → Paired (fun p xs => H' p = some (.tup xs)) ps xss → H' l = some (.lst (ps.map V.ref)) → Q (.ref l) H') : tLst t σ H Q :=
  h H _ fun ps H' k1 r => ⟨by rw [List.length_map, r.length]; exact Nat.le_trans hl (by decide), fun l nl => k ps l _ (k1.upd nl) (Paired.mapP r fun p xs e => by rw [upd_ne (ne_of_none e nl)]; exact e) upd_same⟩
/-- statement by statement -/
theorem seq_set {te : TE} {i : Nat} {rest : TS} {D : Ends} {σ : L2.St} {H : Hp} (h : te σ H fun x H1 => rest D (σ.set i (some x)) H1) : tSeq (tAsg te (gName i)) rest D σ H := h
theorem ret_of {te : TE} {D : Ends} {σ : L2.St} {H : Hp} (h : te σ H D.rt) : tRet te D σ H := h
theorem op_of {r : R2} {ta tb : TE} {σ : L2.St} {H : Hp} {Q : VK} (h : ta σ H fun x H1 => tb σ H1 fun y H2 => r x y H2 Q) : tOp r ta tb σ H Q := h
theorem paired_app {α β : Type} {F : α → β → Prop} : ∀ {l₁ m₁ : List α} {l₂ m₂ : List β}, Paired F l₁ l₂ → Paired F m₁ m₂ → Paired F (l₁ ++ m₁) (l₂ ++ m₂)
  | _, _, _, _, .nil, h => h
  | _, _, _, _, .cons r t, h => .cons r (paired_app t h)
theorem paired_at {α β : Type} {F : α → β → Prop} : ∀ {l₁ : List α} {l₂ : List β} {i : Nat} {a : α}, Paired F l₁ l₂ → l₁[i]? = some a → ∃ b, l₂[i]? = some b ∧ F a b
  | _, _, _, _, .nil, h => by simp at h
  | _, _, 0, _, .cons r t, h => by
    simp at h
    subst h
    exact ⟨_, rfl, r⟩
  | _, _, i + 1, _, .cons r t, h => by
    obtain ⟨b, e, f⟩ := paired_at (i := i) t (by simpa using h)
    exact ⟨b, by simpa using e, f⟩
theorem StAt.kept {K : PySem.W.Frag} {H H' : Hp} {p a : Addr} {ns : List Int} (S : StAt K H p a ns) (k : Kept [] H H') : StAt K H' p a ns := by
  obtain ⟨i, r, m, h, h1, h2, h3⟩ := S
  refine ⟨i, r, m, k _ _ h (by simp), h1, h2, ?_⟩
  rcases h3 with (h3 | ⟨ob, h3⟩) | h3
  · exact .inl (.inl (k _ _ h3 (by simp)))
  · exact .inl (.inr ⟨ob, k _ _ h3 (by simp)⟩)
  · exact .inr h3
theorem few16 {n m c d t u : Str} (hn : n ∈ namesL) (hm : m ∈ namesL) (hc : c ∈ kindsL) (hd : d ∈ kindsL) (ht : t ∈ tiesL) (hu : u ∈ tiesL) :
    ∀ xs ∈ ([[.str "is", .str n, .str c], [.str "is", .str n, .str c], [.str "has", .str n, .str t, .str m], [.str "has", .str n, .str t, .str m], [.str "has", .str n, .str t, .str m], [.str "all", .str c, .str d]] ++
      [[.str "isnt", .str n, .str c], [.str "hasnt", .str n, .str t, .str m], [.str "no", .str c, .str d], [.str "each", .str c, .str t, .str m], [.str "who", .str t, .str c, .str d]] ++
      [[.str "turned", .str t, .str u], [.str "on", .str t], [.str "from", .str t, .str c], [.str "to", .str t, .str c], [.str "under", .str t, .str u]] : List (List V)), ∃ r : Rw, r.few ∧ xs = r.ws.map V.str := by
  intro xs hx
  simp only [List.mem_append, List.mem_cons, List.not_mem_nil, or_false] at hx
  rcases hx with ((e | e | e | e | e | e) | (e | e | e | e | e)) | (e | e | e | e | e)
  · exact ⟨.is n c, ⟨hn, hc⟩, e⟩
  · exact ⟨.is n c, ⟨hn, hc⟩, e⟩
  · exact ⟨.has n t m, ⟨hn, ht, hm⟩, e⟩
  · exact ⟨.has n t m, ⟨hn, ht, hm⟩, e⟩
  · exact ⟨.has n t m, ⟨hn, ht, hm⟩, e⟩
  · exact ⟨.all c d, ⟨hc, hd⟩, e⟩
  · exact ⟨.isnt n c, ⟨hn, hc⟩, e⟩
  · exact ⟨.hasnt n t m, ⟨hn, ht, hm⟩, e⟩
  · exact ⟨.no c d, ⟨hc, hd⟩, e⟩
  · exact ⟨.each c t m, ⟨hc, ht, hm⟩, e⟩
  · exact ⟨.who t c d, ⟨ht, hc, hd⟩, e⟩
  · exact ⟨.turned t u, ⟨ht, hu⟩, e⟩
  · exact ⟨.on t, ht, e⟩
  · exact ⟨.fr t c, ⟨ht, hc⟩, e⟩
  · exact ⟨.to t c, ⟨ht, hc⟩, e⟩
  · exact ⟨.under t u, ⟨ht, hu⟩, e⟩
/-- the slots -/
def sg (p : Addr) (n m c d t u : Str) (v : Option V) : L2.St := [some (.ref p), some (.str n), some (.str m), some (.str c), some (.str d), some (.str t), some (.str u), v]
theorem scLOne : FnScope ["_law_row_here", "_law_n", "_law_m", "_law_k", "_law_l", "_law_t", "_law_s", "_law_some"] ["_law_row_here"] (defScope lOne) := ⟨rfl, rfl, rfl, by decide +kernel, rfl, by decide +kernel, by decide +kernel⟩
def spOne (K : PySem.W.Frag) : Sp := fun vs H Q _ => ∃ (p a : Addr) (ns : List Int), vs = [.ref p] ∧ StAt K H p a ns ∧
  ∀ (q : Addr) (r : Rw) (H' : Hp), r.few → StAt K H' p a ns → Kept [p] H H' → H' q = some (.tup (r.ws.map V.str)) → Q (.ref q) H'
section
variable {P : Program} {w : World} {K : PySem.W.Frag} {mg : Str → Option Value} {base : Heap} {f fT : Addr} {fd fdT : FuncData}
theorem ok_lone (F : FnP K "_law_one" lOne f fd) (gT : mg "_law_taken" = some (.ref fT)) (FT : FnOk P w K mg base CX0 1 fT fdT ["_law_row_here", "_law_many"] (spTaken K)) (kT : PySem.W.keepIn K (.ref fT) = true) (bT : Binds K fdT ["_law_row_here", "_law_many"] []) :
    FnOk P w K mg base CX0 2 f fd ["_law_row_here"] (spOne K) := by
  refine F.ok scLOne (fun vs H Q E h => ?_) (fun cdv A outer s H vs Q E hr h => ?_)
  · obtain ⟨p, a, ns, rfl, _⟩ := h
    rfl
  · obtain ⟨p, a, ns, rfl, S, k⟩ := h
    refine ⟨_, PSs.nox (pss_cons (ps_par (by rfl) scLOne.nd (i := 1) (j := 2) rfl rfl (by decide) rfl rfl (pa_cons (pe_ix ix_list (pe_lst (pa_cons pe_str (pa_cons pe_str (pa_cons pe_str pa_nil)))) (pe_call FT hr (by rfl) gT kT bT .nil pass0 (pa_cons (pv 0) (pa_cons pe_int pa_nil))) (fun _ _ => rfl)) (pa_cons (pe_ix ix_list (pe_lst (pa_cons pe_str (pa_cons pe_str (pa_cons pe_str pa_nil)))) (pe_call FT hr (by rfl) gT kT bT .nil pass0 (pa_cons (pv 0) (pa_cons pe_int pa_nil))) (fun _ _ => rfl)) pa_nil)) (by rfl))
      (pss_cons (ps_par (by rfl) scLOne.nd (i := 3) (j := 4) rfl rfl (by decide) rfl rfl (pa_cons (pe_ix ix_list (pe_lst (pa_cons pe_str (pa_cons pe_str (pa_cons pe_str pa_nil)))) (pe_call FT hr (by rfl) gT kT bT .nil pass0 (pa_cons (pv 0) (pa_cons pe_int pa_nil))) (fun _ _ => rfl)) (pa_cons (pe_ix ix_list (pe_lst (pa_cons pe_str (pa_cons pe_str (pa_cons pe_str pa_nil)))) (pe_call FT hr (by rfl) gT kT bT .nil pass0 (pa_cons (pv 0) (pa_cons pe_int pa_nil))) (fun _ _ => rfl)) pa_nil)) (by rfl))
      (pss_cons (ps_par (by rfl) scLOne.nd (i := 5) (j := 6) rfl rfl (by decide) rfl rfl (pa_cons (pe_ix ix_list (pe_lst (pa_cons pe_str (pa_cons pe_str pa_nil))) (pe_call FT hr (by rfl) gT kT bT .nil pass0 (pa_cons (pv 0) (pa_cons pe_int pa_nil))) (fun _ _ => rfl)) (pa_cons (pe_ix ix_list (pe_lst (pa_cons pe_str (pa_cons pe_str pa_nil))) (pe_call FT hr (by rfl) gT kT bT .nil pass0 (pa_cons (pv 0) (pa_cons pe_int pa_nil))) (fun _ _ => rfl)) pa_nil)) (by rfl))
      (pss_cons (ps_set (i := 7) scLOne.nd rfl (.inl rfl) (pe_lst (pa_cons (pe_tup (pa_cons pe_str (pa_cons (pv 1) (pa_cons (pv 3) pa_nil)))) (pa_cons (pe_tup (pa_cons pe_str (pa_cons (pv 1) (pa_cons (pv 3) pa_nil)))) (pa_cons (pe_tup (pa_cons pe_str (pa_cons (pv 1) (pa_cons (pv 5) (pa_cons (pv 2) pa_nil))))) (pa_cons (pe_tup (pa_cons pe_str (pa_cons (pv 1) (pa_cons (pv 5) (pa_cons (pv 2) pa_nil))))) (pa_cons (pe_tup (pa_cons pe_str (pa_cons (pv 1) (pa_cons (pv 5) (pa_cons (pv 2) pa_nil))))) (pa_cons (pe_tup (pa_cons pe_str (pa_cons (pv 3) (pa_cons (pv 4) pa_nil)))) pa_nil))))))))
      (pss_cons (ps_set (i := 7) scLOne.nd rfl (.inl rfl) (pe_op op_cat (pv 7) (pe_lst (pa_cons (pe_tup (pa_cons pe_str (pa_cons (pv 1) (pa_cons (pv 3) pa_nil)))) (pa_cons (pe_tup (pa_cons pe_str (pa_cons (pv 1) (pa_cons (pv 5) (pa_cons (pv 2) pa_nil))))) (pa_cons (pe_tup (pa_cons pe_str (pa_cons (pv 3) (pa_cons (pv 4) pa_nil)))) (pa_cons (pe_tup (pa_cons pe_str (pa_cons (pv 3) (pa_cons (pv 5) (pa_cons (pv 2) pa_nil))))) (pa_cons (pe_tup (pa_cons pe_str (pa_cons (pv 5) (pa_cons (pv 3) (pa_cons (pv 4) pa_nil))))) pa_nil))))))))
      (pss_cons (ps_set (i := 7) scLOne.nd rfl (.inl rfl) (pe_op op_cat (pv 7) (pe_lst (pa_cons (pe_tup (pa_cons pe_str (pa_cons (pv 5) (pa_cons (pv 6) pa_nil)))) (pa_cons (pe_tup (pa_cons pe_str (pa_cons (pv 5) pa_nil))) (pa_cons (pe_tup (pa_cons pe_str (pa_cons (pv 5) (pa_cons (pv 3) pa_nil)))) (pa_cons (pe_tup (pa_cons pe_str (pa_cons (pv 5) (pa_cons (pv 3) pa_nil)))) (pa_cons (pe_tup (pa_cons pe_str (pa_cons (pv 5) (pa_cons (pv 6) pa_nil)))) pa_nil))))))))
      (pss_one (ps_ret (pe_ix ix_list (pv 7) (pe_call FT hr (by rfl) gT kT bT .nil pass0 (pa_cons (pv 0) (pa_cons pe_int pa_nil))) (fun _ _ => rfl)))))))))), ?_⟩
    refine rd_pick (l := namesL) (valA_str (valA_str (valA_str valA_nil))) rfl (by decide) (by decide) rfl S fun n hn H1 S1 k1 => ?_
    refine rd_pick (l := namesL) (valA_str (valA_str (valA_str valA_nil))) rfl (by decide) (by decide) rfl S1 fun m hm H2 S2 k2 => ⟨_, _, rfl, ?_⟩
    refine rd_pick (l := kindsL) (valA_str (valA_str (valA_str valA_nil))) rfl (by decide) (by decide) rfl S2 fun c hc H3 S3 k3 => ?_
    refine rd_pick (l := kindsL) (valA_str (valA_str (valA_str valA_nil))) rfl (by decide) (by decide) rfl S3 fun d hd H4 S4 k4 => ⟨_, _, rfl, ?_⟩
    refine rd_pick (l := tiesL) (valA_str (valA_str valA_nil)) rfl (by decide) (by decide) rfl S4 fun t ht H5 S5 k5 => ?_
    refine rd_pick (l := tiesL) (valA_str (valA_str valA_nil)) rfl (by decide) (by decide) rfl S5 fun u hu H6 S6 k6 => ⟨_, _, rfl, ?_⟩
    have A1 : MkA _ (sg p n m c d t u none) [[.str "is", .str n, .str c], [.str "is", .str n, .str c], [.str "has", .str n, .str t, .str m], [.str "has", .str n, .str t, .str m], [.str "has", .str n, .str t, .str m], [.str "all", .str c, .str d]] :=
      mkA_cons (valA_str (valA_var (i := 1) rfl (valA_var (i := 3) rfl valA_nil))) (mkA_cons (valA_str (valA_var (i := 1) rfl (valA_var (i := 3) rfl valA_nil))) (mkA_cons (valA_str (valA_var (i := 1) rfl (valA_var (i := 5) rfl (valA_var (i := 2) rfl valA_nil)))) (mkA_cons (valA_str (valA_var (i := 1) rfl (valA_var (i := 5) rfl (valA_var (i := 2) rfl valA_nil)))) (mkA_cons (valA_str (valA_var (i := 1) rfl (valA_var (i := 5) rfl (valA_var (i := 2) rfl valA_nil)))) (mkA_cons (valA_str (valA_var (i := 3) rfl (valA_var (i := 4) rfl valA_nil))) mkA_nil)))))
    dsimp only
    refine seq_set ?_
    change tLst _ (sg p n m c d t u none) H6 _
    refine mkL A1 (by exact Nat.le_of_ble_eq_true rfl) fun ps1 l1 H7 k7 r7 e7 => ?_
    change tSeq (tAsg _ (gName 7)) _ _ (sg p n m c d t u (some (.ref l1))) H7
    refine seq_set (op_of ⟨_, rfl, ?_⟩)
    change tLst _ (sg p n m c d t u (some (.ref l1))) H7 _
    have A2 : MkA _ (sg p n m c d t u (some (.ref l1))) [[.str "isnt", .str n, .str c], [.str "hasnt", .str n, .str t, .str m], [.str "no", .str c, .str d], [.str "each", .str c, .str t, .str m], [.str "who", .str t, .str c, .str d]] :=
      mkA_cons (valA_str (valA_var (i := 1) rfl (valA_var (i := 3) rfl valA_nil))) (mkA_cons (valA_str (valA_var (i := 1) rfl (valA_var (i := 5) rfl (valA_var (i := 2) rfl valA_nil)))) (mkA_cons (valA_str (valA_var (i := 3) rfl (valA_var (i := 4) rfl valA_nil))) (mkA_cons (valA_str (valA_var (i := 3) rfl (valA_var (i := 5) rfl (valA_var (i := 2) rfl valA_nil)))) (mkA_cons (valA_str (valA_var (i := 5) rfl (valA_var (i := 3) rfl (valA_var (i := 4) rfl valA_nil)))) mkA_nil))))
    refine mkL A2 (by exact Nat.le_of_ble_eq_true rfl) fun ps2 l2 H8 k8 r8 e8 => ?_
    refine ⟨l1, l2, _, _, rfl, rfl, k8 l1 _ e7 (by simp), e8, ?_, fun l3 n3 => ?_⟩
    · rw [List.length_map, List.length_map, r7.length, r8.length]; exact Nat.le_of_ble_eq_true rfl
    change tSeq (tAsg _ (gName 7)) _ _ (sg p n m c d t u (some (.ref l3))) _
    refine seq_set (op_of ⟨_, rfl, ?_⟩)
    change tLst _ (sg p n m c d t u (some (.ref l3))) _ _
    have A3 : MkA _ (sg p n m c d t u (some (.ref l3))) [[.str "turned", .str t, .str u], [.str "on", .str t], [.str "from", .str t, .str c], [.str "to", .str t, .str c], [.str "under", .str t, .str u]] :=
      mkA_cons (valA_str (valA_var (i := 5) rfl (valA_var (i := 6) rfl valA_nil))) (mkA_cons (valA_str (valA_var (i := 5) rfl valA_nil)) (mkA_cons (valA_str (valA_var (i := 5) rfl (valA_var (i := 3) rfl valA_nil))) (mkA_cons (valA_str (valA_var (i := 5) rfl (valA_var (i := 3) rfl valA_nil))) (mkA_cons (valA_str (valA_var (i := 5) rfl (valA_var (i := 6) rfl valA_nil))) mkA_nil))))
    refine mkL A3 (by exact Nat.le_of_ble_eq_true rfl) fun ps3 l4 H9 k9 r9 e9 => ?_
    refine ⟨l3, l4, _, _, rfl, rfl, k9 l3 _ upd_same (by simp), e9, ?_, fun l5 n5 => ?_⟩
    · rw [List.length_append, List.length_map, List.length_map, List.length_map, r7.length, r8.length, r9.length]; exact Nat.le_of_ble_eq_true rfl
    change tRet _ _ (sg p n m c d t u (some (.ref l5))) _
    refine ret_of (op_of ⟨_, rfl, ?_⟩)
    have kA : Kept [] H6 (L2.upd H8 l3 (.lst (ps1.map V.ref ++ ps2.map V.ref))) := (k7.trans k8).upd n3
    have kB : Kept [] H6 (L2.upd H9 l5 (.lst (ps1.map V.ref ++ ps2.map V.ref ++ ps3.map V.ref))) := (kA.trans k9).upd n5
    have k89 : Kept [] H8 (L2.upd H9 l5 (.lst (ps1.map V.ref ++ ps2.map V.ref ++ ps3.map V.ref))) := (((Kept.refl H8).upd n3).trans k9).upd n5
    have k99 : Kept [] H9 (L2.upd H9 l5 (.lst (ps1.map V.ref ++ ps2.map V.ref ++ ps3.map V.ref))) := (Kept.refl H9).upd n5
    have rr := (paired_app (paired_app (Paired.mapP r7 fun q xs e => k89 q _ (k8 q _ e (by simp)) (by simp)) (Paired.mapP r8 fun q xs e => k89 q _ e (by simp))) (Paired.mapP r9 fun q xs e => k99 q _ e (by simp)))
    have e5 : L2.upd H9 l5 (.lst (ps1.map V.ref ++ ps2.map V.ref ++ ps3.map V.ref)) l5 = some (.lst ((ps1 ++ ps2 ++ ps3).map V.ref)) := by rw [upd_same, List.map_append, List.map_append]
    have SB := S6.kept kB
    generalize hHf : L2.upd H9 l5 (.lst (ps1.map V.ref ++ ps2.map V.ref ++ ps3.map V.ref)) = Hf at kB rr e5 SB
    have hl5 : l5 ∉ [p] := fun z => by
      obtain ⟨xs, hp⟩ := S6.ob
      have q := k9 p _ (kA p _ hp (by simp)) (by simp)
      rw [List.mem_singleton.mp z, q] at n5
      cases n5
    refine ⟨_, rfl, p, a, ns, 16, rfl, SB, by decide, by decide, fun i H' h0 h1 S' k' => ?_⟩
    obtain ⟨j, rfl⟩ : ∃ j : Nat, i = (j : Int) := ⟨i.toNat, by omega⟩
    have hlen := rr.length
    have hj : j < (ps1 ++ ps2 ++ ps3).length := by
      rw [hlen]
      exact Nat.lt_of_lt_of_le (show j < 16 by omega) (by exact Nat.le_of_ble_eq_true rfl)
    obtain ⟨xs, hx, hq⟩ := paired_at rr (List.getElem?_eq_getElem hj)
    obtain ⟨r, hr, er⟩ := few16 hn hm hc hd ht hu xs (List.mem_of_getElem? hx)
    subst er
    refine ⟨l5, _, _, _, rfl, rfl, .inl (.of (k' l5 _ e5 hl5)), at_of (j := j) rfl (by rw [List.getElem?_map, List.getElem?_eq_getElem hj]; rfl), ?_⟩
    obtain ⟨ys, hp6⟩ := SB.ob
    refine k _ r H' hr S' ?_ (k' _ _ hq (notin1 hq hp6 (by intro z; cases z)))
    exact ((((((k1.trans k2).trans k3).trans k4).trans k5).trans k6).trans (kB.mono (by simp))).trans k'
end
end Ah
end
section
set_option Elab.async false
set_option linter.all false
set_option maxRecDepth 100000
set_option maxHeartbeats 2000000
namespace Ah
open PySem PySem.Spec PyProof.Rows L2
/-! ### texts -/
def TextAt (H : Hp) (q : Addr) (rs : List Rw) : Prop := ∃ ps : List Addr, H q = some (.tup (ps.map V.ref)) ∧ Paired (fun a r => H a = some (.tup ((Rw.ws r).map V.str))) ps rs
theorem scLTx : FnScope ["_law_row_here", "_law_many", "_law_k"] ["_law_row_here", "_law_many"] (defScope lText) := ⟨rfl, rfl, rfl, by decide +kernel, rfl, by decide +kernel, by decide +kernel⟩
def spText (K : PySem.W.Frag) : Sp := fun vs H Q _ => ∃ (p a : Addr) (ns : List Int) (many : Int), vs = [.ref p, .int many] ∧ StAt K H p a ns ∧ 0 ≤ many ∧ many < 1000 ∧
  ∀ (q : Addr) (rs : List Rw) (H' : Hp), (∀ r ∈ rs, r.few) → (rs.length : Int) ≤ many → StAt K H' p a ns → Kept [p] H H' → TextAt H' q rs → Q (.ref q) H'
theorem seqL_far {K : PySem.W.Frag} {H1 H' : Hp} {a D : Addr} {o : HO} {xs : List V} (h1 : SqL K H1 a xs) (n : H1 D = none) (h : SqL K H' a xs) : SqL K (upd H' D o) a xs := by
  rcases h1 with h1 | h1
  · have ne : a ≠ D := fun e => by
      rcases h1 with h1 | ⟨ob, h1⟩ <;> rw [e, n] at h1 <;> cases h1
    rcases h with (h | ⟨ob, h⟩) | h
    · exact .inl (.inl (by rw [upd_ne ne]; exact h))
    · exact .inl (.inr ⟨ob, by rw [upd_ne ne]; exact h⟩)
    · exact .inr h
  · exact .inr h1
/-- the state stands where another new object changes -/
theorem StAt.far {K : PySem.W.Frag} {H1 H' : Hp} {p a D : Addr} {ns : List Int} {o : HO} (S1 : StAt K H1 p a ns) (n : H1 D = none) (S : StAt K H' p a ns) : StAt K (L2.upd H' D o) p a ns := by
  obtain ⟨i, r, m, h, g1, g2, g3⟩ := S
  obtain ⟨i1, r1, m1, h1, _, _, q3⟩ := S1
  exact ⟨i, r, m, by rw [upd_ne (ne_of_none h1 n)]; exact h, g1, g2, seqL_far q3 n g3⟩
theorem Kept.far {M : List Addr} {H H1 H' : Hp} {D : Addr} {o : HO} (k1 : Kept M H H1) (n : H1 D = none) (k : Kept M H H') : Kept M H (L2.upd H' D o) := fun b u e hb => by
  rw [upd_ne (ne_of_none (k1 b u e hb) n)]
  exact k b u e hb
theorem yes_if {X Y : Hp → Prop} {σ : L2.St} {H : Hp} (h : X H) : tYes σ H fun b H3 => if b = true then X H3 else Y H3 := by
  show if true = true then X H else Y H
  rw [if_pos rfl]
  exact h
section
variable {P : Program} {w : World} {K : PySem.W.Frag} {mg : Str → Option Value} {base : Heap} {f fT fO : Addr} {fd fdT fdO : FuncData}
theorem ok_ltext (F : FnP K "_law_text" lText f fd) (gT : mg "_law_taken" = some (.ref fT)) (FT : FnOk P w K mg base CX0 1 fT fdT ["_law_row_here", "_law_many"] (spTaken K)) (kT : PySem.W.keepIn K (.ref fT) = true) (bT : Binds K fdT ["_law_row_here", "_law_many"] [])
    (gO : mg "_law_one" = some (.ref fO)) (FO : FnOk P w K mg base CX0 2 fO fdO ["_law_row_here"] (spOne K)) (kO : PySem.W.keepIn K (.ref fO) = true) (bO : Binds K fdO ["_law_row_here"] []) (zt : mg "tuple" = none) (zr : mg "range" = none) :
    FnOk P w K mg base CX0 3 f fd ["_law_row_here", "_law_many"] (spText K) := by
  refine F.ok scLTx (fun vs H Q E h => ?_) (fun cdv A outer s H vs Q E hr h => ?_)
  · obtain ⟨p, a, ns, many, rfl, _⟩ := h
    rfl
  · obtain ⟨p, a, ns, many, rfl, S, h0, h1, k⟩ := h
    refine ⟨_, PSs.nox (pss_one (ps_ret (pe_callTy call_tuple_of (by rfl) zt (by decide +kernel) (pa_cons
      (pe_lc (own := [("_law_k", 2)]) (g := gName 2) (tt := tYes) rfl scLTx.nd (pi_range1 rfl zr (pa_cons (pe_call FT (hr.mono (by decide)) (by rfl) gT kT bT .nil pass0 (pa_cons (pv 0) (pa_cons (pe_op op_add (pv 1) pe_int) pa_nil))) pa_nil))
        (blkOk_by (N := ["_law_row_here", "_law_many", "_law_k"]) (sc := defScope lText) (by decide +kernel)) (fun _ _ _ _ _ => pg_name (i := 2) scLTx.nd rfl (Or.inl rfl)) (fun _ _ _ _ _ => pts_nil)
        (fun _ _ _ _ _ => pe_call FO hr (by rfl) gO kO bO .nil pass0 (pa_cons (pv 0) pa_nil))) pa_nil)))), ?_⟩
    refine ⟨_, rfl, _, rfl, _, _, rfl, rfl, p, a, ns, many + 1, rfl, S, by omega, by omega, fun n H1 hn0 hn1 S1 k1 => ⟨n, rfl, by omega, by omega, fun D nD => ?_⟩⟩
    refine lc_range (lo := 0) (n := n.toNat) (fun i H' => ∃ (ps : List Addr) (rs : List Rw), H' D = some (.lst (ps.map V.ref)) ∧ Paired (fun a r => H' a = some (.tup ((Rw.ws r).map V.str))) ps rs ∧ rs.length = i ∧ (∀ r ∈ rs, r.few) ∧ StAt K H' p a ns ∧ Kept [p] H H')
      ⟨[], [], upd_same, .nil, rfl, fun _ z => (by simp at z), S1.upd nD, k1.upd nD⟩ ?_ ?_
    · rintro i Ha hi ⟨ps, rs, e1, r1, hl, hf, S2, k2⟩
      refine ⟨rfl, yes_if ?_⟩
      refine ⟨_, rfl, p, a, ns, rfl, S2, fun q r H3 hr' S3 k3 eq => ?_⟩
      obtain ⟨ys, hp2⟩ := S2.ob
      have hDp : D ∉ [p] := fun z => by
        obtain ⟨zs, hz⟩ := S1.ob
        rw [List.mem_singleton.mp z, hz] at nD
        cases nD
      have hl2 : ps.length = rs.length := r1.length
      have eD := k3 D _ e1 hDp
      refine ⟨_, eD, ?_, ps ++ [q], rs ++ [r], ?_, ?_, ?_, ?_, ?_, ?_⟩
      · rw [List.length_map, hl2, hl]
        exact Nat.lt_of_lt_of_le (show i < 2000 by omega) (by decide)
      · rw [upd_same, List.map_append] <;> rfl
      · have neD : ∀ {b : Addr} {xs : List V}, H3 b = some (.tup xs) → b ≠ D := fun e z => by
          rw [z, eD] at e
          cases e
        refine paired_app (Paired.mapP r1 fun b r' e => ?_) (.cons ?_ .nil)
        · have e' := k3 b _ e (notin1 e hp2 (by intro z; cases z))
          rw [upd_ne (neD e')]
          exact e'
        · rw [upd_ne (neD eq)]
          exact eq
      · rw [List.length_append, hl] <;> rfl
      · intro r' hr2
        rcases List.mem_append.mp hr2 with z | z
        · exact hf r' z
        · rw [List.mem_singleton.mp z]
          exact hr'
      · exact S1.far nD S3
      · exact k1.far nD (k2.trans k3)
    · rintro Ha ⟨ps, rs, e1, r1, hl, hf, S2, k2⟩
      refine ⟨D, _, rfl, .inl ⟨.inl (.of e1), fun q nq => ?_⟩⟩
      refine k q rs _ hf (by omega) (S2.upd nq) (k2.upd nq) ⟨ps, upd_same, Paired.mapP r1 fun b r' e => by rw [upd_ne (ne_of_none e nq)]; exact e⟩
end
end Ah
end
section
set_option Elab.async false
set_option linter.all false
set_option maxRecDepth 100000
set_option maxHeartbeats 2000000
namespace Ah
open PySem PySem.Spec PyProof.Rows L2
/-! ### alike -/
def Flat : V → Prop
  | .non => True | .bl _ => True | .int _ => True | .str _ => True | _ => False
/-- the same data to the depth n -/
def At (K : PySem.W.Frag) (H : Hp) : Nat → V → V → Prop
  | 0, x, y => x = y ∧ Flat x
  | n + 1, x, y => (x = y ∧ Flat x) ∨ ∃ a b xs ys, x = .ref a ∧ y = .ref b ∧ ((SqT K H a xs ∧ SqT K H b ys) ∨ (H a = some (.lst xs) ∧ H b = some (.lst ys))) ∧ xs.length ≤ 1000000 ∧ Paired (At K H n) xs ys
theorem sqT_kept {K : PySem.W.Frag} {H H' : Hp} {a : Addr} {xs : List V} (k : Kept [] H H') (h : SqT K H a xs) : SqT K H' a xs := by
  rcases h with (h | ⟨o, h⟩) | h
  · exact .inl (.inl (k _ _ h (by simp)))
  · exact .inl (.inr ⟨o, k _ _ h (by simp)⟩)
  · exact .inr h
theorem At.kept {K : PySem.W.Frag} {H H' : Hp} (k : Kept [] H H') : ∀ {n : Nat} {x y : V}, At K H n x y → At K H' n x y
  | 0, _, _, h => h
  | n + 1, _, _, h => by
    rcases h with h | ⟨a, b, xs, ys, e1, e2, h, hl, r⟩
    · exact .inl h
    · refine .inr ⟨a, b, xs, ys, e1, e2, ?_, hl, Paired.mapP r fun x y q => At.kept k q⟩
      rcases h with ⟨h1, h2⟩ | ⟨h1, h2⟩
      · exact .inl ⟨sqT_kept k h1, sqT_kept k h2⟩
      · exact .inr ⟨k _ _ h1 (by simp), k _ _ h2 (by simp)⟩
def spAlike (K : PySem.W.Frag) : Nat → Sp
  | 0 => fun _ _ _ _ => False
  | n + 1 => fun vs H Q _ => ∃ x y : V, vs = [x, y] ∧ At K H n x y ∧ ∀ H', Kept [] H H' → Q (.bl true) H'
/-- built-in names that the module leaves alone -/
structure Bl (mg : Str → Option Value) : Prop where
  isinstance_ : mg "isinstance" = none
  len_ : mg "len" = none
  tuple_ : mg "tuple" = none
  list_ : mg "list" = none
  str_ : mg "str" = none
  bool_ : mg "bool" = none
  range_ : mg "range" = none
  enumerate_ : mg "enumerate" = none
  sorted_ : mg "sorted" = none
  zip_ : mg "zip" = none
  dict_ : mg "dict" = none
  all_ : mg "all" = none
/-- a def of the module's own, its promise, its binding -/
structure Own (P : Program) (w : World) (K : PySem.W.Frag) (mg : Str → Option Value) (base : Heap) (x : Str) (k : Nat) (f : Addr) (fd : FuncData) (ps : List Str) (sp : Sp) : Prop where
  ok : FnOk P w K mg base CX0 k f fd ps sp
  g : mg x = some (.ref f)
  kp : PySem.W.keepIn K (.ref f) = true
  b : Binds K fd ps []
/-- a value's built-in class -/
inductive TyS (K : PySem.W.Frag) (H : Hp) : V → String → Prop where
  | non : TyS K H .non "NoneType"
  | bl (b : Bool) : TyS K H (.bl b) "bool"
  | int (i : Int) : TyS K H (.int i) "int"
  | str (z : Str) : TyS K H (.str z) "str"
  | tup {a : Addr} {xs : List V} (e : SqT K H a xs) : TyS K H (.ref a) "tuple"
  | lst {a : Addr} {xs : List V} (e : H a = some (.lst xs)) : TyS K H (.ref a) "list"
theorem TyS.x {K : PySem.W.Frag} {H : Hp} {v : V} {a : String} (h : TyS K H v a) : TyX K H v (.type a) := by
  cases h with
  | non => exact .base .non
  | bl b => exact .base (.bl b)
  | int i => exact .base (.int i)
  | str z => exact .base (.str z)
  | tup e =>
    rcases e with (e | ⟨o, e⟩) | ⟨o, its, n, h1, h2, _⟩
    · exact .base (.tup e)
    · exact .fTuple e
    · exact .kTuple h1 h2
  | lst e => exact .base (.lst e)
theorem TyS.kept {K : PySem.W.Frag} {H H' : Hp} {v : V} {a : String} (h : TyS K H v a) (k : Kept [] H H') : TyS K H' v a := by
  cases h with
  | non => exact .non
  | bl b => exact .bl b
  | int i => exact .int i
  | str z => exact .str z
  | tup e => exact .tup (sqT_kept k e)
  | lst e => exact .lst (k _ _ e (by simp))
theorem Flat.ty {K : PySem.W.Frag} {H : Hp} {v : V} (h : Flat v) : ∃ a, TyS K H v a ∧ kitB a "tuple" = some false ∧ kitB a "list" = some false ∧ (∃ b, kitB a "str" = some b) ∧ ∃ b, kitB a "bool" = some b := by
  cases v with
  | non => exact ⟨_, .non, by decide +kernel, by decide +kernel, ⟨false, by decide +kernel⟩, false, by decide +kernel⟩
  | bl b => exact ⟨_, .bl b, by decide +kernel, by decide +kernel, ⟨false, by decide +kernel⟩, true, by decide +kernel⟩
  | int b => exact ⟨_, .int b, by decide +kernel, by decide +kernel, ⟨false, by decide +kernel⟩, false, by decide +kernel⟩
  | str b => exact ⟨_, .str b, by decide +kernel, by decide +kernel, ⟨true, by decide +kernel⟩, false, by decide +kernel⟩
  | _ => exact h.elim
theorem iteNF {A B : Prop} {x : V} (hx : x = x) (h : B) : if (!decide (x = x)) = true then A else B := by
  rw [decide_eq_true hx]
  exact iteF h
theorem rd_isi {K : PySem.W.Frag} {σ : L2.St} {H : Hp} {Q : VK} {i : Nat} {v : V} {a c : String} {b : Bool} (hσ : σ[i]? = some (some v)) (ty : TyS K H v a) (kb : kitB a c = some b) (q : Q (.bl b) H) : tCB (rIsi K) (tCons (tVar i) (tCons (tC (.ty c)) tNil)) σ H Q :=
  ⟨v, hσ, v, .ty c, .type a, .type c, b, rfl, .ty c, ty.x, kit_ty kb, q⟩
theorem rd_isi2 {K : PySem.W.Frag} {σ : L2.St} {H : Hp} {Q : VK} {i : Nat} {v : V} {a : String} {b1 b2 : Bool} (hσ : σ[i]? = some (some v)) (ty : TyS K H v a) (k1 : kitB a "tuple" = some b1) (k2 : kitB a "list" = some b2)
    (q : ∀ H', Kept [] H H' → Q (.bl (b1 || b2)) H') : tCB (rIsiT K) (tCons (tVar i) (tCons (tTup (tCons (tC (.ty "tuple")) (tCons (tC (.ty "list")) tNil))) tNil)) σ H Q := by
  refine ⟨v, hσ, by show 2 ≤ sizeLine; decide, fun T nT => ?_⟩
  have k : Kept [] H (upd H T (.tup [.ty "tuple", .ty "list"])) := (Kept.refl H).upd nT
  refine ⟨v, T, _, .type a, [.type "tuple", .type "list"], b1 || b2, rfl, upd_same, .cons (.ty _) (.cons (.ty _) .nil), (ty.kept k).x, ?_, q _ k⟩
  refine kitAny_cons (kit_ty k1) (fun e => ?_) fun e => by rw [e]; rfl
  rw [e]
  exact kitAny_cons (kit_ty k2) (fun e2 => by rw [e2]; exact kitAny_nil) fun e2 => by rw [e2]; rfl
end Ah
end
section
set_option Elab.async false
set_option linter.all false
set_option maxRecDepth 100000
set_option maxHeartbeats 2000000
/-! Dicts whose keys are tuples of texts (the keys' own tuples may be constants): {}, in, d[k], d[k] = v, setdefault. -/
namespace L2
open PySem PySem.Spec PyProof.Rows
/-- an entry: the key, its own tuple, the value -/
abbrev Ent := List Key × Addr × V
def EntR (p : Ent) (q : List Key × Addr × Value) : Prop := p.1 = q.1 ∧ p.2.1 = q.2.1 ∧ RelV p.2.2 q.2.2
def DicR (P : Program) (w : World) (a : Addr) (es : List Ent) (h : Heap) : Prop :=
  es.length ≤ sizeLine ∧ (a == sysModules) = false ∧ (es.map (·.1)).Nodup ∧ ∃ xs : List (List Key × Addr × Value), Paired EntR es xs ∧
    ∃ (o : Obj) (ds : Array DictEntry) (ep : Nat), h.get? a = some o ∧ o.ExactDict ∧ o.data = .dict ds ep ∧ ds.toList = xs.map (entryOfKey (tupleKind (mixKind P w)))
def DicO (P : Program) (w : World) (a : Addr) (es : List Ent) : HO := .ext (DicR P w a es)
/-- the keys' own tuples may be read -/
def KeysIn (K : PySem.W.Frag) (H : Hp) (es : List Ent) : Prop := ∀ e ∈ es, SqT K H e.2.1 (e.1.map kV)
def valE (es : List Ent) (k : List Key) : Option V := (es.find? fun e => decide (e.1 = k)).map (·.2.2)
def putE (es : List Ent) (k : List Key) (b : Addr) (v : V) : List Ent :=
  if (valE es k).isSome then es.map (fun e => if e.1 = k then (e.1, e.2.1, v) else e) else es ++ [(k, b, v)]
theorem valE_nil {k : List Key} : valE [] k = none := rfl
theorem valE_pos {p : Ent} {r : List Ent} {k : List Key} (e : p.1 = k) : valE (p :: r) k = some p.2.2 := by simp [valE, List.find?_cons, e]
theorem valE_neg {p : Ent} {r : List Ent} {k : List Key} (e : ¬ p.1 = k) : valE (p :: r) k = valE r k := by simp [valE, List.find?_cons, e]
theorem valE_none (k : List Key) : ∀ es : List Ent, valE es k = none ↔ k ∉ es.map (·.1)
  | [] => by simp [valE]
  | p :: r => by
    by_cases e : p.1 = k
    · rw [valE_pos e]
      simp [e]
    · rw [valE_neg e, valE_none k r]
      simp [Ne.symm e]
theorem valE_some {es : List Ent} {k : List Key} (h : (valE es k).isSome = true) : k ∈ es.map (·.1) := Classical.byContradiction fun q => by
  rw [(valE_none k es).mpr q] at h
  cases h
theorem valE_mem {es : List Ent} {k : List Key} : (valE es k).isSome = true ↔ k ∈ es.map (·.1) := ⟨valE_some, fun h => by
  cases q : valE es k with
  | none => exact absurd h ((valE_none k es).mp q)
  | some _ => rfl⟩
theorem putE_keys (es : List Ent) (k : List Key) (b : Addr) (v : V) : (putE es k b v).map (·.1) = if (valE es k).isSome = true then es.map (·.1) else es.map (·.1) ++ [k] := by
  unfold putE
  by_cases h : (valE es k).isSome = true
  · rw [if_pos h, if_pos h, List.map_map]
    refine List.map_congr_left fun e _ => ?_
    show (if e.1 = k then (e.1, e.2.1, v) else e).1 = e.1
    split <;> rfl
  · rw [if_neg h, if_neg h, List.map_append]
    rfl
theorem putE_len (es : List Ent) (k : List Key) (b : Addr) (v : V) : (putE es k b v).length ≤ es.length + 1 := by
  have h := congrArg List.length (putE_keys es k b v)
  rw [List.length_map] at h
  rw [h]
  split <;> simp
theorem putE_nodup {es : List Ent} (k : List Key) (b : Addr) (v : V) (hn : (es.map (·.1)).Nodup) : ((putE es k b v).map (·.1)).Nodup := by
  rw [putE_keys]
  split
  · exact hn
  · rename_i h
    rw [List.nodup_append]
    refine ⟨hn, by simp, fun x hx y hy => ?_⟩
    rw [List.mem_singleton] at hy
    rw [hy]
    exact fun e => h (valE_mem.mpr (e ▸ hx))
/-- what is stored is an old entry under its own tuple, or the new one -/
theorem putE_mem {es : List Ent} {k : List Key} {b : Addr} {v : V} {e : Ent} (h : e ∈ putE es k b v) : (∃ e' ∈ es, e.1 = e'.1 ∧ e.2.1 = e'.2.1 ∧ (e.2.2 = e'.2.2 ∨ e.2.2 = v)) ∨ e = (k, b, v) := by
  unfold putE at h
  split at h
  · obtain ⟨e', h1, h2⟩ := List.mem_map.mp h
    refine .inl ⟨e', h1, ?_⟩
    rw [← h2]
    split
    · exact ⟨rfl, rfl, .inr rfl⟩
    · exact ⟨rfl, rfl, .inl rfl⟩
  · rcases List.mem_append.mp h with h | h
    · exact .inl ⟨e, h, rfl, rfl, .inl rfl⟩
    · exact .inr (List.mem_singleton.mp h)
theorem KeysIn.put {K : PySem.W.Frag} {H : Hp} {es : List Ent} {k : List Key} {b : Addr} {v : V} (h : KeysIn K H es) (hb : SqT K H b (k.map kV)) : KeysIn K H (putE es k b v) := by
  intro e he
  rcases putE_mem he with ⟨e', h1, h2, h3, _⟩ | rfl
  · rw [h2, h3]
    exact h e' h1
  · exact hb

theorem entR_val {es : List Ent} {xs : List (List Key × Addr × Value)} (r : Paired EntR es xs) (k : List Key) : RelO (valE es k) ((atKey xs k).map (·.2)) := by
  induction r with
  | nil => exact True.intro
  | @cons p q ps qs h t ih =>
    obtain ⟨h1, _, h2⟩ := h
    by_cases e : p.1 = k
    · have e' : q.1 = k := h1.symm.trans e
      have b : atKey (q :: qs) k = some q.2 := by simp [atKey, List.find?_cons, e']
      rw [valE_pos e, b]; exact h2
    · have e' : ¬ q.1 = k := fun z => e (h1.trans z)
      have b : atKey (q :: qs) k = atKey qs k := by simp [atKey, List.find?_cons, e']
      rw [valE_neg e, b]; exact ih
theorem entR_put {es : List Ent} {xs : List (List Key × Addr × Value)} (r : Paired EntR es xs) (k : List Key) (b : Addr) {y : V} {u : Value} (ry : RelV y u) : Paired EntR (putE es k b y) (storedH xs k b u) := by
  have e : (valE es k).isSome = (atKey xs k).isSome := by
    rw [(entR_val r k).isSome_eq, Option.isSome_map]
  unfold putE storedH
  rw [e]
  by_cases q : (atKey xs k).isSome = true
  · rw [if_pos q, if_pos q]
    clear e q
    induction r with
    | nil => exact .nil
    | @cons p q ps qs h t ih =>
      rw [List.map_cons, List.map_cons]
      refine .cons ?_ ih
      obtain ⟨h1, h2, h3⟩ := h
      unfold putAt
      by_cases e : p.1 = k
      · rw [if_pos e, if_pos (h1.symm.trans e)]; exact ⟨h1, h2, ry⟩
      · rw [if_neg e, if_neg (fun z => e (h1.trans z))]; exact ⟨h1, h2, h3⟩
  · rw [if_neg q, if_neg q]
    exact Paired.snoc r ⟨rfl, rfl, ry⟩

section
variable {X : Cx} {pins : List (Addr × Obj)} {σ : St} {H : Hp} {s : Shared} {a b : Addr} {es : List Ent} {k : List Key} {A : Around} {E : Value → Shared → Prop}
theorem key_rd (I : Inv X pins σ H s) (h : SqT X.K H b (k.map kV)) : (tupleKind (mixKind X.prog X.w)).is s.heap k b := by
  obtain ⟨its, r, ⟨o, h1, h2, n, h3⟩, _⟩ := I.tuple h
  exact ⟨o, its.toArray, n, h1, h2, h3, by simpa using items_are r⟩
theorem dic_rd (I : Inv X pins σ H s) (ha : Rd H a (DicO X.prog X.w a es)) : DicR X.prog X.w a es s.heap := by
  have q : ObjOk X.prog X.w H s.heap a (DicO X.prog X.w a es) := ha.ok I.hok
  exact q.1
theorem dic_at (I : Inv X pins σ H s) (ha : Rd H a (DicO X.prog X.w a es)) (hk : KeysIn X.K H es) : es.length ≤ sizeLine ∧ (a == sysModules) = false ∧ (es.map (·.1)).Nodup ∧
    ∃ xs, Paired EntR es xs ∧ s.heap.DictOfH (tupleKind (mixKind X.prog X.w)) a xs := by
  obtain ⟨z, hd, hn, xs, r, o, ds, ep, h1, h2, h3, h4⟩ := dic_rd I ha
  refine ⟨z, hd, hn, xs, r, o, ds, ep, h1, h2, h3, h4, fun x hx => ?_, ?_⟩
  · have all : ∀ {l : List Ent} {m : List (List Key × Addr × Value)}, Paired EntR l m → (∀ e ∈ l, e ∈ es) → ∀ x ∈ m, (tupleKind (mixKind X.prog X.w)).is s.heap x.1 x.2.1 := by
      intro l m q
      induction q with
      | nil => intro _ x hx; exact nomatch hx
      | @cons p q ps qs hq t ih =>
        intro sub x hx
        rcases List.mem_cons.mp hx with e | hx
        · subst e
          rw [← hq.1, ← hq.2.1]
          exact key_rd I (hk p (sub p (List.mem_cons_self ..)))
        · exact ih (fun e he => sub e (List.mem_cons_of_mem _ he)) x hx
    exact all r (fun _ h => h) x hx
  · have e : es.map (·.1) = xs.map (·.1) := by
      clear h4 hn hk z ha
      induction r with
      | nil => rfl
      | @cons p q ps qs h t ih => rw [List.map_cons, List.map_cons, h.1, ih]
    rw [← e]
    exact hn
theorem dic_ok {P : Program} {w : World} {H' : Hp} {h' : Heap} {xs : List (List Key × Addr × Value)} (z : es.length ≤ sizeLine) (hd : (a == sysModules) = false) (hn : (es.map (·.1)).Nodup) (r : Paired EntR es xs)
    (dd : h'.DictOfH (tupleKind (mixKind P w)) a xs) : ObjOk P w H' h' a (DicO P w a es) := by
  obtain ⟨o, ds, ep, h1, h2, h3, h4, _, _⟩ := dd
  exact ⟨⟨z, hd, hn, xs, r, o, ds, ep, h1, h2, h3, h4⟩, ⟨o, h1⟩, fun u v p q => by
    obtain ⟨z, hd, hn, xs, r, o, ds, ep, e1, e2⟩ := p
    exact ⟨z, hd, hn, xs, r, o, ds, ep, q _ e1, e2⟩⟩
/-- the dict is another one -/
theorem dic_write {h' : Heap} {t' : Nat} {es' : List Ent} {xs : List (List Key × Addr × Value)} (I : Inv X pins σ H s) (ha : H a = some (DicO X.prog X.w a es)) (hs : Heap.SameBut a s.heap h')
    (z : es'.length ≤ sizeLine) (hd : (a == sysModules) = false) (hn : (es'.map (·.1)).Nodup) (r : Paired EntR es' xs) (dd : h'.DictOfH (tupleKind (mixKind X.prog X.w)) a xs) :
    Inv X pins σ (upd H a (DicO X.prog X.w a es')) { s with heap := h', toks := t' } := by
  obtain ⟨o, ds, ep, h1, rest⟩ := id dd
  exact d_write I (by rw [ha]; exact True.intro) hs ⟨o, h1⟩ (dic_ok z hd hn r dd)

/-- k in d -/
theorem dic_in {Q : Value → Shared → Prop} (hu : A.units + 1 < cLine) (I : Inv X pins σ H s) (ha : Rd H a (DicO X.prog X.w a es)) (hk : KeysIn X.K H es) (hb : SqT X.K H b (k.map kV))
    (h : ∀ s', Inv X pins σ H s' → Q (.bool (valE es k).isSome) s') : wpAny (model X.prog X.w) A (compareOp .In (.ref b) (.ref a)) Q E s := by
  obtain ⟨z, hd, hn, xs, r, dd⟩ := dic_at I ha hk
  refine wpAny_in_heap (tupleKind_room_in1 hu) (key_rd I hb) hd dd ?_
  have q := (entR_val r k).isSome_eq
  rw [Option.isSome_map] at q
  rw [← q]
  exact h _ (I.tok _)
theorem dic_notIn {Q : Value → Shared → Prop} (hu : A.units + 1 < cLine) (I : Inv X pins σ H s) (ha : Rd H a (DicO X.prog X.w a es)) (hk : KeysIn X.K H es) (hb : SqT X.K H b (k.map kV))
    (h : ∀ s', Inv X pins σ H s' → Q (.bool (!(valE es k).isSome)) s') : wpAny (model X.prog X.w) A (compareOp .NotIn (.ref b) (.ref a)) Q E s := by
  obtain ⟨z, hd, hn, xs, r, dd⟩ := dic_at I ha hk
  refine wpAny_notIn_heap (tupleKind_room_in1 hu) (key_rd I hb) hd dd ?_
  have q := (entR_val r k).isSome_eq
  rw [Option.isSome_map] at q
  rw [← q]
  exact h _ (I.tok _)
/-- d[k], there -/
theorem dic_get {v : V} {Q : Value → Shared → Prop} (hu : A.units + 1 < cLine) (I : Inv X pins σ H s) (ha : Rd H a (DicO X.prog X.w a es)) (hk : KeysIn X.K H es) (hb : SqT X.K H b (k.map kV)) (hv : valE es k = some v)
    (h : ∀ w' s', Inv X pins σ H s' → RelV v w' → Q w' s') : wpAny (model X.prog X.w) A (getItem (.ref a) (.ref b)) Q E s := by
  obtain ⟨z, hd, hn, xs, r, dd⟩ := dic_at I ha hk
  obtain ⟨w', hw, rw'⟩ := RelO.some_of (v := v) (o := (atKey xs k).map (·.2)) (by rw [← hv]; exact entR_val r k)
  obtain ⟨p, hp, hp2⟩ := Option.map_eq_some_iff.mp hw
  refine wpAny_getItem_heap (tupleKind_room_in1 hu) (key_rd I hb) dd hp ?_
  rw [hp2]
  exact h w' _ (I.tok _) rw'
/-- d[k] = v -/
theorem dic_set {v : V} {r0 : Value} {Q : Unit → Shared → Prop} (hu : A.units + 1 < cLine) (I : Inv X pins σ H s) (ha : H a = some (DicO X.prog X.w a es)) (hk : KeysIn X.K H es) (hb : SqT X.K H b (k.map kV)) (rv : RelV v r0) (hl : es.length < sizeLine)
    (h : ∀ s', Inv X pins σ (upd H a (DicO X.prog X.w a (putE es k b v))) s' → Q () s') : wpAny (model X.prog X.w) A (setItem (.ref a) (.ref b) r0) Q E s := by
  obtain ⟨z, hd, hn, xs, r, dd⟩ := dic_at I (.inl ha) hk
  have hz : xs.length ≤ sizeLine := by rw [← Paired.length r]; exact z
  have h2 := putE_len es k b v
  refine wpAny_setItem_heap (hsz := hz) (tupleKind_room_in1 hu) (key_rd I hb) dd fun h' dd' hs => h _ ?_
  exact dic_write I ha hs (by omega) hd (putE_nodup k b v hn) (entR_put r k b rv) dd'
/-- d.setdefault(k, v) -/
theorem dic_setd {v : V} {r0 : Value} {Q : Value → Shared → Prop} (hu : A.units + 1 < cLine) (I : Inv X pins σ H s) (ha : H a = some (DicO X.prog X.w a es)) (hk : KeysIn X.K H es) (hb : SqT X.K H b (k.map kV)) (rv : RelV v r0) (hl : es.length < sizeLine)
    (h1 : ∀ y, valE es k = some y → ∀ (w' : Value) (s' : Shared), Inv X pins σ H s' → RelV y w' → Q w' s')
    (h2 : valE es k = none → ∀ (w' : Value) (s' : Shared), Inv X pins σ (upd H a (DicO X.prog X.w a (putE es k b v))) s' → RelV v w' → Q w' s') :
    wpAny (model X.prog X.w) A (call (.builtin "dict.setdefault") [.ref a, .ref b, r0]) Q E s := by
  obtain ⟨z, hd, hn, xs, r, dd⟩ := dic_at I (.inl ha) hk
  have hz : xs.length ≤ sizeLine := by rw [← Paired.length r]; exact z
  have hl2 := putE_len es k b v
  refine call_setdefault_heap (hsz := hz) (tupleKind_room_in1 hu) (key_rd I hb) hd dd (fun p hp => ?_) fun hnone h' dd' hs => ?_
  · have q := entR_val r k
    rw [hp] at q
    cases q0 : valE es k with
    | none =>
      rw [q0] at q
      exact (show False from q).elim
    | some v0 =>
      rw [q0] at q
      exact h1 v0 q0 _ _ (I.tok _) q
  · have q := entR_val r k
    rw [hnone] at q
    cases q0 : valE es k with
    | some v0 =>
      rw [q0] at q
      exact (show False from q).elim
    | none => exact h2 q0 _ _ (dic_write I ha hs (by omega) hd (putE_nodup k b v hn) (entR_put r k b rv) dd') rv
/-- d.update(d2), d not empty -/
def putAll (es more : List Ent) : List Ent := more.foldl (fun acc e => putE acc e.1 e.2.1 e.2.2) es
theorem putAll_len : ∀ (more es : List Ent), (putAll es more).length ≤ es.length + more.length
  | [], es => by show es.length ≤ es.length + 0; omega
  | p :: r, es => by
    have h1 := putAll_len r (putE es p.1 p.2.1 p.2.2)
    have h2 := putE_len es p.1 p.2.1 p.2.2
    show (putAll (putE es p.1 p.2.1 p.2.2) r).length ≤ _
    rw [List.length_cons]; omega
theorem putAll_nodup : ∀ (more es : List Ent), (es.map (·.1)).Nodup → ((putAll es more).map (·.1)).Nodup
  | [], es, h => h
  | p :: r, es, h => putAll_nodup r _ (putE_nodup p.1 p.2.1 p.2.2 h)
theorem entR_putAll {more : List Ent} {ys : List (List Key × Addr × Value)} (q : Paired EntR more ys) : ∀ {es : List Ent} {xs : List (List Key × Addr × Value)}, Paired EntR es xs → Paired EntR (putAll es more) (storedAllH xs ys) := by
  induction q with
  | nil => intro es xs r; exact r
  | @cons p q ps qs h t ih =>
    intro es xs r
    have e : Paired EntR (putE es p.1 p.2.1 p.2.2) (storedH xs q.1 q.2.1 q.2.2) := by
      rw [← h.1, ← h.2.1]
      exact entR_put r p.1 p.2.1 h.2.2
    exact ih e
theorem dic_update {c : Addr} {more : List Ent} {Q : Value → Shared → Prop} (hu : A.units + 1 < cLine) (I : Inv X pins σ H s) (ha : H a = some (DicO X.prog X.w a es)) (hc : Rd H c (DicO X.prog X.w c more)) (hac : a ≠ c)
    (hk : KeysIn X.K H es) (hm : KeysIn X.K H more) (hne : es ≠ []) (hl : es.length + more.length ≤ sizeLine)
    (h : ∀ s', Inv X pins σ (upd H a (DicO X.prog X.w a (putAll es more))) s' → Q .none s') : wpAny (model X.prog X.w) A (call (.builtin "dict.update") [.ref a, .ref c]) Q E s := by
  obtain ⟨z, hd, hn, xs, r, dd⟩ := dic_at I (.inl ha) hk
  obtain ⟨z2, hd2, hn2, ys, r2, dd2⟩ := dic_at I hc hm
  have e1 := Paired.length r
  have e2 := Paired.length r2
  have hl2 := putAll_len more es
  refine call_update_dictH (tupleKind_room_in1 hu) hac hd2 dd dd2 (.inl fun e => hne ?_) (by omega) fun h' dd' _ hs => h _ ?_
  · rw [e] at r
    cases r
    rfl
  · have := dic_write (t' := s.toks) I ha hs (by omega) hd (putAll_nodup more es hn) (entR_putAll r2 r) dd'
    exact this
end
end L2
end
section
set_option Elab.async false
set_option linter.all false
set_option maxRecDepth 100000
set_option maxHeartbeats 2000000
/-! Dicts whose keys are tuples of texts: the rules for expressions. -/
namespace L2
open PySem PySem.Spec PyProof.Rows
section
variable {X : Cx}
/-- {}, to be such a dict -/
def tDicNew (P : Program) (w : World) : TE := fun _ H Q => ∀ p, H p = none → Q (.ref p) (upd H p (DicO P w p []))
theorem pe_dicNew {pos : Pos} : PE X (.Dict [] [] pos) (tDicNew X.prog X.w) := ⟨fun pins s σ H Q I h =>
  wpAny_Dict_empty ⟨.ref s.heap.objs.size, _, I.laid (a := s.heap.objs.size) (o := DicO X.prog X.w s.heap.objs.size []) (t' := s.toks) (fun _ _ q => Heap.get?_push_of_some _ q) (Nat.le_refl _)
    (dic_ok (xs := []) (Nat.zero_le _) (beq_eq_false_iff_ne.mpr (Ne.symm (Nat.ne_of_lt I.big))) List.nodup_nil .nil (Heap.DictOfH.new s.heap)), rfl, h _ (I.hok.fresh (Nat.le_refl _))⟩⟩
/-- k in d, k not in d -/
def rDicIn (X : Cx) (neg : Bool) : R2 := fun y x H Q => ∃ (a b : Addr) (es : List Ent) (k : List Key), x = .ref a ∧ y = .ref b ∧ Rd H a (DicO X.prog X.w a es) ∧ KeysIn X.K H es ∧ SqT X.K H b (k.map kV) ∧
  Q (.bl (if neg then !(valE es k).isSome else (valE es k).isSome)) H
theorem op_in_dic (hu : X.A.units + 1 < cLine) : OpR X (compareOp .In) (rDicIn X false) := by
  intro pins s σ H y x v u Q I ry rx h
  obtain ⟨a, b, es, k, rfl, rfl, ha, hk, hb, q⟩ := h
  cases ry
  cases rx
  exact dic_in hu I ha hk hb fun s' I' => ⟨.bl (valE es k).isSome, H, I', rfl, q⟩
theorem op_notIn_dic (hu : X.A.units + 1 < cLine) : OpR X (compareOp .NotIn) (rDicIn X true) := by
  intro pins s σ H y x v u Q I ry rx h
  obtain ⟨a, b, es, k, rfl, rfl, ha, hk, hb, q⟩ := h
  cases ry
  cases rx
  exact dic_notIn hu I ha hk hb fun s' I' => ⟨.bl (!(valE es k).isSome), H, I', rfl, q⟩
/-- d[k], there -/
def rDicIx (X : Cx) : R2 := fun x y H Q => ∃ (a b : Addr) (es : List Ent) (k : List Key) (v : V), x = .ref a ∧ y = .ref b ∧ Rd H a (DicO X.prog X.w a es) ∧ KeysIn X.K H es ∧ SqT X.K H b (k.map kV) ∧ valE es k = some v ∧ Q v H
theorem ix_dic (hu : X.A.units + 1 < cLine) : IxR X (rDicIx X) := by
  intro value slice pins s σ H x y v u Q I rx ry h hs
  obtain ⟨a, b, es, k, z, rfl, rfl, ha, hk, hb, hv, q⟩ := h
  cases rx
  cases ry
  have hT : s.TypeIs (.ref a) "dict" := by
    obtain ⟨_, _, _, xs, _, dd⟩ := dic_at I ha hk
    exact dd.typeIs
  obtain ⟨_, _, _, xs, r, dd⟩ := dic_at I ha hk
  obtain ⟨w', hw, rw'⟩ := RelO.some_of (v := z) (o := (atKey xs k).map (·.2)) (by rw [← hv]; exact entR_val r k)
  obtain ⟨p, hp, hp2⟩ := Option.map_eq_some_iff.mp hw
  refine subscriptTail_builtinR (x := w') hT PySem.F.slot_dict_getitem.lookup ?_ hs
  refine wpAny_getItem_heap (tupleKind_room_in1 hu) (key_rd I hb) dd hp ?_
  exact ⟨hp2, z, H, I.tok _, by rw [hp2]; exact rw', q⟩
/-- d[k] = v -/
def rDicSet (X : Cx) : V → V → V → Hp → (Hp → Prop) → Prop := fun o i v H Q => ∃ (a b : Addr) (es : List Ent) (k : List Key), o = .ref a ∧ i = .ref b ∧ H a = some (DicO X.prog X.w a es) ∧ KeysIn X.K H es ∧ SqT X.K H b (k.map kV) ∧ es.length < sizeLine ∧
  Q (upd H a (DicO X.prog X.w a (putE es k b v)))
theorem set_dic (hu : X.A.units + 1 < cLine) : PSet X (rDicSet X) := by
  intro pins s σ H o i v ov iv u Q I ro ri rv h
  obtain ⟨a, b, es, k, rfl, rfl, ha, hk, hb, hl, q⟩ := h
  cases ro
  cases ri
  exact dic_set hu I ha hk hb rv hl fun s' I' => ⟨_, I', q⟩
/-- a method of such a dict -/
def tDicM (X : Cx) (r : V → List V → Hp → VK → Prop) (to : TE) (t : TA) : TE := fun σ H Q => to σ H fun x H1 => (∃ (a : Addr) (es : List Ent), x = V.ref a ∧ Rd H1 a (DicO X.prog X.w a es)) ∧ t σ H1 fun xs H2 => r x xs H2 Q
theorem dic_type {pins : List (Addr × Obj)} {σ : St} {H : Hp} {s : Shared} {a : Addr} {es : List Ent} (I : Inv X pins σ H s) (ha : Rd H a (DicO X.prog X.w a es)) :
    s.TypeIs (.ref a) "dict" ∧ ∀ b, Value.ref a = .ref b → ∃ ob, s.heap.get? b = some ob ∧ ob.dict = none := by
  obtain ⟨_, _, _, _, _, o, _, _, h1, h2, _⟩ := dic_rd I ha
  exact ⟨⟨o, h1, h2.1⟩, fun b e => by cases e; exact ⟨o, h1, h2.2.1⟩⟩
theorem pe_dicM {o e : Expr} {es : List Expr} {to : TE} {t : TA} {name : Str} {apos cpos : Pos} {id : String} {r : V → List V → Hp → VK → Prop} (slot : Slot "dict" name id) (hty : typeOf (.builtin id) = pure (.type "method_descriptor")) (hm : MtR X id r) (ho : PE X o to) (ha : PA X (e :: es) t)
    (hbase : attributeBase o name X.env (eval o X.env) = eval o X.env := by rfl)
    (hfew : ((backTo cpos (starEach (e :: es) X.env)).all (fun x => !x.1) && (backToKw cpos (keywordEach [] X.env)).all (fun x => x.1.isSome)
      && decide ((e :: es).length + ([] : List Keyword).length + (if ([] : List Keyword).isEmpty then 0 else 1) < 30)) = true := by rfl)
    (hline : (apos.endLine == cpos.line) = true := by rfl) (hs : starEach (e :: es) X.env = (false, eval e X.env) :: starEach es X.env := by rfl) (hplain : (backTo cpos (starEach es X.env)).any (·.1) = false := by rfl) :
    PE X (.Call (.Attribute o name apos) (e :: es) [] cpos) (tDicM X r to t) := by
  refine ⟨fun pins s σ H Q I h => ?_⟩
  refine wpAny_Call_method_late hbase hfew hline rfl (thn (ho.run pins s σ H _ I h) fun v s1 ⟨x, H1, I1, r1, ty, q1⟩ => ?_)
  obtain ⟨a, es, rfl, hka⟩ := ty
  obtain ⟨h1, h2⟩ := dic_type I1 hka
  cases r1
  refine ⟨"dict", id, PySem.F.plainAttrs_dict, slot, hty, h1, h2, ?_⟩
  have hA := ha.run cpos pins s1 σ H1 _ I1 q1
  rw [hs] at hA ⊢
  refine Calls.callWith_builtin (by show (false || (backTo cpos (starEach _ X.env)).any (·.1)) = false; rw [hplain] <;> rfl) (Calls.evalArgs_plain ?_)
  exact thn hA fun us s2 ⟨vs, H2, I2, r2, q2⟩ => hm pins s2 σ H2 (.ref a) vs (.ref a) us Q I2 rfl r2 q2
/-- d.setdefault(k, v) -/
def rDicSetd (X : Cx) : V → List V → Hp → VK → Prop := fun x xs H Q => ∃ (a b : Addr) (es : List Ent) (k : List Key) (v : V), x = .ref a ∧ xs = [.ref b, v] ∧ H a = some (DicO X.prog X.w a es) ∧ KeysIn X.K H es ∧ SqT X.K H b (k.map kV) ∧ es.length < sizeLine ∧
  (∀ y, valE es k = some y → Q y H) ∧ (valE es k = none → Q v (upd H a (DicO X.prog X.w a (putE es k b v))))
theorem mt_dicSetd (hu : X.A.units + 1 < cLine) : MtR X "dict.setdefault" (rDicSetd X) := by
  intro pins s σ H x xs v us Q I rx rxs h
  obtain ⟨a, b, es, k, d, rfl, rfl, ha, hk, hb, hl, q1, q2⟩ := h
  cases rx
  obtain ⟨u1, u2, rfl, r1, r2⟩ := vals2 rxs
  cases r1
  exact dic_setd hu I ha hk hb r2 hl (fun y hy w' s' I' rw' => ⟨y, H, I', rw', q1 y hy⟩) fun hn w' s' I' rw' => ⟨d, _, I', rw', q2 hn⟩
/-- d.update(d2), d not empty -/
def rDicUpd (X : Cx) : V → List V → Hp → VK → Prop := fun x xs H Q => ∃ (a c : Addr) (es more : List Ent), x = .ref a ∧ xs = [.ref c] ∧ a ≠ c ∧ H a = some (DicO X.prog X.w a es) ∧ Rd H c (DicO X.prog X.w c more) ∧ KeysIn X.K H es ∧ KeysIn X.K H more ∧ es ≠ [] ∧
  es.length + more.length ≤ sizeLine ∧ Q .non (upd H a (DicO X.prog X.w a (putAll es more)))
theorem mt_dicUpd (hu : X.A.units + 1 < cLine) : MtR X "dict.update" (rDicUpd X) := by
  intro pins s σ H x xs v us Q I rx rxs h
  obtain ⟨a, c, es, more, rfl, rfl, hac, ha, hc, hk, hm, hne, hl, q⟩ := h
  cases rx
  obtain ⟨u1, rfl, r1⟩ := vals1 rxs
  cases r1
  exact dic_update hu I ha hc hac hk hm hne hl fun s' I' => ⟨.non, _, I', rfl, q⟩
/-- the entries' own tuples in a row -/
abbrev entRefs (es : List Ent) : List V := es.map fun e => V.ref e.2.1
theorem entR_refs {es : List Ent} {xs : List (List Key × Addr × Value)} (r : Paired EntR es xs) : xs.map (fun x => x.2.1) = es.map fun e => e.2.1 := by
  induction r with
  | nil => rfl
  | @cons p q ps qs h t ih => rw [List.map_cons, List.map_cons, ih, h.2.1]
/-- what comes out of a walk over the raw entries -/
theorem dic_items {P : Program} {w : World} {es : List Ent} {xs : List (List Key × Addr × Value)} {ds : Array DictEntry} {acc : Array Value} (r : Paired EntR es xs) (he : ds.toList = xs.map (entryOfKey (tupleKind (mixKind P w))))
    (it : ItemsOf (fun i v => ∃ en : DictEntry, ds[i]? = some en ∧ v = en.key) acc ds.size) : acc.toList = es.map fun e => Value.ref e.2.1 := by
  have l1 : ds.size = xs.length := size_of_entries he
  have ea : acc.toList = xs.map fun x => Value.ref x.2.1 := by
    have hl : acc.toList.length = xs.length := by rw [Array.length_toList, it.1]; exact l1
    apply List.ext_getElem?
    intro j
    rw [List.getElem?_map]
    cases hj : acc.toList[j]? with
    | none =>
      have h1 := List.getElem?_eq_none_iff.mp hj
      rw [List.getElem?_eq_none (by omega)]
      all_goals rfl
    | some v =>
      obtain ⟨en, hen, hv⟩ := it.2 j v (by rw [← Array.getElem?_toList]; exact hj)
      have qe := entry_at he j
      rw [hen] at qe
      cases hb : xs[j]? with
      | none =>
        rw [hb] at qe
        exact nomatch (show some en = none from qe)
      | some b =>
        rw [hb] at qe
        have e2 : en = entryOfKey (tupleKind (mixKind P w)) b := Option.some.inj qe
        rw [hv, e2]
        all_goals rfl
  have e := congrArg (List.map Value.ref) (entR_refs r)
  rw [List.map_map, List.map_map] at e
  exact ea.trans e
theorem entVals : ∀ es : List Ent, Vals (entRefs es) (es.map fun e => Value.ref e.2.1)
  | [] => .nil
  | _ :: r => .cons rfl (entVals r)
/-- list(d) -/
theorem call_list_dic (hc : X.calm = true) : CallR X (.type "list") (fun xs H Q => ∃ (a : Addr) (es : List Ent), xs = [V.ref a] ∧ Rd H a (DicO X.prog X.w a es) ∧ ∀ p, H p = none → Q (.ref p) (upd H p (.lst (entRefs es)))) := by
  intro pins s σ H xs us Q I r h
  obtain ⟨a, es, rfl, hd, q⟩ := h
  obtain ⟨u, rfl, rx⟩ := r.one
  cases rx
  obtain ⟨z, hs, hn, ks, pr, o, ds, ep, ho, hx, hdt, he⟩ := dic_rd I hd
  have l1 : ds.size = ks.length := size_of_entries he
  have l2 : es.length = ks.length := Paired.length pr
  refine PySem.W.kdl_call (kdl_raw hs hx hdt) (I.ok.hd hc) ho (by omega) fun h' tk acc' c' kp e it => ?_
  have ea := dic_items pr he it
  have rv : Vals (entRefs es) acc'.toList := by
    rw [ea]
    exact entVals es
  have hz : (entRefs es).length ≤ sizeLine := by rw [List.length_map]; exact z
  refine ⟨.ref s.heap.objs.size, _, I.laid (t' := tk) (o := .lst (entRefs es)) kp (Nat.le_refl _) ?_, rfl, q _ (I.hok.fresh (Nat.le_refl _))⟩
  exact ⟨hz, acc'.toList, c', rv, by rw [Array.toArray_toList]; exact e⟩
end
end L2
end
section
set_option Elab.async false
set_option linter.all false
set_option maxRecDepth 100000
set_option maxHeartbeats 2000000
/-! Dicts whose keys are tuples of texts: walks, sorted. -/
namespace L2
open PySem PySem.Spec PyProof.Rows
/-- the keys of the locked dict at d, in their order: the keys' own tuples -/
def ItD (P : Program) (w : World) (d : Addr) (o : Obj) (es : List Ent) : It :=
  ⟨fun i H => H d = some (.frz o (DicO P w d es)) ∧ i < es.length, fun i H x H' => H' = H ∧ ∃ e, es[i]? = some e ∧ x = .ref e.2.1, fun i H => H d = some (.frz o (DicO P w d es)) ∧ es.length ≤ i⟩
theorem dic_frz {X : Cx} {pins : List (Addr × Obj)} {σ : St} {H : Hp} {s : Shared} {d : Addr} {o : Obj} {es : List Ent} (I : Inv X pins σ H s) (h : H d = some (.frz o (DicO X.prog X.w d es))) :
    (d == sysModules) = false ∧ s.heap.get? d = some o ∧ o.ExactDict ∧ es.length ≤ sizeLine ∧ ∃ (ds : Array DictEntry) (ep : Nat), o.data = .dict ds ep ∧ ds.size = es.length ∧
      ∀ (i : Nat) (e : Ent), es[i]? = some e → ∃ en : DictEntry, ds[i]? = some en ∧ en.key = .ref e.2.1 := by
  obtain ⟨hd, q⟩ := (show ObjOk X.prog X.w H s.heap d (.frz o (DicO X.prog X.w d es)) from I.hok d _ h)
  obtain ⟨z, hs, hn, xs, pr, o', ds, ep, ho, hx, hdt, he⟩ := (show ObjOk X.prog X.w H s.heap d (DicO X.prog X.w d es) from q).1
  rw [hd] at ho
  cases ho
  have l1 : ds.size = xs.length := size_of_entries he
  have l2 : es.length = xs.length := Paired.length pr
  refine ⟨hs, hd, hx, z, ds, ep, hdt, by omega, fun i e hi => ?_⟩
  obtain ⟨b, hb, e1, e2, e3⟩ := paired_get pr hi
  have q := entry_at he i
  rw [hb] at q
  exact ⟨_, q, by rw [e2]; all_goals rfl⟩
theorem turn_dic {P : Program} {w : World} {K : PySem.W.Frag} {tg : Expr} {d : Addr} {o : Obj} {ds : Array DictEntry} {ep : Nat} {es : List Ent} (it : Addr) (hod : o.data = .dict ds ep) : Turn P w K tg (ItD P w d o es) [it] it (fun i h => h.IsKeyIter it d i es.length ep) where
  mem := by simp
  obj := fun i h st b hb => by
    have e : b = it := by simpa using hb
    subst e
    obtain ⟨oi, e, c, dd⟩ := st
    exact ⟨oi, e, fun v z => by rw [dd] at z; cases z⟩
  keep := fun i h h' st k => st.at fun oi e => k it (by simp) oi e
  item := by
    intro X hP hw hK hc i pins s σ H E I hf st hg
    subst hP hw hK
    obtain ⟨hd, hi⟩ := hg
    obtain ⟨f0, f1, f2, f3, f4, f5⟩ := hf it (by simp)
    obtain ⟨hs, hgd, hx, hz, ds', ep', hdt, hsz, ent⟩ := dic_frz I hd
    obtain ⟨rfl, rfl⟩ := dict_ep hod hdt
    obtain ⟨e, hkv⟩ : ∃ p, es[i]? = some p := ⟨es[i], List.getElem?_eq_getElem hi⟩
    obtain ⟨en, hen, hkey⟩ := ent i e hkv
    refine next_key_item st hgd hdt hsz hen fun h' st' sb => ?_
    have I1 : Inv X pins σ H { s with heap := h' } := I.turned (t' := s.toks) (fun b ob hb e => (sb.2 b hb).trans e) f0 f1 f3 f4 f5
    obtain ⟨oi, e0, c, dd⟩ := id st'
    exact ⟨en.key, rfl, go_of (s := { s with heap := h' }) e0 c dd (by decide) ⟨.ref e.2.1, H, I1, hkey, ⟨rfl, e, hkv, rfl⟩, st', fun b hb => (hf b hb).1⟩⟩
  done := by
    intro X hP hw hK hc i pins s σ H E I hf st hg
    subst hP hw hK
    obtain ⟨hd, hi⟩ := hg
    obtain ⟨f0, f1, f2, f3, f4, f5⟩ := hf it (by simp)
    obtain ⟨hs, hgd, hx, hz, ds', ep', hdt, hsz, ent⟩ := dic_frz I hd
    obtain ⟨rfl, rfl⟩ := dict_ep hod hdt
    exact next_key_end (I.ok.hd hc) st hgd hdt hsz hi fun h' eb => ⟨rfl, I.turned (t' := s.toks) (fun b ob hb e => eb b ob hb e) f0 f1 f3 f4 f5⟩
  self := fun A i s Q E st h => by
    refine wpAny_pyIter_slot st.typeIs F.slot_dict_keyiterator_iter (wpAny_call_entry F.slot_dict_keyiterator_iter st.typeIs F.entry_dict_keyiterator_iter ?_ (F.args_dict_keyiterator_iter_1 _))
    show wpAny _ _ (ret (.ref it)) _ _ s
    exact wpAny_pure ⟨_, rfl, "dict_keyiterator", _, st.typeIs, F.slot_dict_keyiterator_next.lookup, h⟩
def iDic (P : Program) (w : World) (td : TE) : TI := fun σ H R => td σ H fun x H1 => ∃ (d : Addr) (o : Obj) (es : List Ent), x = .ref d ∧ H1 d = some (.frz o (DicO P w d es)) ∧ R (ItD P w d o es) H1
theorem pi_dic {X : Cx} {tg e : Expr} {td : TE} (he : PE X e td) : PI X tg e (iDic X.prog X.w td) := by
  refine ⟨fun pins s σ H R I h => ?_⟩
  refine thn (he.run pins s σ H _ I h) fun u s1 ⟨x, H1, I1, rx, d, o, es, ex, hd, q⟩ => ?_
  subst ex
  obtain rfl : u = Value.ref d := rx
  obtain ⟨hs, hgd, hx, hz, ds, ep, hdt, hsz, ent⟩ := dic_frz I1 hd
  refine iter_keys hs hgd hx hdt (pi_one (tk := s1.toks) I1 _ (turn_dic _ hdt) ⟨_, Heap.get?_push_size _ rfl, rfl, ?_⟩ q)
  rw [hsz] <;> rfl
theorem walk_dic {P : Program} {w : World} {d : Addr} {o : Obj} {es : List Ent} : Walk (ItD P w d o es) es.length (fun H => H d = some (.frz o (DicO P w d es))) (YAt (entRefs es)) :=
  ⟨fun _ _ hi q => ⟨q, hi⟩, fun _ q => ⟨q, Nat.le_refl _⟩, fun i _ _ _ _ _ y => ⟨y.1, by
    obtain ⟨e, h1, h2⟩ := y.2
    rw [List.getElem?_map, h1, h2]
    rfl⟩⟩

/-! ### sorted -/
def keyD : Key → PyData
  | .inl i => .int i
  | .inr z => .str z
/-- a tuple of texts and its address -/
abbrev Tx := Addr × List Key
def encT (b : Tx) : PyData := .tuple (b.2.map keyD)
def leT : Tx → Tx → Bool := PySem.W.dataLe false encT
theorem readsKeys {h : Heap} : ∀ {ks : List Key} {us : List Value}, Vals (ks.map kV) us → ReadsAll h us (ks.map keyD) []
  | [], _, r => by
    rw [List.map_nil] at r
    cases r
    exact .nil
  | k :: ks, _, r => by
    rw [List.map_cons] at r
    cases r with
    | cons r1 r2 =>
      rename_i u us
      rw [List.map_cons]
      have t := readsKeys (h := h) r2
      cases k with
      | inl i =>
        obtain ⟨t1, rfl⟩ := r1
        exact ReadsAll.cons (as := []) (bs := []) (.int i t1) t
      | inr z =>
        obtain ⟨t1, rfl⟩ := r1
        exact ReadsAll.cons (as := []) (bs := []) (.str z t1) t
theorem depthKeys : ∀ ks : List Key, PyData.depthAll (ks.map keyD) = 0
  | [] => by simp [PyData.depthAll]
  | k :: ks => by
    rw [List.map_cons, PyData.depthAll, depthKeys ks]
    cases k <;> simp [keyD, PyData.depth]
theorem depthT (b : Tx) : (encT b).depth = 1 := by
  unfold encT
  rw [PyData.depth, depthKeys]
section
variable {X : Cx} {pins : List (Addr × Obj)} {σ : St} {H : Hp} {s : Shared}
theorem readsT (I : Inv X pins σ H s) {b : Tx} (h : SqT X.K H b.1 (b.2.map kV)) : ∃ as, Reads s.heap (.ref b.1) (encT b) as := by
  obtain ⟨its, r, ⟨o, h1, h2, n, h3⟩, _⟩ := I.tuple h
  exact ⟨[], .tuple h1 h2 h3 (by simpa using readsKeys r)⟩
theorem readsTs (I : Inv X pins σ H s) : ∀ {bs : List Tx}, (∀ b ∈ bs, SqT X.K H b.1 (b.2.map kV)) →
    PySem.W.EachIs (fun v b => ∃ as, Reads s.heap v (encT b) as) (bs.map fun b => Value.ref b.1) bs
  | [], _ => .nil
  | b :: bs, h => .cons (readsT I (h b (List.mem_cons_self ..))) (readsTs I fun c hc => h c (List.mem_cons_of_mem _ hc))
theorem each_refs : ∀ bs : List Tx, PySem.W.EachIs (fun v (b : Tx) => v = Value.ref b.1) (bs.map fun b => Value.ref b.1) bs
  | [] => .nil
  | _ :: r => .cons rfl (each_refs r)
theorem of_each : ∀ {out : List Value} {bs : List Tx}, PySem.W.EachIs (fun v (b : Tx) => v = Value.ref b.1) out bs → out = bs.map fun b => Value.ref b.1
  | _, _, .nil => rfl
  | _, _, .cons h t => by rw [List.map_cons, h, of_each t]
theorem txVals : ∀ bs : List Tx, Vals (bs.map fun b => V.ref b.1) (bs.map fun b => Value.ref b.1)
  | [] => .nil
  | _ :: r => .cons rfl (txVals r)
/-- what may be sorted: every key begins, and any two are of one kind place by place -/
def SortT (bs : List Tx) : Prop := PySem.W.AllAlike (bs.map encT) ∧ ∀ b ∈ bs, b.2 ≠ []
theorem SortT.able {bs : List Tx} (h : SortT bs) : PySem.W.Sortable (bs.map encT) := .inl fun d hd => by
  obtain ⟨b, hb, rfl⟩ := List.mem_map.mp hd
  have ne := h.2 b hb
  unfold encT
  cases e : b.2 with
  | nil => exact (ne e).elim
  | cons k ks => exact ⟨keyD k, ks.map keyD, by rw [List.map_cons]⟩
theorem mergeT_len (bs : List Tx) : (bs.mergeSort leT).length = bs.length := (List.mergeSort_perm bs leT).length_eq
/-- sorted(l) of a list of tuples -/
theorem cr_sortT (hu : X.A.units + 64 < cLine) : CallR X (.builtin "sorted") (fun vs H Q => ∃ (a : Addr) (bs : List Tx), vs = [V.ref a] ∧ SqL X.K H a (bs.map fun b => V.ref b.1) ∧ (∀ b ∈ bs, SqT X.K H b.1 (b.2.map kV)) ∧ SortT bs ∧
    ∀ p, H p = none → Q (.ref p) (upd H p (.lst ((bs.mergeSort leT).map fun b => V.ref b.1)))) := by
  intro pins s σ H xs us Q I r h
  obtain ⟨a, bs, rfl, ha, hb, hs, q⟩ := h
  obtain ⟨u, rfl, rx⟩ := vals1 r
  cases rx
  obtain ⟨its, rv, pl, hz⟩ := I.list ha
  have ei : its = bs.map fun b => Value.ref b.1 := by
    have e := refs_at (ps := bs.map (·.1)) (us := its) (by rw [List.map_map]; exact rv)
    rw [e, List.map_map]
    all_goals rfl
  subst ei
  rw [List.length_map] at hz
  refine PySem.W.sorted_data (R := fun v (b : Tx) => v = Value.ref b.1) (enc := encT) (bs := bs) (vs := bs.map fun b => Value.ref b.1) pl.isList (each_refs bs) (readsTs I hb) hs.1 hs.able hz (fun b _ => by rw [depthT]; omega) fun out hl eo => ?_
  have eo' : out = (bs.mergeSort leT).map fun b => Value.ref b.1 := of_each eo
  subst eo'
  obtain ⟨c, hc⟩ := PyProof.Rows.sortedAll_at s.heap (bs.map fun b => Value.ref b.1) ((bs.mergeSort leT).map fun b => Value.ref b.1).toArray
  have hn : H (s.heap.objs.size + 1) = none := I.hok.fresh (Nat.le_succ _)
  refine ⟨.ref (s.heap.objs.size + 1), upd H (s.heap.objs.size + 1) (.lst ((bs.mergeSort leT).map fun b => V.ref b.1)), I.laid (t' := s.toks) (fun b o e => PyProof.Rows.sortedAll_old e) (Nat.le_succ _) ?_, rfl, q _ hn⟩
  exact ⟨by rw [List.length_map, mergeT_len]; exact hz, _, c, txVals _, hc⟩
/-- sorted(d) of a dict with such keys -/
theorem cr_sortDic (hcalm : X.calm = true) (hu : X.A.units + 64 < cLine) : CallR X (.builtin "sorted") (fun vs H Q => ∃ (a : Addr) (es : List Ent), vs = [V.ref a] ∧ Rd H a (DicO X.prog X.w a es) ∧ KeysIn X.K H es ∧ SortT (es.map fun e => (e.2.1, e.1)) ∧
    ∀ p, H p = none → Q (.ref p) (upd H p (.lst (((es.map fun e => (e.2.1, e.1)).mergeSort leT).map fun b => V.ref b.1)))) := by
  intro pins s σ H xs us Q I r h
  obtain ⟨a, es, rfl, ha, hk, hs, q⟩ := h
  obtain ⟨u, rfl, rx⟩ := vals1 r
  cases rx
  obtain ⟨z, lo, hn, ks, pr, o, ds, ep, ho, hx, hdt, he⟩ := dic_rd I ha
  have l1 : ds.size = ks.length := size_of_entries he
  have l2 : es.length = ks.length := Paired.length pr
  refine Calls.call_function_entry PyProof.Rows.kind_sorted PyProof.Rows.plain_sorted PyProof.Rows.entry_sorted (PyProof.Rows.args_sorted1 _) ?_
  unfold Builtin.«sorted»
  refine wpAny_bind (m := checkCount "sorted" 1 1 _) (wpAny_pure ?_)
  refine wpAny_bind (PySem.W.kdu_collect (A := X.A.in1) (kdl_raw lo hx hdt) (I.ok.hd hcalm) ho (by omega) fun h' tk acc hk2 it => ?_)
  have ea := dic_items pr he it
  have I1 : Inv X pins σ H { s with heap := h', toks := tk } := I.kept hk2
  generalize hbs : (es.map fun e : Ent => ((e.2.1, e.1) : Tx)) = bs at hs q
  have ea2 : acc.toList = bs.map fun b => Value.ref b.1 := by
    rw [ea, ← hbs, List.map_map]
    all_goals rfl
  have hlb : bs.length = es.length := by rw [← hbs, List.length_map]
  have hb : ∀ b ∈ bs, SqT X.K H b.1 (b.2.map kV) := by
    intro b hb
    rw [← hbs] at hb
    obtain ⟨e, he, rfl⟩ := List.mem_map.mp hb
    exact hk e he
  rw [ea2]
  refine wpAny_bind (wpAny_newList ?_ (by rw [List.length_map]; omega))
  have hoL : (h'.push (seqObj "list" (bs.map fun b => Value.ref b.1).toArray 0)).get? h'.objs.size = some (seqObj "list" (bs.map fun b => Value.ref b.1).toArray 0) := Heap.get?_push_size _ rfl
  show wpAny _ _ _ _ _ { s with heap := h'.push (seqObj "list" (bs.map fun b => Value.ref b.1).toArray 0), toks := tk }
  have rd : PySem.W.EachIs (fun v (b : Tx) => ∃ as, Reads (h'.push (seqObj "list" (bs.map fun b => Value.ref b.1).toArray 0)) v (encT b) as ∧ h'.objs.size ∉ as) (bs.map fun b => Value.ref b.1) bs := by
    have go : ∀ cs : List Tx, (∀ b ∈ cs, SqT X.K H b.1 (b.2.map kV)) → PySem.W.EachIs (fun v (b : Tx) => ∃ as, Reads (h'.push (seqObj "list" (bs.map fun b => Value.ref b.1).toArray 0)) v (encT b) as ∧ h'.objs.size ∉ as) (cs.map fun b => Value.ref b.1) cs := by
      intro cs
      induction cs with
      | nil => intro _; exact .nil
      | cons c cs ih =>
        intro hc
        refine .cons ?_ (ih fun d hd => hc d (List.mem_cons_of_mem _ hd))
        obtain ⟨its, rr, ⟨oo, h1, h2, n, h3⟩, _⟩ := I1.tuple (hc c (List.mem_cons_self ..))
        exact ⟨[], .tuple (Heap.get?_push_of_some _ h1) h2 h3 (by simpa using readsKeys rr), fun q => nomatch q⟩
    exact go bs hb
  refine wpAny_bind (wpAny_holding (PySem.W.list_sort_data (s := { s with heap := h'.push (seqObj "list" (bs.map fun b => Value.ref b.1).toArray 0), toks := tk }) (R := fun v (b : Tx) => v = Value.ref b.1) (enc := encT) (bs := bs) (vs := bs.map fun b => Value.ref b.1)
    hoL (each_refs bs) rd hs.1 hs.able (by omega) (fun b _ => by rw [depthT]; show X.A.units + 1 + 1 + 1 < cLine; omega) fun out hl eo => ?_))
  have eo' : out = (bs.mergeSort leT).map fun b => Value.ref b.1 := of_each eo
  subst eo'
  obtain ⟨c, hc⟩ := PyProof.Rows.sortedHeap_at (vs := bs.map fun b => Value.ref b.1) (out := ((bs.mergeSort leT).map fun b => Value.ref b.1).toArray) hoL
  refine wpAny_pure ⟨_, rfl, .ref h'.objs.size, upd H h'.objs.size (.lst ((bs.mergeSort leT).map fun b => V.ref b.1)), I1.laid (t' := tk) (fun b u e => ?_) (Nat.le_refl _)
    (show ObjOk X.prog X.w _ _ _ (.lst ((bs.mergeSort leT).map fun b => V.ref b.1)) from ⟨by rw [List.length_map, mergeT_len]; omega, _, c, txVals _, hc⟩), rfl, q _ (I1.hok.fresh (Nat.le_refl _))⟩
  have hbl : b < h'.objs.size := Heap.lt_size e
  rw [PyProof.Rows.sortedHeap_old (Nat.ne_of_lt hbl) (by rw [size_push']; exact Nat.lt_succ_of_lt hbl)]
  exact Heap.get?_push_of_some _ e
end
end L2
end
section
set_option Elab.async false
set_option linter.all false
set_option maxRecDepth 100000
set_option maxHeartbeats 2000000
/-! Sets of texts: made anew, add, sorted. -/
namespace L2
open PySem PySem.Spec PyProof.Rows PySem.Froz
/-- the set of the texts l at a, no text twice in l -/
def SetS (P : Program) (w : World) (a : Addr) (l : List Str) (h : Heap) : Prop :=
  ∃ D : SD, h.get? a = some (sObj "set" D) ∧ TxOk P w D l ∧ l.Nodup ∧ l.length < scanBound ∧ Ris D.2.2.place.toList ∧ (w.params.followText "set-order" = true ∨ D.2.2.led = true)
theorem tailTx_ris {ep : Nat} {es1 : Array (Int × Value)} {t2 : SetTable} {wd : Bool} (r : Ris t2.place.toList) : Ris (tailTx ep es1 t2 wd).2.2.place.toList := by
  unfold tailTx
  split
  · exact relayAll_ris t2 es1 _
  · exact r
theorem tailTx_led {ep : Nat} {es1 : Array (Int × Value)} {t2 : SetTable} {wd : Bool} : (tailTx ep es1 t2 wd).2.2.led = t2.led := by
  unfold tailTx
  split
  · exact relayAll_led t2 es1 _
  · rfl
theorem addTx_ris {h : Int} {v : Value} {D : SD} (r : Ris D.2.2.place.toList) : Ris (addTx h v D).2.2.place.toList := by
  have q := layNew_ris D.2.2 D.1 h v r
  unfold addTx
  refine tailTx_ris ?_
  split
  · exact q
  · exact q
theorem addTx_led {h : Int} {v : Value} {D : SD} : (addTx h v D).2.2.led = D.2.2.led := by
  have q := layNew_led D.2.2 D.1 h v
  unfold addTx
  rw [tailTx_led]
  split
  · exact q
  · exact q
section
variable {P : Program} {w : World} {A : Around} {E : Value → Shared → Prop} {s : Shared} {a : Addr} {l : List Str} {k : Str} {u : Tok}
/-- the text is in the set -/
theorem old_x {D : SD} {Q : Bool → Shared → Prop} (ho : s.heap.get? a = some (sObj "set" D)) (F : TxOk P w D l) (hk : k ∈ l) (hb : l.length < scanBound) (h : Q false s) :
    wpAny (model P w) A (setAddHashed a (.str k u) (hashStr w k)) Q E s := by
  obtain ⟨es, ep, t⟩ := D
  have hd : (sObj "set" (es, ep, t)).data = .set es ep t := rfl
  have hsz : es.size = l.length := F.sz
  have hkey : (strKind P w).is k (.str k u) = true := is_str k u
  obtain ⟨j, hj⟩ : ∃ j, List.findIdx? (fun e => (strKind P w).is k e.2) es.toList = some j := by
    obtain ⟨e, he, q⟩ := (F.mem k).mp hk
    cases hr : List.findIdx? (fun e => (strKind P w).is k e.2) es.toList with
    | some j => exact ⟨j, rfl⟩
    | none =>
      have c := List.findIdx?_eq_none_iff.mp hr e he
      rw [q] at c
      cases c
  unfold setAddHashed setAddHashedIn
  refine wpAny_holding (wpAny_bind (wpAny_setState_of ho hd F.fit ?_))
  dsimp only
  rw [byScan_of rfl (show es.size < scanBound by omega) F.el]
  simp only [↓reduceIte]
  unfold setAddByScan
  refine wpAny_bind ?_
  refine wpAny_bind (wpAny_rule ?_)
  refine wpAny_bind (wpAny_setScan_of (knd := strKind P w) (k := k) hkey ho hd F.fit F.el ?_)
  rw [hj]
  dsimp only
  exact wpAny_pure (wpAny_pure h)
/-- found.add(k) -/
theorem setS_add {Q : Value → Shared → Prop} (R : SetS P w a l s.heap) (hb : l.length + 1 < scanBound)
    (hQ : ∀ h' l', Heap.SameBut a s.heap h' → SetS P w a l' h' → (∀ z, z ∈ l' ↔ z = k ∨ z ∈ l) → l'.length ≤ l.length + 1 → Q .none { s with heap := h', toks := s.toks + 1 }) :
    wpAny (model P w) A (call (.builtin "set.add") [.ref a, .str k u]) Q E s := by
  obtain ⟨D, ho, F, nd, hz0, hr, hl⟩ := R
  refine wpAny_call_entry PySem.F.slot_set_add ⟨_, ho, rfl⟩ PySem.F.entry_set_add ?_ (PySem.F.args_set_add_2 _ _)
  unfold Builtin.«set.add» Builtin.Frozenset.oneOther
  simp only [List.isEmpty_nil, bind_assoc]
  unfold Builtin.Frozenset.addrOf setAdd
  refine wpAny_bind (wpAny_pure ?_)
  try dsimp only
  refine wpAny_bind (wpAny_pure ?_)
  try dsimp only
  refine wpAny_bind ?_
  refine wpAny_holding ?_
  refine wpAny_bind ((strKind P w).pyHash (is_str k u) ?_)
  by_cases hk : k ∈ l
  · refine old_x (s := { s with toks := s.toks + 1 }) ho F hk (by omega) ?_
    show wpAny _ _ (ret Value.none) _ _ _
    exact wpAny_pure ⟨_, rfl, hQ s.heap l (Heap.SameBut.refl a s.heap) ⟨D, ho, F, nd, hz0, hr, hl⟩ (fun z => ⟨.inr, fun h => h.elim (fun e => e ▸ hk) id⟩) (Nat.le_succ _)⟩
  · refine add_x (s := { s with toks := s.toks + 1 }) ho F hk hb ?_
    show wpAny _ _ (ret Value.none) _ _ _
    refine wpAny_pure ⟨_, rfl, hQ _ (k :: l) (Heap.SameBut.update s.heap a _) ⟨addTx (hashStr w k) (.str k u) D, get_upd _ ho rfl, add_ok u F, List.nodup_cons.mpr ⟨hk, nd⟩, hb, addTx_ris hr, hl.imp id fun z => by rw [addTx_led]; exact z⟩ (fun z => List.mem_cons) (Nat.le_refl _)⟩
theorem setS_fresh {h : Heap} (P : Program) (w : World) : SetS P w h.objs.size [] (h.push { cls := .type "set", dict := none, data := .set #[] 0 (.fresh 0 0 (!w.params.followText "set-order")) }) :=
  ⟨(#[], 0, .fresh 0 0 (!w.params.followText "set-order")), Heap.get?_push_size _ rfl, TxOk.nil (by rfl), List.nodup_nil, (by decide), List.Pairwise.nil, by
    show _ ∨ (!w.params.followText "set-order") = true
    cases w.params.followText "set-order"
    · exact .inr rfl
    · exact .inl rfl⟩
end
def SetSO (P : Program) (w : World) (a : Addr) (l : List Str) : HO := .ext (SetS P w a l)
theorem setSO_new {P : Program} {w : World} {H : Hp} {h : Heap} {a : Addr} {l : List Str} (R : SetS P w a l h) : ObjOk P w H h a (SetSO P w a l) := by
  have ⟨D, ho, _⟩ := R
  exact ⟨R, ⟨_, ho⟩, fun h1 h2 p k => by
    obtain ⟨D, ho, r⟩ := p
    exact ⟨D, k _ ho, r⟩⟩
section
variable {X : Cx} {pins : List (Addr × Obj)} {σ : St} {H : Hp} {s : Shared} {D : Addr} {l : List Str} {E : Value → Shared → Prop}
theorem addS_ok {y : Str} {t : Tok} {Q : Value → Shared → Prop} (I : Inv X pins σ H s) (hD : H D = some (SetSO X.prog X.w D l)) (hb : l.length + 1 < scanBound)
    (h : ∀ s' l', (∀ z, z ∈ l' ↔ z = y ∨ z ∈ l) → l'.length ≤ l.length + 1 → Inv X pins σ (upd H D (SetSO X.prog X.w D l')) s' → Q .none s') :
    wpAny (model X.prog X.w) X.A (call (.builtin "set.add") [.ref D, .str y t]) Q E s := by
  have R : SetS X.prog X.w D l s.heap := (show ObjOk X.prog X.w H s.heap D (SetSO X.prog X.w D l) from I.hok D _ hD).1
  refine setS_add R hb fun h' l' sb R' hm hz => h _ l' hm hz ?_
  have ⟨D', ho, _⟩ := R'
  exact I.write (x := D) (e := D) (by rw [hD]; trivial) (.inl rfl) (fun b q hq z => (sb.2 b hq).trans z) ⟨_, ho⟩ (setSO_new R')
end

/-! ### sorted -/
def leS : Str → Str → Bool := PySem.W.dataLe false PyData.str
theorem alikeS : ∀ (bs : List Str), PySem.W.AllAlike (bs.map PyData.str) := fun bs => PySem.W.AllAlike.of fun b b' => by simp [PySem.W.alike]
theorem txts_of : ∀ {vs : List Value}, (∀ v ∈ vs, ∃ (k : Str) (t : Tok), v = Value.str k t) → ∃ bs : List Str, PySem.W.EachIs (fun v b => ∃ t : Tok, v = Value.str b t) vs bs
  | [], _ => ⟨[], .nil⟩
  | v :: vs, h => by
    obtain ⟨k, t, e⟩ := h v (List.mem_cons_self ..)
    obtain ⟨bs, r⟩ := txts_of fun u hu => h u (List.mem_cons_of_mem _ hu)
    exact ⟨k :: bs, .cons ⟨t, e⟩ r⟩
theorem each_mem_iff {P : Program} {w : World} : ∀ {vs : List Value} {bs : List Str}, PySem.W.EachIs (fun v b => ∃ t : Tok, v = Value.str b t) vs bs → ∀ k : Str, (∃ v ∈ vs, (strKind P w).is k v = true) ↔ k ∈ bs
  | _, _, .nil, k => by simp
  | v :: vs, b :: bs, .cons h t, k => by
    obtain ⟨u, e⟩ := h
    have ih := each_mem_iff (P := P) (w := w) t k
    constructor
    · rintro ⟨x, hx, q⟩
      rcases List.mem_cons.mp hx with z | z
      · rw [z, e] at q
        rw [(strKind P w).inj (.str b u) k b q (is_str b u)]
        exact List.mem_cons_self ..
      · exact List.mem_cons_of_mem _ (ih.mp ⟨x, z, q⟩)
    · intro hk
      rcases List.mem_cons.mp hk with z | z
      · exact ⟨v, List.mem_cons_self .., by rw [z, e]; exact is_str b u⟩
      · obtain ⟨x, hx, q⟩ := ih.mpr z
        exact ⟨x, List.mem_cons_of_mem _ hx, q⟩
theorem strVals : ∀ {out : List Value} {bs : List Str}, PySem.W.EachIs (fun v b => ∃ t : Tok, v = Value.str b t) out bs → Vals (bs.map V.str) out
  | _, _, .nil => .nil
  | _, _, .cons h t => .cons h (strVals t)
section
variable {X : Cx}
/-- sorted(found) of a set of texts -/
theorem cr_sortSetS (hcalm : X.calm = true) (hu : X.A.units + 64 < cLine) : CallR X (.builtin "sorted") (fun vs H Q => ∃ (a : Addr) (l : List Str), vs = [V.ref a] ∧ H a = some (SetSO X.prog X.w a l) ∧
    ∀ (p : Addr) (bs : List Str), H p = none → (∀ z, z ∈ bs ↔ z ∈ l) → bs.length = l.length → Q (.ref p) (upd H p (.lst ((bs.mergeSort leS).map V.str)))) := by
  intro pins s σ H xs us Q I r h
  obtain ⟨a, l, rfl, ha, q⟩ := h
  obtain ⟨u, rfl, rx⟩ := vals1 r
  cases rx
  obtain ⟨⟨es, ep, t⟩, ho, F, nd, hz0, hr, hl⟩ := (show ObjOk X.prog X.w H s.heap a (SetSO X.prog X.w a l) from I.hok a _ ha).1
  have hsz : es.size = l.length := F.sz
  have hsb : es.size < scanBound := by omega
  refine Calls.call_function_entry PyProof.Rows.kind_sorted PyProof.Rows.plain_sorted PyProof.Rows.entry_sorted (PyProof.Rows.args_sorted1 _) ?_
  unfold Builtin.«sorted»
  refine wpAny_bind (m := checkCount "sorted" 1 1 _) (wpAny_pure ?_)
  refine wpAny_bind (collect_set (A := X.A.in1) (I.ok.hd hcalm) ⟨_, ho, rfl, rfl⟩ F.fit hsb hr hl fun s1 vs k1 hz g1 o1 pm => ?_)
  have I1 : Inv X pins σ H s1 := by
    have J : Inv X pins σ H { s with heap := s1.heap, gens := s1.gens, drawn := s1.drawn, toks := s1.toks } :=
      I.call (ch := []) ⟨fun b o e _ _ _ => k1 b o e, fun b o e _ _ _ => ⟨o.slots, k1 b o e⟩, fun _ _ _ h _ => h, fun b o e _ => ⟨o, k1 b o e⟩, fun _ _ h => h, fun _ _ _ h => h, fun b ps h => ⟨#[], by simpa using h⟩⟩
        (I.hok.kept k1) (by rw [g1]; exact I.bare) (fun _ z => nomatch z)
    have e : s1 = { s with heap := s1.heap, gens := s1.gens, drawn := s1.drawn, toks := s1.toks } := by
      cases s1
      cases s
      cases o1
      rfl
    rw [e]
    exact J
  have hst : ∀ v ∈ vs, ∃ (k : Str) (t : Tok), v = Value.str k t := fun v hv => by
    obtain ⟨e, he, q⟩ := List.mem_map.mp (pm.mem_iff.mp hv)
    obtain ⟨⟨k, h1, _⟩, _⟩ := F.el e he
    obtain ⟨t, e2⟩ := Value.isStrOf_shape h1
    exact ⟨k, t, by rw [← q]; exact e2⟩
  obtain ⟨bs, ev⟩ := txts_of hst
  have lb : bs.length = l.length := by rw [← ev.length, pm.length_eq, List.length_map, Array.length_toList]; exact hsz
  have hmem : ∀ z, z ∈ bs ↔ z ∈ l := fun z => by
    rw [← each_mem_iff (P := X.prog) (w := X.w) ev z, F.mem z]
    constructor
    · rintro ⟨v, hv, q⟩
      obtain ⟨e, he, q2⟩ := List.mem_map.mp (pm.mem_iff.mp hv)
      exact ⟨e, he, by rw [q2]; exact q⟩
    · rintro ⟨e, he, q⟩
      exact ⟨e.2, pm.mem_iff.mpr (List.mem_map.mpr ⟨e, he, rfl⟩), q⟩
  have hvl : vs.length = l.length := by rw [ev.length]; exact lb
  have hbig : l.length ≤ sizeLine := by rw [← hsz]; exact fits_of_scanBound hsb
  refine wpAny_bind (wpAny_newList ?_ (by omega))
  have hoL : (s1.heap.push (seqObj "list" vs.toArray 0)).get? s1.heap.objs.size = some (seqObj "list" vs.toArray 0) := Heap.get?_push_size _ rfl
  show wpAny _ _ _ _ _ { s1 with heap := s1.heap.push (seqObj "list" vs.toArray 0) }
  refine wpAny_bind (wpAny_holding (PySem.W.list_sort_data (s := { s1 with heap := s1.heap.push (seqObj "list" vs.toArray 0) }) (R := fun v (b : Str) => ∃ t : Tok, v = Value.str b t) (enc := PyData.str) (bs := bs) (vs := vs)
    hoL ev (ev.mono fun v b ⟨t, e⟩ => ⟨[], by rw [e]; exact .str b t, fun q => nomatch q⟩) (alikeS bs) (PySem.W.Sortable.others fun b => ⟨(fun e => nomatch e), fun xs e => nomatch e⟩) (by omega) (fun b _ => by show X.A.units + 1 + 1 + PyData.depth (.str b) < cLine; rw [PyData.depth]; omega) fun out ho2 eo => ?_))
  obtain ⟨c, hc⟩ := PyProof.Rows.sortedHeap_at (vs := vs) (out := out.toArray) hoL
  refine wpAny_pure ⟨_, rfl, .ref s1.heap.objs.size, upd H s1.heap.objs.size (.lst ((bs.mergeSort leS).map V.str)), I1.laid (t' := s1.toks) (fun b u e => ?_) (Nat.le_refl _)
    (show ObjOk X.prog X.w _ _ _ (.lst ((bs.mergeSort leS).map V.str)) from ⟨?_, out, c, strVals eo, hc⟩), rfl, q _ bs (I1.hok.fresh (Nat.le_refl _)) hmem lb⟩
  · have hbl : b < s1.heap.objs.size := Heap.lt_size e
    rw [PyProof.Rows.sortedHeap_old (Nat.ne_of_lt hbl) (by rw [size_push']; exact Nat.lt_succ_of_lt hbl)]
    exact Heap.get?_push_of_some _ e
  · have e := (List.mergeSort_perm bs leS).length_eq
    rw [List.length_map, e]
    omega
end
end L2
end
section
set_option Elab.async false
set_option linter.all false
set_option maxRecDepth 100000
set_option maxHeartbeats 2000000
/-! {elt for tg in iter if .. for tg1 in iter1 if ..}, elt a text. -/
namespace L2
open PySem PySem.Spec PyProof.Rows PpSet
section
variable {prog : Program} {w : World} {A : Around} {R : Result → Shared → Prop} {s : Shared} {elt t0 i0 t1 i1 : Expr} {f0 f1 : List Expr} {scope : Scope} {pos : Pos} {it acc : Value} {env : Env}
abbrev Sc2 (elt t0 i0 t1 i1 : Expr) (f0 f1 : List Expr) (scope : Scope) (pos : Pos) : Expr := .SetComp elt [⟨t0, i0, f0, 0⟩, ⟨t1, i1, f1, 0⟩] scope pos
theorem sc2_turn0 : compTurn (Sc2 elt t0 i0 t1 i1 f0 f1 scope pos) 0 it acc env = (do
      standAt i0.pos
      match ← pyNext it with
      | none => pure (.done .next)
      | some v =>
        letOwnedTupleGo t0 it v
        assign t0 env v
        let mut ok := true
        for c in f0 do
          if ok then ok ← isTrue c env (eval c env)
        if ok then
          let x ← eval i1 env
          standAt i1.pos
          let x ← foldedSetIterable i1 env x
          let _ ← runOwn (.compStart (Sc2 elt t0 i0 t1 i1 f0 f1 scope pos) 1 (← holding [x] (pyIter x)) acc env) env
        again (.compLoop (Sc2 elt t0 i0 t1 i1 f0 f1 scope pos) 0 it acc env)) := by rfl
theorem sc2_turn1 : compTurn (Sc2 elt t0 i0 t1 i1 f0 f1 scope pos) 1 it acc env = (do
      standAt i1.pos
      match ← pyNext it with
      | none => pure (.done .next)
      | some v =>
        letOwnedTupleGo t1 it v
        assign t1 env v
        let mut ok := true
        for c in f1 do
          if ok then ok ← isTrue c env (eval c env)
        if ok then
          (do let v ← eval elt env; standAt elt.pos; let _ ← call (.builtin "set.add") [acc, v])
        again (.compLoop (Sc2 elt t0 i0 t1 i1 f0 f1 scope pos) 1 it acc env)) := by rfl
/-- the outer loop -/
theorem sc2_out (hs : ∀ x, foldedSetIterable i1 env x = pure x) (I : Nat → Shared → Prop)
    (turn : ∀ n s, I n s → wpAny (model prog w) A (pyNext it) (fun r s₁ => match r with
      | none => R (.ok .next) s₁
      | some v => wpAny (model prog w) A (letOwnedTupleGo t0 it v) (fun _ s₁' => wpAny (model prog w) A (assign t0 env v) (fun _ s₂ =>
          wpAny (model prog w) A (forIn f0 true fun c r => if r = true then do let ok ← isTrue c env (eval c env); pure (ForInStep.yield ok) else pure (ForInStep.yield r)) (fun ok s₃ =>
            if ok = true then wpAny (model prog w) A (eval i1 env) (fun x s₄ => wpAny (model prog w) A (pyIter x) (fun it1 s₅ =>
              codeAny (model prog w) A (.compStart (Sc2 elt t0 i0 t1 i1 f0 f1 scope pos) 1 it1 acc env) (fun r s' => match r with
                | .ok _ => ∃ m, m < n ∧ I m s'
                | .error _ => False) s₅) (notedBy (model prog w) A env fun e s' => R (.error e) s') s₄) (notedBy (model prog w) A env fun e s' => R (.error e) s') s₃
            else ∃ m, m < n ∧ I m s₃) (notedBy (model prog w) A env fun e s' => R (.error e) s') s₂) (notedBy (model prog w) A env fun e s' => R (.error e) s') s₁') (notedBy (model prog w) A env fun e s' => R (.error e) s') s₁) (notedBy (model prog w) A env fun e s' => R (.error e) s') s)
    (n : Nat) (h : I n s) : codeAny (model prog w) A (.compLoop (Sc2 elt t0 i0 t1 i1 f0 f1 scope pos) 0 it acc env) R s := by
  refine codeAny_loop rfl I (fun n s hI => ?_) n h
  show wpAny _ A ((compTurn (Sc2 elt t0 i0 t1 i1 f0 f1 scope pos) 0 it acc env).onRaise (fun x => do noteFrame x env; theTreesLotGoes x)) _ _ s
  refine wpAny_noted ?_
  rw [sc2_turn0]
  refine wpAny_bind (wpAny_standAt (wpAny_bind (wpAny_mono (turn n s hI) (fun r s₁ h₁ => ?_) fun _ _ h' => h')))
  cases r with
  | none => exact wpAny_pure h₁
  | some v =>
    refine wpAny_bind (wpAny_mono h₁ (fun _ s₁' h₁' => ?_) fun _ _ h' => h')
    refine wpAny_bind (wpAny_mono h₁' (fun _ s₂ h₂ => wpAny_bind (wpAny_mono h₂ (fun ok s₃ h₃ => ?_) fun _ _ h' => h')) fun _ _ h' => h')
    cases ok with
    | false => exact wpAny_pure ⟨rfl, h₃⟩
    | true =>
      refine wpAny_bind (wpAny_mono h₃ (fun x s₄ h₄ => ?_) fun _ _ h' => h')
      refine wpAny_bind (wpAny_standAt (wpAny_bind (wpAny_of_eq (hs x) (wpAny_bind (wpAny_holding (wpAny_mono h₄ (fun it1 s₅ h₅ => ?_) fun _ _ h' => h'))))))
      refine wpAny_bind (wpAny_runOwn ?_)
      rw [Around.mark_none]
      refine codeAny_mono h₅ fun r s' hr => ?_
      cases r with
      | ok f =>
        first
          | exact wpAny_pure ⟨rfl, hr⟩
          | exact wpAny_bind (wpAny_pure (wpAny_pure ⟨rfl, hr⟩))
      | error e => exact hr.elim
/-- the inner one -/
theorem sc2_in (I : Nat → Shared → Prop)
    (turn : ∀ n s, I n s → wpAny (model prog w) A (pyNext it) (fun r s₁ => match r with
      | none => R (.ok .next) s₁
      | some v => wpAny (model prog w) A (letOwnedTupleGo t1 it v) (fun _ s₁' => wpAny (model prog w) A (assign t1 env v) (fun _ s₂ =>
          wpAny (model prog w) A (forIn f1 true fun c r => if r = true then do let ok ← isTrue c env (eval c env); pure (ForInStep.yield ok) else pure (ForInStep.yield r)) (fun ok s₃ =>
            if ok = true then wpAny (model prog w) A (eval elt env) (fun x s₄ =>
              wpAny (model prog w) A (call (.builtin "set.add") [acc, x]) (fun _ s₅ => ∃ m, m < n ∧ I m s₅) (notedBy (model prog w) A env fun e s' => R (.error e) s') s₄) (notedBy (model prog w) A env fun e s' => R (.error e) s') s₃
            else ∃ m, m < n ∧ I m s₃) (notedBy (model prog w) A env fun e s' => R (.error e) s') s₂) (notedBy (model prog w) A env fun e s' => R (.error e) s') s₁') (notedBy (model prog w) A env fun e s' => R (.error e) s') s₁) (notedBy (model prog w) A env fun e s' => R (.error e) s') s)
    (n : Nat) (h : I n s) : codeAny (model prog w) A (.compLoop (Sc2 elt t0 i0 t1 i1 f0 f1 scope pos) 1 it acc env) R s := by
  refine codeAny_loop rfl I (fun n s hI => ?_) n h
  show wpAny _ A ((compTurn (Sc2 elt t0 i0 t1 i1 f0 f1 scope pos) 1 it acc env).onRaise (fun x => do noteFrame x env; theTreesLotGoes x)) _ _ s
  refine wpAny_noted ?_
  rw [sc2_turn1]
  refine wpAny_bind (wpAny_standAt (wpAny_bind (wpAny_mono (turn n s hI) (fun r s₁ h₁ => ?_) fun _ _ h' => h')))
  cases r with
  | none => exact wpAny_pure h₁
  | some v =>
    refine wpAny_bind (wpAny_mono h₁ (fun _ s₁' h₁' => ?_) fun _ _ h' => h')
    refine wpAny_bind (wpAny_mono h₁' (fun _ s₂ h₂ => wpAny_bind (wpAny_mono h₂ (fun ok s₃ h₃ => ?_) fun _ _ h' => h')) fun _ _ h' => h')
    cases ok with
    | false => exact wpAny_pure ⟨rfl, h₃⟩
    | true =>
      exact wpAny_bind (wpAny_bind (wpAny_mono h₃ (fun x s₄ h₄ => wpAny_bind (wpAny_standAt (wpAny_bind (wpAny_mono h₄ (fun _ s₅ h₅ => wpAny_pure (wpAny_pure ⟨rfl, h₅⟩)) fun _ _ h' => h')))) fun _ _ h' => h'))
theorem sc2_start (h0 : codeAny (model prog w) A (.compLoop (Sc2 elt t0 i0 t1 i1 f0 f1 scope pos) 1 it acc env) R s)
    (h : wpAny (model prog w) A (pyIter it) (fun it' s' => codeAny (model prog w) A (.compLoop (Sc2 elt t0 i0 t1 i1 f0 f1 scope pos) 1 it' acc env) R s')
      (notedBy (model prog w) A env fun x s' => R (.error x) s') s) :
    codeAny (model prog w) A (.compStart (Sc2 elt t0 i0 t1 i1 f0 f1 scope pos) 1 it acc env) R s := by
  refine codeAny_of_tree ?_
  show wpAny _ _ ((compStart (Sc2 elt t0 i0 t1 i1 f0 f1 scope pos) 1 it acc env).onRaise (fun x => do noteFrame x env; standAt theWindowsPlace)) _ _ s
  refine wpAny_notedAt ?_
  unfold compStart
  show wpAny _ _ (ask >>= _) _ _ s
  refine wpAny_bind (wpAny_askSetting (wpAny_ite ?_))
  split
  · first
      | exact wpAny_bind (wpAny_pure (wpAny_pure (And.intro rfl h0)))
      | exact wpAny_pure (And.intro rfl h0)
  · first
      | exact wpAny_bind (wpAny_rule (wpAny_bind (wpAny_standAt (wpAny_bind (wpAny_mono h (fun it' s' h' => wpAny_pure (And.intro rfl h')) fun _ _ x => x)))))
      | (refine wpAny_bind (wpAny_rule ?_); show wpAny _ _ (standAt i1.pos >>= _) _ _ s; exact wpAny_bind (wpAny_standAt (wpAny_bind (wpAny_mono h (fun it' s' h' => wpAny_pure (And.intro rfl h')) fun _ _ x => x))))
end
section
variable {X : Cx}
/-- D: the new set; vs: the block's names; vs1: those of the second target -/
def tSc2 (P : Program) (w : World) (wi : TI) (g : TG) (tt : TT) (wi1 : TI) (g1 : TG) (tt1 : TT) (te : TE) (vs vs1 : List Nat) : TE := fun σ H Q => wi σ H fun J H1 => ∀ D, H1 D = none → ∃ W : Nat → Nat → Hp → Prop, (∃ m, W 0 m (upd H1 D (SetSO P w D []))) ∧ ∀ i m H, W i m H →
  (J.stop i H ∧ Q (.ref D) H) ∨ (J.go i H ∧ ∃ Nx : Hp → Prop, (∀ H', Nx H' → ∃ m', m' < m ∧ W (i + 1) m' H') ∧ ∀ x H', J.yld i H x H' → g x (wipe σ vs) H' fun σ2 H2 => wipe σ2 vs = wipe σ vs ∧ tt σ2 H2 fun b H3 =>
    if b = true then wi1 σ2 H3 fun J1 H4 => ∃ W1 : Nat → Nat → Hp → Prop, (∃ m, W1 0 m H4) ∧ ∀ j k H, W1 j k H →
      (J1.stop j H ∧ Nx H) ∨ (J1.go j H ∧ ∃ Nx1 : Hp → Prop, (∀ H', Nx1 H' → ∃ k', k' < k ∧ W1 (j + 1) k' H') ∧ ∀ x H', J1.yld j H x H' → g1 x (wipe σ2 vs1) H' fun σ3 H5 => wipe σ3 vs1 = wipe σ2 vs1 ∧ tt1 σ3 H5 fun b H6 =>
        if b = true then te σ3 H6 fun y H7 => ∃ (z : Str) (l : List Str), y = .str z ∧ H7 D = some (SetSO P w D l) ∧ l.length + 1 < scanBound ∧ ∀ l', (∀ c, c ∈ l' ↔ c = z ∨ c ∈ l) → l'.length ≤ l.length + 1 → Nx1 (upd H7 D (SetSO P w D l')) else Nx1 H6)
    else Nx H3)
theorem sc2_core {pins : List (Addr × Obj)} {s : Shared} {σ : St} {H : Hp} {Q : VK} {elt tg iter tg1 iter1 : Expr} {ifs ifs1 : List Expr} {scope : Scope} {own : List (Str × Nat)} {vs1 : List Nat} {pos pos' : Pos} {wi wi1 : TI} {g g1 : TG} {tt tt1 : TT} {te : TE} {use : Option (Value → Sem Unit)} {Qf : Value → Shared → Prop}
    (hc : X.calm = true) (hN : X.N.Nodup) (I : Inv X pins σ H s) (hi : PI X tg iter wi) (ok : BlkOk X.N X.env.scope scope own) (hv : ∀ i ∈ vs1, i ∈ own.map (·.2))
    (hg : ∀ (s : Shared) (H : Hp) (C : Addr) (cl : List (Str × Addr)) (fp : List Addr), PG (X.blk s H scope (compEnvC scope cl C X.env) fp) tg g) (ht : ∀ (s : Shared) (H : Hp) (C : Addr) (cl : List (Str × Addr)) (fp : List Addr), PTs (X.blk s H scope (compEnvC scope cl C X.env) fp) ifs tt)
    (he : ∀ (s : Shared) (H : Hp) (C : Addr) (cl : List (Str × Addr)) (fp : List Addr), PE (X.blk s H scope (compEnvC scope cl C X.env) fp) elt te) (hs : ∀ x, foldedSetIterable iter X.env x = pure x)
    (hi1 : ∀ (s : Shared) (H : Hp) (C : Addr) (cl : List (Str × Addr)) (fp : List Addr), PI (X.blk s H scope (compEnvC scope cl C X.env) fp) tg1 iter1 wi1)
    (hg1 : ∀ (s : Shared) (H : Hp) (C : Addr) (cl : List (Str × Addr)) (fp : List Addr), PG (X.blk s H scope (compEnvC scope cl C X.env) fp) tg1 g1)
    (ht1 : ∀ (s : Shared) (H : Hp) (C : Addr) (cl : List (Str × Addr)) (fp : List Addr), PTs (X.blk s H scope (compEnvC scope cl C X.env) fp) ifs1 tt1)
    (hs1 : ∀ env x, foldedSetIterable iter1 env x = pure x)
    (h : tSc2 X.prog X.w wi g tt wi1 g1 tt1 te (own.map (·.2)) vs1 σ H Q)
    (hRR : ∀ D C s' m H', Inv X pins σ H' s' → Q (.ref D) H' → s'.heap.Ns C m → FpOk X pins H' C → compPost (model X.prog X.w) X.A X.xe use Qf (.ref D) C (.ok .next) s') :
    wpAny (model X.prog X.w) X.A (comprehension (Sc2 elt tg iter tg1 iter1 ifs ifs1 scope pos) scope X.env pos' (newSet (.type "set")) false (eval iter X.env) use) Qf X.xe s := by
  have hfree : ∀ y ∈ scope.names, y.2 = .free → ∃ c, X.env.cells.lookup y.1 = some c := fun y hy e => by
    rcases ok.free y hy e with k | k
    · exact I.ok.has _ (.inl k)
    · exact I.ok.has _ (.inr k)
  refine wpAny_comprehension_free (use := use) rfl hs (closure_ok hfree) ok.kind (fun y hy e => by rw [ok.uniq y hy, e])
    (thn (hi.run pins s σ H _ I h) fun xv s1 hx => thn hx fun itv s2 h2 => ?_)
  obtain ⟨it, fp, tn, J, H2, e, I2, T, st2, f2, q⟩ := h2
  subst e
  refine newSet_ok (newEnv_comp ?_)
  generalize hD : s2.heap.objs.size = D
  have hDn : H2 D = none := I2.hok.fresh (Nat.le_of_eq hD)
  obtain ⟨W, ⟨m0, w0⟩, turn⟩ := q D hDn
  generalize hs3 : ({ s2 with heap := s2.heap.push { cls := .type "set", dict := none, data := .set #[] 0 (.fresh 0 0 (!X.w.params.followText "set-order")) } } : Shared) = s3
  generalize hO : SetSO X.prog X.w D [] = O at w0
  have I3 : Inv X pins σ (upd H2 D O) s3 := by
    rw [← hs3, ← hO]
    refine I2.laid (t' := s2.toks) (fun b o e => Heap.get?_push_of_some _ e) (Nat.le_of_eq hD) ?_
    rw [← hD]
    exact setSO_new (setS_fresh X.prog X.w)
  have h3 : s3.heap = s2.heap.push { cls := .type "set", dict := none, data := .set #[] 0 (.fresh 0 0 (!X.w.params.followText "set-order")) } := by rw [← hs3]
  have sz : ∀ b ∈ fp, b < s2.heap.objs.size := fun b hb => by
    obtain ⟨o, e, _⟩ := T.obj _ _ st2 b hb
    exact Heap.lt_size e
  have f3 : ∀ b ∈ fp, FpOk X pins (upd H2 D O) b ∧ b < s3.heap.objs.size := fun b hb => by
    have hlt := sz b hb
    refine ⟨⟨?_, (f2 b hb).2⟩, by rw [h3, Heap.size_push]; exact Nat.lt_succ_of_lt hlt⟩
    rw [upd_ne (by rw [← hD]; exact Nat.ne_of_lt hlt)]
    exact (f2 b hb).1
  have st3 : tn 0 s3.heap := T.keep _ _ _ st2 fun b _ o e => by rw [h3]; exact Heap.get?_push_of_some _ e
  have I4 := block_start I3 ok hN f3
  generalize hcl : cellsFrom (s3.heap.objs.size + 1) scope.names (cloFrom X.env.cells scope.names []) = cl at I4
  have pg := hg s3 (upd H2 D O) s3.heap.objs.size cl fp
  have pt := ht s3 (upd H2 D O) s3.heap.objs.size cl fp
  have pe := he s3 (upd H2 D O) s3.heap.objs.size cl fp
  have pi1 := hi1 s3 (upd H2 D O) s3.heap.objs.size cl fp
  have pg1 := hg1 s3 (upd H2 D O) s3.heap.objs.size cl fp
  have pt1 := ht1 s3 (upd H2 D O) s3.heap.objs.size cl fp
  show codeAny _ _ (.compStart (Sc2 elt tg iter tg1 iter1 ifs ifs1 scope pos) 0 (.ref it) (.ref D) (compEnvC scope cl s3.heap.objs.size X.env)) (compPost (model X.prog X.w) X.A X.xe use Qf (.ref D) s3.heap.objs.size) { s3 with heap := pushCells (s3.heap.push { cls := .type "dict", data := .dict #[] }) scope.names }
  have nfp : ∀ b ∈ fp, (upd H2 D O) b = none := fun b hb => (f3 b hb).1.1
  generalize hce : compEnvC scope cl s3.heap.objs.size X.env = ce at I4 pg pt pe pi1 pg1 pt1 ⊢
  have cL : ce.locals = s3.heap.objs.size := by subst hce; rfl
  generalize hH3 : upd H2 D O = H3 at I3 I4 pg pt pe pi1 pg1 pt1 w0 nfp f3
  generalize hs4 : ({ s3 with heap := pushCells (s3.heap.push { cls := .type "dict", data := .dict #[] }) scope.names } : Shared) = s4 at I4 ⊢
  have st4 : tn 0 s4.heap := T.keep _ _ _ st3 fun b _ o e => by rw [← hs4]; exact pushCells_keeps _ _ _ _ (Heap.get?_push_of_some _ e)
  have stat : ∀ {σ' : St} {H' : Hp} {s' : Shared}, Inv (X.blk s3 H3 scope ce fp) [] σ' H' s' → (∀ b ∈ fp, H' b = none) → ∀ b ∈ fp, FpOk (X.blk s3 H3 scope ce fp) [] H' b := fun {σ' H' s'} I' hn b hb =>
    ⟨hn b hb, (I'.ok.exf b hb).1, I'.ok.exfs b hb, .inl hb, fun x c e => (I'.ok.exf b hb).2 x c e, fun p hp => absurd (show p ∈ ([] : List (Addr × Obj)) ++ [] from hp) (by simp)⟩
  have loop : codeAny (model X.prog X.w) X.A (.compLoop (Sc2 elt tg iter tg1 iter1 ifs ifs1 scope pos) 0 (.ref it) (.ref D) ce) (compPost (model X.prog X.w) X.A X.xe use Qf (.ref D) s3.heap.objs.size) s4 := by
    refine sc2_out (hs1 ce) (fun n s' => ∃ i H', Inv (X.blk s3 H3 scope ce fp) [] (wipe σ (own.map (·.2))) H' s' ∧ tn i s'.heap ∧ (∀ b ∈ fp, H' b = none) ∧ W i n H') ?_ m0 ⟨0, H3, I4, st4, nfp, w0⟩
    rintro n s5 ⟨i, H5, I5, st5, n5, w5⟩
    rcases turn i n H5 w5 with ⟨stop, qq⟩ | ⟨go, Nx, hNx, step⟩
    · refine thnF (T.done (X.blk s3 H3 scope ce fp) rfl rfl rfl hc i [] s5 _ H5 (fun _ _ => False) I5 (stat I5 n5) st5 stop) fun r s6 ⟨hr, I6⟩ => ?_
      subst hr
      have I7 : Inv X pins σ H5 s6 := I3.call' (ch := fp) I6.os I6.base I6.hok I6.bare fun b hb => ⟨(f3 b hb).1.2.2.2.1, (f3 b hb).1.2.1, (f3 b hb).1.2.2.2.2.1, (f3 b hb).1.2.2.2.2.2⟩
      have nC : H5 s3.heap.objs.size = none := by
        have z : H5 ce.locals = none := I6.free
        rw [cL] at z
        exact z
      obtain ⟨m, hn, _⟩ := I6.loc
      have hn : s6.heap.Ns ce.locals m := hn
      rw [cL] at hn
      exact hRR D s3.heap.objs.size s6 m H5 I7 qq hn (I3.fpOk (Nat.le_refl _) nC)
    · refine thnF (T.item (X.blk s3 H3 scope ce fp) rfl rfl rfl hc i [] s5 _ H5 (fun _ _ => False) I5 (stat I5 n5) st5 go) fun r s6 ⟨u, hr, h6⟩ => ?_
      subst hr
      refine thnF h6 fun _ s7 ⟨x, H7, I7, r7, y7, st7, n7⟩ => ?_
      have I7' := I7.pinned (stat I7 n7) (T.obj _ _ st7)
      refine thnF (pg.run _ s7 _ H7 x u _ I7' r7 (step x H7 y7)) fun _ s8 ⟨σ8, H8, I8, hw8, q8⟩ => ?_
      refine thnF (pt.run _ s8 σ8 H8 _ I8 q8) fun b s9 ⟨H9, I9, q9⟩ => ?_
      have fin : ∀ {σ9 : St} {s' : Shared} {H' : Hp}, Inv (X.blk s3 H3 scope ce fp) ([] ++ pinsAt fp s7.heap) σ9 H' s' → (wipe σ (own.map (·.2))).length = σ9.length → (∀ (j : Nat) v, (wipe σ (own.map (·.2)))[j]? = some (some v) → σ9[j]? = some (some v)) → Nx H' →
          ∃ m, m < n ∧ ∃ i H', Inv (X.blk s3 H3 scope ce fp) [] (wipe σ (own.map (·.2))) H' s' ∧ tn i s'.heap ∧ (∀ b ∈ fp, H' b = none) ∧ W i m H' := fun {σ9 s' H'} I' hl hk nx => by
        obtain ⟨m', hm, w'⟩ := hNx H' nx
        have pin' : ∀ b ∈ fp, ∀ o, s7.heap.get? b = some o → s'.heap.get? b = some o ∧ H' b = none := fun b hb o e =>
          let z := I'.pin (b, o) (List.mem_append_right _ (List.mem_append_right _ (mem_pinsAt hb e)))
          ⟨z.1, z.2.1⟩
        refine ⟨m', hm, i + 1, H', (I'.unpinned (pins := [])).weak hl hk, T.keep _ _ _ st7 fun b hb o e => (pin' b hb o e).1, fun b hb => ?_, w'⟩
        obtain ⟨o, e, _⟩ := T.obj _ _ st7 b hb
        exact (pin' b hb o e).2
      have hl8 : (wipe σ (own.map (·.2))).length = σ8.length := by rw [← hw8, wipe_length]
      have hk8 : ∀ (j : Nat) v, (wipe σ (own.map (·.2)))[j]? = some (some v) → σ8[j]? = some (some v) := fun j v e => by
        rw [← hw8] at e
        exact (wipe_some e).1
      have hk9 : ∀ (j : Nat) v, (wipe σ (own.map (·.2)))[j]? = some (some v) → (wipe σ8 vs1)[j]? = some (some v) := fun j v e => by
        rw [← hw8] at e
        obtain ⟨e1, e2⟩ := wipe_some e
        rw [wipe_out fun z => e2 (hv j z)]
        exact e1
      cases b with
      | false =>
        simp only [Bool.false_eq_true, if_false] at q9 ⊢
        exact fin I9 hl8 hk8 q9
      | true =>
        simp only [if_true] at q9 ⊢
        refine thnF (pi1.run _ s9 σ8 H9 _ I9 q9) fun xv s10 hx => thnF hx fun itv s11 h11 => ?_
        obtain ⟨it1, fp1, tn1, J1, H11, e1, I11, T1, st11, f11, W1, ⟨m1, w1⟩, turn1⟩ := h11
        subst e1
        have stat1 : ∀ {H' : Hp}, (∀ b ∈ fp1, H' b = none) → ∀ b ∈ fp1, FpOk (X.blk s3 H3 scope ce fp) ([] ++ pinsAt fp s7.heap) H' b := fun hn b hb => ⟨hn b hb, (f11 b hb).2⟩
        have loop1 : codeAny (model X.prog X.w) X.A (.compLoop (Sc2 elt tg iter tg1 iter1 ifs ifs1 scope pos) 1 (.ref it1) (.ref D) ce)
            (fun r s' => match r with
              | .ok _ => ∃ m, m < n ∧ ∃ i H', Inv (X.blk s3 H3 scope ce fp) [] (wipe σ (own.map (·.2))) H' s' ∧ tn i s'.heap ∧ (∀ b ∈ fp, H' b = none) ∧ W i m H'
              | .error _ => False) s11 := by
          refine sc2_in (fun k s' => ∃ j H', Inv (X.blk s3 H3 scope ce fp) ([] ++ pinsAt fp s7.heap) (wipe σ8 vs1) H' s' ∧ tn1 j s'.heap ∧ (∀ b ∈ fp1, H' b = none) ∧ W1 j k H') ?_ m1 ⟨0, H11, I11.weak (wipe_length _ _) (fun j v e => (wipe_some e).1), st11, fun b hb => (f11 b hb).1, w1⟩
          rintro k s12 ⟨j, H12, I12, st12, n12, w12⟩
          rcases turn1 j k H12 w12 with ⟨stop1, nx1⟩ | ⟨go1, Nx1, hNx1, step1⟩
          · refine thnF (T1.done (X.blk s3 H3 scope ce fp) rfl rfl rfl hc j _ s12 (wipe σ8 vs1) H12 (fun _ _ => False) I12 (stat1 n12) st12 stop1) fun r s13 ⟨hr, I13⟩ => ?_
            subst hr
            exact fin I13 (hl8.trans (wipe_length σ8 vs1).symm) hk9 nx1
          · refine thnF (T1.item (X.blk s3 H3 scope ce fp) rfl rfl rfl hc j _ s12 (wipe σ8 vs1) H12 (fun _ _ => False) I12 (stat1 n12) st12 go1) fun r s13 ⟨u1, hr, h13⟩ => ?_
            subst hr
            refine thnF h13 fun _ s14 ⟨x1, H14, I14, r14, y14, st14, n14⟩ => ?_
            have I14' := I14.pinned (stat1 n14) (T1.obj _ _ st14)
            refine thnF (pg1.run _ s14 (wipe σ8 vs1) H14 x1 u1 _ I14' r14 (step1 x1 H14 y14)) fun _ s15 ⟨σ15, H15, I15, hw15, q15⟩ => ?_
            refine thnF (pt1.run _ s15 σ15 H15 _ I15 q15) fun b1 s16 ⟨H16, I16, q16⟩ => ?_
            have fin1 : ∀ {s' : Shared} {H' : Hp}, Inv (X.blk s3 H3 scope ce fp) (([] ++ pinsAt fp s7.heap) ++ pinsAt fp1 s14.heap) σ15 H' s' → Nx1 H' → ∃ m, m < k ∧ ∃ j H', Inv (X.blk s3 H3 scope ce fp) ([] ++ pinsAt fp s7.heap) (wipe σ8 vs1) H' s' ∧ tn1 j s'.heap ∧ (∀ b ∈ fp1, H' b = none) ∧ W1 j m H' := fun {s' H'} I' nx => by
              obtain ⟨m', hm, w'⟩ := hNx1 H' nx
              have pin' : ∀ b ∈ fp1, ∀ o, s14.heap.get? b = some o → s'.heap.get? b = some o ∧ H' b = none := fun b hb o e =>
                let z := I'.pin (b, o) (List.mem_append_right _ (List.mem_append_right _ (mem_pinsAt hb e)))
                ⟨z.1, z.2.1⟩
              refine ⟨m', hm, j + 1, H', I'.unpinned.weak (by rw [← hw15, wipe_length]) (fun j v e => by rw [← hw15] at e; exact (wipe_some e).1), T1.keep _ _ _ st14 fun b hb o e => (pin' b hb o e).1, fun b hb => ?_, w'⟩
              obtain ⟨o, e, _⟩ := T1.obj _ _ st14 b hb
              exact (pin' b hb o e).2
            cases b1 with
            | false =>
              simp only [Bool.false_eq_true, if_false] at q16 ⊢
              exact fin1 I16 q16
            | true =>
              simp only [if_true] at q16 ⊢
              refine thnF (pe.run _ s16 σ15 H16 _ I16 q16) fun z s17 ⟨yv, H17, I17, r17, zt, l0, ey, hD17, hz17, nx⟩ => ?_
              subst ey
              obtain ⟨tz, rfl⟩ := r17
              exact addS_ok (X := X.blk s3 H3 scope ce fp) I17 hD17 hz17 fun s18 l' m1 m2 I18 => fin1 I18 (nx l' m1 m2)
        exact sc2_start loop1 (T1.self X.A 0 _ _ _ st11 loop1)
  exact codeAny_compStart_set loop (T.self X.A 0 _ _ _ st4 loop)
theorem pe_sc2 {elt tg iter tg1 iter1 : Expr} {ifs ifs1 : List Expr} {scope : Scope} {own : List (Str × Nat)} {vs1 : List Nat} {pos : Pos} {wi wi1 : TI} {g g1 : TG} {tt tt1 : TT} {te : TE} (hc : X.calm = true) (hN : X.N.Nodup) (hi : PI X tg iter wi) (ok : BlkOk X.N X.env.scope scope own) (hv : ∀ i ∈ vs1, i ∈ own.map (·.2))
    (hg : ∀ (s : Shared) (H : Hp) (C : Addr) (cl : List (Str × Addr)) (fp : List Addr), PG (X.blk s H scope (compEnvC scope cl C X.env) fp) tg g) (ht : ∀ (s : Shared) (H : Hp) (C : Addr) (cl : List (Str × Addr)) (fp : List Addr), PTs (X.blk s H scope (compEnvC scope cl C X.env) fp) ifs tt)
    (hi1 : ∀ (s : Shared) (H : Hp) (C : Addr) (cl : List (Str × Addr)) (fp : List Addr), PI (X.blk s H scope (compEnvC scope cl C X.env) fp) tg1 iter1 wi1)
    (hg1 : ∀ (s : Shared) (H : Hp) (C : Addr) (cl : List (Str × Addr)) (fp : List Addr), PG (X.blk s H scope (compEnvC scope cl C X.env) fp) tg1 g1) (ht1 : ∀ (s : Shared) (H : Hp) (C : Addr) (cl : List (Str × Addr)) (fp : List Addr), PTs (X.blk s H scope (compEnvC scope cl C X.env) fp) ifs1 tt1)
    (he : ∀ (s : Shared) (H : Hp) (C : Addr) (cl : List (Str × Addr)) (fp : List Addr), PE (X.blk s H scope (compEnvC scope cl C X.env) fp) elt te) (hs : ∀ x, foldedSetIterable iter X.env x = pure x := by intro _; rfl) (hs1 : ∀ env x, foldedSetIterable iter1 env x = pure x := by intro _ _; rfl) :
    PE X (Sc2 elt tg iter tg1 iter1 ifs ifs1 scope pos) (tSc2 X.prog X.w wi g tt wi1 g1 tt1 te (own.map (·.2)) vs1) := by
  refine ⟨fun pins s σ H Q I h => ?_⟩
  rw [eval_SetComp]
  refine sc2_core hc hN I hi ok hv hg ht he hs hi1 hg1 ht1 hs1 h fun D C s' m H' I' q hn f => ⟨m, hn, fun h'' sb => ?_⟩
  obtain ⟨f0, f1, f2, f3, f4, f5⟩ := f
  exact ⟨.ref D, H', I'.turned (t' := s'.toks) (fun b o hb e => (sb.2 b hb).trans e) f0 f1 f3 f4 f5, rfl, q⟩
end
end L2
end
section
set_option Elab.async false
set_option linter.all false
set_option maxRecDepth 100000
set_option maxHeartbeats 2000000
namespace L2
open PySem PySem.Spec PyProof.Rows
/-- n turns, whatever the body asks -/
theorem walk_W {J : It} {n : Nat} {G : Hp → Prop} {Y : Nat → Hp → V → Hp → Prop} (w : Walk J n G Y) {B : (Hp → Prop) → V → Hp → Prop} {H0 : Hp} {Qd : Hp → Prop} (Pv : Nat → Hp → Prop) (h0 : Pv 0 H0) (hG : ∀ i H, i ≤ n → Pv i H → G H)
    (hs : ∀ i x H H', i < n → Pv i H → Y i H x H' → B (Pv (i + 1)) x H') (hd : ∀ H, Pv n H → Qd H) :
    ∃ W : Nat → Nat → Hp → Prop, (∃ m, W 0 m H0) ∧ ∀ i m H, W i m H →
      (J.stop i H ∧ Qd H) ∨ (J.go i H ∧ ∃ Nx : Hp → Prop, (∀ H', Nx H' → ∃ m', m' < m ∧ W (i + 1) m' H') ∧ ∀ x H', J.yld i H x H' → B Nx x H') := by
  refine ⟨fun i m H => m = n - i ∧ i ≤ n ∧ Pv i H, ⟨n, by simp, Nat.zero_le _, h0⟩, ?_⟩
  rintro i m H ⟨rfl, hi, p⟩
  have q := hG i H hi p
  by_cases hlt : i < n
  · exact .inr ⟨w.goes i H hlt q, Pv (i + 1), fun H' p' => ⟨n - (i + 1), by omega, rfl, hlt, p'⟩, fun x H' y => hs i x H H' hlt p (w.yields i H x H' hlt q y)⟩
  · have e : i = n := by omega
    subst e
    exact .inl ⟨w.stops H q, hd H p⟩
theorem walk_zipT {K : PySem.W.Frag} {a b : Addr} {xs ys : List V} {n : Nat} (hn : n = min xs.length ys.length) : Walk (RZ.ItzT K a b) n (fun H => SqT K H a xs ∧ SqT K H b ys) (YPair (fun i => xs[i]?) (fun i => ys[i]?)) := by
  subst hn
  refine ⟨fun i _ hi q => ?_, fun _ q => ⟨xs, ys, q.1, q.2, by omega⟩, fun i H v H' _ q y => ?_⟩
  · have h1 : i < xs.length := by omega
    have h2 : i < ys.length := by omega
    exact ⟨xs, ys, xs[i], ys[i], q.1, q.2, by simp [h1], by simp [h2]⟩
  · obtain ⟨T, x, z, h1, h2, h3, h4, h5⟩ := y
    exact ⟨T, x, z, h1, h2, h3, h4 xs q.1, h5 ys q.2⟩
end L2
namespace Ah
open PySem PySem.Spec PyProof.Rows L2
/-! ### told_of -/
def toldW (place : Str) : List Str → List Str
  | h :: rest => (match formsL.lookup h with
    | some ps => ((rest.zip ps).filter fun (z : Str × Str) => decide (z.2 = place)).map (fun (z : Str × Str) => z.1)
    | none => [])
  | [] => []
theorem Rw.form (r : Rw) : ∃ h rest ps, r.ws = h :: rest ∧ formsL.lookup h = some ps ∧ rest.length = ps.length ∧ rest.length ≤ 3 := by
  cases r <;> exact ⟨_, _, _, rfl, (by rfl), (by rfl), Nat.le_of_ble_eq_true rfl⟩
theorem toldW_of {place h : Str} {rest ps : List Str} (e : formsL.lookup h = some ps) : toldW place (h :: rest) = ((rest.zip ps).filter fun (z : Str × Str) => decide (z.2 = place)).map (fun (z : Str × Str) => z.1) := by
  show (match formsL.lookup h with
    | some ps => ((rest.zip ps).filter fun (z : Str × Str) => decide (z.2 = place)).map (fun (z : Str × Str) => z.1)
    | none => []) = _
  rw [e]
theorem mem_take_succ {α : Type} {l : List α} {i : Nat} {x y : α} (e : l[i]? = some x) : y ∈ l.take (i + 1) ↔ y ∈ l.take i ∨ y = x := by
  rw [List.take_add_one, e, List.mem_append]
  simp
theorem kD_far {H H' : Hp} {D : Addr} {o : HO} (n : H D = none) (k : Kept [] H H') : Kept [] H (upd H' D o) := Kept.far (Kept.refl H) n k
theorem scTd : FnScope ["rows", "place", "row", "word", "at"] ["rows", "place"] (defScope sToldOf) := ⟨rfl, rfl, rfl, by decide +kernel, rfl, by decide +kernel, by decide +kernel⟩
def spTold : Sp := fun vs H Q _ => ∃ (q : Addr) (rs : List Rw) (place : Str), vs = [.ref q, .str place] ∧ TextAt H q rs ∧ rs.length ≤ 1000 ∧
  ∀ (p : Addr) (bs : List Str) (H' : Hp), Kept [] H H' → H p = none → H' p = some (.lst ((bs.mergeSort leS).map V.str)) → (∀ z, z ∈ bs ↔ ∃ r ∈ rs, z ∈ toldW place (Rw.ws r)) → bs.length ≤ 3 * rs.length → Q (.ref p) H'
section
variable {P : Program} {w : World} {K : PySem.W.Frag} {mg : Str → Option Value} {base : Heap} {f d : Addr} {fd : FuncData}
theorem ok_told (F : FnP K "told_of" sToldOf f fd) (D : TF K w mg d) (B : Bl mg) : FnOk P w K mg base CX0 1 f fd ["rows", "place"] spTold := by
  refine F.ok scTd (fun vs H Q E h => ?_) (fun cdv A outer s H vs Q E hr h => ?_)
  · obtain ⟨q, rs, place, rfl, _⟩ := h
    rfl
  · obtain ⟨q, rs, place, rfl, tx, hl, k⟩ := h
    obtain ⟨es, nn, kd⟩ := D.kd
    refine ⟨_, PSs.nox (pss_one (ps_ret (pe_callB (cr_sortSetS rfl hr.units) (by rfl) B.sorted_ (by decide +kernel) (pa_cons
      (pe_sc2 (own := [("row", 2), ("word", 3), ("at", 4)]) (vs1 := [3, 4]) (tt := tYes) rfl scTd.nd (pi_tup (pv 0)) (blkOk_by (N := ["rows", "place", "row", "word", "at"]) (sc := defScope sToldOf) (by decide +kernel)) (by decide)
        (fun _ _ _ _ _ => pg_name (i := 2) scTd.nd rfl (Or.inl rfl)) (fun _ _ _ _ _ => pts_nil)
        (fun _ _ _ _ _ => show PI _ _ _ (RZ.iZipA K _) from RZ.pi_zipA (by rfl) B.zip_ (pa_cons (pe_slice (show SlR _ (rSlT K) from sl_tup) (pv 2) (po_some pe_int) po_none) (pa_cons (pe_ix (show IxR _ (rIxD K w) from ix_kdict) (pe_glob (v := .ref d) (by rfl) D.at_ rfl) (pe_ix (show IxR _ (rIxT K) from ix_tup) (pv 2) pe_int (fun _ _ => rfl)) (fun _ _ => rfl)) pa_nil)))
        (fun _ _ _ _ _ => show PG _ _ (gTup K 2 _) from pg_tup rfl (pgs_cons (pg_name (i := 3) scTd.nd rfl (Or.inl rfl)) (pgs_cons (pg_name (i := 4) scTd.nd rfl (Or.inl rfl)) pgs_nil)))
        (fun _ _ _ _ _ => pts_one (pt_cmpR op_eq (pv 4) (pv 1) (nomark _)))
        (fun _ _ _ _ _ => pv 3)) pa_nil)))), ?_⟩
    obtain ⟨ps, hq, hps⟩ := tx
    refine ⟨_, rfl, q, rfl, ⟨_, .inl (.of hq)⟩, fun Dz nD => ?_⟩
    have kD : Kept [] H (upd H Dz (SetSO P w Dz [])) := (Kept.refl H).upd nD
    have fin : ∀ {Ha : Hp} {l : List Str}, Kept [] H Ha → Ha Dz = some (SetSO P w Dz l) → (∀ z, z ∈ l ↔ ∃ r ∈ rs, z ∈ toldW place (Rw.ws r)) → l.length ≤ 3 * rs.length →
        ∀ (p : Addr) (bs : List Str), Ha p = none → (∀ z, z ∈ bs ↔ z ∈ l) → bs.length = l.length → Q (.ref p) (upd Ha p (.lst ((bs.mergeSort leS).map V.str))) := fun kk _ hm hz p bs np hb hbl => by
      refine k p bs _ (kk.upd np) ?_ upd_same (fun z => (hb z).trans (hm z)) (by omega)
      cases e : H p with
      | none => rfl
      | some o =>
        rw [kk p o e (by simp)] at np
        cases np
    have tq : ∀ {Ha : Hp}, Kept [] H Ha → SqT K Ha q (ps.map V.ref) := fun kk => .inl (.of (kk _ _ hq (by simp)))
    refine walk_W (walk_tup (K := K) (a := q) (xs := ps.map V.ref)) (fun i Ha => ∃ l, Ha Dz = some (SetSO P w Dz l) ∧ (∀ z, z ∈ l ↔ ∃ r ∈ rs.take i, z ∈ toldW place (Rw.ws r)) ∧ l.length ≤ 3 * i ∧ Kept [] H Ha)
      ⟨[], upd_same, (fun z => by simp), by simp, kD⟩ (fun i Ha _ pv => tq pv.choose_spec.2.2.2) ?_ ?_
    · rintro i x Ha0 Ha hi ⟨l, e1, hm, hz, kk⟩ ⟨rfl, ey⟩
      refine ⟨rfl, yes_if ?_⟩
      rw [List.getElem?_map] at ey
      obtain ⟨pr, epr, rfl⟩ := Option.map_eq_some_iff.mp ey
      obtain ⟨r, er, hr1⟩ := paired_at hps epr
      obtain ⟨hd, rest, fs, ew, ef, el1, el2⟩ := Rw.form r
      obtain ⟨ap, ea1, ea2⟩ := D.val hd fs ef
      have hpr : Ha pr = some (.tup (.str hd :: rest.map V.str)) := by
        have q := kk _ _ hr1 (by simp)
        rw [ew] at q
        exact q
      have sx : SqT K Ha pr (.str hd :: rest.map V.str) := .inl (.of hpr)
      refine ⟨_, rfl, 1, rfl, pr, _, rfl, sx, fun q => ?_, fun p np => ?_⟩
      · have h1 : HT.sIx (V.str hd :: rest.map V.str).length 0 (some 1) = 1 := by
          rw [show (1 : Int) = ((1 : Nat) : Int) from rfl, HT.sIx_nat, List.length_cons]
          omega
        have h2 := q.1
        rw [h1] at h2
        cases h2
      · rw [cut_tail]
        have k1 : Kept [] H (upd Ha p (.tup (rest.map V.str))) := kk.upd np
        have ndp : Dz ≠ p := ne_of_none e1 np
        refine ⟨_, rfl, pr, _, 0, .str hd, rfl, rfl, .inl (.of (by rw [upd_ne (ne_of_none hpr np)]; exact hpr)), at_of (j := 0) rfl rfl, d, hd, .ref ap, rfl, rfl, ⟨es, nn, _, kd.at_, kd.lit, ea1, rfl⟩, ?_⟩
        refine ⟨p, ap, rest.map V.str, fs.map V.str, rfl, .inr ⟨.inl (.of upd_same), ea2 _, ?_⟩⟩
        have lens : (rest.map V.str).length = rest.length ∧ (fs.map V.str).length = rest.length := ⟨List.length_map .., by rw [List.length_map, el1]⟩
        refine walk_W (walk_zipT (K := K) (a := p) (b := ap) (xs := rest.map V.str) (ys := fs.map V.str) (n := rest.length) (by omega))
          (fun j Hc => ∃ l', Hc Dz = some (SetSO P w Dz l') ∧ (∀ z, z ∈ l' ↔ z ∈ l ∨ z ∈ (((rest.zip fs).take j).filter fun (z : Str × Str) => decide (z.2 = place)).map fun (z : Str × Str) => z.1) ∧ l'.length ≤ l.length + j ∧ Kept [] H Hc ∧ Hc p = some (.tup (rest.map V.str)))
          ⟨l, by rw [upd_ne ndp]; exact e1, (fun z => by simp), by simp, k1, upd_same⟩ (fun j Hc _ pv => ⟨.inl (.of pv.choose_spec.2.2.2.2), ea2 _⟩) ?_ ?_
        · rintro j x Hc Hc' hj ⟨l', e2, hm2, hz2, kk2, ep2⟩ ⟨Tp, x1, x2, rfl, nT, rfl, g1, g2⟩
          dsimp only at g1 g2
          rw [List.getElem?_map] at g1 g2
          obtain ⟨a1, ga1, rfl⟩ := Option.map_eq_some_iff.mp g1
          obtain ⟨a2, ga2, rfl⟩ := Option.map_eq_some_iff.mp g2
          have ez : (rest.zip fs)[j]? = some (a1, a2) := List.getElem?_zip_eq_some.mpr ⟨ga1, ga2⟩
          have nd2 : Dz ≠ Tp := ne_of_none e2 nT
          refine ⟨Tp, _, rfl, .inl (.of upd_same), rfl, _, _, rfl, _, _, rfl, rfl, rfl, ?_⟩
          refine ⟨_, rfl, _, rfl, rfl, ?_⟩
          have k3 : Kept [] H (upd Hc Tp (.tup [.str a1, .str a2])) := kk2.upd nT
          by_cases hp : a2 = place
          · rw [decide_eq_true (by rw [hp])]
            refine ⟨true, rfl, iteT ⟨_, rfl, a1, l', rfl, (by rw [upd_ne nd2]; exact e2), ?_, fun l'' m1 m2 => ⟨l'', upd_same, fun z => ?_, by omega, kD_far nD k3, ?_⟩⟩⟩
            · exact Nat.lt_of_le_of_lt (show l'.length + 1 ≤ 4000 by
                have el : ps.length = rs.length := hps.length
                rw [List.length_map] at hi
                omega) (by decide)
            · rw [m1 z, hm2 z, List.take_add_one, ez]
              simp [hp, or_assoc, or_comm, or_left_comm]
            · rw [upd_ne (ne_of ep2 e2 (fun q => nomatch q)), upd_ne (ne_of_none ep2 nT)]
              exact ep2
          · rw [decide_eq_false (by intro q; exact hp (V.str.inj q))]
            refine ⟨false, rfl, iteF ⟨l', (by rw [upd_ne nd2]; exact e2), fun z => ?_, by omega, k3, ?_⟩⟩
            · rw [hm2 z, List.take_add_one, ez]
              simp [hp]
            · rw [upd_ne (ne_of_none ep2 nT)]
              exact ep2
        · rintro Hc ⟨l', e2, hm2, hz2, kk2, ep2⟩
          have et : (rest.zip fs).take rest.length = rest.zip fs := List.take_of_length_le (by rw [List.length_zip]; omega)
          rw [et] at hm2
          refine ⟨l', e2, fun z => ?_, by omega, kk2⟩
          rw [hm2, hm z]
          have et2 : toldW place (Rw.ws r) = ((rest.zip fs).filter fun (z : Str × Str) => decide (z.2 = place)).map fun (z : Str × Str) => z.1 := by
            rw [ew]
            exact toldW_of ef
          constructor
          · rintro (⟨r', hr', hz'⟩ | hz')
            · exact ⟨r', (mem_take_succ er).mpr (.inl hr'), hz'⟩
            · exact ⟨r, (mem_take_succ er).mpr (.inr rfl), by rw [et2]; exact hz'⟩
          · rintro ⟨r', hr', hz'⟩
            rcases (mem_take_succ er).mp hr' with q | q
            · exact .inl ⟨r', q, hz'⟩
            · right
              rw [q, et2] at hz'
              exact hz'
    · rintro Ha ⟨l, e1, hm, hz, kk⟩
      rw [List.length_map] at hm hz
      have el : ps.length = rs.length := hps.length
      rw [el, List.take_of_length_le (Nat.le_refl _)] at hm
      exact ⟨Dz, l, rfl, e1, fun p bs np hb hbl => fin kk e1 hm (by omega) p bs np hb hbl⟩
end
end Ah
end
section
set_option Elab.async false
set_option linter.all false
set_option maxRecDepth 100000
set_option maxHeartbeats 2000000
namespace Ah
open PySem PySem.Spec PyProof.Rows L2
/-! ### sayings and leads as data -/
inductive Say where
  | is (n k : Str) | has (n t m : Str) | clash
  deriving DecidableEq
def Say.ws : Say → List Str
  | .is n k => ["is", n, k] | .has n t m => ["has", n, t, m] | .clash => ["clash"]
theorem Say.inj {s t : Say} (h : s.ws = t.ws) : s = t := by
  cases s <;> cases t <;> simp [Say.ws] at h <;> first | rfl | (simp [h]) | (exact absurd h (by decide))
abbrev Lead := Say × Option Say × Say
def okW (ws : List Str) : Prop := ws.all PyData.strOk = true
/-- tuples, and what is known, stay -/
structure TK (H H' : Hp) : Prop where
  tup : ∀ b xs, H b = some (.tup xs) → H' b = some (.tup xs)
  frz : ∀ b o u, H b = some (.frz o u) → H' b = some (.frz o u)
theorem TK.refl (H : Hp) : TK H H := ⟨fun _ _ e => e, fun _ _ _ e => e⟩
theorem TK.trans {H H1 H2 : Hp} (a : TK H H1) (b : TK H1 H2) : TK H H2 := ⟨fun p x e => b.tup p x (a.tup p x e), fun p o u e => b.frz p o u (a.frz p o u e)⟩
theorem TK.of {H H' : Hp} (k : Kept [] H H') : TK H H' := ⟨fun b x e => k b _ e (by simp), fun b o u e => k b _ e (by simp)⟩
/-- what is neither a tuple nor known may be written -/
theorem TK.upd {H H' : Hp} {D : Addr} {u o : HO} (k : TK H H') (h : H' D = some u) (h1 : ∀ xs, u ≠ .tup xs) (h2 : ∀ o v, u ≠ .frz o v) : TK H (L2.upd H' D o) :=
  ⟨fun b x e => by
    have q := k.tup b x e
    rw [upd_ne (ne_of q h (fun z => h1 x z.symm))]
    exact q, fun b ob v e => by
    have q := k.frz b ob v e
    rw [upd_ne (ne_of q h (fun z => h2 ob v z.symm))]
    exact q⟩
theorem TK.updL {H H' : Hp} {D : Addr} {xs : List V} {o : HO} (k : TK H H') (h : H' D = some (.lst xs)) : TK H (L2.upd H' D o) := k.upd h (fun _ z => nomatch z) fun _ _ z => nomatch z
theorem TK.new {H H' : Hp} {D : Addr} {o : HO} (k : TK H H') (n : H' D = none) : TK H (L2.upd H' D o) :=
  ⟨fun b x e => by
    have q := k.tup b x e
    rw [upd_ne (ne_of_none q n)]
    exact q, fun b ob v e => by
    have q := k.frz b ob v e
    rw [upd_ne (ne_of_none q n)]
    exact q⟩
section
variable {K : PySem.W.Frag} {H H' : Hp} {a b : Addr} {xs ys : List V}
theorem sqT_tk (k : TK H H') (h : SqT K H a xs) : SqT K H' a xs := by
  rcases h with (h | ⟨o, h⟩) | h
  · exact .inl (.inl (k.tup _ _ h))
  · exact .inl (.inr ⟨o, k.frz _ _ _ h⟩)
  · exact .inr h
theorem sqL_kept (k : Kept [] H H') (h : SqL K H a xs) : SqL K H' a xs := by
  rcases h with (h | ⟨o, h⟩) | h
  · exact .inl (.inl (k _ _ h (by simp)))
  · exact .inl (.inr ⟨o, k _ _ h (by simp)⟩)
  · exact .inr h
end
def SayAt (K : PySem.W.Frag) (H : Hp) (v : V) (s : Say) : Prop := ∃ a, v = .ref a ∧ SqT K H a (s.ws.map V.str)
def OSayAt (K : PySem.W.Frag) (H : Hp) (v : V) : Option Say → Prop
  | none => v = .non
  | some s => SayAt K H v s
def LeadAt (K : PySem.W.Frag) (H : Hp) (v : V) (l : Lead) : Prop := ∃ q v1 v2 v3, v = .ref q ∧ H q = some (.tup [v1, v2, v3]) ∧ SayAt K H v1 l.1 ∧ OSayAt K H v2 l.2.1 ∧ SayAt K H v3 l.2.2
def LeadsAt (K : PySem.W.Frag) (H : Hp) (p : Addr) (ls : List Lead) : Prop := ∃ vs, H p = some (.lst vs) ∧ Paired (LeadAt K H) vs ls
section
variable {K : PySem.W.Frag} {H H' : Hp} {v : V}
theorem SayAt.tk {s : Say} (k : TK H H') (h : SayAt K H v s) : SayAt K H' v s := let ⟨a, e, q⟩ := h; ⟨a, e, sqT_tk k q⟩
theorem OSayAt.tk {s : Option Say} (k : TK H H') (h : OSayAt K H v s) : OSayAt K H' v s := by
  cases s with
  | none => exact h
  | some s => exact SayAt.tk k h
theorem LeadAt.tk {l : Lead} (k : TK H H') (h : LeadAt K H v l) : LeadAt K H' v l := by
  obtain ⟨q, v1, v2, v3, e, h1, h2, h3, h4⟩ := h
  exact ⟨q, v1, v2, v3, e, k.tup _ _ h1, h2.tk k, h3.tk k, h4.tk k⟩
theorem LeadsAt.kept {p : Addr} {ls : List Lead} (k : Kept [] H H') (h : LeadsAt K H p ls) : LeadsAt K H' p ls := by
  obtain ⟨vs, h1, h2⟩ := h
  exact ⟨vs, k _ _ h1 (by simp), Paired.mapP h2 fun _ _ q => q.tk (.of k)⟩
end
/-! ### tuples of texts are compared -/
theorem dpStrs {K : PySem.W.Frag} {H : Hp} : ∀ ws : List Str, DpAll K H (ws.map V.str) (ws.map PyData.str)
  | [] => .nil
  | w :: ws => .cons (.str w) (dpStrs ws)
theorem eqvStrs : ∀ xs ys : List Str, PyData.eqvAll (xs.map PyData.str) (ys.map PyData.str) = decide (xs = ys)
  | [], [] => by simp [PyData.eqvAll]
  | [], _ :: _ => by simp [PyData.eqvAll]
  | _ :: _, [] => by simp [PyData.eqvAll]
  | x :: xs, y :: ys => by
    rw [List.map_cons, List.map_cons, PyData.eqvAll, eqvStrs xs ys]
    by_cases h : x = y <;> by_cases h2 : xs = ys <;> simp [PyData.eqv, h, h2]
theorem shapedStrs {ws : List Str} (h : okW ws) : SeqAt.shaped (.tuple (ws.map PyData.str)) = true := by
  have h1 : ∀ l : List Str, l.all PyData.strOk = true → PyData.canLayAll0 (l.map PyData.str) = true := by
    intro l
    induction l with
    | nil => intro _; simp [PyData.canLayAll0]
    | cons w l ih =>
      intro h
      rw [List.all_cons, Bool.and_eq_true] at h
      rw [List.map_cons, PyData.canLayAll0, ih h.2, PyData.canLay0, h.1]
      rfl
  have h2 : ∀ l : List Str, PyData.depthAll (l.map PyData.str) = 0 := by
    intro l
    induction l with
    | nil => simp [PyData.depthAll]
    | cons w l ih => simp [PyData.depthAll, PyData.depth, ih]
  unfold SeqAt.shaped
  rw [PyData.canLay0, h1 ws h, PyData.depth, h2]
  rfl
section
variable {K : PySem.W.Frag} {H : Hp} {Q : VK}
theorem rd_eqW {a b : Addr} {xs ys : List Str} (ha : SqT K H a (xs.map V.str)) (hb : SqT K H b (ys.map V.str)) (ox : okW xs) (oy : okW ys) (q : Q (.bl (decide (xs = ys))) H) : rEqD K (.ref a) (.ref b) H Q := by
  refine ⟨_, _, .tup ha (dpStrs xs), .tup hb (dpStrs ys), shapedStrs ox, shapedStrs oy, ?_⟩
  rw [PyData.eqv, eqvStrs]
  exact q
theorem rd_neW {a b : Addr} {xs ys : List Str} (ha : SqT K H a (xs.map V.str)) (hb : SqT K H b (ys.map V.str)) (ox : okW xs) (oy : okW ys) (q : Q (.bl (!decide (xs = ys))) H) : rNeD K (.ref a) (.ref b) H Q := by
  refine ⟨_, _, .tup ha (dpStrs xs), .tup hb (dpStrs ys), shapedStrs ox, shapedStrs oy, ?_⟩
  rw [PyData.eqv, eqvStrs]
  exact q
theorem say_dec (s t : Say) : decide (s.ws = t.ws) = decide (s = t) := by
  by_cases h : s = t
  · rw [decide_eq_true h, decide_eq_true (by rw [h])]
  · rw [decide_eq_false h, decide_eq_false fun z => h (Say.inj z)]
theorem rd_eqS {v u : V} {s t : Say} (hv : SayAt K H v s) (hu : SayAt K H u t) (os : okW s.ws) (ot : okW t.ws) (q : Q (.bl (decide (s = t))) H) : rEqD K v u H Q := by
  obtain ⟨a, rfl, ha⟩ := hv
  obtain ⟨b, rfl, hb⟩ := hu
  refine rd_eqW ha hb os ot ?_
  rw [say_dec]
  exact q
theorem rd_neS {v u : V} {s : Say} {t : Option Say} (hv : SayAt K H v s) (hu : OSayAt K H u t) (os : okW s.ws) (ot : ∀ x, t = some x → okW x.ws) (q : Q (.bl (!decide (t = some s))) H) : rNeD K v u H Q := by
  obtain ⟨a, rfl, ha⟩ := hv
  cases t with
  | none =>
    obtain rfl : u = .non := hu
    refine ⟨_, _, .tup ha (dpStrs _), .non, shapedStrs os, rfl, ?_⟩
    have e : PyData.eqv (.tuple (s.ws.map PyData.str)) .none = false := by simp [PyData.eqv]
    rw [e]
    exact q
  | some t =>
    obtain ⟨b, rfl, hb⟩ := hu
    refine rd_neW ha hb os (ot t rfl) ?_
    rw [say_dec]
    have e : decide (s = t) = decide (some t = some s) := by
      by_cases h : s = t
      · rw [decide_eq_true h, decide_eq_true (by rw [h])]
      · rw [decide_eq_false h, decide_eq_false fun z => h (Option.some.inj z).symm]
    rw [e]
    exact q
end
theorem none_of {H Ha : Hp} {p : Addr} (k : Kept [] H Ha) (n : Ha p = none) : H p = none := by
  cases e : H p with
  | none => rfl
  | some o =>
    rw [k p o e (by simp)] at n
    cases n
/-! ### displays of leads -/
/-- arguments' values, from H0 on -/
def ValB (t : TA) (σ : L2.St) (H0 : Hp) (vs : List V) : Prop := ∀ H (Q : List V → Hp → Prop), Kept [] H0 H → Q vs H → t σ H Q
section
variable {K : PySem.W.Frag} {σ : L2.St} {H0 : Hp} {t : TA} {vs : List V} {i : Nat}
theorem valB_nil : ValB tNil σ H0 [] := fun _ _ _ h => h
theorem valB_str {z : Str} (h : ValB t σ H0 vs) : ValB (tCons (tC (.str z)) t) σ H0 (.str z :: vs) := fun H Q k q => h H _ k q
theorem valB_var {v : V} (e : σ[i]? = some (some v)) (h : ValB t σ H0 vs) : ValB (tCons (tVar i) t) σ H0 (v :: vs) := fun H Q k q => ⟨v, e, h H _ k q⟩
theorem valB_ix {a : Addr} {xs : List V} {c : Int} {j : Nat} {v : V} (e : σ[i]? = some (some (.ref a))) (hs : SqT K H0 a xs) (ec : c = (j : Int)) (ev : xs[j]? = some v) (h : ValB t σ H0 vs) : ValB (tCons (tOp (rIxT K) (tVar i) (tC (.int c))) t) σ H0 (v :: vs) :=
  fun H Q k q => ⟨_, e, a, xs, c, v, rfl, rfl, sqT_tk (.of k) hs, at_of ec ev, h H _ k q⟩
/-- a saying, or None -/
def MkV (K : PySem.W.Frag) (te : TE) (σ : L2.St) (H0 : Hp) (os : Option Say) : Prop := ∀ H (Q : VK), Kept [] H0 H → (∀ v H', Kept [] H H' → OSayAt K H' v os → Q v H') → te σ H Q
theorem mk_var {v : V} {os : Option Say} (e : σ[i]? = some (some v)) (h : OSayAt K H0 v os) : MkV K (tVar i) σ H0 os := fun H Q k q => ⟨v, e, q v H (Kept.refl H) (h.tk (.of k))⟩
theorem mk_non : MkV K (tC .non) σ H0 none := fun H Q k q => q _ H (Kept.refl H) rfl
theorem mk_glob {c : Addr} {s : Say} (h : ∀ H, SqT K H c (s.ws.map V.str)) : MkV K (tC (.ref c)) σ H0 (some s) := fun H Q k q => q _ H (Kept.refl H) ⟨c, rfl, h H⟩
theorem mk_new {s : Say} (h : ValB t σ H0 (s.ws.map V.str)) : MkV K (tTup t) σ H0 (some s) := fun H Q k q => h H _ k ⟨by rw [List.length_map]; exact Nat.le_trans (show s.ws.length ≤ 10 by cases s <;> simp [Say.ws]) (by decide), fun p np =>
  q _ _ ((Kept.refl H).upd np) ⟨p, rfl, .inl (.of upd_same)⟩⟩
/-- a lead -/
def MkL (K : PySem.W.Frag) (te : TE) (σ : L2.St) (H0 : Hp) (l : Lead) : Prop := ∀ H (Q : VK), Kept [] H0 H → (∀ v H', Kept [] H H' → LeadAt K H' v l → Q v H') → te σ H Q
theorem mk_lead {e1 e2 e3 : TE} {l : Lead} (h1 : MkV K e1 σ H0 (some l.1)) (h2 : MkV K e2 σ H0 l.2.1) (h3 : MkV K e3 σ H0 (some l.2.2)) : MkL K (tTup (tCons e1 (tCons e2 (tCons e3 tNil)))) σ H0 l := fun H Q k q =>
  h1 H _ k fun v1 H1 k1 o1 => h2 H1 _ (k.trans k1) fun v2 H2 k2 o2 => h3 H2 _ ((k.trans k1).trans k2) fun v3 H3 k3 o3 => ⟨by show 3 ≤ sizeLine; decide, fun p np =>
    q _ _ (((k1.trans k2).trans k3).upd np) ⟨p, v1, v2, v3, rfl, upd_same, (o1.tk (.of (k2.trans k3))).tk (TK.new (TK.refl _) np), (o2.tk (.of k3)).tk (TK.new (TK.refl _) np), o3.tk (TK.new (TK.refl _) np)⟩⟩
/-- [lead] -/
theorem mk_one {te : TE} {l : Lead} {H : Hp} {Q : VK} (h : MkL K te σ H0 l) (k : Kept [] H0 H) (q : ∀ p H', Kept [] H H' → H p = none → LeadsAt K H' p [l] → Q (.ref p) H') : tLst (tCons te tNil) σ H Q :=
  h H _ k fun v H1 k1 o1 => ⟨by show 1 ≤ sizeLine; decide, fun p np => q p _ (k1.upd np) (none_of k1 np) ⟨[v], upd_same, .cons (o1.tk (TK.new (TK.refl _) np)) .nil⟩⟩
/-- [] -/
theorem mk_none {H : Hp} {Q : VK} (q : ∀ p H', Kept [] H H' → H p = none → LeadsAt K H' p [] → Q (.ref p) H') : tLst tNil σ H Q :=
  ⟨by show 0 ≤ sizeLine; decide, fun p np => q p _ ((Kept.refl H).upd np) np ⟨[], upd_same, .nil⟩⟩
end
end Ah
end
section
set_option Elab.async false
set_option linter.all false
set_option maxRecDepth 100000
set_option maxHeartbeats 2000000
namespace Ah
open PySem PySem.Spec PyProof.Rows L2
/-- [a lead for name in names] -/
theorem rd_lcLeads {K : PySem.W.Frag} {σ : L2.St} {H : Hp} {Q : VK} {i j : Nat} {te : TE} {vs : List Nat} {na : Addr} {ns : List Str} {f : Str → Lead} (hσ : σ[i]? = some (some (.ref na))) (hs : SqL K H na (ns.map V.str)) (hl : ns.length ≤ 1000)
    (hw : ∀ v, wipe ((wipe σ vs).set j (some v)) vs = wipe σ vs) (he : ∀ x ∈ ns, MkL K te ((wipe σ vs).set j (some (.str x))) H (f x))
    (q : ∀ p H', Kept [] H H' → H p = none → LeadsAt K H' p (ns.map f) → Q (.ref p) H') : tLc (iList K (tVar i)) (gName j) tYes te vs σ H Q := by
  refine ⟨_, hσ, na, rfl, ⟨_, hs⟩, fun D nD => ?_⟩
  refine lc_it (walk_list (K := K) (a := na) (xs := ns.map V.str)) (fun i Ha => ∃ us, Ha D = some (.lst us) ∧ Paired (LeadAt K Ha) us ((ns.take i).map f) ∧ Kept [] H Ha) ⟨[], upd_same, .nil, (Kept.refl H).upd nD⟩ (fun i Ha _ pv => sqL_kept pv.choose_spec.2.2 hs) ?_ ?_
  · rintro i x Ha0 Ha hi ⟨us, e1, r, kk⟩ ⟨rfl, ey⟩
    refine ⟨hw x, yes_if ?_⟩
    rw [List.getElem?_map] at ey
    obtain ⟨z, ez, rfl⟩ := Option.map_eq_some_iff.mp ey
    refine he z (List.mem_of_getElem? ez) Ha _ kk fun v H' k1 lv => ?_
    have lu : us.length ≤ 1000 := by
      rw [r.length, List.length_map, List.length_take]
      omega
    refine ⟨us, k1 _ _ e1 (by simp), Nat.lt_of_le_of_lt lu (by decide), us ++ [v], upd_same, ?_, kD_far nD (kk.trans k1)⟩
    have tk : TK Ha (upd H' D (.lst (us ++ [v]))) := (TK.of k1).updL (k1 _ _ e1 (by simp))
    have tk2 : TK H' (upd H' D (.lst (us ++ [v]))) := (TK.refl H').updL (k1 _ _ e1 (by simp))
    rw [List.take_add_one, ez, List.map_append]
    exact paired_app (Paired.mapP r fun _ _ q => q.tk tk) (.cons (lv.tk tk2) .nil)
  · rintro Ha ⟨us, e1, r, kk⟩
    rw [List.length_map, List.take_of_length_le (Nat.le_refl _)] at r
    exact q D Ha kk nD ⟨us, e1, r⟩
theorem gN_eq {i : Nat} {v : V} {σ : L2.St} {H : Hp} {Q : L2.St → Hp → Prop} : gName i v σ H Q = Q (σ.set i (some v)) H := rfl
/-! ### leads_on -/
def leadsOn (n t m : Str) (names : List Str) : List Lead :=
  names.map (fun x => (Say.has n t m, some (Say.has m t x), Say.has n t x)) ++ names.map (fun x => (Say.has x t n, some (Say.has n t m), Say.has x t m))
theorem scOn : FnScope ["saying", "names", "_", "one", "tie", "other", "behind", "ahead", "name"] ["saying", "names"] (defScope sLOn) := ⟨rfl, rfl, rfl, by decide +kernel, rfl, by decide +kernel, by decide +kernel⟩
/-- saying, names -/
structure ArgsL (K : PySem.W.Frag) (H : Hp) (sv : V) (na : Addr) (s : Say) (names : List Str) : Prop where
  say : SayAt K H sv s
  ns : SqL K H na (names.map V.str)
  few : names.length ≤ 1000
theorem ArgsL.kept {K : PySem.W.Frag} {H H' : Hp} {sv : V} {na : Addr} {s : Say} {names : List Str} (k : Kept [] H H') (h : ArgsL K H sv na s names) : ArgsL K H' sv na s names := ⟨h.say.tk (.of k), sqL_kept k h.ns, h.few⟩
def spOn (K : PySem.W.Frag) : Sp := fun vs H Q _ => ∃ (sv : V) (na : Addr) (n t m : Str) (names : List Str), vs = [sv, .ref na] ∧ ArgsL K H sv na (.has n t m) names ∧ ∀ p H', Kept [] H H' → H p = none → LeadsAt K H' p (leadsOn n t m names) → Q (.ref p) H'
section
variable {P : Program} {w : World} {K : PySem.W.Frag} {mg : Str → Option Value} {base : Heap} {f : Addr} {fd : FuncData}
theorem ok_lon (F : FnP K "leads_on" sLOn f fd) : FnOk P w K mg base CX0 1 f fd ["saying", "names"] (spOn K) := by
  refine F.ok scOn (fun vs H Q E h => ?_) (fun cdv A outer s H vs Q E hr h => ?_)
  · obtain ⟨sv, na, n, t, m, names, rfl, _⟩ := h
    rfl
  · obtain ⟨sv, na, n, t, m, names, rfl, ⟨hsay, hns, hfew⟩, k⟩ := h
    refine ⟨_, PSs.nox (pss_cons (ps_asg (pv 0) (pg_tup rfl (pgs_cons (pg_name (i := 2) scOn.nd rfl (Or.inl rfl)) (pgs_cons (pg_name (i := 3) scOn.nd rfl (Or.inr rfl)) (pgs_cons (pg_name (i := 4) scOn.nd rfl (Or.inr rfl)) (pgs_cons (pg_name (i := 5) scOn.nd rfl (Or.inr rfl)) pgs_nil))))))
      (pss_cons (ps_setLc (i := 6) (own := [("name", 8)]) rfl scOn.nd rfl rfl (sw_true rfl rfl rfl (by decide +kernel)) (pi_list (pv 1)) (blkOk_by (N := ["saying", "names", "_", "one", "tie", "other", "behind", "ahead", "name"]) (sc := defScope sLOn) (by decide +kernel)) (fun _ _ _ _ _ => (pg_name (i := 8) scOn.nd rfl (Or.inl rfl))) (fun _ _ _ _ _ => pts_nil) (fun _ _ _ _ _ => (pe_tup (pa_cons (pv 0) (pa_cons (pe_tup (pa_cons pe_str (pa_cons (pv 5) (pa_cons (pv 4) (pa_cons (pv 8) pa_nil))))) (pa_cons (pe_tup (pa_cons pe_str (pa_cons (pv 3) (pa_cons (pv 4) (pa_cons (pv 8) pa_nil))))) pa_nil))))))
      (pss_cons (ps_setLc (i := 7) (own := [("name", 8)]) rfl scOn.nd rfl rfl (sw_true rfl rfl rfl (by decide +kernel)) (pi_list (pv 1)) (blkOk_by (N := ["saying", "names", "_", "one", "tie", "other", "behind", "ahead", "name"]) (sc := defScope sLOn) (by decide +kernel)) (fun _ _ _ _ _ => (pg_name (i := 8) scOn.nd rfl (Or.inl rfl))) (fun _ _ _ _ _ => pts_nil) (fun _ _ _ _ _ => (pe_tup (pa_cons (pe_tup (pa_cons pe_str (pa_cons (pv 8) (pa_cons (pv 4) (pa_cons (pv 3) pa_nil))))) (pa_cons (pv 0) (pa_cons (pe_tup (pa_cons pe_str (pa_cons (pv 8) (pa_cons (pv 4) (pa_cons (pv 5) pa_nil))))) pa_nil))))))
      (pss_one (ps_ret (pe_op op_cat (pv 6) (pv 7)))))) ), ?_⟩
    obtain ⟨sa, rfl, hsa⟩ := id hsay
    refine ⟨_, rfl, sa, _, rfl, hsa, rfl, ?_⟩
    refine ⟨_, _, rfl, _, _, rfl, _, _, rfl, _, _, rfl, rfl, ?_⟩
    dsimp only
    unfold tSeq tAsg
    dsimp only
    refine rd_lcLeads (f := fun x => (Say.has n t m, some (Say.has m t x), Say.has n t x)) rfl hns hfew (fun _ => rfl) (fun x hx => by exact mk_lead (mk_var rfl hsay) (mk_new (valB_str (valB_var rfl (valB_var rfl (valB_var rfl valB_nil))))) (mk_new (valB_str (valB_var rfl (valB_var rfl (valB_var rfl valB_nil)))))) fun p1 H1 k1 _ l1 => ?_
    rw [gN_eq]
    refine rd_lcLeads (f := fun x => (Say.has x t n, some (Say.has n t m), Say.has x t m)) rfl (sqL_kept k1 hns) hfew (fun _ => rfl) (fun x hx => by exact mk_lead (mk_new (valB_str (valB_var rfl (valB_var rfl (valB_var rfl valB_nil))))) (mk_var rfl (SayAt.tk (.of k1) hsay)) (mk_new (valB_str (valB_var rfl (valB_var rfl (valB_var rfl valB_nil)))))) fun p2 H2 k2 _ l2 => ?_
    obtain ⟨us1, e1, r1⟩ := l1.kept k2
    obtain ⟨us2, e2, r2⟩ := l2
    have z1 : us1.length = names.length := by rw [r1.length, List.length_map]
    have z2 : us2.length = names.length := by rw [r2.length, List.length_map]
    refine ⟨_, rfl, _, rfl, p1, p2, us1, us2, rfl, rfl, e1, e2, Nat.le_trans (show us1.length + us2.length ≤ 2000 by omega) (by decide), fun p np => ?_⟩
    have tk : TK H2 (upd H2 p (.lst (us1 ++ us2))) := (TK.refl H2).new np
    exact k p _ ((k1.trans k2).upd np) (none_of (k1.trans k2) np) ⟨us1 ++ us2, upd_same, paired_app (Paired.mapP r1 fun _ _ q => q.tk tk) (Paired.mapP r2 fun _ _ q => q.tk tk)⟩
end
end Ah
end
section
set_option Elab.async false
set_option linter.all false
set_option maxRecDepth 100000
set_option maxHeartbeats 4000000
namespace Ah
open PySem PySem.Spec PyProof.Rows L2
theorem if_no {p : Prop} [Decidable p] {A B : Prop} (h : ¬ p) (q : B) : if decide p = true then A else B := by rw [decide_eq_false h]; exact iteF q
theorem if_yes {p : Prop} [Decidable p] {A B : Prop} (h : p) (q : A) : if decide p = true then A else B := by rw [decide_eq_true h]; exact iteT q
theorem if_dec {p : Prop} [Decidable p] {A B : Prop} (h1 : p → A) (h2 : ¬ p → B) : if decide p = true then A else B := by
  by_cases h : p
  · exact if_yes h (h1 h)
  · exact if_no h (h2 h)
theorem okW_tail {w : Str} {ws : List Str} (h : okW (w :: ws)) : okW ws := by
  unfold okW at h ⊢
  rw [List.all_cons, Bool.and_eq_true] at h
  exact h.2
/-- row[1:] -/
theorem rd_tail {K : PySem.W.Frag} {σ : L2.St} {H : Hp} {Q : VK} {i : Nat} {ra : Addr} {h : V} {rest : List V} (hσ : σ[i]? = some (some (.ref ra))) (hr : SqT K H ra (h :: rest)) (q : ∀ p, H p = none → Q (.ref p) (upd H p (.tup rest))) :
    tSl (rSlT K) (tVar i) (tPart (tC (.int 1))) tNoPart σ H Q := by
  refine ⟨_, hσ, 1, rfl, ra, _, rfl, hr, fun z => ?_, fun p np => ?_⟩
  · have h1 : HT.sIx (h :: rest).length 0 (some 1) = 1 := by
      rw [show (1 : Int) = ((1 : Nat) : Int) from rfl, HT.sIx_nat, List.length_cons]
      omega
    have h2 := z.1
    rw [h1] at h2
    cases h2
  · rw [cut_tail]
    exact q p np
theorem mk_if {K : PySem.W.Frag} {σ : L2.St} {H0 : Hp} {tt : TT} {ta tb : TE} {os : Option Say} {b : Bool} (ht : ∀ H (Q : Bool → Hp → Prop), Kept [] H0 H → Q b H → tt σ H Q) (ha : b = true → MkV K ta σ H0 os) (hb : b = false → MkV K tb σ H0 os) : MkV K (tIf tt ta tb) σ H0 os := by
  intro H Q k q
  refine ht H _ k ?_
  cases b with
  | true => exact iteT (ha rfl H Q k q)
  | false => exact iteF (hb rfl H Q k q)
theorem mk_ifEq {K : PySem.W.Frag} {σ : L2.St} {H0 : Hp} {ta tb : TE} {os : Option Say} {i j : Nat} {x y : Str} (hi : σ[i]? = some (some (.str x))) (hj : σ[j]? = some (some (.str y))) (ha : x = y → MkV K ta σ H0 os) (hb : ¬ x = y → MkV K tb σ H0 os) :
    MkV K (tIf (tTest (tOp rEq (tVar i) (tVar j))) ta tb) σ H0 os := by
  refine mk_if (b := decide (x = y)) (fun H Q _ q => ⟨_, hi, _, hj, rfl, _, rfl, ?_⟩) (fun h => ha (of_decide_eq_true h)) fun h => hb (of_decide_eq_false h)
  have e : decide (V.str x = V.str y) = decide (x = y) := by
    by_cases h : x = y
    · rw [decide_eq_true h, decide_eq_true (by rw [h])]
    · rw [decide_eq_false h, decide_eq_false fun z => h (V.str.inj z)]
  rw [e]
  exact q
/-! ### leads_from_kind -/
def leadsKind (r : Rw) (n k : Str) (names : List Str) : List Lead :=
  match r with
  | .isnt n' k' => if [n', k'] = [n, k] then [(.is n k, none, .clash)] else []
  | .no k1 k2 => if k ∈ [k1, k2] then [(.is n k, if (if k1 = k then k2 else k1) = k then none else some (.is n (if k1 = k then k2 else k1)), .clash)] else []
  | .all k1 l => if k1 = k then [(.is n k, none, .is n l)] else []
  | .each k1 t m => if k1 = k then [(.is n k, none, .has n t m)] else []
  | .who t k1 l => if k1 = k then names.map (fun x => (Say.has x t n, some (Say.is n k), Say.is x l)) else []
  | _ => []
theorem scLK : FnScope ["row", "saying", "names", "_", "one", "kind", "word", "other", "name"] ["row", "saying", "names"] (defScope sLKind) := ⟨rfl, rfl, rfl, by decide +kernel, rfl, by decide +kernel, by decide +kernel⟩
def RowAt (K : PySem.W.Frag) (H : Hp) (ra : Addr) (r : Rw) : Prop := SqT K H ra (r.ws.map V.str)
def spLK (K : PySem.W.Frag) : Sp := fun vs H Q _ => ∃ (ra : Addr) (sv : V) (na : Addr) (r : Rw) (n k : Str) (names : List Str), vs = [.ref ra, sv, .ref na] ∧ RowAt K H ra r ∧ okW r.ws ∧ okW (Say.is n k).ws ∧ ArgsL K H sv na (.is n k) names ∧
  ∀ p H', Kept [] H H' → H p = none → LeadsAt K H' p (leadsKind r n k names) → Q (.ref p) H'
structure TClash (K : PySem.W.Frag) (mg : Str → Option Value) (cl : Addr) : Prop where
  g : mg "CLASH" = some (.ref cl)
  val : ∀ H, SqT K H cl ((Say.clash).ws.map V.str)
section
variable {P : Program} {w : World} {K : PySem.W.Frag} {mg : Str → Option Value} {base : Heap} {f cl : Addr} {fd : FuncData}
theorem ok_lkind (F : FnP K "leads_from_kind" sLKind f fd) (C : TClash K mg cl) : FnOk P w K mg base CX0 1 f fd ["row", "saying", "names"] (spLK K) := by
  refine F.ok scLK (fun vs H Q E h => ?_) (fun cdv A outer s H vs Q E hr h => ?_)
  · obtain ⟨ra, sv, na, r, n, k, names, rfl, _⟩ := h
    rfl
  · obtain ⟨ra, sv, na, r, n, k, names, rfl, hrow, okr, oks, ⟨hsay, hns, hfew⟩, q⟩ := h
    have gCl := C.g
    refine ⟨_, PSs.nox (pss_cons (ps_asg (pv 1) (pg_tup rfl (pgs_cons (pg_name (i := 3) scLK.nd rfl (Or.inl rfl)) (pgs_cons (pg_name (i := 4) scLK.nd rfl (Or.inr rfl)) (pgs_cons (pg_name (i := 5) scLK.nd rfl (Or.inl rfl)) pgs_nil)))))
      (pss_cons (ps_set (i := 6) scLK.nd rfl (.inl rfl) (pe_ix ix_tup (pv 0) pe_int (fun _ _ => rfl)))
      (pss_cons (ps_if (PW.pt (pw_and (pt_cmpR op_eq (pv 6) pe_str (nomark _)) (pw_and1 (pt_cmpR (op_eqD hr.units) (pe_slice sl_tup (pv 0) (po_some pe_int) po_none) (pe_tup (pa_cons (pv 4) (pa_cons (pv 5) pa_nil))) (nomark _))))) (pss_one (ps_ret (pe_lst (pa_cons (pe_tup (pa_cons (pv 1) (pa_cons pe_non (pa_cons (pe_glob (v := .ref cl) (by rfl) gCl rfl) pa_nil)))) pa_nil)))) pss_nil)
      (pss_cons (ps_if (PW.pt (pw_and (pt_cmpR op_eq (pv 6) pe_str (nomark _)) (pw_and1 (pt_cmpR op_in_seq (pv 5) (pe_slice sl_tup (pv 0) (po_some pe_int) po_none) (by rfl))))) (pss_cons (ps_set (i := 7) scLK.nd rfl (.inl rfl) (pe_ifExp (pt_cmpR op_eq (pe_ix ix_tup (pv 0) pe_int (fun _ _ => rfl)) (pv 5) (nomark _)) (pe_ix ix_tup (pv 0) pe_int (fun _ _ => rfl)) (pe_ix ix_tup (pv 0) pe_int (fun _ _ => rfl))))
      (pss_one (ps_ret (pe_lst (pa_cons (pe_tup (pa_cons (pv 1) (pa_cons (pe_ifExp (pt_cmpR op_eq (pv 7) (pv 5) (nomark _)) pe_non (pe_tup (pa_cons pe_str (pa_cons (pv 4) (pa_cons (pv 7) pa_nil))))) (pa_cons (pe_glob (v := .ref cl) (by rfl) gCl rfl) pa_nil)))) pa_nil))))) pss_nil)
      (pss_cons (ps_if (PW.pt (pw_and (pt_cmpR op_eq (pv 6) pe_str (nomark _)) (pw_and1 (pt_cmpR op_eq (pe_ix ix_tup (pv 0) pe_int (fun _ _ => rfl)) (pv 5) (nomark _))))) (pss_one (ps_ret (pe_lst (pa_cons (pe_tup (pa_cons (pv 1) (pa_cons pe_non (pa_cons (pe_tup (pa_cons pe_str (pa_cons (pv 4) (pa_cons (pe_ix ix_tup (pv 0) pe_int (fun _ _ => rfl)) pa_nil)))) pa_nil)))) pa_nil)))) pss_nil)
      (pss_cons (ps_if (PW.pt (pw_and (pt_cmpR op_eq (pv 6) pe_str (nomark _)) (pw_and1 (pt_cmpR op_eq (pe_ix ix_tup (pv 0) pe_int (fun _ _ => rfl)) (pv 5) (nomark _))))) (pss_one (ps_ret (pe_lst (pa_cons (pe_tup (pa_cons (pv 1) (pa_cons pe_non (pa_cons (pe_tup (pa_cons pe_str (pa_cons (pv 4) (pa_cons (pe_ix ix_tup (pv 0) pe_int (fun _ _ => rfl)) (pa_cons (pe_ix ix_tup (pv 0) pe_int (fun _ _ => rfl)) pa_nil))))) pa_nil)))) pa_nil)))) pss_nil)
      (pss_cons (ps_if (PW.pt (pw_and (pt_cmpR op_eq (pv 6) pe_str (nomark _)) (pw_and1 (pt_cmpR op_eq (pe_ix ix_tup (pv 0) pe_int (fun _ _ => rfl)) (pv 5) (nomark _))))) (pss_one (ps_ret (pe_lc (own := [("name", 8)]) rfl scLK.nd (pi_list (pv 2)) (blkOk_by (N := ["row", "saying", "names", "_", "one", "kind", "word", "other", "name"]) (sc := defScope sLKind) (by decide +kernel)) (fun _ _ _ _ _ => (pg_name (i := 8) scLK.nd rfl (Or.inl rfl))) (fun _ _ _ _ _ => pts_nil) (fun _ _ _ _ _ => (pe_tup (pa_cons (pe_tup (pa_cons pe_str (pa_cons (pv 8) (pa_cons (pe_ix (show IxR _ (rIxT K) from ix_tup) (pv 0) pe_int (fun _ _ => rfl)) (pa_cons (pv 4) pa_nil))))) (pa_cons (pv 1) (pa_cons (pe_tup (pa_cons pe_str (pa_cons (pv 8) (pa_cons (pe_ix (show IxR _ (rIxT K) from ix_tup) (pv 0) pe_int (fun _ _ => rfl)) pa_nil)))) pa_nil)))))))) pss_nil)
      (pss_one (ps_ret (pe_lst pa_nil)))))))))), ?_⟩
    obtain ⟨sa, rfl, hsa⟩ := id hsay
    refine ⟨_, rfl, sa, _, rfl, hsa, rfl, ?_⟩
    refine ⟨_, _, rfl, _, _, rfl, _, _, rfl, rfl, ?_⟩
    unfold RowAt at hrow
    have nil : ∀ H', Kept [] H H' → leadsKind r n k names = [] → tLst tNil [] H' Q := fun H' kk e => mk_none (K := K) fun p H2 k2 n2 l2 => q p H2 (kk.trans k2) (none_of kk n2) (by rw [e]; exact l2)
    cases r with
    | is a b =>
      refine ⟨_, rfl, ra, _, 0, _, rfl, rfl, hrow, at_of (j := 0) rfl rfl, ?_⟩
      (refine ⟨_, rfl, rfl, _, rfl, if_no (by decide +kernel) (iteF ?_)⟩)
      (refine ⟨_, rfl, rfl, _, rfl, if_no (by decide +kernel) (iteF ?_)⟩)
      (refine ⟨_, rfl, rfl, _, rfl, if_no (by decide +kernel) (iteF ?_)⟩)
      (refine ⟨_, rfl, rfl, _, rfl, if_no (by decide +kernel) (iteF ?_)⟩)
      (refine ⟨_, rfl, rfl, _, rfl, if_no (by decide +kernel) (iteF ?_)⟩)
      exact nil H (Kept.refl H) rfl
    | isnt a b =>
      refine ⟨_, rfl, ra, _, 0, _, rfl, rfl, hrow, at_of (j := 0) rfl rfl, ?_⟩
      (refine ⟨_, rfl, rfl, _, rfl, if_yes (by decide +kernel) ?_⟩)
      refine rd_tail rfl hrow fun p np => ?_
      refine ⟨_, rfl, _, rfl, (by show 2 ≤ sizeLine; decide), fun p2 np2 => ?_⟩
      have k2 := ((Kept.refl (M := []) H).upd (o := .tup [V.str a, V.str b]) np).upd (o := .tup [V.str n, V.str k]) np2
      refine rd_eqW (xs := [a, b]) (ys := [n, k]) (.inl (.of (by rw [upd_ne (ne_of_none upd_same np2)]; exact upd_same))) (.inl (.of upd_same)) (okW_tail okr) (okW_tail oks) ?_
      refine ⟨_, rfl, if_dec (fun e => ?_) (fun e => ?_)⟩
      · refine mk_one (l := (.is n k, none, .clash)) (mk_lead (mk_var rfl hsay) mk_non (mk_glob C.val)) k2 fun p H2 k3 n3 l3 => q p H2 (k2.trans k3) (none_of k2 n3) ?_
        have e2 : leadsKind (.isnt a b) n k names = [(.is n k, none, .clash)] := if_pos e
        rw [e2]
        exact l3
      · (refine ⟨_, rfl, rfl, _, rfl, if_no (by decide +kernel) (iteF ?_)⟩)
        (refine ⟨_, rfl, rfl, _, rfl, if_no (by decide +kernel) (iteF ?_)⟩)
        (refine ⟨_, rfl, rfl, _, rfl, if_no (by decide +kernel) (iteF ?_)⟩)
        (refine ⟨_, rfl, rfl, _, rfl, if_no (by decide +kernel) (iteF ?_)⟩)
        exact nil _ k2 (if_neg e)
    | has a b c =>
      refine ⟨_, rfl, ra, _, 0, _, rfl, rfl, hrow, at_of (j := 0) rfl rfl, ?_⟩
      (refine ⟨_, rfl, rfl, _, rfl, if_no (by decide +kernel) (iteF ?_)⟩)
      (refine ⟨_, rfl, rfl, _, rfl, if_no (by decide +kernel) (iteF ?_)⟩)
      (refine ⟨_, rfl, rfl, _, rfl, if_no (by decide +kernel) (iteF ?_)⟩)
      (refine ⟨_, rfl, rfl, _, rfl, if_no (by decide +kernel) (iteF ?_)⟩)
      (refine ⟨_, rfl, rfl, _, rfl, if_no (by decide +kernel) (iteF ?_)⟩)
      exact nil H (Kept.refl H) rfl
    | hasnt a b c =>
      refine ⟨_, rfl, ra, _, 0, _, rfl, rfl, hrow, at_of (j := 0) rfl rfl, ?_⟩
      (refine ⟨_, rfl, rfl, _, rfl, if_no (by decide +kernel) (iteF ?_)⟩)
      (refine ⟨_, rfl, rfl, _, rfl, if_no (by decide +kernel) (iteF ?_)⟩)
      (refine ⟨_, rfl, rfl, _, rfl, if_no (by decide +kernel) (iteF ?_)⟩)
      (refine ⟨_, rfl, rfl, _, rfl, if_no (by decide +kernel) (iteF ?_)⟩)
      (refine ⟨_, rfl, rfl, _, rfl, if_no (by decide +kernel) (iteF ?_)⟩)
      exact nil H (Kept.refl H) rfl
    | all a b =>
      refine ⟨_, rfl, ra, _, 0, _, rfl, rfl, hrow, at_of (j := 0) rfl rfl, ?_⟩
      (refine ⟨_, rfl, rfl, _, rfl, if_no (by decide +kernel) (iteF ?_)⟩)
      (refine ⟨_, rfl, rfl, _, rfl, if_no (by decide +kernel) (iteF ?_)⟩)
      (refine ⟨_, rfl, rfl, _, rfl, if_yes (by decide +kernel) ?_⟩)
      refine ⟨_, rfl, ra, _, 1, _, rfl, rfl, hrow, at_of (j := 1) rfl rfl, _, rfl, rfl, ?_⟩
      refine ⟨_, rfl, if_dec (fun e => ?_) (fun e => ?_)⟩
      · have e2 : leadsKind (.all a b) n k names = [(.is n k, none, .is n b)] := if_pos (V.str.inj e)
        refine mk_one (l := (.is n k, none, .is n b)) (mk_lead (mk_var rfl hsay) mk_non (mk_new (s := .is n b) (valB_str (valB_var rfl (valB_ix rfl hrow (j := 2) rfl rfl valB_nil))))) (Kept.refl H) fun p H2 k3 n3 l3 => q p H2 k3 n3 ?_
        rw [e2]
        exact l3
      · (refine ⟨_, rfl, rfl, _, rfl, if_no (by decide +kernel) (iteF ?_)⟩)
        (refine ⟨_, rfl, rfl, _, rfl, if_no (by decide +kernel) (iteF ?_)⟩)
        exact nil H (Kept.refl H) (if_neg fun z => e (by rw [z]))
    | no a b =>
      refine ⟨_, rfl, ra, _, 0, _, rfl, rfl, hrow, at_of (j := 0) rfl rfl, ?_⟩
      (refine ⟨_, rfl, rfl, _, rfl, if_no (by decide +kernel) (iteF ?_)⟩)
      (refine ⟨_, rfl, rfl, _, rfl, if_yes (by decide +kernel) ?_⟩)
      refine ⟨_, rfl, rd_tail rfl hrow fun p np => ?_⟩
      have k1 := (Kept.refl (M := []) H).upd (o := .tup [V.str a, V.str b]) np
      refine ⟨p, _, rfl, .inr (.inl (.of upd_same)), rfl, rfl, ?_⟩
      have ei : inV (V.str k) ([a, b].map V.str) = decide (k ∈ [a, b]) := by
        show ((a == k) || ((b == k) || false)) = _
        by_cases h1 : a = k <;> by_cases h2 : b = k <;> simp [h1, h2, show ¬ k = a ↔ ¬ a = k from ⟨fun h e => h e.symm, fun h e => h e.symm⟩, Ne.symm]
      simp only [Bool.false_eq_true, if_false]
      rw [ei]
      have hrow1 := sqT_tk (TK.of k1) hrow
      refine ⟨_, rfl, if_dec (fun e => ?_) (fun e => ?_)⟩
      · have e2 : leadsKind (.no a b) n k names = [(.is n k, if (if a = k then b else a) = k then none else some (.is n (if a = k then b else a)), .clash)] := if_pos e
        rw [e2] at q
        clear e2
        refine ⟨_, rfl, ra, _, 1, _, rfl, rfl, hrow1, at_of (j := 1) rfl rfl, _, rfl, rfl, ?_⟩
        refine ⟨_, rfl, if_dec (fun e1 => ?_) (fun e1 => ?_)⟩
        · rw [if_pos (V.str.inj e1)] at q
          refine ⟨_, rfl, ra, _, 2, _, rfl, rfl, hrow1, at_of (j := 2) rfl rfl, ?_⟩
          refine mk_one (l := (.is n k, if b = k then none else some (.is n b), .clash)) (mk_lead (mk_var rfl hsay) (mk_ifEq (x := b) (y := k) rfl rfl (fun h => by rw [if_pos h]; exact mk_non) (fun h => by rw [if_neg h]; exact mk_new (s := .is n b) (valB_str (valB_var rfl (valB_var rfl valB_nil))))) (mk_glob C.val)) k1 fun p H2 k3 n3 l3 => q p H2 (k1.trans k3) (none_of k1 n3) l3
        · rw [show (if a = k then b else a) = a from if_neg fun z => e1 (by rw [z])] at q
          refine ⟨_, rfl, ra, _, 1, _, rfl, rfl, hrow1, at_of (j := 1) rfl rfl, ?_⟩
          refine mk_one (l := (.is n k, if a = k then none else some (.is n a), .clash)) (mk_lead (mk_var rfl hsay) (mk_ifEq (x := a) (y := k) rfl rfl (fun h => by rw [if_pos h]; exact mk_non) (fun h => by rw [if_neg h]; exact mk_new (s := .is n a) (valB_str (valB_var rfl (valB_var rfl valB_nil))))) (mk_glob C.val)) k1 fun p H2 k3 n3 l3 => q p H2 (k1.trans k3) (none_of k1 n3) l3
      · (refine ⟨_, rfl, rfl, _, rfl, if_no (by decide +kernel) (iteF ?_)⟩)
        (refine ⟨_, rfl, rfl, _, rfl, if_no (by decide +kernel) (iteF ?_)⟩)
        (refine ⟨_, rfl, rfl, _, rfl, if_no (by decide +kernel) (iteF ?_)⟩)
        exact nil _ k1 (if_neg e)
    | each a b c =>
      refine ⟨_, rfl, ra, _, 0, _, rfl, rfl, hrow, at_of (j := 0) rfl rfl, ?_⟩
      (refine ⟨_, rfl, rfl, _, rfl, if_no (by decide +kernel) (iteF ?_)⟩)
      (refine ⟨_, rfl, rfl, _, rfl, if_no (by decide +kernel) (iteF ?_)⟩)
      (refine ⟨_, rfl, rfl, _, rfl, if_no (by decide +kernel) (iteF ?_)⟩)
      (refine ⟨_, rfl, rfl, _, rfl, if_yes (by decide +kernel) ?_⟩)
      refine ⟨_, rfl, ra, _, 1, _, rfl, rfl, hrow, at_of (j := 1) rfl rfl, _, rfl, rfl, ?_⟩
      refine ⟨_, rfl, if_dec (fun e => ?_) (fun e => ?_)⟩
      · have e2 : leadsKind (.each a b c) n k names = [(.is n k, none, .has n b c)] := if_pos (V.str.inj e)
        refine mk_one (l := (.is n k, none, .has n b c)) (mk_lead (mk_var rfl hsay) mk_non (mk_new (s := .has n b c) (valB_str (valB_var rfl (valB_ix rfl hrow (j := 2) rfl rfl (valB_ix rfl hrow (j := 3) rfl rfl valB_nil)))))) (Kept.refl H) fun p H2 k3 n3 l3 => q p H2 k3 n3 ?_
        rw [e2]
        exact l3
      · (refine ⟨_, rfl, rfl, _, rfl, if_no (by decide +kernel) (iteF ?_)⟩)
        exact nil H (Kept.refl H) (if_neg fun z => e (by rw [z]))
    | who a b c =>
      refine ⟨_, rfl, ra, _, 0, _, rfl, rfl, hrow, at_of (j := 0) rfl rfl, ?_⟩
      (refine ⟨_, rfl, rfl, _, rfl, if_no (by decide +kernel) (iteF ?_)⟩)
      (refine ⟨_, rfl, rfl, _, rfl, if_no (by decide +kernel) (iteF ?_)⟩)
      (refine ⟨_, rfl, rfl, _, rfl, if_no (by decide +kernel) (iteF ?_)⟩)
      (refine ⟨_, rfl, rfl, _, rfl, if_no (by decide +kernel) (iteF ?_)⟩)
      (refine ⟨_, rfl, rfl, _, rfl, if_yes (by decide +kernel) ?_⟩)
      refine ⟨_, rfl, ra, _, 2, _, rfl, rfl, hrow, at_of (j := 2) rfl rfl, _, rfl, rfl, ?_⟩
      refine ⟨_, rfl, if_dec (fun e => ?_) (fun e => ?_)⟩
      · have e2 : leadsKind (.who a b c) n k names = names.map (fun x => (Say.has x a n, some (Say.is n k), Say.is x c)) := if_pos (V.str.inj e)
        refine rd_lcLeads (f := fun x => (Say.has x a n, some (Say.is n k), Say.is x c)) rfl hns hfew (fun _ => rfl) (fun x hx => by exact mk_lead (mk_new (valB_str (valB_var rfl (valB_ix rfl hrow (j := 1) rfl rfl (valB_var rfl valB_nil))))) (mk_var rfl hsay) (mk_new (valB_str (valB_var rfl (valB_ix rfl hrow (j := 3) rfl rfl valB_nil))))) fun p1 H1 k1 n1 l1 => q p1 H1 k1 n1 ?_
        rw [e2]
        exact l1
      · exact nil H (Kept.refl H) (if_neg fun z => e (by rw [z]))
    | turned a b =>
      refine ⟨_, rfl, ra, _, 0, _, rfl, rfl, hrow, at_of (j := 0) rfl rfl, ?_⟩
      (refine ⟨_, rfl, rfl, _, rfl, if_no (by decide +kernel) (iteF ?_)⟩)
      (refine ⟨_, rfl, rfl, _, rfl, if_no (by decide +kernel) (iteF ?_)⟩)
      (refine ⟨_, rfl, rfl, _, rfl, if_no (by decide +kernel) (iteF ?_)⟩)
      (refine ⟨_, rfl, rfl, _, rfl, if_no (by decide +kernel) (iteF ?_)⟩)
      (refine ⟨_, rfl, rfl, _, rfl, if_no (by decide +kernel) (iteF ?_)⟩)
      exact nil H (Kept.refl H) rfl
    | on a =>
      refine ⟨_, rfl, ra, _, 0, _, rfl, rfl, hrow, at_of (j := 0) rfl rfl, ?_⟩
      (refine ⟨_, rfl, rfl, _, rfl, if_no (by decide +kernel) (iteF ?_)⟩)
      (refine ⟨_, rfl, rfl, _, rfl, if_no (by decide +kernel) (iteF ?_)⟩)
      (refine ⟨_, rfl, rfl, _, rfl, if_no (by decide +kernel) (iteF ?_)⟩)
      (refine ⟨_, rfl, rfl, _, rfl, if_no (by decide +kernel) (iteF ?_)⟩)
      (refine ⟨_, rfl, rfl, _, rfl, if_no (by decide +kernel) (iteF ?_)⟩)
      exact nil H (Kept.refl H) rfl
    | fr a b =>
      refine ⟨_, rfl, ra, _, 0, _, rfl, rfl, hrow, at_of (j := 0) rfl rfl, ?_⟩
      (refine ⟨_, rfl, rfl, _, rfl, if_no (by decide +kernel) (iteF ?_)⟩)
      (refine ⟨_, rfl, rfl, _, rfl, if_no (by decide +kernel) (iteF ?_)⟩)
      (refine ⟨_, rfl, rfl, _, rfl, if_no (by decide +kernel) (iteF ?_)⟩)
      (refine ⟨_, rfl, rfl, _, rfl, if_no (by decide +kernel) (iteF ?_)⟩)
      (refine ⟨_, rfl, rfl, _, rfl, if_no (by decide +kernel) (iteF ?_)⟩)
      exact nil H (Kept.refl H) rfl
    | to a b =>
      refine ⟨_, rfl, ra, _, 0, _, rfl, rfl, hrow, at_of (j := 0) rfl rfl, ?_⟩
      (refine ⟨_, rfl, rfl, _, rfl, if_no (by decide +kernel) (iteF ?_)⟩)
      (refine ⟨_, rfl, rfl, _, rfl, if_no (by decide +kernel) (iteF ?_)⟩)
      (refine ⟨_, rfl, rfl, _, rfl, if_no (by decide +kernel) (iteF ?_)⟩)
      (refine ⟨_, rfl, rfl, _, rfl, if_no (by decide +kernel) (iteF ?_)⟩)
      (refine ⟨_, rfl, rfl, _, rfl, if_no (by decide +kernel) (iteF ?_)⟩)
      exact nil H (Kept.refl H) rfl
    | under a b =>
      refine ⟨_, rfl, ra, _, 0, _, rfl, rfl, hrow, at_of (j := 0) rfl rfl, ?_⟩
      (refine ⟨_, rfl, rfl, _, rfl, if_no (by decide +kernel) (iteF ?_)⟩)
      (refine ⟨_, rfl, rfl, _, rfl, if_no (by decide +kernel) (iteF ?_)⟩)
      (refine ⟨_, rfl, rfl, _, rfl, if_no (by decide +kernel) (iteF ?_)⟩)
      (refine ⟨_, rfl, rfl, _, rfl, if_no (by decide +kernel) (iteF ?_)⟩)
      (refine ⟨_, rfl, rfl, _, rfl, if_no (by decide +kernel) (iteF ?_)⟩)
      exact nil H (Kept.refl H) rfl
end
end Ah
end
section
set_option Elab.async false
set_option linter.all false
set_option maxRecDepth 100000
set_option maxHeartbeats 4000000
namespace Ah
open PySem PySem.Spec PyProof.Rows L2
theorem if_nd {p : Prop} [Decidable p] {A B : Prop} (h1 : ¬ p → A) (h2 : p → B) : if (!decide p) = true then A else B := by
  by_cases h : p
  · rw [decide_eq_true h]; exact iteF (h2 h)
  · rw [decide_eq_false h]; exact iteT (h1 h)
/-! ### leads_from_tie -/
def leadsTie (r : Rw) (n t m : Str) (names : List Str) : List Lead :=
  match r with
  | .hasnt a b c => if [a, b, c] = [n, t, m] then [(.has n t m, none, .clash)] else []
  | .on a => if a = t then leadsOn n t m names else []
  | .who a k l => if a = t then [(.has n t m, some (.is m k), .is n l)] else []
  | .turned a b => if a = t then [(.has n t m, none, .has m b n)] else []
  | .under a b => if a = t then [(.has n t m, none, .has n b m)] else []
  | .fr a k => if a = t then [(.has n t m, none, .is n k)] else []
  | .to a k => if a = t then [(.has n t m, none, .is m k)] else []
  | _ => []
theorem scTi : FnScope ["row", "saying", "names", "_", "one", "tie", "other", "word"] ["row", "saying", "names"] (defScope sLTie) := ⟨rfl, rfl, rfl, by decide +kernel, rfl, by decide +kernel, by decide +kernel⟩
theorem scBy : FnScope ["row", "saying", "names"] ["row", "saying", "names"] (defScope sLBy) := ⟨rfl, rfl, rfl, by decide +kernel, rfl, by decide +kernel, by decide +kernel⟩
def spLT (K : PySem.W.Frag) : Sp := fun vs H Q _ => ∃ (ra : Addr) (sv : V) (na : Addr) (r : Rw) (n t m : Str) (names : List Str), vs = [.ref ra, sv, .ref na] ∧ RowAt K H ra r ∧ okW r.ws ∧ okW (Say.has n t m).ws ∧ ArgsL K H sv na (.has n t m) names ∧
  ∀ p H', Kept [] H H' → H p = none → LeadsAt K H' p (leadsTie r n t m names) → Q (.ref p) H'
def leadsBy (r : Rw) (s : Say) (names : List Str) : List Lead :=
  match s with
  | .is n k => leadsKind r n k names
  | .has n t m => leadsTie r n t m names
  | .clash => []
def spBy (K : PySem.W.Frag) : Sp := fun vs H Q _ => ∃ (ra : Addr) (sv : V) (na : Addr) (r : Rw) (s : Say) (names : List Str), vs = [.ref ra, sv, .ref na] ∧ RowAt K H ra r ∧ okW r.ws ∧ okW s.ws ∧ ArgsL K H sv na s names ∧
  ∀ p H', Kept [] H H' → H p = none → LeadsAt K H' p (leadsBy r s names) → Q (.ref p) H'
section
variable {P : Program} {w : World} {K : PySem.W.Frag} {mg : Str → Option Value} {base : Heap} {f cl fO fK fT : Addr} {fd fdO fdK fdT : FuncData}
theorem ok_ltie (F : FnP K "leads_from_tie" sLTie f fd) (C : TClash K mg cl) (c_leads_on : Own P w K mg base "leads_on" 1 fO fdO ["saying", "names"] (spOn K)) : FnOk P w K mg base CX0 2 f fd ["row", "saying", "names"] (spLT K) := by
  refine F.ok scTi (fun vs H Q E h => ?_) (fun cdv A outer s H vs Q E hr h => ?_)
  · obtain ⟨ra, sv, na, r, n, t, m, names, rfl, _⟩ := h
    rfl
  · obtain ⟨ra, sv, na, r, n, t, m, names, rfl, hrow, okr, oks, ⟨hsay, hns, hfew⟩, q⟩ := h
    have gCl := C.g
    refine ⟨_, PSs.nox (pss_cons (ps_asg (pv 1) (pg_tup rfl (pgs_cons (pg_name (i := 3) scTi.nd rfl (Or.inl rfl)) (pgs_cons (pg_name (i := 4) scTi.nd rfl (Or.inl rfl)) (pgs_cons (pg_name (i := 5) scTi.nd rfl (Or.inl rfl)) (pgs_cons (pg_name (i := 6) scTi.nd rfl (Or.inl rfl)) pgs_nil))))))
      (pss_cons (ps_set (i := 7) scTi.nd rfl (.inl rfl) (pe_ix ix_tup (pv 0) pe_int (fun _ _ => rfl)))
      (pss_cons (ps_if (PW.pt (pw_and (pt_cmpR op_eq (pv 7) pe_str (nomark _)) (pw_and1 (pt_cmpR (op_eqD hr.units) (pe_slice sl_tup (pv 0) (po_some pe_int) po_none) (pe_tup (pa_cons (pv 4) (pa_cons (pv 5) (pa_cons (pv 6) pa_nil)))) (nomark _))))) (pss_one (ps_ret (pe_lst (pa_cons (pe_tup (pa_cons (pv 1) (pa_cons pe_non (pa_cons (pe_glob (v := .ref cl) (by rfl) gCl rfl) pa_nil)))) pa_nil)))) pss_nil)
      (pss_cons (ps_if (pt_cmpR op_ne (pe_ix ix_tup (pv 0) pe_int (fun _ _ => rfl)) (pv 5) (nomark _)) (pss_one (ps_ret (pe_lst pa_nil))) pss_nil)
      (pss_cons (ps_if (pt_cmpR op_eq (pv 7) pe_str (nomark _)) (pss_one (ps_ret (pe_call c_leads_on.ok hr (by rfl) c_leads_on.g c_leads_on.kp c_leads_on.b .nil pass0 (pa_cons (pv 1) (pa_cons (pv 2) pa_nil))))) pss_nil)
      (pss_cons (ps_if (pt_cmpR op_eq (pv 7) pe_str (nomark _)) (pss_one (ps_ret (pe_lst (pa_cons (pe_tup (pa_cons (pv 1) (pa_cons (pe_tup (pa_cons pe_str (pa_cons (pv 6) (pa_cons (pe_ix ix_tup (pv 0) pe_int (fun _ _ => rfl)) pa_nil)))) (pa_cons (pe_tup (pa_cons pe_str (pa_cons (pv 4) (pa_cons (pe_ix ix_tup (pv 0) pe_int (fun _ _ => rfl)) pa_nil)))) pa_nil)))) pa_nil)))) pss_nil)
      (pss_cons (ps_if (pt_cmpR op_eq (pv 7) pe_str (nomark _)) (pss_one (ps_ret (pe_lst (pa_cons (pe_tup (pa_cons (pv 1) (pa_cons pe_non (pa_cons (pe_tup (pa_cons pe_str (pa_cons (pv 6) (pa_cons (pe_ix ix_tup (pv 0) pe_int (fun _ _ => rfl)) (pa_cons (pv 4) pa_nil))))) pa_nil)))) pa_nil)))) pss_nil)
      (pss_cons (ps_if (pt_cmpR op_eq (pv 7) pe_str (nomark _)) (pss_one (ps_ret (pe_lst (pa_cons (pe_tup (pa_cons (pv 1) (pa_cons pe_non (pa_cons (pe_tup (pa_cons pe_str (pa_cons (pv 4) (pa_cons (pe_ix ix_tup (pv 0) pe_int (fun _ _ => rfl)) (pa_cons (pv 6) pa_nil))))) pa_nil)))) pa_nil)))) pss_nil)
      (pss_cons (ps_if (pt_cmpR op_eq (pv 7) pe_str (nomark _)) (pss_one (ps_ret (pe_lst (pa_cons (pe_tup (pa_cons (pv 1) (pa_cons pe_non (pa_cons (pe_tup (pa_cons pe_str (pa_cons (pv 4) (pa_cons (pe_ix ix_tup (pv 0) pe_int (fun _ _ => rfl)) pa_nil)))) pa_nil)))) pa_nil)))) pss_nil)
      (pss_cons (ps_if (pt_cmpR op_eq (pv 7) pe_str (nomark _)) (pss_one (ps_ret (pe_lst (pa_cons (pe_tup (pa_cons (pv 1) (pa_cons pe_non (pa_cons (pe_tup (pa_cons pe_str (pa_cons (pv 6) (pa_cons (pe_ix ix_tup (pv 0) pe_int (fun _ _ => rfl)) pa_nil)))) pa_nil)))) pa_nil)))) pss_nil)
      (pss_one (ps_ret (pe_lst pa_nil))))))))))))), ?_⟩
    obtain ⟨sa, rfl, hsa⟩ := id hsay
    refine ⟨_, rfl, sa, _, rfl, hsa, rfl, ?_⟩
    refine ⟨_, _, rfl, _, _, rfl, _, _, rfl, _, _, rfl, rfl, ?_⟩
    unfold RowAt at hrow
    have nil : ∀ H', Kept [] H H' → leadsTie r n t m names = [] → tLst tNil [] H' Q := fun H' kk e => mk_none (K := K) fun p H2 k2 n2 l2 => q p H2 (kk.trans k2) (none_of kk n2) (by rw [e]; exact l2)
    cases r with
    | is a b =>
      refine ⟨_, rfl, ra, _, 0, _, rfl, rfl, hrow, at_of (j := 0) rfl rfl, ?_⟩
      (refine ⟨_, rfl, rfl, _, rfl, if_no (by decide +kernel) (iteF ?_)⟩)
      refine ⟨_, rfl, ra, _, 1, _, rfl, rfl, hrow, at_of (j := 1) rfl rfl, _, rfl, rfl, _, rfl, if_nd (fun e => ?_) (fun e => ?_)⟩
      · exact nil H (Kept.refl H) rfl
      · (refine ⟨_, rfl, rfl, _, rfl, if_no (by decide +kernel) ?_⟩)
        (refine ⟨_, rfl, rfl, _, rfl, if_no (by decide +kernel) ?_⟩)
        (refine ⟨_, rfl, rfl, _, rfl, if_no (by decide +kernel) ?_⟩)
        (refine ⟨_, rfl, rfl, _, rfl, if_no (by decide +kernel) ?_⟩)
        (refine ⟨_, rfl, rfl, _, rfl, if_no (by decide +kernel) ?_⟩)
        (refine ⟨_, rfl, rfl, _, rfl, if_no (by decide +kernel) ?_⟩)
        exact nil H (Kept.refl H) rfl
    | isnt a b =>
      refine ⟨_, rfl, ra, _, 0, _, rfl, rfl, hrow, at_of (j := 0) rfl rfl, ?_⟩
      (refine ⟨_, rfl, rfl, _, rfl, if_no (by decide +kernel) (iteF ?_)⟩)
      refine ⟨_, rfl, ra, _, 1, _, rfl, rfl, hrow, at_of (j := 1) rfl rfl, _, rfl, rfl, _, rfl, if_nd (fun e => ?_) (fun e => ?_)⟩
      · exact nil H (Kept.refl H) rfl
      · (refine ⟨_, rfl, rfl, _, rfl, if_no (by decide +kernel) ?_⟩)
        (refine ⟨_, rfl, rfl, _, rfl, if_no (by decide +kernel) ?_⟩)
        (refine ⟨_, rfl, rfl, _, rfl, if_no (by decide +kernel) ?_⟩)
        (refine ⟨_, rfl, rfl, _, rfl, if_no (by decide +kernel) ?_⟩)
        (refine ⟨_, rfl, rfl, _, rfl, if_no (by decide +kernel) ?_⟩)
        (refine ⟨_, rfl, rfl, _, rfl, if_no (by decide +kernel) ?_⟩)
        exact nil H (Kept.refl H) rfl
    | has a b c =>
      refine ⟨_, rfl, ra, _, 0, _, rfl, rfl, hrow, at_of (j := 0) rfl rfl, ?_⟩
      (refine ⟨_, rfl, rfl, _, rfl, if_no (by decide +kernel) (iteF ?_)⟩)
      refine ⟨_, rfl, ra, _, 1, _, rfl, rfl, hrow, at_of (j := 1) rfl rfl, _, rfl, rfl, _, rfl, if_nd (fun e => ?_) (fun e => ?_)⟩
      · exact nil H (Kept.refl H) rfl
      · (refine ⟨_, rfl, rfl, _, rfl, if_no (by decide +kernel) ?_⟩)
        (refine ⟨_, rfl, rfl, _, rfl, if_no (by decide +kernel) ?_⟩)
        (refine ⟨_, rfl, rfl, _, rfl, if_no (by decide +kernel) ?_⟩)
        (refine ⟨_, rfl, rfl, _, rfl, if_no (by decide +kernel) ?_⟩)
        (refine ⟨_, rfl, rfl, _, rfl, if_no (by decide +kernel) ?_⟩)
        (refine ⟨_, rfl, rfl, _, rfl, if_no (by decide +kernel) ?_⟩)
        exact nil H (Kept.refl H) rfl
    | hasnt a b c =>
      refine ⟨_, rfl, ra, _, 0, _, rfl, rfl, hrow, at_of (j := 0) rfl rfl, ?_⟩
      (refine ⟨_, rfl, rfl, _, rfl, if_yes (by decide +kernel) ?_⟩)
      refine rd_tail rfl hrow fun p np => ?_
      refine ⟨_, rfl, _, rfl, _, rfl, (by show 3 ≤ sizeLine; decide), fun p2 np2 => ?_⟩
      have k2 := ((Kept.refl (M := []) H).upd (o := .tup [V.str a, V.str b, V.str c]) np).upd (o := .tup [V.str n, V.str t, V.str m]) np2
      have hrow2 := sqT_tk (TK.of k2) hrow
      refine rd_eqW (xs := [a, b, c]) (ys := [n, t, m]) (.inl (.of (by rw [upd_ne (ne_of_none upd_same np2)]; exact upd_same))) (.inl (.of upd_same)) (okW_tail okr) (okW_tail oks) ?_
      refine ⟨_, rfl, if_dec (fun e => ?_) (fun e => ?_)⟩
      · have e2 : leadsTie (.hasnt a b c) n t m names = [(.has n t m, none, .clash)] := if_pos e
        rw [e2] at q
        refine mk_one (l := (.has n t m, none, .clash)) (mk_lead (mk_var rfl hsay) mk_non (mk_glob C.val)) k2 fun p H2 k3 n3 l3 => q p H2 (k2.trans k3) (none_of k2 n3) l3
      · refine ⟨_, rfl, ra, _, 1, _, rfl, rfl, hrow2, at_of (j := 1) rfl rfl, _, rfl, rfl, _, rfl, if_nd (fun e1 => ?_) (fun e1 => ?_)⟩
        · exact nil _ k2 (if_neg e)
        · (refine ⟨_, rfl, rfl, _, rfl, if_no (by decide +kernel) ?_⟩)
          (refine ⟨_, rfl, rfl, _, rfl, if_no (by decide +kernel) ?_⟩)
          (refine ⟨_, rfl, rfl, _, rfl, if_no (by decide +kernel) ?_⟩)
          (refine ⟨_, rfl, rfl, _, rfl, if_no (by decide +kernel) ?_⟩)
          (refine ⟨_, rfl, rfl, _, rfl, if_no (by decide +kernel) ?_⟩)
          (refine ⟨_, rfl, rfl, _, rfl, if_no (by decide +kernel) ?_⟩)
          exact nil _ k2 (if_neg e)
    | all a b =>
      refine ⟨_, rfl, ra, _, 0, _, rfl, rfl, hrow, at_of (j := 0) rfl rfl, ?_⟩
      (refine ⟨_, rfl, rfl, _, rfl, if_no (by decide +kernel) (iteF ?_)⟩)
      refine ⟨_, rfl, ra, _, 1, _, rfl, rfl, hrow, at_of (j := 1) rfl rfl, _, rfl, rfl, _, rfl, if_nd (fun e => ?_) (fun e => ?_)⟩
      · exact nil H (Kept.refl H) rfl
      · (refine ⟨_, rfl, rfl, _, rfl, if_no (by decide +kernel) ?_⟩)
        (refine ⟨_, rfl, rfl, _, rfl, if_no (by decide +kernel) ?_⟩)
        (refine ⟨_, rfl, rfl, _, rfl, if_no (by decide +kernel) ?_⟩)
        (refine ⟨_, rfl, rfl, _, rfl, if_no (by decide +kernel) ?_⟩)
        (refine ⟨_, rfl, rfl, _, rfl, if_no (by decide +kernel) ?_⟩)
        (refine ⟨_, rfl, rfl, _, rfl, if_no (by decide +kernel) ?_⟩)
        exact nil H (Kept.refl H) rfl
    | no a b =>
      refine ⟨_, rfl, ra, _, 0, _, rfl, rfl, hrow, at_of (j := 0) rfl rfl, ?_⟩
      (refine ⟨_, rfl, rfl, _, rfl, if_no (by decide +kernel) (iteF ?_)⟩)
      refine ⟨_, rfl, ra, _, 1, _, rfl, rfl, hrow, at_of (j := 1) rfl rfl, _, rfl, rfl, _, rfl, if_nd (fun e => ?_) (fun e => ?_)⟩
      · exact nil H (Kept.refl H) rfl
      · (refine ⟨_, rfl, rfl, _, rfl, if_no (by decide +kernel) ?_⟩)
        (refine ⟨_, rfl, rfl, _, rfl, if_no (by decide +kernel) ?_⟩)
        (refine ⟨_, rfl, rfl, _, rfl, if_no (by decide +kernel) ?_⟩)
        (refine ⟨_, rfl, rfl, _, rfl, if_no (by decide +kernel) ?_⟩)
        (refine ⟨_, rfl, rfl, _, rfl, if_no (by decide +kernel) ?_⟩)
        (refine ⟨_, rfl, rfl, _, rfl, if_no (by decide +kernel) ?_⟩)
        exact nil H (Kept.refl H) rfl
    | each a b c =>
      refine ⟨_, rfl, ra, _, 0, _, rfl, rfl, hrow, at_of (j := 0) rfl rfl, ?_⟩
      (refine ⟨_, rfl, rfl, _, rfl, if_no (by decide +kernel) (iteF ?_)⟩)
      refine ⟨_, rfl, ra, _, 1, _, rfl, rfl, hrow, at_of (j := 1) rfl rfl, _, rfl, rfl, _, rfl, if_nd (fun e => ?_) (fun e => ?_)⟩
      · exact nil H (Kept.refl H) rfl
      · (refine ⟨_, rfl, rfl, _, rfl, if_no (by decide +kernel) ?_⟩)
        (refine ⟨_, rfl, rfl, _, rfl, if_no (by decide +kernel) ?_⟩)
        (refine ⟨_, rfl, rfl, _, rfl, if_no (by decide +kernel) ?_⟩)
        (refine ⟨_, rfl, rfl, _, rfl, if_no (by decide +kernel) ?_⟩)
        (refine ⟨_, rfl, rfl, _, rfl, if_no (by decide +kernel) ?_⟩)
        (refine ⟨_, rfl, rfl, _, rfl, if_no (by decide +kernel) ?_⟩)
        exact nil H (Kept.refl H) rfl
    | who a b c =>
      refine ⟨_, rfl, ra, _, 0, _, rfl, rfl, hrow, at_of (j := 0) rfl rfl, ?_⟩
      (refine ⟨_, rfl, rfl, _, rfl, if_no (by decide +kernel) (iteF ?_)⟩)
      refine ⟨_, rfl, ra, _, 1, _, rfl, rfl, hrow, at_of (j := 1) rfl rfl, _, rfl, rfl, _, rfl, if_nd (fun e => ?_) (fun e => ?_)⟩
      · exact nil H (Kept.refl H) (if_neg fun z => e (by rw [z]))
      · have e2 : leadsTie (.who a b c) n t m names = [(.has n t m, some (.is m b), .is n c)] := if_pos (V.str.inj e)
        (refine ⟨_, rfl, rfl, _, rfl, if_no (by decide +kernel) ?_⟩)
        (refine ⟨_, rfl, rfl, _, rfl, if_yes (by decide +kernel) ?_⟩)
        rw [e2] at q
        refine mk_one (l := (.has n t m, some (.is m b), .is n c)) (mk_lead (mk_var rfl hsay) (mk_new (s := .is m b) (valB_str (valB_var rfl (valB_ix rfl hrow (j := 2) rfl rfl valB_nil)))) (mk_new (s := .is n c) (valB_str (valB_var rfl (valB_ix rfl hrow (j := 3) rfl rfl valB_nil))))) (Kept.refl H) fun p H2 k3 n3 l3 => q p H2 k3 n3 l3
    | turned a b =>
      refine ⟨_, rfl, ra, _, 0, _, rfl, rfl, hrow, at_of (j := 0) rfl rfl, ?_⟩
      (refine ⟨_, rfl, rfl, _, rfl, if_no (by decide +kernel) (iteF ?_)⟩)
      refine ⟨_, rfl, ra, _, 1, _, rfl, rfl, hrow, at_of (j := 1) rfl rfl, _, rfl, rfl, _, rfl, if_nd (fun e => ?_) (fun e => ?_)⟩
      · exact nil H (Kept.refl H) (if_neg fun z => e (by rw [z]))
      · have e2 : leadsTie (.turned a b) n t m names = [(.has n t m, none, .has m b n)] := if_pos (V.str.inj e)
        (refine ⟨_, rfl, rfl, _, rfl, if_no (by decide +kernel) ?_⟩)
        (refine ⟨_, rfl, rfl, _, rfl, if_no (by decide +kernel) ?_⟩)
        (refine ⟨_, rfl, rfl, _, rfl, if_yes (by decide +kernel) ?_⟩)
        rw [e2] at q
        refine mk_one (l := (.has n t m, none, .has m b n)) (mk_lead (mk_var rfl hsay) mk_non (mk_new (s := .has m b n) (valB_str (valB_var rfl (valB_ix rfl hrow (j := 2) rfl rfl (valB_var rfl valB_nil)))))) (Kept.refl H) fun p H2 k3 n3 l3 => q p H2 k3 n3 l3
    | on a =>
      refine ⟨_, rfl, ra, _, 0, _, rfl, rfl, hrow, at_of (j := 0) rfl rfl, ?_⟩
      (refine ⟨_, rfl, rfl, _, rfl, if_no (by decide +kernel) (iteF ?_)⟩)
      refine ⟨_, rfl, ra, _, 1, _, rfl, rfl, hrow, at_of (j := 1) rfl rfl, _, rfl, rfl, _, rfl, if_nd (fun e => ?_) (fun e => ?_)⟩
      · exact nil H (Kept.refl H) (if_neg fun z => e (by rw [z]))
      · have e2 : leadsTie (.on a) n t m names = leadsOn n t m names := if_pos (V.str.inj e)
        (refine ⟨_, rfl, rfl, _, rfl, if_yes (by decide +kernel) ?_⟩)
        rw [e2] at q
        refine ⟨_, rfl, _, rfl, _, na, n, t, m, names, rfl, ⟨hsay, hns, hfew⟩, fun p H' kk nn l => q p H' kk nn l⟩
    | fr a b =>
      refine ⟨_, rfl, ra, _, 0, _, rfl, rfl, hrow, at_of (j := 0) rfl rfl, ?_⟩
      (refine ⟨_, rfl, rfl, _, rfl, if_no (by decide +kernel) (iteF ?_)⟩)
      refine ⟨_, rfl, ra, _, 1, _, rfl, rfl, hrow, at_of (j := 1) rfl rfl, _, rfl, rfl, _, rfl, if_nd (fun e => ?_) (fun e => ?_)⟩
      · exact nil H (Kept.refl H) (if_neg fun z => e (by rw [z]))
      · have e2 : leadsTie (.fr a b) n t m names = [(.has n t m, none, .is n b)] := if_pos (V.str.inj e)
        (refine ⟨_, rfl, rfl, _, rfl, if_no (by decide +kernel) ?_⟩)
        (refine ⟨_, rfl, rfl, _, rfl, if_no (by decide +kernel) ?_⟩)
        (refine ⟨_, rfl, rfl, _, rfl, if_no (by decide +kernel) ?_⟩)
        (refine ⟨_, rfl, rfl, _, rfl, if_no (by decide +kernel) ?_⟩)
        (refine ⟨_, rfl, rfl, _, rfl, if_yes (by decide +kernel) ?_⟩)
        rw [e2] at q
        refine mk_one (l := (.has n t m, none, .is n b)) (mk_lead (mk_var rfl hsay) mk_non (mk_new (s := .is n b) (valB_str (valB_var rfl (valB_ix rfl hrow (j := 2) rfl rfl valB_nil))))) (Kept.refl H) fun p H2 k3 n3 l3 => q p H2 k3 n3 l3
    | to a b =>
      refine ⟨_, rfl, ra, _, 0, _, rfl, rfl, hrow, at_of (j := 0) rfl rfl, ?_⟩
      (refine ⟨_, rfl, rfl, _, rfl, if_no (by decide +kernel) (iteF ?_)⟩)
      refine ⟨_, rfl, ra, _, 1, _, rfl, rfl, hrow, at_of (j := 1) rfl rfl, _, rfl, rfl, _, rfl, if_nd (fun e => ?_) (fun e => ?_)⟩
      · exact nil H (Kept.refl H) (if_neg fun z => e (by rw [z]))
      · have e2 : leadsTie (.to a b) n t m names = [(.has n t m, none, .is m b)] := if_pos (V.str.inj e)
        (refine ⟨_, rfl, rfl, _, rfl, if_no (by decide +kernel) ?_⟩)
        (refine ⟨_, rfl, rfl, _, rfl, if_no (by decide +kernel) ?_⟩)
        (refine ⟨_, rfl, rfl, _, rfl, if_no (by decide +kernel) ?_⟩)
        (refine ⟨_, rfl, rfl, _, rfl, if_no (by decide +kernel) ?_⟩)
        (refine ⟨_, rfl, rfl, _, rfl, if_no (by decide +kernel) ?_⟩)
        (refine ⟨_, rfl, rfl, _, rfl, if_yes (by decide +kernel) ?_⟩)
        rw [e2] at q
        refine mk_one (l := (.has n t m, none, .is m b)) (mk_lead (mk_var rfl hsay) mk_non (mk_new (s := .is m b) (valB_str (valB_var rfl (valB_ix rfl hrow (j := 2) rfl rfl valB_nil))))) (Kept.refl H) fun p H2 k3 n3 l3 => q p H2 k3 n3 l3
    | under a b =>
      refine ⟨_, rfl, ra, _, 0, _, rfl, rfl, hrow, at_of (j := 0) rfl rfl, ?_⟩
      (refine ⟨_, rfl, rfl, _, rfl, if_no (by decide +kernel) (iteF ?_)⟩)
      refine ⟨_, rfl, ra, _, 1, _, rfl, rfl, hrow, at_of (j := 1) rfl rfl, _, rfl, rfl, _, rfl, if_nd (fun e => ?_) (fun e => ?_)⟩
      · exact nil H (Kept.refl H) (if_neg fun z => e (by rw [z]))
      · have e2 : leadsTie (.under a b) n t m names = [(.has n t m, none, .has n b m)] := if_pos (V.str.inj e)
        (refine ⟨_, rfl, rfl, _, rfl, if_no (by decide +kernel) ?_⟩)
        (refine ⟨_, rfl, rfl, _, rfl, if_no (by decide +kernel) ?_⟩)
        (refine ⟨_, rfl, rfl, _, rfl, if_no (by decide +kernel) ?_⟩)
        (refine ⟨_, rfl, rfl, _, rfl, if_yes (by decide +kernel) ?_⟩)
        rw [e2] at q
        refine mk_one (l := (.has n t m, none, .has n b m)) (mk_lead (mk_var rfl hsay) mk_non (mk_new (s := .has n b m) (valB_str (valB_var rfl (valB_ix rfl hrow (j := 2) rfl rfl (valB_var rfl valB_nil)))))) (Kept.refl H) fun p H2 k3 n3 l3 => q p H2 k3 n3 l3
theorem ok_lby (F : FnP K "leads_by" sLBy f fd) (c_leads_from_kind : Own P w K mg base "leads_from_kind" 1 fK fdK ["row", "saying", "names"] (spLK K)) (c_leads_from_tie : Own P w K mg base "leads_from_tie" 2 fT fdT ["row", "saying", "names"] (spLT K)) :
    FnOk P w K mg base CX0 3 f fd ["row", "saying", "names"] (spBy K) := by
  refine F.ok scBy (fun vs H Q E h => ?_) (fun cdv A outer s H vs Q E hr h => ?_)
  · obtain ⟨ra, sv, na, r, sy, names, rfl, _⟩ := h
    rfl
  · obtain ⟨ra, sv, na, r, sy, names, rfl, hrow, okr, oks, ⟨hsay, hns, hfew⟩, q⟩ := h
    refine ⟨_, PSs.nox (pss_cons (ps_if (pt_cmpR op_eq (pe_ix ix_tup (pv 1) pe_int (fun _ _ => rfl)) pe_str (nomark _)) (pss_one (ps_ret (pe_call c_leads_from_kind.ok (hr.mono (by decide)) (by rfl) c_leads_from_kind.g c_leads_from_kind.kp c_leads_from_kind.b .nil pass0 (pa_cons (pv 0) (pa_cons (pv 1) (pa_cons (pv 2) pa_nil)))))) pss_nil)
      (pss_cons (ps_if (pt_cmpR op_eq (pe_ix ix_tup (pv 1) pe_int (fun _ _ => rfl)) pe_str (nomark _)) (pss_one (ps_ret (pe_call c_leads_from_tie.ok hr (by rfl) c_leads_from_tie.g c_leads_from_tie.kp c_leads_from_tie.b .nil pass0 (pa_cons (pv 0) (pa_cons (pv 1) (pa_cons (pv 2) pa_nil)))))) pss_nil)
      (pss_one (ps_ret (pe_lst pa_nil))))), ?_⟩
    obtain ⟨sa, rfl, hsa⟩ := id hsay
    cases sy with
    | is n k =>
      refine ⟨_, rfl, sa, _, 0, _, rfl, rfl, hsa, at_of (j := 0) rfl rfl, rfl, _, rfl, if_yes (by decide +kernel) ?_⟩
      exact ⟨_, rfl, _, rfl, _, rfl, ra, _, na, r, n, k, names, rfl, hrow, okr, oks, ⟨hsay, hns, hfew⟩, q⟩
    | has n t m =>
      refine ⟨_, rfl, sa, _, 0, _, rfl, rfl, hsa, at_of (j := 0) rfl rfl, rfl, _, rfl, if_no (by decide +kernel) ?_⟩
      refine ⟨_, rfl, sa, _, 0, _, rfl, rfl, hsa, at_of (j := 0) rfl rfl, rfl, _, rfl, if_yes (by decide +kernel) ?_⟩
      exact ⟨_, rfl, _, rfl, _, rfl, ra, _, na, r, n, t, m, names, rfl, hrow, okr, oks, ⟨hsay, hns, hfew⟩, q⟩
    | clash =>
      refine ⟨_, rfl, sa, _, 0, _, rfl, rfl, hsa, at_of (j := 0) rfl rfl, rfl, _, rfl, if_no (by decide +kernel) ?_⟩
      refine ⟨_, rfl, sa, _, 0, _, rfl, rfl, hsa, at_of (j := 0) rfl rfl, rfl, _, rfl, if_no (by decide +kernel) ?_⟩
      exact mk_none (K := K) (σ := []) q
end
end Ah
end
section
set_option Elab.async false
set_option linter.all false
set_option maxRecDepth 100000
set_option maxHeartbeats 4000000
namespace Ah
open PySem PySem.Spec PyProof.Rows L2
open EnT
/-! ### places_of -/
def keyW (ws : List Str) : List Key := ws.map Sum.inr
theorem keyW_kV (ws : List Str) : (keyW ws).map kV = ws.map V.str := by
  unfold keyW
  rw [List.map_map]
  rfl
theorem keyW_inj : ∀ {xs ys : List Str}, keyW xs = keyW ys → xs = ys
  | [], [], _ => rfl
  | [], _ :: _, h => nomatch h
  | _ :: _, [], h => nomatch h
  | x :: xs, y :: ys, h => by
    have h' : (Sum.inr x : Key) :: keyW xs = Sum.inr y :: keyW ys := h
    injection h' with h1 h2
    rw [Sum.inr.inj h1, keyW_inj h2]
/-- the entries' own tuples are rows of rs, all rows are there -/
structure RowsE (K : PySem.W.Frag) (H : Hp) (es : List Ent) (rs : List Rw) : Prop where
  at_ : ∀ e ∈ es, ∃ r ∈ rs, e.1 = keyW (Rw.ws r) ∧ RowAt K H e.2.1 r
  all_ : ∀ r ∈ rs, ∃ e ∈ es, e.1 = keyW (Rw.ws r)
theorem RowsE.keys {K : PySem.W.Frag} {H : Hp} {es : List Ent} {rs : List Rw} (h : RowsE K H es rs) : KeysIn K H es := fun e he => by
  obtain ⟨r, _, h1, h2⟩ := h.at_ e he
  rw [h1, keyW_kV]
  exact h2
theorem RowsE.tk {K : PySem.W.Frag} {H H' : Hp} {es : List Ent} {rs : List Rw} (k : TK H H') (h : RowsE K H es rs) : RowsE K H' es rs :=
  ⟨fun e he => let ⟨r, h0, h1, h2⟩ := h.at_ e he; ⟨r, h0, h1, sqT_tk k h2⟩, h.all_⟩
theorem RowsE.put {K : PySem.W.Frag} {H : Hp} {es : List Ent} {rs : List Rw} {r : Rw} {b : Addr} {v : V} (h : RowsE K H es rs) (hb : RowAt K H b r) : RowsE K H (putE es (keyW r.ws) b v) (rs ++ [r]) := by
  constructor
  · intro e he
    rcases putE_mem he with ⟨e', h1, h2, h3, _⟩ | rfl
    · obtain ⟨r', q1, q2, q3⟩ := h.at_ e' h1
      exact ⟨r', List.mem_append_left _ q1, by rw [h2]; exact q2, by rw [h3]; exact q3⟩
    · exact ⟨r, List.mem_append_right _ (List.mem_singleton.mpr rfl), rfl, hb⟩
  · intro r' hr'
    have hk : keyW r'.ws ∈ (putE es (keyW r.ws) b v).map (·.1) := by
      rw [putE_keys]
      rcases List.mem_append.mp hr' with q | q
      · obtain ⟨e, he, e1⟩ := h.all_ r' q
        have : keyW r'.ws ∈ es.map (·.1) := List.mem_map.mpr ⟨e, he, e1⟩
        split
        · exact this
        · exact List.mem_append_left _ this
      · rw [List.mem_singleton.mp q]
        split
        · rename_i hs
          exact valE_some hs
        · exact List.mem_append_right _ (List.mem_singleton.mpr rfl)
    obtain ⟨e, he, e1⟩ := List.mem_map.mp hk
    exact ⟨e, he, e1⟩
/-- every value is a list of its own, made behind H0 -/
def ListsE (H0 H : Hp) (es : List Ent) (n : Nat) : Prop := ∀ e ∈ es, ∃ l ys, e.2.2 = V.ref l ∧ H l = some (.lst ys) ∧ H0 l = none ∧ ys.length ≤ n
theorem valE_at {es : List Ent} {k : List Key} {v : V} (h : valE es k = some v) : ∃ e ∈ es, e.1 = k ∧ e.2.2 = v := by
  unfold valE at h
  obtain ⟨e, h1, h2⟩ := Option.map_eq_some_iff.mp h
  have h3 : decide (e.1 = k) = true := List.find?_some (p := fun e : Ent => decide (e.1 = k)) h1
  exact ⟨e, List.mem_of_find?_eq_some h1, of_decide_eq_true h3, h2⟩
theorem scPl : FnScope ["rows", "places", "number", "row"] ["rows"] (defScope sPlaces) := ⟨rfl, rfl, rfl, by decide +kernel, rfl, by decide +kernel, by decide +kernel⟩
def spPlaces (K : PySem.W.Frag) (P : Program) (w : World) : Sp := fun vs H Q _ => ∃ (q : Addr) (rs : List Rw), vs = [.ref q] ∧ TextAt H q rs ∧ rs.length ≤ 1000 ∧
  ∀ p H' es, Kept [] H H' → H' p = some (DicO P w p es) → RowsE K H' es rs → es.length ≤ rs.length → Q (.ref p) H'
section
variable {P : Program} {w : World} {K : PySem.W.Frag} {mg : Str → Option Value} {base : Heap} {f : Addr} {fd : FuncData}
theorem ok_places (F : FnP K "places_of" sPlaces f fd) (B : Bl mg) : FnOk P w K mg base CX0 1 f fd ["rows"] (spPlaces K P w) := by
  refine F.ok scPl (fun vs H Q E h => ?_) (fun cdv A outer s H vs Q E hr h => ?_)
  · obtain ⟨q, rs, rfl, _⟩ := h
    rfl
  · obtain ⟨q, rs, rfl, ⟨ps, hq, hps⟩, hl, k⟩ := h
    have hu : A.units + 3 + 1 < cLine := by have := hr.units; exact (by have h2 : (A.deeper (envOfC "places_of" (defScope sPlaces) s.heap.objs.size f cdv)).units = A.units + 3 := rfl; omega)
    refine ⟨_, PSs.nox (pss_cons (ps_set (i := 1) scPl.nd rfl (.inl rfl) pe_dicNew)
      (pss_cons (ps_for PassesOwn.never rfl (pi_enumT (by rfl) B.enumerate_ (pa_cons (pv 0) pa_nil)) (pg_tup rfl (pgs_cons (pg_name (i := 2) scPl.nd rfl (.inl rfl)) (pgs_cons (pg_name (i := 3) scPl.nd rfl (.inl rfl)) pgs_nil)))
        (pss_one (ps_expr (pe_bm PySem.F.plainAttrs_list PySem.F.slot_list_append PySem.F.type_list_append mt_append
          (pe_dicM PySem.F.slot_dict_setdefault PySem.F.type_dict_setdefault (mt_dicSetd hu) (pv 1) (pa_cons (pv 3) (pa_cons (pe_lst pa_nil) pa_nil))) (pa_cons (pv 2) pa_nil)))))
      (pss_one (ps_ret (pv 1))))), ?_⟩
    intro Dz nD
    refine ⟨_, rfl, q, _, rfl, .inl (.of (by rw [upd_ne (ne_of_none hq nD)]; exact hq)), for_it (walk_enumT (K := K) (a := q) (xs := ps.map V.ref))
      (fun i σ Ha => (∃ v2 v3, σ = [some (.ref q), some (.ref Dz), v2, v3]) ∧ ∃ es, Ha Dz = some (DicO P w Dz es) ∧ RowsE K Ha es (rs.take i) ∧ ListsE H Ha es i ∧ es.length ≤ i ∧ Kept [] H Ha)
      ⟨⟨_, _, rfl⟩, [], upd_same, ⟨fun e h => absurd h (by simp), fun r h => absurd h (by simp)⟩, (fun e h => absurd h (by simp)), Nat.le_refl _, (Kept.refl H).upd nD⟩ (fun i σ Ha _ pv => .inl (.of (pv.2.choose_spec.2.2.2.2 _ _ hq (by simp)))) ?_ ?_⟩
    · rintro i x σ Ha Hb hi ⟨⟨v2, v3, rfl⟩, es, e1, re, le, hz, kk⟩ ⟨Tp, x1, x2, rfl, nT, rfl, g1, g2⟩
      cases g1
      dsimp only at g2
      rw [List.getElem?_map] at g2
      obtain ⟨pr, epr, rfl⟩ := Option.map_eq_some_iff.mp g2
      obtain ⟨r, er, hr1⟩ := paired_at hps epr
      have el : ps.length = rs.length := hps.length
      rw [List.length_map] at hi
      have kT := kk.upd (o := .tup [V.int (i : Nat), V.ref pr]) nT
      have dT : Dz ≠ Tp := ne_of_none e1 nT
      refine ⟨Tp, _, rfl, .inl (.of upd_same), rfl, _, _, rfl, _, _, rfl, rfl, ?_⟩
      refine ⟨_, rfl, ⟨Dz, es, rfl, .inl (by rw [upd_ne dT]; exact e1)⟩, _, rfl, Nat.zero_le _, fun ln nl => ?_⟩
      have nl0 : Ha ln = none := by
        by_cases h : ln = Tp
        · rw [h, upd_same] at nl
          cases nl
        · rw [upd_ne h] at nl
          exact nl
      have lD : Dz ≠ ln := ne_of_none e1 nl0
      have kL := kT.upd (o := .lst []) nl
      have tkA : TK Ha (L2.upd (L2.upd Ha Tp (.tup [V.int (i : Nat), V.ref pr])) ln (.lst [])) := ((TK.refl Ha).new nT).new nl
      have eD : (L2.upd (L2.upd Ha Tp (.tup [V.int (i : Nat), V.ref pr])) ln (.lst [])) Dz = some (DicO P w Dz es) := by rw [upd_ne lD, upd_ne dT]; exact e1
      have nHl : H ln = none := none_of kT nl
      have rowp : SqT K (L2.upd (L2.upd Ha Tp (.tup [V.int (i : Nat), V.ref pr])) ln (.lst [])) pr ((keyW r.ws).map kV) := by
        rw [keyW_kV]
        exact .inl (.of (kL _ _ hr1 (by simp)))
      have hsz : es.length < sizeLine := Nat.lt_of_le_of_lt (show es.length ≤ 1000 by omega) (by decide)
      have old : ∀ {l : Addr} {ys : List V}, Ha l = some (.lst ys) → (L2.upd (L2.upd Ha Tp (.tup [V.int (i : Nat), V.ref pr])) ln (.lst [])) l = some (.lst ys) ∧ l ≠ ln ∧ l ≠ Dz := fun {l ys} h => by
        have h1 : l ≠ ln := ne_of_none h nl0
        have h2 : l ≠ Tp := ne_of_none h nT
        exact ⟨by rw [upd_ne h1, upd_ne h2]; exact h, h1, ne_of h e1 (fun z => nomatch z)⟩
      have er2 : rs.take (i + 1) = rs.take i ++ [r] := by rw [List.take_add_one, er]; rfl
      refine ⟨Dz, pr, es, keyW r.ws, .ref ln, rfl, rfl, eD, (re.tk tkA).keys, rowp, hsz, fun y hy => ?_, fun hn => ?_⟩
      · obtain ⟨e, he, ek, ev⟩ := valE_at hy
        obtain ⟨l, ys, e2, hl2, nl2, lys⟩ := le e he
        obtain rfl : y = V.ref l := ev.symm.trans e2
        obtain ⟨o1, o2, o3⟩ := old hl2
        refine ⟨.inl ⟨rfl, ys, .inl (.of o1)⟩, _, rfl, l, ys, _, rfl, rfl, o1, Nat.lt_of_le_of_lt (show ys.length ≤ 1000 by omega) (by decide), ?_⟩
        refine ⟨⟨_, _, rfl⟩, es, by rw [upd_ne (Ne.symm o3)]; exact eD, ?_, fun e' he' => ?_, by omega, kD_far nl2 kL⟩
        · have re2 := re.tk (tkA.updL (o := .lst (ys ++ [V.int (i : Nat)])) o1)
          rw [er2]
          refine ⟨fun e' he' => ?_, fun r' hr' => ?_⟩
          · obtain ⟨r', q1, q2, q3⟩ := re2.at_ e' he'
            exact ⟨r', List.mem_append_left _ q1, q2, q3⟩
          · rcases List.mem_append.mp hr' with q1 | q1
            · exact re2.all_ r' q1
            · rw [List.mem_singleton.mp q1]
              exact ⟨e, he, ek⟩
        · obtain ⟨l', ys', e2', hl2', nl2', lys'⟩ := le e' he'
          by_cases hll : l' = l
          · subst hll
            exact ⟨l', ys ++ [V.int (i : Nat)], e2', upd_same, nl2', by rw [List.length_append, List.length_cons, List.length_nil]; omega⟩
          · exact ⟨l', ys', e2', by rw [upd_ne hll]; exact (old hl2').1, nl2', by omega⟩
      · refine ⟨.inl ⟨rfl, [], .inl (.of (by rw [upd_ne (Ne.symm lD)]; exact upd_same))⟩, _, rfl, ln, [], _, rfl, rfl, by rw [upd_ne (Ne.symm lD)]; exact upd_same, (by decide), ?_⟩
        have tk2 := (tkA.upd (o := DicO P w Dz (putE es (keyW r.ws) pr (V.ref ln))) eD (fun _ z => nomatch z) (fun _ _ z => nomatch z)).updL (o := .lst ([] ++ [V.int (i : Nat)])) (by rw [upd_ne (Ne.symm lD)]; exact upd_same)
        have hp := putE_len es (keyW r.ws) pr (V.ref ln)
        refine ⟨⟨_, _, rfl⟩, putE es (keyW r.ws) pr (V.ref ln), by rw [upd_ne lD]; exact upd_same, ?_, fun e' he' => ?_, by omega, kD_far nHl (kD_far nD kL)⟩
        · rw [er2]
          refine (re.tk tk2).put (sqT_tk tk2 ?_)
          exact .inl (.of (kk _ _ hr1 (by simp)))
        · have hpe : putE es (keyW r.ws) pr (V.ref ln) = es ++ [(keyW r.ws, pr, V.ref ln)] := by
            unfold putE
            rw [hn]
            rfl
          rw [hpe] at he'
          rcases List.mem_append.mp he' with q1 | q1
          · obtain ⟨l', ys', e2', hl2', nl2', lys'⟩ := le e' q1
            obtain ⟨o1, o2, o3⟩ := old hl2'
            exact ⟨l', ys', e2', by rw [upd_ne o2, upd_ne o3]; exact o1, nl2', by omega⟩
          · rw [List.mem_singleton.mp q1]
            exact ⟨ln, [] ++ [V.int (i : Nat)], rfl, upd_same, nHl, by show 1 ≤ i + 1; omega⟩
    · rintro σ Ha ⟨⟨v2, v3, rfl⟩, es, e1, re, le, hz, kk⟩
      rw [List.length_map] at re hz
      have el : ps.length = rs.length := hps.length
      rw [el, List.take_of_length_le (Nat.le_refl _)] at re
      exact ⟨_, rfl, k Dz Ha es kk e1 re (by omega)⟩
end
end Ah
end
section
set_option Elab.async false
set_option linter.all false
set_option maxRecDepth 100000
set_option maxHeartbeats 4000000
namespace Ah
open PySem PySem.Spec PyProof.Rows L2
open EnT
/-! ### what leads are worked out -/
abbrev MethP (K : PySem.W.Frag) (x q : Str) (st : Stmt) (f : Addr) (fd : FuncData) : Prop := FunD K x q (defArgs st) (defBody st) (defScope st) [] [] f fd
def useful (l : Lead) : Bool := !decide (l.1 = l.2.2) && !decide (l.2.1 = some l.2.2)
def workedL (rws : List Rw) (s : Say) (names : List Str) : List Lead := rws.flatMap fun r => (leadsBy r s names).filter useful
/-- a lead with its row's number -/
def Lead4 (K : PySem.W.Frag) (H : Hp) (v : V) (l : Lead) : Prop := ∃ q n v1 v2 v3, v = .ref q ∧ H q = some (.tup [.int n, v1, v2, v3]) ∧ SayAt K H v1 l.1 ∧ OSayAt K H v2 l.2.1 ∧ SayAt K H v3 l.2.2
theorem Lead4.tk {K : PySem.W.Frag} {H H' : Hp} {v : V} {l : Lead} (k : TK H H') (h : Lead4 K H v l) : Lead4 K H' v l := by
  obtain ⟨q, n, v1, v2, v3, e, h1, h2, h3, h4⟩ := h
  exact ⟨q, n, v1, v2, v3, e, k.tup _ _ h1, h2.tk k, h3.tk k, h4.tk k⟩
def FoundAt (K : PySem.W.Frag) (H : Hp) (p : Addr) (ls : List Lead) : Prop := ∃ vs, H p = some (.lst vs) ∧ Paired (Lead4 K H) vs ls
/-- rows in a list -/
def RowsV (K : PySem.W.Frag) (H : Hp) (vs : List V) (rws : List Rw) : Prop := Paired (fun v r => ∃ a, v = V.ref a ∧ RowAt K H a r) vs rws
theorem RowsV.tk {K : PySem.W.Frag} {H H' : Hp} {vs : List V} {rws : List Rw} (k : TK H H') (h : RowsV K H vs rws) : RowsV K H' vs rws := Paired.mapP h fun _ _ ⟨a, e, q⟩ => ⟨a, e, sqT_tk k q⟩
structure RObj where
  ro : Addr
  C : Addr
  dx : Addr
  rl : Addr
  na : Addr
  kd : Addr
/-- the entries of what is known -/
def KnownE (K : PySem.W.Frag) (H : Hp) (rws : List Rw) (names : List Str) (es : List Ent) : Prop :=
  ∀ e ∈ es, ∃ (s : Say) (fl : Addr), e.1 = keyW s.ws ∧ SqT K H e.2.1 (s.ws.map V.str) ∧ e.2.2 = .ref fl ∧ FoundAt K H fl (workedL rws s names)
structure RulesAt (K : PySem.W.Frag) (P : Program) (w : World) (H : Hp) (o : RObj) (rws : List Rw) (names : List Str) (es : List Ent) : Prop where
  ob : H o.ro = some (.ins o.C o.dx [("rows", .ref o.rl), ("names", .ref o.na), ("known", .ref o.kd)])
  rows : ∃ vs, H o.rl = some (.lst vs) ∧ RowsV K H vs rws
  ns : H o.na = some (.lst (names.map V.str))
  kn : H o.kd = some (DicO P w o.kd es)
  ents : KnownE K H rws names es
structure ClsR (K : PySem.W.Frag) (C : Addr) : Prop where
  c : Cls K C
  n1 : NoAttr K C "rows"
  n2 : NoAttr K C "names"
  n3 : NoAttr K C "known"
/-- the words can be written, the counts are small -/
structure OkD (rws : List Rw) (names : List Str) : Prop where
  l1 : rws.length ≤ 1000
  l2 : names.length ≤ 1000
  rok : ∀ r ∈ rws, okW r.ws
  nok : ∀ x ∈ names, PyData.strOk x = true
def okL (l : Lead) : Prop := okW l.1.ws ∧ (∀ x, l.2.1 = some x → okW x.ws) ∧ okW l.2.2.ws
theorem okW_cons {w : Str} {ws : List Str} : okW (w :: ws) ↔ PyData.strOk w = true ∧ okW ws := by
  unfold okW
  rw [List.all_cons, Bool.and_eq_true]
theorem okW_nil : okW [] := rfl
theorem okW_clash : okW (Say.clash).ws := by unfold okW; decide +kernel
theorem okL_by {r : Rw} {s : Say} {names : List Str} (hr : okW r.ws) (hs : okW s.ws) (hn : ∀ x ∈ names, PyData.strOk x = true) : ∀ l ∈ leadsBy r s names, okL l := by
  have c := okW_clash
  intro l hl
  unfold okL
  cases s with
  | clash => exact absurd hl (by simp [leadsBy])
  | is n k =>
    obtain ⟨hi, hs1⟩ := okW_cons.mp hs
    obtain ⟨h1, hs2⟩ := okW_cons.mp hs1
    obtain ⟨h2, _⟩ := okW_cons.mp hs2
    have h3 : PyData.strOk "has" = true := by decide +kernel
    have h4 : PyData.strOk "is" = true := by decide +kernel
    cases r <;> simp only [leadsBy, leadsKind] at hl <;> (try split at hl) <;> (try simp only [List.mem_cons, List.mem_map, List.not_mem_nil, or_false] at hl) <;> (try exact hl.elim)
    all_goals simp only [Rw.ws, okW_cons] at hr
    all_goals first
      | (subst hl; simp [okL, okW_cons, okW_nil, Say.ws, *] <;> done)
      | (obtain ⟨x, hx, rfl⟩ := hl; have hx2 := hn x hx; simp [okW_cons, okW_nil, Say.ws, *] <;> done)
      | skip
    · subst hl
      exact ⟨hs, (fun x hx => nomatch hx), c⟩
    · subst hl
      refine ⟨hs, fun x hx => ?_, c⟩
      dsimp only at hx
      (repeat' split at hx) <;> first
        | (simp at hx; done)
        | (rw [← Option.some.inj hx]; exact okW_cons.mpr ⟨h4, okW_cons.mpr ⟨h1, okW_cons.mpr ⟨by first | exact hr.2.2.1 | exact hr.2.1, okW_nil⟩⟩⟩)
  | has n t m =>
    obtain ⟨hi, hs1⟩ := okW_cons.mp hs
    obtain ⟨h1, hs2⟩ := okW_cons.mp hs1
    obtain ⟨h2, hs3⟩ := okW_cons.mp hs2
    obtain ⟨h5, _⟩ := okW_cons.mp hs3
    have h3 : PyData.strOk "has" = true := by decide +kernel
    have h4 : PyData.strOk "is" = true := by decide +kernel
    cases r <;> simp only [leadsBy, leadsTie, leadsOn] at hl <;> (try split at hl) <;> (try simp only [List.mem_cons, List.mem_map, List.not_mem_nil, or_false, List.mem_append] at hl) <;> (try exact hl.elim)
    all_goals simp only [Rw.ws, okW_cons] at hr
    all_goals first
      | (subst hl; simp [okL, okW_cons, okW_nil, Say.ws, *] <;> done)
      | (obtain (⟨x, hx, rfl⟩ | ⟨x, hx, rfl⟩) := hl <;> have hx2 := hn x hx <;> simp [okW_cons, okW_nil, Say.ws, *] <;> done)
      | skip
    · subst hl
      exact ⟨hs, (fun x hx => nomatch hx), c⟩
end Ah
end
section
set_option Elab.async false
set_option linter.all false
set_option maxRecDepth 100000
set_option maxHeartbeats 4000000
namespace Ah
open PySem PySem.Spec PyProof.Rows L2
open EnT
theorem RulesAt.kept {K : PySem.W.Frag} {P : Program} {w : World} {H H' : Hp} {o : RObj} {rws : List Rw} {names : List Str} {es : List Ent} (k : Kept [] H H') (h : RulesAt K P w H o rws names es) : RulesAt K P w H' o rws names es where
  ob := k _ _ h.ob (by simp)
  rows := let ⟨vs, h1, h2⟩ := h.rows; ⟨vs, k _ _ h1 (by simp), h2.tk (.of k)⟩
  ns := k _ _ h.ns (by simp)
  kn := k _ _ h.kn (by simp)
  ents := fun e he => by
    obtain ⟨s, fl, h1, h2, h3, vs, h4, h5⟩ := h.ents e he
    exact ⟨s, fl, h1, sqT_tk (.of k) h2, h3, vs, k _ _ h4 (by simp), Paired.mapP h5 fun _ _ q => q.tk (.of k)⟩
theorem by_len (r : Rw) (s : Say) (names : List Str) : (leadsBy r s names).length ≤ 2 * names.length + 1 := by
  cases s with
  | clash => simp [leadsBy]
  | is n k => cases r <;> simp only [leadsBy, leadsKind] <;> (try split) <;> simp <;> omega
  | has n t m => cases r <;> simp only [leadsBy, leadsTie, leadsOn] <;> (try split) <;> simp <;> omega
theorem worked_len (names : List Str) (s : Say) : ∀ rws : List Rw, (workedL rws s names).length ≤ rws.length * (2 * names.length + 1)
  | [] => by simp [workedL]
  | r :: rws => by
    have ih := worked_len names s rws
    have h1 := by_len r s names
    have h2 : ((leadsBy r s names).filter useful).length ≤ (leadsBy r s names).length := List.length_filter_le ..
    have e : workedL (r :: rws) s names = (leadsBy r s names).filter useful ++ workedL rws s names := by simp [workedL]
    rw [e, List.length_append, List.length_cons, Nat.add_mul]
    omega
theorem worked_snoc (rws : List Rw) (r : Rw) (s : Say) (names : List Str) : workedL (rws ++ [r]) s names = workedL rws s names ++ (leadsBy r s names).filter useful := by simp [workedL]
theorem scRW : FnScope ["self", "saying", "found", "number", "row", "first", "second", "result"] ["self", "saying"] (defScope sRWork) := ⟨rfl, rfl, rfl, by decide +kernel, rfl, by decide +kernel, by decide +kernel⟩
def spWork (K : PySem.W.Frag) (P : Program) (w : World) : Sp := fun vs H Q _ => ∃ (o : RObj) (sv : V) (rws : List Rw) (names : List Str) (es : List Ent) (s : Say), vs = [.ref o.ro, sv] ∧ RulesAt K P w H o rws names es ∧ ClsR K o.C ∧ SayAt K H sv s ∧ okW s.ws ∧ OkD rws names ∧
  ∀ p H', Kept [] H H' → H p = none → FoundAt K H' p (workedL rws s names) → Q (.ref p) H'
section
variable {P : Program} {w : World} {K : PySem.W.Frag} {mg : Str → Option Value} {base : Heap} {f fB : Addr} {fd fdB : FuncData}
theorem ok_work (F : MethP K "worked_out" "Rules.worked_out" sRWork f fd) (B : Bl mg) (c_leads_by : Own P w K mg base "leads_by" 3 fB fdB ["row", "saying", "names"] (spBy K)) : FnOk P w K mg base CX0 4 f fd ["self", "saying"] (spWork K P w) := by
  refine F.ok scRW (fun vs H Q E h => ?_) (fun cdv A outer s H vs Q E hr h => ?_)
  · obtain ⟨o, sv, rws, names, es, sy, rfl, _⟩ := h
    rfl
  · obtain ⟨o, sv, rws, names, es, sy, rfl, R, CR, hsay, oks, D, q⟩ := h
    refine ⟨_, PSs.nox (pss_cons (ps_set (i := 2) scRW.nd rfl (.inl rfl) (pe_lst pa_nil))
      (pss_cons (ps_for PassesOwn.never rfl (pi_enum (by rfl) B.enumerate_ (pa_cons (pe_fld (pv 0) rfl) pa_nil)) (pg_tup rfl (pgs_cons (pg_name (i := 3) scRW.nd rfl (Or.inl rfl)) (pgs_cons (pg_name (i := 4) scRW.nd rfl (Or.inl rfl)) pgs_nil)))
      (pss_one (ps_for PassesOwn.never rfl (pi_list (pe_call c_leads_by.ok hr (by rfl) c_leads_by.g c_leads_by.kp c_leads_by.b .nil pass0 (pa_cons (pv 4) (pa_cons (pv 1) (pa_cons (pe_fld (pv 0) rfl) pa_nil))))) (pg_tup rfl (pgs_cons (pg_name (i := 5) scRW.nd rfl (Or.inl rfl)) (pgs_cons (pg_name (i := 6) scRW.nd rfl (Or.inl rfl)) (pgs_cons (pg_name (i := 7) scRW.nd rfl (Or.inl rfl)) pgs_nil))))
      (pss_one (ps_if (PW.pt (pw_and (pt_cmpR (op_neD hr.units) (pv 7) (pv 5) (nomark _)) (pw_and1 (pt_cmpR (op_neD hr.units) (pv 7) (pv 6) (nomark _))))) (pss_one (ps_expr (pe_bm PySem.F.plainAttrs_list PySem.F.slot_list_append PySem.F.type_list_append mt_append (pv 2) (pa_cons (pe_tup (pa_cons (pv 3) (pa_cons (pv 5) (pa_cons (pv 6) (pa_cons (pv 7) pa_nil))))) pa_nil)))) pss_nil)))))
      (pss_one (ps_ret (pv 2))))), ?_⟩
    refine ⟨Nat.zero_le _, fun fD nD => ?_⟩
    have R1 := R.kept ((Kept.refl H).upd (o := .lst []) nD)
    obtain ⟨vs, hvs, rvs⟩ := R.rows
    have lvs : vs.length = rws.length := rvs.length
    have hlen := worked_len names sy
    refine ⟨_, rfl, _, _, _, _, _, rfl, R1.ob, CR.c, CR.n1, rfl, o.rl, vs, rfl, .inl (.of (by rw [upd_ne (ne_of_none hvs nD)]; exact hvs)), for_it (walk_enum (K := K) (a := o.rl) (xs := vs))
      (fun i σ Ha => (∃ v3 v4 v5 v6 v7, σ = [some (.ref o.ro), some sv, some (.ref fD), v3, v4, v5, v6, v7]) ∧ FoundAt K Ha fD (workedL (rws.take i) sy names) ∧ Kept [] H Ha)
      ⟨⟨_, _, _, _, _, rfl⟩, ⟨[], upd_same, .nil⟩, (Kept.refl H).upd nD⟩ (fun i σ Ha _ pv => .inl (.of (pv.2.2 _ _ hvs (by simp)))) ?_ ?_⟩
    · rintro i x σ Ha Hb hi ⟨⟨v3, v4, v5, v6, v7, rfl⟩, ⟨us, eu, ru⟩, kk⟩ ⟨Tp, x1, x2, rfl, nT, rfl, g1, g2⟩
      cases g1
      dsimp only at g2
      obtain ⟨r, er, pr, rfl, hrow⟩ := paired_at rvs g2
      have kT := kk.upd (o := .tup [V.int (i : Nat), V.ref pr]) nT
      have tkT : TK Ha (L2.upd Ha Tp (.tup [V.int (i : Nat), V.ref pr])) := (TK.refl Ha).new nT
      have R2 := R.kept kT
      have hr1 := D.rok r (List.mem_of_getElem? er)
      refine ⟨Tp, _, rfl, .inl (.of upd_same), rfl, _, _, rfl, _, _, rfl, rfl, ?_⟩
      refine ⟨_, rfl, _, rfl, _, rfl, _, _, _, _, _, rfl, R2.ob, CR.c, CR.n2, rfl, pr, sv, o.na, r, sy, names, rfl, sqT_tk (.of kT) hrow, hr1, oks, ⟨hsay.tk (.of kT), .inl (.of R2.ns), D.l2⟩, fun lp H2 k2 n2 l2 => ?_⟩
      obtain ⟨ls, el, rl⟩ := l2
      have kH := kT.trans k2
      have efD : H2 fD = some (.lst us) := k2 _ _ (by rw [upd_ne (ne_of_none eu nT)]; exact eu) (by simp)
      have ll : ls.length ≤ 2001 := by
        have h1 := by_len r sy names
        have h2 := D.l2
        rw [rl.length]
        omega
      have lpD : lp ≠ fD := fun e => by
        rw [e, upd_ne (ne_of_none eu nT), eu] at n2
        cases n2
      have bd : (workedL (rws.take i) sy names).length ≤ 1000 * 2001 := by
        refine Nat.le_trans (hlen (rws.take i)) (Nat.mul_le_mul ?_ ?_)
        · have h1 := D.l1
          rw [List.length_take]
          omega
        · have h2 := D.l2
          omega
      have er2 : rws.take (i + 1) = rws.take i ++ [r] := by rw [List.take_add_one, er]; rfl
      refine ⟨lp, rfl, ⟨_, .inl (.of el)⟩, for_it (walk_list (K := K) (a := lp) (xs := ls))
        (fun j σ Hc => (∃ v5 v6 v7, σ = [some (.ref o.ro), some sv, some (.ref fD), some (.int (i : Nat)), some (.ref pr), v5, v6, v7]) ∧ FoundAt K Hc fD (workedL (rws.take i) sy names ++ ((leadsBy r sy names).take j).filter useful) ∧ Kept [] H Hc ∧ Hc lp = some (.lst ls) ∧ TK H2 Hc)
        ⟨⟨_, _, _, rfl⟩, ⟨us, efD, by
          rw [List.take_zero, List.filter_nil, List.append_nil]
          exact Paired.mapP ru fun _ _ q => q.tk (tkT.trans (.of k2))⟩, kH, el, TK.refl _⟩ (fun j σ Hc _ pv => .inl (.of pv.2.2.2.1)) ?_ ?_⟩
      · rintro j y σ Hc0 Hc hj ⟨⟨v5, v6, v7, rfl⟩, ⟨us', eu', ru'⟩, kc, elc, tk2⟩ ⟨rfl, ey⟩
        obtain ⟨l, hl, hla⟩ := paired_at rl ey
        obtain ⟨qa, w1, w2, w3, rfl, t1, s1, s2, s3⟩ := hla.tk tk2
        have ol := okL_by hr1 oks D.nok l (List.mem_of_getElem? hl)
        have et : ((leadsBy r sy names).take (j + 1)).filter useful = ((leadsBy r sy names).take j).filter useful ++ if useful l = true then [l] else [] := by
          rw [List.take_add_one, hl, List.filter_append]
          congr 1
          show List.filter useful [l] = _
          rw [List.filter_cons, List.filter_nil]
        have skip : useful l = false → FoundAt K Hc fD (workedL (rws.take i) sy names ++ ((leadsBy r sy names).take (j + 1)).filter useful) := fun e => by
          rw [et, e, if_neg (by simp), List.append_nil]
          exact ⟨us', eu', ru'⟩
        refine ⟨qa, _, rfl, .inl (.of t1), rfl, _, _, rfl, _, _, rfl, _, _, rfl, rfl, ?_⟩
        refine ⟨_, rfl, _, rfl, rd_neS (s := l.2.2) (t := some l.1) s3 s1 ol.2.2 (fun x hx => by rw [← Option.some.inj hx]; exact ol.1) ⟨_, rfl, if_nd (fun ne => ?_) (fun e => ?_)⟩⟩
        · refine ⟨_, rfl, _, rfl, rd_neS (s := l.2.2) (t := l.2.1) s3 s2 ol.2.2 ol.2.1 ⟨_, rfl, if_nd (fun ne2 => ?_) (fun e2 => ?_)⟩⟩
          · have eu2 : useful l = true := by
              unfold useful
              rw [decide_eq_false fun z => ne (by rw [z]), decide_eq_false ne2]
              rfl
            refine ⟨_, rfl, .inl ⟨rfl, us', .inl (.of eu')⟩, _, rfl, _, rfl, _, rfl, _, rfl, (by show 4 ≤ sizeLine; decide), fun T4 n4 => ?_⟩
            have nfD : fD ≠ T4 := ne_of_none eu' n4
            refine ⟨fD, us', _, rfl, rfl, by rw [upd_ne nfD]; exact eu', ?_, ⟨_, _, _, rfl⟩, ⟨us' ++ [V.ref T4], upd_same, ?_⟩, kD_far nD (kc.upd n4), ?_, ?_⟩
            · have lu := ru'.length
              rw [List.length_append] at lu
              have h1 : (((leadsBy r sy names).take j).filter useful).length ≤ 2001 := by
                refine Nat.le_trans (List.length_filter_le ..) ?_
                rw [List.length_take]
                have h2 := rl.length
                omega
              exact Nat.lt_of_le_of_lt (show us'.length ≤ 1000 * 2001 + 2001 by omega) (by decide)
            · rw [et, if_pos eu2, ← List.append_assoc]
              have tk3 : TK Hc (L2.upd (L2.upd Hc T4 (.tup [V.int (i : Nat), w1, w2, w3])) fD (.lst (us' ++ [V.ref T4]))) := ((TK.refl Hc).new n4).updL (xs := us') (by rw [upd_ne nfD]; exact eu')
              refine paired_app (Paired.mapP ru' fun _ _ q => q.tk tk3) (.cons ⟨T4, (i : Nat), w1, w2, w3, rfl, ?_, s1.tk tk3, s2.tk tk3, s3.tk tk3⟩ .nil)
              rw [upd_ne (Ne.symm nfD)]
              exact upd_same
            · rw [upd_ne lpD, upd_ne (ne_of_none elc n4)]
              exact elc
            · exact (tk2.new n4).updL (xs := us') (by rw [upd_ne nfD]; exact eu')
          · refine ⟨⟨_, _, _, rfl⟩, skip ?_, kc, elc, tk2⟩
            unfold useful
            rw [decide_eq_true e2]
            simp
        · refine iteF ⟨⟨_, _, _, rfl⟩, skip ?_, kc, elc, tk2⟩
          unfold useful
          rw [decide_eq_true (Option.some.inj e)]
          simp
      · rintro σ Hc ⟨⟨v5, v6, v7, rfl⟩, fa, kc, elc, tk2⟩
        have h2 := rl.length
        rw [h2, List.take_of_length_le (Nat.le_refl _), ← worked_snoc, ← er2] at fa
        exact ⟨⟨_, _, _, _, _, rfl⟩, fa, kc⟩
    · rintro σ Ha ⟨⟨v3, v4, v5, v6, v7, rfl⟩, fa, kk⟩
      rw [lvs, List.take_of_length_le (Nat.le_refl _)] at fa
      exact ⟨_, rfl, q fD Ha kk nD fa⟩
end
end Ah
end
section
set_option Elab.async false
set_option linter.all false
set_option maxRecDepth 100000
set_option maxHeartbeats 4000000
namespace Ah
open PySem PySem.Spec PyProof.Rows L2
theorem valE_snoc {k : List Key} {b : Addr} {v : V} : ∀ {es : List Ent}, valE es k = none → valE (es ++ [(k, b, v)]) k = some v
  | [], _ => valE_pos rfl
  | p :: r, h => by
    have hk : ¬ p.1 = k := fun z => by rw [valE_pos z] at h; cases h
    rw [valE_neg hk] at h
    rw [List.cons_append, valE_neg hk]
    exact valE_snoc h
theorem putE_new {es : List Ent} {k : List Key} {b : Addr} {v : V} (h : valE es k = none) : putE es k b v = es ++ [(k, b, v)] := by
  unfold putE
  rw [h]
  rfl
theorem KnownE.keys {K : PySem.W.Frag} {H : Hp} {rws : List Rw} {names : List Str} {es : List Ent} (h : KnownE K H rws names es) : KeysIn K H es := fun e he => by
  obtain ⟨s, fl, h1, h2, _⟩ := h e he
  rw [h1, keyW_kV]
  exact h2
theorem scRL : FnScope ["self", "saying"] ["self", "saying"] (defScope sRLeads) := ⟨rfl, rfl, rfl, by decide +kernel, rfl, by decide +kernel, by decide +kernel⟩
theorem scRI : FnScope ["self", "rows", "names"] ["self", "rows", "names"] (defScope sRInit) := ⟨rfl, rfl, rfl, by decide +kernel, rfl, by decide +kernel, by decide +kernel⟩
def spLeads (K : PySem.W.Frag) (P : Program) (w : World) (C : Addr) : Sp := fun vs H Q _ => ∃ (o : RObj) (sv : V) (rws : List Rw) (names : List Str) (es : List Ent) (s : Say), vs = [.ref o.ro, sv] ∧ o.C = C ∧ RulesAt K P w H o rws names es ∧ SayAt K H sv s ∧ okW s.ws ∧ OkD rws names ∧ es.length ≤ 1000000 ∧
  ∀ fl H' es', Kept [o.kd] H H' → RulesAt K P w H' o rws names es' → es'.length ≤ es.length + 1 → FoundAt K H' fl (workedL rws s names) →
    (∀ W, H W ≠ none → (∀ e ∈ es, e.2.2 ≠ V.ref W) → fl ≠ W ∧ ∀ e ∈ es', e.2.2 ≠ V.ref W) → Q (.ref fl) H'
section
variable {P : Program} {w : World} {K : PySem.W.Frag} {mg : Str → Option Value} {base : Heap} {f fW fP C : Addr} {fd fdW fdP : FuncData}
theorem ok_leads (F : MethP K "leads" "Rules.leads" sRLeads f fd) (CR : ClsR K C) (mW : Meth K C "worked_out" fW) (FW : FnOk P w K mg base CX0 4 fW fdW ["self", "saying"] (spWork K P w)) (bW : Binds K fdW ["self", "saying"] []) :
    FnOk P w K mg base CX0 5 f fd ["self", "saying"] (spLeads K P w C) := by
  refine F.ok scRL (fun vs H Q E h => ?_) (fun cdv A outer s H vs Q E hr h => ?_)
  · obtain ⟨o, sv, rws, names, es, sy, rfl, _⟩ := h
    rfl
  · obtain ⟨o, sv, rws, names, es, sy, rfl, rfl, R, hsay, oks, D, hz, q⟩ := h
    have hu : A.units + 3 + 1 < cLine := by have := hr.units; exact (by have h2 : (A.deeper (envOfC "Rules.leads" (defScope sRLeads) s.heap.objs.size f cdv)).units = A.units + 3 := rfl; omega)
    refine ⟨_, PSs.nox (pss_cons (ps_if (pt_cmpR (op_notIn_dic hu) (pv 1) (pe_fld (pv 0) rfl) (by rfl)) (pss_one (ps_asg (pe_meth (pv 0) CR.c mW FW hr bW .nil pass0 (pa_cons (pv 1) pa_nil)) (pg_sub (pe_fld (pv 0) rfl) (pv 1) (set_dic hu)))) pss_nil)
      (pss_one (ps_ret (pe_ix (ix_dic hu) (pe_fld (pv 0) rfl) (pv 1) (fun _ _ => rfl))))), ?_⟩
    obtain ⟨sa, rfl, hsa⟩ := id hsay
    have hkey : ∀ {H'}, TK H H' → SqT K H' sa ((keyW sy.ws).map kV) := fun k => by
      rw [keyW_kV]
      exact sqT_tk k hsa
    have hsz : es.length < sizeLine := Nat.lt_of_le_of_lt hz (by decide)
    refine ⟨_, rfl, _, rfl, _, _, _, _, _, rfl, R.ob, CR.c, CR.n3, rfl, o.kd, sa, es, keyW sy.ws, rfl, rfl, .inl R.kn, R.ents.keys, hkey (TK.refl H), ?_⟩
    cases hv : valE es (keyW sy.ws) with
    | some v =>
      refine ⟨false, rfl, iteF ?_⟩
      obtain ⟨e, he, ek, ev⟩ := valE_at hv
      obtain ⟨s', fl, h1, h2, h3, h4⟩ := R.ents e he
      obtain rfl : v = V.ref fl := ev.symm.trans h3
      have es1 : s' = sy := Say.inj (keyW_inj (h1.symm.trans ek))
      rw [es1] at h4
      refine ⟨_, rfl, _, _, _, _, _, rfl, R.ob, CR.c, CR.n3, rfl, _, rfl, o.kd, sa, es, keyW sy.ws, _, rfl, rfl, .inl R.kn, R.ents.keys, hkey (TK.refl H), hv, ?_⟩
      exact q fl H es (Kept.refl H) R (Nat.le_succ _) h4 fun W _ hW => ⟨fun z => hW e he (by rw [h3, z]), hW⟩
    | none =>
      refine ⟨true, rfl, iteT ?_⟩
      refine ⟨_, rfl, o.ro, o.dx, _, rfl, R.ob, rfl, _, rfl, o, _, rws, names, es, sy, rfl, R, CR, hsay, oks, D, fun p H1 k1 n1 fa => ?_⟩
      have R1 := R.kept k1
      refine ⟨_, rfl, _, _, _, _, _, rfl, R1.ob, CR.c, CR.n3, rfl, _, rfl, o.kd, sa, es, keyW sy.ws, rfl, rfl, R1.kn, R1.ents.keys, hkey (.of k1), hsz, ?_⟩
      rw [putE_new hv]
      obtain ⟨us, eus, rus⟩ := fa
      have pk : p ≠ o.kd := ne_of eus R1.kn (fun z => nomatch z)
      have tk1 : TK H1 (L2.upd H1 o.kd (DicO P w o.kd (es ++ [(keyW sy.ws, sa, V.ref p)]))) := (TK.refl H1).upd R1.kn (fun _ z => nomatch z) (fun _ _ z => nomatch z)
      have lk : ∀ {l : Addr} {ys : List V}, H1 l = some (.lst ys) → (L2.upd H1 o.kd (DicO P w o.kd (es ++ [(keyW sy.ws, sa, V.ref p)]))) l = some (.lst ys) := fun {l ys} h => by
        rw [upd_ne (ne_of h R1.kn (fun z => nomatch z))]
        exact h
      have fa2 : FoundAt K (L2.upd H1 o.kd (DicO P w o.kd (es ++ [(keyW sy.ws, sa, V.ref p)]))) p (workedL rws sy names) := ⟨us, lk eus, Paired.mapP rus fun _ _ q => q.tk tk1⟩
      have R2 : RulesAt K P w (L2.upd H1 o.kd (DicO P w o.kd (es ++ [(keyW sy.ws, sa, V.ref p)]))) o rws names (es ++ [(keyW sy.ws, sa, V.ref p)]) := by
        refine ⟨?_, ?_, ?_, upd_same, fun e he => ?_⟩
        · rw [upd_ne (ne_of R1.ob R1.kn (fun z => nomatch z))]
          exact R1.ob
        · obtain ⟨vs, h1, h2⟩ := R1.rows
          exact ⟨vs, lk h1, h2.tk tk1⟩
        · exact lk R1.ns
        · rcases List.mem_append.mp he with he | he
          · obtain ⟨s', fl, h1, h2, h3, vs, h4, h5⟩ := R1.ents e he
            exact ⟨s', fl, h1, sqT_tk tk1 h2, h3, vs, lk h4, Paired.mapP h5 fun _ _ q => q.tk tk1⟩
          · rw [List.mem_singleton.mp he]
            exact ⟨sy, p, rfl, sqT_tk ((TK.of k1).trans tk1) hsa, rfl, fa2⟩
      refine ⟨_, rfl, _, _, _, _, _, rfl, R2.ob, CR.c, CR.n3, rfl, _, rfl, o.kd, sa, _, keyW sy.ws, _, rfl, rfl, .inl R2.kn, R2.ents.keys, ?_, valE_snoc hv, ?_⟩
      · exact hkey ((TK.of k1).trans tk1)
      · refine q p _ _ ?_ R2 (by rw [List.length_append]; exact Nat.le_refl _) fa2 fun W hW hn => ?_
        · intro b u e hb
          rw [upd_ne (fun z => hb (by rw [z]; simp))]
          exact k1 b u e (by simp)
        · have pW : p ≠ W := fun z => hW (by rw [← z]; exact n1)
          refine ⟨pW, fun e he => ?_⟩
          rcases List.mem_append.mp he with he | he
          · exact hn e he
          · rw [List.mem_singleton.mp he]
            exact fun z => pW (V.ref.inj z)
end
end Ah
end
section
set_option Elab.async false
set_option linter.all false
set_option maxRecDepth 100000
set_option maxHeartbeats 4000000
namespace Ah
open PySem PySem.Spec PyProof.Rows L2
def Rw.of : List Str → Option Rw
  | [a, b] => if a = "on" then some (.on b) else none
  | [a, b, c] => if a = "is" then some (.is b c) else if a = "isnt" then some (.isnt b c) else if a = "all" then some (.all b c) else if a = "no" then some (.no b c) else if a = "turned" then some (.turned b c) else if a = "from" then some (.fr b c)
      else if a = "to" then some (.to b c) else if a = "under" then some (.under b c) else none
  | [a, b, c, d] => if a = "has" then some (.has b c d) else if a = "hasnt" then some (.hasnt b c d) else if a = "each" then some (.each b c d) else if a = "who" then some (.who b c d) else none
  | _ => none
theorem Rw.of_ws (r : Rw) : Rw.of r.ws = some r := by
  cases r <;> simp only [Rw.ws, Rw.of] <;> rfl
theorem Rw.inj {r s : Rw} (h : r.ws = s.ws) : r = s := by
  have h1 := Rw.of_ws r
  rw [h, Rw.of_ws s] at h1
  exact (Option.some.inj h1).symm
theorem rowsE_list {K : PySem.W.Frag} {H : Hp} {es : List Ent} {rs : List Rw} (h : RowsE K H es rs) : ∃ rws, RowsV K H (entRefs es) rws ∧ ∀ r, r ∈ rws ↔ r ∈ rs := by
  have go : ∀ l : List Ent, (∀ e ∈ l, e ∈ es) → ∃ rws : List Rw, Paired (fun e r => r ∈ rs ∧ e.1 = keyW (Rw.ws r) ∧ RowAt K H e.2.1 r) l rws := by
    intro l
    induction l with
    | nil => intro _; exact ⟨[], .nil⟩
    | cons e l ih =>
      intro sub
      obtain ⟨rws, r1⟩ := ih fun x hx => sub x (List.mem_cons_of_mem _ hx)
      obtain ⟨r, h1, h2, h3⟩ := h.at_ e (sub e (List.mem_cons_self ..))
      exact ⟨r :: rws, .cons ⟨h1, h2, h3⟩ r1⟩
  obtain ⟨rws, p⟩ := go es fun _ h => h
  refine ⟨rws, ?_, fun r => ⟨fun hr => ?_, fun hr => ?_⟩⟩
  · have mk : ∀ {l : List Ent} {rws : List Rw}, Paired (fun e r => r ∈ rs ∧ e.1 = keyW (Rw.ws r) ∧ RowAt K H e.2.1 r) l rws → RowsV K H (entRefs l) rws := by
      intro l rws q
      induction q with
      | nil => exact .nil
      | @cons e r l rws h t ih => exact .cons ⟨e.2.1, rfl, h.2.2⟩ ih
    exact mk p
  · have mk : ∀ {l : List Ent} {rws : List Rw}, Paired (fun e r => r ∈ rs ∧ e.1 = keyW (Rw.ws r) ∧ RowAt K H e.2.1 r) l rws → ∀ r ∈ rws, r ∈ rs := by
      intro l rws q
      induction q with
      | nil => intro r hr; exact nomatch hr
      | @cons e r0 l rws h t ih =>
        intro r hr
        rcases List.mem_cons.mp hr with z | z
        · rw [z]; exact h.1
        · exact ih r z
    exact mk p r hr
  · obtain ⟨e, he, ek⟩ := h.all_ r hr
    have mk : ∀ {l : List Ent} {rws : List Rw}, Paired (fun e r => r ∈ rs ∧ e.1 = keyW (Rw.ws r) ∧ RowAt K H e.2.1 r) l rws → e ∈ l → r ∈ rws := by
      intro l rws q
      induction q with
      | nil => intro hr; exact nomatch hr
      | @cons e0 r0 l rws h t ih =>
        intro hm
        rcases List.mem_cons.mp hm with z | z
        · have : r0 = r := Rw.inj (keyW_inj (h.2.1.symm.trans (by rw [← z]; exact ek)))
          rw [this]
          exact List.mem_cons_self ..
        · exact List.mem_cons_of_mem _ (ih z)
    exact mk p he
theorem pf1 {a : Addr} : putF "rows" (V.ref a) [] = ([("rows", V.ref a)] : List (Str × V)) := rfl
theorem pf2 {a b : Addr} : putF "names" (V.ref b) ([("rows", V.ref a)] : List (Str × V)) = ([("rows", V.ref a), ("names", V.ref b)] : List (Str × V)) := rfl
theorem pf3 {a b c : Addr} : putF "known" (V.ref c) ([("rows", V.ref a), ("names", V.ref b)] : List (Str × V)) = ([("rows", V.ref a), ("names", V.ref b), ("known", V.ref c)] : List (Str × V)) := rfl
theorem lt1 {p : Str × V} : [p].length < 1000 := Nat.lt_of_sub_eq_succ rfl
theorem lt2 {p q : Str × V} : [p, q].length < 1000 := Nat.lt_of_sub_eq_succ rfl
def spInit (K : PySem.W.Frag) (P : Program) (w : World) (C : Addr) : Sp := fun vs H Q _ => ∃ (x q na dx : Addr) (rs : List Rw) (names : List Str), vs = [.ref x, .ref q, .ref na] ∧ H x = some (.ins C dx []) ∧ TextAt H q rs ∧ rs.length ≤ 1000 ∧ H na = some (.lst (names.map V.str)) ∧
  ∀ H' (o : RObj) rws, o.ro = x → o.C = C → H o.kd = none → Kept [x] H H' → RulesAt K P w H' o rws names [] → (∀ r, r ∈ rws ↔ r ∈ rs) → rws.length ≤ rs.length → Q .non H'
section
variable {P : Program} {w : World} {K : PySem.W.Frag} {mg : Str → Option Value} {base : Heap} {f fP C : Addr} {fd fdP : FuncData}
theorem ok_init (F : MethP K "__init__" "Rules.__init__" sRInit f fd) (CR : ClsR K C) (B : Bl mg) (c_places_of : Own P w K mg base "places_of" 1 fP fdP ["rows"] (spPlaces K P w)) : FnOk P w K mg base CX0 2 f fd ["self", "rows", "names"] (spInit K P w C) := by
  refine F.ok scRI (fun vs H Q E h => ?_) (fun cdv A outer s H vs Q E hr h => ?_)
  · obtain ⟨x, q, na, dx, rs, names, rfl, _⟩ := h
    rfl
  · obtain ⟨x, q, na, dx, rs, names, rfl, hx, tx, hl, hns, k⟩ := h
    refine ⟨_, PSs.nox (pss_cons (ps_fld (pv 0) (pe_callTy (call_list_dic rfl) (by rfl) B.list_ (by decide +kernel) (pa_cons (pe_call c_places_of.ok hr (by rfl) c_places_of.g c_places_of.kp c_places_of.b .nil pass0 (pa_cons (pv 1) pa_nil)) pa_nil)) rfl)
      (pss_cons (ps_fld (pv 0) (pv 2) rfl)
      (pss_one (ps_fld (pv 0) pe_dicNew rfl)))), ?_⟩
    refine ⟨_, rfl, q, rs, rfl, tx, hl, fun p H1 es k1 e1 re hz => ⟨p, es, rfl, .inl e1, fun rl nrl => ?_⟩⟩
    have x1 : H1 x = some (.ins C dx []) := k1 _ _ hx (by simp)
    have xr : x ≠ rl := ne_of_none x1 nrl
    refine ⟨_, rfl, x, C, dx, [], rfl, by rw [upd_ne xr]; exact x1, CR.c, CR.n1, by decide, ?_⟩
    rw [pf1]
    refine ⟨_, rfl, _, rfl, x, C, dx, _, rfl, upd_same, CR.c, CR.n2, lt1, ?_⟩
    rw [pf2]
    intro kd nkd
    have kx : kd ≠ x := fun z => by
      rw [z, upd_same] at nkd
      cases nkd
    refine ⟨_, rfl, x, C, dx, _, rfl, by rw [upd_ne (Ne.symm kx)]; exact upd_same, CR.c, CR.n3, lt2, ?_⟩
    rw [pf3]
    obtain ⟨rws, hv, hm⟩ := rowsE_list re
    rw [upd_upd] at nkd ⊢
    rw [upd_ne kx] at nkd
    have krl : kd ≠ rl := fun z => by
      rw [z, upd_same] at nkd
      cases nkd
    rw [upd_ne krl] at nkd
    have n0 : ∀ {b : Addr} {o : HO}, H1 b = some o → b ≠ kd ∧ b ≠ rl := fun h => ⟨ne_of_none h nkd, ne_of_none h nrl⟩
    have old : ∀ {b : Addr} {o : HO}, H1 b = some o → b ≠ x → (L2.upd (L2.upd (L2.upd (L2.upd H1 rl (.lst (entRefs es))) x (.ins C dx [("rows", .ref rl), ("names", .ref na)])) kd (DicO P w kd [])) x (.ins C dx [("rows", .ref rl), ("names", .ref na), ("known", .ref kd)])) b = some o := fun {b o} h hb => by
      rw [upd_ne hb, upd_ne (n0 h).1, upd_ne hb, upd_ne (n0 h).2]
      exact h
    have tk : TK H1 (L2.upd (L2.upd (L2.upd (L2.upd H1 rl (.lst (entRefs es))) x (.ins C dx [("rows", .ref rl), ("names", .ref na)])) kd (DicO P w kd [])) x (.ins C dx [("rows", .ref rl), ("names", .ref na), ("known", .ref kd)])) :=
      ⟨fun b ys h => old h (ne_of h x1 (fun z => nomatch z)), fun b ob u h => old h (ne_of h x1 (fun z => nomatch z))⟩
    refine k _ ⟨x, C, dx, rl, na, kd⟩ rws rfl rfl (none_of k1 nkd) (fun b o h hb => old (k1 b o h (by simp)) (fun z => hb (by rw [z]; simp))) ⟨upd_same, ⟨entRefs es, ?_, hv.tk tk⟩, ?_, ?_, fun e he => absurd he (by simp)⟩ hm ?_
    · rw [upd_ne (Ne.symm xr), upd_ne (Ne.symm krl), upd_ne (Ne.symm xr)]
      exact upd_same
    · exact old (k1 _ _ hns (by simp)) (ne_of hns hx (fun z => nomatch z))
    · rw [upd_ne kx]
      exact upd_same
    · have h := hv.length
      rw [List.length_map] at h
      omega
end
end Ah
end
section
set_option Elab.async false
set_option linter.all false
set_option maxRecDepth 100000
set_option maxHeartbeats 4000000
namespace Ah
open PySem PySem.Spec PyProof.Rows L2
/-! ### what follows, as the program's leads tell it -/
def other (l : Lead) (s : Say) : Option Say := if l.1 = s then l.2.1 else some l.1
def sayOf : Rw → Option Say
  | .is n k => some (.is n k) | .has n t m => some (.has n t m) | _ => none
inductive Fol (rws : List Rw) (names : List Str) : Say → Prop where
  | base {r : Rw} {s : Say} : r ∈ rws → sayOf r = some s → Fol rws names s
  | one {s : Say} {l : Lead} : Fol rws names s → l ∈ workedL rws s names → other l s = none → Fol rws names l.2.2
  | two {s s2 : Say} {l : Lead} : Fol rws names s → l ∈ workedL rws s names → other l s = some s2 → Fol rws names s2 → Fol rws names l.2.2
def Say.names : Say → List Str
  | .is n _ => [n] | .has n _ m => [n, m] | .clash => []
theorem mem_worked {rws : List Rw} {s : Say} {names : List Str} {l : Lead} : l ∈ workedL rws s names ↔ ∃ r ∈ rws, l ∈ leadsBy r s names ∧ useful l = true := by
  unfold workedL
  rw [List.mem_flatMap]
  constructor
  · rintro ⟨r, h1, h2⟩
    rw [List.mem_filter] at h2
    exact ⟨r, h1, h2⟩
  · rintro ⟨r, h1, h2⟩
    exact ⟨r, h1, List.mem_filter.mpr h2⟩
/-- a lead of two sayings is told by either -/
theorem lead_sym {r : Rw} {s s2 : Say} {names : List Str} {l : Lead} (hs : ∀ x ∈ s.names, x ∈ names) (hl : l ∈ leadsBy r s names) (ho : other l s = some s2) : ∃ l' ∈ leadsBy r s2 names, l'.2.2 = l.2.2 ∧ other l' s2 = some s ∧ (useful l = true → useful l' = true) := by
  cases s with
  | clash => exact absurd hl (by simp [leadsBy])
  | is n k =>
    cases r <;> simp only [leadsBy, leadsKind] at hl <;> (try split at hl) <;> (try simp only [List.mem_cons, List.mem_map, List.not_mem_nil, or_false] at hl) <;> (try exact hl.elim)
    all_goals first
      | (subst hl; simp [other] at ho; done)
      | skip
    · rename_i k1 k2 hk
      subst hl
      have ho' : (if (if k1 = k then k2 else k1) = k then none else some (Say.is n (if k1 = k then k2 else k1))) = some s2 := by
        unfold other at ho
        rw [if_pos rfl] at ho
        exact ho
      by_cases h1 : k1 = k
      · rw [if_pos h1] at ho'
        by_cases h2 : k2 = k
        · rw [if_pos h2] at ho'
          cases ho'
        · rw [if_neg h2] at ho'
          rw [← Option.some.inj ho']
          have h3 : ¬ k1 = k2 := fun z => h2 (z ▸ h1)
          refine ⟨(.is n k2, some (.is n k), .clash), ?_, rfl, by simp [other], fun _ => by simp [useful]⟩
          simp [leadsBy, leadsKind, h3, h1, Ne.symm h2, show ¬ k = k2 from fun z => h2 z.symm]
      · have h2 : k2 = k := by
          rcases List.mem_cons.mp hk with z | z
          · exact absurd z.symm h1
          · exact (List.mem_singleton.mp z).symm
        rw [if_neg h1, if_neg h1] at ho'
        rw [← Option.some.inj ho']
        refine ⟨(.is n k1, some (.is n k), .clash), ?_, rfl, by simp [other], fun _ => by simp [useful]⟩
        simp [leadsBy, leadsKind, h2, show ¬ k = k1 from fun z => h1 z.symm]
    · rename_i a b c hk
      obtain ⟨x, hx, rfl⟩ := hl
      have ho' : some (Say.has x a n) = some s2 := by
        unfold other at ho
        rw [if_neg (fun z => nomatch z)] at ho
        exact ho
      rw [← Option.some.inj ho']
      refine ⟨(.has x a n, some (.is n b), .is x c), by simp [leadsBy, leadsTie], rfl, by simp [other, hk], fun h => by simpa [useful, hk] using h⟩
  | has n t m =>
    cases r <;> simp only [leadsBy, leadsTie, leadsOn] at hl <;> (try split at hl) <;> (try simp only [List.mem_cons, List.mem_map, List.not_mem_nil, or_false, List.mem_append] at hl) <;> (try exact hl.elim)
    all_goals first
      | (subst hl; simp [other] at ho; done)
      | skip
    · rename_i a b c hk
      subst hl
      have ho' : some (Say.is m b) = some s2 := by
        unfold other at ho
        rw [if_pos rfl] at ho
        exact ho
      rw [← Option.some.inj ho']
      refine ⟨(.has n a m, some (.is m b), .is n c), ?_, rfl, by simp [other, hk], fun h => by simpa [useful, hk] using h⟩
      simp only [leadsBy, leadsKind, if_true, List.mem_map]
      exact ⟨n, hs n (by simp [Say.names]), rfl⟩
    · rename_i a hk
      subst hk
      rcases hl with ⟨x, hx, rfl⟩ | ⟨x, hx, rfl⟩
      · have ho' : some (Say.has m a x) = some s2 := by
          unfold other at ho
          rw [if_pos rfl] at ho
          exact ho
        rw [← Option.some.inj ho']
        refine ⟨(.has n a m, some (.has m a x), .has n a x), ?_, rfl, ?_, fun h => h⟩
        · simp only [leadsBy, leadsTie, leadsOn, if_true, List.mem_append, List.mem_map]
          exact .inr ⟨n, hs n (by simp [Say.names]), rfl⟩
        · unfold other
          split
          · rename_i e
            exact congrArg some e.symm
          · rfl
      · by_cases e : Say.has x a n = Say.has n a m
        · have ho' : some (Say.has n a m) = some s2 := by
            unfold other at ho
            rw [if_pos e] at ho
            exact ho
          rw [← Option.some.inj ho']
          refine ⟨(.has x a n, some (.has n a m), .has x a m), ?_, rfl, ?_, fun h => h⟩
          · simp only [leadsBy, leadsTie, leadsOn, if_true, List.mem_append, List.mem_map]
            exact .inr ⟨x, hx, rfl⟩
          · unfold other
            rw [if_pos e]
        · have ho' : some (Say.has x a n) = some s2 := by
            unfold other at ho
            rw [if_neg e] at ho
            exact ho
          rw [← Option.some.inj ho']
          refine ⟨(.has x a n, some (.has n a m), .has x a m), ?_, rfl, ?_, fun h => h⟩
          · simp only [leadsBy, leadsTie, leadsOn, if_true, List.mem_append, List.mem_map]
            exact .inl ⟨m, hs m (by simp [Say.names]), rfl⟩
          · unfold other
            rw [if_pos rfl]
theorem worked_sym {rws : List Rw} {s s2 : Say} {names : List Str} {l : Lead} (hs : ∀ x ∈ s.names, x ∈ names) (hl : l ∈ workedL rws s names) (ho : other l s = some s2) : ∃ l' ∈ workedL rws s2 names, l'.2.2 = l.2.2 ∧ other l' s2 = some s := by
  obtain ⟨r, h1, h2, h3⟩ := mem_worked.mp hl
  obtain ⟨l', g1, g2, g3, g4⟩ := lead_sym hs h2 ho
  exact ⟨l', mem_worked.mpr ⟨r, h1, g1, g4 h3⟩, g2, g3⟩
/-- a set of sayings that is closed so holds all that follows -/
theorem fol_least {rws : List Rw} {names : List Str} {M : Say → Prop} (h0 : ∀ r ∈ rws, ∀ s, sayOf r = some s → M s) (h1 : ∀ s l, M s → l ∈ workedL rws s names → (other l s = none ∨ ∃ s2, other l s = some s2 ∧ M s2) → M l.2.2) : ∀ s, Fol rws names s → M s := by
  intro s h
  induction h with
  | base hr e => exact h0 _ hr _ e
  | one _ hl ho ih => exact h1 _ _ ih hl (.inl ho)
  | two _ hl ho _ ih ih2 => exact h1 _ _ ih hl (.inr ⟨_, ho, ih2⟩)
end Ah
end
section
set_option Elab.async false
set_option linter.all false
set_option maxRecDepth 100000
set_option maxHeartbeats 4000000
namespace Ah
open PySem PySem.Spec PyProof.Rows L2
theorem len_sub {α : Type} : ∀ (l m : List α), l.Nodup → (∀ x ∈ l, x ∈ m) → l.length ≤ m.length
  | [], _, _, _ => Nat.zero_le _
  | a :: l, m, hn, h => by
    obtain ⟨m1, m2, e⟩ := List.append_of_mem (h a (List.mem_cons_self ..))
    rw [List.nodup_cons] at hn
    have ih := len_sub l (m1 ++ m2) hn.2 fun x hx => by
      have hx2 := h x (List.mem_cons_of_mem _ hx)
      rw [e] at hx2
      rcases List.mem_append.mp hx2 with q | q
      · exact List.mem_append_left _ q
      · rcases List.mem_cons.mp q with z | z
        · exact absurd (z ▸ hx) hn.1
        · exact List.mem_append_right _ z
    rw [e, List.length_append, List.length_cons]
    rw [List.length_append] at ih
    rw [List.length_cons]
    omega
theorem paired_last {α β : Type} {R : α → β → Prop} : ∀ {ws : List α} {ss : List β}, Paired R ws ss → ss ≠ [] → ∃ ws0 y ss0 s, ws = ws0 ++ [y] ∧ ss = ss0 ++ [s] ∧ Paired R ws0 ss0 ∧ R y s
  | _, _, .nil, h => (h rfl).elim
  | a :: ws, b :: ss, .cons h t, _ => by
    cases ss with
    | nil =>
      cases t
      exact ⟨[], a, [], b, rfl, rfl, .nil, h⟩
    | cons c ss =>
      obtain ⟨ws0, y, ss0, s, e1, e2, r, q⟩ := paired_last t (fun z => nomatch z)
      exact ⟨a :: ws0, y, b :: ss0, s, by rw [e1]; rfl, by rw [e2]; rfl, .cons h r, q⟩
/-- the saying is a key -/
def HasE (es : List Ent) (s : Say) : Prop := ∃ e ∈ es, e.1 = keyW s.ws
theorem hasE_val {es : List Ent} {s : Say} : HasE es s ↔ (valE es (keyW s.ws)).isSome = true := by
  rw [valE_mem]
  constructor
  · rintro ⟨e, h1, h2⟩
    exact List.mem_map.mpr ⟨e, h1, h2⟩
  · intro h
    obtain ⟨e, h1, h2⟩ := List.mem_map.mp h
    exact ⟨e, h1, h2⟩
/-- the keys are sayings that follow -/
def SayE (K : PySem.W.Frag) (H : Hp) (rws : List Rw) (names : List Str) (es : List Ent) : Prop := ∀ e ∈ es, ∃ s, Fol rws names s ∧ e.1 = keyW s.ws ∧ SqT K H e.2.1 (s.ws.map V.str)
theorem SayE.keys {K : PySem.W.Frag} {H : Hp} {rws : List Rw} {names : List Str} {es : List Ent} (h : SayE K H rws names es) : KeysIn K H es := fun e he => by
  obtain ⟨s, _, h1, h2⟩ := h e he
  rw [h1, keyW_kV]
  exact h2
theorem SayE.tk {K : PySem.W.Frag} {H H' : Hp} {rws : List Rw} {names : List Str} {es : List Ent} (k : TK H H') (h : SayE K H rws names es) : SayE K H' rws names es := fun e he => let ⟨s, h1, h2, h3⟩ := h e he; ⟨s, h1, h2, sqT_tk k h3⟩
theorem SayE.fol {K : PySem.W.Frag} {H : Hp} {rws : List Rw} {names : List Str} {es : List Ent} (h : SayE K H rws names es) {s : Say} (hs : HasE es s) : Fol rws names s := by
  obtain ⟨e, he, e1⟩ := hs
  obtain ⟨s', h1, h2, _⟩ := h e he
  rw [Say.inj (keyW_inj (e1.symm.trans h2))]
  exact h1
/-- another list is written -/
theorem RulesAt.updL {K : PySem.W.Frag} {P : Program} {w : World} {H : Hp} {o : RObj} {rws : List Rw} {names : List Str} {es : List Ent} {Wz : Addr} {ws ws' : List V} (h : RulesAt K P w H o rws names es) (hW : H Wz = some (.lst ws)) (n1 : o.rl ≠ Wz) (n2 : o.na ≠ Wz) (n3 : ∀ e ∈ es, e.2.2 ≠ V.ref Wz) :
    RulesAt K P w (L2.upd H Wz (.lst ws')) o rws names es := by
  have tk : TK H (L2.upd H Wz (.lst ws')) := (TK.refl H).updL hW
  refine ⟨?_, ?_, ?_, ?_, fun e he => ?_⟩
  · rw [upd_ne (ne_of h.ob hW (fun z => nomatch z))]
    exact h.ob
  · obtain ⟨vs, h1, h2⟩ := h.rows
    exact ⟨vs, by rw [upd_ne n1]; exact h1, h2.tk tk⟩
  · rw [upd_ne n2]
    exact h.ns
  · rw [upd_ne (ne_of h.kn hW (fun z => nomatch z))]
    exact h.kn
  · obtain ⟨s, fl, h1, h2, h3, vs, h4, h5⟩ := h.ents e he
    exact ⟨s, fl, h1, sqT_tk tk h2, h3, vs, by rw [upd_ne (fun z => n3 e he (by rw [h3, z]))]; exact h4, Paired.mapP h5 fun _ _ q => q.tk tk⟩
theorem RulesAt.updD {K : PySem.W.Frag} {P : Program} {w : World} {H : Hp} {o : RObj} {rws : List Rw} {names : List Str} {es es1 es2 : List Ent} {Dz : Addr} (h : RulesAt K P w H o rws names es) (hD : H Dz = some (DicO P w Dz es1)) (n1 : o.kd ≠ Dz) :
    RulesAt K P w (L2.upd H Dz (DicO P w Dz es2)) o rws names es := by
  have tk : TK H (L2.upd H Dz (DicO P w Dz es2)) := (TK.refl H).upd hD (fun _ z => nomatch z) (fun _ _ z => nomatch z)
  have lk : ∀ {l : Addr} {ys : List V}, H l = some (.lst ys) → (L2.upd H Dz (DicO P w Dz es2)) l = some (.lst ys) := fun {l ys} q => by
    rw [upd_ne (ne_of q hD (fun z => nomatch z))]
    exact q
  refine ⟨?_, ?_, ?_, ?_, fun e he => ?_⟩
  · rw [upd_ne (ne_of h.ob hD (fun z => nomatch z))]
    exact h.ob
  · obtain ⟨vs, h1, h2⟩ := h.rows
    exact ⟨vs, lk h1, h2.tk tk⟩
  · exact lk h.ns
  · rw [upd_ne n1]
    exact h.kn
  · obtain ⟨s, fl, h1, h2, h3, vs, h4, h5⟩ := h.ents e he
    exact ⟨s, fl, h1, sqT_tk tk h2, h3, vs, lk h4, Paired.mapP h5 fun _ _ q => q.tk tk⟩
theorem kM_far {M : List Addr} {H H' : Hp} {D : Addr} {o : HO} (n : H D = none) (k : Kept M H H') : Kept M H (L2.upd H' D o) := Kept.far (Kept.refl H) n k
/-- what is fixed while the sayings are gathered -/
structure AllFix (H : Hp) (o : RObj) (rws : List Rw) (names : List Str) (U : List Say) (Dz Wz : Addr) : Prop where
  nD : H Dz = none
  nW : H Wz = none
  n1 : o.rl ≠ Wz
  n2 : o.na ≠ Wz
  n3 : o.kd ≠ Dz
  d : OkD rws names
  u1 : U.length ≤ 1000
  u2 : ∀ s, Fol rws names s → s ∈ U
  u3 : ∀ s ∈ U, okW s.ws ∧ ∀ x ∈ s.names, x ∈ names
/-- within the loop over the leads of s -/
structure AllFor (K : PySem.W.Frag) (P : Program) (w : World) (H : Hp) (o : RObj) (rws : List Rw) (names : List Str) (Dz Wz : Addr) (s : Say) (es2 esk : List Ent) (ss0 : List Say) (fl : Addr) (fvs : List V) (H' : Hp) (j : Nat) (Hd : Hp) (ws : List V) (ss : List Say) : Prop where
  w1 : Hd Wz = some (.lst ws)
  w2 : Paired (fun v s => SayAt K Hd v s) ws ss
  f : ∀ s ∈ ss, Fol rws names s
  old : ∀ s ∈ ss0, s ∈ ss
  new : ∀ l ∈ (workedL rws s names).take j, (other l s = none ∨ ∃ s2, other l s = some s2 ∧ HasE es2 s2) → l.2.2 ∈ ss
  len : ss.length ≤ ss0.length + j
  d : Hd Dz = some (DicO P w Dz es2)
  R : RulesAt K P w Hd o rws names esk
  wk : ∀ e ∈ esk, e.2.2 ≠ V.ref Wz
  kp : Kept [o.kd] H Hd
  fl1 : Hd fl = some (.lst fvs)
  fl2 : fl ≠ Wz
  tk : TK H' Hd
theorem AllFor.push {K : PySem.W.Frag} {P : Program} {w : World} {H : Hp} {o : RObj} {rws : List Rw} {names : List Str} {U : List Say} {Dz Wz : Addr} {s : Say} {es2 esk : List Ent} {ss0 : List Say} {fl : Addr} {fvs : List V} {H' : Hp} {j : Nat} {Hd : Hp} {ws : List V} {ss : List Say} {l : Lead} {v : V}
    (X : AllFix H o rws names U Dz Wz) (h : AllFor K P w H o rws names Dz Wz s es2 esk ss0 fl fvs H' j Hd ws ss) (hl : (workedL rws s names)[j]? = some l) (hv : SayAt K Hd v l.2.2) (hf : Fol rws names l.2.2) :
    AllFor K P w H o rws names Dz Wz s es2 esk ss0 fl fvs H' (j + 1) (L2.upd Hd Wz (.lst (ws ++ [v]))) (ws ++ [v]) (ss ++ [l.2.2]) := by
  have tk : TK Hd (L2.upd Hd Wz (.lst (ws ++ [v]))) := (TK.refl Hd).updL h.w1
  refine ⟨upd_same, paired_app (Paired.mapP h.w2 fun _ _ q => q.tk tk) (.cons (hv.tk tk) .nil), fun x hx => ?_, fun x hx => List.mem_append_left _ (h.old x hx), fun l' hl' c => ?_, ?_, ?_, h.R.updL h.w1 X.n1 X.n2 h.wk, h.wk, kM_far X.nW h.kp, ?_, h.fl2, h.tk.trans tk⟩
  · rcases List.mem_append.mp hx with q | q
    · exact h.f x q
    · rw [List.mem_singleton.mp q]
      exact hf
  · rcases (mem_take_succ hl).mp hl' with q | q
    · exact List.mem_append_left _ (h.new l' q c)
    · rw [q]
      exact List.mem_append_right _ (List.mem_singleton.mpr rfl)
  · rw [List.length_append, List.length_singleton]
    have := h.len
    omega
  · rw [upd_ne (ne_of h.d h.w1 (fun z => nomatch z))]
    exact h.d
  · rw [upd_ne h.fl2]
    exact h.fl1
theorem AllFor.skip {K : PySem.W.Frag} {P : Program} {w : World} {H : Hp} {o : RObj} {rws : List Rw} {names : List Str} {Dz Wz : Addr} {s : Say} {es2 esk : List Ent} {ss0 : List Say} {fl : Addr} {fvs : List V} {H' : Hp} {j : Nat} {Hd : Hp} {ws : List V} {ss : List Say} {l : Lead}
    (h : AllFor K P w H o rws names Dz Wz s es2 esk ss0 fl fvs H' j Hd ws ss) (hl : (workedL rws s names)[j]? = some l) (hn : ¬ (other l s = none ∨ ∃ s2, other l s = some s2 ∧ HasE es2 s2)) :
    AllFor K P w H o rws names Dz Wz s es2 esk ss0 fl fvs H' (j + 1) Hd ws ss := by
  refine ⟨h.w1, h.w2, h.f, h.old, fun l' hl' c => ?_, ?_, h.d, h.R, h.wk, h.kp, h.fl1, h.fl2, h.tk⟩
  · rcases (mem_take_succ hl).mp hl' with q | q
    · exact h.new l' q c
    · rw [q] at c
      exact absurd c hn
  · have := h.len
    omega
/-- at the while -/
structure AllInv (K : PySem.W.Frag) (P : Program) (w : World) (H : Hp) (o : RObj) (rws : List Rw) (names : List Str) (Dz Wz : Addr) (n0 : Nat) (Ha : Hp) (es esk : List Ent) (ws : List V) (ss : List Say) : Prop where
  d : Ha Dz = some (DicO P w Dz es)
  nd : (es.map (·.1)).Nodup
  se : SayE K Ha rws names es
  w1 : Ha Wz = some (.lst ws)
  w2 : Paired (fun v s => SayAt K Ha v s) ws ss
  f : ∀ s ∈ ss, Fol rws names s
  R : RulesAt K P w Ha o rws names esk
  kl : esk.length ≤ es.length + n0
  wk : ∀ e ∈ esk, e.2.2 ≠ V.ref Wz
  kp : Kept [o.kd] H Ha
  sl : ss.length ≤ 1000 + es.length * (rws.length * (2 * names.length + 1))
  base : ∀ r ∈ rws, ∀ s, sayOf r = some s → HasE es s ∨ s ∈ ss
  step : ∀ s l, HasE es s → l ∈ workedL rws s names → (other l s = none ∨ ∃ s2, other l s = some s2 ∧ HasE es s2) → HasE es l.2.2 ∨ l.2.2 ∈ ss
theorem AllInv.len {K : PySem.W.Frag} {P : Program} {w : World} {H : Hp} {o : RObj} {rws : List Rw} {names : List Str} {U : List Say} {Dz Wz : Addr} {n0 : Nat} {Ha : Hp} {es esk : List Ent} {ws : List V} {ss : List Say} (X : AllFix H o rws names U Dz Wz) (h : AllInv K P w H o rws names Dz Wz n0 Ha es esk ws ss) : es.length ≤ U.length := by
  have q := len_sub (es.map (·.1)) (U.map fun s => keyW s.ws) h.nd fun k hk => by
    obtain ⟨e, he, rfl⟩ := List.mem_map.mp hk
    obtain ⟨s, h1, h2, _⟩ := h.se e he
    exact List.mem_map.mpr ⟨s, X.u2 s h1, h2.symm⟩
  rw [List.length_map, List.length_map] at q
  exact q
end Ah
end
section
set_option Elab.async false
set_option linter.all false
set_option maxRecDepth 100000
set_option maxHeartbeats 8000000
namespace Ah
open PySem PySem.Spec PyProof.Rows L2
theorem scAR : FnScope ["rules", "found", "waiting", "row", "saying", "_", "first", "second", "result", "other"] ["rules"] (defScope sAll) := ⟨rfl, rfl, rfl, by decide +kernel, rfl, by decide +kernel, by decide +kernel⟩
def spAll (K : PySem.W.Frag) (P : Program) (w : World) (C : Addr) : Sp := fun vs H Q _ => ∃ (o : RObj) (rws : List Rw) (names : List Str) (esk : List Ent) (U : List Say), vs = [.ref o.ro] ∧ o.C = C ∧ RulesAt K P w H o rws names esk ∧ OkD rws names ∧ esk.length ≤ 1000 ∧ U.length ≤ 1000 ∧ (U.length + 1) * (rws.length * (2 * names.length + 1)) ≤ 10000000 ∧
  (∀ s, Fol rws names s → s ∈ U) ∧ (∀ s ∈ U, okW s.ws ∧ ∀ x ∈ s.names, x ∈ names) ∧
  ∀ p H' es, Kept [o.kd] H H' → H p = none → H' p = some (DicO P w p es) → SayE K H' rws names es → (∀ s, HasE es s ↔ Fol rws names s) → (es.map (·.1)).Nodup → es.length ≤ 1000 → Q (.ref p) H'
theorem row_test (r : Rw) : ∃ h rest, r.ws = h :: rest ∧ inV (V.str h) [V.str "is", V.str "has"] = (sayOf r).isSome := by
  cases r <;> exact ⟨_, _, rfl, by rfl⟩
theorem say_ws {r : Rw} {s : Say} (h : sayOf r = some s) : r.ws = s.ws := by
  cases r <;> simp [sayOf] at h <;> subst h <;> rfl
section
variable {P : Program} {w : World} {K : PySem.W.Frag} {mg : Str → Option Value} {base : Heap} {f fL C : Addr} {fd fdL : FuncData}
theorem ok_all (F : FnP K "all_results" sAll f fd) (CR : ClsR K C) (mL : Meth K C "leads" fL) (FL : FnOk P w K mg base CX0 5 fL fdL ["self", "saying"] (spLeads K P w C)) (bL : Binds K fdL ["self", "saying"] []) :
    FnOk P w K mg base CX0 6 f fd ["rules"] (spAll K P w C) := by
  refine F.ok scAR (fun vs H Q E h => ?_) (fun cdv A outer s H vs Q E hr h => ?_)
  · obtain ⟨o, rws, names, esk, U, rfl, _⟩ := h
    rfl
  · obtain ⟨o, rws, names, esk0, U, rfl, rfl, R, D, hk0, hU1, hB, hU2, hU3, q⟩ := h
    have hu : A.units + 3 + 1 < cLine := by have := hr.units; exact (by have h2 : (A.deeper (envOfC "all_results" (defScope sAll) s.heap.objs.size f cdv)).units = A.units + 3 := rfl; omega)
    refine ⟨_, PSs.nox (pss_cons (ps_set (i := 1) scAR.nd rfl (.inl rfl) pe_dicNew)
      (pss_cons (ps_setLc (i := 2) (own := [("row", 3)]) rfl scAR.nd rfl rfl (sw_true rfl rfl rfl (by decide +kernel)) (pi_list (pe_fld (pv 0) rfl)) (blkOk_by (N := ["rules", "found", "waiting", "row", "saying", "_", "first", "second", "result", "other"]) (sc := defScope sAll) (by decide +kernel)) (fun _ _ _ _ _ => (pg_name (i := 3) scAR.nd rfl (Or.inl rfl))) (fun _ _ _ _ _ => (pts_one (pt_cmpR (show OpR _ _ (rIn K false) from op_in_seq) (pe_ix (show IxR _ (rIxT K) from ix_tup) (pv 3) pe_int (fun _ _ => rfl)) (pe_tup (pa_cons pe_str (pa_cons pe_str pa_nil))) (by rfl)))) (fun _ _ _ _ _ => (pv 3)))
      (pss_cons (ps_while PassesOwn.never (pt_truth (pv 2) (by intro _; rfl))
      (pss_cons (ps_set (i := 4) scAR.nd rfl (.inl rfl) (pe_bm0 PySem.F.plainAttrs_list PySem.F.slot_list_pop PySem.F.type_list_pop mt_pop (pv 2)))
      (pss_one (ps_if (pt_cmpR (op_notIn_dic hu) (pv 4) (pv 1) (by rfl)) (pss_cons (ps_asg pe_bl (pg_sub (pv 1) (pv 4) (set_dic hu)))
      (pss_one (ps_for PassesOwn.never rfl (pi_list (pe_meth (pv 0) CR.c mL FL hr bL .nil pass0 (pa_cons (pv 4) pa_nil))) (pg_tup rfl (pgs_cons (pg_name (i := 5) scAR.nd rfl (Or.inl rfl)) (pgs_cons (pg_name (i := 6) scAR.nd rfl (Or.inl rfl)) (pgs_cons (pg_name (i := 7) scAR.nd rfl (Or.inl rfl)) (pgs_cons (pg_name (i := 8) scAR.nd rfl (Or.inl rfl)) pgs_nil)))))
      (pss_cons (ps_set (i := 9) scAR.nd rfl (.inl rfl) (pe_ifExp (pt_cmpR (op_eqD hr.units) (pv 6) (pv 4) (nomark _)) (pv 7) (pv 6)))
      (pss_one (ps_if (PW.pt (pw_or (pt_cmpR op_isN (pv 9) pe_non (nomark _)) (pw_or1 (pt_cmpR (op_in_dic hu) (pv 9) (pv 1) (by rfl))))) (pss_one (ps_expr (pe_bm PySem.F.plainAttrs_list PySem.F.slot_list_append PySem.F.type_list_append mt_append (pv 2) (pa_cons (pv 8) pa_nil)))) pss_nil)))))) pss_nil))))
      (pss_one (ps_ret (pv 1)))))), ?_⟩
    intro Dz nD
    have R1 := R.kept ((Kept.refl (M := []) H).upd (o := DicO P w Dz []) nD)
    obtain ⟨vs, hvs, rvs⟩ := R1.rows
    have lvs : vs.length = rws.length := rvs.length
    refine ⟨_, rfl, _, _, _, _, _, rfl, R1.ob, CR.c, CR.n1, rfl, o.rl, rfl, ⟨vs, .inl (.of hvs)⟩, fun Wz nW => ?_⟩
    have nW0 : H Wz = none := none_of ((Kept.refl H).upd nD) nW
    have dw : Dz ≠ Wz := fun z => by
      rw [← z, upd_same] at nW
      cases nW
    have X : AllFix H o rws names U Dz Wz := by
      refine ⟨nD, nW0, ne_of_none hvs nW, ?_, ?_, D, hU1, hU2, hU3⟩
      · exact ne_of_none R1.ns nW
      · exact ne_of_none R.kn nD
    refine lc_it (walk_list (K := K) (a := o.rl) (xs := vs)) (fun i Ha => ∃ ws, Ha Wz = some (.lst ws) ∧ Paired (fun v s => SayAt K Ha v s) ws ((rws.take i).filterMap sayOf) ∧ Kept [] (L2.upd H Dz (DicO P w Dz [])) Ha)
      ⟨[], upd_same, .nil, (Kept.refl _).upd nW⟩ (fun i Ha _ pv => .inl (.of (pv.choose_spec.2.2 _ _ hvs (by simp)))) ?_ ?_
    · rintro i x Ha0 Ha hi ⟨ws, e1, r1, kk⟩ ⟨rfl, ey⟩
      obtain ⟨r, er, pr, rfl, hrow0⟩ := paired_at rvs ey
      have hrow : RowAt K Ha pr r := sqT_tk (.of kk) hrow0
      obtain ⟨hd, rest, ew, ei⟩ := row_test r
      have hrow2 : SqT K Ha pr (V.str hd :: rest.map V.str) := by
        unfold RowAt at hrow
        rw [ew] at hrow
        exact hrow
      refine ⟨rfl, ?_⟩
      refine ⟨_, rfl, pr, _, 0, _, rfl, rfl, hrow2, at_of (j := 0) rfl rfl, (by show 2 ≤ sizeLine; decide), fun Tp nT => ⟨Tp, _, rfl, .inr (.inl (.of upd_same)), rfl, rfl, ?_⟩⟩
      have eW : (L2.upd Ha Tp (.tup [V.str "is", V.str "has"])) Wz = some (.lst ws) := by rw [upd_ne (ne_of_none e1 nT)]; exact e1
      have kT : Kept [] (L2.upd H Dz (DicO P w Dz [])) (L2.upd Ha Tp (.tup [V.str "is", V.str "has"])) := kk.upd nT
      have tkT : TK Ha (L2.upd Ha Tp (.tup [V.str "is", V.str "has"])) := (TK.refl Ha).new nT
      have et : (rws.take (i + 1)).filterMap sayOf = (rws.take i).filterMap sayOf ++ (sayOf r).toList := by
        rw [List.take_add_one, er, List.filterMap_append]
        congr 1
      simp only [Bool.false_eq_true, if_false]
      rw [ei]
      cases hs : sayOf r with
      | none =>
        refine ⟨false, rfl, iteF ⟨ws, eW, ?_, kT⟩⟩
        rw [et, hs]
        simp only [Option.toList, List.append_nil]
        exact Paired.mapP r1 fun _ _ q => q.tk tkT
      | some sy =>
        have lw : ws.length ≤ 1000 := by
          have h1 := r1.length
          have h2 := List.length_filterMap_le sayOf (rws.take i)
          rw [List.length_take] at h2
          have h3 := D.l1
          omega
        refine ⟨true, rfl, iteT ⟨_, rfl, ws, eW, Nat.lt_of_le_of_lt lw (by decide), ws ++ [V.ref pr], upd_same, ?_, kD_far nW kT⟩⟩
        rw [et, hs]
        have tk2 := tkT.updL (o := .lst (ws ++ [V.ref pr])) eW
        refine paired_app (Paired.mapP r1 fun _ _ q => q.tk tk2) (.cons ⟨pr, rfl, ?_⟩ .nil)
        have h1 := sqT_tk tk2 hrow
        rw [say_ws hs] at h1
        exact h1
    · rintro Ha ⟨ws, e1, r1, kk⟩
      rw [lvs, List.take_of_length_le (Nat.le_refl _)] at r1
      have R2 := R1.kept kk
      have kH : Kept [o.kd] H Ha := fun b u e hb => kk _ _ (((Kept.refl (M := []) H).upd (o := DicO P w Dz []) nD) _ _ e (by simp)) (by simp)
      have I0 : AllInv K P w H o rws names Dz Wz esk0.length Ha [] esk0 ws (rws.filterMap sayOf) := by
        refine ⟨kk _ _ upd_same (by simp), List.nodup_nil, fun e he => absurd he (by simp), e1, r1, fun s hs => ?_, R2, by simp, fun e he => ?_, kH, (by have h1 := List.length_filterMap_le sayOf rws; have h2 := D.l1; simp only [List.length_nil]; omega), fun r hr s hs => .inr (List.mem_filterMap.mpr ⟨r, hr, hs⟩), fun s l h => absurd h (by rintro ⟨e, he, _⟩; exact absurd he (by simp))⟩
        · obtain ⟨r, hr, e⟩ := List.mem_filterMap.mp hs
          exact .base hr e
        · obtain ⟨s', fl, h1, h2, h3, vs', h4, h5⟩ := R1.ents e he
          rw [h3]
          exact fun z => ne_of_none h4 nW (V.ref.inj z)
      refine ⟨fun m σ Ha => ∃ es esk ws ss, (∃ v3 v4 v5 v6 v7 v8 v9, σ = [some (.ref o.ro), some (.ref Dz), some (.ref Wz), v3, v4, v5, v6, v7, v8, v9]) ∧ AllInv K P w H o rws names Dz Wz esk0.length Ha es esk ws ss ∧ m = (U.length - es.length) * (1000 * 2001 + 1) + ss.length,
        ⟨_, [], esk0, ws, _, ⟨_, _, _, _, _, _, _, rfl⟩, I0, rfl⟩, ?_⟩
      rintro m σ Ha ⟨es, esk, ws, ss, ⟨v3, v4, v5, v6, v7, v8, v9, rfl⟩, I, rfl⟩
      by_cases hss : ss = []
      · subst hss
        have ew : ws = [] := by
          have h := I.w2.length
          cases ws with
          | nil => rfl
          | cons a b => simp at h
        subst ew
        refine ⟨_, rfl, false, .inl ⟨[], .inl (.of I.w1), rfl⟩, iteF ?_⟩
        refine ⟨_, rfl, q Dz Ha es I.kp nD I.d I.se (fun s => ⟨fun h => I.se.fol h, fun h => ?_⟩) I.nd (Nat.le_trans (I.len X) hU1)⟩
        refine fol_least (M := HasE es) (fun r hr s hs => ?_) (fun s l hs hl ho => ?_) s h
        · rcases I.base r hr s hs with z | z
          · exact z
          · exact absurd z (by simp)
        · rcases I.step s l hs hl ho with z | z
          · exact z
          · exact absurd z (by simp)
      · obtain ⟨ws0, y, ss0, sy, e1', e2', r0, hsy⟩ := paired_last I.w2 hss
        subst e1' e2'
        have fs : Fol rws names sy := I.f sy (List.mem_append_right _ (List.mem_singleton.mpr rfl))
        have oks := (hU3 sy (hU2 sy fs)).1
        have lU := I.len X
        have sl0 : ss0.length ≤ 1000 + es.length * (rws.length * (2 * names.length + 1)) := by
          have h := I.sl
          rw [List.length_append, List.length_singleton] at h
          omega
        refine ⟨_, rfl, true, .inl ⟨ws0 ++ [y], .inl (.of I.w1), by simp⟩, iteT ?_⟩
        refine ⟨fun σ' H' => ∃ m', m' < (U.length - es.length) * (1000 * 2001 + 1) + (ss0 ++ [sy]).length ∧ ∃ es esk ws ss, (∃ v3 v4 v5 v6 v7 v8 v9, σ' = [some (.ref o.ro), some (.ref Dz), some (.ref Wz), v3, v4, v5, v6, v7, v8, v9]) ∧ AllInv K P w H o rws names Dz Wz esk0.length H' es esk ws ss ∧ m' = (U.length - es.length) * (1000 * 2001 + 1) + ss.length, fun σ' H' h => h, ?_⟩
        refine ⟨_, rfl, .inl ⟨rfl, ws0 ++ [y], .inl (.of I.w1)⟩, Wz, ws0 ++ [y], y, rfl, rfl, I.w1, by simp, ?_⟩
        rw [List.dropLast_concat]
        -- the list is shorter by one
        have tkb : TK Ha (L2.upd Ha Wz (.lst ws0)) := (TK.refl Ha).updL I.w1
        have eDb : (L2.upd Ha Wz (.lst ws0)) Dz = some (DicO P w Dz es) := by rw [upd_ne dw]; exact I.d
        have Rb : RulesAt K P w (L2.upd Ha Wz (.lst ws0)) o rws names esk := I.R.updL I.w1 X.n1 X.n2 I.wk
        have seb := I.se.tk tkb
        have hsyb := hsy.tk tkb
        have kb : Kept [o.kd] H (L2.upd Ha Wz (.lst ws0)) := kM_far nW0 I.kp
        generalize hHb : L2.upd Ha Wz (.lst ws0) = Hb at tkb eDb Rb seb hsyb kb
        have eWb : Hb Wz = some (.lst ws0) := by rw [← hHb]; exact upd_same
        obtain ⟨sa, rfl, hsa⟩ := id hsyb
        have hkey : SqT K Hb sa ((keyW sy.ws).map kV) := by
          rw [keyW_kV]
          exact hsa
        refine ⟨_, rfl, _, rfl, Dz, sa, es, keyW sy.ws, rfl, rfl, .inl eDb, seb.keys, hkey, ?_⟩
        cases hv : valE es (keyW sy.ws) with
        | some v =>
          have hh : HasE es sy := hasE_val.mpr (by rw [hv]; rfl)
          have dr : ∀ s, s ∈ ss0 ++ [sy] → HasE es s ∨ s ∈ ss0 := fun s h => by
            rcases List.mem_append.mp h with z | z
            · exact .inr z
            · rw [List.mem_singleton.mp z]
              exact .inl hh
          refine ⟨false, rfl, iteF ⟨_, ?_, es, esk, ws0, ss0, ⟨_, _, _, _, _, _, _, rfl⟩, ⟨eDb, I.nd, seb, eWb, Paired.mapP r0 fun _ _ q => q.tk tkb, fun s hs => I.f s (List.mem_append_left _ hs), Rb, I.kl, I.wk, kb, sl0, fun r hr s hs => ?_, fun s l h1 h2 h3 => ?_⟩, rfl⟩⟩
          · rw [List.length_append, List.length_singleton]
            omega
          · rcases I.base r hr s hs with z | z
            · exact .inl z
            · exact dr s z
          · rcases I.step s l h1 h2 h3 with z | z
            · exact .inl z
            · exact dr _ z
        | none =>
          have hsz : es.length < sizeLine := Nat.lt_of_le_of_lt (show es.length ≤ 1000 by omega) (by decide)
          refine ⟨true, rfl, iteT ?_⟩
          refine ⟨_, rfl, _, rfl, Dz, sa, es, keyW sy.ws, rfl, rfl, eDb, seb.keys, hkey, hsz, ?_⟩
          rw [putE_new hv]
          generalize hes2 : es ++ [(keyW sy.ws, sa, V.bl true)] = es2
          have tkc : TK Hb (L2.upd Hb Dz (DicO P w Dz es2)) := (TK.refl Hb).upd eDb (fun _ z => nomatch z) (fun _ _ z => nomatch z)
          have Rc : RulesAt K P w (L2.upd Hb Dz (DicO P w Dz es2)) o rws names esk := Rb.updD eDb X.n3
          have l2 : es2.length = es.length + 1 := by rw [← hes2, List.length_append, List.length_singleton]
          have nd2 : (es2.map (·.1)).Nodup := by
            have h := putE_nodup (keyW sy.ws) sa (V.bl true) I.nd
            rw [putE_new hv, hes2] at h
            exact h
          have has2 : ∀ s, HasE es2 s ↔ HasE es s ∨ s = sy := fun s => by
            constructor
            · rintro ⟨e, he, ek⟩
              rw [← hes2] at he
              rcases List.mem_append.mp he with z | z
              · exact .inl ⟨e, z, ek⟩
              · rw [List.mem_singleton.mp z] at ek
                exact .inr (Say.inj (keyW_inj ek.symm))
            · rintro (⟨e, he, ek⟩ | z)
              · exact ⟨e, by rw [← hes2]; exact List.mem_append_left _ he, ek⟩
              · exact ⟨_, by rw [← hes2]; exact List.mem_append_right _ (List.mem_singleton.mpr rfl), by rw [z]⟩
          have sec : SayE K (L2.upd Hb Dz (DicO P w Dz es2)) rws names es2 := fun e he => by
            rw [← hes2] at he
            rcases List.mem_append.mp he with z | z
            · exact (seb.tk tkc) e z
            · rw [List.mem_singleton.mp z]
              exact ⟨sy, fs, rfl, sqT_tk tkc hsa⟩
          have hsyc : SayAt K (L2.upd Hb Dz (DicO P w Dz es2)) (V.ref sa) sy := SayAt.tk tkc ⟨sa, rfl, hsa⟩
          have eWc : (L2.upd Hb Dz (DicO P w Dz es2)) Wz = some (.lst ws0) := by rw [upd_ne (Ne.symm dw)]; exact eWb
          have eDc : (L2.upd Hb Dz (DicO P w Dz es2)) Dz = some (DicO P w Dz es2) := upd_same
          have kc : Kept [o.kd] H (L2.upd Hb Dz (DicO P w Dz es2)) := kM_far nD kb
          have r0c := Paired.mapP r0 fun _ _ q => SayAt.tk tkc (SayAt.tk tkb q)
          have lU2 : es2.length ≤ U.length := by
            have qq := len_sub (es2.map (·.1)) (U.map fun s => keyW s.ws) nd2 fun k hk => by
              obtain ⟨e, he, rfl⟩ := List.mem_map.mp hk
              obtain ⟨s, h1, h2, _⟩ := sec e he
              exact List.mem_map.mpr ⟨s, hU2 s h1, h2.symm⟩
            rw [List.length_map, List.length_map] at qq
            exact qq
          have kl := I.kl
          refine ⟨_, rfl, o.ro, o.dx, _, rfl, Rc.ob, rfl, _, rfl, o, _, rws, names, esk, sy, rfl, rfl, Rc, hsyc, oks, D, by omega, fun fl Hl esk2 k2 R2 lk fa sep => ?_⟩
          obtain ⟨fw, esk3⟩ := sep Wz (fun z => by have q := eWc.symm.trans z; cases q) I.wk
          obtain ⟨fvs, efl, rfl2⟩ := fa
          have nWk : Wz ≠ o.kd := ne_of eWc Rc.kn (fun z => nomatch z)
          have nDk : Dz ≠ o.kd := Ne.symm X.n3
          have tkl : TK (L2.upd Hb Dz (DicO P w Dz es2)) Hl := ⟨fun b ys h => k2 b _ h (by simp; exact ne_of h Rc.kn (fun z => nomatch z)), fun b ob u h => k2 b _ h (by simp; exact ne_of h Rc.kn (fun z => nomatch z))⟩
          have bdw : (workedL rws sy names).length ≤ 1000 * 2001 := by
            refine Nat.le_trans (worked_len names sy rws) (Nat.mul_le_mul D.l1 ?_)
            have := D.l2
            omega
          have lf : fvs.length = (workedL rws sy names).length := rfl2.length
          have G0 : AllFor K P w H o rws names Dz Wz sy es2 esk2 ss0 fl fvs Hl 0 Hl ws0 ss0 :=
            ⟨k2 _ _ eWc (by simp [nWk]), Paired.mapP r0c fun _ _ q => q.tk tkl, fun s hs => I.f s (List.mem_append_left _ hs), fun _ h => h, fun l hl => absurd hl (by simp), Nat.le_refl _, k2 _ _ eDc (by simp [nDk]), R2, esk3, kc.trans k2, efl, fw, TK.refl Hl⟩
          have se2 := sec.tk tkl
          have lss : ss0.length ≤ 1000 + 10000000 := by
            have h1 : es.length * (rws.length * (2 * names.length + 1)) ≤ (U.length + 1) * (rws.length * (2 * names.length + 1)) := Nat.mul_le_mul_right _ (by omega)
            omega
          refine ⟨fl, rfl, ⟨_, .inl (.of efl)⟩, for_it (walk_list (K := K) (a := fl) (xs := fvs))
            (fun j σ Hd => (∃ v3 v5 v6 v7 v8 v9, σ = [some (.ref o.ro), some (.ref Dz), some (.ref Wz), v3, some (.ref sa), v5, v6, v7, v8, v9]) ∧ ∃ ws2 ss2, AllFor K P w H o rws names Dz Wz sy es2 esk2 ss0 fl fvs Hl j Hd ws2 ss2)
            ⟨⟨_, _, _, _, _, _, rfl⟩, ws0, ss0, G0⟩ (fun j σ Hd _ pv => .inl (.of pv.2.choose_spec.choose_spec.fl1)) ?_ ?_⟩
          · rintro j x σ Hd0 Hd hj ⟨⟨v3, v5, v6, v7, v8, v9, rfl⟩, ws2, ss2, G⟩ ⟨rfl, ey⟩
            obtain ⟨l, hl, hla⟩ := paired_at rfl2 ey
            obtain ⟨qa, nn, w1, w2, w3, rfl, t1, s1, s2', s3⟩ := hla.tk G.tk
            have hlm : l ∈ workedL rws sy names := List.mem_of_getElem? hl
            have hsd : SayAt K Hd (V.ref sa) sy := (hsyc.tk tkl).tk G.tk
            obtain ⟨rr, hr1, hr2, hr3⟩ := mem_worked.mp hlm
            have ol := okL_by (D.rok rr hr1) oks D.nok l hr2
            have gl := G.len
            have lw2 : ws2.length = ss2.length := G.w2.length
            refine ⟨qa, _, rfl, .inl (.of t1), rfl, _, _, rfl, _, _, rfl, _, _, rfl, _, _, rfl, rfl, ?_⟩
            refine ⟨_, rfl, _, rfl, rd_eqS (s := l.1) (t := sy) s1 hsd ol.1 oks ⟨_, rfl, if_dec (fun e => ?_) (fun e => ?_)⟩⟩
            · refine ⟨_, rfl, ?_⟩
              have oX : OSayAt K Hd w2 (other l sy) := by
                unfold other
                rw [if_pos e]
                exact s2'
              cases ho : other l sy with
              | none =>
                obtain rfl : w2 = V.non := by
                  have q := oX
                  rw [ho] at q
                  exact q
                refine ⟨_, rfl, rfl, _, rfl, ?_⟩
                rw [decide_eq_true rfl]
                refine iteT ?_
                refine ⟨_, rfl, .inl ⟨rfl, ws2, .inl (.of G.w1)⟩, _, rfl, Wz, ws2, _, rfl, rfl, G.w1, ?_, ⟨⟨_, _, _, _, _, _, rfl⟩, _, _, G.push X hl s3 (.one fs hlm ho)⟩⟩
                exact Nat.lt_of_le_of_lt (show ws2.length ≤ 1000 + 10000000 + 2001000 by omega) (by decide)
              | some s2 =>
                obtain ⟨a2, rfl, ha2⟩ : SayAt K Hd w2 s2 := by
                  have q := oX
                  rw [ho] at q
                  exact q
                refine ⟨_, rfl, rfl, _, rfl, ?_⟩
                rw [decide_eq_false (fun z => nomatch z)]
                refine iteF ?_
                have ha3 : SqT K Hd a2 ((keyW s2.ws).map kV) := by
                  rw [keyW_kV]
                  exact ha2
                refine ⟨_, rfl, _, rfl, Dz, a2, es2, keyW s2.ws, rfl, rfl, .inl G.d, (se2.tk G.tk).keys, ha3, ?_⟩
                cases hv2 : valE es2 (keyW s2.ws) with
                | some v =>
                  have hh : HasE es2 s2 := hasE_val.mpr (by rw [hv2]; rfl)
                  refine ⟨true, rfl, iteT ?_⟩
                  refine ⟨_, rfl, .inl ⟨rfl, ws2, .inl (.of G.w1)⟩, _, rfl, Wz, ws2, _, rfl, rfl, G.w1, ?_, ⟨⟨_, _, _, _, _, _, rfl⟩, _, _, G.push X hl s3 (.two fs hlm ho (se2.fol hh))⟩⟩
                  exact Nat.lt_of_le_of_lt (show ws2.length ≤ 1000 + 10000000 + 2001000 by omega) (by decide)
                | none =>
                  have hh : ¬ (other l sy = none ∨ ∃ s2, other l sy = some s2 ∧ HasE es2 s2) := by
                    rintro (z | ⟨s3', z1, z2⟩)
                    · rw [ho] at z
                      cases z
                    · rw [ho] at z1
                      rw [← Option.some.inj z1] at z2
                      have z3 := hasE_val.mp z2
                      rw [hv2] at z3
                      cases z3
                  exact ⟨false, rfl, iteF ⟨⟨_, _, _, _, _, _, rfl⟩, _, _, G.skip hl hh⟩⟩
            · refine ⟨_, rfl, ?_⟩
              have oX : OSayAt K Hd w1 (other l sy) := by
                unfold other
                rw [if_neg e]
                exact s1
              cases ho : other l sy with
              | none =>
                obtain rfl : w1 = V.non := by
                  have q := oX
                  rw [ho] at q
                  exact q
                refine ⟨_, rfl, rfl, _, rfl, ?_⟩
                rw [decide_eq_true rfl]
                refine iteT ?_
                refine ⟨_, rfl, .inl ⟨rfl, ws2, .inl (.of G.w1)⟩, _, rfl, Wz, ws2, _, rfl, rfl, G.w1, ?_, ⟨⟨_, _, _, _, _, _, rfl⟩, _, _, G.push X hl s3 (.one fs hlm ho)⟩⟩
                exact Nat.lt_of_le_of_lt (show ws2.length ≤ 1000 + 10000000 + 2001000 by omega) (by decide)
              | some s2 =>
                obtain ⟨a2, rfl, ha2⟩ : SayAt K Hd w1 s2 := by
                  have q := oX
                  rw [ho] at q
                  exact q
                refine ⟨_, rfl, rfl, _, rfl, ?_⟩
                rw [decide_eq_false (fun z => nomatch z)]
                refine iteF ?_
                have ha3 : SqT K Hd a2 ((keyW s2.ws).map kV) := by
                  rw [keyW_kV]
                  exact ha2
                refine ⟨_, rfl, _, rfl, Dz, a2, es2, keyW s2.ws, rfl, rfl, .inl G.d, (se2.tk G.tk).keys, ha3, ?_⟩
                cases hv2 : valE es2 (keyW s2.ws) with
                | some v =>
                  have hh : HasE es2 s2 := hasE_val.mpr (by rw [hv2]; rfl)
                  refine ⟨true, rfl, iteT ?_⟩
                  refine ⟨_, rfl, .inl ⟨rfl, ws2, .inl (.of G.w1)⟩, _, rfl, Wz, ws2, _, rfl, rfl, G.w1, ?_, ⟨⟨_, _, _, _, _, _, rfl⟩, _, _, G.push X hl s3 (.two fs hlm ho (se2.fol hh))⟩⟩
                  exact Nat.lt_of_le_of_lt (show ws2.length ≤ 1000 + 10000000 + 2001000 by omega) (by decide)
                | none =>
                  have hh : ¬ (other l sy = none ∨ ∃ s2, other l sy = some s2 ∧ HasE es2 s2) := by
                    rintro (z | ⟨s3', z1, z2⟩)
                    · rw [ho] at z
                      cases z
                    · rw [ho] at z1
                      rw [← Option.some.inj z1] at z2
                      have z3 := hasE_val.mp z2
                      rw [hv2] at z3
                      cases z3
                  exact ⟨false, rfl, iteF ⟨⟨_, _, _, _, _, _, rfl⟩, _, _, G.skip hl hh⟩⟩
          · rintro σ Hd ⟨⟨v3, v5, v6, v7, v8, v9, rfl⟩, ws2, ss2, G⟩
            have gl := G.len
            rw [lf] at gl
            have gn := G.new
            rw [lf, List.take_of_length_le (Nat.le_refl _)] at gn
            refine ⟨_, ?_, es2, esk2, ws2, ss2, ⟨_, _, _, _, _, _, _, rfl⟩, ⟨G.d, nd2, se2.tk G.tk, G.w1, G.w2, G.f, G.R, by omega, G.wk, G.kp, ?_, fun r hr s hs => ?_, fun s l h1 h2 h3 => ?_⟩, rfl⟩
            · rw [List.length_append, List.length_singleton, l2]
              have ea : U.length - es.length = (U.length - (es.length + 1)) + 1 := by omega
              rw [ea, Nat.add_mul]
              omega
            · have wl := worked_len names sy rws
              rw [l2, Nat.add_mul]
              omega
            · rcases I.base r hr s hs with z | z
              · exact .inl ((has2 s).mpr (.inl z))
              · rcases List.mem_append.mp z with z | z
                · exact .inr (G.old s z)
                · exact .inl ((has2 s).mpr (.inr (List.mem_singleton.mp z)))
            · have up : HasE es l.2.2 ∨ l.2.2 ∈ ss0 ++ [sy] → HasE es2 l.2.2 ∨ l.2.2 ∈ ss2 := fun z => by
                rcases z with z | z
                · exact .inl ((has2 _).mpr (.inl z))
                · rcases List.mem_append.mp z with z | z
                  · exact .inr (G.old _ z)
                  · exact .inl ((has2 _).mpr (.inr (List.mem_singleton.mp z)))
              rcases (has2 s).mp h1 with z1 | z1
              · rcases h3 with z3 | ⟨s2, z3, z4⟩
                · exact up (I.step s l z1 h2 (.inl z3))
                · rcases (has2 s2).mp z4 with z5 | z5
                  · exact up (I.step s l z1 h2 (.inr ⟨s2, z3, z5⟩))
                  · subst z5
                    obtain ⟨l', g1, g2, g3⟩ := worked_sym (hU3 s (hU2 s (I.se.fol z1))).2 h2 z3
                    rw [← g2]
                    exact .inr (gn l' g1 (.inr ⟨s, g3, (has2 s).mpr (.inl z1)⟩))
              · subst z1
                exact .inr (gn l h2 h3)
end
end Ah
end
section
set_option Elab.async false
set_option linter.all false
set_option maxRecDepth 100000
set_option maxHeartbeats 4000000
namespace Ah
open PySem PySem.Spec PyProof.Rows L2
/-! ### the law's few words -/
def rowNames : Rw → List Str
  | .is n _ => [n] | .isnt n _ => [n] | .has n _ m => [n, m] | .hasnt n _ m => [n, m] | .each _ _ m => [m] | _ => []
theorem told_name (r : Rw) : toldW "name" r.ws = rowNames r := by
  cases r <;> rfl
def Say.few : Say → Prop
  | .is n k => n ∈ namesL ∧ k ∈ kindsL | .has n t m => n ∈ namesL ∧ t ∈ tiesL ∧ m ∈ namesL | .clash => True
def allSay : List Say := (namesL.flatMap fun n => kindsL.map fun k => Say.is n k) ++ (namesL.flatMap fun n => tiesL.flatMap fun t => namesL.map fun m => Say.has n t m) ++ [.clash]
theorem mem_allSay {s : Say} (h : s.few) : s ∈ allSay := by
  unfold allSay
  cases s with
  | clash => simp
  | is n k =>
    obtain ⟨h1, h2⟩ := h
    refine List.mem_append_left _ (List.mem_append_left _ (List.mem_flatMap.mpr ⟨n, h1, List.mem_map.mpr ⟨k, h2, rfl⟩⟩))
  | has n t m =>
    obtain ⟨h1, h2, h3⟩ := h
    refine List.mem_append_left _ (List.mem_append_right _ (List.mem_flatMap.mpr ⟨n, h1, List.mem_flatMap.mpr ⟨t, h2, List.mem_map.mpr ⟨m, h3, rfl⟩⟩⟩))
theorem allSay_len : allSay.length = 28 := by decide +kernel
theorem allSay_ok : ∀ s ∈ allSay, okW s.ws := by
  unfold okW
  decide +kernel
theorem few_word : ∀ w ∈ namesL ++ kindsL ++ tiesL, PyData.strOk w = true ∧ isWord w = true := by decide +kernel
theorem w_name {w : Str} (h : w ∈ namesL) : PyData.strOk w = true ∧ isWord w = true := few_word w (List.mem_append_left _ (List.mem_append_left _ h))
theorem w_kind {w : Str} (h : w ∈ kindsL) : PyData.strOk w = true ∧ isWord w = true := few_word w (List.mem_append_left _ (List.mem_append_right _ h))
theorem w_tie {w : Str} (h : w ∈ tiesL) : PyData.strOk w = true ∧ isWord w = true := few_word w (List.mem_append_right _ h)
theorem few_ok {r : Rw} (h : r.few) : okW r.ws := by
  unfold okW
  cases r <;> simp only [Rw.few] at h <;> simp only [Rw.ws, List.all_cons, List.all_nil, Bool.and_true, Bool.and_eq_true]
  case is n k => exact ⟨by decide +kernel, (w_name h.1).1, (w_kind h.2).1⟩
  case isnt n k => exact ⟨by decide +kernel, (w_name h.1).1, (w_kind h.2).1⟩
  case has n t m => exact ⟨by decide +kernel, (w_name h.1).1, (w_tie h.2.1).1, (w_name h.2.2).1⟩
  case hasnt n t m => exact ⟨by decide +kernel, (w_name h.1).1, (w_tie h.2.1).1, (w_name h.2.2).1⟩
  case all k l => exact ⟨by decide +kernel, (w_kind h.1).1, (w_kind h.2).1⟩
  case no k l => exact ⟨by decide +kernel, (w_kind h.1).1, (w_kind h.2).1⟩
  case each k t m => exact ⟨by decide +kernel, (w_kind h.1).1, (w_tie h.2.1).1, (w_name h.2.2).1⟩
  case who t k l => exact ⟨by decide +kernel, (w_tie h.1).1, (w_kind h.2.1).1, (w_kind h.2.2).1⟩
  case turned t s => exact ⟨by decide +kernel, (w_tie h.1).1, (w_tie h.2).1⟩
  case on t => exact ⟨by decide +kernel, (w_tie h).1⟩
  case fr t k => exact ⟨by decide +kernel, (w_tie h.1).1, (w_kind h.2).1⟩
  case to t k => exact ⟨by decide +kernel, (w_tie h.1).1, (w_kind h.2).1⟩
  case under t s => exact ⟨by decide +kernel, (w_tie h.1).1, (w_tie h.2).1⟩
theorem rowL_of {h : Str} {rest ps : List Str} (e : formsL.lookup h = some ps) (hl : rest.length = ps.length) (hw : ∀ w ∈ rest, isWord w = true) : isRowL ((h :: rest).map V.str) = true := by
  show (match formsL.lookup h with
    | some ps => decide ((rest.map V.str).length = ps.length) && (rest.map V.str).all isWordV
    | none => false) = true
  rw [e]
  dsimp only
  rw [List.length_map, decide_eq_true hl, Bool.true_and, List.all_eq_true]
  intro v hv
  obtain ⟨w, h1, rfl⟩ := List.mem_map.mp hv
  exact hw w h1
theorem few_words {r : Rw} (h : r.few) : ∀ w ∈ r.ws.tail, isWord w = true := by
  intro w hw
  cases r <;> simp only [Rw.few] at h <;> simp only [Rw.ws, List.tail_cons, List.mem_cons, List.not_mem_nil, or_false] at hw
  case is n k => rcases hw with rfl | rfl; exact (w_name h.1).2; exact (w_kind h.2).2
  case isnt n k => rcases hw with rfl | rfl; exact (w_name h.1).2; exact (w_kind h.2).2
  case has n t m => rcases hw with rfl | rfl | rfl; exact (w_name h.1).2; exact (w_tie h.2.1).2; exact (w_name h.2.2).2
  case hasnt n t m => rcases hw with rfl | rfl | rfl; exact (w_name h.1).2; exact (w_tie h.2.1).2; exact (w_name h.2.2).2
  case all k l => rcases hw with rfl | rfl; exact (w_kind h.1).2; exact (w_kind h.2).2
  case no k l => rcases hw with rfl | rfl; exact (w_kind h.1).2; exact (w_kind h.2).2
  case each k t m => rcases hw with rfl | rfl | rfl; exact (w_kind h.1).2; exact (w_tie h.2.1).2; exact (w_name h.2.2).2
  case who t k l => rcases hw with rfl | rfl | rfl; exact (w_tie h.1).2; exact (w_kind h.2.1).2; exact (w_kind h.2.2).2
  case turned t s => rcases hw with rfl | rfl; exact (w_tie h.1).2; exact (w_tie h.2).2
  case on t => subst hw; exact (w_tie h).2
  case fr t k => rcases hw with rfl | rfl; exact (w_tie h.1).2; exact (w_kind h.2).2
  case to t k => rcases hw with rfl | rfl; exact (w_tie h.1).2; exact (w_kind h.2).2
  case under t s => rcases hw with rfl | rfl; exact (w_tie h.1).2; exact (w_tie h.2).2
theorem few_row {r : Rw} (h : r.few) : isRowL (r.ws.map V.str) = true := by
  obtain ⟨hd, rest, ps, e1, e2, e3, _⟩ := Rw.form r
  have h2 := few_words h
  rw [e1] at h2 ⊢
  exact rowL_of e2 e3 h2
theorem few_names {r : Rw} (h : r.few) : ∀ x ∈ rowNames r, x ∈ namesL := by
  intro x hx
  cases r <;> simp only [Rw.few] at h <;> simp only [rowNames, List.mem_cons, List.not_mem_nil, or_false] at hx
  case is n k => subst hx; exact h.1
  case isnt n k => subst hx; exact h.1
  case has n t m => rcases hx with rfl | rfl; exact h.1; exact h.2.2
  case hasnt n t m => rcases hx with rfl | rfl; exact h.1; exact h.2.2
  case each k t m => subst hx; exact h.2.2
/-- what follows is told by the few words, its names by the rows -/
theorem lead_few {r : Rw} {s : Say} {names : List Str} (hr : r.few) (hn : ∀ x ∈ rowNames r, x ∈ names) (hL : ∀ x ∈ names, x ∈ namesL) (hs : s.few ∧ ∀ x ∈ s.names, x ∈ names) {l : Lead} (hl : l ∈ leadsBy r s names) : l.2.2.few ∧ ∀ x ∈ l.2.2.names, x ∈ names := by
  obtain ⟨hs1, hs2⟩ := hs
  cases s with
  | clash => exact absurd hl (by simp [leadsBy])
  | is n k =>
    cases r <;> simp only [leadsBy, leadsKind] at hl <;> (try split at hl) <;> (try simp only [List.mem_cons, List.mem_map, List.not_mem_nil, or_false] at hl) <;> (try exact hl.elim)
    all_goals simp only [Rw.few, Say.few, Say.names, rowNames, List.mem_cons, List.not_mem_nil, or_false, forall_eq, forall_eq_or_imp] at hr hs1 hs2 hn
    all_goals first
      | (subst hl; simp [Say.few, Say.names, *] <;> done)
      | (obtain ⟨x, hx, rfl⟩ := hl; have hx2 := hL x hx; simp [Say.few, Say.names, *] <;> done)
  | has n t m =>
    cases r <;> simp only [leadsBy, leadsTie, leadsOn] at hl <;> (try split at hl) <;> (try simp only [List.mem_cons, List.mem_map, List.not_mem_nil, or_false, List.mem_append] at hl) <;> (try exact hl.elim)
    all_goals simp only [Rw.few, Say.few, Say.names, rowNames, List.mem_cons, List.not_mem_nil, or_false, forall_eq, forall_eq_or_imp] at hr hs1 hs2 hn
    all_goals first
      | (subst hl; simp [Say.few, Say.names, *] <;> done)
      | (obtain (⟨x, hx, rfl⟩ | ⟨x, hx, rfl⟩) := hl <;> have hx2 := hL x hx <;> simp [Say.few, Say.names, *] <;> done)
theorem fol_few {rws : List Rw} {names : List Str} (hr : ∀ r ∈ rws, r.few) (hn : ∀ r ∈ rws, ∀ x ∈ rowNames r, x ∈ names) (hL : ∀ x ∈ names, x ∈ namesL) : ∀ s, Fol rws names s → s.few ∧ ∀ x ∈ s.names, x ∈ names := by
  refine fol_least (fun r h1 s h2 => ?_) fun s l h1 h2 _ => ?_
  · have a := hr r h1
    have b := hn r h1
    cases r <;> simp [sayOf] at h2 <;> subst h2
    · exact ⟨a, b⟩
    · exact ⟨a, b⟩
  · obtain ⟨r, g1, g2, _⟩ := mem_worked.mp h2
    exact lead_few (hr r g1) (hn r g1) hL h1 g2
end Ah
end
section
set_option Elab.async false
set_option linter.all false
set_option maxRecDepth 100000
set_option maxHeartbeats 8000000
namespace Ah
open PySem PySem.Spec PyProof.Rows L2
open GxR (TabB TabG Tabbed)
theorem scNO : FnScope ["rows"] ["rows"] (defScope sNamesOf) := ⟨rfl, rfl, rfl, by decide +kernel, rfl, by decide +kernel, by decide +kernel⟩
theorem scFo : FnScope ["rows", "found", "saying"] ["rows"] (defScope sFollows) := ⟨rfl, rfl, rfl, by decide +kernel, rfl, by decide +kernel, by decide +kernel⟩
def spNames : Sp := fun vs H Q _ => ∃ (q : Addr) (rs : List Rw), vs = [.ref q] ∧ TextAt H q rs ∧ rs.length ≤ 1000 ∧
  ∀ (p : Addr) (bs : List Str) (H' : Hp), Kept [] H H' → H p = none → H' p = some (.lst (bs.map V.str)) → (∀ z, z ∈ bs ↔ ∃ r ∈ rs, z ∈ rowNames r) → bs.length ≤ 3 * rs.length → Q (.ref p) H'
theorem TextAt.kp {T : List Addr} {H H' : Hp} {q : Addr} {rs : List Rw} (ht : ∀ P ∈ T, TabG H P) (k : Kp T H H') (h : TextAt H q rs) : TextAt H' q rs := by
  obtain ⟨ps, h1, h2⟩ := h
  exact ⟨ps, k.obj ht h1, Paired.mapP h2 fun _ _ e => k.obj ht e⟩
theorem TextAt.kept {M : List Addr} {H H' : Hp} {q : Addr} {rs : List Rw} (k : TK H H') (h : TextAt H q rs) : TextAt H' q rs := by
  obtain ⟨ps, h1, h2⟩ := h
  exact ⟨ps, k.tup _ _ h1, Paired.mapP h2 fun _ _ e => k.tup _ _ e⟩
theorem sort_says {rws : List Rw} {names : List Str} {bs : List Tx} (h : ∀ b ∈ bs, ∃ s, s ≠ Say.clash ∧ Fol rws names s ∧ b.2 = keyW s.ws) : SortT bs := by
  constructor
  · intro d hd d' hd'
    obtain ⟨b, hb, rfl⟩ := List.mem_map.mp hd
    obtain ⟨b', hb', rfl⟩ := List.mem_map.mp hd'
    obtain ⟨s, _, _, e⟩ := h b hb
    obtain ⟨s', _, _, e'⟩ := h b' hb'
    unfold encT
    rw [e, e', PySem.W.alike]
    have go : ∀ xs ys : List Str, PySem.W.alikeAll ((keyW xs).map keyD) ((keyW ys).map keyD) = true := by
      intro xs
      induction xs with
      | nil => intro ys; simp [keyW, PySem.W.alikeAll]
      | cons x xs ih =>
        intro ys
        cases ys with
        | nil => simp [keyW, PySem.W.alikeAll]
        | cons y ys =>
          show PySem.W.alikeAll (PyData.str x :: (keyW xs).map keyD) (PyData.str y :: (keyW ys).map keyD) = true
          rw [PySem.W.alikeAll, ih ys]
          simp [PySem.W.alike]
    exact go _ _
  · intro b hb e
    obtain ⟨s, _, _, e'⟩ := h b hb
    rw [e] at e'
    cases s <;> cases e'
theorem few_len {r : Rw} (h : r.few) : ∀ z ∈ r.ws, z.length ≤ 100 := by
  intro z hz
  obtain ⟨hd, rest, ps, e1, _, _, _⟩ := Rw.form r
  have h2 := few_words h
  rw [e1] at h2 hz
  rcases List.mem_cons.mp hz with q | q
  · rw [q]
    cases r <;> cases e1 <;> decide +kernel
  · have h3 := h2 z q
    unfold isWord at h3
    simp only [Bool.and_eq_true, decide_eq_true_eq] at h3
    omega
theorem Kp.of {T : List Addr} {H H' : Hp} (ht : ∀ P ∈ T, TabG H P) (k : Kept [] H H') : Kp T H H' := ⟨fun P hP => by
  obtain ⟨qs, h2, h3⟩ := ht P hP
  exact ⟨qs, k _ _ h2 (by simp), h3⟩, fun b o e _ => k b o e (by simp)⟩
theorem Kp.fresh {T : List Addr} {H H' : Hp} {p : Addr} (ht : ∀ P ∈ T, TabG H P) (k : Kp T H H') (n : H' p = none) : H p = none := by
  cases e : H p with
  | none => rfl
  | some o =>
    by_cases hp : p ∈ T
    · obtain ⟨qs, h2, _⟩ := k.tab p hp
      rw [n] at h2
      cases h2
    · rw [k.keep p o e hp] at n
      cases n
/-- what is told as following: the entries of the sayings, without the clash -/
def toldT (es : List Ent) : List Tx := (es.filter fun e => !decide (e.1 = keyW (Say.clash).ws)).map fun e => (e.2.1, e.1)
/-- what follows asks of a text: its words, a list of all that may follow -/
structure TxOk (rs : List Rw) (al : List Say) : Prop where
  row : ∀ r ∈ rs, isRowL (r.ws.map V.str) = true
  len : ∀ r ∈ rs, ∀ z ∈ r.ws, z.length ≤ 100
  ok : ∀ r ∈ rs, okW r.ws
  nm : ∀ r ∈ rs, ∀ z ∈ rowNames r, PyData.strOk z = true
  n : rs.length ≤ 24
  all : ∀ rws names, (∀ r ∈ rws, r ∈ rs) → (∀ r ∈ rws, ∀ z ∈ rowNames r, z ∈ names) → (∀ z ∈ names, ∃ r ∈ rs, z ∈ rowNames r) → ∀ s, Fol rws names s → s ∈ al ∧ ∀ z ∈ s.names, z ∈ names
  al28 : al.length ≤ 28
  alok : ∀ s ∈ al, okW s.ws
def spFollows (K : PySem.W.Frag) (T : List Addr) : Sp := fun vs H Q _ => ∃ (q : Addr) (rs : List Rw), vs = [.ref q] ∧ TextAt H q rs ∧ (∃ al, TxOk rs al) ∧ (∀ P ∈ T, TabG H P) ∧
  ∀ (p : Addr) (bs : List Tx) (rws : List Rw) (names : List Str) (H' : Hp), Kp T H H' → H p = none → H' p = some (.lst ((bs.mergeSort leT).map fun b => V.ref b.1)) → (∀ r, r ∈ rws ↔ r ∈ rs) → (∀ z, z ∈ names ↔ ∃ r ∈ rs, z ∈ rowNames r) →
    (∀ b ∈ bs, ∃ s, s ≠ .clash ∧ Fol rws names s ∧ b.2 = keyW s.ws ∧ SqT K H' b.1 (s.ws.map V.str)) → (∀ s, s ≠ .clash → Fol rws names s → ∃ b ∈ bs, b.2 = keyW s.ws) → (bs.map (·.2)).Nodup → bs.length ≤ 28 → Q (.ref p) H'
section
variable {P : Program} {w : World} {K : PySem.W.Frag} {mg : Str → Option Value} {base : Heap} {f fT fC fA fN fI C cl : Addr} {fd fdT fdC fdA fdN fdI : FuncData} {T : List Addr}
theorem ok_names (F : FnP K "names_of" sNamesOf f fd) (c_told_of : Own P w K mg base "told_of" 1 fT fdT ["rows", "place"] spTold) : FnOk P w K mg base CX0 2 f fd ["rows"] spNames := by
  refine F.ok scNO (fun vs H Q E h => ?_) (fun cdv A outer s H vs Q E hr h => ?_)
  · obtain ⟨q, rs, rfl, _⟩ := h
    rfl
  · obtain ⟨q, rs, rfl, tx, hl, k⟩ := h
    refine ⟨_, PSs.nox (pss_one (ps_ret (pe_call c_told_of.ok hr (by rfl) c_told_of.g c_told_of.kp c_told_of.b .nil pass0 (pa_cons (pv 0) (pa_cons pe_str pa_nil))))), ?_⟩
    refine ⟨_, rfl, q, rs, "name", rfl, tx, hl, fun p bs H' kk np e hm hb => ?_⟩
    refine k p (bs.mergeSort leS) H' kk np e (fun z => ?_) ?_
    · rw [(List.mergeSort_perm bs leS).mem_iff, hm]
      constructor
      · rintro ⟨r, h1, h2⟩
        rw [told_name] at h2
        exact ⟨r, h1, h2⟩
      · rintro ⟨r, h1, h2⟩
        exact ⟨r, h1, by rw [told_name]; exact h2⟩
    · rw [(List.mergeSort_perm bs leS).length_eq]
      exact hb
theorem ok_follows (F : FnP K "follows" sFollows f fd) (B : Bl mg) (Cc : TClash K mg cl) (CR : ClsR K C) (M : Mk K C fI) (gR : mg "Rules" = some (.ref C)) (FI : FnOk P w K mg base CX0 2 fI fdI ["self", "rows", "names"] (spInit K P w C)) (bI : Binds K fdI ["self", "rows", "names"] [])
    (c_check_text : Own P w K mg base "check_text" 6 fC fdC ["rows"] (spCheck0 K T)) (c_all_results : Own P w K mg base "all_results" 6 fA fdA ["rules"] (spAll K P w C)) (c_names_of : Own P w K mg base "names_of" 2 fN fdN ["rows"] spNames) :
    FnOk P w K mg base CX0 7 f fd ["rows"] (spFollows K T) := by
  refine F.ok scFo (fun vs H Q E h => ?_) (fun cdv A outer s H vs Q E hr h => ?_)
  · obtain ⟨q, rs, rfl, _⟩ := h
    rfl
  · obtain ⟨q, rs, rfl, tx, ⟨al, O⟩, ht, k⟩ := h
    have hl := O.n
    have gCl := Cc.g
    refine ⟨_, PSs.nox (pss_cons (ps_expr (pe_call c_check_text.ok hr (by rfl) c_check_text.g c_check_text.kp c_check_text.b .nil pass0 (pa_cons (pv 0) pa_nil)))
      (pss_cons (ps_set (i := 1) scFo.nd rfl (.inl rfl) (pe_call c_all_results.ok hr (by rfl) c_all_results.g c_all_results.kp c_all_results.b .nil pass0 (pa_cons (pe_make M FI (hr.mono (by decide)) (by rfl) gR bI .nil pass0 (pa_cons (pv 0) (pa_cons (pe_call c_names_of.ok (hr.mono (by decide)) (by rfl) c_names_of.g c_names_of.kp c_names_of.b .nil pass0 (pa_cons (pv 0) pa_nil)) pa_nil))) pa_nil)))
      (pss_one (ps_ret (pe_callB (cr_sortT hr.units) (by rfl) B.sorted_ (by decide +kernel) (pa_cons (pe_lock (pe_lc (own := [("saying", 2)]) rfl scFo.nd (pi_dic (pv 1)) (blkOk_by (N := ["rows", "found", "saying"]) (sc := defScope sFollows) (by decide +kernel)) (fun _ _ _ _ _ => (pg_name (i := 2) scFo.nd rfl (Or.inl rfl))) (fun _ _ _ _ _ => (pts_one (pt_cmpR (show OpR _ _ (rNeD K) from op_neD hr.units) (pv 2) (pe_glob (v := .ref cl) (by rfl) gCl rfl) (nomark _)))) (fun _ _ _ _ _ => (pv 2)))) pa_nil)))))), ?_⟩
    obtain ⟨ps, hq, hps⟩ := id tx
    have lps : ps.length = rs.length := hps.length
    refine ⟨_, rfl, q, ps.map V.ref, rfl, hq, by rw [List.length_map]; omega, fun v hv => ?_, ht, fun H1 kp1 => ?_⟩
    · obtain ⟨a, ha, rfl⟩ := List.mem_map.mp hv
      obtain ⟨i, hi⟩ := List.mem_iff_getElem?.mp ha
      obtain ⟨r, er, hr1⟩ := paired_at hps hi
      have hmr := List.mem_of_getElem? er
      refine .inr ⟨a, _, rfl, .inl (.of hr1), ?_, fun x hx => ?_, (O.row r hmr).symm⟩
      · rw [List.length_map]
        exact Nat.le_trans (show r.ws.length ≤ 10 by cases r <;> simp [Rw.ws]) (by decide)
      · obtain ⟨z, hz, rfl⟩ := List.mem_map.mp hx
        exact .inl ⟨z, rfl, Nat.le_trans (O.len r hmr z hz) (by decide)⟩
    · have tx1 := tx.kp ht kp1
      refine ⟨_, rfl, _, rfl, q, rs, rfl, tx1, by omega, fun na nb H2 k2 nna e2 hm2 hl2 => ?_⟩
      intro x dx nx ndx dxx
      have kx : Kept [] H2 (L2.upd (L2.upd H2 dx (.own x)) x (.ins C dx [])) := ((Kept.refl H2).upd ndx).upd (by rw [upd_ne (Ne.symm dxx)]; exact nx)
      refine ⟨x, q, na, dx, rs, nb, rfl, upd_same, (tx1.kept (M := []) (TK.of k2)).kept (M := []) (TK.of kx), by omega, kx _ _ e2 (by simp), fun H3 o rws ho hC nkd k3 R3 hrw hrl => ⟨rfl, ?_⟩⟩
      have hff := O.all rws nb (fun r hr => (hrw r).mp hr) (fun r hr z hz => (hm2 z).mpr ⟨r, (hrw r).mp hr, hz⟩) (fun z hz => (hm2 z).mp hz)
      have okd : OkD rws nb := ⟨by omega, by omega, fun r hr => O.ok r ((hrw r).mp hr), fun z hz => let ⟨r, h1, h2⟩ := (hm2 z).mp hz; O.nm r h1 z h2⟩
      subst ho
      refine ⟨o, rws, nb, [], al.filter (fun s => s.names.all fun z => decide (z ∈ nb)), rfl, hC, R3, okd, Nat.zero_le _, ?_, ?_, fun s hs => ?_, fun s hs => ?_, fun d H4 es k4 nd4 e4 se4 hes nd hle => ?_⟩
      · exact Nat.le_trans (List.length_filter_le ..) (Nat.le_trans O.al28 (by decide))
      · have h1 : (al.filter (fun s => s.names.all fun z => decide (z ∈ nb))).length ≤ 28 := by
          exact Nat.le_trans (List.length_filter_le ..) O.al28
        have h2 : rws.length * (2 * nb.length + 1) ≤ 24 * 145 := Nat.mul_le_mul (by omega) (by omega)
        exact Nat.le_trans (Nat.mul_le_mul (show _ ≤ 29 by omega) h2) (by decide)
      · obtain ⟨h1, h2⟩ := hff s hs
        exact List.mem_filter.mpr ⟨h1, List.all_eq_true.mpr fun z hz => decide_eq_true (h2 z hz)⟩
      · obtain ⟨h1, h2⟩ := List.mem_filter.mp hs
        exact ⟨O.alok s h1, fun z hz => of_decide_eq_true (List.all_eq_true.mp h2 z hz)⟩
      · refine ⟨d, DicO P w d es, e4, trivial, fun od => ?_⟩
        have k14 : Kept [] H1 H4 := fun b u e hb => by
          have b2 := k2 b u e hb
          have b3 := kx b u b2 hb
          have b4 := k3 b u b3 (by rw [List.mem_singleton]; exact ne_of_none b2 nx)
          exact k4 b u b4 (by rw [List.mem_singleton]; exact ne_of_none b3 nkd)
        have tkf : TK H4 (L2.upd H4 d (.frz od (DicO P w d es))) := (TK.refl H4).upd e4 (fun _ z => nomatch z) (fun _ _ z => nomatch z)
        refine ⟨_, rfl, d, od, es, rfl, upd_same, fun Dl nDl => ?_⟩
        refine lc_it (walk_dic (P := P) (w := w) (d := d) (o := od) (es := es)) (fun i Ha => Ha Dl = some (.lst (((es.take i).filter fun e => !decide (e.1 = keyW (Say.clash).ws)).map fun e => V.ref e.2.1)) ∧ Kept [] (L2.upd H4 d (.frz od (DicO P w d es))) Ha)
          ⟨by rw [List.take_zero]; exact upd_same, (Kept.refl _).upd nDl⟩ (fun i Ha _ pv => pv.2 _ _ upd_same (by simp)) ?_ ?_
        · rintro i v Ha0 Ha hi ⟨eD, kk⟩ ⟨rfl, ey⟩
          rw [List.getElem?_map] at ey
          obtain ⟨e, ee, rfl⟩ := Option.map_eq_some_iff.mp ey
          obtain ⟨s', f1, f2, f3⟩ := se4 e (List.mem_of_getElem? ee)
          have tka : TK H4 Ha := tkf.trans (TK.of kk)
          have et : (es.take (i + 1)).filter (fun e => !decide (e.1 = keyW (Say.clash).ws)) = (es.take i).filter (fun e => !decide (e.1 = keyW (Say.clash).ws)) ++ if s' = .clash then [] else [e] := by
            rw [List.take_add_one, ee, List.filter_append]
            congr 1
            show List.filter _ [e] = _
            rw [List.filter_cons, List.filter_nil]
            by_cases hc : s' = .clash
            · rw [if_pos hc, if_neg]
              rw [f2, hc]
              simp
            · rw [if_neg hc, if_pos]
              rw [f2, decide_eq_false fun z => hc (Say.inj (keyW_inj z))]
              rfl
          have oks : okW s'.ws := O.alok s' (hff s' f1).1
          refine ⟨rfl, ?_⟩
          refine ⟨_, rfl, ?_⟩
          unfold tC
          refine rd_neS (s := s') (t := some .clash) ⟨_, rfl, sqT_tk tka f3⟩ ⟨cl, rfl, Cc.val Ha⟩ oks (fun y hy => by rw [← Option.some.inj hy]; exact okW_clash) ⟨_, rfl, if_nd (fun ne => ?_) (fun eq => ?_)⟩
          · have hc : ¬ s' = .clash := fun z => ne (by rw [z])
            refine ⟨_, rfl, _, eD, ?_, ?_, kD_far nDl kk⟩
            · rw [List.length_map]
              refine Nat.lt_of_le_of_lt (Nat.le_trans (List.length_filter_le ..) ?_) (show 1000 < sizeLine by decide)
              rw [List.length_take]
              omega
            · rw [et, if_neg hc, List.map_append]
              exact upd_same
          · have hc : s' = .clash := (Option.some.inj eq).symm
            rw [et, if_pos hc, List.append_nil]
            exact ⟨eD, kk⟩
        · rintro Ha ⟨eD, kk⟩
          rw [List.take_of_length_le (Nat.le_refl _)] at eD
          have fz : Ha d = some (.frz od (DicO P w d es)) := kk _ _ upd_same (by simp)
          have dl : Dl ≠ d := ne_of eD fz (fun z => nomatch z)
          refine ⟨fz, ?_⟩
          have k45 : Kept [] H4 (L2.upd Ha d (DicO P w d es)) := fun b u e hb => by
            by_cases h : b = d
            · rw [h, e4] at e
              rw [h, upd_same]
              exact e
            · rw [upd_ne h]
              exact kk b u (by rw [upd_ne h]; exact e) hb
          have tk5 := TK.of k45
          have hbs : ∀ b ∈ toldT es, ∃ s, s ≠ Say.clash ∧ Fol rws nb s ∧ b.2 = keyW s.ws ∧ SqT K H4 b.1 (s.ws.map V.str) := fun b hb => by
            obtain ⟨e, he, rfl⟩ := List.mem_map.mp hb
            obtain ⟨h1, h2⟩ := List.mem_filter.mp he
            obtain ⟨s', f1, f2, f3⟩ := se4 e h1
            refine ⟨s', fun z => ?_, f1, f2, f3⟩
            rw [f2, z] at h2
            simp at h2
          have ndt : ((toldT es).map (·.2)).Nodup := by
            unfold toldT
            rw [List.map_map]
            exact (List.Sublist.map _ List.filter_sublist).nodup nd
          have eD2 : (L2.upd Ha d (DicO P w d es)) Dl = some (.lst ((toldT es).map fun b => V.ref b.1)) := by
            rw [upd_ne dl, eD]
            unfold toldT
            rw [List.map_map]
            rfl
          refine ⟨Dl, toldT es, rfl, .inl (.of eD2), fun b hb => ?_, sort_says (rws := rws) (names := nb) fun b hb => ?_, fun p np => ?_⟩
          · obtain ⟨s', _, _, f2, f3⟩ := hbs b hb
            rw [f2, keyW_kV]
            exact sqT_tk tk5 f3
          · obtain ⟨s', f0, f1, f2, _⟩ := hbs b hb
            exact ⟨s', f0, f1, f2⟩
          · have k1f := (k14.trans k45).upd (o := .lst (((toldT es).mergeSort leT).map fun b => V.ref b.1)) np
            have kpf := kp1.trans (Kp.of kp1.tab k1f)
            refine k p (toldT es) rws nb _ kpf (kp1.fresh ht (none_of (k14.trans k45) np)) upd_same hrw hm2 (fun b hb => ?_) (fun s' n1 f1 => ?_) ndt ?_
            · obtain ⟨s', f0, f1, f2, f3⟩ := hbs b hb
              exact ⟨s', f0, f1, f2, sqT_tk (TK.new tk5 np) f3⟩
            · obtain ⟨e, he, ek⟩ := (hes s').mpr f1
              refine ⟨(e.2.1, e.1), List.mem_map.mpr ⟨e, List.mem_filter.mpr ⟨he, ?_⟩, rfl⟩, ek⟩
              rw [ek, decide_eq_false fun z => n1 (Say.inj (keyW_inj z))]
              rfl
            · have h := len_sub ((toldT es).map (·.2)) (al.map fun s => keyW s.ws) ndt fun y hy => by
                obtain ⟨b, hb, rfl⟩ := List.mem_map.mp hy
                obtain ⟨s', _, f1, f2, _⟩ := hbs b hb
                exact List.mem_map.mpr ⟨s', (hff s' f1).1, f2.symm⟩
              rw [List.length_map, List.length_map] at h
              exact Nat.le_trans h O.al28
end
end Ah
end
section
set_option Elab.async false
set_option linter.all false
set_option maxRecDepth 100000
set_option maxHeartbeats 8000000
namespace Ah
open PySem PySem.Spec PyProof.Rows L2
/-! ### lots in the heap -/
def intsL (L : List Nat) : List V := L.map fun p : Nat => V.int (p : Int)
def dI (L : List Nat) : List PyData := L.map fun p : Nat => PyData.int (p : Int)
def LotAt (K : PySem.W.Frag) (H : Hp) (v : V) (L : List Nat) : Prop := ∃ a, v = .ref a ∧ SqT K H a (intsL L)
theorem LotAt.tk {K : PySem.W.Frag} {H H' : Hp} {v : V} {L : List Nat} (k : TK H H') (h : LotAt K H v L) : LotAt K H' v L := let ⟨a, e, q⟩ := h; ⟨a, e, sqT_tk k q⟩
theorem dpInts {K : PySem.W.Frag} {H : Hp} : ∀ L : List Nat, DpAll K H (intsL L) (dI L)
  | [] => .nil
  | p :: L => .cons (.int _) (dpInts L)
theorem layInts : ∀ L : List Nat, PyData.canLayAll0 (dI L) = true ∧ PyData.depthAll (dI L) = 0
  | [] => ⟨by simp [dI, PyData.canLayAll0], by simp [dI, PyData.depthAll]⟩
  | p :: L => by
    obtain ⟨h1, h2⟩ := layInts L
    unfold dI at h1 h2 ⊢
    rw [List.map_cons, PyData.canLayAll0, PyData.depthAll, h1, h2]
    exact ⟨by simp [PyData.canLay0], by simp [PyData.depth]⟩
theorem shapedI (L : List Nat) : SeqAt.shaped (.list (dI L)) = true := by
  obtain ⟨h1, h2⟩ := layInts L
  unfold SeqAt.shaped
  rw [PyData.canLay0, h1, PyData.depth, h2, Bool.true_and]
  exact decide_eq_true (by omega)
theorem layLots : ∀ Ls : List (List Nat), PyData.canLayAll0 (Ls.map fun L => PyData.tuple (dI L)) = true ∧ PyData.depthAll (Ls.map fun L => PyData.tuple (dI L)) ≤ 2
  | [] => ⟨by simp [PyData.canLayAll0], by simp [PyData.depthAll]⟩
  | L :: Ls => by
    obtain ⟨h1, h2⟩ := layLots Ls
    obtain ⟨h3, h4⟩ := layInts L
    rw [List.map_cons, PyData.canLayAll0, PyData.canLay0, h3, h1, PyData.depthAll, PyData.depth, h4]
    exact ⟨rfl, by omega⟩
theorem shapedL (Ls : List (List Nat)) : SeqAt.shaped (.list (Ls.map fun L => PyData.tuple (dI L))) = true := by
  obtain ⟨h1, h2⟩ := layLots Ls
  unfold SeqAt.shaped
  rw [PyData.canLay0, h1, PyData.depth, Bool.true_and]
  exact decide_eq_true (by omega)
theorem dpLots {K : PySem.W.Frag} {H : Hp} : ∀ {ws : List V} {Ls : List (List Nat)}, Paired (LotAt K H) ws Ls → DpAll K H ws (Ls.map fun L => PyData.tuple (dI L))
  | _, _, .nil => .nil
  | _, _, .cons ⟨a, e, h⟩ t => by
    rw [List.map_cons, e]
    exact .cons (.tup h (dpInts _)) (dpLots t)
/-- ints == [] -/
theorem rd_eqNilI {K : PySem.W.Frag} {H : Hp} {Q : VK} {a b : Addr} {L : List Nat} (h1 : SqL K H a (intsL L)) (h2 : SqL K H b []) (q : Q (.bl (decide (L = []))) H) : rEqD K (.ref a) (.ref b) H Q := by
  refine ⟨_, .list [], .lst h1 (dpInts L), .lst h2 .nil, shapedI L, rfl, ?_⟩
  have e : PyData.eqv (.list (dI L)) (.list []) = decide (L = []) := by
    rw [PyData.eqv]
    cases L <;> simp [dI, PyData.eqvAll]
  rw [e]
  exact q
/-- lots == [] -/
theorem rd_eqNilL {K : PySem.W.Frag} {H : Hp} {Q : VK} {a b : Addr} {ws : List V} {Ls : List (List Nat)} (h1 : SqL K H a ws) (hw : Paired (LotAt K H) ws Ls) (h2 : SqL K H b []) (q : Q (.bl (decide (Ls = []))) H) : rEqD K (.ref a) (.ref b) H Q := by
  refine ⟨_, .list [], .lst h1 (dpLots hw), .lst h2 .nil, shapedL Ls, rfl, ?_⟩
  have e : PyData.eqv (.list (Ls.map fun L => PyData.tuple (dI L))) (.list []) = decide (Ls = []) := by
    rw [PyData.eqv]
    cases Ls <;> simp [PyData.eqvAll]
  rw [e]
  exact q
theorem inV_ints (p : Nat) (L : List Nat) : inV (V.int (p : Int)) (intsL L) = decide (p ∈ L) := by
  unfold inV intsL
  rw [List.any_map]
  by_cases h : p ∈ L
  · rw [decide_eq_true h, List.any_eq_true]
    exact ⟨p, h, by simp [eqV]⟩
  · rw [decide_eq_false h, List.any_eq_false]
    intro x hx
    have hne : ¬ ((x : Int) = (p : Int)) := fun z => h (by rw [← Int.ofNat.inj z]; exact hx)
    simp [eqV]
    exact hne
theorem flat_ints (L : List Nat) : (intsL L).all flatV = true := by
  unfold intsL
  rw [List.all_map, List.all_eq_true]
  intro x _
  rfl
end Ah
end
section
set_option Elab.async false
set_option linter.all false
set_option maxRecDepth 100000
set_option maxHeartbeats 4000000
namespace Ah
open PySem PySem.Spec PyProof.Rows L2
/-! ### sorted(lots, key=lambda lot: (len(lot), lot)) -/
/-- a lot with its address -/
abbrev Lo := Addr × List Nat
def keyL (L : List Nat) : PyData := .tuple [.int (L.length : Int), .tuple (dI L)]
def leL : List Nat → List Nat → Bool := PySem.W.dataLe false keyL
def leB : Lo → Lo → Bool := PySem.W.dataLe false fun b => keyL b.2
theorem alike_ints : ∀ L M : List Nat, PySem.W.alikeAll (dI L) (dI M) = true
  | [], M => by simp [dI, PySem.W.alikeAll]
  | _ :: _, [] => by simp [dI, PySem.W.alikeAll]
  | x :: L, y :: M => by
    have h := alike_ints L M
    unfold dI at h ⊢
    rw [List.map_cons, List.map_cons, PySem.W.alikeAll, h]
    simp [PySem.W.alike]
theorem alike_key (L M : List Nat) : PySem.W.alike (keyL L) (keyL M) = true := by
  unfold keyL
  simp [PySem.W.alike, PySem.W.alikeAll, alike_ints]
theorem depth_key (L : List Nat) : (keyL L).depth ≤ 2 := by
  unfold keyL
  simp [PyData.depth, PyData.depthAll, (layInts L).2]
theorem reads_ints {h : Heap} : ∀ {L : List Nat} {us : List Value}, Vals (intsL L) us → ReadsAll h us (dI L) []
  | [], _, r => by
    cases r
    exact .nil
  | n :: L, _, r => by
    unfold intsL at r
    rw [List.map_cons] at r
    cases r with
    | cons r1 r2 =>
      obtain ⟨t, rfl⟩ := r1
      exact ReadsAll.cons (as := []) (bs := []) (.int _ t) (reads_ints r2)
theorem loVals : ∀ bs : List Lo, Vals (bs.map fun b => V.ref b.1) (bs.map fun b => Value.ref b.1)
  | [] => .nil
  | _ :: r => .cons rfl (loVals r)
theorem loRefs : ∀ bs : List Lo, PySem.W.EachIs (fun v (b : Lo) => v = Value.ref b.1) (bs.map fun b => Value.ref b.1) bs
  | [] => .nil
  | _ :: r => .cons rfl (loRefs r)
theorem loOf : ∀ {out : List Value} {bs : List Lo}, PySem.W.EachIs (fun v (b : Lo) => v = Value.ref b.1) out bs → out = bs.map fun b => Value.ref b.1
  | _, _, .nil => rfl
  | _, _, .cons h t => by rw [List.map_cons, h, loOf t]
/-- the lambda, one lot handed to it -/
structure LamL (scope : Scope) (x : Str) (body : Expr) : Prop where
  kind : scope.kind = .function
  co : scope.isCoroutine = false
  gen : scope.isGenerator = false
  own : scope.names.lookup x = some .local
  len : scope.names.lookup ("len" : Str) = some .globalImplicit
  nocell : ∀ y ∈ scope.names, y.2 ≠ .cell ∧ y.2 ≠ .free
  body : ∃ p1 p2 p3 p4 k p5, body = .Tuple [.Call (.Name "len" p1) [.Name x p2] [] p3, .Name x p4] k p5
  dbg : (x == ("__debug__" : Str)) = false
section
variable {X : Cx} {pins : List (Addr × Obj)} {σ : L2.St} {H : Hp} {s : Shared}
/-- a lambda is made: only the table at P is another one -/
theorem lam_mk {q : Str} {c P : Addr} {params : Arguments} {body : Expr} {scope : Scope} {pos : Pos} {E : Value → Shared → Prop} {Q : Value → Shared → Prop} (I : L2.Inv X pins σ H s) (TB : LamX.TabB X.base X.mg c P) (hc : X.env.code = .ref c)
    (hq : X.env.qual ++ "<lambda>" = q) (hT : LamX.TabS H P q) (hd : defaultsOf params X.env = ([], [])) (hf : ∀ y ∈ scope.names, y.2 = .free → ∃ c, X.env.cells.lookup y.1 = some c)
    (fin : ∀ (f c' : Addr) (pm ctv : Value) (H1 : Hp) (s' : Shared), L2.Inv X pins σ H1 s' → (∀ b o, H b = some o → b ≠ P → H1 b = some o) → LamX.TabS H1 P q →
      s'.heap.get? f = some (PySem.W.kla_obj "<lambda>" q params body scope (cloFrom X.env.cells scope.names []) pm c' ctv) → H1 c' = some (LamX.CodeO c' q) → Q (.ref f) s') :
    wpAny (model X.prog X.w) X.A (eval (.Lambda params body scope pos) X.env) Q E s := by
  subst hq
  obtain ⟨ps, e0, tri, all⟩ := hT
  have oP := I.hok P _ e0
  have here : s.heap.BuiltinsAt X.mg P := TB.bm.keeps I.bk
  refine PySem.W.kla_eval hd ?_
  rcases Option.eq_none_or_eq_some (codeAmong pos ps.toList) with no | ⟨cv, yes⟩
  · refine PySem.W.kla_makeFunction (mg := X.mg) (c := c) (P := P) (ps := ps) (closure_ok hf) I.ok.glob (I.mod.glob.keeps I.bk) hc (TB.code.keeps I.bk) oP tri no TB.gP here ?_
    intro c1 ctv h1 t1 ext ge lt rec tab
    obtain ⟨c2, oc, vs, t, e2, q1, q2, q3⟩ := rec
    cases e2
    have fresh : H c1 = none := I.hok.fresh ge
    have apart : P ≠ c1 := ne_of_none e0 fresh
    refine fin h1.objs.size c1 ((X.mg "__name__").getD .none) ctv _ _ (LamX.inv_table (t' := t1) (more := #[rawInt pos.line, rawInt pos.col, .ref c1]) (h' := h1.push (PySem.W.kla_obj "<lambda>" (X.env.qual ++ "<lambda>") params body scope (cloFrom X.env.cells scope.names []) ((X.mg "__name__").getD .none) c1 ctv)) I e0
      (fun b o hb e => Heap.get?_push_of_some _ (ext b o hb e)) (Heap.get?_push_of_some _ tab) ge ⟨oc, vs, t, Heap.get?_push_of_some _ q1, q2, q3⟩) (fun b o e nb => by rw [upd_ne (ne_of_none e fresh), upd_ne nb]; exact e) ?_ (Heap.get?_push_size _ rfl) upd_same
    refine ⟨ps ++ #[rawInt pos.line, rawInt pos.col, .ref c1], by rw [upd_ne apart, upd_same], ?_, fun p' cv h => ?_⟩
    · have e : (ps ++ #[rawInt pos.line, rawInt pos.col, .ref c1]).toList = ps.toList ++ [rawInt pos.line, rawInt pos.col, .ref c1] := by simp
      rw [e]
      exact PySem.TriplesOk_snoc _ _ _ _ tri
    · have e : (ps ++ #[rawInt pos.line, rawInt pos.col, .ref c1]).toList = ps.toList ++ [rawInt pos.line, rawInt pos.col, .ref c1] := by simp
      rw [e] at h
      rcases LamX.among_app _ tri h with z | z
      · obtain ⟨c0, w1, w2⟩ := all p' cv z
        refine ⟨c0, w1, ?_⟩
        have n0 : c0 ≠ P := fun z => LamX.codeO_ne ps (Option.some.inj ((z ▸ w2).symm.trans e0))
        rw [upd_ne (ne_of_none w2 fresh), upd_ne n0]
        exact w2
      · exact ⟨c1, z, upd_same⟩
  · obtain ⟨c1, e1, w1⟩ := all pos cv yes
    subst e1
    refine PySem.W.kla_makeFunctionHit (mg := X.mg) (c := c) (P := P) (ps := ps) (closure_ok hf) I.ok.glob (I.mod.glob.keeps I.bk) hc (TB.code.keeps I.bk) oP tri yes here fun ctv h1 t1 ext hz => ?_
    exact fin h1.objs.size c1 ((X.mg "__name__").getD .none) ctv H _ (I.kept fun b o e => Heap.get?_push_of_some _ (ext b o e)) (fun b o e _ => e) ⟨ps, e0, tri, all⟩ (Heap.get?_push_size _ rfl) w1
/-- the lambda called at a lot -/
theorem key_call {A : Around} {q x : Str} {f c' : Addr} {params : Arguments} {body : Expr} {scope : Scope} {cl : List (Str × Addr)} {pm ctv : Value} {L : List Nat} {a : Addr} {mg mb : Str → Option Value} (Z : LamL scope x body) (hdep : A.depth < recursionLimit) (hun : A.units + 64 < cLine)
    (hbind : bindArgs (PySem.W.kla_fn "<lambda>" q params body scope cl pm (.ref c') ctv) ⟨[.ref a], []⟩ = pure [(x, .ref a)])
    (ho : s.heap.get? f = some (PySem.W.kla_obj "<lambda>" q params body scope cl pm c' ctv)) (hcode : s.heap.CodeRec (.ref c') q) (hlim : s.heap.NoLimit) (hg : s.heap.Ns mainGlobals mg) (hno : mg "len" = none) (hb : s.heap.Ns builtinsNs mb) (hlen : mb "len" = some (.builtin "len"))
    {its : Array Value} (ht : IsTup s.heap a its) (hr : ReadsAll s.heap its.toList (dI L) []) (hz : L.length ≤ sizeLine) :
    wpAny (model X.prog X.w) A (call (.ref f) [.ref a]) (PySem.W.KeyPure (keyL L) s) (fun _ _ => False) s := by
  obtain ⟨p1, p2, p3, p4, k, p5, rfl⟩ := Z.body
  have big := line63
  have el : its.toList.length = L.length := by
    have h2 := readsAll_len _ hr
    rw [h2]
    unfold dI
    rw [List.length_map]
  rw [Array.length_toList] at el
  refine wpAny_call (PySem.W.kla_callFunE hdep ho rfl Z.co Z.gen rfl hcode ?_)
  rw [hbind]
  refine wpAny_pure (wpAny_newFunctionEnv (fun y hy => (Z.nocell y hy).1) (fun y hy => by rw [List.mem_singleton.mp hy]; exact Z.own) (fun h₁ hns hsb => ⟨hlim.fresh _ hsb, ?_⟩) Z.kind)
  have kp : ∀ b o, s.heap.get? b = some o → h₁.get? b = some o := fun b o e => hsb.extBut b o (Nat.ne_of_lt (Heap.lt_size e)) (Heap.get?_push_of_some _ e)
  refine PySem.W.kla_codeExpr ?_
  have lot : ∀ {A' : Around} {E' : Value → Shared → Prop} {Q : Value → Shared → Prop} {g : Heap} {tk : Nat} {p : Pos}, (∀ b o, h₁.get? b = some o → g.get? b = some o) → Q (.ref a) { s with heap := g, toks := tk } →
      wpAny (model X.prog X.w) A' (eval (.Name x p) (newEnv scope s.heap.objs.size mainGlobals cl (q ++ ".<locals>.") (some f) (.ref c') none builtinsNs)) Q E' { s with heap := g, toks := tk } := fun {A' E' Q g tk p} kg h =>
    wpAny_Name (wpAny_loadName_local Z.kind Z.own (hns.keeps kg) (by simp) h) Z.dbg
  refine wpAny_Tuple_spliced (Calls.spliced_cons ?_)
  refine wpAny_Call_Name_kw (Calls.Name_function_global Z.kind Z.len (Calls.loadGlobal_builtin (hg.keeps kp) hno (hb.keeps kp) hlen ?_))
  refine PyProof.Rows.callWith_builtin1 (Calls.spliced_cons (lot (fun _ _ e => e) (Calls.spliced_nil ?_)))
  refine len_tuple (ht.keeps kp) (by omega) ?_
  refine Calls.spliced_cons (lot (fun _ _ e => e) (Calls.spliced_nil ⟨by simp [sizeLine_eq], ?_⟩))
  refine ⟨_, _, rfl, fun b o e => Heap.get?_push_of_some _ (kp b o e), ?_⟩
  have kq : ∀ b o, s.heap.get? b = some o → (h₁.push { cls := .type "tuple", data := .seq #[Value.int (its.size : Int) (s.toks + 1 + 1), .ref a] }).get? b = some o := fun b o e => Heap.get?_push_of_some _ (kp b o e)
  obtain ⟨o, w1, w2, n, w3⟩ := ht
  refine .tuple (Heap.get?_push_size _ rfl) rfl rfl ?_
  refine ReadsAll.cons (as := []) (bs := []) ?_ (ReadsAll.cons (as := []) (bs := []) (.tuple (kq _ _ w1) w2 w3 (ReadsAll.keeps kq hr)) .nil)
  rw [el]
  exact .int _ _
/-- all but the table at P -/
def Kb (P : Addr) (H H' : Hp) : Prop := ∀ b o, H b = some o → b ≠ P → H' b = some o
theorem Kb.refl (P : Addr) (H : Hp) : Kb P H H := fun _ _ e _ => e
theorem Kb.obj {P : Addr} {H H' : Hp} {q : Str} {a : Addr} {o : HO} (k : Kb P H H') (t : LamX.TabS H P q) (e : H a = some o) (n : ∀ ps, o ≠ .tbl ps) : H' a = some o := k a o e fun z => by
  obtain ⟨ps, w, _⟩ := t
  rw [z, w] at e
  exact n ps (Option.some.inj e).symm
theorem Kb.sqL {P : Addr} {H H' : Hp} {q : Str} {K : PySem.W.Frag} {a : Addr} {xs : List V} (k : Kb P H H') (t : LamX.TabS H P q) (h : SqL K H a xs) : SqL K H' a xs := by
  rcases h with (h | ⟨o, h⟩) | h
  · exact .inl (.inl (k.obj t h fun _ z => nomatch z))
  · exact .inl (.inr ⟨o, k.obj t h fun _ z => nomatch z⟩)
  · exact .inr h
theorem Kb.sqT {P : Addr} {H H' : Hp} {q : Str} {K : PySem.W.Frag} {a : Addr} {xs : List V} (k : Kb P H H') (t : LamX.TabS H P q) (h : SqT K H a xs) : SqT K H' a xs := by
  rcases h with (h | ⟨o, h⟩) | h
  · exact .inl (.inl (k.obj t h fun _ z => nomatch z))
  · exact .inl (.inr ⟨o, k.obj t h fun _ z => nomatch z⟩)
  · exact .inr h
def tSortLam (K : PySem.W.Frag) (P : Addr) (q : Str) (ta : TA) : TE := fun σ H Q => ta σ H fun vs H1 => LamX.TabS H1 P q ∧ ∃ (a : Addr) (bs : List Lo), vs = [.ref a] ∧ SqL K H1 a (bs.map fun b => V.ref b.1) ∧ (∀ b ∈ bs, SqT K H1 b.1 (intsL b.2)) ∧
  ∀ (p : Addr) (H2 : Hp), Kb P H1 H2 → LamX.TabS H2 P q → H1 p = none → H2 p = some (.lst ((bs.mergeSort leB).map fun b => V.ref b.1)) → Q (.ref p) H2
theorem pe_sortLam {e : Expr} {ta : TA} {x q : Str} {c P : Addr} {params : Arguments} {body : Expr} {scope : Scope} {lpos kp p pos : Pos} {k : Nat} (ha : PA X [e] ta) (Z : LamL scope x body) (hr : Room k X.A) (TB : LamX.TabB X.base X.mg c P) (hcode : X.env.code = .ref c) (hq : X.env.qual ++ "<lambda>" = q) (hd : defaultsOf params X.env = ([], []))
    (hbind : ∀ (cl : List (Str × Addr)) (pm ctv v : Value) (c' : Addr), bindArgs (PySem.W.kla_fn "<lambda>" q params body scope cl pm (.ref c') ctv) ⟨[v], []⟩ = pure [(x, v)])
    (hg : Gl X "sorted") (hm : X.mg "sorted" = none) (hv : bootBuiltins "sorted" = some (.builtin "sorted")) (hml : X.mg "len" = none) (hvl : bootBuiltins "len" = some (.builtin "len"))
    (he : backTo pos (starEach [e] X.env) = (false, eval e X.env) :: backTo pos (starEach [] X.env) := by rfl) (hpl : (backTo pos (starEach [e] X.env)).any (·.1) = false := by rfl) :
    PE X (.Call (.Name "sorted" p) [e] [⟨some "key", .Lambda params body scope lpos, kp⟩] pos) (tSortLam X.K P q ta) := by
  refine ⟨fun pins s σ H Q I h => ?_⟩
  refine wpAny_Call_Name_kw (ld_blt I hg hm hv ?_)
  refine PyProof.Rows.callWith_kw (thn (ha.run pos pins s σ H _ I h) fun us s1 ⟨vs, H1, I1, r1, q1⟩ => PyProof.Rows.kws_cons ?_) he hpl (by rfl) (by rfl)
  obtain ⟨T1, a, bs, rfl, hl, hb, fin⟩ := q1
  obtain ⟨u, rfl, rx⟩ := vals1 r1
  cases rx
  refine lam_mk I1 TB hcode hq T1 hd (fun y hy z => absurd z (Z.nocell y hy).2) fun f c' pm ctv H2 s2 I2 kb T2 hf hco => PyProof.Rows.kws_nil ?_
  have hl2 := Kb.sqL kb T1 hl
  obtain ⟨its, rv, pl, hz⟩ := I2.list hl2
  have ei : its = bs.map fun b => Value.ref b.1 := by
    have e := refs_at (ps := bs.map (·.1)) (us := its) (by rw [List.map_map]; exact rv)
    rw [e, List.map_map]
    all_goals rfl
  subst ei
  rw [List.length_map] at hz
  have un := hr.un
  obtain ⟨⟨oc, vs, t, g1, g2, g3⟩, _, _⟩ := I2.hok c' _ hco
  obtain ⟨mb, b1, b2⟩ := I2.mod.blt
  refine PySem.W.sorted_key_data (b := false) (R := fun v (b : Lo) => v = Value.ref b.1) (bs := bs) (vs := bs.map fun b => Value.ref b.1) (fun b : Lo => keyL b.2) pl.isList (loRefs bs)
    (PySem.W.AllAlike.of fun _ _ => alike_key _ _) (PySem.W.Sortable.tuples fun _ => ⟨_, _, rfl⟩) hz (fun b _ => by have := depth_key b.2; omega) (PyProof.Rows.ksk_s1 _ _) (fun _ => PyProof.Rows.ksk_l1 _ _) (fun _ => PyProof.Rows.ksk_t1 _ _) (fun v b hR hx h tk kp => ?_) fun out c h' tk kp _ hD _ eo => ?_
  · subst hR
    obtain ⟨us, r2, it, z2⟩ := I2.tuple (Kb.sqT kb T1 (hb b hx))
    have ku : ∀ d o, X.base.get? d = some o → h.get? d = some o := fun d o e => kp _ _ (I2.bk d o e)
    refine key_call (X := X) (mg := X.mg) (mb := mb) Z hr.depth (by show X.A.units + 1 + 1 + 64 < _; omega) (hbind _ _ _ _ _) (kp _ _ hf) ⟨c', oc, vs, t, rfl, kp _ _ g1, g2, g3⟩ (I2.nolimit.keeps kp) (I2.mod.glob.keeps ku) hml (b1.keeps ku) ((b2 "len" (by decide)).trans hvl) (it.keeps kp) (by simpa using reads_ints r2) ?_
    unfold intsL at z2
    rw [List.length_map] at z2
    exact z2
  · have eo' := loOf eo
    subst eo'
    have hn : H2 (s2.heap.objs.size + 1) = none := I2.hok.fresh (Nat.le_succ _)
    have hn1 : H1 (s2.heap.objs.size + 1) = none := by
      cases e : H1 (s2.heap.objs.size + 1) with
      | none => rfl
      | some o =>
        by_cases z : s2.heap.objs.size + 1 = P
        · obtain ⟨ps, w, _⟩ := T2
          rw [← z, hn] at w
          cases w
        · rw [kb _ _ e z] at hn
          cases hn
    refine ⟨.ref (s2.heap.objs.size + 1), upd H2 (s2.heap.objs.size + 1) (.lst ((bs.mergeSort leB).map fun b => V.ref b.1)), I2.laid (t' := tk) kp (Nat.le_succ _) ?_, rfl, fin _ _ (fun b o e n => ?_) ?_ hn1 upd_same⟩
    · exact ⟨by rw [List.length_map, (List.mergeSort_perm bs leB).length_eq]; exact hz, _, c, loVals _, hD⟩
    · rw [upd_ne (ne_of_none (kb b o e n) hn)]
      exact kb b o e n
    · exact T2.ext fun b o e => by rw [upd_ne (ne_of_none e hn)]; exact e
end
/-! ### the order of lots -/
theorem leL_tot : PySem.W.TotalLe leL := by
  unfold leL PySem.W.dataLe
  exact PySem.W.sortLe_total _ _ _
theorem toks_key (L : List Nat) : PySem.W.keyToks (keyL L) = .inl 1 :: .inl (L.length : Int) :: .inl 1 :: (PySem.W.keyToksAll (dI L) ++ [.inl 0]) := by
  unfold keyL
  simp [PySem.W.keyToks, PySem.W.keyToksAll]
theorem leL_len {L M : List Nat} (h : leL L M = true) : L.length ≤ M.length := by
  unfold leL at h
  rw [PySem.W.dataLe_eq] at h
  have h2 : PySem.W.dataLt (keyL M) (keyL L) = false := by simpa using h
  unfold PySem.W.dataLt at h2
  rw [toks_key, toks_key, PyProof.Rows.lex_self] at h2
  obtain ⟨h3, _⟩ := PyProof.Rows.lex_false.mp h2
  have h4 : decide ((M.length : Int) < (L.length : Int)) = false := h3
  have h5 := of_decide_eq_false h4
  omega
theorem toks_ints : ∀ {L M : List Nat}, PySem.W.keyToksAll (dI L) = PySem.W.keyToksAll (dI M) → L = M
  | [], [], _ => rfl
  | [], y :: M, h => by simp [dI, PySem.W.keyToksAll] at h
  | x :: L, [], h => by simp [dI, PySem.W.keyToksAll] at h
  | x :: L, y :: M, h => by
    have e : ∀ (z : Nat) (N : List Nat), PySem.W.keyToksAll (dI (z :: N)) = .inl 1 :: .inl (z : Int) :: PySem.W.keyToksAll (dI N) := fun z N => by
      show PySem.W.keyToksAll (PyData.int (z : Int) :: dI N) = _
      simp [PySem.W.keyToks, PySem.W.keyToksAll]
    rw [e, e] at h
    injection h with _ h
    injection h with h1 h2
    injection h1 with h1
    have h1 : x = y := by omega
    rw [h1, toks_ints h2]
theorem leL_anti {L M : List Nat} (h1 : leL L M = true) (h2 : leL M L = true) : L = M := by
  unfold leL at h1 h2
  rw [PySem.W.dataLe_eq] at h1 h2
  have a : PySem.W.dataLt (keyL M) (keyL L) = false := by simpa using h1
  have b : PySem.W.dataLt (keyL L) (keyL M) = false := by simpa using h2
  have e := PyProof.Rows.lex_total _ _ b a
  rw [toks_key, toks_key] at e
  injection e with _ e
  injection e with _ e
  injection e with _ e
  exact toks_ints (List.append_inj_left' e rfl)
def ltL (L M : List Nat) : Prop := leL L M = true ∧ L ≠ M
theorem ltL_as (L M : List Nat) (h1 : ltL L M) (h2 : ltL M L) : False := h1.2 (leL_anti h1.1 h2.1)
theorem sortL_lt {Ls : List (List Nat)} (h : Ls.Nodup) : (Ls.mergeSort leL).Pairwise ltL := by
  have h1 := PySem.W.sort_pairwise leL_tot Ls
  have h2 : (Ls.mergeSort leL).Nodup := (List.mergeSort_perm Ls leL).nodup_iff.mpr h
  exact (h1.and h2).imp fun h => h
theorem sortB_snd (bs : List Lo) : (bs.mergeSort leB).map (·.2) = (bs.map (·.2)).mergeSort leL := PySem.W.sort_maps (r := leB) (s := leL) (fun b : Lo => b.2) fun a _ b _ => rfl
theorem ltL_len {L M : List Nat} (h : ltL L M) : L.length ≤ M.length := leL_len h.1
end Ah
end
section
set_option Elab.async false
set_option linter.all false
set_option maxRecDepth 100000
set_option maxHeartbeats 2000000
/-! f'{n:b}' -/
namespace L2
open PySem PySem.Spec PyProof.Rows
open Builtin Builtin.Int Builtin.Float
def biT (a : Nat) : PySem.Str := ⟨((Nat.toDigits 2 a).map Char.toNat).toArray⟩
def fB : FormatSpec := { align := 62, type := some 98 }
theorem parse_b : parseFormatSpec (Str.ofString "b").cps.toList "int" 62 = .ok fB := by rfl
theorem if_neg' {c : Prop} [Decidable c] {X Y : Prop} (hc : ¬ c) (h : Y) : if c then X else Y := by rw [if_neg hc]; exact h
section
variable {prog : Program} {w : World} {A : Around} {E : Value → Shared → Prop} {s : Shared}
theorem field_b {a : Int} {t : Tok} {Q : Value → Shared → Prop} (h0 : (decide (a < 0)) = false) (hl : (biT a.natAbs).length ≤ sizeLine) (h : Q (.str (biT a.natAbs) (s.toks + 1)) { s with toks := s.toks + 1 + 1 }) :
    wpAny (model prog w) A (formatField (.int a t) "b") Q E s := by
  show wpAny _ _ (holding [.int a t] (pyFormat (.int a t) "b")) Q E s
  refine wpAny_holding ?_
  unfold pyFormat
  refine wpAny_bind (wpAny_mkStr ?_ (by decide))
  refine wpAny_bind (m := callSpecial? (.int a t) (Str.ofString "__format__") [.str "b" s.toks]) (wpAny_callSpecial?_slot (name := Str.ofString "__format__") (typeIs_int _ _ t) PySem.F.slot_int_format ?_)
  refine wpAny_call (codeAny_call_builtin PySem.F.slot_int_format.plain PySem.F.entry_int_format (PySem.F.slot_int_format.check _ _ _ _ _ _ _ _ (typeIs_int _ _ t) (PySem.F.args_int_format_2 _ _) ?_))
  unfold Builtin.«int.__format__»
  simp only [selfAndOne, noKeywords, Int.intOfSelf, asInt?, asStr?, List.isEmpty_nil, if_true, pure_bind, bind_pure, bind_assoc, Bool.false_eq_true, if_false,
    show (Value.str (Str.ofString "b") s.toks == Value.none) = false from rfl]
  refine wpAny_bind (wpAny_typeNameOf (T := "str") (typeIs_str _ _ _) (by decide) fun _ => ?_)
  rw [if_neg (by decide +kernel)]
  rw [if_neg (by decide +kernel)]
  refine wpAny_bind (wpAny_typeNameOfCut_int ?_)
  rw [parse_b]
  dsimp only
  rw [if_pos (by decide +kernel)]
  rw [show fB.type.getD (if ((Str.ofString "b").cps.back? == some 0) = true then 0 else 100) = 98 from rfl]
  have e : intField' fB (decide (a < 0)) [] ((Nat.toDigits 2 a.natAbs).map fun c => (if ((98 : Nat) == 88) = true then c.toUpper else c).toNat) [] 4 = biT a.natAbs := by
    have h1 : ((Nat.toDigits 2 a.natAbs).map fun c => (if ((98 : Nat) == 88) = true then c.toUpper else c).toNat) = (Nat.toDigits 2 a.natAbs).map Char.toNat := List.map_congr_left fun c _ => rfl
    rw [h1, h0]
    unfold intField' biT fB
    have h2 : ∀ l : List Nat, (if l.isEmpty = true then [] else List.replicate ((0 : Int).toNat - l.length) 48 ++ l) = l := fun l => by
      cases l with
      | nil => rfl
      | cons x l => simp
    simp [h2]
    try omega
  show wpAny _ _ (retStr _) _ _ _
  unfold retStr
  refine wpAny_bind (wpAny_mkStr (wpAny_pure ?_) ?hs2)
  case hs2 =>
    have h2 : (intField' fB (decide (a < 0)) [] ((Nat.toDigits 2 a.natAbs).map fun c => (if ((98 : Nat) == 88) = true then c.toUpper else c).toNat) [] 4).length ≤ sizeLine := by
      rw [e]
      exact hl
    exact h2
  dsimp only
  refine wpAny_bind (wpAny_isInstance (typeIs_str _ _ _) isSubtype_str_str (wpAny_pure ?_))
  have h2 : Q (.str (intField' fB (decide (a < 0)) [] ((Nat.toDigits 2 a.natAbs).map fun c => (if ((98 : Nat) == 88) = true then c.toUpper else c).toNat) [] 4) (s.toks + 1)) { s with toks := s.toks + 1 + 1 } := by
    rw [e]
    exact h
  exact h2
end
end L2
end
section
set_option Elab.async false
set_option linter.all false
set_option maxRecDepth 100000
set_option maxHeartbeats 4000000
namespace L2
open PySem PySem.Spec PyProof.Rows
/-- how many rows a mask has -/
def pc (n : Nat) : Nat := ((List.range 12).filter fun i => n.testBit i).length
def pcOk (n : Nat) : Bool := decide (Txt.count (biT n) "1" = pc n) && decide ((biT n).length ≤ 100)
theorem pc_all : (List.range 256).all pcOk = true := by decide +kernel
theorem pc_ok {n : Nat} (h : n < 256) : Txt.count (biT n) "1" = pc n ∧ (biT n).length ≤ 100 := by
  have e := List.all_eq_true.mp pc_all n (List.mem_range.mpr h)
  unfold pcOk at e
  rw [Bool.and_eq_true] at e
  exact ⟨of_decide_eq_true e.1, of_decide_eq_true e.2⟩
section
variable {X : Cx}
def tFmtB (te : TE) : TE := fun σ H Q => te σ H fun x H1 => ∃ a : Int, x = .int a ∧ 0 ≤ a ∧ (biT a.natAbs).length ≤ sizeLine ∧ Q (.str (biT a.natAbs)) H1
theorem pe_fmtB {e : Expr} {te : TE} {j : Nat} {p1 p2 p3 p4 : Pos} (he : PE X e te) : PE X (.JoinedStr [.FormattedValue e (-1) (some (.JoinedStr [.Constant (.str "b") j p3] p4)) p2] p1) (tFmtB te) := by
  refine pe_joined1 ⟨fun pins s σ H Q I h => ?_⟩
  refine wpAny_FormattedValue_spec (thn (he.run pins s σ H _ I h) fun v s1 ⟨x, H1, I1, r1, a, ex, h0, hl, q⟩ => ?_)
  subst ex
  obtain ⟨t, rfl⟩ := r1
  refine wpAny_JoinedStr_one (Calls.Constant_str ?_)
  exact ⟨_, _, rfl, field_b (decide_eq_false (by omega)) hl ⟨.str (biT a.natAbs), H1, I1.tok _, ⟨_, rfl⟩, q⟩⟩
end
end L2
namespace Ah
open PySem PySem.Spec PyProof.Rows L2
theorem scSize : FnScope ["mask", "digits"] ["mask"] (defScope sSizeOf) := ⟨rfl, rfl, rfl, by decide +kernel, rfl, by decide +kernel, by decide +kernel⟩
def spSize : Sp := fun vs H Q _ => ∃ m : Nat, vs = [.int m] ∧ m < 256 ∧ Q (.int (pc m)) H
section
variable {P : Program} {w : World} {K : PySem.W.Frag} {mg : Str → Option Value} {base : Heap} {f : Addr} {fd : FuncData}
theorem ok_size (F : FnP K "size_of" sSizeOf f fd) : FnOk P w K mg base CX0 1 f fd ["mask"] spSize := by
  refine F.ok scSize (fun vs H Q E h => ?_) (fun cdv A outer s H vs Q E hr h => ?_)
  · obtain ⟨m, rfl, _⟩ := h
    rfl
  · obtain ⟨m, rfl, hm, k⟩ := h
    refine ⟨_, PSs.nox (pss_cons (ps_set (i := 1) scSize.nd rfl (.inl rfl) (pe_fmtB (pv 0))) (pss_one (ps_ret (pe_m1 PySem.F.slot_str_count PySem.F.type_str_count mt_count (pv 1) pe_str)))), ?_⟩
    obtain ⟨h1, h2⟩ := pc_ok hm
    refine ⟨_, rfl, (m : Int), rfl, by omega, Nat.le_trans h2 (by decide), ?_⟩
    refine ⟨_, rfl, ⟨_, rfl⟩, _, _, rfl, rfl, ?_⟩
    rw [Int.natAbs_natCast, h1]
    exact k
end
end Ah
end
section
set_option Elab.async false
set_option linter.all false
set_option maxRecDepth 100000
set_option maxHeartbeats 2000000
namespace L2
open PySem PySem.Spec PyProof.Rows
section
variable {X : Cx}
/-- d.get(k, v) -/
def rDicGet (K : PySem.W.Frag) (P : Program) (w : World) : V → List V → Hp → VK → Prop := fun x xs H Q => ∃ (a b : Addr) (es : List Ent) (k : List Key) (v : V), x = .ref a ∧ xs = [.ref b, v] ∧ Rd H a (DicO P w a es) ∧ KeysIn K H es ∧ SqT K H b (k.map kV) ∧ Q ((valE es k).getD v) H
theorem mt_dicGet (hu : X.A.units + 1 < cLine) : MtR X "dict.get" (rDicGet X.K X.prog X.w) := by
  intro pins s σ H x xs v us Q I rx rxs h
  obtain ⟨a, b, es, k, d, rfl, rfl, ha, hk, hb, q⟩ := h
  cases rx
  obtain ⟨u1, u2, rfl, r1, r2⟩ := vals2 rxs
  cases r1
  obtain ⟨z, hd, hn, xs, r, dd⟩ := dic_at I ha hk
  refine call_meetsIn PySem.F.slot_dict_get dd.typeIs PySem.F.entry_dict_get (PySem.F.args_dict_get_3 _ _ _) (meetsH_dict_get_default (tupleKind (mixKind X.prog X.w)) a b hd u2) ⟨tupleKind_room_in1 hu, k, xs, key_rd I hb, dd, (valE es k).getD d, H, I.tok _, ?_, q⟩
  have e := entR_val r k
  cases q1 : valE es k with
  | none =>
    rw [q1] at e
    cases q2 : (atKey xs k).map (·.2) with
    | none => exact r2
    | some y =>
      rw [q2] at e
      exact (show False from e).elim
  | some v0 =>
    rw [q1] at e
    cases q2 : (atKey xs k).map (·.2) with
    | none =>
      rw [q2] at e
      exact (show False from e).elim
    | some y =>
      rw [q2] at e
      exact e
end
end L2
end
section
set_option Elab.async false
set_option linter.all false
set_option maxRecDepth 100000
set_option maxHeartbeats 2000000
namespace L2
open PySem PySem.Spec PyProof.Rows
/-- list(d.values()) -/
def entVs (es : List Ent) : List V := es.map fun e => e.2.2
def tListVals (P : Program) (w : World) (te : TE) : TE := fun σ H Q => te σ H fun x H1 => ∃ (a : Addr) (es : List Ent), x = .ref a ∧ Rd H1 a (DicO P w a es) ∧ ∀ p, H1 p = none → Q (.ref p) (upd H1 p (.lst (entVs es)))
theorem vals_at : ∀ {xs : List V} {us : List Value}, xs.length = us.length → (∀ (i : Nat) (v : V), xs[i]? = some v → ∃ u, us[i]? = some u ∧ RelV v u) → Vals xs us
  | [], [], _, _ => .nil
  | [], _ :: _, h, _ => by cases h
  | _ :: _, [], h, _ => by cases h
  | x :: xs, u :: us, h, k => by
    obtain ⟨u', e, r⟩ := k 0 x rfl
    have e' : u = u' := Option.some.inj e
    rw [e']
    exact .cons r (vals_at (Nat.succ.inj h) fun i v hv => k (i + 1) v hv)
section
variable {X : Cx} {e : Expr} {te : TE} {p apos cpos pos : Pos}
theorem pe_listVals (hc : X.calm = true) (he : PE X e te) (hg : Gl X "list") (hm : X.mg "list" = none) (hv : bootBuiltins "list" = some (.type "list")) (hbase : attributeBase e "values" X.env (eval e X.env) = eval e X.env := by rfl) (hline : (apos.endLine == cpos.line) = true := by rfl)
    (hs : starEach [.Call (.Attribute e "values" apos) [] [] cpos] X.env = (false, eval (.Call (.Attribute e "values" apos) [] [] cpos) X.env) :: starEach [] X.env := by rfl) :
    PE X (.Call (.Name "list" p) [.Call (.Attribute e "values" apos) [] [] cpos] [] pos) (tListVals X.prog X.w te) := by
  refine ⟨fun pins s σ H Q I hq => ?_⟩
  refine wpAny_Call_Name_kw (ld_blt I hg hm hv ?_)
  refine PyProof.Rows.callWith_type1 ?_ hs rfl
  rw [hs]
  show wpAny _ _ (spliced ((false, eval (.Call (.Attribute e "values" apos) [] [] cpos) X.env) :: backTo pos (starEach [] X.env))) _ _ s
  refine Calls.spliced_cons ?_
  refine wpAny_Call_method (T := "dict") (id := "dict.values") hbase rfl hline F.plainAttrs_dict F.slot_dict_values F.type_dict_values (thn (he.run pins s σ H _ I hq) fun u s1 ⟨x, H1, I1, rx, d, es, ex, hd, q⟩ => ?_)
  subst ex
  obtain rfl : u = Value.ref d := rx
  obtain ⟨z, hs0, hn, ks, pr, o, ds, ep, ho, hx, hdt, hents⟩ := dic_rd I1 hd
  have l1 : ds.size = ks.length := size_of_entries hents
  have l2 : es.length = ks.length := Paired.length pr
  have I2 : Inv X pins σ H1 { s1 with heap := s1.heap.push { cls := .type "dict_values", data := .fields #[.ref d] } } := I1.kept (t' := s1.toks) fun b ob q => Heap.get?_push_of_some _ q
  refine ⟨⟨o, ho, hx.1⟩, fun b eb => by cases eb; exact ⟨o, ho, hx.2.1⟩, ?_⟩
  show wpAny _ _ (callWith cpos (.builtin "dict.values") [.ref d] [] []) _ X.xe s1
  refine method_meetsIn F.slot_dict_values F.entry_dict_values rfl (PySem.evalArgs_none ⟨rfl, ⟨o, ho, hx.1⟩, F.args_dict_values_1 _, _, meets_dict_values_raw d hs0, ⟨⟨_, _, o, ho, hx, hdt⟩, ?_⟩⟩)
  refine Calls.spliced_nil ?_
  refine PySem.W.kdl_call (PySem.KdlSrc.rawValues (r := s1.heap.objs.size) (d := d) (es := ds) (ep := ep)) (I1.ok.hd hc) ⟨⟨_, Heap.get?_push_size _ rfl, rfl, rfl⟩, o, Heap.get?_push_of_some _ ho, hx, hdt⟩ (by omega) fun h' tk acc' c' kp e1 it => ?_
  have nv : H1 (s1.heap.objs.size + 1) = none := I1.hok.fresh (Nat.le_succ _)
  have rv : Vals (entVs es) acc'.toList := by
    have h1 := it.1
    have h2 : (entVs es).length = es.length := by unfold entVs; rw [List.length_map]
    have h3 : acc'.toList.length = acc'.size := Array.length_toList
    refine vals_at (by omega) fun i v hv => ?_
    unfold entVs at hv
    rw [List.getElem?_map] at hv
    obtain ⟨e0, he0, rfl⟩ := Option.map_eq_some_iff.mp hv
    obtain ⟨b, hb, g1, g2, g3⟩ := paired_get pr he0
    have qe := entry_at hents i
    rw [hb] at qe
    have hi : i < acc'.toList.length := by
      have h4 := (List.getElem?_eq_some_iff.mp he0).1
      omega
    refine ⟨acc'.toList[i], List.getElem?_eq_getElem hi, ?_⟩
    obtain ⟨hi2, ev⟩ := it.2 i acc'.toList[i] (by rw [← Array.getElem?_toList, List.getElem?_eq_getElem hi])
    have e3 : ds[i]? = some ds[i] := Array.getElem?_eq_getElem hi2
    rw [e3] at qe
    rw [ev, Option.some.inj qe]
    exact g3
  have hz : (entVs es).length ≤ sizeLine := by unfold entVs; rw [List.length_map]; exact z
  have es2 : ({ s1 with heap := s1.heap.push { cls := .type "dict_values", data := .fields #[.ref d] } } : Shared).heap.objs.size = s1.heap.objs.size + 1 := by simp [Heap.push]
  refine ⟨.ref _, _, I2.laid (t' := tk) (o := .lst (entVs es)) kp (Nat.le_refl _) ?_, rfl, q _ (I2.hok.fresh (Nat.le_refl _))⟩
  exact ⟨hz, acc'.toList, c', rv, by rw [Array.toArray_toList]; exact e1⟩
end
end L2
end
section
set_option Elab.async false
set_option linter.all false
set_option maxRecDepth 100000
set_option maxHeartbeats 4000000
namespace Ah
open PySem PySem.Spec PyProof.Rows L2
open GxR (TabB TabG Tabbed)
open GxG EnT
/-! ### an empty text: its search, its lots -/
structure ClsS (K : PySem.W.Frag) (C : Addr) : Prop where
  c : Cls K C
  n1 : NoAttr K C "rules"
  n2 : NoAttr K C "found"
  n3 : NoAttr K C "levels"
theorem if_eq0 {b c : Bool} {A B : Prop} (h : b = c) (k : if c = true then A else B) : if b = true then A else B := by rw [h]; exact k
theorem pss_nev0 {X : Cx} {rest : List Stmt} : PSs X rest (fun _ _ _ => False) := ⟨fun _ _ _ _ _ _ h => h.elim⟩
/-- a search of no rows -/
structure SE (P : Program) (w : World) (H : Hp) (x dx C fd ll l0 : Addr) (rv : V) : Prop where
  ob : H x = some (.ins C dx [("rules", rv), ("found", .ref fd), ("levels", .ref ll)])
  fd : H fd = some (DicO P w fd [])
  ll : H ll = some (.lst [.ref l0])
  l0 : H l0 = some (.lst [])
def spSI0 (K : PySem.W.Frag) (P : Program) (w : World) (C CR : Addr) : Sp := fun vs H Q _ => ∃ (x dx tq : Addr) (o : RObj) (names : List Str), vs = [.ref x, .ref o.ro, .ref tq] ∧ H x = some (.ins C dx []) ∧ o.C = CR ∧ RulesAt K P w H o [] names [] ∧ H tq = some (.tup []) ∧
  ∀ H' fd ll l0, Kept [x] H H' → SE P w H' x dx C fd ll l0 (.ref o.ro) → Q .non H'
def spSR0 (P : Program) (w : World) (C : Addr) : Sp := fun vs H Q _ => ∃ (x dx fd ll l0 : Addr) (rv : V), vs = [.ref x] ∧ SE P w H x dx C fd ll l0 rv ∧ Q .non H
def spSL0 (P : Program) (w : World) (C : Addr) : Sp := fun vs H Q _ => ∃ (x dx fd ll l0 : Addr) (rv : V), vs = [.ref x, .int 0] ∧ SE P w H x dx C fd ll l0 rv ∧ Q .non H
def spSM0 (K : PySem.W.Frag) (P : Program) (w : World) (C : Addr) : Sp := fun vs H Q _ => ∃ (x dx fd ll l0 sa : Addr) (rv : V) (s : Say), vs = [.ref x, .ref sa] ∧ SE P w H x dx C fd ll l0 rv ∧ SqT K H sa (s.ws.map V.str) ∧ ∀ p H', Kept [] H H' → H p = none → H' p = some (.lst []) → Q (.ref p) H'
theorem scSI0 : FnScope ["self", "rules", "told", "_", "saying", "number", "row"] ["self", "rules", "told"] (defScope sSearchInit) := ⟨rfl, rfl, rfl, by decide +kernel, rfl, by decide +kernel, by decide +kernel⟩
theorem scLevel0 : FnScope ["self", "size", "at", "saying", "mask", "last"] ["self", "size"] (defScope sSearchRunLevel) := ⟨rfl, rfl, rfl, by decide +kernel, rfl, by decide +kernel, by decide +kernel⟩
theorem scRun0 : FnScope ["self", "size"] ["self"] (defScope sSearchRun) := ⟨rfl, rfl, rfl, by decide +kernel, rfl, by decide +kernel, by decide +kernel⟩
theorem scMasks0 : FnScope ["self", "result", "mask", "_"] ["self", "result"] (defScope sSearchMasks) := ⟨rfl, rfl, rfl, by decide +kernel, rfl, by decide +kernel, by decide +kernel⟩
theorem scMO0 : FnScope ["rules", "told", "result", "search"] ["rules", "told", "result"] (defScope sMasksOf) := ⟨rfl, rfl, rfl, by decide +kernel, rfl, by decide +kernel, by decide +kernel⟩
section
variable {P : Program} {w : World} {K : PySem.W.Frag} {mg : Str → Option Value} {base : Heap} {f fI fR fM fL C CR' : Addr} {fd fdI fdR fdM fdL : FuncData}
theorem e_masks (F : MethP K "masks" "Search.masks" sSearchMasks f fd) (CS : ClsS K C) (B0 : Bl mg) : FnOk P w K mg base CX0 1 f fd ["self", "result"] (spSM0 K P w C) := by
  refine F.ok scMasks0 (fun vs H Q E h => ?_) (fun cdv A outer s H vs Q E hr h => ?_)
  · obtain ⟨x, dx, fdd, ll, l0, sa, rv, sy, rfl, _⟩ := h
    rfl
  · obtain ⟨x, dx, fdd, ll, l0, sa, rv, sy, rfl, S, hsa, k⟩ := h
    have hu : A.units + 3 + 1 < cLine := by have := hr.units; exact (by have h2 : (A.deeper (envOfC "Search.masks" (defScope sSearchMasks) s.heap.objs.size f cdv)).units = A.units + 3 := rfl; omega)
    refine ⟨_, PSs.nox (pss_one (ps_ret (pe_callB (show CallR _ _ (rSortedI K) from cr_sortedI) (by rfl) B0.sorted_ (by decide +kernel) (pa_cons (pe_lc (own := [("mask", 2), ("_", 3)]) (g := gTup K 2 (gCons (gName 2) (gCons (gName 3) gNil))) (tt := tYes) rfl scMasks0.nd (pi_list (pe_dicM PySem.F.slot_dict_get PySem.F.type_dict_get (mt_dicGet hu) (pe_fld (pv 0) rfl) (pa_cons (pv 1) (pa_cons (pe_lst pa_nil) pa_nil))))
      (blkOk_by (N := ["self", "result", "mask", "_"]) (sc := defScope sSearchMasks) (by decide +kernel)) (fun _ _ _ _ _ => (pg_tup rfl (pgs_cons (pg_name (i := 2) scMasks0.nd rfl (Or.inl rfl)) (pgs_cons (pg_name (i := 3) scMasks0.nd rfl (Or.inl rfl)) pgs_nil)))) (fun _ _ _ _ _ => pts_nil) (fun _ _ _ _ _ => (pv 2))) pa_nil)))), ?_⟩
    refine ⟨_, rfl, _, _, _, _, _, rfl, S.ob, CS.c, CS.n2, rfl, ⟨fdd, [], rfl, .inl S.fd⟩, _, rfl, Nat.zero_le _, fun ln nl => ?_⟩
    have kl : Kept [] H (L2.upd H ln (.lst [])) := (Kept.refl H).upd nl
    refine ⟨fdd, sa, [], keyW sy.ws, .ref ln, rfl, rfl, .inl (kl _ _ S.fd (by simp)), (fun e he => nomatch he), (by rw [keyW_kV]; exact sqT_tk (.of kl) hsa), ?_⟩
    refine ⟨ln, rfl, ⟨[], .inl (.of upd_same)⟩, fun D nD => ?_⟩
    refine lc_it (walk_list (K := K) (a := ln) (xs := [])) (fun i Ha => Ha D = some (.lst []) ∧ Kept [] (L2.upd H ln (.lst [])) Ha) ⟨upd_same, (Kept.refl _).upd nD⟩ (fun i Ha _ pv => .inl (.of (pv.2 _ _ upd_same (by simp)))) ?_ ?_
    · rintro i y Ha0 Ha hi _ _
      exact absurd hi (Nat.not_lt_zero _)
    · rintro Ha ⟨e1, kk⟩
      refine ⟨D, [], rfl, .inl (.of e1), fun ns' p hp hw np => ?_⟩
      obtain rfl := hp.eq_nil
      have kD : Kept [] H Ha := kl.trans kk
      exact k p _ (kD.upd np) (none_of kD np) upd_same
theorem e_level (F : MethP K "run_level" "Search.run_level" sSearchRunLevel f fd) (CS : ClsS K C) (B0 : Bl mg) : FnOk P w K mg base CX0 1 f fd ["self", "size"] (spSL0 P w C) := by
  refine F.ok scLevel0 (fun vs H Q E h => ?_) (fun cdv A outer s H vs Q E hr h => ?_)
  · obtain ⟨x, dx, fdd, ll, l0, rv, rfl, _⟩ := h
    rfl
  · obtain ⟨x, dx, fdd, ll, l0, rv, rfl, S, k⟩ := h
    refine ⟨_, PSs.nox (pss_cons (ps_set (i := 2) scLevel0.nd rfl (.inl rfl) pe_int)
      (pss_one (ps_while PassesOwn.never (pt_cmpR op_lt (pv 2) (pe_callB call_len_seq (by rfl) B0.len_ (by decide +kernel) (pa_cons (pe_ix ix_list (pe_fld (pv 0) rfl) (pv 1) (fun _ _ => rfl)) pa_nil)) (nomark _))
        pss_nev0))), ?_⟩
    refine ⟨fun m σ Ha => σ = [some (.ref x), some (.int 0), some (.int 0), none, none, none] ∧ Ha = H ∧ m = 0, ⟨_, rfl, rfl, rfl⟩, ?_⟩
    rintro m σ Ha ⟨rfl, rfl, rfl⟩
    refine ⟨_, rfl, _, rfl, _, _, _, _, _, rfl, S.ob, CS.c, CS.n3, rfl, _, rfl, ll, _, 0, V.ref l0, rfl, rfl, .inl (.of S.ll), at_of (j := 0) rfl rfl, l0, [], rfl, .inl (.inl (.of S.l0)), _, _, rfl, rfl, _, rfl, ?_⟩
    exact if_eq0 (c := false) (by decide) (iteF k)
theorem e_run (F : MethP K "run" "Search.run" sSearchRun f fd) (CS : ClsS K C) (B0 : Bl mg)
    (mV : Meth K C "run_level" fL) (FV : FnOk P w K mg base CX0 1 fL fdL ["self", "size"] (spSL0 P w C)) (bV : Binds K fdL ["self", "size"] []) :
    FnOk P w K mg base CX0 2 f fd ["self"] (spSR0 P w C) := by
  refine F.ok scRun0 (fun vs H Q E h => ?_) (fun cdv A outer s H vs Q E hr h => ?_)
  · obtain ⟨x, dx, fdd, ll, l0, rv, rfl, _⟩ := h
    rfl
  · obtain ⟨x, dx, fdd, ll, l0, rv, rfl, S, k⟩ := h
    refine ⟨_, PSs.nox (pss_one (ps_for PassesOwn.never rfl (pi_range1 (by rfl) B0.range_ (pa_cons (pe_callB call_len_seq (by rfl) B0.len_ (by decide +kernel) (pa_cons (pe_fld (pv 0) rfl) pa_nil)) pa_nil)) (pg_name (i := 1) scRun0.nd rfl (Or.inl rfl))
      (pss_one (ps_expr (pe_meth (pv 0) CS.c mV FV hr bV .nil pass0 (pa_cons (pv 1) pa_nil)))))), ?_⟩
    refine ⟨_, rfl, _, _, _, _, _, rfl, S.ob, CS.c, CS.n3, rfl, ll, _, rfl, .inl (.inl (.of S.ll)), ?_⟩
    refine ⟨1, rfl, by omega, by omega, for_it (walk_range (lo := 0) (n := 1)) (fun i σ Ha => (∃ v1, σ = [some (.ref x), v1]) ∧ Ha = H) ⟨⟨_, rfl⟩, rfl⟩ (fun _ _ _ _ _ => trivial) ?_ ?_⟩
    · rintro i y σ Ha0 Ha hk ⟨⟨v1, rfl⟩, rfl⟩ ⟨rfl, ex⟩
      obtain rfl : i = 0 := by omega
      have ex2 : y = V.int 0 := ex
      subst ex2
      exact ⟨_, rfl, x, dx, _, rfl, S.ob, rfl, _, rfl, x, dx, fdd, ll, l0, rv, rfl, S, ⟨_, rfl⟩, rfl⟩
    · rintro σ Ha ⟨⟨v1, rfl⟩, rfl⟩
      exact k
theorem e_sinit (F : MethP K "__init__" "Search.__init__" sSearchInit f fd) (CS : ClsS K C) (CR : ClsR K CR') (B0 : Bl mg) :
    FnOk P w K mg base CX0 3 f fd ["self", "rules", "told"] (spSI0 K P w C CR') := by
  refine F.ok scSI0 (fun vs H Q E h => ?_) (fun cdv A outer s H vs Q E hr h => ?_)
  · obtain ⟨x, dx, tq, o, names, rfl, _⟩ := h
    rfl
  · obtain ⟨x, dx, tq, o, names, rfl, hx, rfl, R, htq, k⟩ := h
    refine ⟨_, PSs.nox (pss_cons (ps_fld (pv 0) (pv 1) rfl)
      (pss_cons (ps_fld (pv 0) pe_dicNew rfl)
      (pss_cons (ps_fld (pv 0) (pe_lc (own := [("_", 3)]) (g := gName 3) (tt := tYes) rfl scSI0.nd (pi_range1 (by rfl) B0.range_ (pa_cons (pe_op op_add pe_int (pe_callB call_len_seq (by rfl) B0.len_ (by decide +kernel) (pa_cons (pe_fld (pv 1) rfl) pa_nil))) pa_nil))
        (blkOk_by (N := ["self", "rules", "told", "_", "saying", "number", "row"]) (sc := defScope sSearchInit) (by decide +kernel)) (fun _ _ _ _ _ => pg_name (i := 3) scSI0.nd rfl (Or.inl rfl)) (fun _ _ _ _ _ => pts_nil) (fun _ _ _ _ _ => pe_lst pa_nil)) rfl)
      (pss_cons (ps_for PassesOwn.never rfl (pi_tup (pv 2)) (pg_name (i := 4) scSI0.nd rfl (Or.inl rfl)) pss_nev0)
      (pss_one (ps_for PassesOwn.never rfl (pi_enum (by rfl) B0.enumerate_ (pa_cons (pe_fld (pv 1) rfl) pa_nil)) (pg_tup rfl (pgs_cons (pg_name (i := 5) scSI0.nd rfl (Or.inl rfl)) (pgs_cons (pg_name (i := 6) scSI0.nd rfl (Or.inl rfl)) pgs_nil))) pss_nev0)))))), ?_⟩
    obtain ⟨vs, hvs, rvs⟩ := R.rows
    obtain rfl : vs = [] := by
      have := rvs.length
      exact List.length_eq_zero_iff.mp this
    have xr : o.ro ≠ x := fun z => by
      have e := R.ob
      rw [z, hx] at e
      cases e
    have xl : o.rl ≠ x := fun z => by rw [z, hx] at hvs; cases hvs
    have xt : tq ≠ x := fun z => by rw [z, hx] at htq; cases htq
    refine ⟨_, rfl, _, rfl, x, C, dx, [], rfl, hx, CS.c, CS.n1, by decide, ?_⟩
    rw [show putF "rules" (V.ref o.ro) [] = ([("rules", V.ref o.ro)] : List (Str × V)) from rfl]
    intro fdd nfd
    have fx : fdd ≠ x := fun z => by
      rw [z, upd_same] at nfd
      cases nfd
    refine ⟨_, rfl, x, C, dx, _, rfl, by rw [upd_ne (Ne.symm fx)]; exact upd_same, CS.c, CS.n2, by show (1 : Nat) < 1000; decide, ?_⟩
    rw [show putF "found" (V.ref fdd) [("rules", V.ref o.ro)] = ([("rules", V.ref o.ro), ("found", V.ref fdd)] : List (Str × V)) from rfl]
    have nfH : H fdd = none := by rw [upd_ne fx] at nfd; exact nfd
    have h3x : (L2.upd (L2.upd (L2.upd H x (.ins C dx [("rules", .ref o.ro)])) fdd (DicO P w fdd [])) x (.ins C dx [("rules", .ref o.ro), ("found", .ref fdd)])) x = some (.ins C dx [("rules", .ref o.ro), ("found", .ref fdd)]) := upd_same
    have h3f : (L2.upd (L2.upd (L2.upd H x (.ins C dx [("rules", .ref o.ro)])) fdd (DicO P w fdd [])) x (.ins C dx [("rules", .ref o.ro), ("found", .ref fdd)])) fdd = some (DicO P w fdd []) := by rw [upd_ne fx]; exact upd_same
    have h3o : ∀ b u, H b = some u → b ≠ x → (L2.upd (L2.upd (L2.upd H x (.ins C dx [("rules", .ref o.ro)])) fdd (DicO P w fdd [])) x (.ins C dx [("rules", .ref o.ro), ("found", .ref fdd)])) b = some u := fun b u hb hne => by
      rw [upd_ne hne, upd_ne (ne_of_none hb nfH), upd_ne hne]
      exact hb
    have n3 : ∀ b, (L2.upd (L2.upd (L2.upd H x (.ins C dx [("rules", .ref o.ro)])) fdd (DicO P w fdd [])) x (.ins C dx [("rules", .ref o.ro), ("found", .ref fdd)])) b = none → H b = none := fun b hb => by
      cases e : H b with
      | none => rfl
      | some u =>
        have hne : b ≠ x := fun z => by rw [z, h3x] at hb; cases hb
        rw [h3o b u e hne] at hb
        cases hb
    have r3 := h3o _ _ R.ob xr
    have l3 := h3o _ _ hvs xl
    have t3 := h3o _ _ htq xt
    refine ⟨_, rfl, _, _, _, _, _, rfl, r3, CR.c, CR.n1, rfl, o.rl, [], rfl, .inl (.inl (.of l3)), _, _, rfl, rfl, 1, rfl, by omega, by omega, fun D nD => ?_⟩
    refine lc_it (walk_range (lo := 0) (n := 1)) (fun i Ha => ∃ ls : List Addr, Ha D = some (.lst (ls.map V.ref)) ∧ ls.length = i ∧ (∀ a ∈ ls, Ha a = some (.lst []) ∧ (L2.upd (L2.upd (L2.upd H x (.ins C dx [("rules", .ref o.ro)])) fdd (DicO P w fdd [])) x (.ins C dx [("rules", .ref o.ro), ("found", .ref fdd)])) a = none ∧ a ≠ D) ∧ Kept [] (L2.upd (L2.upd (L2.upd H x (.ins C dx [("rules", .ref o.ro)])) fdd (DicO P w fdd [])) x (.ins C dx [("rules", .ref o.ro), ("found", .ref fdd)])) Ha) ⟨[], upd_same, rfl, fun a ha => (nomatch ha), (Kept.refl _).upd nD⟩ (fun _ _ _ _ => trivial) ?_ ?_
    · rintro i y Ha0 Ha hi ⟨ls, e1, e2, e4, kk⟩ ⟨rfl, ex⟩
      refine ⟨rfl, yes_if ⟨Nat.zero_le _, fun p np => ⟨ls.map V.ref, ?_, ?_, ls ++ [p], ?_, ?_, fun a ha => ?_, ?_⟩⟩⟩
      · rw [upd_ne (ne_of_none e1 np)]
        exact e1
      · rw [List.length_map, e2]
        exact Nat.lt_of_lt_of_le (show i < 10 by omega) (by decide)
      · rw [List.map_append]
        exact upd_same
      · rw [List.length_append, List.length_singleton, e2]
      · rcases List.mem_append.mp ha with q | q
        · obtain ⟨g1, g2, g3⟩ := e4 a q
          exact ⟨by rw [upd_ne g3, upd_ne (ne_of_none g1 np)]; exact g1, g2, g3⟩
        · rw [List.mem_singleton.mp q]
          have pD : p ≠ D := Ne.symm (ne_of_none e1 np)
          exact ⟨by rw [upd_ne pD]; exact upd_same, none_of kk np, pD⟩
      · exact kD_far nD (kk.upd np)
    · rintro Ha ⟨ls, e1, e2, e4, kk⟩
      obtain ⟨l0, rfl⟩ : ∃ l0, ls = [l0] := by
        match ls, e2 with
        | [a], _ => exact ⟨a, rfl⟩
      obtain ⟨g1, g2, g3⟩ := e4 l0 (List.mem_singleton.mpr rfl)
      have hx2 := kk _ _ h3x (by simp)
      refine ⟨_, rfl, x, C, dx, _, rfl, hx2, CS.c, CS.n3, lt2, ?_⟩
      have Dx : D ≠ x := Ne.symm (ne_of_none h3x nD)
      have lx : l0 ≠ x := Ne.symm (ne_of_none h3x g2)
      have S5 : SE P w (L2.upd Ha x (.ins C dx [("rules", V.ref o.ro), ("found", V.ref fdd), ("levels", V.ref D)])) x dx C fdd D l0 (.ref o.ro) :=
        ⟨upd_same, by rw [upd_ne fx]; exact kk _ _ h3f (by simp), by rw [upd_ne Dx]; exact e1, by rw [upd_ne lx]; exact g1⟩
      have o5 : ∀ b u, H b = some u → b ≠ x → (L2.upd Ha x (.ins C dx [("rules", V.ref o.ro), ("found", V.ref fdd), ("levels", V.ref D)])) b = some u := fun b u hb hne => by
        rw [upd_ne hne]
        exact kk _ _ (h3o b u hb hne) (by simp)
      have k5 : Kept [x] H (L2.upd Ha x (.ins C dx [("rules", V.ref o.ro), ("found", V.ref fdd), ("levels", V.ref D)])) := fun b u hb hne => o5 b u hb (by simpa using hne)
      have fin := k _ _ _ _ k5 S5
      have t5 := o5 _ _ htq xt
      have r5 := o5 _ _ R.ob xr
      have l5 := o5 _ _ hvs xl
      have ef : putF "levels" (V.ref D) [("rules", V.ref o.ro), ("found", V.ref fdd)] = ([("rules", V.ref o.ro), ("found", V.ref fdd), ("levels", V.ref D)] : List (Str × V)) := rfl
      rw [ef]
      generalize L2.upd Ha x (.ins C dx [("rules", V.ref o.ro), ("found", V.ref fdd), ("levels", V.ref D)]) = H5 at S5 o5 k5 fin t5 r5 l5 ⊢
      refine ⟨_, rfl, tq, rfl, ⟨_, SqT.of t5⟩, for_it (walk_tup (K := K) (a := tq) (xs := [])) (tb := fun _ _ _ => False) (fun i σ Ha => σ = L2.start ["self", "rules", "told", "_", "saying", "number", "row"] [V.ref x, V.ref o.ro, V.ref tq] ∧ Ha = H5) ⟨rfl, rfl⟩ (fun i σ Ha _ pv => by rw [pv.2]; exact SqT.of t5) ?_ ?_⟩
      · rintro i y σ Ha0 Ha hi _ _
        exact absurd hi (Nat.not_lt_zero _)
      · rintro σ Ha ⟨rfl, rfl⟩
        refine ⟨_, rfl, _, _, _, _, _, rfl, r5, CR.c, CR.n1, rfl, o.rl, [], rfl, .inl (.of l5), for_it (walk_enum (K := K) (a := o.rl) (xs := [])) (tb := fun _ _ _ => False) (fun i σ' Hb => σ' = L2.start ["self", "rules", "told", "_", "saying", "number", "row"] [V.ref x, V.ref o.ro, V.ref tq] ∧ Hb = Ha) ⟨rfl, rfl⟩ (fun i σ Hb _ pv => by rw [pv.2]; exact .inl (.of l5)) ?_ ?_⟩
        · rintro i y σ Ha0 Ha hi _ _
          exact absurd hi (Nat.not_lt_zero _)
        · rintro σ Hb ⟨rfl, rfl⟩
          exact fin
end
end Ah
end
section
set_option Elab.async false
set_option linter.all false
set_option maxRecDepth 100000
set_option maxHeartbeats 2000000
/-! an own exception whose __init__ begins with super().__init__('..'): the def by its further statements. -/
namespace Ah
open PySem PySem.Spec PyProof.Rows L2

theorem look_mem {κ : Type} {x : Str} {u : κ} : ∀ {l : List (Str × κ)}, (l.map (·.1)).Nodup → (x, u) ∈ l → l.lookup x = some u
  | [], _, h => nomatch h
  | (y, v) :: l, nd, h => by
    rw [List.map_cons, List.nodup_cons] at nd
    rcases List.mem_cons.mp h with e | e
    · cases e
      simp [List.lookup]
    · have hne : (x == y) = false := beq_eq_false_iff_ne.mpr fun z => nd.1 (List.mem_map.mpr ⟨_, e, z⟩)
      rw [List.lookup, hne]
      exact look_mem nd.2 e
theorem zip_fst {κ : Type} : ∀ {ps : List Str} {us : List κ}, ps.length = us.length → (ps.zip us).map (·.1) = ps
  | [], [], _ => rfl
  | p :: ps, u :: us, h => by rw [List.zip_cons_cons, List.map_cons, zip_fst (by simpa using h)]
  | [], _ :: _, h => by simp at h
  | _ :: _, [], h => by simp at h
theorem zip_look {ps : List Str} {us : List Value} {i : Nat} {y : Str} {u : Value} (nd : ps.Nodup) (hl : ps.length = us.length) (hp : ps[i]? = some y) (hu : us[i]? = some u) : (ps.zip us).reverse.lookup y = some u := by
  refine look_mem ?_ (List.mem_reverse.mpr ?_)
  · rw [List.map_reverse, zip_fst hl]
    exact (List.reverse_perm ps).nodup_iff.mpr nd
  · refine List.mem_of_getElem? (i := i) ?_
    rw [List.getElem?_zip_eq_some]
    exact ⟨hp, hu⟩

/-- the context of such a def's body, at its entry -/
def cxSup (CX : CXT) (P : Program) (w : World) (K : PySem.W.Frag) (mg : Str → Option Value) (base : Heap) (N : List Str) (qual : Str) (scope : Scope) (f : Addr) (cd : Value) (cc : Addr) (A : Around) (outer : List Env) (s : Shared) (H : Hp) (E : XK) : Cx where
  prog := P
  w := w
  K := K
  mg := mg
  base := base
  A := A.deeper (PySem.W.ksEnv qual scope s.heap.objs.size f cd cc)
  N := N
  s_0 := s
  H_0 := H
  env := PySem.W.ksEnv qual scope s.heap.objs.size f cd cc
  outer := outer
  stack := PySem.W.ksEnv qual scope s.heap.objs.size f cd cc :: outer
  ex := []
  calm := true
  fn := fun _ => false
  pn := []
  xe := fun e s' => wpAny (model P w) (A.deeper (PySem.W.ksEnv qual scope s.heap.objs.size f cd cc)) (leaving (PySem.W.ksEnv qual scope s.heap.objs.size f cd cc) e) (fun _ s'' => CX outer H s E e s'') (fun e' s'' => CX outer H s E e' s'') s'

/-- what the written part says of such a def -/
structure SupFn (P : Program) (K : PySem.W.Frag) (mg : Str → Option Value) (f C : Addr) (fd : FuncData) (N : List Str) (slf : Str) (rest : List Stmt) : Prop where
  ex : ∃ (oc : Value) (od : Option Addr) (name qual : Str) (params : Arguments) (scope : Scope) (dV kV doc pm ct : Value) (an : Option Addr) (cda cc : Addr) (osl : Array (Option Value)) (p0 p1 p2 p3 p4 p5 : Pos) (txt : Str) (kk : Nat) (ar : Arg)
    (ccl cl : Value) (cdd cld : Option Addr) (ccs csl : Array (Option Value)) (vs : Array Value) (file : Str) (tf : Tok) (pl : Addr → Sem Bool),
    fd = PySem.W.ksFn name qual params (.Expr (.Call (.Attribute (.Call (.Name "super" p0) [] [] p1) "__init__" p2) [.Constant (.str txt) kk p3] [] p4) p5 :: rest) scope dV kV doc pm an (.ref cda) ct cc ∧
    K.lookup f = some ⟨oc, od, .func fd, osl⟩ ∧ PySem.W.codeIn K (.ref cda) qual = true ∧ (params.posonlyargs ++ params.args).head? = some ar ∧ ar.arg = slf ∧
    K.lookup cda = some ⟨ccl, cdd, .fields vs, ccs⟩ ∧ vs[2]? = some (.str file tf) ∧ ((P.main.file : Str) == file) = true ∧
    K.lookup cc = some ⟨cl, cld, .cell (some (.ref C)), csl⟩ ∧
    scope.kind = .function ∧ scope.isCoroutine = false ∧ scope.isGenerator = false ∧ (∀ x ∈ scope.names, x.2 ≠ .cell) ∧ (∀ x ∈ N, scope.names.lookup x = some .local) ∧
    (∀ x, scope.names.lookup x = some .free → x = "__class__") ∧
    scope.names.lookup ("super" : Str) = some .globalImplicit ∧ scope.names.lookup ("__class__" : Str) = some .free ∧
    (∀ L : Addr, interactive (PySem.W.ksEnv qual scope L f (.ref cda) cc) = false) ∧
    (∀ L : Addr, swapsWith (.Call (.Attribute (.Call (.Name "super" p0) [] [] p1) "__init__" p2) [.Constant (.str txt) kk p3] [] p4) none p5.line (PySem.W.ksEnv qual scope L f (.ref cda) cc) = pure false) ∧
    (∀ L : Addr, eval (.Call (.Attribute (.Call (.Name "super" p0) [] [] p1) "__init__" p2) [.Constant (.str txt) kk p3] [] p4) (PySem.W.ksEnv qual scope L f (.ref cda) cc) = (do
      let ov ← attributeBase (.Call (.Name "super" p0) [] [] p1) "__init__" (PySem.W.ksEnv qual scope L f (.ref cda) cc) (eval (.Call (.Name "super" p0) [] [] p1) (PySem.W.ksEnv qual scope L f (.ref cda) cc))
      standAt p2.atName
      let (g, first) ← holding [ov] (getMethod ov "__init__" (pl L))
      callWith p4 g first (backTo p4 (starEach [.Constant (.str txt) kk p3] (PySem.W.ksEnv qual scope L f (.ref cda) cc))) [])) ∧
    (∀ L : Addr, starEach [.Constant (.str txt) kk p3] (PySem.W.ksEnv qual scope L f (.ref cda) cc) = (false, eval (.Constant (.str txt) kk p3) (PySem.W.ksEnv qual scope L f (.ref cda) cc)) :: starEach [] (PySem.W.ksEnv qual scope L f (.ref cda) cc)) ∧
    (∀ L : Addr, (backTo p4 (starEach [] (PySem.W.ksEnv qual scope L f (.ref cda) cc))).any (·.1) = false)
  nd : N.Nodup
  hd : N[0]? = some slf
  sup : mg "super" = none
  top : (P.main.scope.names.lookup ("super" : Str)).isSome = false
  opq : PySem.W.nsIn K cStatics "thirdparty.any" = some none
  meth : PySem.W.ks_superIn K C C "__init__" = some (some (.builtin "ValueError.__init__"))
  val : PySem.W.subIn K (.ref C) (.type "ValueError") = some true
  own : PySem.W.mroIn K C (.ref C) = some true

section
variable {CX : CXT} {P : Program} {w : World} {K : PySem.W.Frag} {mg : Str → Option Value} {base : Heap} {f C : Addr} {N : List Str} {E : XK} {A : Around} {outer : List Env} {s : Shared} {H : Hp} {us : List Value} {vs : List V}
theorem inv_sup {qual : Str} {scope : Scope} {cd : Value} {cc : Addr} {h1 : Heap} {tk : Nat} {o : Obj} {v0 : Option Value} (hd : A.handled = none) (e0 : Env0 P w K mg base A outer s H) (nd : N.Nodup) (hl : vs.length = N.length) (r : Vals vs us)
    (hkind : scope.kind = .function) (hloc : ∀ x ∈ N, scope.names.lookup x = some .local) (hcell : ∀ x ∈ scope.names, x.2 ≠ .cell) (hfree : ∀ x, scope.names.lookup x = some .free → x = "__class__")
    (hcc : K.lookup cc = some o) (ho : o.data = .cell v0)
    (hns : h1.Ns s.heap.objs.size (fun x => (N.zip us).reverse.lookup x)) (hk : ∀ b o, s.heap.get? b = some o → h1.get? b = some o) :
    Inv (cxSup CX P w K mg base N qual scope f cd cc A outer s H E) [] (L2.start N vs) H { s with heap := h1, toks := tk } := by
  have KB : ∀ b o, K.lookup b = some o → base.get? b = some o := fun b o q => e0.mod.kin _ _ q
  have lkc : ∀ {x : Str} {c : Addr}, (cxSup CX P w K mg base N qual scope f cd cc A outer s H E).env.cells.lookup x = some c → x = "__class__" ∧ c = cc := fun {x c} h => by
    have h : List.lookup x [(("__class__" : Str), cc)] = some c := h
    by_cases hx : x = "__class__"
    · subst hx
      simp [List.lookup] at h
      exact ⟨rfl, h.symm⟩
    · rw [List.lookup, beq_eq_false_iff_ne.mpr hx] at h
      cases h
  have noA : ∀ b : Addr, b ∉ (cxSup CX P w K mg base N qual scope f cd cc A outer s H E).ex := fun b z => absurd (show b ∈ ([] : List Addr) from z) (by simp)
  have hlu : N.length = us.length := by rw [← hl]; exact r.length
  have bcc := e0.bs _ _ (KB _ _ hcc)
  refine ⟨⟨e0.mod, hkind, rfl, rfl, Nat.le_refl _, fun y z c h1 h2 => (lkc h1).1.trans (lkc h2).1.symm, fun y hy => ?_, fun y c z _ => ?_, fun _ => hd, Around.frames_deeper e0.frames, .inr ⟨rfl, rfl⟩, fun b z => absurd z (noA b), e0.bs, e0.bsz, fun b _ _ => noA b, fun b z => absurd z (noA b), e0.funs, e0.frf⟩,
    rfl, e0.bare, Un.kept hk, ⟨_, hns, fun i y v h1 h2 h3 => ?_⟩, fun y c h => ⟨v0, o, ?_, ho⟩, e0.hok.fresh (Nat.le_refl _), fun y c h => ?_, fun p hp => absurd (show p ∈ ([] : List (Addr × Obj)) from hp) (by simp), e0.hok.kept hk, ?_⟩
  · have hy : scope.names.lookup y = some .cell ∨ scope.names.lookup y = some .free := hy
    rcases hy with hy | hy
    · exact absurd rfl (hcell _ (PySem.mem_of_lookup hy))
    · refine ⟨cc, ?_⟩
      rw [hfree y hy]
      show List.lookup ("__class__" : Str) [(("__class__" : Str), cc)] = some cc
      simp [List.lookup]
  · cases (show false = true from z)
  · have hi : i < vs.length := by
      unfold L2.start at h2
      by_cases hi : i < vs.length
      · exact hi
      · rw [List.getElem?_append_right (by simpa using hi)] at h2
        rw [List.getElem?_replicate] at h2
        split at h2 <;> cases h2
    have ha : vs[i]? = some v := by
      unfold L2.start at h2
      rw [List.getElem?_append_left (by simpa using hi), List.getElem?_map] at h2
      cases e : vs[i]? with
      | none => rw [e] at h2; cases h2
      | some a => rw [e] at h2; cases h2; rfl
    obtain ⟨u, hu, rv⟩ := r.get ha
    exact ⟨u, rv, .inl ⟨hloc y (List.mem_of_getElem? h1), zip_look nd hlu h1 hu⟩⟩
  · rw [(lkc h).2]
    exact hk _ _ bcc.1
  · rw [(lkc h).2]
    exact bcc.2
  · unfold L2.start
    show _ = N.length
    rw [List.length_append, List.length_map, List.length_replicate]
    omega

/-- THE RULE -/
theorem sup_fn {k : Nat} {fd : FuncData} {slf : Str} {rest : List Stmt} {sp : Sp} (S : SupFn P K mg f C fd N slf rest) (T : OexC K C)
    (len : ∀ vs H Q E, sp vs H Q E → vs.length = N.length)
    (hbody : ∀ (qual : Str) (scope : Scope) (cd : Value) (cc : Addr) (A : Around) (outer : List Env) (s : Shared) (H : Hp) (vs : List V) (Q : VK) (E : XK), (∀ x ∈ N, scope.names.lookup x = some .local) → sp vs H Q E →
      (∃ a vr, vs = .ref a :: vr ∧ H a = some (exo a C none)) ∧ ∃ t, PSs (cxSup CX P w K mg base N qual scope f cd cc A outer s H E) rest t ∧ t { nx := fun _ H' => Q .non H', rt := Q } (L2.start N vs) H) :
    FnOk P w K mg base CX (k + 1) f fd N sp := by
  refine ⟨len, fun A outer s H args us vs Q E hr e0 hb r hsp => ?_⟩
  obtain ⟨oc, od, name, qual, params, scope, dV, kV, doc, pm, ct, an, cda, cc, osl, p0, p1, p2, p3, p4, p5, txt, kk, ar, ccl, cl, cdd, cld, ccs, csl, xs, file, tf, pl, rfl, lk, hcd, hhd, har, hcda, hxs, hfile, hcc, hkind, hco, hgen, hcell, hloc, hfree, hsup, hcls, hin, hsw, hev, hst, hpl⟩ := S.ex
  have hl := len _ _ _ _ hsp
  have hlu : N.length = us.length := by rw [← hl]; exact r.length
  have KX : K.In s.heap := e0.mod.kin.keeps fun b o e => (e0.bs b o e).1
  have lim : s.heap.NoLimit := e0.mod.nolimit.keeps fun b o e => (e0.bs b o e).1
  refine PySem.ks_codeAny_call_defAt hr.depth (KX _ _ lk) rfl lim (PySem.W.codeRec_of KX hcd) rfl hb hcell (fun x hx => hloc _ (List.of_mem_zip (show (x.1, x.2) ∈ N.zip us from hx)).1) (fun h1 hns hk => ?_) hco hgen hkind
  have I : Inv (cxSup CX P w K mg base N qual scope f (.ref cda) cc A outer s H E) [] (L2.start N vs) H { s with heap := h1, toks := s.toks + (N.zip us).length } :=
    inv_sup hr.hd e0 S.nd hl r hkind hloc hcell hfree hcc rfl hns hk
  obtain ⟨⟨a, vr, rfl, ea⟩, t, ht, hq⟩ := hbody qual scope (.ref cda) cc A outer s H vs Q E hloc hsp
  obtain ⟨t1, hat⟩ := exo_at I.hok ea
  have hat : h1.get? a = some ({ cls := .ref C, dict := none, data := .fields #[.ref t1, .none, .none, .none, .bool false, .none] } : Obj) := hat
  obtain ⟨nm, q, Nm, bs, bm, sn, sub, ab, col, dd, k0, k1, k2, k3, k5, hC, hbm⟩ := T.cls
  have K1 : K.In h1 := KX.keeps hk
  have hcl : PySem.W.clsIn K C = some { name := nm, bases := bs, mro := .ref C :: bm, ns := Nm, qualname := q, hasDict := true, slotNames := sn, subclasses := sub, abstract := ab, collection := col, hasDel := false } := by unfold PySem.W.clsIn; rw [hC] <;> rfl
  have us0 : ∃ ur, us = .ref a :: ur := by
    cases r with
    | @cons _ u0 _ ur ra rw' =>
      obtain rfl : u0 = Value.ref a := ra
      exact ⟨ur, rfl⟩
  have hself : (N.zip us).reverse.lookup ar.arg = some (.ref a) := by
    obtain ⟨ur, e⟩ := us0
    rw [har]
    exact zip_look S.nd hlu S.hd (by rw [e]; rfl)
  have hlself : scope.names.lookup ar.arg = some .local := by rw [har]; exact hloc _ (List.mem_of_getElem? S.hd)
  show _root_.PySem.wpAt (model P w) (A.deeper (PySem.W.ksEnv qual scope s.heap.objs.size f (.ref cda) cc)) (.func _ (PySem.W.ksEnv qual scope s.heap.objs.size f (.ref cda) cc)) (execs _ (PySem.W.ksEnv qual scope s.heap.objs.size f (.ref cda) cc)) _ _ _
  refine PySem.ks_wpAt_execs_cons (PySem.ks_wpAt_Expr_any (PySem.ks_wpAt_MethodCall (PySem.ks_wpAt_super_base (env := PySem.W.ksEnv qual scope s.heap.objs.size f (.ref cda) cc) hsup hcls (by decide) rfl (K1 _ _ lk) rfl hhd rfl (K1 _ _ hcda) rfl hxs hfile S.top ?_) (hev _)) (hin _) (hsw _))
  obtain ⟨mb, hm1, hm2⟩ := I.mod.blt
  refine PySem.W.ks_loadName_global hkind hsup (Calls.loadGlobal_builtin (env := PySem.W.ksEnv qual scope s.heap.objs.size f (.ref cda) cc) (I.mod.glob.keeps I.bk) S.sup (hm1.keeps I.bk) ((hm2 "super" (by decide)).trans PyProof.Rows.Boot.«super») ⟨rfl, ?_⟩)
  refine wpAny_loadName_free hkind hcls rfl ⟨_, K1 _ _ hcc, rfl⟩ ?_
  refine wpAny_loadName_local hkind hlself hns hself ?_
  refine PySem.ks_wpAny_isType_cls (K1 _ _ hC) rfl ⟨rfl, ?_⟩
  refine PySem.ks_wpAny_call_super (K1 _ _ hC) rfl hat rfl (fun c e => by cases e) (PySem.W.looks_mroIn K1 S.own) (fun h2 e2 k2 => ?_)
  have K2 : K.In h2 := K1.keeps k2
  have hat2 := k2 _ _ hat
  have I2 : PySem.W.InstAt h2 a { cls := .ref C, dict := none, data := .fields #[.ref t1, .none, .none, .none, .bool false, .none] } C none := ⟨hat2, rfl, rfl, trivial⟩
  have hal := S.meth
  unfold PySem.W.ks_superIn at hal
  rw [hcl] at hal
  refine PySem.W.kxs_getMethod PySem.W.kxs_ValueError e2 (PySem.W.looks_opaque K2 S.opq) (l₀ := .ref C :: bm) (fun A Q E s k q => wpAny_bind ((PySem.W.looks_clsIn K2 hcl) A _ E s k (wpAny_pure q))) rfl K2 hal (I2.type.andThen (PySem.W.looks_subIn K2 S.val)) (PySem.W.ks_ne K2 I2 hcl) (by decide) ?_
  have k3 : ∀ b o, h1.get? b = some o → (h2.push (PySem.W.kxs_mw "ValueError.__init__" a)).get? b = some o := fun b o q => Heap.get?_push_of_some _ (k2 b o q)
  have e3 : (h2.push (PySem.W.kxs_mw "ValueError.__init__" a)).get? h2.objs.size = some (PySem.W.kxs_mw "ValueError.__init__" a) := Heap.get?_push_at rfl rfl
  generalize h2.push (PySem.W.kxs_mw "ValueError.__init__" a) = h3 at k3 e3 ⊢
  generalize h2.objs.size = u at e3 ⊢
  have I3 : Inv (cxSup CX P w K mg base N qual scope f (.ref cda) cc A outer s H E) [] (L2.start N (.ref a :: vr)) H { s with heap := h3, toks := s.toks + (N.zip us).length + 1 } := I.kept k3
  dsimp only
  rw [hst]
  refine PySem.W.kxs_callWith (i := "ValueError.__init__") (x := a) (by show (false || (backTo p4 (starEach [] (PySem.W.ksEnv qual scope s.heap.objs.size f (.ref cda) cc))).any (·.1)) = false; rw [hpl]; rfl) (Calls.evalArgs_plain ?_)
  refine Calls.spliced_cons (Calls.Constant_str (k := kk) (pos := p3) (Calls.spliced_nil ⟨e3, ?_⟩))
  refine wpAny_call (codeAny_of_tree ?_)
  show wpAny _ (A.deeper (PySem.W.ksEnv qual scope s.heap.objs.size f (.ref cda) cc)).in1 (callAny (.ref u) ⟨[.str txt _], []⟩) _ _ _
  simp only [callAny]
  refine wpAny_bind (wpAny_load e3 ?_)
  simp only [PySem.W.kxs_mw, show (Value.type "method-wrapper" == Value.type "method" || Value.type "method-wrapper" == Value.type "builtin_function_or_method" || Value.type "method-wrapper" == Value.type "method-wrapper") = true by decide, if_true]
  refine PySem.W.KFB.if_so (by decide) ?_
  refine wpAny_bind (PySem.W.check_bound_init F.excBase_ValueError.toExcCallFacts (K1.keeps k3 _ _ hC) (k3 _ _ hat) rfl ?_)
  refine wpAny_bind (wpAny_pure (wpAny_pure ?_))
  refine ⟨plainId_quiet F.excBase_ValueError.init.plain _, codeAny_builtin F.excBase_ValueError.initEntry ?_⟩
  refine PySem.W.exc_init_tree (cls := .ref C) (t0 := t1) (dv := none) (c2 := .none) (c3 := .none) (b4 := .bool false) (k3 _ _ hat) (by rw [sizeLine_eq]; show 1 ≤ 16777216; decide) fun h5 k5 e5 _ => ?_
  have I5 : Inv (cxSup CX P w K mg base N qual scope f (.ref cda) cc A outer s H E) [] (L2.start N (.ref a :: vr)) (upd H a (exo a C none)) { s with heap := h5, toks := s.toks + (N.zip us).length + 1 + 1 } :=
    (I3.tok (s.toks + (N.zip us).length + 1 + 1)).write (x := a) (e := a) (o := exo a C none) (by rw [ea]; exact True.intro) (.inl rfl) k5 ⟨_, e5⟩ (exo_ok e5)
  have eu : upd H a (exo a C none) = H := by
    funext b
    by_cases hb : b = a
    · rw [hb, upd_same, ea]
    · rw [upd_ne hb]
  rw [eu] at I5
  refine wpAt_of_wpAny (wpAny_mono (ht.run [] _ (L2.start N (.ref a :: vr)) H _ I5 hq) (fun fl s' hs => ?_) fun e s' hs => hs)
  have fin : ∀ {σ' : L2.St} {H' : Hp} {v : V} {u : Value}, Inv (cxSup CX P w K mg base N qual scope f (.ref cda) cc A outer s H E) [] σ' H' s' → RelV v u → Q v H' → CE outer P w H s Q u s' :=
    fun {σ' H' v u} J rv q => ⟨v, H', J.os, J.bare, J.base, J.hok, rv, q⟩
  cases fl with
  | ret u =>
    obtain ⟨v, σ', H', J, rv, q⟩ := hs
    exact fin J rv q
  | next =>
    obtain ⟨σ', H', J, q⟩ := hs
    exact fin (v := V.non) (u := Value.none) J rfl q
  | brk =>
    obtain ⟨_, _, _, q⟩ := hs
    exact False.elim q
  | cont =>
    obtain ⟨_, _, _, q⟩ := hs
    exact False.elim q
end
end Ah
end
section
set_option Elab.async false
set_option linter.all false
set_option maxRecDepth 100000
set_option maxHeartbeats 2000000
/-! own exceptions with one field: made, raised, caught, read; isinstance of them. -/
namespace Ah
open PySem PySem.Spec PyProof.Rows L2
def spErr1 (C : Addr) (fld : Str) : Sp := fun vs H Q _ => ∃ a y, vs = [.ref a, y] ∧ H a = some (exo a C none) ∧ ∀ dx, H dx = none → dx ≠ a → Q .non (upd (upd H dx (exd dx [(fld, y)])) a (exo a C (some dx)))
section
variable {CX : CXT} {P : Program} {w : World} {K : PySem.W.Frag} {mg : Str → Option Value} {base : Heap} {f C : Addr}
theorem sup_one {fd : FuncData} {slf arg fld : Str} {p6 p7 p8 p9 : Pos} (S : SupFn P K mg f C fd [slf, arg] slf [.Assign [.Attribute (.Name slf p6) fld p7] (.Name arg p8) p9]) (T : OexC K C) (hno : PySem.W.findIn K (.ref C) fld = some none)
    (hd1 : (slf == ("__debug__" : Str)) = false) (hd2 : (slf == ("__classdict__" : Str)) = false) (hd3 : (arg == ("__debug__" : Str)) = false) (hd4 : (arg == ("__classdict__" : Str)) = false) :
    FnOk P w K mg base CX 1 f fd [slf, arg] (spErr1 C fld) := by
  refine sup_fn S T (fun vs H Q E h => by obtain ⟨a, y, rfl, _⟩ := h; rfl) (fun qual scope cd cc A outer s H vs Q E hv h => ?_)
  obtain ⟨a, y, rfl, ea, q⟩ := h
  refine ⟨⟨a, _, rfl, ea⟩, _, pss_one (ps_ost (pe_var (i := 0) rfl (.inl (hv _ (by simp))) hd1 hd2) (pe_var (i := 1) rfl (.inl (hv _ (by simp))) hd3 hd4) (by rfl)), ?_⟩
  exact ⟨y, rfl, .ref a, rfl, a, C, rfl, T, hno, .inl ⟨ea, fun dx hn hne => q dx hn hne⟩⟩
end
/-- what the written part says of a class of one field -/
structure One (K : PySem.W.Frag) (C fI : Addr) (fld : Str) : Prop where
  T : OexC K C
  xf : XfC K C
  iC : PySem.W.findIn K (.ref C) "__init__" = some (some (.ref fI))
  tI : PySem.W.typeIn K (.ref fI) = some (.type "function")
  hno : PySem.W.findIn K (.ref C) fld = some none
theorem one_q {H1 : Hp} {C : Addr} {fld : Str} {y : V} {Q : XK} (h : ∀ d, H1 d = none → Q (.ref C) (some d) (upd H1 d (.xd [(fld, y)]))) :
    [y].length ≤ 1000 ∧ ∀ a, H1 a = none → spErr1 C fld (.ref a :: ([y] ++ [])) (upd H1 a (exo a C none))
      (fun v H2 => v = .non ∧ ∃ (d : Addr) (fs : List (Str × V)), H2 a = some (exo a C (some d)) ∧ H2 d = some (exd d fs) ∧ H1 d = none ∧ Q (.ref C) (some d) (upd (del H2 a) d (.xd fs))) (fun _ _ _ => False) := by
  refine ⟨by simp, fun a na => ⟨a, y, rfl, upd_same, fun dx hn hne => ⟨rfl, dx, [(fld, y)], upd_same, ?_, ?_, ?_⟩⟩⟩
  · rw [upd_ne hne, upd_same]
  · rw [upd_ne hne] at hn
    exact hn
  · have e : upd (del (upd (upd (upd H1 a (exo a C none)) dx (exd dx [(fld, y)])) a (exo a C (some dx))) a) dx (.xd [(fld, y)]) = upd H1 dx (.xd [(fld, y)]) := by
      funext b
      by_cases hb : b = dx
      · rw [hb, upd_same, upd_same]
      · rw [upd_ne hb, upd_ne hb]
        by_cases ha : b = a
        · rw [ha, del_same, na]
        · rw [del_ne ha, upd_ne ha, upd_ne hb, upd_ne ha]
    rw [e]
    rw [upd_ne hne] at hn
    exact h dx hn
section
variable {X : Cx} {C fI : Addr} {fld : Str} {W : WX} {e : Expr} {te : TE} {x : Str} {p pos pos' : Pos} {fd : FuncData} {ps : List Str}
/-- raise X(e): behind [e]: one_q -/
theorem ps_raise1 (hc : X.calm = true) (tk : Takes X W) (R : One X.K C fI fld) (F1 : FnOk X.prog X.w X.K X.mg X.base (L2.CX X.prog X.w) 1 fI fd ps (spErr1 C fld)) (hr : Room 2 X.A) (hb : Binds X.K fd ps []) (hg : Gl X x) (hm : X.mg x = some (.ref C)) (he : PE X e te)
    (hdb : (x == ("__debug__" : Str)) = false := by decide) (hst : starEach [e] X.env = (false, eval e X.env) :: starEach [] X.env := by rfl) (hpl : (backTo pos (starEach [] X.env)).any (·.1) = false := by rfl) :
    PS X (.Raise (some (.Call (.Name x p) [e] [] pos)) none pos') (fun _ σ H => tMkO C (spErr1 C fld) [] (tCons te tNil) σ H fun cls d H' => W cls d σ H') :=
  ps_raise hc tk (pmk_oex (p := p) (pos := pos) R.T R.iC R.tI F1 hr hb .nil passL hg hm (pa_cons he pa_nil hst) hdb hst hpl)
end

/-! ### isinstance(e, c), e the exception that the suite holds, with a dict or none -/
def rIsD (K : PySem.W.Frag) (D a : Addr) (d : Option Addr) : List V → Hp → VK → Prop := fun xs H Q => ∃ (c : V) (cv : Value) (b : Bool), xs = [.ref a, c] ∧ (∀ u, RelV c u → u = cv) ∧ PySem.W.kitOne K (.ref D) cv = some b ∧ (∀ dd, d = some dd → ∃ fs, H dd = some (.xd fs)) ∧ Q (.bl b) H
theorem call_isD {X : Cx} {a D : Addr} {oe : Obj} {d : Option Addr} {pn : List (Addr × Obj)} (C : ExcC X.K D) (hz : Zc (.ref D) d oe) (hf : ∃ vs, oe.data = .fields vs) : CallR (X.suite a ((a, oe) :: pn)) (.builtin "isinstance") (rIsD X.K D a d) := by
  intro pins s σ H xs us Q I r h
  obtain ⟨c, cv, b, rfl, hcv, e, hdd, q⟩ := h
  cases r with
  | cons rx rr =>
    cases rr with
    | cons rt rr =>
      cases rr
      cases rx
      have ec := hcv _ rt
      subst ec
      obtain ⟨hget, _⟩ := I.pin (a, oe) (List.mem_append.mpr (.inl List.mem_cons_self))
      obtain ⟨vs, hv⟩ := hf
      obtain ⟨cd, hcl, _⟩ := PySem.W.any_some C.hd
      have J : ∃ od, PySem.W.InstAt s.heap a oe D od := by
        obtain ⟨oc, od, oda, osl⟩ := oe
        obtain ⟨h1, h2⟩ := hz
        dsimp only at h1 h2 hv
        subst h1 h2 hv
        cases od with
        | none => exact ⟨none, hget, rfl, rfl, trivial⟩
        | some dd =>
          obtain ⟨fs, hfs⟩ := hdd dd rfl
          have hx : ObjOk X.prog X.w H s.heap dd (.xd fs) := I.hok dd _ hfs
          obtain ⟨mA, hns, _⟩ := hx
          obtain ⟨o, ho, _⟩ := lookIn_ns hns
          exact ⟨some o, hget, rfl, rfl, ho⟩
      obtain ⟨od, J⟩ := J
      exact PySem.W.kia_one (PySem.W.kitx_exc (by rw [hcl]; rfl) C.hg C.hk C.hs C.ha C.hn C.ht C.hm) I.kIn J e (fun z => nomatch z) fun tk => ⟨.bl b, H, I.kept (t' := tk) fun _ _ z => z, rfl, q⟩
end Ah
end
section
set_option Elab.async false
set_option linter.all false
set_option maxRecDepth 100000
set_option maxHeartbeats 2000000
namespace Ah
open PySem PySem.Spec PyProof.Rows L2
open GxR (TabB TabG Tabbed)
open GxG EnT
/-! ### check_text, of what is no text too -/
/-- .. of what is tracked -/
def RowT (H : Hp) (v : V) (b : Bool) : Prop := (((∃ z, v = .str z) ∨ v = .non ∨ (∃ i, v = .int i) ∨ ∃ a xs, v = .ref a ∧ H a = some (.lst xs)) ∧ b = false) ∨ ∃ a xs, v = .ref a ∧ H a = some (.tup xs) ∧ xs.length ≤ 1000 ∧ (∀ x ∈ xs, PlainV H x) ∧ b = isRowL xs
theorem RowT.row {K : PySem.W.Frag} {H : Hp} {v : V} {b : Bool} (h : RowT H v b) : RowV K H v b := by
  rcases h with h | ⟨a, xs, e, h, q⟩
  · exact .inl h
  · exact .inr ⟨a, xs, e, .inl (.of h), q⟩
theorem rowT_uniq {H : Hp} {v : V} {a b : Bool} (h : RowT H v a) (h' : RowT H v b) : a = b := by
  rcases h with ⟨h, rfl⟩ | ⟨p, xs, rfl, hx, _, _, rfl⟩
  · rcases h' with ⟨_, rfl⟩ | ⟨p, xs, rfl, hx, _, _, rfl⟩
    · rfl
    · rcases h with ⟨z, e⟩ | e | ⟨i, e⟩ | ⟨q, ys, e, hl⟩
      · cases e
      · cases e
      · cases e
      · cases e
        rw [hx] at hl
        cases hl
  · rcases h' with ⟨h, rfl⟩ | ⟨q, ys, e, hy, _, _, rfl⟩
    · rcases h with ⟨z, e⟩ | e | ⟨i, e⟩ | ⟨q, ys, e, hl⟩
      · cases e
      · cases e
      · cases e
      · cases e
        rw [hx] at hl
        cases hl
    · cases e
      rw [hx] at hy
      cases hy
      rfl
/-- a text's rows: the j-th is the first that is none (or one too many) -/
structure BadL (H : Hp) (rs : List V) (j : Nat) : Prop where
  ahead : ∀ (i : Nat) v, i < j → rs[i]? = some v → RowT H v true
  le : j ≤ 24
  at_ : (∃ v, rs[j]? = some v ∧ (j = 24 ∨ RowT H v false))
/-- what is no text: the number that is told of it -/
def BadT (H : Hp) (v : V) (j : Nat) : Prop := ((v = .non ∨ (∃ z, v = .str z) ∨ ∃ a xs, v = .ref a ∧ H a = some (.lst xs)) ∧ j = 0) ∨ ∃ a rs, v = .ref a ∧ H a = some (.tup rs) ∧ BadL H rs j
def wRow (E : XK) (C : Addr) (T : List Addr) (H : Hp) (j : Nat) : Prop := ∀ H' d, Kp T H H' → H' d = none → E (.ref C) (some d) (upd H' d (.xd [("number", .int (j : Int))]))
def spCheckX (K : PySem.W.Frag) (T : List Addr) (C : Addr) : Sp := fun vs H Q E => ∃ v : V, vs = [v] ∧ (∀ P ∈ T, TabG H P) ∧
  ((∃ (a : Addr) (rs : List V), v = .ref a ∧ H a = some (.tup rs) ∧ rs.length ≤ 24 ∧ (∀ r ∈ rs, RowT H r true) ∧ ∀ H', Kp T H H' → Q .non H') ∨ ∃ j, BadT H v j ∧ wRow E C T H j)
section
variable {P : Program} {w : World} {K : PySem.W.Frag} {mg : Str → Option Value} {base : Heap} {f fR fI C : Addr} {fd fdR fdI : FuncData} {T : List Addr} {psI : List Str}
theorem ok_checkX (F : FnP K "check_text" sCheck f fd) (W : TW K mg) (hm : ∃ t, mg "MOST_ROWS" = some (.int 24 t)) (gR : mg "is_row" = some (.ref fR)) (FR : FnOk P w K mg base CX0 5 fR fdR ["row"] (spRow K T))
    (kR : PySem.W.keepIn K (.ref fR) = true) (bR : Binds K fdR ["row"] []) (R : One K C fI "number") (FI : FnOk P w K mg base (L2.CX P w) 1 fI fdI psI (spErr1 C "number")) (bI : Binds K fdI psI []) (gB : mg "BadRow" = some (.ref C)) : FnOk P w K mg base (L2.CX P w) 6 f fd ["rows"] (spCheckX K T C) := by
  refine F.ok scC (fun vs H Q E h => ?_) (fun cdv A outer s H vs Q E hr h => ?_)
  · obtain ⟨v, rfl, _⟩ := h
    rfl
  · obtain ⟨v, rfl, ht, h⟩ := h
    obtain ⟨mt, hm⟩ := hm
    have kp0 : Kp T H H := ⟨ht, fun _ _ e _ => e⟩
    refine ⟨_, pss_cons (ps_if (pt_not (pt_val (pe_callB call_isi (by rfl) W.isi (by decide +kernel) (pa_cons (pv 0) (pa_cons (pe_bltn (v := .ty "tuple") (by rfl) W.tup (by decide +kernel) rfl) pa_nil)))))
        (pss_one (ps_raise1 rfl (takes_of rfl rfl rfl rfl) R FI (hr.mono (by decide)) bI (by rfl) gB pe_int)) pss_nil)
      (pss_one (ps_for (passes_of rfl) rfl (pi_enumT (by rfl) W.enu (pa_cons (pv 0) pa_nil)) (pg_tup rfl (pgs_cons (pg_name (i := 1) scC.nd rfl (.inl rfl)) (pgs_cons (pg_name (i := 2) scC.nd rfl (.inl rfl)) pgs_nil)))
        (pss_one (ps_if (PW.pt (pw_or (pt_cmpR op_eq (pv 1) (pe_glob (v := .int 24) (by rfl) hm ⟨_, rfl⟩) (nomark _)) (pw_or1 (pt_not (pt_val (pe_call FR hr (by rfl) gR kR bR .nil pass0 (pa_cons (pv 2) pa_nil)))))))
          (pss_one (ps_raise1 rfl (takes_of rfl rfl rfl rfl) R FI (hr.mono (by decide)) bI (by rfl) gB (pv 1))) pss_nil)))), ?_⟩
    have split : ((v = .non ∨ (∃ z, v = .str z) ∨ ∃ a xs, v = .ref a ∧ H a = some (.lst xs)) ∧ wRow E C T H 0) ∨ ∃ a rs, v = .ref a ∧ H a = some (.tup rs) ∧ ((rs.length ≤ 24 ∧ (∀ r ∈ rs, RowT H r true) ∧ ∀ H', Kp T H H' → Q .non H') ∨ ∃ j, BadL H rs j ∧ wRow E C T H j) := by
      rcases h with ⟨a, rs, e, ha, h1, h2, h3⟩ | ⟨j, ⟨hn, rfl⟩ | ⟨a, rs, e, ha, hb⟩, hw⟩
      · exact .inr ⟨a, rs, e, ha, .inl ⟨h1, h2, h3⟩⟩
      · exact .inl ⟨hn, hw⟩
      · exact .inr ⟨a, rs, e, ha, .inr ⟨j, hb, hw⟩⟩
    clear h
    rcases split with ⟨hn, hw⟩ | ⟨a, rs, rfl, ha, hc⟩
    · rcases hn with rfl | ⟨z, rfl⟩ | ⟨a, xs, rfl, e⟩
      · exact ⟨_, rfl, _, _, _, _, false, rfl, ClsV.ty _, TyX.base .non, kit_ty (by decide +kernel), false, rfl, iteT (one_q fun d hd => hw H d kp0 hd)⟩
      · exact ⟨_, rfl, _, _, _, _, false, rfl, ClsV.ty _, TyX.base (.str z), kit_ty (by decide +kernel), false, rfl, iteT (one_q fun d hd => hw H d kp0 hd)⟩
      · exact ⟨_, rfl, _, _, _, _, false, rfl, ClsV.ty _, TyX.base (.lst e), kit_ty (by decide +kernel), false, rfl, iteT (one_q fun d hd => hw H d kp0 hd)⟩
    · refine ⟨_, rfl, _, _, _, _, true, rfl, ClsV.ty _, TyX.base (.tup ha), kit_ty (by decide +kernel), true, rfl, ?_⟩
      refine iteF ?_
      refine ⟨_, rfl, a, rs, rfl, .inl (.of ha), for_it (walk_enumT (K := K) (a := a) (xs := rs)) (fun i σ H' => (∃ v1 v2, σ = [some (.ref a), v1, v2]) ∧ Kp T H H' ∧ ∀ j, BadL H rs j → i ≤ j) ⟨⟨_, _, rfl⟩, kp0, fun j _ => Nat.zero_le _⟩ (fun i σ H' _ pv => .inl (.of (pv.2.1.obj ht ha))) ?_ ?_⟩
      · rintro i x σ Ha Hb hi ⟨⟨v1, v2, rfl⟩, kp, hbj⟩ ⟨Tp, x1, x2, rfl, nT, rfl, e1, e2⟩
        cases e1
        have e2 : rs[i]? = some x2 := e2
        have kp1 : Kp T H (L2.upd Ha Tp (.tup [.int (i : Nat), x2])) := kp.upd nT
        refine ⟨Tp, _, rfl, .inl (.of upd_same), rfl, ?_⟩
        refine ⟨_, _, rfl, _, _, rfl, rfl, ?_⟩
        refine ⟨_, rfl, rfl, _, rfl, ?_⟩
        have row : ∀ b, RowT H x2 b → RowV K (L2.upd Ha Tp (.tup [.int (i : Nat), x2])) x2 b := fun b r => r.row.kp ht kp1
        by_cases h24 : i = 24
        · -- one too many
          have e24 : decide (V.int ((i : Nat) : Int) = V.int 24) = true := decide_eq_true (by rw [h24]; rfl)
          rw [e24]
          rcases hc with ⟨h1, _⟩ | ⟨j, hb, hw⟩
          · have := (List.getElem?_eq_some_iff.mp e2).1
            omega
          · have ej : j = i := by
              have := hbj j hb
              have := hb.le
              omega
            subst ej
            exact iteT ⟨_, rfl, one_q fun d hd => hw _ d kp1 hd⟩
        · have e24 : decide (V.int ((i : Nat) : Int) = V.int 24) = false := decide_eq_false fun e => h24 (by have := V.int.inj e; omega)
          rw [e24]
          refine iteF ⟨_, rfl, ?_⟩
          rcases hc with ⟨h1, h2, h3⟩ | ⟨j, hb, hw⟩
          · refine ⟨_, true, rfl, row _ (h2 x2 (List.mem_of_getElem? e2)), kp1.tab, fun H2 k2 => ⟨_, rfl, iteF ⟨⟨_, _, rfl⟩, kp1.trans k2, fun j hb => ?_⟩⟩⟩
            obtain ⟨v, hv, hz⟩ := hb.at_
            have lt := (List.getElem?_eq_some_iff.mp hv).1
            rcases hz with hz | hz
            · omega
            · exact absurd (rowT_uniq hz (h2 v (List.mem_of_getElem? hv))) (by decide)
          · by_cases ej : i = j
            · obtain ⟨v, hv, hz⟩ := hb.at_
              rw [← ej, e2] at hv
              cases hv
              rcases hz with hz | hz
              · omega
              · refine ⟨_, false, rfl, row _ hz, kp1.tab, fun H2 k2 => ⟨_, rfl, iteT ⟨_, rfl, one_q fun d hd => ?_⟩⟩⟩
                rw [ej]
                exact hw _ d (kp1.trans k2) hd
            · have lt : i < j := by
                have := hbj j hb
                omega
              refine ⟨_, true, rfl, row _ (hb.ahead i x2 lt e2), kp1.tab, fun H2 k2 => ⟨_, rfl, iteF ⟨⟨_, _, rfl⟩, kp1.trans k2, fun j2 hb2 => ?_⟩⟩⟩
              have := hbj j2 hb2
              by_cases e : i = j2
              · obtain ⟨v, hv, hz⟩ := hb2.at_
                rw [← e, e2] at hv
                cases hv
                rcases hz with hz | hz
                · omega
                · exact absurd (rowT_uniq hz (hb.ahead i _ lt e2)) (by decide)
              · omega
      · rintro σ H' ⟨_, kp, hbj⟩
        rcases hc with ⟨h1, h2, h3⟩ | ⟨j, hb, hw⟩
        · exact h3 H' kp
        · obtain ⟨v, hv, _⟩ := hb.at_
          have lt := (List.getElem?_eq_some_iff.mp hv).1
          have := hbj j hb
          omega
end
end Ah
end
section
set_option Elab.async false
set_option linter.all false
set_option maxRecDepth 100000
set_option maxHeartbeats 2000000
namespace Ah
open PySem PySem.Spec PyProof.Rows L2
open GxR (TabB TabG Tabbed)
open GxG
/-! ### numbers of rows -/
/-- whether it is a number from 0 to below m -/
def isNumL (m : Int) : V → Bool
  | .int i => decide (0 ≤ i) && decide (i < m)
  | _ => false
def NumV (v : V) : Prop := (∃ i, v = .int i) ∨ v = .non ∨ (∃ b, v = .bl b) ∨ ∃ z, v = .str z
def spNum : Sp := fun vs H Q _ => ∃ (v : V) (m : Int), vs = [v, .int m] ∧ NumV v ∧ Q (.bl (isNumL m v)) H
theorem scNum : FnScope ["number", "many"] ["number", "many"] (defScope sIsNumber) := ⟨rfl, rfl, rfl, by decide +kernel, rfl, by decide +kernel, by decide +kernel⟩
section
variable {P : Program} {w : World} {K : PySem.W.Frag} {mg : Str → Option Value} {base : Heap} {f fN C : Addr} {fd fdN : FuncData}
theorem ok_isnum (F : FnP K "is_number" sIsNumber f fd) (hi : mg "isinstance" = none) (hI : mg "int" = none) (hB : mg "bool" = none) : FnOk P w K mg base CX0 1 f fd ["number", "many"] spNum := by
  refine F.ok scNum (fun vs H Q E h => ?_) (fun cdv A outer s H vs Q E hr h => ?_)
  · obtain ⟨v, m, rfl, _⟩ := h
    rfl
  · obtain ⟨v, m, rfl, hv, k⟩ := h
    refine ⟨_, PSs.nox (pss_one (ps_ret (pe_and (pe_callB call_isi (by rfl) hi (by decide +kernel) (pa_cons (pv 0) (pa_cons (pe_bltn (v := .ty "int") (by rfl) hI (by decide +kernel) rfl) pa_nil)))
      (pe_and (pe_not (pe_callB call_isi (by rfl) hi (by decide +kernel) (pa_cons (pv 0) (pa_cons (pe_bltn (v := .ty "bool") (by rfl) hB (by decide +kernel) rfl) pa_nil))))
        (pe_one (pe_chain op_le op_lt pe_int (pv 0) (pv 1))))))), ?_⟩
    rcases hv with ⟨i, rfl⟩ | rfl | ⟨b, rfl⟩ | ⟨z, rfl⟩
    · refine ⟨_, rfl, _, _, _, _, true, rfl, ClsV.ty _, TyX.base (.int i), kit_ty (by decide +kernel), true, rfl, ?_⟩
      refine iteT ⟨_, rfl, _, _, _, _, false, rfl, ClsV.ty _, TyX.base (.int i), kit_ty (by decide +kernel), false, rfl, ?_⟩
      refine ⟨true, rfl, iteT ⟨_, rfl, 0, i, rfl, rfl, decide (0 ≤ i), rfl, ?_⟩⟩
      have k2 : Q (.bl (decide (0 ≤ i) && decide (i < m))) H := k
      cases h0 : decide (0 ≤ i) with
      | false =>
        rw [h0] at k2
        exact iteF k2
      | true =>
        rw [h0] at k2
        exact iteT ⟨_, rfl, i, m, rfl, rfl, k2⟩
    · exact ⟨_, rfl, _, _, _, _, false, rfl, ClsV.ty _, TyX.base .non, kit_ty (by decide +kernel), false, rfl, iteF k⟩
    · refine ⟨_, rfl, _, _, _, _, true, rfl, ClsV.ty _, TyX.base (.bl b), kit_ty (by decide +kernel), true, rfl, ?_⟩
      refine iteT ⟨_, rfl, _, _, _, _, true, rfl, ClsV.ty _, TyX.base (.bl b), kit_ty (by decide +kernel), true, rfl, ?_⟩
      exact ⟨false, rfl, iteF k⟩
    · exact ⟨_, rfl, _, _, _, _, false, rfl, ClsV.ty _, TyX.base (.str z), kit_ty (by decide +kernel), false, rfl, iteF k⟩
/-- check_number -/
def spChNum (C : Addr) : Sp := fun vs H Q E => ∃ (v : V) (m : Int), vs = [v, .int m] ∧ NumV v ∧ (isNumL m v = true → Q .non H) ∧ (isNumL m v = false → E (.ref C) none H)
theorem scChN : FnScope ["number", "many"] ["number", "many"] (defScope sCheckNumber) := ⟨rfl, rfl, rfl, by decide +kernel, rfl, by decide +kernel, by decide +kernel⟩
theorem ok_chnum (F : FnP K "check_number" sCheckNumber f fd) (gN : mg "is_number" = some (.ref fN)) (FN : FnOk P w K mg base CX0 1 fN fdN ["number", "many"] spNum) (kN : PySem.W.keepIn K (.ref fN) = true) (bN : Binds K fdN ["number", "many"] [])
    (gC : mg "NoRow" = some (.ref C)) (xC : PySem.W.excIn K C He.veBase "ValueError.__new__" = true) (kC : PySem.W.keepIn K (.ref C) = true) (bC : PySem.W.subIn K (.ref C) (.type "BaseException") = some true) (tC' : PySem.W.typeIn K (.ref C) = some (.type "type")) :
    FnOk P w K mg base (L2.CX P w) 2 f fd ["number", "many"] (spChNum C) := by
  refine F.ok scChN (fun vs H Q E h => ?_) (fun cdv A outer s H vs Q E hr h => ?_)
  · obtain ⟨v, m, rfl, _⟩ := h
    rfl
  · obtain ⟨v, m, rfl, hv, k1, k2⟩ := h
    refine ⟨_, pss_one (ps_if (pt_not (pt_val (pe_call FN (hr.mono (by decide)) (by rfl) gN kN bN .nil pass0 (pa_cons (pv 0) (pa_cons (pv 1) pa_nil)))))
      (pss_one (ps_raise rfl (takes_of rfl rfl rfl rfl) (pmk_own PySem.F.excBase_ValueError xC gC kC (raises_own bC tC') rfl))) pss_nil), ?_⟩
    refine ⟨_, rfl, _, rfl, v, m, rfl, hv, _, rfl, ?_⟩
    cases hb : isNumL m v with
    | true => exact iteF (k1 hb)
    | false => exact iteT (k2 hb)
end
end Ah
end
section
set_option Elab.async false
set_option linter.all false
set_option maxRecDepth 100000
set_option maxHeartbeats 2000000
namespace Ah
open PySem PySem.Spec PyProof.Rows L2
open GxR (TabB TabG Tabbed)
/-! ### sayings -/
def saidL : List V → Bool
  | V.str h :: _ => inV (V.str h) [.str "is", .str "has"]
  | _ => false
/-- whether it is a saying -/
def SayT (H : Hp) (v : V) (b : Bool) : Prop := (RowT H v false ∧ b = false) ∨ ∃ a xs, v = .ref a ∧ H a = some (.tup xs) ∧ RowT H v true ∧ isRowL xs = true ∧ b = saidL xs
def spIsS (T : List Addr) : Sp := fun vs H Q _ => ∃ (v : V) (b : Bool), vs = [v] ∧ SayT H v b ∧ (∀ P ∈ T, TabG H P) ∧ ∀ H', Kp T H H' → Q (.bl b) H'
def spChS (T : List Addr) (C : Addr) : Sp := fun vs H Q E => ∃ (v : V) (b : Bool), vs = [v] ∧ SayT H v b ∧ (∀ P ∈ T, TabG H P) ∧ (b = true → ∀ H', Kp T H H' → Q .non H') ∧ (b = false → ∀ H', Kp T H H' → E (.ref C) none H')
theorem scIsS : FnScope ["row"] ["row"] (defScope sIsSaying) := ⟨rfl, rfl, rfl, by decide +kernel, rfl, by decide +kernel, by decide +kernel⟩
theorem scChS : FnScope ["saying"] ["saying"] (defScope sCheckSaying) := ⟨rfl, rfl, rfl, by decide +kernel, rfl, by decide +kernel, by decide +kernel⟩
theorem row_head {xs : List V} (h : isRowL xs = true) : ∃ hd rest, xs = V.str hd :: rest := by
  match xs, h with
  | .str hd :: rest, _ => exact ⟨hd, rest, rfl⟩
section
variable {P : Program} {w : World} {K : PySem.W.Frag} {mg : Str → Option Value} {base : Heap} {f fR C : Addr} {fd fdR : FuncData} {T : List Addr}
theorem ok_isS (F : FnP K "is_saying" sIsSaying f fd) (gR : mg "is_row" = some (.ref fR)) (FR : FnOk P w K mg base CX0 5 fR fdR ["row"] (spRow K T)) (kR : PySem.W.keepIn K (.ref fR) = true) (bR : Binds K fdR ["row"] []) : FnOk P w K mg base CX0 6 f fd ["row"] (spIsS T) := by
  refine F.ok scIsS (fun vs H Q E h => ?_) (fun cdv A outer s H vs Q E hr h => ?_)
  · obtain ⟨v, b, rfl, _⟩ := h
    rfl
  · obtain ⟨v, b, rfl, hv, ht, k⟩ := h
    refine ⟨_, PSs.nox (pss_one (ps_ret (pe_and (pe_call FR hr (by rfl) gR kR bR .nil pass0 (pa_cons (pv 0) pa_nil)) (pe_one (pe_cmpR (show OpR _ _ (rIn K false) from op_in_seq) (pe_ix (show IxR _ (rIxT K) from ix_tup) (pv 0) pe_int (fun _ _ => rfl)) (pe_tup (pa_cons pe_str (pa_cons pe_str pa_nil))) (by rfl)))))), ?_⟩
    rcases hv with ⟨hr0, rfl⟩ | ⟨a, xs, rfl, ha, hr1, hrow, rfl⟩
    · exact ⟨_, rfl, _, false, rfl, hr0.row, ht, fun H1 k1 => ⟨false, rfl, iteF (k _ k1)⟩⟩
    · obtain ⟨hd, rest, rfl⟩ := row_head hrow
      refine ⟨_, rfl, _, true, rfl, hr1.row, ht, fun H1 k1 => ⟨true, rfl, iteT ?_⟩⟩
      have ha1 : SqT K H1 a (V.str hd :: rest) := SqT.of (k1.obj ht ha)
      refine ⟨_, rfl, a, _, 0, _, rfl, rfl, ha1, at_of (j := 0) rfl rfl, (by show 2 ≤ sizeLine; decide), fun Tp nT => ⟨Tp, _, rfl, .inr (.inl (.of upd_same)), rfl, rfl, ?_⟩⟩
      simp only [Bool.false_eq_true, if_false]
      exact k _ (k1.upd nT)
theorem ok_chS (F : FnP K "check_saying" sCheckSaying f fd) (gR : mg "is_saying" = some (.ref fR)) (FR : FnOk P w K mg base CX0 6 fR fdR ["row"] (spIsS T)) (kR : PySem.W.keepIn K (.ref fR) = true) (bR : Binds K fdR ["row"] [])
    (gC : mg "BadSaying" = some (.ref C)) (xC : PySem.W.excIn K C He.veBase "ValueError.__new__" = true) (kC : PySem.W.keepIn K (.ref C) = true) (bC : PySem.W.subIn K (.ref C) (.type "BaseException") = some true) (tC' : PySem.W.typeIn K (.ref C) = some (.type "type")) :
    FnOk P w K mg base (L2.CX P w) 7 f fd ["saying"] (spChS T C) := by
  refine F.ok scChS (fun vs H Q E h => ?_) (fun cdv A outer s H vs Q E hr h => ?_)
  · obtain ⟨v, b, rfl, _⟩ := h
    rfl
  · obtain ⟨v, b, rfl, hv, ht, k1, k2⟩ := h
    refine ⟨_, pss_one (ps_if (pt_not (pt_val (pe_call FR hr (by rfl) gR kR bR .nil pass0 (pa_cons (pv 0) pa_nil))))
      (pss_one (ps_raise rfl (takes_of rfl rfl rfl rfl) (pmk_own PySem.F.excBase_ValueError xC gC kC (raises_own bC tC') rfl))) pss_nil), ?_⟩
    refine ⟨_, rfl, v, b, rfl, hv, ht, fun H1 kp => ⟨b, rfl, ?_⟩⟩
    cases b with
    | true => exact iteF (k1 rfl H1 kp)
    | false => exact iteT (k2 rfl H1 kp)
/-! ### questions -/
theorem scChQ : FnScope ["question"] ["question"] (defScope sCheckQuestion) := ⟨rfl, rfl, rfl, by decide +kernel, rfl, by decide +kernel, by decide +kernel⟩
def qW : V → V
  | .non => .str "a"
  | v => v
/-- whether it is a question -/
def QstT (H : Hp) (v : V) (b : Bool) : Prop := ((v = .non ∨ (∃ z, v = .str z) ∨ (∃ i, v = .int i) ∨ ∃ a xs, v = .ref a ∧ H a = some (.lst xs)) ∧ b = false) ∨
  ∃ a xs, v = .ref a ∧ H a = some (.tup xs) ∧ xs.length ≤ 1000 ∧ (∀ x ∈ xs, PlainV H x) ∧ (isRowL (xs.map qW) && saidL (xs.map qW)) = b
def spIsQ (T : List Addr) : Sp := fun vs H Q _ => ∃ (v : V) (b : Bool), vs = [v] ∧ QstT H v b ∧ (∀ P ∈ T, TabG H P) ∧ ∀ H', Kp T H H' → Q (.bl b) H'
def spChQ (T : List Addr) (C : Addr) : Sp := fun vs H Q E => ∃ (v : V) (b : Bool), vs = [v] ∧ QstT H v b ∧ (∀ P ∈ T, TabG H P) ∧ (b = true → ∀ H', Kp T H H' → Q .non H') ∧ (b = false → ∀ H', Kp T H H' → E (.ref C) none H')
theorem qW_plain {H : Hp} {v : V} (h : PlainV H v) : PlainV H (qW v) := by
  cases v <;> first | exact h | exact .inl ⟨_, rfl, by decide⟩
theorem qW_eq (v : V) : (if decide (v = .non) = true then V.str "a" else v) = qW v := by
  cases v <;> first | rfl | simp [qW]
theorem Kp.of' {T : List Addr} {H H' : Hp} (ht : ∀ P ∈ T, TabG H P) (k : Kept [] H H') : Kp T H H' := ⟨fun P hP => by
  obtain ⟨qs, h2, h3⟩ := ht P hP
  exact ⟨qs, k _ _ h2 (by simp), h3⟩, fun b o e _ => k b o e (by simp)⟩
theorem scIQ2 : FnScope ["question", "word"] ["question"] (defScope sIsQuestion) := ⟨rfl, rfl, rfl, by decide +kernel, rfl, by decide +kernel, by decide +kernel⟩
theorem ok_isQ (F : FnP K "is_question" sIsQuestion f fd) (hI : mg "isinstance" = none) (hT : mg "tuple" = none) (gR : mg "is_saying" = some (.ref fR)) (FR : FnOk P w K mg base CX0 6 fR fdR ["row"] (spIsS T)) (kR : PySem.W.keepIn K (.ref fR) = true) (bR : Binds K fdR ["row"] []) : FnOk P w K mg base CX0 7 f fd ["question"] (spIsQ T) := by
  refine F.ok scIQ2 (fun vs H Q E h => ?_) (fun cdv A outer s H vs Q E hr h => ?_)
  · obtain ⟨v, b, rfl, _⟩ := h
    rfl
  · obtain ⟨v, b, rfl, hv, ht, k⟩ := h
    refine ⟨_, PSs.nox (pss_cons (ps_if (pt_not (pt_val (pe_callB call_isi (by rfl) hI (by decide +kernel) (pa_cons (pv 0) (pa_cons (pe_bltn (v := .ty "tuple") (by rfl) hT (by decide +kernel) rfl) pa_nil))))) (pss_one (ps_ret pe_bl)) pss_nil)
      (pss_one (ps_ret (pe_call FR hr (by rfl) gR kR bR .nil pass0 (pa_cons (pe_callTy call_tuple_of (by rfl) hT (by decide +kernel) (pa_cons (pe_lc (own := [("word", 1)]) rfl scIQ2.nd (pi_tup (pv 0)) (blkOk_by (N := ["question", "word"]) (sc := defScope sIsQuestion) (by decide +kernel)) (fun _ _ _ _ _ => pg_name (i := 1) scIQ2.nd rfl (Or.inl rfl)) (fun _ _ _ _ _ => pts_nil) (fun _ _ _ _ _ => pe_ifExp (pt_cmpR op_isN (pv 1) pe_non (nomark _)) pe_str (pv 1))) pa_nil)) pa_nil))))), ?_⟩
    rcases hv with ⟨hn, rfl⟩ | ⟨a, xs, rfl, ha, hl, hp, hb⟩
    · rcases hn with rfl | ⟨z, rfl⟩ | ⟨i, rfl⟩ | ⟨a, xs, rfl, e⟩
      · exact ⟨_, rfl, _, _, _, _, false, rfl, ClsV.ty _, TyX.base .non, kit_ty (by decide +kernel), false, rfl, iteT (k H ⟨ht, fun _ _ e _ => e⟩)⟩
      · exact ⟨_, rfl, _, _, _, _, false, rfl, ClsV.ty _, TyX.base (.str z), kit_ty (by decide +kernel), false, rfl, iteT (k H ⟨ht, fun _ _ e _ => e⟩)⟩
      · exact ⟨_, rfl, _, _, _, _, false, rfl, ClsV.ty _, TyX.base (.int i), kit_ty (by decide +kernel), false, rfl, iteT (k H ⟨ht, fun _ _ e _ => e⟩)⟩
      · exact ⟨_, rfl, _, _, _, _, false, rfl, ClsV.ty _, TyX.base (.lst e), kit_ty (by decide +kernel), false, rfl, iteT (k H ⟨ht, fun _ _ e _ => e⟩)⟩
    · refine ⟨_, rfl, _, _, _, _, true, rfl, ClsV.ty _, TyX.base (.tup ha), kit_ty (by decide +kernel), true, rfl, iteF ?_⟩
      refine ⟨_, rfl, a, rfl, ⟨_, SqT.of ha⟩, fun D nD => lc_tup (K := K) (a := a) (xs := xs) (fun i H' => Kept [] H H' ∧ H D = none ∧ H' D = some (.lst ((xs.take i).map qW))) ⟨(Kept.refl H).upd nD, nD, by rw [List.take_zero]; exact upd_same⟩ (fun i H' _ pv => SqT.of (pv.1 _ _ ha (by simp))) ?_ ?_⟩
      · rintro i x H' hi ⟨k1, n1, e1⟩
        have hx : (xs.take (i + 1)).map qW = (xs.take i).map qW ++ [qW x] := by
          rw [List.take_add_one, hi, List.map_append]
          rfl
        have fin : ∀ y, y = qW x → ∃ acc, H' D = some (.lst acc) ∧ acc.length < sizeLine ∧ Kept [] H (upd H' D (.lst (acc ++ [y]))) ∧ H D = none ∧ upd H' D (.lst (acc ++ [y])) D = some (.lst ((xs.take (i + 1)).map qW)) := by
          rintro y rfl
          refine ⟨_, e1, ?_, Kept.far (Kept.refl H) n1 k1, n1, by rw [hx]; exact upd_same⟩
          rw [List.length_map]
          exact Nat.lt_of_le_of_lt (Nat.le_trans (List.length_take_le ..) (Nat.le_refl i)) (Nat.lt_of_lt_of_le (Nat.lt_of_lt_of_le (List.getElem?_eq_some_iff.mp hi).1 hl) (by decide))
        refine ⟨rfl, yes_if ?_⟩
        refine ⟨x, rfl, rfl, _, rfl, ?_⟩
        by_cases hn : x = .non
        · rw [decide_eq_true hn]
          exact iteT (fin _ (by rw [hn]; rfl))
        · rw [decide_eq_false hn]
          refine iteF ⟨x, rfl, fin x ?_⟩
          cases x <;> first | rfl | exact absurd rfl hn
      · rintro H' ⟨k1, n1, e1⟩
        rw [List.take_of_length_le (Nat.le_refl _)] at e1
        refine ⟨D, _, rfl, .inl ⟨SqL.of e1, fun l nl => ?_⟩⟩
        have kk : Kp T H (upd H' l (.tup (xs.map qW))) := Kp.of' ht (k1.upd nl)
        refine ⟨.ref l, b, rfl, ?_, kk.tab, fun H2 k2 => k H2 (kk.trans k2)⟩
        have hpl : ∀ y ∈ xs.map qW, PlainV (upd H' l (.tup (xs.map qW))) y := fun y hy => by
          obtain ⟨x, hx, rfl⟩ := List.mem_map.mp hy
          exact (qW_plain (hp x hx)).kp ht kk
        have rt : RowT (upd H' l (.tup (xs.map qW))) (.ref l) (isRowL (xs.map qW)) := .inr ⟨l, _, rfl, upd_same, by rw [List.length_map]; exact hl, hpl, rfl⟩
        cases hrw : isRowL (xs.map qW) with
        | false =>
          rw [hrw] at rt hb
          exact .inl ⟨rt, hb.symm⟩
        | true =>
          rw [hrw] at rt hb
          exact .inr ⟨l, _, rfl, upd_same, rt, hrw, hb.symm⟩
theorem ok_chQ (F : FnP K "check_question" sCheckQuestion f fd) (gR : mg "is_question" = some (.ref fR)) (FR : FnOk P w K mg base CX0 7 fR fdR ["question"] (spIsQ T)) (kR : PySem.W.keepIn K (.ref fR) = true) (bR : Binds K fdR ["question"] [])
    (gC : mg "BadSaying" = some (.ref C)) (xC : PySem.W.excIn K C He.veBase "ValueError.__new__" = true) (kC : PySem.W.keepIn K (.ref C) = true) (bC : PySem.W.subIn K (.ref C) (.type "BaseException") = some true) (tC' : PySem.W.typeIn K (.ref C) = some (.type "type")) :
    FnOk P w K mg base (L2.CX P w) 8 f fd ["question"] (spChQ T C) := by
  refine F.ok scChQ (fun vs H Q E h => ?_) (fun cdv A outer s H vs Q E hr h => ?_)
  · obtain ⟨v, b, rfl, _⟩ := h
    rfl
  · obtain ⟨v, b, rfl, hv, ht, k1, k2⟩ := h
    refine ⟨_, pss_one (ps_if (pt_not (pt_val (pe_call FR hr (by rfl) gR kR bR .nil pass0 (pa_cons (pv 0) pa_nil))))
      (pss_one (ps_raise rfl (takes_of rfl rfl rfl rfl) (pmk_own PySem.F.excBase_ValueError xC gC kC (raises_own bC tC') rfl))) pss_nil), ?_⟩
    refine ⟨_, rfl, v, b, rfl, hv, ht, fun H1 kp => ⟨b, rfl, ?_⟩⟩
    cases b with
    | true => exact iteF (k1 rfl H1 kp)
    | false => exact iteT (k2 rfl H1 kp)
end
end Ah
end
section
set_option Elab.async false
set_option linter.all false
set_option maxRecDepth 100000
set_option maxHeartbeats 2000000
namespace Ah
open PySem PySem.Spec PyProof.Rows L2
open GxR (TabB TabG Tabbed)
open GxG
/-! ### houses -/
abbrev MthP (K : PySem.W.Frag) (x q : Str) (st : Stmt) (f : Addr) (fd : FuncData) : Prop := FunD K x q (defArgs st) (defBody st) (defScope st) [] [] f fd
structure ClsH (K : PySem.W.Frag) (C : Addr) : Prop where
  c : Cls K C
  n1 : NoAttr K C "standing"
  n2 : NoAttr K C "asked"
  n3 : NoAttr K C "events"
  n4 : NoAttr K C "idle"
def fsH (rv ak ev : V) (b : Bool) : List (Str × V) := [("standing", rv), ("asked", ak), ("events", ev), ("idle", .bl b)]
structure HSt (H : Hp) (x dx C ak ev : Addr) (rv : V) (evs : List Str) (b : Bool) : Prop where
  ob : H x = some (.ins C dx (fsH rv (.ref ak) (.ref ev) b))
  ev : H ev = some (.lst (evs.map V.str))
  le : evs.length ≤ 100
theorem HSt.kept {H H' : Hp} {x dx C ak ev : Addr} {rv : V} {evs : List Str} {b : Bool} (S : HSt H x dx C ak ev rv evs b) (k : Kept [] H H') : HSt H' x dx C ak ev rv evs b := ⟨k _ _ S.ob (by simp), k _ _ S.ev (by simp), S.le⟩
def spHI (K : PySem.W.Frag) (T : List Addr) (C : Addr) : Sp := fun vs H Q _ => ∃ (x dx a : Addr) (rs : List V), vs = [.ref x, .ref a] ∧ H x = some (.ins C dx []) ∧ H a = some (.tup rs) ∧ rs.length ≤ 24 ∧ (∀ r ∈ rs, RowV K H r true) ∧ (∀ P ∈ T, TabG H P) ∧
  ∀ H' ak ev, (∀ b o, H b = some o → b ∉ T → b ≠ x → H' b = some o) → (∀ P ∈ T, TabG H' P) → H ak = none → H ev = none → HSt H' x dx C ak ev (.ref a) [] true → Q .non H'
theorem scHI2 : FnScope ["self", "rows"] ["self", "rows"] (defScope sHouseInit) := ⟨rfl, rfl, rfl, by decide +kernel, rfl, by decide +kernel, by decide +kernel⟩
section
variable {P : Program} {w : World} {K : PySem.W.Frag} {mg : Str → Option Value} {base : Heap} {f fC C : Addr} {fd fdC : FuncData} {T : List Addr}
theorem ok_hinit (F : MthP K "__init__" "House.__init__" sHouseInit f fd) (CH : ClsH K C) (gC : mg "check_text" = some (.ref fC)) (FC : FnOk P w K mg base CX0 6 fC fdC ["rows"] (spCheck0 K T)) (kC : PySem.W.keepIn K (.ref fC) = true) (bC : Binds K fdC ["rows"] []) :
    FnOk P w K mg base CX0 7 f fd ["self", "rows"] (spHI K T C) := by
  refine F.ok scHI2 (fun vs H Q E h => ?_) (fun cdv A outer s H vs Q E hr h => ?_)
  · obtain ⟨x, dx, a, rs, rfl, _⟩ := h
    rfl
  · obtain ⟨x, dx, a, rs, rfl, hx, ha, hl, hrs, ht, k⟩ := h
    refine ⟨_, PSs.nox (pss_cons (ps_expr (pe_call FC hr (by rfl) gC kC bC .nil pass0 (pa_cons (pv 1) pa_nil)))
      (pss_cons (ps_fld (pv 0) (pv 1) rfl) (pss_cons (ps_fld (pv 0) (pe_lst pa_nil) rfl) (pss_cons (ps_fld (pv 0) (pe_lst pa_nil) rfl) (pss_one (ps_fld (pv 0) pe_bl rfl)))))), ?_⟩
    refine ⟨_, rfl, a, rs, rfl, ha, hl, hrs, ht, fun H1 k1 => ?_⟩
    have x1 : H1 x = some (.ins C dx []) := k1.obj ht hx
    refine ⟨_, rfl, _, rfl, x, C, dx, _, rfl, x1, CH.c, CH.n1, by decide, ?_⟩
    refine ⟨by decide, fun ak nk => ?_⟩
    have nk1 : ak ≠ x := fun z => by rw [z, upd_same] at nk; cases nk
    rw [upd_ne nk1] at nk
    refine ⟨_, rfl, x, C, dx, _, rfl, by rw [upd_ne (Ne.symm nk1)]; exact upd_same, CH.c, CH.n2, by show (1 : Nat) < 1000; decide, ?_⟩
    refine ⟨by decide, fun ev ne => ?_⟩
    have ne1 : ev ≠ x := fun z => by rw [z, upd_same] at ne; cases ne
    rw [upd_ne ne1] at ne
    have ne2 : ev ≠ ak := fun z => by rw [z, upd_same] at ne; cases ne
    rw [upd_ne ne2, upd_ne ne1] at ne
    refine ⟨_, rfl, x, C, dx, _, rfl, by rw [upd_ne (Ne.symm ne1)]; exact upd_same, CH.c, CH.n3, by show (2 : Nat) < 1000; decide, ?_⟩
    refine ⟨_, rfl, x, C, dx, _, rfl, upd_same, CH.c, CH.n4, by show (3 : Nat) < 1000; decide, ?_⟩
    have old : ∀ b : Addr, b ≠ x → b ≠ ak → b ≠ ev → upd (upd (upd (upd (upd (upd H1 x (.ins C dx (putF "standing" (V.ref a) []))) ak (.lst [])) x (.ins C dx (putF "asked" (V.ref ak) (putF "standing" (V.ref a) [])))) ev (.lst [])) x (.ins C dx (putF "events" (V.ref ev) (putF "asked" (V.ref ak) (putF "standing" (V.ref a) []))))) x (.ins C dx (putF "idle" (V.bl true) (putF "events" (V.ref ev) (putF "asked" (V.ref ak) (putF "standing" (V.ref a) []))))) b = H1 b := fun b h1 h2 h3 => by
      rw [upd_ne h1, upd_ne h1, upd_ne h3, upd_ne h1, upd_ne h2, upd_ne h1]
    have none0 : ∀ {b : Addr}, H1 b = none → H b = none := fun {b} n => by
      cases e : H b with
      | none => rfl
      | some o =>
        by_cases hb : b ∈ T
        · obtain ⟨ps, e1, _⟩ := k1.tab b hb
          rw [e1] at n
          cases n
        · rw [k1.keep b o e hb] at n
          cases n
    refine k _ ak ev (fun b o e hb hbx => ?_) (fun P hP => ?_) (none0 nk) (none0 ne) ⟨?_, ?_, by simp⟩
    · have e1 := k1.keep b o e hb
      rw [old b hbx (ne_of_none e1 nk) (ne_of_none e1 ne)]
      exact e1
    · obtain ⟨ps, e1, e2⟩ := k1.tab P hP
      refine ⟨ps, ?_, e2⟩
      rw [old P (fun z => by rw [z, x1] at e1; cases e1) (ne_of_none e1 nk) (ne_of_none e1 ne)]
      exact e1
    · rw [upd_same]
      rfl
    · rw [upd_ne ne1, upd_ne ne1, upd_same]
      rfl
end
end Ah
end
section
set_option Elab.async false
set_option linter.all false
set_option maxRecDepth 100000
set_option maxHeartbeats 2000000
namespace Ah
open PySem PySem.Spec PyProof.Rows L2
open GxR (TabB TabG Tabbed)
open GxG EnT
/-! ### the doors: what is no saying, no question, no count, no number -/
theorem pss_nev {X : Cx} {rest : List Stmt} : PSs X rest (fun _ _ _ => False) := ⟨fun _ _ _ _ _ _ h => h.elim⟩
theorem RowT.kp {T : List Addr} {H H' : Hp} {v : V} {b : Bool} (ht : ∀ P ∈ T, TabG H P) (k : Kp T H H') (h : RowT H v b) : RowT H' v b := by
  rcases h with ⟨h, rfl⟩ | ⟨a, xs, e, h1, h2, h3, h4⟩
  · refine .inl ⟨?_, rfl⟩
    rcases h with h | h | h | ⟨a, xs, e, h⟩
    · exact .inl h
    · exact .inr (.inl h)
    · exact .inr (.inr (.inl h))
    · exact .inr (.inr (.inr ⟨a, xs, e, k.obj ht h⟩))
  · exact .inr ⟨a, xs, e, k.obj ht h1, h2, fun x hx => (h3 x hx).kp ht k, h4⟩
theorem SayT.kp {T : List Addr} {H H' : Hp} {v : V} {b : Bool} (ht : ∀ P ∈ T, TabG H P) (k : Kp T H H') (h : SayT H v b) : SayT H' v b := by
  rcases h with ⟨h, e⟩ | ⟨a, xs, e, h1, h2, h3, h4⟩
  · exact .inl ⟨h.kp ht k, e⟩
  · exact .inr ⟨a, xs, e, k.obj ht h1, h2.kp ht k, h3, h4⟩
theorem QstT.kp {T : List Addr} {H H' : Hp} {v : V} {b : Bool} (ht : ∀ P ∈ T, TabG H P) (k : Kp T H H') (h : QstT H v b) : QstT H' v b := by
  rcases h with ⟨h, rfl⟩ | ⟨a, xs, e, h1, h2, h3, h4⟩
  · refine .inl ⟨?_, rfl⟩
    rcases h with h | h | h | ⟨a, xs, e, h⟩
    · exact .inl h
    · exact .inr (.inl h)
    · exact .inr (.inr (.inl h))
    · exact .inr (.inr (.inr ⟨a, xs, e, k.obj ht h⟩))
  · exact .inr ⟨a, xs, e, k.obj ht h1, h2, fun x hx => (h3 x hx).kp ht k, h4⟩
/-- a good text -/
def TxtG (H : Hp) (v : V) : Prop := ∃ a rs, v = .ref a ∧ H a = some (.tup rs) ∧ rs.length ≤ 24 ∧ ∀ r ∈ rs, RowT H r true
theorem TxtG.kp {T : List Addr} {H H' : Hp} {v : V} (ht : ∀ P ∈ T, TabG H P) (k : Kp T H H') (h : TxtG H v) : TxtG H' v := by
  obtain ⟨a, rs, e, h1, h2, h3⟩ := h
  exact ⟨a, rs, e, k.obj ht h1, h2, fun r hr => (h3 r hr).kp ht k⟩
theorem TxtG.check {K : PySem.W.Frag} {T : List Addr} {C : Addr} {v : V} {H : Hp} {Q : VK} {E : XK} (ht : ∀ P ∈ T, TabG H P) (h : TxtG H v) (q : ∀ H', Kp T H H' → Q .non H') : spCheckX K T C [v] H Q E := by
  obtain ⟨a, rs, e, h1, h2, h3⟩ := h
  exact ⟨v, rfl, ht, .inl ⟨a, rs, e, h1, h2, h3, q⟩⟩
def wE (E : XK) (C : Addr) (T : List Addr) (H : Hp) : Prop := ∀ H', Kp T H H' → E (.ref C) none H'
/-- rows, saying, .. : the saying is none -/
def spS (T : List Addr) (C : Addr) (n : Nat) : Sp := fun vs H Q E => ∃ (q v : V) (ws : List V), vs = q :: v :: ws ∧ ws.length = n ∧ (∀ P ∈ T, TabG H P) ∧ TxtG H q ∧ SayT H v false ∧ wE E C T H
theorem scS_bearers : FnScope ["rows", "saying"] ["rows", "saying"] (defScope sBearers) := ⟨rfl, rfl, rfl, by decide +kernel, rfl, by decide +kernel, by decide +kernel⟩
theorem scS_against : FnScope ["rows", "saying"] ["rows", "saying"] (defScope sAgainst) := ⟨rfl, rfl, rfl, by decide +kernel, rfl, by decide +kernel, by decide +kernel⟩
theorem scS_missing : FnScope ["rows", "saying", "most"] ["rows", "saying", "most"] (defScope sMissing) := ⟨rfl, rfl, rfl, by decide +kernel, rfl, by decide +kernel, by decide +kernel⟩
theorem scS_ask : FnScope ["rows", "saying", "lots_for"] ["rows", "saying"] (defScope sAsk) := ⟨rfl, rfl, rfl, by decide +kernel, rfl, by decide +kernel, by decide +kernel⟩
theorem scS_paper : FnScope ["rows", "saying", "lots"] ["rows", "saying"] (defScope sPaper) := ⟨rfl, rfl, rfl, by decide +kernel, rfl, by decide +kernel, by decide +kernel⟩
theorem scS_hask : FnScope ["self", "saying", "answer"] ["self", "saying"] (defScope sHouseAsk) := ⟨rfl, rfl, rfl, by decide +kernel, rfl, by decide +kernel, by decide +kernel⟩
theorem scS_which : FnScope ["rows", "question", "answer"] ["rows", "question", "answer"] (defScope sWhich) := ⟨rfl, rfl, rfl, by decide +kernel, rfl, by decide +kernel, by decide +kernel⟩
theorem scS_hanging : FnScope ["rows", "number"] ["rows", "number"] (defScope sHanging) := ⟨rfl, rfl, rfl, by decide +kernel, rfl, by decide +kernel, by decide +kernel⟩
/-- a def that may raise -/
structure OwnX (P : Program) (w : World) (K : PySem.W.Frag) (mg : Str → Option Value) (base : Heap) (x : Str) (k : Nat) (f : Addr) (fd : FuncData) (ps : List Str) (sp : Sp) : Prop where
  ok : FnOk P w K mg base (L2.CX P w) k f fd ps sp
  g : mg x = some (.ref f)
  kp : PySem.W.keepIn K (.ref f) = true
  b : Binds K fd ps []
def spQ (T : List Addr) (C : Addr) (n : Nat) : Sp := fun vs H Q E => ∃ (q v : V) (ws : List V), vs = q :: v :: ws ∧ ws.length = n ∧ (∀ P ∈ T, TabG H P) ∧ TxtG H q ∧ QstT H v false ∧ wE E C T H
/-- rows, question, answer: no word -/
def AnsV (v : V) : Prop := v = .non ∨ (∃ i, v = .int i) ∨ (∃ a, v = .ref a) ∨ v = .str "Yes" ∨ v = .str ""
def spA (T : List Addr) (C : Addr) : Sp := fun vs H Q E => ∃ (q v a : V), vs = [q, v, a] ∧ (∀ P ∈ T, TabG H P) ∧ TxtG H q ∧ QstT H v true ∧ ((a = .non ∨ (∃ i, a = .int i) ∨ (∃ b xs, a = .ref b ∧ H b = some (.tup xs))) ∨ ∃ z, a = .str z ∧ (z = "Yes" ∨ z = "")) ∧ wE E C T H
/-- rows, saying, most: no count -/
def spM (T : List Addr) (C : Addr) : Sp := fun vs H Q E => ∃ (q v m : V), vs = [q, v, m] ∧ (∀ P ∈ T, TabG H P) ∧ TxtG H q ∧ SayT H v true ∧ NumV m ∧ isNumL 3 m = false ∧ wE E C T H
/-- rows, number: no row -/
def spN (T : List Addr) (C : Addr) : Sp := fun vs H Q E => ∃ (a : Addr) (rs : List V) (m : V), vs = [.ref a, m] ∧ (∀ P ∈ T, TabG H P) ∧ H a = some (.tup rs) ∧ rs.length ≤ 24 ∧ (∀ r ∈ rs, RowT H r true) ∧ NumV m ∧ isNumL (rs.length : Int) m = false ∧ wE E C T H
def spHA (T : List Addr) (C CH : Addr) : Sp := fun vs H Q E => ∃ (x dx ak ev : Addr) (q v : V), vs = [.ref x, v] ∧ HSt H x dx CH ak ev q [] true ∧ (∀ P ∈ T, TabG H P) ∧ TxtG H q ∧ SayT H v false ∧ wE E C T H
section
variable {P : Program} {w : World} {K : PySem.W.Frag} {mg : Str → Option Value} {base : Heap} {f fC fS fD fN C CR CH CA : Addr} {fd fdC fdS fdD fdN : FuncData} {T : List Addr}
theorem s_bearers (F : FnP K "bearers" sBearers f fd) (cC : OwnX P w K mg base "check_text" 6 fC fdC ["rows"] (spCheckX K T CR)) (cS : OwnX P w K mg base "check_saying" 7 fS fdS ["saying"] (spChS T C)) :
    FnOk P w K mg base (L2.CX P w) 8 f fd ["rows", "saying"] (spS T C 0) := by
  refine F.ok scS_bearers (fun vs H Q E h => ?_) (fun cdv A outer s H vs Q E hr h => ?_)
  · obtain ⟨q, v, ws, rfl, hl, _⟩ := h
    show ws.length + 1 + 1 = _
    rw [hl]
    rfl
  · obtain ⟨q, v, ws, rfl, hl, ht, tx, sv, hw⟩ := h
    refine ⟨_, pss_cons (ps_expr (pe_call cC.ok (hr.mono (by decide)) (by rfl) cC.g cC.kp cC.b .nil (passes_call (takes_of rfl rfl rfl rfl) (fun _ _ _ _ h => h)) (pa_cons (pv 0) pa_nil))) (pss_cons (ps_expr (pe_call cS.ok (hr.mono (by decide)) (by rfl) cS.g cS.kp cS.b .nil (passes_call (takes_of rfl rfl rfl rfl) (fun _ _ _ _ h => h)) (pa_cons (pv 1) pa_nil))) pss_nev), ?_⟩
    obtain ⟨qa, rs, eq, h1, h2, h3⟩ := id tx
    exact ⟨_, rfl, q, rfl, ht, .inl ⟨qa, rs, eq, h1, h2, h3, fun H1 k1 => ⟨_, rfl, v, false, rfl, sv.kp ht k1, k1.tab, (fun z => nomatch z), fun _ H2 k2 => hw H2 (k1.trans k2)⟩⟩⟩
theorem s_against (F : FnP K "against" sAgainst f fd) (cC : OwnX P w K mg base "check_text" 6 fC fdC ["rows"] (spCheckX K T CR)) (cS : OwnX P w K mg base "check_saying" 7 fS fdS ["saying"] (spChS T C)) :
    FnOk P w K mg base (L2.CX P w) 8 f fd ["rows", "saying"] (spS T C 0) := by
  refine F.ok scS_against (fun vs H Q E h => ?_) (fun cdv A outer s H vs Q E hr h => ?_)
  · obtain ⟨q, v, ws, rfl, hl, _⟩ := h
    show ws.length + 1 + 1 = _
    rw [hl]
    rfl
  · obtain ⟨q, v, ws, rfl, hl, ht, tx, sv, hw⟩ := h
    refine ⟨_, pss_cons (ps_expr (pe_call cC.ok (hr.mono (by decide)) (by rfl) cC.g cC.kp cC.b .nil (passes_call (takes_of rfl rfl rfl rfl) (fun _ _ _ _ h => h)) (pa_cons (pv 0) pa_nil))) (pss_cons (ps_expr (pe_call cS.ok (hr.mono (by decide)) (by rfl) cS.g cS.kp cS.b .nil (passes_call (takes_of rfl rfl rfl rfl) (fun _ _ _ _ h => h)) (pa_cons (pv 1) pa_nil))) pss_nev), ?_⟩
    obtain ⟨qa, rs, eq, h1, h2, h3⟩ := id tx
    exact ⟨_, rfl, q, rfl, ht, .inl ⟨qa, rs, eq, h1, h2, h3, fun H1 k1 => ⟨_, rfl, v, false, rfl, sv.kp ht k1, k1.tab, (fun z => nomatch z), fun _ H2 k2 => hw H2 (k1.trans k2)⟩⟩⟩
theorem s_missing (F : FunD K "missing" "missing" (defArgs sMissing) (defBody sMissing) (defScope sMissing) [] [("most", .int 1)] f fd) (cC : OwnX P w K mg base "check_text" 6 fC fdC ["rows"] (spCheckX K T CR)) (cS : OwnX P w K mg base "check_saying" 7 fS fdS ["saying"] (spChS T C)) :
    FnOk P w K mg base (L2.CX P w) 8 f fd ["rows", "saying", "most"] (spS T C 1) := by
  refine F.ok scS_missing (fun vs H Q E h => ?_) (fun cdv A outer s H vs Q E hr h => ?_)
  · obtain ⟨q, v, ws, rfl, hl, _⟩ := h
    show ws.length + 1 + 1 = _
    rw [hl]
    rfl
  · obtain ⟨q, v, ws, rfl, hl, ht, tx, sv, hw⟩ := h
    refine ⟨_, pss_cons (ps_expr (pe_call cC.ok (hr.mono (by decide)) (by rfl) cC.g cC.kp cC.b .nil (passes_call (takes_of rfl rfl rfl rfl) (fun _ _ _ _ h => h)) (pa_cons (pv 0) pa_nil))) (pss_cons (ps_expr (pe_call cS.ok (hr.mono (by decide)) (by rfl) cS.g cS.kp cS.b .nil (passes_call (takes_of rfl rfl rfl rfl) (fun _ _ _ _ h => h)) (pa_cons (pv 1) pa_nil))) pss_nev), ?_⟩
    obtain ⟨qa, rs, eq, h1, h2, h3⟩ := id tx
    exact ⟨_, rfl, q, rfl, ht, .inl ⟨qa, rs, eq, h1, h2, h3, fun H1 k1 => ⟨_, rfl, v, false, rfl, sv.kp ht k1, k1.tab, (fun z => nomatch z), fun _ H2 k2 => hw H2 (k1.trans k2)⟩⟩⟩
theorem s_which (F : FunD K "which" "which" (defArgs sWhich) (defBody sWhich) (defScope sWhich) [] [("answer", .str "yes")] f fd) (cC : OwnX P w K mg base "check_text" 6 fC fdC ["rows"] (spCheckX K T CR)) (cS : OwnX P w K mg base "check_question" 8 fS fdS ["question"] (spChQ T C)) :
    FnOk P w K mg base (L2.CX P w) 9 f fd ["rows", "question", "answer"] (spQ T C 1) := by
  refine F.ok scS_which (fun vs H Q E h => ?_) (fun cdv A outer s H vs Q E hr h => ?_)
  · obtain ⟨q, v, ws, rfl, hl, _⟩ := h
    show ws.length + 1 + 1 = _
    rw [hl]
    rfl
  · obtain ⟨q, v, ws, rfl, hl, ht, tx, sv, hw⟩ := h
    refine ⟨_, pss_cons (ps_expr (pe_call cC.ok (hr.mono (by decide)) (by rfl) cC.g cC.kp cC.b .nil (passes_call (takes_of rfl rfl rfl rfl) (fun _ _ _ _ h => h)) (pa_cons (pv 0) pa_nil))) (pss_cons (ps_expr (pe_call cS.ok (hr.mono (by decide)) (by rfl) cS.g cS.kp cS.b .nil (passes_call (takes_of rfl rfl rfl rfl) (fun _ _ _ _ h => h)) (pa_cons (pv 1) pa_nil))) pss_nev), ?_⟩
    obtain ⟨qa, rs, eq, h1, h2, h3⟩ := id tx
    exact ⟨_, rfl, q, rfl, ht, .inl ⟨qa, rs, eq, h1, h2, h3, fun H1 k1 => ⟨_, rfl, v, false, rfl, sv.kp ht k1, k1.tab, (fun z => nomatch z), fun _ H2 k2 => hw H2 (k1.trans k2)⟩⟩⟩
theorem s_ask (F : FnP K "ask" sAsk f fd) (cD : OwnX P w K mg base "bearers" 8 fD fdD ["rows", "saying"] (spS T C 0)) :
    FnOk P w K mg base (L2.CX P w) 9 f fd ["rows", "saying"] (spS T C 0) := by
  refine F.ok scS_ask (fun vs H Q E h => ?_) (fun cdv A outer s H vs Q E hr h => ?_)
  · obtain ⟨q, v, ws, rfl, hl, _⟩ := h
    show ws.length + 1 + 1 = _
    rw [hl]
    rfl
  · obtain ⟨q, v, ws, rfl, hl, ht, tx, sv, hw⟩ := h
    match ws, hl with
    | [], _ =>
      refine ⟨_, pss_cons (ps_set (i := 2) scS_ask.nd rfl (.inl rfl) (pe_call cD.ok (hr.mono (by decide)) (by rfl) cD.g cD.kp cD.b .nil (passes_call (takes_of rfl rfl rfl rfl) (fun _ _ _ _ h => h)) (pa_cons (pv 0) (pa_cons (pv 1) pa_nil)))) pss_nev, ?_⟩
      exact ⟨_, rfl, _, rfl, q, v, [], rfl, rfl, ht, tx, sv, hw⟩
theorem s_paper (F : FnP K "paper" sPaper f fd) (cD : OwnX P w K mg base "bearers" 8 fD fdD ["rows", "saying"] (spS T C 0)) :
    FnOk P w K mg base (L2.CX P w) 9 f fd ["rows", "saying"] (spS T C 0) := by
  refine F.ok scS_paper (fun vs H Q E h => ?_) (fun cdv A outer s H vs Q E hr h => ?_)
  · obtain ⟨q, v, ws, rfl, hl, _⟩ := h
    show ws.length + 1 + 1 = _
    rw [hl]
    rfl
  · obtain ⟨q, v, ws, rfl, hl, ht, tx, sv, hw⟩ := h
    match ws, hl with
    | [], _ =>
      refine ⟨_, pss_cons (ps_set (i := 2) scS_paper.nd rfl (.inl rfl) (pe_call cD.ok (hr.mono (by decide)) (by rfl) cD.g cD.kp cD.b .nil (passes_call (takes_of rfl rfl rfl rfl) (fun _ _ _ _ h => h)) (pa_cons (pv 0) (pa_cons (pv 1) pa_nil)))) pss_nev, ?_⟩
      exact ⟨_, rfl, _, rfl, q, v, [], rfl, rfl, ht, tx, sv, hw⟩
theorem s_hask (F : MthP K "ask" "House.ask" sHouseAsk f fd) (CHc : ClsH K CH) (gA : mg "ask_asking" = some (.ref fD)) (FA : FnOk P w K mg base (L2.CX P w) 9 fD fdD ["rows", "saying"] (spS T C 0)) (kA : PySem.W.keepIn K (.ref fD) = true) (bA : Binds K fdD ["rows", "saying"] []) :
    FnOk P w K mg base (L2.CX P w) 10 f fd ["self", "saying"] (spHA T C CH) := by
  refine F.ok scS_hask (fun vs H Q E h => ?_) (fun cdv A outer s H vs Q E hr h => ?_)
  · obtain ⟨x, dx, ak, ev, q, v, rfl, _⟩ := h
    rfl
  · obtain ⟨x, dx, ak, ev, q, v, rfl, S, ht, tx, sv, hw⟩ := h
    refine ⟨_, pss_cons (ps_set (i := 2) scS_hask.nd rfl (.inl rfl) (pe_call FA (hr.mono (by decide)) (by rfl) gA kA bA .nil (passes_call (takes_of rfl rfl rfl rfl) (fun _ _ _ _ h => h)) (pa_cons (pe_fld (pv 0) rfl) (pa_cons (pv 1) pa_nil)))) pss_nev, ?_⟩
    exact ⟨_, rfl, x, CH, dx, _, _, rfl, S.ob, CHc.c, CHc.n1, rfl, _, rfl, q, v, [], rfl, rfl, ht, tx, sv, hw⟩
theorem c_missing (F : FunD K "missing" "missing" (defArgs sMissing) (defBody sMissing) (defScope sMissing) [] [("most", .int 1)] f fd) (cC : OwnX P w K mg base "check_text" 6 fC fdC ["rows"] (spCheckX K T CR)) (cS : OwnX P w K mg base "check_saying" 7 fS fdS ["saying"] (spChS T CA)) (cN : Own P w K mg base "is_number" 1 fN fdN ["number", "many"] spNum) (gM : ∃ t, mg "MOST_MISSING" = some (.int 2 t)) (gC : mg "BadCount" = some (.ref C)) (xC : PySem.W.excIn K C He.veBase "ValueError.__new__" = true) (kC : PySem.W.keepIn K (.ref C) = true) (bC : PySem.W.subIn K (.ref C) (.type "BaseException") = some true) (tC' : PySem.W.typeIn K (.ref C) = some (.type "type")) :
    FnOk P w K mg base (L2.CX P w) 8 f fd ["rows", "saying", "most"] (spM T C) := by
  refine F.ok scS_missing (fun vs H Q E h => ?_) (fun cdv A outer s H vs Q E hr h => ?_)
  · obtain ⟨q, v, m, rfl, _⟩ := h
    rfl
  · obtain ⟨q, v, m, rfl, ht, tx, sv, hv, hn, hw⟩ := h
    obtain ⟨mt, hm⟩ := gM
    refine ⟨_, pss_cons (ps_expr (pe_call cC.ok (hr.mono (by decide)) (by rfl) cC.g cC.kp cC.b .nil (passes_call (takes_of rfl rfl rfl rfl) (fun _ _ _ _ h => h)) (pa_cons (pv 0) pa_nil))) (pss_cons (ps_expr (pe_call cS.ok (hr.mono (by decide)) (by rfl) cS.g cS.kp cS.b .nil (passes_call (takes_of rfl rfl rfl rfl) (fun _ _ _ _ h => h)) (pa_cons (pv 1) pa_nil)))
      (pss_cons (ps_if (pt_not (pt_val (pe_call cN.ok (hr.mono (by decide)) (by rfl) cN.g cN.kp cN.b .nil pass0 (pa_cons (pv 2) (pa_cons (pe_op op_add (pe_glob (v := .int 2) (by rfl) hm ⟨_, rfl⟩) pe_int) pa_nil))))) (pss_one (ps_raise rfl (takes_of rfl rfl rfl rfl) (pmk_own PySem.F.excBase_ValueError xC gC kC (raises_own bC tC') rfl))) pss_nil) pss_nev)), ?_⟩
    obtain ⟨qa, rs, eq, h1, h2, h3⟩ := id tx
    refine ⟨_, rfl, q, rfl, ht, .inl ⟨qa, rs, eq, h1, h2, h3, fun H1 k1 => ⟨_, rfl, v, true, rfl, sv.kp ht k1, k1.tab, (fun _ H2 k2 => ?_), (fun z => nomatch z)⟩⟩⟩
    refine ⟨_, rfl, 2, 1, rfl, rfl, ?_⟩
    refine ⟨m, 3, rfl, hv, _, rfl, ?_⟩
    rw [hn]
    exact iteT (hw H2 (k1.trans k2))
theorem n_hanging (F : FnP K "hanging" sHanging f fd) (cC : OwnX P w K mg base "check_text" 6 fC fdC ["rows"] (spCheckX K T CR)) (cS : OwnX P w K mg base "check_number" 2 fS fdS ["number", "many"] (spChNum C)) (B : mg "len" = none) :
    FnOk P w K mg base (L2.CX P w) 7 f fd ["rows", "number"] (spN T C) := by
  refine F.ok scS_hanging (fun vs H Q E h => ?_) (fun cdv A outer s H vs Q E hr h => ?_)
  · obtain ⟨a, rs, m, rfl, _⟩ := h
    rfl
  · obtain ⟨a, rs, m, rfl, ht, ha, hl, hrs, hv, hn, hw⟩ := h
    refine ⟨_, pss_cons (ps_expr (pe_call cC.ok (hr.mono (by decide)) (by rfl) cC.g cC.kp cC.b .nil (passes_call (takes_of rfl rfl rfl rfl) (fun _ _ _ _ h => h)) (pa_cons (pv 0) pa_nil))) (pss_cons (ps_expr (pe_call cS.ok (hr.mono (by decide)) (by rfl) cS.g cS.kp cS.b .nil (passes_call (takes_of rfl rfl rfl rfl) (fun _ _ _ _ h => h)) (pa_cons (pv 1) (pa_cons (pe_callB call_len_seq (by rfl) B (by decide +kernel) (pa_cons (pv 0) pa_nil)) pa_nil)))) pss_nev), ?_⟩
    refine ⟨_, rfl, .ref a, rfl, ht, .inl ⟨a, rs, rfl, ha, hl, hrs, fun H1 k1 => ⟨_, rfl, _, rfl, a, rs, rfl, .inr (.inl (.of (k1.obj ht ha))), ?_⟩⟩⟩
    exact ⟨m, _, rfl, hv, (fun z => by rw [hn] at z; cases z), fun _ => hw H1 k1⟩
structure TAns (K : PySem.W.Frag) (w : World) (mg : Str → Option Value) (d : Addr) : Prop where
  at_ : mg "ANSWERS" = some (.ref d)
  kd : ∃ es n, KDict K w d es n
  out : ∀ z : Str, z = "Yes" ∨ z = "" → PySem.W.nsIn K d z = some none
theorem a_which (F : FunD K "which" "which" (defArgs sWhich) (defBody sWhich) (defScope sWhich) [] [("answer", .str "yes")] f fd) (cC : OwnX P w K mg base "check_text" 6 fC fdC ["rows"] (spCheckX K T CR)) (cS : OwnX P w K mg base "check_question" 8 fS fdS ["question"] (spChQ T CA)) (W : TW K mg) {d : Addr} (D : TAns K w mg d) (gC : mg "BadCount" = some (.ref C)) (xC : PySem.W.excIn K C He.veBase "ValueError.__new__" = true) (kC : PySem.W.keepIn K (.ref C) = true) (bC : PySem.W.subIn K (.ref C) (.type "BaseException") = some true) (tC' : PySem.W.typeIn K (.ref C) = some (.type "type")) :
    FnOk P w K mg base (L2.CX P w) 9 f fd ["rows", "question", "answer"] (spA T C) := by
  refine F.ok scS_which (fun vs H Q E h => ?_) (fun cdv A outer s H vs Q E hr h => ?_)
  · obtain ⟨q, v, a, rfl, _⟩ := h
    rfl
  · obtain ⟨q, v, a, rfl, ht, tx, sv, hv, hw⟩ := h
    obtain ⟨es, nn, kd⟩ := D.kd
    refine ⟨_, pss_cons (ps_expr (pe_call cC.ok (hr.mono (by decide)) (by rfl) cC.g cC.kp cC.b .nil (passes_call (takes_of rfl rfl rfl rfl) (fun _ _ _ _ h => h)) (pa_cons (pv 0) pa_nil))) (pss_cons (ps_expr (pe_call cS.ok (hr.mono (by decide)) (by rfl) cS.g cS.kp cS.b .nil (passes_call (takes_of rfl rfl rfl rfl) (fun _ _ _ _ h => h)) (pa_cons (pv 1) pa_nil)))
      (pss_cons (ps_if (PW.pt (pw_or (pt_not (pt_val (pe_callB call_isi (by rfl) W.isi (by decide +kernel) (pa_cons (pv 2) (pa_cons (pe_bltn (v := .ty "str") (by rfl) W.str (by decide +kernel) rfl) pa_nil)))))
        (pw_or1 (pt_cmpR (op_notIn_kd kd) (pv 2) (pe_glob (v := .ref d) (by rfl) D.at_ rfl) (by rfl))))) (pss_one (ps_raise rfl (takes_of rfl rfl rfl rfl) (pmk_own PySem.F.excBase_ValueError xC gC kC (raises_own bC tC') rfl))) pss_nil) pss_nev)), ?_⟩
    obtain ⟨qa, rs, eq, h1, h2, h3⟩ := id tx
    refine ⟨_, rfl, q, rfl, ht, .inl ⟨qa, rs, eq, h1, h2, h3, fun H1 k1 => ⟨_, rfl, v, true, rfl, sv.kp ht k1, k1.tab, (fun _ H2 k2 => ?_), (fun z => nomatch z)⟩⟩⟩
    have hw2 := hw H2 (k1.trans k2)
    rcases hv with (rfl | ⟨i, rfl⟩ | ⟨b, xs, rfl, e⟩) | ⟨z, rfl, hz⟩
    · exact ⟨_, rfl, _, _, _, _, false, rfl, ClsV.ty _, TyX.base .non, kit_ty (by decide +kernel), false, rfl, iteT (iteT hw2)⟩
    · exact ⟨_, rfl, _, _, _, _, false, rfl, ClsV.ty _, TyX.base (.int i), kit_ty (by decide +kernel), false, rfl, iteT (iteT hw2)⟩
    · exact ⟨_, rfl, _, _, _, _, false, rfl, ClsV.ty _, TyX.base (.tup ((k1.trans k2).obj ht e)), kit_ty (by decide +kernel), false, rfl, iteT (iteT hw2)⟩
    · refine ⟨_, rfl, _, _, _, _, true, rfl, ClsV.ty _, TyX.base (.str z), kit_ty (by decide +kernel), true, rfl, iteF ?_⟩
      exact ⟨_, rfl, z, none, rfl, rfl, D.out z hz, _, rfl, iteT hw2⟩
end
end Ah
end
section
set_option Elab.async false
set_option linter.all false
set_option maxRecDepth 100000
set_option maxHeartbeats 4000000
namespace Ah
open PySem PySem.Spec PyProof.Rows L2
open GxR (TabB TabG Tabbed)
open GxG EnT
theorem pe_nev {X : Cx} {e : Expr} : PE X e (fun _ _ _ => False) := ⟨fun _ _ _ _ _ _ h => h.elim⟩
theorem scAL0 : FnScope ["masks", "rows", "places", "lots", "mask", "lot"] ["masks", "rows"] (defScope sAsLots) := ⟨rfl, rfl, rfl, by decide +kernel, rfl, by decide +kernel, by decide +kernel⟩
def qAL : Str := "as_lots.<locals>.<lambda>"
def spMO0 (K : PySem.W.Frag) (P : Program) (w : World) (CR : Addr) : Sp := fun vs H Q _ => ∃ (tq sa : Addr) (o : RObj) (names : List Str) (s : Say), vs = [.ref o.ro, .ref tq, .ref sa] ∧ o.C = CR ∧ RulesAt K P w H o [] names [] ∧ H tq = some (.tup []) ∧ SqT K H sa (s.ws.map V.str) ∧
  ∀ p H', Kept [] H H' → H p = none → H' p = some (.lst []) → Q (.ref p) H'
def spAL0 (P1 : Addr) : Sp := fun vs H Q _ => ∃ (q mp : Addr), vs = [.ref mp, .ref q] ∧ H mp = some (.lst []) ∧ H q = some (.tup []) ∧ LamX.TabS H P1 qAL ∧
  ∀ p H', Kb P1 H H' → LamX.TabS H' P1 qAL → H p = none → H' p = some (.lst []) → Q (.ref p) H'
def spLO0 (K : PySem.W.Frag) (P1 : Addr) : Sp := fun vs H Q _ => ∃ (q sa : Addr) (s : Say), vs = [.ref q, .ref sa] ∧ H q = some (.tup []) ∧ SqT K H sa (s.ws.map V.str) ∧ LamX.TabS H P1 qAL ∧
  ∀ p H', Kb P1 H H' → LamX.TabS H' P1 qAL → H p = none → H' p = some (.lst []) → Q (.ref p) H'
theorem scLO0 : FnScope ["rows", "result"] ["rows", "result"] (defScope sLotsOf) := ⟨rfl, rfl, rfl, by decide +kernel, rfl, by decide +kernel, by decide +kernel⟩
theorem Kb.of {P1 : Addr} {H H' : Hp} (k : Kept [] H H') : Kb P1 H H' := fun b o e _ => k b o e (by simp)
theorem Kb.trans {P1 : Addr} {H H1 H2 : Hp} (a : Kb P1 H H1) (b : Kb P1 H1 H2) : Kb P1 H H2 := fun c o e n => b c o (a c o e n) n
section
variable {P : Program} {w : World} {K : PySem.W.Frag} {mg : Str → Option Value} {base : Heap} {f fI fR fM fA fN fP C CR' c P1 : Addr} {fd fdI fdR fdM fdA fdN fdP : FuncData}
theorem e_masksof (F : FnP K "masks_of" sMasksOf f fd) (CS : ClsS K C) (M : Mk K C fI) (gS : mg "Search" = some (.ref C))
    (FI : FnOk P w K mg base CX0 3 fI fdI ["self", "rules", "told"] (spSI0 K P w C CR')) (bI : Binds K fdI ["self", "rules", "told"] [])
    (mR : Meth K C "run" fR) (FR : FnOk P w K mg base CX0 2 fR fdR ["self"] (spSR0 P w C)) (bR : Binds K fdR ["self"] [])
    (mM : Meth K C "masks" fM) (FM : FnOk P w K mg base CX0 1 fM fdM ["self", "result"] (spSM0 K P w C)) (bM : Binds K fdM ["self", "result"] []) :
    FnOk P w K mg base CX0 5 f fd ["rules", "told", "result"] (spMO0 K P w CR') := by
  refine F.ok scMO0 (fun vs H Q E h => ?_) (fun cdv A outer s H vs Q E hr h => ?_)
  · obtain ⟨tq, sa, o, names, sy, rfl, _⟩ := h
    rfl
  · obtain ⟨tq, sa, o, names, sy, rfl, rfl, R, htq, hsa, k⟩ := h
    refine ⟨_, PSs.nox (pss_cons (ps_set (i := 3) scMO0.nd rfl (.inl rfl) (pe_make M FI hr (by rfl) gS bI .nil pass0 (pa_cons (pv 0) (pa_cons (pv 1) pa_nil))))
      (pss_cons (ps_expr (pe_meth0 (pv 3) CS.c mR FR (hr.mono (by decide)) bR .nil pass0))
      (pss_one (ps_ret (pe_meth (pv 3) CS.c mM FM (hr.mono (by decide)) bM .nil pass0 (pa_cons (pv 2) pa_nil)))))), ?_⟩
    refine ⟨_, rfl, _, rfl, ?_⟩
    intro x dx nx ndx dxx
    have kx : Kept [] H (L2.upd (L2.upd H dx (.own x)) x (.ins C dx [])) := ((Kept.refl H).upd ndx).upd (by rw [upd_ne (Ne.symm dxx)]; exact nx)
    refine ⟨x, dx, tq, o, names, rfl, upd_same, rfl, R.kept kx, kx _ _ htq (by simp), fun H1 fdd ll l0 k1 S1 => ⟨rfl, ?_⟩⟩
    have k01 : Kept [] H H1 := fun b u e hb => k1 b u (kx b u e hb) (by rw [List.mem_singleton]; exact ne_of_none e nx)
    refine ⟨_, rfl, x, dx, _, rfl, S1.ob, rfl, x, dx, fdd, ll, l0, _, rfl, S1, ?_⟩
    refine ⟨_, rfl, x, dx, _, rfl, S1.ob, rfl, _, rfl, x, dx, fdd, ll, l0, sa, _, sy, rfl, S1, sqT_tk (.of k01) hsa, fun p H3 k3 np e3 => k p H3 (k01.trans k3) (none_of k01 np) e3⟩
theorem e_aslots (F : FnP K "as_lots" sAsLots f fd) (hc : fd.code = .ref c) (TB : LamX.TabB base mg c P1) (B : Bl mg) (cP : Own P w K mg base "places_of" 1 fP fdP ["rows"] (spPlaces K P w)) :
    FnOk P w K mg base CX0 2 f fd ["masks", "rows"] (spAL0 P1) := by
  refine okC F hc scAL0 (fun vs H Q E h => ?_) (fun A outer s H vs Q E hr h => ?_)
  · obtain ⟨q, mp, rfl, _⟩ := h
    rfl
  · obtain ⟨q, mp, rfl, hmp, hq, hT, k⟩ := h
    refine ⟨_, PSs.nox (pss_cons (ps_set (i := 2) scAL0.nd rfl (.inr rfl) (pe_listVals rfl (pe_call cP.ok hr (by rfl) cP.g cP.kp cP.b .nil pass0 (pa_cons (pv 1) pa_nil)) (by rfl) B.list_ (by decide +kernel)))
      (pss_cons (ps_setLc2 (i := 3) (own := [("mask", 4), ("lot", 5)]) (vs1 := [5]) (tt := tYes) (tt1 := tYes) rfl scAL0.nd rfl rfl (sw_true rfl rfl rfl (by decide +kernel)) (pi_list (pv 0)) (blkOk_by (N := ["masks", "rows", "places", "lots", "mask", "lot"]) (sc := defScope sAsLots) (by decide +kernel)) (by decide)
            (fun _ _ _ _ _ => pg_name (i := 4) scAL0.nd rfl (Or.inl rfl)) (fun _ _ _ _ _ => pts_nil)
            (fun _ _ _ _ _ => show PI _ _ _ (iList K _) from pi_list pe_nev)
            (fun _ _ _ _ _ => pg_name (i := 5) scAL0.nd rfl (Or.inl rfl)) (fun _ _ _ _ _ => pts_nil)
            (fun _ _ _ _ _ => pv 5))
      (pss_one (ps_ret (pe_sortLam (x := "lot") (q := qAL) (pa_cons (pv 3) pa_nil) ⟨rfl, rfl, rfl, rfl, rfl, by decide +kernel, ⟨_, _, _, _, _, _, rfl⟩, rfl⟩ hr TB rfl rfl rfl (fun _ _ _ _ _ => rfl) (by rfl) B.sorted_ (by decide +kernel) B.len_ (by decide +kernel)))))), ?_⟩
    refine ⟨_, rfl, q, [], rfl, ⟨[], hq, .nil⟩, by simp, fun pd H1 es k1 e1 re hz => ⟨pd, es, rfl, .inl e1, fun pl npl => ?_⟩⟩
    have kl : Kept [] H (L2.upd H1 pl (.lst (entVs es))) := k1.upd npl
    have m1 := kl _ _ hmp (by simp)
    refine ⟨_, rfl, mp, rfl, ⟨[], .inl (.of m1)⟩, fun D nD => ?_⟩
    refine walk_W (walk_list (K := K) (a := mp) (xs := [])) (fun j Hc => Hc D = some (.lst []) ∧ Kept [] (L2.upd H1 pl (.lst (entVs es))) Hc) ⟨upd_same, (Kept.refl _).upd nD⟩ (fun j Hc _ pv => .inl (.of (pv.2 _ _ m1 (by simp)))) ?_ ?_
    · rintro j y Hc0 Hc hj _ _
      exact absurd hj (Nat.not_lt_zero _)
    · rintro Hc ⟨e2, kc⟩
      have kA := kl.trans kc
      refine ⟨_, rfl, hT.ext fun b o e => kA b o e (by simp), D, [], rfl, .inl (.of e2), (fun b hb => nomatch hb), fun p H2 kb T3 np e3 => ?_⟩
      exact k p H2 ((Kb.of kA).trans kb) T3 (none_of kA np) (by rw [e3, List.mergeSort_nil]; rfl)
theorem e_lotsof (F : FnP K "lots_of" sLotsOf f fd) (M : Mk K C fI) (gR : mg "Rules" = some (.ref C)) (FI : FnOk P w K mg base CX0 2 fI fdI ["self", "rows", "names"] (spInit K P w C)) (bI : Binds K fdI ["self", "rows", "names"] [])
    (cN : Own P w K mg base "names_of" 2 fN fdN ["rows"] spNames) (cM : Own P w K mg base "masks_of" 5 fM fdM ["rules", "told", "result"] (spMO0 K P w C)) (cA : Own P w K mg base "as_lots" 2 fA fdA ["masks", "rows"] (spAL0 P1)) :
    FnOk P w K mg base CX0 6 f fd ["rows", "result"] (spLO0 K P1) := by
  refine F.ok scLO0 (fun vs H Q E h => ?_) (fun cdv A outer s H vs Q E hr h => ?_)
  · obtain ⟨q, sa, sy, rfl, _⟩ := h
    rfl
  · obtain ⟨q, sa, sy, rfl, hq, hsa, hT, k⟩ := h
    refine ⟨_, PSs.nox (pss_one (ps_ret (pe_call cA.ok (hr.mono (by decide)) (by rfl) cA.g cA.kp cA.b .nil pass0 (pa_cons
      (pe_call cM.ok hr (by rfl) cM.g cM.kp cM.b .nil pass0 (pa_cons (pe_make M FI (hr.mono (by decide)) (by rfl) gR bI .nil pass0 (pa_cons (pv 0) (pa_cons (pe_call cN.ok (hr.mono (by decide)) (by rfl) cN.g cN.kp cN.b .nil pass0 (pa_cons (pv 0) pa_nil)) pa_nil)))
        (pa_cons (pe_tup pa_nil) (pa_cons (pv 1) pa_nil)))) (pa_cons (pv 0) pa_nil))))), ?_⟩
    have tx : TextAt H q [] := ⟨[], hq, .nil⟩
    refine ⟨_, rfl, _, rfl, q, [], rfl, tx, by decide, fun na nb H2 k2 nna e2 hm2 hl2 => ?_⟩
    intro x dx nx ndx dxx
    have kx : Kept [] H2 (L2.upd (L2.upd H2 dx (.own x)) x (.ins C dx [])) := ((Kept.refl H2).upd ndx).upd (by rw [upd_ne (Ne.symm dxx)]; exact nx)
    have txx := (tx.kept (M := []) (TK.of k2)).kept (M := []) (TK.of kx)
    refine ⟨x, q, na, dx, [], nb, rfl, upd_same, txx, by decide, kx _ _ e2 (by simp), fun H3 o rws ho hC nkd k3 R3 hrw hrl => ⟨rfl, ?_⟩⟩
    have k13 : Kept [] H H3 := fun b u e hb => k3 b u (kx b u (k2 b u e hb) hb) (by rw [List.mem_singleton]; exact ne_of_none (k2 b u e hb) nx)
    obtain rfl : rws = [] := List.length_eq_zero_iff.mp (Nat.le_zero.mp hrl)
    refine ⟨Nat.zero_le _, fun e0 ne0 => ?_⟩
    have k14 : Kept [] H (L2.upd H3 e0 (.tup [])) := k13.upd ne0
    subst ho
    refine ⟨_, rfl, e0, sa, o, nb, sy, rfl, hC, R3.kept ((Kept.refl H3).upd ne0), upd_same, sqT_tk (.of k14) hsa, fun p H5 k5 np5 e5 => ?_⟩
    have k15 := k14.trans k5
    refine ⟨_, rfl, q, p, rfl, e5, k15 _ _ hq (by simp), hT.ext fun b o e => k15 b o e (by simp), fun p6 H6 kb6 T6 np6 e6 => ?_⟩
    exact k p6 H6 ((Kb.of k15).trans kb6) T6 (none_of k15 np6) e6
end
section
variable {P : Program} {w : World} {K : PySem.W.Frag} {mg : Str → Option Value} {base : Heap} {f fC fS fL fD C CR CA P1 : Addr} {fd fdC fdS fdL fdD : FuncData} {T : List Addr}
/-- bearers of the empty text: none -/
def spB0 (K : PySem.W.Frag) (T : List Addr) (P1 : Addr) : Sp := fun vs H Q _ => ∃ (q sa : Addr) (s : Say), vs = [.ref q, .ref sa] ∧ H q = some (.tup []) ∧ H sa = some (.tup (s.ws.map V.str)) ∧ SayT H (.ref sa) true ∧ (∀ P ∈ T, TabG H P) ∧ LamX.TabS H P1 qAL ∧ P1 ∉ T ∧
  ∀ p H' H1, Kp T H H1 → Kb P1 H1 H' → H1 p = none → H' p = some (.lst []) → Q (.ref p) H'
theorem TabS.kp {H H' : Hp} {q : Str} (hT : LamX.TabS H P1 q) (n : P1 ∉ T) (ht : ∀ P ∈ T, TabG H P) (k : Kp T H H') : LamX.TabS H' P1 q := by
  obtain ⟨ps, e, tri, all⟩ := hT
  refine ⟨ps, k.keep _ _ e n, tri, fun p cv h => ?_⟩
  obtain ⟨c, e1, e2⟩ := all p cv h
  exact ⟨c, e1, k.obj ht e2 (fun ps z => LamX.codeO_ne ps z)⟩
theorem b0_bearers (F : FnP K "bearers" sBearers f fd) (cC : OwnX P w K mg base "check_text" 6 fC fdC ["rows"] (spCheckX K T CR)) (cS : OwnX P w K mg base "check_saying" 7 fS fdS ["saying"] (spChS T C)) (cL : Own P w K mg base "lots_of" 6 fL fdL ["rows", "result"] (spLO0 K P1)) :
    FnOk P w K mg base (L2.CX P w) 8 f fd ["rows", "saying"] (spB0 K T P1) := by
  refine F.ok scS_bearers (fun vs H Q E h => ?_) (fun cdv A outer s H vs Q E hr h => ?_)
  · obtain ⟨q, sa, sy, rfl, _⟩ := h
    rfl
  · obtain ⟨q, sa, sy, rfl, hq, hsa, sv, ht, hT, nP, k⟩ := h
    refine ⟨_, pss_cons (ps_expr (pe_call cC.ok (hr.mono (by decide)) (by rfl) cC.g cC.kp cC.b .nil (passes_call (takes_of rfl rfl rfl rfl) (fun _ _ _ _ h => h)) (pa_cons (pv 0) pa_nil))) (pss_cons (ps_expr (pe_call cS.ok (hr.mono (by decide)) (by rfl) cS.g cS.kp cS.b .nil (passes_call (takes_of rfl rfl rfl rfl) (fun _ _ _ _ h => h)) (pa_cons (pv 1) pa_nil)))
      (pss_one (ps_ret (pe_call cL.ok (hr.mono (by decide)) (by rfl) cL.g cL.kp cL.b .nil pass0 (pa_cons (pv 0) (pa_cons (pv 1) pa_nil)))))), ?_⟩
    refine ⟨_, rfl, .ref q, rfl, ht, .inl ⟨q, [], rfl, hq, by decide, (fun r hr => nomatch hr), fun H1 k1 => ⟨_, rfl, .ref sa, true, rfl, sv.kp ht k1, k1.tab, (fun _ H2 k2 => ?_), (fun z => nomatch z)⟩⟩⟩
    have k12 := k1.trans k2
    refine ⟨_, rfl, _, rfl, q, sa, sy, rfl, k12.obj ht hq, SqT.of (k12.obj ht hsa), TabS.kp hT nP ht k12, fun p H3 kb T3 np e3 => ?_⟩
    exact k p H3 H2 k12 kb np e3
/-- paper of the empty text: nothing follows -/
def spP0 (K : PySem.W.Frag) (T : List Addr) (P1 C : Addr) : Sp := fun vs H Q E => ∃ (q sa : Addr) (s : Say), vs = [.ref q, .ref sa] ∧ H q = some (.tup []) ∧ H sa = some (.tup (s.ws.map V.str)) ∧ SayT H (.ref sa) true ∧ (∀ P ∈ T, TabG H P) ∧ LamX.TabS H P1 qAL ∧ P1 ∉ T ∧
  ∀ H' H1, Kp T H H1 → Kb P1 H1 H' → E (.ref C) none H'
theorem p0_paper (F : FnP K "paper" sPaper f fd) (cD : OwnX P w K mg base "bearers" 8 fD fdD ["rows", "saying"] (spB0 K T P1)) (gC : mg "NoFollow" = some (.ref C)) (xC : PySem.W.excIn K C He.veBase "ValueError.__new__" = true) (kC : PySem.W.keepIn K (.ref C) = true) (bC : PySem.W.subIn K (.ref C) (.type "BaseException") = some true) (tC' : PySem.W.typeIn K (.ref C) = some (.type "type")) :
    FnOk P w K mg base (L2.CX P w) 9 f fd ["rows", "saying"] (spP0 K T P1 C) := by
  refine F.ok scS_paper (fun vs H Q E h => ?_) (fun cdv A outer s H vs Q E hr h => ?_)
  · obtain ⟨q, sa, sy, rfl, _⟩ := h
    rfl
  · obtain ⟨q, sa, sy, rfl, hq, hsa, sv, ht, hT, nP, hw⟩ := h
    refine ⟨_, pss_cons (ps_set (i := 2) scS_paper.nd rfl (.inl rfl) (pe_call cD.ok hr (by rfl) cD.g cD.kp cD.b .nil (passes_call (takes_of rfl rfl rfl rfl) (fun _ _ _ _ h => h)) (pa_cons (pv 0) (pa_cons (pv 1) pa_nil))))
      (pss_cons (ps_if (pt_not (pt_truth (pv 2) (by intro _; rfl))) (pss_one (ps_raise rfl (takes_of rfl rfl rfl rfl) (pmk_own PySem.F.excBase_ValueError xC gC kC (raises_own bC tC') rfl))) pss_nil) pss_nev), ?_⟩
    refine ⟨_, rfl, _, rfl, q, sa, sy, rfl, hq, hsa, sv, ht, hT, nP, fun p H' H1 k1 kb np e => ?_⟩
    refine ⟨_, rfl, false, ?_, iteT (hw H' H1 k1 kb)⟩
    exact .inl ⟨[], SqL.of e, rfl⟩
end
end Ah
end
section
set_option Elab.async false
set_option linter.all false
set_option maxRecDepth 100000
set_option maxHeartbeats 2000000
namespace Ah
open PySem PySem.Spec PyProof.Rows L2
/-! ### a lambda with a default: its object bears the tuple of it -/
abbrev lamFd (q : Str) (params : Arguments) (body : Expr) (scope : Scope) (cl : List (Str × Addr)) (pm cdv ct dV : Value) : FuncData := { PySem.W.kla_fn "<lambda>" q params body scope cl pm cdv ct with defaults := dV }
abbrev lamOb (q : Str) (params : Arguments) (body : Expr) (scope : Scope) (cl : List (Str × Addr)) (pm cdv ct dV : Value) : Obj := { cls := .type "function", data := .func (lamFd q params body scope cl pm cdv ct dV) }
section
variable {M : Model} {A : Around} {E : Value → Shared → Prop} {s : Shared} {q : Str} {params : Arguments} {body : Expr} {scope : Scope} {env : Env} {c P : Addr} {ps : Array Value} {pos : Pos} {n : Nat} {mg : Str → Option Value} {clos : List (Str × Addr)} {Q : Value → Shared → Prop} {dV : Value}
/-- the closure's tuple, if there is one, is laid; the rest follows in any heap that keeps what was -/
theorem lamd_tail (hcl : closureFor scope env = pure clos)
    (h : ∀ ctv h', (∀ b o, s.heap.get? b = some o → h'.get? b = some o) → s.heap.objs.size ≤ h'.objs.size →
      wpAny M A (functionCode env pos n "<lambda>" q params scope (.expr body)) (fun cv s1 => wpAny M A (builtinsFor env.globals env.builtins) (fun bv s2 => wpAny M A (nsGet env.globals "__name__") (fun nv s3 =>
        Q (.ref s3.heap.objs.size) { s3 with heap := s3.heap.push { cls := .type "function", data := .func { name := "<lambda>", qualname := q, params := params, body := .expr body, scope := scope, globals := env.globals, closure := clos, closureTuple := ctv, code := cv, builtins := bv, defaults := dV, kwdefaults := .none, annotations := none, pyModule := nv.getD .none, doc := .none } } }) E s2) E s1) E { s with heap := h' }) :
    wpAny M A (makeTail "<lambda>" q params (.expr body) scope env dV .none none pos n) Q E s := by
  unfold makeTail
  rw [hcl]
  refine wpAny_bind (wpAny_pure ?_)
  cases clos with
  | nil =>
    simp only [List.isEmpty_nil, if_true]
    refine wpAny_bind (wpAny_pure (wpAny_bind (wpAny_mono (h .none s.heap (fun _ _ e => e) (Nat.le_refl _)) (fun cv s1 h1 => wpAny_bind (wpAny_mono h1 (fun bv s2 h2 => wpAny_bind (wpAny_mono h2 (fun nv s3 h3 => ?_) fun _ _ x => x)) fun _ _ x => x)) fun _ _ x => x)))
    exact wpAny_bind (wpAny_pure (wpAny_newObj_type h3 (by size_fits)))
  | cons p r =>
    simp only [List.isEmpty_cons, Bool.false_eq_true, if_false]
    refine wpAny_bind (wpAny_newTextTuple ?_)
    refine (wpAny_bind (wpAny_mono (h (.ref s.heap.objs.size) _ (fun b o e => Heap.get?_push_of_some _ e) (by rw [Heap.size_push]; omega)) (fun cv s1 h1 => wpAny_bind (wpAny_mono h1 (fun bv s2 h2 => wpAny_bind (wpAny_mono h2 (fun nv s3 h3 => ?_) fun _ _ x => x)) fun _ _ x => x)) fun _ _ x => x))
    exact wpAny_bind (wpAny_pure (wpAny_newObj_type h3 (by size_fits)))
end
section
variable {X : Cx} {pins : List (Addr × Obj)} {σ : L2.St} {H : Hp} {s : Shared}
open LamX in
theorem lam_makeD {T : List (Addr × Str)} {c P : Addr} {params : Arguments} {body : Expr} {scope : Scope} {pos p0 : Pos} {k : Int} {j : Nat} {E : Value → Shared → Prop} {Q : Value → Shared → Prop} (I : L2.Inv X pins σ H s) (TB : LamX.TabB X.base X.mg c P) (hcode : X.env.code = .ref c)
    (hm : (P, X.env.qual ++ "<lambda>") ∈ T) (hu : ∀ p ∈ T, p.1 = P → p.2 = X.env.qual ++ "<lambda>") (hT : LamX.Tabs T H) (hdef : defaultsOf params X.env = ([eval (.Constant (.int k) j p0) X.env], [])) (hfree : ∀ y ∈ scope.names, y.2 = .free → ∃ c, X.env.cells.lookup y.1 = some c)
    (h : ∀ (f t c' : Addr) (tk : Tok) (pm ctv : Value) (H1 : Hp) (s' : Shared), L2.Inv X pins σ H1 s' → LamX.ExtN H H1 → LamX.Tabs T H1 →
      s'.heap.get? f = some (lamOb (X.env.qual ++ "<lambda>") params body scope (cloFrom X.env.cells scope.names []) pm (.ref c') ctv (.ref t)) → s'.heap.get? t = some { cls := .type "tuple", data := .seq [Value.int k tk].toArray } →
      H1 f = none → H1 t = none → f ∉ frs X.stack → t ∉ frs X.stack → H1 c' = some (LamX.CodeO c' (X.env.qual ++ "<lambda>")) → Q (.ref f) s') :
    wpAny (model X.prog X.w) X.A (eval (.Lambda params body scope pos) X.env) Q E s := by
  obtain ⟨ps, hP, ht, ha⟩ := hT _ hm
  rw [arm_eval_Lambda, hdef]
  show wpAny _ _ (do let dv ← evalAll [eval (.Constant (.int k) j p0) X.env]; let kdv ← holding dv (evalAllOpt []); makeFunction "<lambda>" (X.env.qual ++ "<lambda>") params (.expr body) scope X.env dv kdv [] pos pos.line) Q E s
  refine wpAny_bind (wpAny_bind (wpAny_Constant_int (wpAny_bind (wpAny_holding (wpAny_pure (wpAny_pure ?_))))))
  refine wpAny_bind (wpAny_holding (wpAny_pure ?_))
  rw [makeFunction_eq]
  simp only [List.zip_nil_right, List.filterMap_nil, List.isEmpty_nil, List.isEmpty_cons, Bool.false_eq_true, if_false, if_true, pure_bind]
  refine wpAny_bind (wpAny_newTextTuple ?_)
  refine lamd_tail (closure_ok hfree) fun ctv h1 k1 l1 => ?_
  have k0 : ∀ b o, s.heap.get? b = some o → h1.get? b = some o := fun b o e => k1 b o (Heap.get?_push_of_some _ e)
  have e0 : h1.get? s.heap.objs.size = some { cls := .type "tuple", data := .seq [Value.int k s.toks].toArray } := k1 _ _ (Heap.get?_push_at rfl rfl)
  have l0 : s.heap.objs.size < h1.objs.size := by
    have z := l1
    dsimp only at z
    rw [Heap.size_push] at z
    exact z
  have bP : s.heap.BuiltinsAt X.mg P := TB.bm.keeps I.bk
  have hP' : s.heap.get? P = some { cls := .none, data := .fields ps } := I.hok P _ hP
  have nofr : ∀ f, s.heap.objs.size ≤ f → f ∉ frs X.stack := fun f hf z => by
    rcases List.mem_cons.mp (I.stkSub _ z) with e | e
    · have h1 := I.lt
      rw [← e] at h1
      exact Nat.lt_irrefl _ (Nat.lt_of_lt_of_le h1 hf)
    · exact I.nofs hf e
  have nt : H s.heap.objs.size = none := I.hok.fresh (Nat.le_refl _)
  have htP : s.heap.objs.size ≠ P := Nat.ne_of_gt (Heap.lt_size hP')
  obtain ⟨bm, ob, hbm, hne0, hneG, hneP, hbo, hcls, hdict, hdata⟩ := bP
  have hG := (I.mod.glob.keeps I.bk).keeps k0
  have hC := (TB.code.keeps I.bk).keeps k0
  rw [I.ok.glob]
  cases hc : codeAmong pos ps.toList with
  | none =>
    refine PySem.wpAny_functionCodeX hcode (hC.code (k0 _ _ hP') ht) (hC.tab (k0 _ _ hP')) hc fun c' h' tk hx hge hlt _ hrec htb _ => ?_
    obtain ⟨c2, oc, vs, t, e2, hoc, hd, hv⟩ := hrec
    cases e2
    have kx : ∀ b o, b ≠ P → s.heap.get? b = some o → h'.get? b = some o := fun b o hb e => hx b o hb (k0 b o e)
    have hG' := hG.extBut hx TB.gP
    refine wpAny_builtinsFor hG' hbm hne0 (kx _ _ hneP hbo) hcls hdict hdata ?_
    refine wpAny_nsGet hG' ?_
    have hsz : s.heap.objs.size ≤ h'.objs.size := Nat.le_of_lt (Nat.lt_of_lt_of_le l0 (Nat.le_trans hge (Nat.le_of_lt hlt)))
    have hcs : s.heap.objs.size ≤ c' := Nat.le_of_lt (Nat.lt_of_lt_of_le l0 hge)
    have nC : H c' = none := I.hok.fresh hcs
    have I1 := LamX.inv_table (q := X.env.qual ++ "<lambda>") (t' := tk) (more := #[rawInt pos.line, rawInt pos.col, .ref c']) (h' := h'.push (lamOb (X.env.qual ++ "<lambda>") params body scope (cloFrom X.env.cells scope.names []) ((X.mg "__name__").getD .none) (.ref c') ctv (.ref s.heap.objs.size))) I hP
      (fun b o hb e => Heap.get?_push_of_some _ (kx b o hb e)) (Heap.get?_push_of_some _ htb.2) hcs ⟨oc, vs, t, Heap.get?_push_of_some _ hoc, hd, hv⟩
    have hE : LamX.ExtN H (L2.upd (L2.upd H P (.tbl (ps ++ #[rawInt pos.line, rawInt pos.col, .ref c']))) c' (LamX.CodeO c' (X.env.qual ++ "<lambda>"))) := fun b o e n => by
      rw [upd_ne (ne_of_none e nC), upd_ne (fun z => n ps (Option.some.inj (e.symm.trans (by rw [z]; exact hP))))]
      exact e
    have eL : (ps ++ #[rawInt pos.line, rawInt pos.col, .ref c']).toList = ps.toList ++ [rawInt pos.line, rawInt pos.col, .ref c'] := by simp
    have htc : s.heap.objs.size ≠ c' := Nat.ne_of_lt (Nat.lt_of_lt_of_le l0 hge)
    have et : h'.get? s.heap.objs.size = some { cls := .type "tuple", data := .seq [Value.int k s.toks].toArray } := hx _ _ htP e0
    refine h h'.objs.size s.heap.objs.size c' s.toks ((X.mg "__name__").getD .none) ctv _ _ I1 hE (fun p hp => ?_) (Heap.get?_push_size _ rfl) (Heap.get?_push_of_some _ et) ?_ ?_ (nofr _ hsz) (nofr _ (Nat.le_refl _)) upd_same
    · by_cases hb : p.1 = P
      · rw [hu p hp hb, hb]
        refine ⟨_, by rw [upd_ne (ne_of_none hP nC), upd_same], by rw [eL]; exact PySem.TriplesOk_snoc _ _ _ _ ht, fun p' cv hcv => ?_⟩
        rw [eL] at hcv
        rcases LamX.among_app _ ht hcv with z | z
        · obtain ⟨c0, e1, e2⟩ := ha p' cv z
          exact ⟨c0, e1, hE _ _ e2 LamX.codeO_ne⟩
        · exact ⟨c', z, upd_same⟩
      · obtain ⟨ps', a1, a2, a3⟩ := hT p hp
        refine ⟨ps', by rw [upd_ne (ne_of_none a1 nC), upd_ne hb]; exact a1, a2, fun p' cv hcv => ?_⟩
        obtain ⟨c0, e1, e2⟩ := a3 p' cv hcv
        exact ⟨c0, e1, hE _ _ e2 LamX.codeO_ne⟩
    · have n1 : h'.objs.size ≠ c' := Nat.ne_of_gt hlt
      have n2 : h'.objs.size ≠ P := Nat.ne_of_gt (Nat.lt_of_lt_of_le (Heap.lt_size hP') hsz)
      rw [upd_ne n1, upd_ne n2]
      exact I.hok.fresh hsz
    · rw [upd_ne htc, upd_ne htP]
      exact nt
  | some cv =>
    obtain ⟨c', e, hco⟩ := ha pos cv hc
    subst e
    refine wpAny_functionCode_hit hcode (hC.code (k0 _ _ hP') ht) hc ?_
    refine wpAny_builtinsFor hG hbm hne0 (k0 _ _ hbo) hcls hdict hdata ?_
    refine wpAny_nsGet hG ?_
    have kk : ∀ o' b o, s.heap.get? b = some o → (h1.push o').get? b = some o := fun o' b o e => Heap.get?_push_of_some _ (k0 b o e)
    refine h h1.objs.size s.heap.objs.size c' s.toks ((X.mg "__name__").getD .none) ctv H _ (I.kept (kk _)) (LamX.ExtN.refl H) hT (Heap.get?_push_size _ rfl) (Heap.get?_push_of_some _ e0) (I.hok.fresh (Nat.le_of_lt l0)) nt (nofr _ (Nat.le_of_lt l0)) (nofr _ (Nat.le_refl _)) hco
end
end Ah
end
section
set_option Elab.async false
set_option linter.all false
set_option maxRecDepth 100000
set_option maxHeartbeats 2000000
namespace Ah
open PySem PySem.Spec PyProof.Rows L2 LamX
/-! ### such a lambda called, what it lets out wished for at the caller's slots -/
/-- its own names are none of the maker's slots -/
structure LamSD (N : List Str) (sc scope : Scope) : Prop where
  kind : scope.kind = .function
  co : scope.isCoroutine = false
  gen : scope.isGenerator = false
  own : ∀ y ∈ scope.names, y.2 ≠ .cell
  loc : ∀ y ∈ scope.names, y.2 = .local → y.1 ∉ N
  free : ∀ y ∈ scope.names, y.2 = .free → sc.names.lookup y.1 = some .cell ∨ sc.names.lookup y.1 = some .free
def lamSDB (N : List Str) (sc scope : Scope) : Bool :=
  decide (scope.kind = .function) && !scope.isCoroutine && !scope.isGenerator && scope.names.all fun y => !decide (y.2 = .cell) && (!decide (y.2 = .local) || !N.contains y.1) && (!decide (y.2 = .free) || decide (sc.names.lookup y.1 = some .cell) || decide (sc.names.lookup y.1 = some .free))
theorem lamSD_by {N : List Str} {sc scope : Scope} (h : lamSDB N sc scope = true) : LamSD N sc scope := by
  unfold lamSDB at h
  simp only [Bool.and_eq_true, Bool.or_eq_true, Bool.not_eq_true', decide_eq_true_eq, decide_eq_false_iff_not, List.all_eq_true] at h
  obtain ⟨⟨⟨h1, h2⟩, h3⟩, h4⟩ := h
  refine ⟨h1, h2, h3, fun y hy => (h4 y hy).1.1, fun y hy e hm => ?_, fun y hy e => ?_⟩
  · rcases (h4 y hy).1.2 with z | z
    · exact z e
    · rw [List.contains_iff_mem.mpr hm] at z
      cases z
  · rcases (h4 y hy).2 with (z | z) | z
    · exact absurd e z
    · exact .inl z
    · exact .inr z
theorem LamSD.has {X : Cx} {N : List Str} {scope : Scope} (L : LamSD N X.env.scope scope) (ok : X.Ok) : ∀ y ∈ scope.names, y.2 = .free → ∃ c, X.env.cells.lookup y.1 = some c := fun y hy e => by
  rcases L.free y hy e with k | k
  · exact ok.has _ (.inl k)
  · exact ok.has _ (.inr k)
section
variable {X : Cx} {pins : List (Addr × Obj)} {σ : L2.St} {H HZ : Hp} {s s1 : Shared}
theorem lam_startD {A : Around} {outer : List Env} {E : XK} {scope : Scope} {f c' : Addr} {h₁ : Heap} {tk : Nat} {m : Str → Option Value} (I : L2.Inv X pins σ H s) (L : LamSD X.N X.env.scope scope) (e0 : Env0 X.prog X.w X.K X.mg X.base A outer s1 HZ) (hd : A.handled = none)
    (un : Un (frs X.stack) [] H HZ s.heap s1.heap) (hns : h₁.Ns s1.heap.objs.size m) (kp : ∀ b o, s1.heap.get? b = some o → h₁.get? b = some o) :
    L2.Inv (lamCx X A outer s1 HZ E scope f c') [] σ HZ { s1 with heap := h₁, toks := tk } := by
  have hfree := L.has I.ok
  have cm : ∀ {y c}, (cloFrom X.env.cells scope.names []).lookup y = some c → X.env.cells.lookup y = some c := fun {y c} e => by
    rcases cloFrom_mem (PySem.mem_of_lookup e) with hm | ⟨h1, h2⟩
    · cases hm
    · obtain ⟨c1, hc⟩ := hfree _ h1 rfl
      have hc : X.env.cells.lookup y = some c1 := hc
      rw [hc] at h2
      rw [h2]
      exact hc
  have look : ∀ {y}, scope.names.lookup y = some .free → ∃ c, (cloFrom X.env.cells scope.names []).lookup y = some c := fun {y} hl =>
    mem_lookup (cloFrom_has (cells := X.env.cells) (acc := []) (PySem.mem_of_lookup hl))
  have cellK : ∀ {c : Addr} {v : Option Value}, H c = none → s.heap.IsCell c v → h₁.IsCell c v := fun {c v} n ⟨o, ho, hd⟩ => by
    obtain ⟨sl, q⟩ := un.any ho n (by simp)
    exact ⟨_, kp _ _ q, hd⟩
  have noA : ∀ b : Addr, b ∉ (lamCx X A outer s1 HZ E scope f c').ex := fun b z => absurd (show b ∈ ([] : List Addr) from z) (by simp)
  refine ⟨⟨e0.mod, L.kind, rfl, rfl, Nat.le_refl _, fun y z c e1 e2 => I.ok.inj y z c (cm e1) (cm e2), fun y hy => ?_, fun y c z _ => absurd (show false = true from z) Bool.false_ne_true, fun _ => hd, Around.frames_deeper e0.frames, .inr ⟨rfl, rfl⟩, fun b z => absurd z (noA b), e0.bs, e0.bsz, fun b _ _ => noA b,
      fun b z => absurd z (noA b), e0.funs, e0.frf⟩,
    rfl, e0.bare, Un.kept kp, ⟨_, hns, fun i y v e1 e2 e3 => ?_⟩, fun y c e => ?_, e0.hok.fresh (Nat.le_refl _), fun y c e => ?_, fun q hq => absurd (show q ∈ ([] : List (Addr × Obj)) ++ [] from hq) (by simp), e0.hok.kept kp, I.len⟩
  · have hy : scope.names.lookup y = some .cell ∨ scope.names.lookup y = some .free := hy
    rcases hy with hy | hy
    · exact absurd rfl (L.own _ (PySem.mem_of_lookup hy))
    · exact look hy
  · have e3 : Vis scope y := e3
    rcases e3 with k | k | k
    · exact absurd (List.mem_of_getElem? (show X.N[i]? = some y from e1)) (L.loc _ (PySem.mem_of_lookup k) rfl)
    · exact absurd rfl (L.own _ (PySem.mem_of_lookup k))
    · obtain ⟨m, hn, hl⟩ := I.loc
      have hvis : Vis X.env.scope y := (L.free _ (PySem.mem_of_lookup k) rfl).elim (fun k => .inr (.inl k)) (fun k => .inr (.inr k))
      obtain ⟨w', r, q⟩ := hl i y v e1 e2 hvis
      obtain ⟨c2, h2⟩ := look k
      refine ⟨w', r, .inr ⟨.inr k, c2, h2, ?_⟩⟩
      have c1 := cm h2
      rcases q with ⟨k', _⟩ | ⟨_, c3, e', z⟩
      · have k' : X.env.scope.names.lookup y = some .local := k'
        rcases L.free _ (PySem.mem_of_lookup k) rfl with k2 | k2 <;> rw [show X.env.scope.names.lookup y = _ from k2] at k' <;> cases k'
      · rw [c1] at e'
        cases e'
        exact cellK (I.freeC y _ c1) z
  · obtain ⟨w', z⟩ := I.cell y c (cm e)
    exact ⟨w', cellK (I.freeC y c (cm e)) z⟩
  · obtain ⟨v, o, ho, hd⟩ := I.cell y c (cm e)
    exact un.free c o ho (I.freeC y c (cm e)) (by simp)
/-- x(), in the def that got the lambda -/
theorem pe_actS {CXg : CXT} {Eg : XK} {Ng : List Str} {qg : Str} {sg : Scope} {g f c' : Addr} {cdg pm ctv dV : Value} {params : Arguments} {body : Expr} {scope : Scope} {k i : Nat} {a : Str} {pn : List (Addr × Obj)} {xe : Value → Shared → Prop} {W : WX} {E : XK} {tb : TE} {p1 p2 : Pos} {binds : List (Str × Value)} {σ0 : L2.St}
    (I : L2.Inv X pins σ H s) (L : LamSD X.N X.env.scope scope) (hf : s.heap.get? f = some (lamOb (X.env.qual ++ "<lambda>") params body scope (cloFrom X.env.cells scope.names []) pm (.ref c') ctv dV)) (hfn : H f = none) (hfr : f ∉ frs X.stack)
    (hbind : ∀ s1 : Shared, (∀ b o, s.heap.get? b = some o → H b = none → b ∉ frs X.stack → s1.heap.get? b = some o) → BindsTo s1 (lamFd (X.env.qual ++ "<lambda>") params body scope (cloFrom X.env.cells scope.names []) pm (.ref c') ctv dV) ⟨[], []⟩ binds) (hloc : ∀ y ∈ binds, scope.names.lookup y.1 = some .local)
    (tk : Takes ((cxOf CXg X.prog X.w X.K X.mg X.base Ng qg sg g cdg X.A X.stack s H Eg).tr pn xe) W) (hW : ∀ cls d H', E cls d H' → W cls d σ0 H') (hr : Room (k + 1) (X.A.deeper (envOfC qg sg s.heap.objs.size g cdg)))
    (hbody : ∀ (A : Around) (outer : List Env) (s : Shared) (H : Hp), Room k (A.deeper (lamEnv X scope s.heap.objs.size f c')) → PE (lamCx X A outer s H E scope f c') body tb)
    (hN : Ng[i]? = some a) (hv : Vis sg a) (hd : (a == ("__debug__" : Str)) = false) (hcd : (a == ("__classdict__" : Str)) = false) :
    PE ((cxOf CXg X.prog X.w X.K X.mg X.base Ng qg sg g cdg X.A X.stack s H Eg).tr pn xe) (.Call (.Name a p1) [] [] p2)
      (fun σZ HZ Q => σZ = σ0 ∧ σZ[i]? = some (some (.ref f)) ∧ HZ c' = some (CodeO c' (X.env.qual ++ "<lambda>")) ∧ tb σ HZ Q) := by
  refine ⟨fun pinsZ sZ σZ HZ Q IZ h => ?_⟩
  obtain ⟨e0, hs, hc, ht⟩ := h
  subst e0
  refine wpAny_Call_Name_kw (thn ((pe_var (pos := p1) (i := i) hN hv hd hcd).run pinsZ sZ σZ HZ (fun v H1 => v = .ref f ∧ H1 = HZ) IZ ⟨.ref f, hs, rfl, rfl⟩) fun u s1 ⟨v, H1, I1, r1, q1⟩ => ?_)
  obtain ⟨ev, eH⟩ := q1
  subst ev
  rw [eH] at I1
  obtain rfl : u = Value.ref f := r1
  have kb : ∀ b o, s.heap.get? b = some o → H b = none → b ∉ frs X.stack → s1.heap.get? b = some o := fun b o e n nf => I1.base.keep b o e n nf (fun z => nomatch (show b ∈ ([] : List Addr) from z))
  have of1 := kb f _ hf hfn hfr
  refine PySem.W.callWith_F0 ⟨_, _, _, _, of1⟩ ?_
  have un : Un (frs X.stack) [] H HZ s.heap s1.heap := I1.base
  obtain ⟨⟨oc, vs, t, hoc, hdc, hvc⟩, _, _⟩ := I1.hok c' _ hc
  have rc : codeAny (model X.prog X.w) (X.A.deeper (envOfC qg sg s.heap.objs.size g cdg)) (.call (.ref f) ⟨[], []⟩) (CR (L2.CX X.prog X.w) (envOfC qg sg s.heap.objs.size g cdg :: X.stack) X.prog X.w HZ s1 Q E) s1 := by
    refine PySem.W.kla_callFunE hr.depth of1 rfl L.co L.gen rfl ⟨c', oc, vs, t, rfl, hoc, hdc, hvc⟩ ?_
    refine hbind s1 kb _ _ _ _ (wpAny_newFunctionEnv L.own hloc (fun h₁ hns hsb => ⟨I1.nolimit.fresh _ hsb, ?_⟩) L.kind)
    show codeAny _ _ (.expr body (lamEnv X scope s1.heap.objs.size f c')) _ _
    have kp : ∀ b o, s1.heap.get? b = some o → h₁.get? b = some o := fun b o e => hsb.extBut b o (Nat.ne_of_lt (Heap.lt_size e)) (Heap.get?_push_of_some _ e)
    have J : L2.Inv (lamCx X (X.A.deeper (envOfC qg sg s.heap.objs.size g cdg)) (envOfC qg sg s.heap.objs.size g cdg :: X.stack) s1 HZ E scope f c') [] σ HZ { s1 with heap := h₁, toks := s1.toks + binds.length } :=
      lam_startD I L I1.env0 hr.hd un hns kp
    refine PySem.W.kla_codeExpr (wpAny_mono ((hbody _ _ s1 HZ (hr.deeper _)).run [] _ _ HZ Q J ht) (fun v s' hq => ?_) fun e s' hq => hq)
    obtain ⟨w', H', J', rv, q⟩ := hq
    exact ⟨w', H', J'.os, J'.bare, J'.base, J'.hok, rv, q⟩
  refine wpAny_call (codeAny_mono rc fun r s' hq => ?_)
  cases r with
  | error e => exact tk e s' (XE.of_call I1 (fun cls d H' h => hW cls d H' h) hq)
  | ok fl =>
    cases fl with
    | ret u => exact I1.after hq
    | next => exact False.elim hq
    | brk => exact False.elim hq
    | cont => exact False.elim hq
end
end Ah
end
section
set_option Elab.async false
set_option linter.all false
set_option maxRecDepth 100000
set_option maxHeartbeats 2000000
namespace Ah
open PySem PySem.Spec PyProof.Rows L2 LamX
/-! ### x(lambda: ..), x(lambda a=0: ..) -/
/-- how a lambda is made, whatever its defaults -/
def LamMk (X : Cx) (T : List (Addr × Str)) (params : Arguments) (body : Expr) (scope : Scope) (pos : Pos) : Prop :=
  ∀ (pins : List (Addr × Obj)) (σ : L2.St) (H : Hp) (s : Shared) (E : Value → Shared → Prop) (Q : Value → Shared → Prop), L2.Inv X pins σ H s → Tabs T H →
    (∀ (f c' : Addr) (pm ctv dV : Value) (H1 : Hp) (s' : Shared) (binds : List (Str × Value)), L2.Inv X pins σ H1 s' → ExtN H H1 → Tabs T H1 →
      s'.heap.get? f = some (lamOb (X.env.qual ++ "<lambda>") params body scope (cloFrom X.env.cells scope.names []) pm (.ref c') ctv dV) → H1 f = none → f ∉ frs X.stack → H1 c' = some (CodeO c' (X.env.qual ++ "<lambda>")) →
      (∀ s1 : Shared, (∀ b o, s'.heap.get? b = some o → H1 b = none → b ∉ frs X.stack → s1.heap.get? b = some o) → BindsTo s1 (lamFd (X.env.qual ++ "<lambda>") params body scope (cloFrom X.env.cells scope.names []) pm (.ref c') ctv dV) ⟨[], []⟩ binds) →
      (∀ y ∈ binds, scope.names.lookup y.1 = some .local) → Q (.ref f) s') →
    wpAny (model X.prog X.w) X.A (eval (.Lambda params body scope pos) X.env) Q E s
section
variable {X : Cx} {T : List (Addr × Str)} {c P : Addr} {params : Arguments} {body : Expr} {scope : Scope} {pos p0 : Pos} {k : Int} {j : Nat} {n : Str}
theorem lamMk0 (TB : TabB X.base X.mg c P) (hcode : X.env.code = .ref c) (hm : (P, X.env.qual ++ "<lambda>") ∈ T) (hu : ∀ p ∈ T, p.1 = P → p.2 = X.env.qual ++ "<lambda>") (L : LamSD X.N X.env.scope scope) (hdef : defaultsOf params X.env = ([], []))
    (hbind : ∀ (q : Str) (cl : List (Str × Addr)) (pm cv ctv : Value), bindArgs (PySem.W.kla_fn "<lambda>" q params body scope cl pm cv ctv) ⟨[], []⟩ = pure []) : LamMk X T params body scope pos := by
  intro pins σ H s E Q I hT h
  refine lam_make2 I TB hcode hm hu hT hdef (L.has I.ok) fun f c' pm ctv H1 s' I1 eN T1 hf hfn hfr hco => ?_
  exact h f c' pm ctv .none H1 s' [] I1 eN T1 hf hfn hfr hco (fun s1 _ => .of_eq (hbind _ _ _ _ _)) (fun y hy => nomatch hy)
theorem lamMkD (TB : TabB X.base X.mg c P) (hcode : X.env.code = .ref c) (hm : (P, X.env.qual ++ "<lambda>") ∈ T) (hu : ∀ p ∈ T, p.1 = P → p.2 = X.env.qual ++ "<lambda>") (L : LamSD X.N X.env.scope scope) (hdef : defaultsOf params X.env = ([eval (.Constant (.int k) j p0) X.env], []))
    (hbind : ∀ (q : Str) (cl : List (Str × Addr)) (pm cv ctv : Value) (t : Addr), ∃ kk : Option (Array Value) → Sem (List (Str × Value)), bindArgs (lamFd q params body scope cl pm cv ctv (.ref t)) ⟨[], []⟩ = seqItems? (.ref t) >>= kk ∧ ∀ v, kk (some [v].toArray) = pure [(n, v)])
    (hn : scope.names.lookup n = some .local) : LamMk X T params body scope pos := by
  intro pins σ H s E Q I hT h
  refine lam_makeD I TB hcode hm hu hT hdef (L.has I.ok) fun f t c' tk pm ctv H1 s' I1 eN T1 hf ht hfn htn hfr htr hco => ?_
  refine h f c' pm ctv (.ref t) H1 s' [(n, .int k tk)] I1 eN T1 hf hfn hfr hco (fun s1 kb => ?_) (fun y hy => ?_)
  · obtain ⟨kk, e1, e2⟩ := hbind (X.env.qual ++ "<lambda>") (cloFrom X.env.cells scope.names []) pm (.ref c') ctv t
    intro M A E Q q
    rw [e1]
    refine wpAny_bind (wpAny_seqItems (kb t _ ht htn htr) rfl ?_)
    rw [e2]
    exact wpAny_pure q
  · rw [List.mem_singleton.mp hy]
    exact hn
end
/-- the def that calls what it got; what is let out is wished for at its slots -/
def GivesS (X : Cx) (Ng : List Str) (x : Str) (sg : Scope) (g : Addr) (cdg : Value) (bg : List Stmt) (a : Str) (q : Str) (TT : (XK → Hp → VK → Prop) → Hp → VK → Prop) : Prop :=
  ∀ (f c' : Addr) (s : Shared) (H : Hp) (Q : VK) (tl : XK → Hp → VK → Prop),
    (∀ (W : WX) (pn : List (Addr × Obj)) (xe : Value → Shared → Prop) (E : XK) (p1 p2 : Pos) (σ0 : L2.St), Takes ((cxOf C8.CX0 X.prog X.w X.K X.mg X.base Ng x sg g cdg X.A X.stack s H C8.E0).tr pn xe) W → (∀ cls d H', E cls d H' → W cls d σ0 H') →
      PE ((cxOf C8.CX0 X.prog X.w X.K X.mg X.base Ng x sg g cdg X.A X.stack s H C8.E0).tr pn xe) (.Call (.Name a p1) [] [] p2) (fun σZ HZ Q => σZ = σ0 ∧ σZ[0]? = some (some (.ref f)) ∧ HZ c' = some (CodeO c' q) ∧ tl E HZ Q)) →
    H c' = some (CodeO c' q) → TT tl H Q →
    ∃ t, PSs (cxOf C8.CX0 X.prog X.w X.K X.mg X.base Ng x sg g cdg X.A X.stack s H C8.E0).nox bg t ∧ t { nx := fun _ H' => Q .non H', rt := Q } (L2.start Ng [.ref f]) H
section
variable {X : Cx}
theorem pe_lamS {T : List (Addr × Str)} {TT : (XK → Hp → VK → Prop) → Hp → VK → Prop} {x a : Str} {g : Addr} {k : Nat} {pg : Arguments} {bg : List Stmt} {sg : Scope} {dV kV doc pm cdv ct oc : Value} {an od : Option Addr} {osl : Array (Option Value)} {Ng : List Str}
    {params : Arguments} {body : Expr} {scope : Scope} {t : XK → TE} {p lpos pos : Pos} (hg : Gl X x) (hm : X.mg x = some (.ref g)) (hk : PySem.W.keepIn X.K (.ref g) = true)
    (lk : X.K.lookup g = some ⟨oc, od, .func (PySem.W.fnOf x x pg bg sg dV kV doc pm an cdv ct), osl⟩) (hcg : PySem.W.codeIn X.K cdv x = true) (hb : L2.Binds X.K (PySem.W.fnOf x x pg bg sg dV kV doc pm an cdv ct) [a] []) (Sg : FnScope Ng [a] sg) (hNg : Ng[0]? = some a) (hva : Vis sg a)
    (hG : GivesS X Ng x sg g cdv bg a (X.env.qual ++ "<lambda>") TT) (hr : Room (k + 2) X.A) (L : LamSD X.N X.env.scope scope) (mk : LamMk X T params body scope lpos)
    (hbody : ∀ (A : Around) (outer : List Env) (s : Shared) (H : Hp) (E : XK) (f c' : Addr), Room k (A.deeper (lamEnv X scope s.heap.objs.size f c')) → PE (lamCx X A outer s H E scope f c') body (t E))
    (hdb : (x == ("__debug__" : Str)) = false := by decide) (hd : (a == ("__debug__" : Str)) = false := by decide) (hcd : (a == ("__classdict__" : Str)) = false := by decide) :
    PE X (.Call (.Name x p) [.Lambda params body scope lpos] [] pos) (tLam T TT t) := by
  refine ⟨fun pins s σ H Q I h => ?_⟩
  obtain ⟨hT, h⟩ := h
  refine wpAny_Call_Name_kw (ld_glob I hg hm ?_ hdb)
  refine PySem.W.callWith_K (h₀ := X.base) I.ok.mod.kin hk ?_ (by rfl) (by rfl)
  show wpAny _ _ (spliced ((false, eval (.Lambda params body scope lpos) X.env) :: backTo pos (starEach [] X.env))) _ _ s
  refine Calls.spliced_cons (mk pins σ H s _ _ I hT fun f c' pm' ctv dV' H1 s' binds I1 eN T1 hf hfn hfr hco hbd hlc => ?_)
  refine Calls.spliced_nil ⟨I1.kIn, ?_⟩
  have rc : codeAny (model X.prog X.w) X.A (.call (.ref g) ⟨[.ref f], []⟩) (CR C8.CX0 X.stack X.prog X.w H1 s' Q C8.E0) s' := by
    refine run_ofS (N := Ng) (ps := [a]) (us := [.ref f]) (vs := [.ref f]) lk hcg Sg hr I1.env0 (hb s' [.ref f] I1.kIn rfl) (.cons rfl .nil) rfl fun hr' => ?_
    obtain ⟨t', ht', hq'⟩ := hG f c' s' H1 Q (fun E H' Q' => t E σ H' Q') (fun W pn xe E p1 p2 σ0 tk hW => pe_actS (i := 0) I1 L hf hfn hfr hbd hlc tk hW hr' (fun A outer s H hr2 => hbody A outer s H E f c' hr2) hNg hva hd hcd) hco (h H1 eN T1)
    exact ⟨t', ht'.nox, hq'⟩
  refine wpAny_call (codeAny_mono rc fun r s2 hq => ?_)
  cases r with
  | error e => exact (show False from hq).elim
  | ok fl =>
    cases fl with
    | ret u => exact I1.after hq
    | next => exact False.elim hq
    | brk => exact False.elim hq
    | cont => exact False.elim hq
end
end Ah
end
section
set_option Elab.async false
set_option linter.all false
set_option maxRecDepth 100000
set_option maxHeartbeats 2000000
/-! a list comprehension whose parts may look at the state that it starts from -/
namespace Ah
open PySem PySem.Spec PyProof.Rows L2
section
variable {X : Cx}
/-- .. the parts' readings are asked for only where the def's own state holds -/
theorem lcI_core {pins : List (Addr × Obj)} {sA : Shared} {σ : L2.St} {HA : Hp} {Q : VK} {el tgt itr : Expr} {fs : List Expr} {scp : Scope} {own : List (Str × Nat)} {pA pB : Pos} {rI : TI} {rG : TG} {rT : TT} {rE : TE} {use : Option (Value → Sem Unit)} {Qf : Value → Shared → Prop}
    (calm : X.calm = true) (nd : X.N.Nodup) (IA : L2.Inv X pins σ HA sA) (dI : PI X tgt itr rI) (bok : BlkOk X.N X.env.scope scp own)
    (dG : ∀ (u : Shared) (G : Hp) (C : Addr) (cl : List (Str × Addr)) (fp : List Addr), L2.Inv X pins σ G u → (∀ b ∈ fp, ∀ x c, X.env.cells.lookup x = some c → c ≠ b) → PG (X.blk u G scp (compEnvC scp cl C X.env) fp) tgt rG)
    (dT : ∀ (u : Shared) (G : Hp) (C : Addr) (cl : List (Str × Addr)) (fp : List Addr), L2.Inv X pins σ G u → (∀ b ∈ fp, ∀ x c, X.env.cells.lookup x = some c → c ≠ b) → PTs (X.blk u G scp (compEnvC scp cl C X.env) fp) fs rT)
    (dE : ∀ (u : Shared) (G : Hp) (C : Addr) (cl : List (Str × Addr)) (fp : List Addr), L2.Inv X pins σ G u → (∀ b ∈ fp, ∀ x c, X.env.cells.lookup x = some c → c ≠ b) → PE (X.blk u G scp (compEnvC scp cl C X.env) fp) el rE) (fold : ∀ x, foldedSetIterable itr X.env x = pure x)
    (rd : tLc rI rG rT rE (own.map (·.2)) σ HA Q)
    (back : ∀ D C u m G, L2.Inv X pins σ G u → Q (.ref D) G → u.heap.Ns C m → FpOk X pins G C → compPost (model X.prog X.w) X.A X.xe use Qf (.ref D) C (.ok .next) u) :
    wpAny (model X.prog X.w) X.A (comprehension (.ListComp el [⟨tgt, itr, fs, 0⟩] scp pA) scp X.env pB (newList []) false (eval itr X.env) use) Qf X.xe sA := by
  have hasC : ∀ z ∈ scp.names, z.2 = .free → ∃ k, X.env.cells.lookup z.1 = some k := fun z hz e => (bok.free z hz e).elim (fun q => IA.ok.has _ (.inl q)) (fun q => IA.ok.has _ (.inr q))
  refine wpAny_comprehension_free (use := use) rfl fold (closure_ok hasC) bok.kind (fun z hz e => (bok.uniq z hz).trans (congrArg some e))
    (thn (dI.run pins sA σ HA _ IA rd) fun v0 u1 r1 => thn r1 fun v1 u2 r2 => ?_)
  obtain ⟨ita, fp, tn, J, H2, ev, I2, T, at2, ok2, q⟩ := r2
  subst ev
  refine wpAny_newObj_type (newEnv_comp ?_) (by show 0 ≤ sizeLine; decide)
  generalize eD : u2.heap.objs.size = D
  have nD : H2 D = none := I2.hok.fresh (Nat.le_of_eq eD)
  obtain ⟨W, ⟨mm, ww⟩, step0⟩ := q D nD
  generalize eu3 : ({ u2 with heap := u2.heap.push { cls := .type "list", data := .seq ([] : List Value).toArray } } : Shared) = u3
  have hu3 : u3.heap = u2.heap.push { cls := .type "list", data := .seq ([] : List Value).toArray } := by rw [← eu3]
  have I3 : L2.Inv X pins σ (upd H2 D (.lst [])) u3 := by
    rw [← eu3]
    refine I2.laid (t' := u2.toks) (fun b o e => Heap.get?_push_of_some _ e) (Nat.le_of_eq eD) ⟨Nat.zero_le _, [], 0, .nil, ?_⟩
    rw [← eD]
    exact Heap.get?_push_size _ rfl
  have lts : ∀ b ∈ fp, b < u2.heap.objs.size := fun b hb => let ⟨_, e, _⟩ := T.obj _ _ at2 b hb; Heap.lt_size e
  have ok3 : ∀ b ∈ fp, FpOk X pins (upd H2 D (.lst [])) b ∧ b < u3.heap.objs.size := fun b hb => by
    have lt := lts b hb
    have nb : b ≠ D := by rw [← eD]; exact Nat.ne_of_lt lt
    exact ⟨⟨(upd_ne nb).trans (ok2 b hb).1, (ok2 b hb).2⟩, by rw [hu3, Heap.size_push]; exact Nat.lt_succ_of_lt lt⟩
  have at3 : tn 0 u3.heap := T.keep _ _ _ at2 fun b _ o e => by rw [hu3]; exact Heap.get?_push_of_some _ e
  have I4 := block_start I3 bok nd ok3
  have hfp3 : ∀ b ∈ fp, ∀ x c, X.env.cells.lookup x = some c → c ≠ b := fun b hb => (ok3 b hb).1.2.2.2.2.1
  have pg := dG u3 (upd H2 D (.lst [])) u3.heap.objs.size (cellsFrom (u3.heap.objs.size + 1) scp.names (cloFrom X.env.cells scp.names [])) fp I3 hfp3
  have pt := dT u3 (upd H2 D (.lst [])) u3.heap.objs.size (cellsFrom (u3.heap.objs.size + 1) scp.names (cloFrom X.env.cells scp.names [])) fp I3 hfp3
  have pe := dE u3 (upd H2 D (.lst [])) u3.heap.objs.size (cellsFrom (u3.heap.objs.size + 1) scp.names (cloFrom X.env.cells scp.names [])) fp I3 hfp3
  show codeAny _ _ (.compStart (.ListComp el [⟨tgt, itr, fs, 0⟩] scp pA) 0 (.ref ita) (.ref D) (compEnvC scp (cellsFrom (u3.heap.objs.size + 1) scp.names (cloFrom X.env.cells scp.names [])) u3.heap.objs.size X.env)) (compPost (model X.prog X.w) X.A X.xe use Qf (.ref D) u3.heap.objs.size) { u3 with heap := pushCells (u3.heap.push { cls := .type "dict", data := .dict #[] }) scp.names }
  have nfp : ∀ b ∈ fp, (upd H2 D (.lst [])) b = none := fun b hb => (ok3 b hb).1.1
  generalize ee : compEnvC scp (cellsFrom (u3.heap.objs.size + 1) scp.names (cloFrom X.env.cells scp.names [])) u3.heap.objs.size X.env = en at I4 pg pt pe ⊢
  have enL : en.locals = u3.heap.objs.size := by subst ee; rfl
  generalize eH3 : upd H2 D (.lst []) = H3 at I3 I4 pg pt pe ww nfp ok3
  generalize eu4 : ({ u3 with heap := pushCells (u3.heap.push { cls := .type "dict", data := .dict #[] }) scp.names } : Shared) = u4 at I4 ⊢
  have at4 : tn 0 u4.heap := T.keep _ _ _ at3 fun b _ o e => by rw [← eu4]; exact pushCells_keeps _ _ _ _ (Heap.get?_push_of_some _ e)
  have fpo : ∀ {τ : L2.St} {G : Hp} {u : Shared}, L2.Inv (X.blk u3 H3 scp en fp) [] τ G u → (∀ b ∈ fp, G b = none) → ∀ b ∈ fp, FpOk (X.blk u3 H3 scp en fp) [] G b := fun {τ G u} J' hn b hb =>
    ⟨hn b hb, (J'.ok.exf b hb).1, J'.ok.exfs b hb, .inl hb, fun x c e => (J'.ok.exf b hb).2 x c e, fun p hp => absurd (show p ∈ ([] : List (Addr × Obj)) ++ [] from hp) (by simp)⟩
  have run : codeAny (model X.prog X.w) X.A (.compLoop (.ListComp el [⟨tgt, itr, fs, 0⟩] scp pA) 0 (.ref ita) (.ref D) en) (compPost (model X.prog X.w) X.A X.xe use Qf (.ref D) u3.heap.objs.size) u4 := by
    refine compLoop_any (fun n u => ∃ i G, L2.Inv (X.blk u3 H3 scp en fp) [] (wipe σ (own.map (·.2))) G u ∧ tn i u.heap ∧ (∀ b ∈ fp, G b = none) ∧ W i n G) ?_ mm ⟨0, H3, I4, at4, nfp, ww⟩
    rintro n u5 ⟨i, H5, I5, at5, n5, w5⟩
    rcases step0 i n H5 w5 with ⟨halt, qq⟩ | ⟨more, Nx, hNx, st⟩
    · refine thnF (T.done (X.blk u3 H3 scp en fp) rfl rfl rfl calm i [] u5 _ H5 (fun _ _ => False) I5 (fpo I5 n5) at5 halt) fun r u6 ⟨er, I6⟩ => ?_
      subst er
      have nC : H5 u3.heap.objs.size = none := by
        have z : H5 en.locals = none := I6.free
        rwa [enL] at z
      have I7 : L2.Inv X pins σ H5 u6 := I3.call' (ch := fp) I6.os I6.base I6.hok I6.bare fun b hb => ⟨(ok3 b hb).1.2.2.2.1, (ok3 b hb).1.2.1, (ok3 b hb).1.2.2.2.2.1, (ok3 b hb).1.2.2.2.2.2⟩
      obtain ⟨m, hn, _⟩ := I6.loc
      have hn : u6.heap.Ns u3.heap.objs.size m := by
        have z : u6.heap.Ns en.locals m := hn
        rwa [enL] at z
      exact back D u3.heap.objs.size u6 m H5 I7 qq hn (I3.fpOk (Nat.le_refl _) nC)
    · refine thnF (T.item (X.blk u3 H3 scp en fp) rfl rfl rfl calm i [] u5 _ H5 (fun _ _ => False) I5 (fpo I5 n5) at5 more) fun r u6 ⟨x0, er, h6⟩ => ?_
      subst er
      refine thnF h6 fun _ u7 ⟨x, H7, I7, r7, y7, at7, n7⟩ => ?_
      refine thnF (pg.run _ u7 _ H7 x x0 _ (I7.pinned (fpo I7 n7) (T.obj _ _ at7)) r7 (st x H7 y7)) fun _ u8 ⟨σ8, H8, I8, e8, q8⟩ => ?_
      refine thnF (pt.run _ u8 σ8 H8 _ I8 q8) fun b u9 ⟨H9, I9, q9⟩ => ?_
      have fin : ∀ {u : Shared} {G : Hp}, L2.Inv (X.blk u3 H3 scp en fp) ([] ++ pinsAt fp u7.heap) σ8 G u → Nx G → ∃ m, m < n ∧ ∃ i G, L2.Inv (X.blk u3 H3 scp en fp) [] (wipe σ (own.map (·.2))) G u ∧ tn i u.heap ∧ (∀ b ∈ fp, G b = none) ∧ W i m G := fun {u G} J' nx => by
        obtain ⟨m2, lt2, w2⟩ := hNx G nx
        have pinned : ∀ b ∈ fp, ∀ o, u7.heap.get? b = some o → u.heap.get? b = some o ∧ G b = none := fun b hb o e =>
          let z := J'.pin (b, o) (List.mem_append_right _ (List.mem_append_right _ (mem_pinsAt hb e)))
          ⟨z.1, z.2.1⟩
        have same : (wipe σ (own.map (·.2))).length = σ8.length := by rw [← e8, wipe_length]
        refine ⟨m2, lt2, i + 1, G, (J'.unpinned (pins := [])).weak same (fun j v e => ?_), T.keep _ _ _ at7 fun b hb o e => (pinned b hb o e).1, fun b hb => ?_, w2⟩
        · rw [← e8] at e
          exact (wipe_some e).1
        · obtain ⟨o, e, _⟩ := T.obj _ _ at7 b hb
          exact (pinned b hb o e).2
      cases b with
      | false =>
        simp only [Bool.false_eq_true, if_false] at q9 ⊢
        exact fin I9 q9
      | true =>
        simp only [if_true] at q9 ⊢
        refine thnF (pe.run _ u9 σ8 H9 _ I9 q9) fun z u10 ⟨yv, H10, I10, r10, acc, hacc, lacc, nx⟩ => ?_
        exact app_ok (X := X.blk u3 H3 scp en fp) I10 hacc lacc r10 fun u11 I11 => fin I11 nx
  exact codeAny_compStart_list run (T.self X.A 0 _ _ _ at4 run)
theorem pe_lcI {el tgt itr : Expr} {fs : List Expr} {scp : Scope} {own : List (Str × Nat)} {pA : Pos} {rI : TI} {rG : TG} {rT : L2.St → TT} {rE : L2.St → TE} (calm : X.calm = true) (nd : X.N.Nodup) (dI : PI X tgt itr rI) (bok : BlkOk X.N X.env.scope scp own)
    (dG : ∀ (pins : List (Addr × Obj)) (σ : L2.St) (u : Shared) (G : Hp) (C : Addr) (cl : List (Str × Addr)) (fp : List Addr), L2.Inv X pins σ G u → (∀ b ∈ fp, ∀ x c, X.env.cells.lookup x = some c → c ≠ b) → PG (X.blk u G scp (compEnvC scp cl C X.env) fp) tgt rG)
    (dT : ∀ (pins : List (Addr × Obj)) (σ : L2.St) (u : Shared) (G : Hp) (C : Addr) (cl : List (Str × Addr)) (fp : List Addr), L2.Inv X pins σ G u → (∀ b ∈ fp, ∀ x c, X.env.cells.lookup x = some c → c ≠ b) → PTs (X.blk u G scp (compEnvC scp cl C X.env) fp) fs (rT σ))
    (dE : ∀ (pins : List (Addr × Obj)) (σ : L2.St) (u : Shared) (G : Hp) (C : Addr) (cl : List (Str × Addr)) (fp : List Addr), L2.Inv X pins σ G u → (∀ b ∈ fp, ∀ x c, X.env.cells.lookup x = some c → c ≠ b) → PE (X.blk u G scp (compEnvC scp cl C X.env) fp) el (rE σ)) (fold : ∀ x, foldedSetIterable itr X.env x = pure x := by intro _; rfl) :
    PE X (.ListComp el [⟨tgt, itr, fs, 0⟩] scp pA) (fun σ H Q => tLc rI rG (rT σ) (rE σ) (own.map (·.2)) σ H Q) := by
  refine ⟨fun pins s σ H Q I h => ?_⟩
  rw [eval_ListComp]
  refine lcI_core calm nd I dI bok (dG pins σ) (dT pins σ) (dE pins σ) fold h fun D C u m G J q hn f => ⟨m, hn, fun h'' sb => ?_⟩
  obtain ⟨_, f1, f2, f3, f4, f5⟩ := f
  exact ⟨.ref D, G, J.turned (t' := u.toks) (fun b o hb e => (sb.2 b hb).trans e) (by assumption) f1 f3 f4 f5, rfl, q⟩
end
end Ah
end
section
set_option Elab.async false
set_option linter.all false
set_option maxRecDepth 100000
set_option maxHeartbeats 2000000
/-! a lambda that is kept: its object tracked -/
namespace Ah
open PySem PySem.Spec PyProof.Rows L2 LamX
section
variable {X : Cx} {pins : List (Addr × Obj)} {σ : L2.St} {H H1 : Hp} {s s1 : Shared}
/-- an object that came behind s is tracked from now on -/
theorem inv_track {a : Addr} {o : HO} (I : L2.Inv X pins σ H s) (J : L2.Inv X pins σ H1 s1) (ha : s.heap.objs.size ≤ a) (hn : H1 a = none) (new : ObjOk X.prog X.w (upd H1 a o) s1.heap a o) : L2.Inv X pins σ (upd H1 a o) s1 := by
  have lt : ∀ {b : Addr} {u : Obj}, s.heap.get? b = some u → b ≠ a := fun {b u} e z => by
    rw [z] at e
    exact absurd (Nat.lt_of_lt_of_le (Heap.lt_size e) ha) (Nat.lt_irrefl _)
  have lt0 : ∀ {b : Addr} {u : Obj}, X.s_0.heap.get? b = some u → b ≠ a := fun {b u} e z => by
    rw [z] at e
    exact absurd (Nat.lt_of_lt_of_le (Nat.lt_of_lt_of_le (Heap.lt_size e) I.sz) ha) (Nat.lt_irrefl _)
  refine ⟨J.ok, J.os, J.bare, ⟨J.base.keep, J.base.slot, fun b u e n x => ?_, J.base.there, fun b xs e => ?_, fun b u v e => ?_, fun b ps e => ?_⟩, J.loc, J.cell, ?_, fun x c e => ?_, fun p hp => ?_, fun b u e => ?_, J.len⟩
  · rw [upd_ne (lt0 e)]
    exact J.base.free b u e n x
  · have q := J.base.tups b xs e
    rw [upd_ne (ne_of_none q hn)]
    exact q
  · have q := J.base.frzs b u v e
    rw [upd_ne (ne_of_none q hn)]
    exact q
  · obtain ⟨more, q⟩ := J.base.tbls b ps e
    exact ⟨more, by rw [upd_ne (ne_of_none q hn)]; exact q⟩
  · rw [upd_ne (Nat.ne_of_lt (Nat.lt_of_lt_of_le I.lt ha))]
    exact J.free
  · obtain ⟨v, q⟩ := I.cell x c e
    obtain ⟨o', ho, _⟩ := q
    rw [upd_ne (lt ho)]
    exact J.freeC x c e
  · obtain ⟨q1, q2, q3⟩ := J.pin p hp
    refine ⟨q1, ?_, q3⟩
    rw [upd_ne (lt (I.pin p hp).1)]
    exact q2
  · by_cases hb : b = a
    · rw [hb, upd_same] at e
      cases e
      rw [hb]
      exact new
    · rw [upd_ne hb] at e
      exact (J.hok b u e).stay (fun _ _ _ q => q) (fun c q => by rw [upd_ne (ne_of_none q hn)]; exact q) fun c xs q => by rw [upd_ne (ne_of_none q hn)]; exact q
end
def dvV : Option Addr → Value
  | none => .none
  | some t => .ref t
def LamO (q : Str) (params : Arguments) (body : Expr) (scope : Scope) (clo : List (Str × Addr)) (f c' : Addr) (dv : Option Addr) : HO := .ext fun h => ∃ pm ctv, h.get? f = some (lamOb q params body scope clo pm (.ref c') ctv (dvV dv))
/-- the lambda at f; tup: whether it bears a default -/
def LamAt (H : Hp) (q : Str) (params : Arguments) (body : Expr) (scope : Scope) (clo : List (Str × Addr)) (tup : Bool) (f : Addr) : Prop :=
  ∃ (c' : Addr) (dv : Option Addr), H f = some (LamO q params body scope clo f c' dv) ∧ H c' = some (CodeO c' q) ∧ tup = dv.isSome ∧ ∀ t, dv = some t → ∃ k, H t = some (.tup [.int k])
theorem lamO_ne {q : Str} {params : Arguments} {body : Expr} {scope : Scope} {clo : List (Str × Addr)} {f c' : Addr} {dv : Option Addr} (ps : Array Value) : LamO q params body scope clo f c' dv ≠ .tbl ps := fun z => by
  unfold LamO at z
  cases z
theorem LamAt.keep {H H' : Hp} {q : Str} {params : Arguments} {body : Expr} {scope : Scope} {clo : List (Str × Addr)} {tup : Bool} {f : Addr} (h : LamAt H q params body scope clo tup f) (k : ∀ b o, H b = some o → (∀ ps, o ≠ .tbl ps) → (∀ xs, o ≠ .lst xs) → H' b = some o) : LamAt H' q params body scope clo tup f := by
  obtain ⟨c', dv, h1, h2, h3, h4⟩ := h
  refine ⟨c', dv, k _ _ h1 lamO_ne (fun xs z => by unfold LamO at z; cases z), k _ _ h2 codeO_ne (fun xs z => by unfold CodeO at z; cases z), h3, fun t e => ?_⟩
  obtain ⟨kk, e2⟩ := h4 t e
  exact ⟨kk, k _ _ e2 (fun _ z => nomatch z) (fun _ z => nomatch z)⟩
section
variable {X : Cx} {pins : List (Addr × Obj)} {σ : L2.St} {H : Hp} {s : Shared}
/-- behind the default: the function itself -/
theorem lam_core {T : List (Addr × Str)} {c P : Addr} {params : Arguments} {body : Expr} {scope : Scope} {pos : Pos} {n : Nat} {E : Value → Shared → Prop} {Q : Value → Shared → Prop} {dv : Option Addr} (I : L2.Inv X pins σ H s) (TB : LamX.TabB X.base X.mg c P) (hcode : X.env.code = .ref c)
    (hm : (P, X.env.qual ++ "<lambda>") ∈ T) (hu : ∀ p ∈ T, p.1 = P → p.2 = X.env.qual ++ "<lambda>") (hT : LamX.Tabs T H) (hfree : ∀ y ∈ scope.names, y.2 = .free → ∃ c, X.env.cells.lookup y.1 = some c)
    (h : ∀ (f c' : Addr) (H1 : Hp) (s' : Shared), L2.Inv X pins σ H1 s' → (∀ b o, H b = some o → b ≠ P → H1 b = some o) → LamX.Tabs T H1 → H f = none → H1 f = some (LamO (X.env.qual ++ "<lambda>") params body scope (cloFrom X.env.cells scope.names []) f c' dv) → H1 c' = some (LamX.CodeO c' (X.env.qual ++ "<lambda>")) → Q (.ref f) s') :
    wpAny (model X.prog X.w) X.A (makeTail "<lambda>" (X.env.qual ++ "<lambda>") params (.expr body) scope X.env (dvV dv) .none none pos n) Q E s := by
  obtain ⟨ps, hP, ht, ha⟩ := hT _ hm
  refine lamd_tail (closure_ok hfree) fun ctv h1 k1 l1 => ?_
  have bP : s.heap.BuiltinsAt X.mg P := TB.bm.keeps I.bk
  have hP' : s.heap.get? P = some { cls := .none, data := .fields ps } := I.hok P _ hP
  obtain ⟨bm, ob, hbm, hne0, hneG, hneP, hbo, hcls, hdict, hdata⟩ := bP
  have hG := (I.mod.glob.keeps I.bk).keeps k1
  have hC := (TB.code.keeps I.bk).keeps k1
  rw [I.ok.glob]
  have fin : ∀ {c' : Addr} {H2 : Hp} {h2 : Heap} {tk : Nat} {pm : Value}, L2.Inv X pins σ H2 { s with heap := h2, toks := tk } → s.heap.objs.size ≤ h2.objs.size → H2 c' = some (LamX.CodeO c' (X.env.qual ++ "<lambda>")) → (∀ b o, H b = some o → b ≠ P → H2 b = some o) → LamX.Tabs T H2 →
      Q (.ref h2.objs.size) { s with heap := h2.push (lamOb (X.env.qual ++ "<lambda>") params body scope (cloFrom X.env.cells scope.names []) pm (.ref c') ctv (dvV dv)), toks := tk } := fun {c' H2 h2 tk pm} J hs hco hE hTb => by
    have nf : H2 h2.objs.size = none := J.hok.fresh (Nat.le_refl _)
    have new : ObjOk X.prog X.w (upd H2 h2.objs.size (LamO (X.env.qual ++ "<lambda>") params body scope (cloFrom X.env.cells scope.names []) h2.objs.size c' dv)) (h2.push (lamOb (X.env.qual ++ "<lambda>") params body scope (cloFrom X.env.cells scope.names []) pm (.ref c') ctv (dvV dv))) h2.objs.size
        (LamO (X.env.qual ++ "<lambda>") params body scope (cloFrom X.env.cells scope.names []) h2.objs.size c' dv) := ⟨⟨pm, ctv, Heap.get?_push_size _ rfl⟩, ⟨_, Heap.get?_push_size _ rfl⟩, fun g1 g2 ⟨p1, p2, e⟩ k => ⟨p1, p2, k _ e⟩⟩
    have J2 := J.laid (h' := h2.push (lamOb (X.env.qual ++ "<lambda>") params body scope (cloFrom X.env.cells scope.names []) pm (.ref c') ctv (dvV dv))) (t' := tk) (fun b o e => Heap.get?_push_of_some _ e) (Nat.le_refl _) new
    refine h h2.objs.size c' _ _ J2 (fun b o e n => by rw [upd_ne (ne_of_none (hE b o e n) nf)]; exact hE b o e n) (hTb.ext fun b o e => by rw [upd_ne (ne_of_none e nf)]; exact e) (I.hok.fresh hs) upd_same ?_
    rw [upd_ne (ne_of_none hco nf)]
    exact hco
  cases hc : codeAmong pos ps.toList with
  | none =>
    refine PySem.wpAny_functionCodeX hcode (hC.code (k1 _ _ hP') ht) (hC.tab (k1 _ _ hP')) hc fun c' h' tk hx hge hlt _ hrec htb _ => ?_
    obtain ⟨c2, oc, vs, t, e2, hoc, hd, hv⟩ := hrec
    cases e2
    have kx : ∀ b o, b ≠ P → s.heap.get? b = some o → h'.get? b = some o := fun b o hb e => hx b o hb (k1 b o e)
    have hG' := hG.extBut hx TB.gP
    refine wpAny_builtinsFor hG' hbm hne0 (kx _ _ hneP hbo) hcls hdict hdata ?_
    refine wpAny_nsGet hG' ?_
    have l1 : s.heap.objs.size ≤ h1.objs.size := l1
    have hcs : s.heap.objs.size ≤ c' := Nat.le_trans l1 hge
    have hsz : s.heap.objs.size ≤ h'.objs.size := Nat.le_of_lt (Nat.lt_of_le_of_lt hcs hlt)
    have nC : H c' = none := I.hok.fresh hcs
    have I1 := LamX.inv_table (q := X.env.qual ++ "<lambda>") (t' := tk) (more := #[rawInt pos.line, rawInt pos.col, .ref c']) (h' := h') I hP kx htb.2 hcs ⟨oc, vs, t, hoc, hd, hv⟩
    have hE : LamX.ExtN H (L2.upd (L2.upd H P (.tbl (ps ++ #[rawInt pos.line, rawInt pos.col, .ref c']))) c' (LamX.CodeO c' (X.env.qual ++ "<lambda>"))) := fun b o e n => by
      rw [upd_ne (ne_of_none e nC), upd_ne (fun z => n ps (Option.some.inj (e.symm.trans (by rw [z]; exact hP))))]
      exact e
    have eL : (ps ++ #[rawInt pos.line, rawInt pos.col, .ref c']).toList = ps.toList ++ [rawInt pos.line, rawInt pos.col, .ref c'] := by simp
    refine fin I1 hsz upd_same (fun b o e n => by rw [upd_ne (ne_of_none e nC), upd_ne n]; exact e) (fun p hp => ?_)
    by_cases hb : p.1 = P
    · rw [hu p hp hb, hb]
      refine ⟨_, by rw [upd_ne (ne_of_none hP nC), upd_same], by rw [eL]; exact PySem.TriplesOk_snoc _ _ _ _ ht, fun p' cv hcv => ?_⟩
      rw [eL] at hcv
      rcases LamX.among_app _ ht hcv with z | z
      · obtain ⟨c0, e1, e2⟩ := ha p' cv z
        exact ⟨c0, e1, hE _ _ e2 LamX.codeO_ne⟩
      · exact ⟨c', z, upd_same⟩
    · obtain ⟨ps', a1, a2, a3⟩ := hT p hp
      refine ⟨ps', by rw [upd_ne (ne_of_none a1 nC), upd_ne hb]; exact a1, a2, fun p' cv hcv => ?_⟩
      obtain ⟨c0, e1, e2⟩ := a3 p' cv hcv
      exact ⟨c0, e1, hE _ _ e2 LamX.codeO_ne⟩
  | some cv =>
    obtain ⟨c', e, hco⟩ := ha pos cv hc
    subst e
    refine wpAny_functionCode_hit hcode (hC.code (k1 _ _ hP') ht) hc ?_
    refine wpAny_builtinsFor hG hbm hne0 (k1 _ _ hbo) hcls hdict hdata ?_
    refine wpAny_nsGet hG ?_
    exact fin (I.kept (h' := h1) (t' := s.toks) k1) l1 hco (fun _ _ e _ => e) hT
/-- what a kept lambda's making asks -/
def tLamK (P : Addr) (q : Str) (params : Arguments) (body : Expr) (scope : Scope) (cells : List (Str × Addr)) (tup : Bool) : TE := fun _ H Q => TabS H P q ∧ ∀ (H1 : Hp) (f : Addr), (∀ b o, H b = some o → b ≠ P → H1 b = some o) → TabS H1 P q → H f = none → LamAt H1 q params body scope (cloFrom cells scope.names []) tup f → Q (.ref f) H1
theorem pe_lamK0 {c P : Addr} {params : Arguments} {body : Expr} {scope : Scope} {pos : Pos} (TB : LamX.TabB X.base X.mg c P) (hcode : X.env.code = .ref c) 
    (hcell : ∀ y ∈ scope.names, y.2 = .free → X.env.scope.names.lookup y.1 = some .cell ∨ X.env.scope.names.lookup y.1 = some .free) (hdef : defaultsOf params X.env = ([], [])) : PE X (.Lambda params body scope pos) (tLamK P (X.env.qual ++ "<lambda>") params body scope X.env.cells false) := by
  refine ⟨fun pins s σ H Q I h => ?_⟩
  obtain ⟨hT0, h⟩ := h
  have hT : LamX.Tabs [(P, X.env.qual ++ "<lambda>")] H := fun p hp => by
    rw [List.mem_singleton.mp hp]
    exact hT0
  have hm : (P, X.env.qual ++ "<lambda>") ∈ [(P, X.env.qual ++ "<lambda>")] := List.mem_singleton.mpr rfl
  have hu : ∀ p ∈ [(P, X.env.qual ++ "<lambda>")], p.1 = P → p.2 = X.env.qual ++ "<lambda>" := fun p hp _ => by rw [List.mem_singleton.mp hp]
  have hfree : ∀ y ∈ scope.names, y.2 = .free → ∃ c, X.env.cells.lookup y.1 = some c := fun y hy e => (hcell y hy e).elim (fun k => I.ok.has _ (.inl k)) (fun k => I.ok.has _ (.inr k))
  rw [arm_eval_Lambda, hdef]
  show wpAny _ _ (do let dv ← evalAll []; let kdv ← holding dv (evalAllOpt []); makeFunction "<lambda>" (X.env.qual ++ "<lambda>") params (.expr body) scope X.env dv kdv [] pos pos.line) _ _ s
  refine wpAny_bind (wpAny_pure ?_)
  refine wpAny_bind (wpAny_holding (wpAny_pure ?_))
  rw [makeFunction_eq]
  simp only [List.zip_nil_right, List.filterMap_nil, List.isEmpty_nil, if_true, pure_bind]
  refine lam_core (dv := none) I TB hcode hm hu hT hfree fun f c' H1 s' I1 eN T1 nf hf hc => ⟨.ref f, H1, I1, rfl, h H1 f eN (T1 _ hm) nf ⟨c', none, hf, hc, rfl, fun t e => nomatch e⟩⟩
theorem pe_lamKD {c P : Addr} {params : Arguments} {body : Expr} {scope : Scope} {pos p0 : Pos} {k : Int} {j : Nat} (TB : LamX.TabB X.base X.mg c P) (hcode : X.env.code = .ref c) 
    (hcell : ∀ y ∈ scope.names, y.2 = .free → X.env.scope.names.lookup y.1 = some .cell ∨ X.env.scope.names.lookup y.1 = some .free) (hdef : defaultsOf params X.env = ([eval (.Constant (.int k) j p0) X.env], [])) : PE X (.Lambda params body scope pos) (tLamK P (X.env.qual ++ "<lambda>") params body scope X.env.cells true) := by
  refine ⟨fun pins s σ H Q I h => ?_⟩
  obtain ⟨hT0, h⟩ := h
  have hT : LamX.Tabs [(P, X.env.qual ++ "<lambda>")] H := fun p hp => by
    rw [List.mem_singleton.mp hp]
    exact hT0
  have hm : (P, X.env.qual ++ "<lambda>") ∈ [(P, X.env.qual ++ "<lambda>")] := List.mem_singleton.mpr rfl
  have hu : ∀ p ∈ [(P, X.env.qual ++ "<lambda>")], p.1 = P → p.2 = X.env.qual ++ "<lambda>" := fun p hp _ => by rw [List.mem_singleton.mp hp]
  have hfree : ∀ y ∈ scope.names, y.2 = .free → ∃ c, X.env.cells.lookup y.1 = some c := fun y hy e => (hcell y hy e).elim (fun k => I.ok.has _ (.inl k)) (fun k => I.ok.has _ (.inr k))
  rw [arm_eval_Lambda, hdef]
  show wpAny _ _ (do let dv ← evalAll [eval (.Constant (.int k) j p0) X.env]; let kdv ← holding dv (evalAllOpt []); makeFunction "<lambda>" (X.env.qual ++ "<lambda>") params (.expr body) scope X.env dv kdv [] pos pos.line) _ _ s
  refine wpAny_bind (wpAny_bind (wpAny_Constant_int (wpAny_bind (wpAny_holding (wpAny_pure (wpAny_pure ?_))))))
  refine wpAny_bind (wpAny_holding (wpAny_pure ?_))
  rw [makeFunction_eq]
  simp only [List.zip_nil_right, List.filterMap_nil, List.isEmpty_nil, List.isEmpty_cons, Bool.false_eq_true, if_false, if_true, pure_bind]
  refine wpAny_bind (wpAny_newTextTuple ?_)
  have nt : H s.heap.objs.size = none := I.hok.fresh (Nat.le_refl _)
  have It : L2.Inv X pins σ (upd H s.heap.objs.size (.tup [.int k])) { s with heap := s.heap.push { cls := .type "tuple", data := .seq [Value.int k s.toks].toArray }, toks := s.toks + 1 } :=
    I.laid (fun b o e => Heap.get?_push_of_some _ e) (Nat.le_refl _) ⟨by show (1 : Nat) ≤ sizeLine; decide, [Value.int k s.toks], .cons ⟨s.toks, rfl⟩ .nil, ⟨_, Heap.get?_push_size _ rfl, rfl, ⟨_, rfl⟩⟩⟩
  have TT2 : LamX.Tabs [(P, X.env.qual ++ "<lambda>")] (upd H s.heap.objs.size (.tup [.int k])) := hT.ext fun b o e => by rw [upd_ne (ne_of_none e nt)]; exact e
  refine lam_core (dv := some s.heap.objs.size) It TB hcode hm hu TT2 hfree fun f c' H1 s' I1 eN T1 nf hf hc => ⟨.ref f, H1, I1, rfl, h H1 f (fun b o e n => eN b o (by rw [upd_ne (ne_of_none e nt)]; exact e) n) (T1 _ hm) ?_ ⟨c', some s.heap.objs.size, hf, hc, rfl, fun t e => ⟨k, ?_⟩⟩⟩
  · cases e : H f with
    | none => rfl
    | some o =>
      rw [upd_ne (ne_of_none e nt), e] at nf
      cases nf
  · cases e
    refine eN _ _ upd_same fun z => ?_
    obtain ⟨ps, hP, _⟩ := hT0
    rw [← z, nt] at hP
    cases hP
end
end Ah
end
section
set_option Elab.async false
set_option linter.all false
set_option maxRecDepth 100000
set_option maxHeartbeats 2000000
/-! a kept lambda handed to a def that calls it -/
namespace Ah
open PySem PySem.Spec PyProof.Rows L2 LamX
section
variable {X : Cx} {pins : List (Addr × Obj)} {σ : L2.St} {G HZ : Hp} {u s1 : Shared}
theorem lam_startT {A : Around} {outer : List Env} {E : XK} {scope : Scope} {f c' : Addr} {h₁ : Heap} {tk : Nat} {m : Str → Option Value} (J : L2.Inv X pins σ G u) (L : LamSD X.N X.env.scope scope) (e0 : Env0 X.prog X.w X.K X.mg X.base A outer s1 HZ) (hd : A.handled = none)
    (cT : ∀ x c v, X.env.cells.lookup x = some c → u.heap.IsCell c v → s1.heap.IsCell c v ∧ HZ c = none) (hns : h₁.Ns s1.heap.objs.size m) (kp : ∀ b o, s1.heap.get? b = some o → h₁.get? b = some o) :
    L2.Inv (lamCx X A outer s1 HZ E scope f c') [] σ HZ { s1 with heap := h₁, toks := tk } := by
  have hfree := L.has J.ok
  have cm : ∀ {y c}, (cloFrom X.env.cells scope.names []).lookup y = some c → X.env.cells.lookup y = some c := fun {y c} e => by
    rcases cloFrom_mem (PySem.mem_of_lookup e) with hm | ⟨h1, h2⟩
    · cases hm
    · obtain ⟨c1, hc⟩ := hfree _ h1 rfl
      have hc : X.env.cells.lookup y = some c1 := hc
      rw [hc] at h2
      rw [h2]
      exact hc
  have look : ∀ {y}, scope.names.lookup y = some .free → ∃ c, (cloFrom X.env.cells scope.names []).lookup y = some c := fun {y} hl =>
    mem_lookup (cloFrom_has (cells := X.env.cells) (acc := []) (PySem.mem_of_lookup hl))
  have cellK : ∀ {y : Str} {c : Addr} {v : Option Value}, X.env.cells.lookup y = some c → u.heap.IsCell c v → h₁.IsCell c v := fun {y c v} n z => by
    obtain ⟨o, ho, hdd⟩ := (cT y c v n z).1
    exact ⟨o, kp _ _ ho, hdd⟩
  have noA : ∀ b : Addr, b ∉ (lamCx X A outer s1 HZ E scope f c').ex := fun b z => absurd (show b ∈ ([] : List Addr) from z) (by simp)
  refine ⟨⟨e0.mod, L.kind, rfl, rfl, Nat.le_refl _, fun y z c e1 e2 => J.ok.inj y z c (cm e1) (cm e2), fun y hy => ?_, fun y c z _ => absurd (show false = true from z) Bool.false_ne_true, fun _ => hd, Around.frames_deeper e0.frames, .inr ⟨rfl, rfl⟩, fun b z => absurd z (noA b), e0.bs, e0.bsz, fun b _ _ => noA b,
      fun b z => absurd z (noA b), e0.funs, e0.frf⟩,
    rfl, e0.bare, Un.kept kp, ⟨_, hns, fun i y v e1 e2 e3 => ?_⟩, fun y c e => ?_, e0.hok.fresh (Nat.le_refl _), fun y c e => ?_, fun q hq => absurd (show q ∈ ([] : List (Addr × Obj)) ++ [] from hq) (by simp), e0.hok.kept kp, J.len⟩
  · have hy : scope.names.lookup y = some .cell ∨ scope.names.lookup y = some .free := hy
    rcases hy with hy | hy
    · exact absurd rfl (L.own _ (PySem.mem_of_lookup hy))
    · exact look hy
  · have e3 : Vis scope y := e3
    rcases e3 with k | k | k
    · exact absurd (List.mem_of_getElem? (show X.N[i]? = some y from e1)) (L.loc _ (PySem.mem_of_lookup k) rfl)
    · exact absurd rfl (L.own _ (PySem.mem_of_lookup k))
    · obtain ⟨m, hn, hl⟩ := J.loc
      have hvis : Vis X.env.scope y := (L.free _ (PySem.mem_of_lookup k) rfl).elim (fun k => .inr (.inl k)) (fun k => .inr (.inr k))
      obtain ⟨w', r, q⟩ := hl i y v e1 e2 hvis
      obtain ⟨c2, h2⟩ := look k
      refine ⟨w', r, .inr ⟨.inr k, c2, h2, ?_⟩⟩
      have c1 := cm h2
      rcases q with ⟨k', _⟩ | ⟨_, c3, e', z⟩
      · have k' : X.env.scope.names.lookup y = some .local := k'
        rcases L.free _ (PySem.mem_of_lookup k) rfl with k2 | k2 <;> rw [show X.env.scope.names.lookup y = _ from k2] at k' <;> cases k'
      · rw [c1] at e'
        cases e'
        exact cellK c1 z
  · obtain ⟨w', z⟩ := J.cell y c (cm e)
    exact ⟨w', cellK (cm e) z⟩
  · obtain ⟨v, z⟩ := J.cell y c (cm e)
    exact (cT y c v (cm e) z).2
/-- how a lambda of such a form takes no arguments -/
structure LamB (params : Arguments) (body : Expr) (scope : Scope) (tup : Bool) : Prop where
  b0 : tup = false → ∀ (q : Str) (cl : List (Str × Addr)) (pm cv ctv : Value), bindArgs (lamFd q params body scope cl pm cv ctv .none) ⟨[], []⟩ = pure []
  bD : tup = true → ∃ n, scope.names.lookup n = some .local ∧ ∀ (q : Str) (cl : List (Str × Addr)) (pm cv ctv : Value) (t : Addr), ∃ kk : Option (Array Value) → Sem (List (Str × Value)), bindArgs (lamFd q params body scope cl pm cv ctv (.ref t)) ⟨[], []⟩ = seqItems? (.ref t) >>= kk ∧ ∀ v, kk (some [v].toArray) = pure [(n, v)]
theorem LamB.binds {params : Arguments} {body : Expr} {scope : Scope} {tup : Bool} (b : LamB params body scope tup) {P : Program} {w : World} {H : Hp} {s : Shared} (hok : HOk P w H s.heap) {dv : Option Addr} (e : tup = dv.isSome) (ht : ∀ t, dv = some t → ∃ k, H t = some (.tup [.int k])) (q : Str) (cl : List (Str × Addr)) (pm cv ctv : Value) :
    ∃ binds, BindsTo s (lamFd q params body scope cl pm cv ctv (dvV dv)) ⟨[], []⟩ binds ∧ ∀ y ∈ binds, scope.names.lookup y.1 = some .local := by
  cases dv with
  | none => exact ⟨[], .of_eq (b.b0 e q cl pm cv ctv), fun y hy => nomatch hy⟩
  | some t =>
    obtain ⟨n, hn, hb⟩ := b.bD e
    obtain ⟨kk, e1, e2⟩ := hb q cl pm cv ctv t
    obtain ⟨k, et⟩ := ht t rfl
    obtain ⟨_, its, rv, ob, eo, hc, m, hdt⟩ := hok t _ et
    cases rv with
    | @cons _ u1 _ _ r1 r2 =>
      cases r2
      refine ⟨[(n, u1)], ?_, fun y hy => ?_⟩
      · intro M A E Q q2
        show wpAny M A (bindArgs (lamFd q params body scope cl pm cv ctv (.ref t)) ⟨[], []⟩) Q E s
        rw [e1]
        refine wpAny_bind (wpAny_seqItems eo hdt ?_)
        rw [e2]
        exact wpAny_pure q2
      · rw [List.mem_singleton.mp hy]
        exact hn
/-- x(), in the def that got the kept lambda -/
theorem pe_actT {CXg : CXT} {Eg : XK} {Ng : List Str} {qg : Str} {sg : Scope} {g f : Addr} {cdg : Value} {params : Arguments} {body : Expr} {scope : Scope} {tup : Bool} {k i : Nat} {a : Str} {pn : List (Addr × Obj)} {xe : Value → Shared → Prop} {W : WX} {E : XK} {tb : TE} {p1 p2 : Pos} {σ0 : L2.St} {s8 : Shared} {H8 : Hp}
    (J : L2.Inv X pins σ G u) (L : LamSD X.N X.env.scope scope) (hbind : LamB params body scope tup)
    (cT : ∀ x c v, X.env.cells.lookup x = some c → u.heap.IsCell c v → s8.heap.IsCell c v ∧ H8 c = none)
    (tk : Takes ((cxOf CXg X.prog X.w X.K X.mg X.base Ng qg sg g cdg X.A X.stack s8 H8 Eg).tr pn xe) W) (hW : ∀ cls d H', E cls d H' → W cls d σ0 H') (hr : Room (k + 1) (X.A.deeper (envOfC qg sg s8.heap.objs.size g cdg)))
    (hbody : ∀ (A : Around) (outer : List Env) (s : Shared) (H : Hp) (c' : Addr), Room k (A.deeper (lamEnv X scope s.heap.objs.size f c')) → PE (lamCx X A outer s H E scope f c') body tb)
    (hN : Ng[i]? = some a) (hv : Vis sg a) (hd : (a == ("__debug__" : Str)) = false) (hcd : (a == ("__classdict__" : Str)) = false) :
    PE ((cxOf CXg X.prog X.w X.K X.mg X.base Ng qg sg g cdg X.A X.stack s8 H8 Eg).tr pn xe) (.Call (.Name a p1) [] [] p2)
      (fun σZ HZ Q => σZ = σ0 ∧ σZ[i]? = some (some (.ref f)) ∧ LamAt HZ (X.env.qual ++ "<lambda>") params body scope (cloFrom X.env.cells scope.names []) tup f ∧ tb σ HZ Q) := by
  refine ⟨fun pinsZ sZ σZ HZ Q IZ h => ?_⟩
  obtain ⟨e0, hs, hc, ht⟩ := h
  subst e0
  refine wpAny_Call_Name_kw (thn ((pe_var (pos := p1) (i := i) hN hv hd hcd).run pinsZ sZ σZ HZ (fun v H1 => v = .ref f ∧ H1 = HZ) IZ ⟨.ref f, hs, rfl, rfl⟩) fun u' s1 ⟨v, H1, I1, r1, q1⟩ => ?_)
  obtain ⟨ev, eH⟩ := q1
  subst ev
  rw [eH] at I1
  obtain rfl : u' = Value.ref f := r1
  obtain ⟨c', dv, hf, hco, htup, hdt⟩ := hc
  obtain ⟨⟨pm, ctv, of1⟩, _, _⟩ := I1.hok f _ hf
  obtain ⟨⟨oc, vs, t, hoc, hdc, hvc⟩, _, _⟩ := I1.hok c' _ hco
  obtain ⟨binds, hbd, hloc⟩ := hbind.binds I1.hok htup hdt (X.env.qual ++ "<lambda>") (cloFrom X.env.cells scope.names []) pm (.ref c') ctv
  refine PySem.W.callWith_F0 ⟨_, _, _, _, of1⟩ ?_
  have cT1 : ∀ x c v, X.env.cells.lookup x = some c → u.heap.IsCell c v → s1.heap.IsCell c v ∧ HZ c = none := fun x c v hx hz => by
    obtain ⟨⟨o, ho, hdo⟩, n8⟩ := cT x c v hx hz
    have un : Un (frs X.stack) [] H8 HZ s8.heap s1.heap := I1.base
    obtain ⟨sl, q⟩ := un.any ho n8 (by simp)
    exact ⟨⟨_, q, hdo⟩, un.free c o ho n8 (by simp)⟩
  have rc : codeAny (model X.prog X.w) (X.A.deeper (envOfC qg sg s8.heap.objs.size g cdg)) (.call (.ref f) ⟨[], []⟩) (CR (L2.CX X.prog X.w) (envOfC qg sg s8.heap.objs.size g cdg :: X.stack) X.prog X.w HZ s1 Q E) s1 := by
    refine PySem.W.kla_callFunE hr.depth of1 rfl L.co L.gen rfl ⟨c', oc, vs, t, rfl, hoc, hdc, hvc⟩ ?_
    refine hbd _ _ _ _ (wpAny_newFunctionEnv L.own hloc (fun h₁ hns hsb => ⟨I1.nolimit.fresh _ hsb, ?_⟩) L.kind)
    show codeAny _ _ (.expr body (lamEnv X scope s1.heap.objs.size f c')) _ _
    have kp : ∀ b o, s1.heap.get? b = some o → h₁.get? b = some o := fun b o e => hsb.extBut b o (Nat.ne_of_lt (Heap.lt_size e)) (Heap.get?_push_of_some _ e)
    have J2 : L2.Inv (lamCx X (X.A.deeper (envOfC qg sg s8.heap.objs.size g cdg)) (envOfC qg sg s8.heap.objs.size g cdg :: X.stack) s1 HZ E scope f c') [] σ HZ { s1 with heap := h₁, toks := s1.toks + binds.length } :=
      lam_startT J L I1.env0 hr.hd cT1 hns kp
    refine PySem.W.kla_codeExpr (wpAny_mono ((hbody _ _ s1 HZ c' (hr.deeper _)).run [] _ _ HZ Q J2 ht) (fun v s' hq => ?_) fun e s' hq => hq)
    obtain ⟨w', H', J', rv, q⟩ := hq
    exact ⟨w', H', J'.os, J'.bare, J'.base, J'.hok, rv, q⟩
  refine wpAny_call (codeAny_mono rc fun r s' hq => ?_)
  cases r with
  | error e => exact tk e s' (XE.of_call I1 (fun cls d H' h => hW cls d H' h) hq)
  | ok fl =>
    cases fl with
    | ret u => exact I1.after hq
    | next => exact False.elim hq
    | brk => exact False.elim hq
    | cont => exact False.elim hq
end
/-- the def that calls what it got; D: what it leaves as it is -/
def GivesP (P : Program) (w : World) (K : PySem.W.Frag) (mg : Str → Option Value) (base : Heap) (Ng : List Str) (x : Str) (sg : Scope) (g : Addr) (cdg : Value) (bg : List Stmt) (a : Str) (TT : (XK → Hp → VK → Prop) → Hp → VK → Prop) : Prop :=
  ∀ (A : Around) (stack : List Env) (f : Addr) (s : Shared) (H : Hp) (Q : VK) (tl : XK → Hp → VK → Prop) (D : Hp → Prop), (∀ H1 H2, Kept [] H1 H2 → D H1 → D H2) →
    (∀ (W : WX) (pn : List (Addr × Obj)) (xe : Value → Shared → Prop) (E : XK) (p1 p2 : Pos) (σ0 : L2.St), Takes ((cxOf C8.CX0 P w K mg base Ng x sg g cdg A stack s H C8.E0).tr pn xe) W → (∀ cls d H', E cls d H' → W cls d σ0 H') →
      PE ((cxOf C8.CX0 P w K mg base Ng x sg g cdg A stack s H C8.E0).tr pn xe) (.Call (.Name a p1) [] [] p2) (fun σZ HZ Q => σZ = σ0 ∧ σZ[0]? = some (some (.ref f)) ∧ D HZ ∧ tl E HZ Q)) →
    D H → TT tl H Q →
    ∃ t, PSs (cxOf C8.CX0 P w K mg base Ng x sg g cdg A stack s H C8.E0).nox bg t ∧ t { nx := fun _ H' => Q .non H', rt := Q } (L2.start Ng [.ref f]) H
/-- a lambda that may be handed over -/
structure LamE where
  params : Arguments
  body : Expr
  scope : Scope
  tup : Bool
  t : XK → TE
structure LamOk (X : Cx) (k : Nat) (d : LamE) : Prop where
  sd : LamSD X.N X.env.scope d.scope
  b : LamB d.params d.body d.scope d.tup
  body : ∀ (A : Around) (outer : List Env) (s : Shared) (H : Hp) (E : XK) (f c' : Addr), Room k (A.deeper (lamEnv X d.scope s.heap.objs.size f c')) → PE (lamCx X A outer s H E d.scope f c') d.body (d.t E)
/-- x(e), e telling one of the lambdas; the reading looks at the slots where they were made -/
def tWordL (Ls : List LamE) (q : Str) (cells : List (Str × Addr)) (TT : (XK → Hp → VK → Prop) → Hp → VK → Prop) (σ : L2.St) (te : TE) : TE := fun σ8 H8 Q => tCons te tNil σ8 H8 fun vs H9 => ∃ (f : Addr) (d : LamE), vs = [.ref f] ∧ d ∈ Ls ∧ LamAt H9 q d.params d.body d.scope (cloFrom cells d.scope.names []) d.tup f ∧ TT (fun E H' Q' => d.t E σ H' Q') H9 Q
section
variable {X : Cx}
theorem word_run {TT : (XK → Hp → VK → Prop) → Hp → VK → Prop} {x a : Str} {g : Addr} {k : Nat} {pg : Arguments} {bg : List Stmt} {sg : Scope} {dV kV doc pm cdv ct oc : Value} {an od : Option Addr} {osl : Array (Option Value)} {Ng : List Str} {Ls : List LamE}
    (lk : X.K.lookup g = some ⟨oc, od, .func (PySem.W.fnOf x x pg bg sg dV kV doc pm an cdv ct), osl⟩) (hcg : PySem.W.codeIn X.K cdv x = true) (hb : L2.Binds X.K (PySem.W.fnOf x x pg bg sg dV kV doc pm an cdv ct) [a] []) (Sg : FnScope Ng [a] sg) (hNg : Ng[0]? = some a) (hva : Vis sg a)
    (hG : GivesP X.prog X.w X.K X.mg X.base Ng x sg g cdv bg a TT) (hr : Room (k + 2) X.A) (hL : ∀ d ∈ Ls, LamOk X k d) (hd : (a == ("__debug__" : Str)) = false) (hcd : (a == ("__classdict__" : Str)) = false)
    {pins : List (Addr × Obj)} {σ : L2.St} {G H9 : Hp} {u s9 : Shared} {Q : VK} (J : L2.Inv X pins σ G u) (e0 : Env0 X.prog X.w X.K X.mg X.base X.A X.stack s9 H9) (kin : X.K.In s9.heap) (cT : ∀ x c v, X.env.cells.lookup x = some c → u.heap.IsCell c v → s9.heap.IsCell c v ∧ H9 c = none)
    {f : Addr} {d : LamE} (hdm : d ∈ Ls) (ha : LamAt H9 (X.env.qual ++ "<lambda>") d.params d.body d.scope (cloFrom X.env.cells d.scope.names []) d.tup f) (ht : TT (fun E H' Q' => d.t E σ H' Q') H9 Q) :
    codeAny (model X.prog X.w) X.A (.call (.ref g) ⟨[.ref f], []⟩) (CR C8.CX0 X.stack X.prog X.w H9 s9 Q C8.E0) s9 := by
  refine run_ofS (N := Ng) (ps := [a]) (us := [.ref f]) (vs := [.ref f]) lk hcg Sg hr e0 (hb s9 [.ref f] kin rfl) (.cons rfl .nil) rfl fun hr' => ?_
  have L := hL d hdm
  obtain ⟨t', ht', hq'⟩ := hG X.A X.stack f s9 H9 Q (fun E H' Q' => d.t E σ H' Q') (fun HZ => LamAt HZ (X.env.qual ++ "<lambda>") d.params d.body d.scope (cloFrom X.env.cells d.scope.names []) d.tup f) (fun H1 H2 kk h => h.keep fun b o e _ _ => kk b o e (by simp))
    (fun W pn xe E p1 p2 σ0 tk hW => pe_actT (i := 0) J L.sd L.b cT tk hW hr' (fun A outer s H c' hr2 => L.body A outer s H E f c' hr2) hNg hva hd hcd) ha ht
  exact ⟨t', ht'.nox, hq'⟩
/-- in the block of a comprehension -/
theorem pe_wordB {TT : (XK → Hp → VK → Prop) → Hp → VK → Prop} {x a : Str} {g : Addr} {k : Nat} {pg : Arguments} {bg : List Stmt} {sg : Scope} {dV kV doc pm cdv ct oc : Value} {an od : Option Addr} {osl : Array (Option Value)} {Ng : List Str} {Ls : List LamE} {e : Expr} {te : TE} {p pos : Pos}
    {pins : List (Addr × Obj)} {σ : L2.St} {G : Hp} {u : Shared} {scp : Scope} {en : Env} {fp : List Addr} (J : L2.Inv X pins σ G u) (hfp : ∀ b ∈ fp, ∀ x c, X.env.cells.lookup x = some c → c ≠ b)
    (hg : Gl (X.blk u G scp en fp) x) (hm : X.mg x = some (.ref g)) (hk : PySem.W.keepIn X.K (.ref g) = true)
    (lk : X.K.lookup g = some ⟨oc, od, .func (PySem.W.fnOf x x pg bg sg dV kV doc pm an cdv ct), osl⟩) (hcg : PySem.W.codeIn X.K cdv x = true) (hb : L2.Binds X.K (PySem.W.fnOf x x pg bg sg dV kV doc pm an cdv ct) [a] []) (Sg : FnScope Ng [a] sg) (hNg : Ng[0]? = some a) (hva : Vis sg a)
    (hG : GivesP X.prog X.w X.K X.mg X.base Ng x sg g cdv bg a TT) (hr : Room (k + 2) X.A) (hL : ∀ d ∈ Ls, LamOk X k d) (he : PE (X.blk u G scp en fp) e te)
    (hdb : (x == ("__debug__" : Str)) = false := by decide) (hd : (a == ("__debug__" : Str)) = false := by decide) (hcd : (a == ("__classdict__" : Str)) = false := by decide)
    (hst : starEach [e] en = (false, eval e en) :: starEach [] en := by rfl) (hpl : (backTo pos (starEach [] en)).any (·.1) = false := by rfl) :
    PE (X.blk u G scp en fp) (.Call (.Name x p) [e] [] pos) (tWordL Ls (X.env.qual ++ "<lambda>") X.env.cells TT σ te) := by
  refine ⟨fun pins8 s σ8 H8 Q I h => ?_⟩
  refine wpAny_Call_Name_kw (ld_glob (X := X.blk u G scp en fp) I hg hm ?_ hdb)
  refine PySem.W.callWith_K (h₀ := X.base) J.ok.mod.kin hk (thn ((pa_cons he pa_nil hst).run pos pins8 s σ8 H8 _ I h) fun us s9 ⟨vs, H9, I9, r, f, d, e1, hdm, ha, ht⟩ => ⟨I9.kIn, ?_⟩) hst hpl
  subst e1
  obtain ⟨uu, rfl, r1⟩ := vals1 r
  obtain rfl : uu = Value.ref f := r1
  have cT : ∀ x c v, X.env.cells.lookup x = some c → u.heap.IsCell c v → s9.heap.IsCell c v ∧ H9 c = none := fun x c v hx hz => by
    obtain ⟨o, ho, hdo⟩ := hz
    have n0 := J.freeC x c hx
    have nf : c ∉ fp := fun z => hfp c z x c hx rfl
    have un : Un (frs X.stack) fp G H9 u.heap s9.heap := I9.base
    obtain ⟨sl, q⟩ := un.any ho n0 nf
    exact ⟨⟨_, q, hdo⟩, un.free c o ho n0 nf⟩
  have rc := word_run lk hcg hb Sg hNg hva hG hr hL hd hcd J I9.env0 I9.kIn cT hdm ha ht
  refine wpAny_call (codeAny_mono rc fun r s2 hq => ?_)
  cases r with
  | error e => exact (show False from hq).elim
  | ok fl =>
    cases fl with
    | ret u => exact I9.after hq
    | next => exact False.elim hq
    | brk => exact False.elim hq
    | cont => exact False.elim hq
/-- in the def itself -/
theorem pe_wordX {TT : (XK → Hp → VK → Prop) → Hp → VK → Prop} {x a : Str} {g : Addr} {k : Nat} {pg : Arguments} {bg : List Stmt} {sg : Scope} {dV kV doc pm cdv ct oc : Value} {an od : Option Addr} {osl : Array (Option Value)} {Ng : List Str} {Ls : List LamE} {e : Expr} {te : TE} {p pos : Pos}
    (hg : Gl X x) (hm : X.mg x = some (.ref g)) (hk : PySem.W.keepIn X.K (.ref g) = true)
    (lk : X.K.lookup g = some ⟨oc, od, .func (PySem.W.fnOf x x pg bg sg dV kV doc pm an cdv ct), osl⟩) (hcg : PySem.W.codeIn X.K cdv x = true) (hb : L2.Binds X.K (PySem.W.fnOf x x pg bg sg dV kV doc pm an cdv ct) [a] []) (Sg : FnScope Ng [a] sg) (hNg : Ng[0]? = some a) (hva : Vis sg a)
    (hG : GivesP X.prog X.w X.K X.mg X.base Ng x sg g cdv bg a TT) (hr : Room (k + 2) X.A) (hL : ∀ d ∈ Ls, LamOk X k d) (he : PE X e te)
    (hdb : (x == ("__debug__" : Str)) = false := by decide) (hd : (a == ("__debug__" : Str)) = false := by decide) (hcd : (a == ("__classdict__" : Str)) = false := by decide)
    (hst : starEach [e] X.env = (false, eval e X.env) :: starEach [] X.env := by rfl) (hpl : (backTo pos (starEach [] X.env)).any (·.1) = false := by rfl) :
    PE X (.Call (.Name x p) [e] [] pos) (fun σ => tWordL Ls (X.env.qual ++ "<lambda>") X.env.cells TT σ te σ) := by
  refine ⟨fun pins8 s σ8 H8 Q I h => ?_⟩
  refine wpAny_Call_Name_kw (ld_glob I hg hm ?_ hdb)
  refine PySem.W.callWith_K (h₀ := X.base) I.ok.mod.kin hk (thn ((pa_cons he pa_nil hst).run pos pins8 s σ8 H8 _ I h) fun us s9 ⟨vs, H9, I9, r, f, d, e1, hdm, ha, ht⟩ => ⟨I9.kIn, ?_⟩) hst hpl
  subst e1
  obtain ⟨uu, rfl, r1⟩ := vals1 r
  obtain rfl : uu = Value.ref f := r1
  have rc := word_run lk hcg hb Sg hNg hva hG hr hL hd hcd I9 I9.env0 I9.kIn (fun x c v hx hz => ⟨hz, I9.freeC x c hx⟩) hdm ha ht
  refine wpAny_call (codeAny_mono rc fun r s2 hq => ?_)
  cases r with
  | error e => exact (show False from hq).elim
  | ok fl =>
    cases fl with
    | ret u => exact I9.after hq
    | next => exact False.elim hq
    | brk => exact False.elim hq
    | cont => exact False.elim hq
/-- x(lambda ..) -/
theorem pe_word1 {TT : (XK → Hp → VK → Prop) → Hp → VK → Prop} {x a : Str} {g P : Addr} {k : Nat} {pg : Arguments} {bg : List Stmt} {sg : Scope} {dV kV doc pm cdv ct oc : Value} {an od : Option Addr} {osl : Array (Option Value)} {Ng : List Str} {params : Arguments} {body : Expr} {scope : Scope} {tup : Bool} {t : XK → TE} {lpos p pos : Pos}
    (hg : Gl X x) (hm : X.mg x = some (.ref g)) (hk : PySem.W.keepIn X.K (.ref g) = true)
    (lk : X.K.lookup g = some ⟨oc, od, .func (PySem.W.fnOf x x pg bg sg dV kV doc pm an cdv ct), osl⟩) (hcg : PySem.W.codeIn X.K cdv x = true) (hb : L2.Binds X.K (PySem.W.fnOf x x pg bg sg dV kV doc pm an cdv ct) [a] []) (Sg : FnScope Ng [a] sg) (hNg : Ng[0]? = some a) (hva : Vis sg a)
    (hG : GivesP X.prog X.w X.K X.mg X.base Ng x sg g cdv bg a TT) (hr : Room (k + 2) X.A) (mk : PE X (.Lambda params body scope lpos) (tLamK P (X.env.qual ++ "<lambda>") params body scope X.env.cells tup)) (L : LamSD X.N X.env.scope scope) (B : LamB params body scope tup)
    (hbody : ∀ (A : Around) (outer : List Env) (s : Shared) (H : Hp) (E : XK) (f c' : Addr), Room k (A.deeper (lamEnv X scope s.heap.objs.size f c')) → PE (lamCx X A outer s H E scope f c') body (t E))
    (hdb : (x == ("__debug__" : Str)) = false := by decide) (hd : (a == ("__debug__" : Str)) = false := by decide) (hcd : (a == ("__classdict__" : Str)) = false := by decide)
    (hst : starEach [.Lambda params body scope lpos] X.env = (false, eval (.Lambda params body scope lpos) X.env) :: starEach [] X.env := by rfl) (hpl : (backTo pos (starEach [] X.env)).any (·.1) = false := by rfl) :
    PE X (.Call (.Name x p) [.Lambda params body scope lpos] [] pos) (fun σ H Q => TabS H P (X.env.qual ++ "<lambda>") ∧ ∀ H1, (∀ b o, H b = some o → b ≠ P → H1 b = some o) → TabS H1 P (X.env.qual ++ "<lambda>") → TT (fun E H' Q' => t E σ H' Q') H1 Q) :=
  ⟨fun pins s σ H Q I ⟨hT, h⟩ => (pe_wordX (Ls := [⟨params, body, scope, tup, t⟩]) hg hm hk lk hcg hb Sg hNg hva hG hr (fun d hd => by rw [List.mem_singleton.mp hd]; exact ⟨L, B, hbody⟩) mk hdb hd hcd hst hpl).run pins s σ H Q I
    (show tCons _ tNil σ H _ from ⟨hT, fun H1 f eN T1 nf la => ⟨f, _, rfl, List.mem_singleton.mpr rfl, la, h H1 eN T1⟩⟩)⟩
end
end Ah
end
section
set_option Elab.async false
set_option linter.all false
set_option maxRecDepth 100000
set_option maxHeartbeats 2000000
namespace Ah
open PySem PySem.Spec PyProof.Rows L2 LamX
/-! ### a display of lambdas -/
def LamEAt (q : Str) (cells : List (Str × Addr)) (H : Hp) (d : LamE) (f : Addr) : Prop := LamAt H q d.params d.body d.scope (cloFrom cells d.scope.names []) d.tup f
theorem LamAt.ofP {H H' : Hp} {q : Str} {params : Arguments} {body : Expr} {scope : Scope} {clo : List (Str × Addr)} {tup : Bool} {f P : Addr} (h : LamAt H q params body scope clo tup f) (e : ∀ b o, H b = some o → b ≠ P → H' b = some o) (t : TabS H P q) : LamAt H' q params body scope clo tup f :=
  h.keep fun b o h n _ => e b o h (fun z => by
    obtain ⟨ps, e2, _⟩ := t
    rw [← z, h] at e2
    exact n ps (Option.some.inj e2))
def tLams (P : Addr) (q : Str) (cells : List (Str × Addr)) (ds : List LamE) : TA := fun _ H Q => TabS H P q ∧ ∀ (fs : List Addr) (H' : Hp), (∀ b o, H b = some o → b ≠ P → H' b = some o) → TabS H' P q → Paired (fun d f => LamEAt q cells H' d f) ds fs → Q (fs.map V.ref) H'
section
variable {X : Cx}
theorem pa_lam_nil {P : Addr} {q : Str} {cells : List (Str × Addr)} : PA X [] (tLams P q cells []) :=
  ⟨fun pos pins s σ H Q I h => (pa_nil (X := X)).run pos pins s σ H Q I (h.2 [] H (fun _ _ e _ => e) h.1 .nil)⟩
theorem pa_lam_cons {P : Addr} {q : Str} {cells : List (Str × Addr)} {e : Expr} {es : List Expr} {d : LamE} {ds : List LamE} (he : PE X e (tLamK P q d.params d.body d.scope cells d.tup)) (hr : PA X es (tLams P q cells ds))
    (hst : starEach (e :: es) X.env = (false, eval e X.env) :: starEach es X.env := by rfl) : PA X (e :: es) (tLams P q cells (d :: ds)) :=
  ⟨fun pos pins s σ H Q I ⟨hT, h⟩ => (pa_cons he hr hst).run pos pins s σ H Q I
    (show tCons _ _ σ H Q from ⟨hT, fun H1 f e1 t1 nf la => ⟨t1, fun fs H2 e2 t2 pr => h (f :: fs) H2 (fun b o e n => e2 b o (e1 b o e n) n) t2 (.cons (la.ofP e2 t1) pr)⟩⟩)⟩
end
end Ah
end
section
set_option Elab.async false
set_option linter.all false
set_option maxRecDepth 100000
set_option maxHeartbeats 2000000
namespace Ah
open PySem PySem.Spec PyProof.Rows L2 LamX
/-! ### xs.count(y), flat items -/
def rCntF (K : PySem.W.Frag) : V → List V → Hp → VK → Prop := fun x xs H Q => ∃ (p : Addr) (ys : List V) (y : V), x = .ref p ∧ xs = [y] ∧ SqL K H p ys ∧ flatV y = true ∧ ys.all flatV = true ∧ Q (.int ((ys.countP fun z => eqV z y : Nat) : Int)) H
theorem countU {y : V} : ∀ {xs : List V} {us : List Value}, Vals xs us → xs.all flatV = true → us.countP (eqU y) = xs.countP fun z => eqV z y
  | _, _, .nil, _ => rfl
  | x :: xs, u :: us, .cons r t, f => by
    rw [List.all_cons, Bool.and_eq_true] at f
    rw [List.countP_cons, List.countP_cons, countU t f.2, eqU_of r f.1]
theorem mt_lcountF {X : Cx} : MtR X "list.count" (rCntF X.K) := by
  intro pins s σ H x xs v us Q I rx rxs h
  obtain ⟨p, ys, y, rfl, rfl, hs, fy, fys, q⟩ := h
  cases rx
  obtain ⟨u, rfl, ru⟩ := vals1 rxs
  obtain ⟨its, rv, ⟨⟨cls, dd, data, sl⟩, n, ho, hc, hdn, hd⟩, hlen⟩ := I.list hs
  simp only at hc hd
  subst hc hd
  refine call_meets PySem.F.slot_list_count ⟨_, ho, rfl⟩ PySem.F.entry_list_count (PySem.F.args_list_count_2 _ _)
    (SeqAt.list_countAt p its.toArray n dd sl u (eqU y)) ⟨ho, fun u' hu' => mem_eqAt ru fy rv fys u' (by simpa using hu'), ?_⟩
  refine ⟨.int ((ys.countP fun z => eqV z y : Nat) : Int), H, I.tok _, ⟨s.toks, ?_⟩, q⟩
  show Value.int ((its.toArray.toList.countP (eqU y) : Nat) : Int) s.toks = Value.int ((ys.countP fun z => eqV z y : Nat) : Int) s.toks
  rw [show its.toArray.toList.countP (eqU y) = ys.countP fun z => eqV z y from countU rv fys]
/-! ### _law_word -/
abbrev NW : List Str := ["_law_work", "_law_found", "_law_e", "_law_kinds", "_law_names", "_law_name"]
theorem scW2 : FnScope NW ["_law_work"] (defScope lWord) := ⟨rfl, rfl, rfl, by decide +kernel, rfl, by decide +kernel, by decide +kernel⟩
def suiteW : List Stmt := match defBody lWord with
  | _ :: .Try _ [.ExceptHandler _ _ b _] _ _ _ :: _ => b
  | _ => []
end Ah
end
section
set_option Elab.async false
set_option linter.all false
set_option maxRecDepth 100000
set_option maxHeartbeats 2000000
namespace Ah
open PySem PySem.Spec PyProof.Rows L2 LamX
/-! ### _law_word, for all classes but Halted and BadText -/
def nameG : Nat → Str
  | 0 => "row"
  | 1 => "saying"
  | 2 => "count"
  | 3 => "steps"
  | 4 => "norow"
  | 5 => "nofollow"
  | 6 => "deed"
  | 7 => "halted"
  | _ => "text"
/-- whether the class bears a number -/
def numW : Nat → Bool
  | 0 => true
  | 3 => true
  | 6 => true
  | _ => false
structure WordG (K : PySem.W.Frag) (mg : Str → Option Value) (CA : Addr) (c : Nat → Addr) : Prop where
  ca : mg "AnswerError" = some (.ref CA)
  m0 : mg "BadRow" = some (.ref (c 0))
  m1 : mg "BadSaying" = some (.ref (c 1))
  m2 : mg "BadCount" = some (.ref (c 2))
  m3 : mg "BadSteps" = some (.ref (c 3))
  m4 : mg "NoRow" = some (.ref (c 4))
  m5 : mg "NoFollow" = some (.ref (c 5))
  m6 : mg "BadDeed" = some (.ref (c 6))
  m7 : mg "Halted" = some (.ref (c 7))
  m8 : mg "BadText" = some (.ref (c 8))
  isi : mg "isinstance" = none
  ve : mg "ValueError" = none
  kit : ∀ i j, i < 9 → j < 9 → PySem.W.kitOne K (.ref (c i)) (.ref (c j)) = some (decide (i = j))
  kitV : ∀ i, i < 9 → PySem.W.kitOne K (.ref (c i)) (.type "ValueError") = some true
  exm : ∀ i, i < 9 → PySem.W.exmOne K (.ref (c i)) (.ref CA) = some true
  xc : ∀ i, i < 9 → ExcC K (c i)
  xf : ∀ i, i < 7 → numW i = true → XfC K (c i) ∧ PySem.W.findIn K (.ref (c i)) "number" = some none
/-- an exception of the i-th class: its dict, what is told of it -/
def ErrAt (H : Hp) (i : Nat) (d : Option Addr) (v : V) : Prop := (numW i = true ∧ ∃ (dd : Addr) (j : Int), d = some dd ∧ H dd = some (.xd [("number", .int j)]) ∧ v = .int j) ∨ (numW i = false ∧ d = none ∧ v = .non)
def XD (d : Option Addr) (H : Hp) : Prop := ∀ dd, d = some dd → ∃ fs, H dd = some (.xd fs)
theorem XD.upd {d : Option Addr} {H : Hp} {l : Addr} {o : HO} (h : XD d H) (n : H l = none) : XD d (upd H l o) := fun dd e => let ⟨fs, q⟩ := h dd e; ⟨fs, (upd_ne (ne_of_none q n)).trans q⟩
theorem XD.kept {d : Option Addr} {H H' : Hp} (h : XD d H) (k : Kept [] H H') : XD d H' := fun dd e => let ⟨fs, q⟩ := h dd e; ⟨fs, k _ _ q (by simp)⟩
theorem ErrAt.xd {H : Hp} {i : Nat} {d : Option Addr} {v : V} (h : ErrAt H i d v) : XD d H := fun dd e => by
  rcases h with ⟨_, d2, j, e2, h2, _⟩ | ⟨_, e2, _⟩
  · rw [e2] at e
    cases e
    exact ⟨_, h2⟩
  · rw [e2] at e
    cases e
def tsG (c : Nat → Addr) (i : Nat) (a : Addr) (cls : Value) (d : Option Addr) : TS := fun D σ H => ∃ (v f lf : V), cls = .ref (c i) ∧ ErrAt H i d v ∧ σ = [some f, some lf, some (.ref a), none, none, none] ∧
  ∀ H' p, Kept [] H H' → H' p = none → D.rt (.ref p) (upd H' p (.tup [.str (nameG i), v]))
theorem pe_when {X : Cx} {e : Expr} {t : TE} {P : Prop} (h : P → PE X e t) : PE X e (fun σ H Q => P ∧ t σ H Q) := ⟨fun pins s σ H Q I ⟨p, r⟩ => (h p).run pins s σ H Q I r⟩
abbrev kindsG (i : Nat) : List V := [.bl (decide (i = 0)), .bl (decide (i = 1)), .bl (decide (i = 2)), .bl (decide (i = 3))] ++ [.bl (decide (i = 4)), .bl (decide (i = 5)), .bl (decide (i = 6)), .bl (decide (i = 7))] ++ [.bl (decide (i = 8))]
theorem kinds1 : ∀ i, i < 9 → (kindsG i).countP (fun z => eqV z (.bl true)) = 1 := by decide
theorem kinds2 : ∀ i, i < 9 → (kindsG i)[i]? = some (.bl true) := by
  intro i h
  match i, h with
  | 0, _ => rfl
  | 1, _ => rfl
  | 2, _ => rfl
  | 3, _ => rfl
  | 4, _ => rfl
  | 5, _ => rfl
  | 6, _ => rfl
  | 7, _ => rfl
  | 8, _ => rfl
theorem kinds3 : ∀ i, i < 9 → ∀ m, m < i → ((kindsG i)[m]?).all (fun z => !eqV z (.bl true)) = true := by decide
abbrev namesG : List V := [.str "row", .str "saying", .str "count", .str "steps", .str "norow", .str "nofollow", .str "deed", .str "halted", .str "text"]
theorem names2 : ∀ i, i < 9 → namesG[i]? = some (.str (nameG i)) := by
  intro i h
  match i, h with
  | 0, _ => rfl
  | 1, _ => rfl
  | 2, _ => rfl
  | 3, _ => rfl
  | 4, _ => rfl
  | 5, _ => rfl
  | 6, _ => rfl
  | 7, _ => rfl
  | 8, _ => rfl
theorem names3 {i : Nat} (h : i < 7) : decide (V.str (nameG i) = V.str "halted") = false ∧ decide (V.str (nameG i) = V.str "text") = false := by
  match i, h with
  | 0, _ => exact ⟨by decide, by decide⟩
  | 1, _ => exact ⟨by decide, by decide⟩
  | 2, _ => exact ⟨by decide, by decide⟩
  | 3, _ => exact ⟨by decide, by decide⟩
  | 4, _ => exact ⟨by decide, by decide⟩
  | 5, _ => exact ⟨by decide, by decide⟩
  | 6, _ => exact ⟨by decide, by decide⟩
theorem names4 : ∀ i, i < 7 → inV (.str (nameG i)) [V.str "row", V.str "steps", V.str "deed"] = numW i := by
  intro i h
  match i, h with
  | 0, _ => rfl
  | 1, _ => rfl
  | 2, _ => rfl
  | 3, _ => rfl
  | 4, _ => rfl
  | 5, _ => rfl
  | 6, _ => rfl
section
variable {K : PySem.W.Frag} {P : Program} {w : World} {mg : Str → Option Value} {base : Heap} {CA : Addr} {c : Nat → Addr} {g : Addr} {cdg : Value} {A : Around} {outer : List Env} {s00 : Shared} {H0 : Hp}
theorem suite_wordG (W : WordG K mg CA c) {i : Nat} (hi : i < 7) (a : Addr) (oe : Obj) (cls : Value) (d : Option Addr) (pn : List (Addr × Obj)) (hz : Zc cls d oe) (hf : ∃ vs, oe.data = .fields vs) :
    PSs (((cxOf C8.CX0 P w K mg base NW "_law_word" (defScope lWord) g cdg A outer s00 H0 C8.E0).nox).suite a ((a, oe) :: pn)) suiteW (tsG c i a cls d) := by
  refine ⟨fun pins s σ H D I h => ?_⟩
  obtain ⟨v, f, lf, rfl, he, rfl, k⟩ := h
  have hdd := he.xd
  have hi9 : i < 9 := by omega
  have XC := W.xc i hi9
  obtain ⟨t, T, q⟩ : ∃ t, PSs (((cxOf C8.CX0 P w K mg base NW "_law_word" (defScope lWord) g cdg A outer s00 H0 C8.E0).nox).suite a ((a, oe) :: pn)) suiteW t ∧ t D [some f, some lf, some (.ref a), none, none, none] H := by
    refine ⟨_, pss_cons
      (ps_set (i := 3) scW2.nd rfl (.inl rfl) (pe_lst (pa_cons (pe_callB (call_isD XC hz hf) (by rfl) W.isi (by decide +kernel) (pa_cons (pv 2) (pa_cons (pe_glob (v := .ref (c 0)) (by rfl) W.m0 rfl) pa_nil)))
        (pa_cons (pe_callB (call_isD XC hz hf) (by rfl) W.isi (by decide +kernel) (pa_cons (pv 2) (pa_cons (pe_glob (v := .ref (c 1)) (by rfl) W.m1 rfl) pa_nil)))
        (pa_cons (pe_callB (call_isD XC hz hf) (by rfl) W.isi (by decide +kernel) (pa_cons (pv 2) (pa_cons (pe_glob (v := .ref (c 2)) (by rfl) W.m2 rfl) pa_nil)))
        (pa_cons (pe_callB (call_isD XC hz hf) (by rfl) W.isi (by decide +kernel) (pa_cons (pv 2) (pa_cons (pe_glob (v := .ref (c 3)) (by rfl) W.m3 rfl) pa_nil))) pa_nil))))))
    (pss_cons (ps_set (i := 3) scW2.nd rfl (.inl rfl) (pe_op op_cat (pv 3) (pe_lst (pa_cons (pe_callB (call_isD XC hz hf) (by rfl) W.isi (by decide +kernel) (pa_cons (pv 2) (pa_cons (pe_glob (v := .ref (c 4)) (by rfl) W.m4 rfl) pa_nil)))
        (pa_cons (pe_callB (call_isD XC hz hf) (by rfl) W.isi (by decide +kernel) (pa_cons (pv 2) (pa_cons (pe_glob (v := .ref (c 5)) (by rfl) W.m5 rfl) pa_nil)))
        (pa_cons (pe_callB (call_isD XC hz hf) (by rfl) W.isi (by decide +kernel) (pa_cons (pv 2) (pa_cons (pe_glob (v := .ref (c 6)) (by rfl) W.m6 rfl) pa_nil)))
        (pa_cons (pe_callB (call_isD XC hz hf) (by rfl) W.isi (by decide +kernel) (pa_cons (pv 2) (pa_cons (pe_glob (v := .ref (c 7)) (by rfl) W.m7 rfl) pa_nil))) pa_nil)))))))
    (pss_cons (ps_expr (pe_bm PySem.F.plainAttrs_list PySem.F.slot_list_append PySem.F.type_list_append mt_append (pv 3) (pa_cons (pe_callB (call_isD XC hz hf) (by rfl) W.isi (by decide +kernel) (pa_cons (pv 2) (pa_cons (pe_glob (v := .ref (c 8)) (by rfl) W.m8 rfl) pa_nil))) pa_nil)))
    (pss_cons (ps_set (i := 4) scW2.nd rfl (.inl rfl) (pe_lst (pa_cons pe_str (pa_cons pe_str (pa_cons pe_str (pa_cons pe_str (pa_cons pe_str (pa_cons pe_str (pa_cons pe_str (pa_cons pe_str (pa_cons pe_str pa_nil)))))))))))
    (pss_cons (ps_if (PW.pt (pw_or (pt_cmpR op_ne (pe_bm PySem.F.plainAttrs_list PySem.F.slot_list_count PySem.F.type_list_count mt_lcountF (pv 3) (pa_cons pe_bl pa_nil)) pe_int (nomark _))
        (pw_or1 (pt_not (pt_val (pe_callB (call_isD XC hz hf) (by rfl) W.isi (by decide +kernel) (pa_cons (pv 2) (pa_cons (pe_bltn (v := .ty "ValueError") (by rfl) W.ve (by decide +kernel) rfl) pa_nil))))))))
        (pss_one ps_never) pss_nil)
    (pss_cons (ps_set (i := 5) scW2.nd rfl (.inl rfl) (pe_ix ix_list (pv 4) (pe_bm PySem.F.plainAttrs_list PySem.F.slot_list_index PySem.F.type_list_index mt_index (pv 3) (pa_cons pe_bl pa_nil)) (fun _ _ => rfl)))
    (pss_cons (ps_if (pt_cmpR op_eq (pv 5) pe_str (nomark _)) (pss_one ps_never) pss_nil)
    (pss_cons (ps_if (pt_cmpR op_eq (pv 5) pe_str (nomark _)) (pss_one ps_never) pss_nil)
    (pss_one (ps_ret (pe_ifExp (pt_cmpR op_in_seq (pv 5) (pe_tup (pa_cons pe_str (pa_cons pe_str (pa_cons pe_str pa_nil)))) (by rfl)) (pe_tup (pa_cons (pv 5) (pa_cons (pe_when (fun hn : numW i = true => pe_xf (W.xf i hi hn).1 (W.xf i hi hn).2 hz hf (pv 2))) pa_nil))) (pe_tup (pa_cons (pv 5) (pa_cons pe_non pa_nil))))))))))))), ?_⟩
    refine ⟨_, rfl, _, _, _, rfl, fun u h => h, W.kit i 0 hi9 (by decide), hdd, _, rfl, _, _, _, rfl, fun u h => h, W.kit i 1 hi9 (by decide), hdd, _, rfl, _, _, _, rfl, fun u h => h, W.kit i 2 hi9 (by decide), hdd, _, rfl, _, _, _, rfl, fun u h => h, W.kit i 3 hi9 (by decide), hdd, by show (4 : Nat) ≤ sizeLine; rw [sizeLine_eq]; decide, fun l1 n1 => ?_⟩
    have d1 := XD.upd (o := .lst [.bl (decide (i = 0)), .bl (decide (i = 1)), .bl (decide (i = 2)), .bl (decide (i = 3))]) hdd n1
    refine ⟨_, rfl, _, rfl, _, _, _, rfl, fun u h => h, W.kit i 4 hi9 (by decide), d1, _, rfl, _, _, _, rfl, fun u h => h, W.kit i 5 hi9 (by decide), d1, _, rfl, _, _, _, rfl, fun u h => h, W.kit i 6 hi9 (by decide), d1, _, rfl, _, _, _, rfl, fun u h => h, W.kit i 7 hi9 (by decide), d1, by show (4 : Nat) ≤ sizeLine; rw [sizeLine_eq]; decide, fun l2 n2 => ?_⟩
    have n21 : l1 ≠ l2 := fun z => by rw [← z, upd_same] at n2; cases n2
    refine ⟨l1, l2, _, _, rfl, rfl, by rw [upd_ne n21]; exact upd_same, upd_same, by show (4 : Nat) + 4 ≤ sizeLine; rw [sizeLine_eq]; decide, fun l3 n3 => ?_⟩
    have d2 := XD.upd (o := .lst [.bl (decide (i = 4)), .bl (decide (i = 5)), .bl (decide (i = 6)), .bl (decide (i = 7))]) d1 n2
    refine ⟨_, rfl, .inl ⟨rfl, _, SqL.of upd_same⟩, _, rfl, _, _, _, rfl, fun u h => h, W.kit i 8 hi9 (by decide), (XD.upd d2 n3), l3, _, _, rfl, rfl, upd_same, by show (8 : Nat) < sizeLine; rw [sizeLine_eq]; decide, ?_⟩
    refine ⟨by show (9 : Nat) ≤ sizeLine; rw [sizeLine_eq]; decide, fun l4 n4 => ?_⟩
    have n43 : l3 ≠ l4 := fun z => by rw [← z, upd_same] at n4; cases n4
    have n30 : H l3 = none := by
      cases e : H l3 with
      | none => rfl
      | some o => exact nomatch n3.symm.trans ((((Kept.refl (M := []) H).upd n1).upd n2) l3 o e (by simp))
    have K5 : Kept [] H (upd (upd (upd (upd (upd H l1 (.lst [.bl (decide (i = 0)), .bl (decide (i = 1)), .bl (decide (i = 2)), .bl (decide (i = 3))])) l2 (.lst [.bl (decide (i = 4)), .bl (decide (i = 5)), .bl (decide (i = 6)), .bl (decide (i = 7))])) l3 (.lst ([.bl (decide (i = 0)), .bl (decide (i = 1)), .bl (decide (i = 2)), .bl (decide (i = 3))] ++ [.bl (decide (i = 4)), .bl (decide (i = 5)), .bl (decide (i = 6)), .bl (decide (i = 7))]))) l3 (.lst ([.bl (decide (i = 0)), .bl (decide (i = 1)), .bl (decide (i = 2)), .bl (decide (i = 3))] ++ [.bl (decide (i = 4)), .bl (decide (i = 5)), .bl (decide (i = 6)), .bl (decide (i = 7))] ++ [.bl (decide (i = 8))]))) l4 (.lst [.str "row", .str "saying", .str "count", .str "steps", .str "norow", .str "nofollow", .str "deed", .str "halted", .str "text"])) := by
      refine Kept.upd (fun b o e hb => ?_) n4
      rw [upd_ne (ne_of_none e n30)]
      exact ((((Kept.refl (M := []) H).upd n1).upd n2).upd n3) b o e hb
    have e3 : SqL K (upd (upd (upd (upd (upd H l1 (.lst [.bl (decide (i = 0)), .bl (decide (i = 1)), .bl (decide (i = 2)), .bl (decide (i = 3))])) l2 (.lst [.bl (decide (i = 4)), .bl (decide (i = 5)), .bl (decide (i = 6)), .bl (decide (i = 7))])) l3 (.lst ([.bl (decide (i = 0)), .bl (decide (i = 1)), .bl (decide (i = 2)), .bl (decide (i = 3))] ++ [.bl (decide (i = 4)), .bl (decide (i = 5)), .bl (decide (i = 6)), .bl (decide (i = 7))]))) l3 (.lst ([.bl (decide (i = 0)), .bl (decide (i = 1)), .bl (decide (i = 2)), .bl (decide (i = 3))] ++ [.bl (decide (i = 4)), .bl (decide (i = 5)), .bl (decide (i = 6)), .bl (decide (i = 7))] ++ [.bl (decide (i = 8))]))) l4 (.lst [.str "row", .str "saying", .str "count", .str "steps", .str "norow", .str "nofollow", .str "deed", .str "halted", .str "text"])) l3 ([.bl (decide (i = 0)), .bl (decide (i = 1)), .bl (decide (i = 2)), .bl (decide (i = 3))] ++ [.bl (decide (i = 4)), .bl (decide (i = 5)), .bl (decide (i = 6)), .bl (decide (i = 7))] ++ [.bl (decide (i = 8))]) := SqL.of ((upd_ne n43).trans upd_same)
    have e4 : SqL K (upd (upd (upd (upd (upd H l1 (.lst [.bl (decide (i = 0)), .bl (decide (i = 1)), .bl (decide (i = 2)), .bl (decide (i = 3))])) l2 (.lst [.bl (decide (i = 4)), .bl (decide (i = 5)), .bl (decide (i = 6)), .bl (decide (i = 7))])) l3 (.lst ([.bl (decide (i = 0)), .bl (decide (i = 1)), .bl (decide (i = 2)), .bl (decide (i = 3))] ++ [.bl (decide (i = 4)), .bl (decide (i = 5)), .bl (decide (i = 6)), .bl (decide (i = 7))]))) l3 (.lst ([.bl (decide (i = 0)), .bl (decide (i = 1)), .bl (decide (i = 2)), .bl (decide (i = 3))] ++ [.bl (decide (i = 4)), .bl (decide (i = 5)), .bl (decide (i = 6)), .bl (decide (i = 7))] ++ [.bl (decide (i = 8))]))) l4 (.lst [.str "row", .str "saying", .str "count", .str "steps", .str "norow", .str "nofollow", .str "deed", .str "halted", .str "text"])) l4 [.str "row", .str "saying", .str "count", .str "steps", .str "norow", .str "nofollow", .str "deed", .str "halted", .str "text"] := SqL.of upd_same
    generalize upd (upd (upd (upd (upd H l1 (.lst [.bl (decide (i = 0)), .bl (decide (i = 1)), .bl (decide (i = 2)), .bl (decide (i = 3))])) l2 (.lst [.bl (decide (i = 4)), .bl (decide (i = 5)), .bl (decide (i = 6)), .bl (decide (i = 7))])) l3 (.lst ([.bl (decide (i = 0)), .bl (decide (i = 1)), .bl (decide (i = 2)), .bl (decide (i = 3))] ++ [.bl (decide (i = 4)), .bl (decide (i = 5)), .bl (decide (i = 6)), .bl (decide (i = 7))]))) l3 (.lst ([.bl (decide (i = 0)), .bl (decide (i = 1)), .bl (decide (i = 2)), .bl (decide (i = 3))] ++ [.bl (decide (i = 4)), .bl (decide (i = 5)), .bl (decide (i = 6)), .bl (decide (i = 7))] ++ [.bl (decide (i = 8))]))) l4 (.lst [.str "row", .str "saying", .str "count", .str "steps", .str "norow", .str "nofollow", .str "deed", .str "halted", .str "text"]) = H5 at K5 e3 e4 ⊢
    have d5 := XD.kept hdd K5
    have hi9 : i < 9 := by omega
    refine ⟨_, rfl, .inl ⟨rfl, _, e3⟩, l3, _, .bl true, rfl, rfl, e3, rfl, rfl, rfl, _, rfl, ?_⟩
    have c1 : List.countP (fun z => eqV z (.bl true)) (kindsG i) = 1 := kinds1 i hi9
    rw [c1]
    refine iteF ⟨_, rfl, _, _, _, rfl, fun u h => h, W.kitV i hi9, d5, _, rfl, iteF ?_⟩
    refine ⟨_, rfl, _, rfl, .inl ⟨rfl, _, e3⟩, l3, _, .bl true, i, .bl true, rfl, rfl, e3, rfl, rfl, kinds2 i hi9, rfl, (fun m z' hm hz => ?_), l4, _, i, .str (nameG i), rfl, rfl, e4, at_of rfl (names2 i hi9), ?_⟩
    · have q2 := kinds3 i hi9 m hm
      rw [hz] at q2
      simpa using q2
    refine ⟨_, rfl, rfl, _, rfl, ?_⟩
    rw [(names3 hi).1]
    refine iteF ⟨_, rfl, rfl, _, rfl, ?_⟩
    rw [(names3 hi).2]
    refine iteF ⟨_, rfl, by show (3 : Nat) ≤ sizeLine; rw [sizeLine_eq]; decide, fun p np => ?_⟩
    rcases he with ⟨hn, dd, j, rfl, hdd0, rfl⟩ | ⟨hn, rfl, rfl⟩
    · have d6 := K5 _ _ hdd0 (by simp)
      have hin : inV (.str (nameG i)) [V.str "row", V.str "steps", V.str "deed"] = true := (names4 i hi).trans hn
      refine ⟨p, _, rfl, .inr (SqT.of upd_same), rfl, rfl, _, rfl, ?_⟩
      rw [if_neg Bool.false_ne_true, hin]
      refine iteT ⟨_, rfl, hn, _, rfl, rfl, rfl, dd, _, .int j, rfl, (upd_ne (ne_of_none d6 np)).trans d6, rfl, by show (2 : Nat) ≤ sizeLine; rw [sizeLine_eq]; decide, fun p2 np2 => ?_⟩
      exact k _ p2 (K5.upd np) np2
    · have hin : inV (.str (nameG i)) [V.str "row", V.str "steps", V.str "deed"] = false := (names4 i hi).trans hn
      refine ⟨p, _, rfl, .inr (SqT.of upd_same), rfl, rfl, _, rfl, ?_⟩
      rw [if_neg Bool.false_ne_true, hin]
      refine iteF ⟨_, rfl, by show (2 : Nat) ≤ sizeLine; rw [sizeLine_eq]; decide, fun p2 np2 => ?_⟩
      exact k _ p2 (K5.upd np) np2
  exact T.run pins _ _ H D I q
end
end Ah
end
section
set_option Elab.async false
set_option linter.all false
set_option maxRecDepth 100000
set_option maxHeartbeats 2000000
namespace Ah
open PySem PySem.Spec PyProof.Rows L2 LamX
theorem pe_mono {X : Cx} {e : Expr} {t : TE} (h : PE X e t) : PE X e (fun σ H Q => ∃ Q0 : VK, (∀ v H', Q0 v H' → Q v H') ∧ t σ H Q0) :=
  ⟨fun pins s σ H Q I ⟨Q0, hm, ht⟩ => wpAny_mono (h.run pins s σ H Q0 I ht) (fun v s' ⟨x, H', I', r, q⟩ => ⟨x, H', I', r, hm _ _ q⟩) fun _ _ z => z⟩
def bodyW : List Stmt := match defBody lWord with
  | _ :: .Try b _ _ _ _ :: _ => b
  | _ => []
end Ah
end
section
set_option Elab.async false
set_option linter.all false
set_option maxRecDepth 100000
set_option maxHeartbeats 2000000
namespace Ah
open PySem PySem.Spec PyProof.Rows L2 LamX
/-- what is wished of an exception, whatever its class -/
def EWG (c : Nat → Addr) (Q : VK) : XK := fun cls d H1 => ∃ (i : Nat) (v : V), i < 7 ∧ cls = .ref (c i) ∧ ErrAt H1 i d v ∧ ∀ H' p, Kept [] H1 H' → H' p = none → Q (.ref p) (upd H' p (.tup [.str (nameG i), v]))
def TWG (c : Nat → Addr) : (XK → Hp → VK → Prop) → Hp → VK → Prop := fun tl H Q => ∀ lf, H lf = none → tl (EWG c Q) (upd H lf (.lst [])) (fun v H1 => H1 lf = some (.lst []) ∧ ∀ p, upd H1 lf (.lst [v]) p = none → Q (.ref p) (upd (upd H1 lf (.lst [v])) p (.tup [.str "", v])))
/-- the suite for any class -/
def tsGA (c : Nat → Addr) (a : Addr) (cls : Value) (d : Option Addr) : TS := fun D σ H => ∃ i, i < 7 ∧ tsG c i a cls d D σ H
section
variable {P : Program} {w : World} {K : PySem.W.Frag} {mg : Str → Option Value} {base : Heap}
theorem word_givesG {CA : Addr} {c : Nat → Addr} {g : Addr} {cdg : Value} (W : WordG K mg CA c) : GivesP P w K mg base NW "_law_word" (defScope lWord) g cdg (defBody lWord) "_law_work" (TWG c) := by
  intro A stack f s H Q tl G hG act hc h
  refine ⟨_, pss_cons (ps_set (i := 1) scW2.nd rfl (.inl rfl) (pe_lst pa_nil)) (pss_cons (ps_try_as (X := (cxOf C8.CX0 P w K mg base NW "_law_word" (defScope lWord) g cdg A stack s H C8.E0).nox) (i := 2) (n := "_law_e") (c := .ref CA)
      (tb := fun W D σ H => ∃ (Ech : XK) (lf : Addr) (Q0 : VK), (∀ cls d H', Ech cls d H' → W cls d σ H') ∧ σ = [some (.ref f), some (.ref lf), none, none, none, none] ∧ G H ∧ H lf = some (.lst []) ∧ (∀ v H1, Q0 v H1 → H1 lf = some (.lst []) ∧ D.nx σ (upd H1 lf (.lst [v]))) ∧ tl Ech H Q0)
      (ts := tsGA c) rfl rfl scW2.nd rfl rfl ⟨by rfl, rfl, .inl W.ca⟩ L2.takes0 (fun Wx pn xe tk _ => ?_) (fun a oe cls d pn hz hf => ⟨fun pins s2 σ2 H2 D2 I2 ⟨i, hi, r⟩ => (suite_wordG W hi a oe cls d pn hz hf).run pins s2 σ2 H2 D2 I2 r⟩))
    (pss_one (ps_ret (pe_tup (pa_cons pe_str (pa_cons (pe_ix ix_list (pv 1) pe_int (fun _ _ => rfl)) pa_nil)))))), ?_⟩
  · refine ⟨fun pins s' σ H' D I h' => ?_⟩
    obtain ⟨Ech, lf, Q0, hW, rfl, h1, hlf, h0, h2⟩ := h'
    obtain ⟨t, T, r⟩ : ∃ t, PSs ((cxOf C8.CX0 P w K mg base NW "_law_word" (defScope lWord) g cdg A stack s H C8.E0).tr pn xe) bodyW t ∧ t D [some (.ref f), some (.ref lf), none, none, none, none] H' := by
      refine ⟨_, pss_one (ps_expr (pe_bm PySem.F.plainAttrs_list PySem.F.slot_list_append PySem.F.type_list_append mt_append (pv 1) (pa_cons (pe_mono (act Wx pn xe Ech _ _ [some (.ref f), some (.ref lf), none, none, none, none] tk hW)) pa_nil))), ?_⟩
      refine ⟨_, rfl, .inl ⟨rfl, _, SqL.of hlf⟩, Q0, (fun v H1 hv0 => ?_), rfl, rfl, h1, h2⟩
      have hv := h0 v H1 hv0
      exact ⟨lf, _, _, rfl, rfl, hv.1, by show (0 : Nat) < sizeLine; rw [sizeLine_eq]; decide, hv.2⟩
    exact T.run pins s' _ H' D I r
  · refine ⟨by show (0 : Nat) ≤ sizeLine; decide, fun lf nlf => ?_⟩
    refine ⟨EWG c Q, lf, _, fun cls d H1 hE => ?_, rfl, hG _ _ ((Kept.refl H).upd nlf) hc, upd_same, (fun v H1 hv => ⟨hv.1, ?_⟩), h lf nlf⟩
    · obtain ⟨i, v, hi, rfl, he, k⟩ := hE
      exact ⟨true, W.exm i (by omega), fun _ a na => ⟨i, hi, v, _, _, rfl, he, rfl, k⟩, fun z => nomatch z⟩
    · exact ⟨_, rfl, lf, _, 0, v, rfl, rfl, SqL.of upd_same, at_of (j := 0) rfl rfl, by show (2 : Nat) ≤ sizeLine; rw [sizeLine_eq]; decide, hv.2⟩
end
end Ah
end
section
set_option Elab.async false
set_option linter.all false
set_option maxRecDepth 100000
set_option maxHeartbeats 4000000
namespace Ah
open PySem PySem.Spec PyProof.Rows L2 LamX
open GxR (TabG)
open GxG
/-! ### a display of few things -/
inductive Itm where
  | v (x : V) | t (xs : List V) | l (xs : List V)
def tVals : List V → TA
  | [] => tNil
  | x :: xs => tCons (tC x) (tVals xs)
def Itm.te : Itm → TE
  | .v x => tC x
  | .t xs => tTup (tVals xs)
  | .l xs => tLst (tVals xs)
def tItms : List Itm → TA
  | [] => tNil
  | x :: xs => tCons x.te (tItms xs)
def ItmAt (H H' : Hp) : Itm → V → Prop
  | .v x, u => u = x
  | .t xs, u => ∃ a, u = .ref a ∧ H' a = some (.tup xs) ∧ H a = none
  | .l xs, u => ∃ a, u = .ref a ∧ H' a = some (.lst xs) ∧ H a = none
theorem ItmAt.keep {H H1 H2 : Hp} (k : Kept [] H1 H2) : ∀ {i : Itm} {u : V}, ItmAt H H1 i u → ItmAt H H2 i u
  | .v _, _, h => h
  | .t _, _, ⟨a, e, h, n⟩ => ⟨a, e, k _ _ h (by simp), n⟩
  | .l _, _, ⟨a, e, h, n⟩ => ⟨a, e, k _ _ h (by simp), n⟩
theorem ItmAt.back {H0 H H1 : Hp} (k : Kept [] H0 H) : ∀ {i : Itm} {u : V}, ItmAt H H1 i u → ItmAt H0 H1 i u
  | .v _, _, h => h
  | .t _, _, ⟨a, e, h, n⟩ => ⟨a, e, h, none_of k n⟩
  | .l _, _, ⟨a, e, h, n⟩ => ⟨a, e, h, none_of k n⟩
theorem rd_vals {σ : L2.St} {H : Hp} {Q : List V → Hp → Prop} : ∀ {xs : List V}, Q xs H → tVals xs σ H Q
  | [], h => h
  | x :: xs, h => rd_vals (xs := xs) (Q := fun ys H' => Q (x :: ys) H') h
def Itm.le : Itm → Prop
  | .v _ => True
  | .t xs => xs.length ≤ 1000
  | .l xs => xs.length ≤ 1000
theorem rd_itm {σ : L2.St} {H : Hp} {Q : VK} : ∀ {i : Itm}, i.le → (∀ u H', Kept [] H H' → ItmAt H H' i u → Q u H') → i.te σ H Q
  | .v x, _, h => h x H (Kept.refl H) rfl
  | .t xs, hl, h => rd_vals (xs := xs) ⟨Nat.le_trans hl (by decide), fun a na => h _ _ ((Kept.refl H).upd na) ⟨a, rfl, upd_same, na⟩⟩
  | .l xs, hl, h => rd_vals (xs := xs) ⟨Nat.le_trans hl (by decide), fun a na => h _ _ ((Kept.refl H).upd na) ⟨a, rfl, upd_same, na⟩⟩
theorem rd_itms {σ : L2.St} : ∀ {is : List Itm} {H : Hp} {Q : List V → Hp → Prop}, (∀ i ∈ is, i.le) → (∀ us H', Kept [] H H' → Paired (ItmAt H H') is us → Q us H') → tItms is σ H Q
  | [], H, Q, _, h => h [] H (Kept.refl H) .nil
  | i :: is, H, Q, hl, h => rd_itm (hl i List.mem_cons_self) fun u H1 k1 a1 => rd_itms (is := is) (fun j hj => hl j (List.mem_cons_of_mem _ hj)) fun us H2 k2 a2 =>
      h (u :: us) H2 (k1.trans k2) (.cons (a1.keep k2) (Paired.mapP a2 fun _ _ z => z.back k1))
/-! ### what stands -/
/-- all stands but the draws' list and the tables -/
def Rl (p : Addr) (H H' : Hp) : Prop := ∀ b o, H b = some o → b ≠ p → (∀ ps, o ≠ .tbl ps) → H' b = some o
theorem Rl.trans {p : Addr} {H H1 H2 : Hp} (a : Rl p H H1) (b : Rl p H1 H2) : Rl p H H2 := fun c o e n m => b c o (a c o e n m) n m
theorem Rl.k0 {p : Addr} {H H' : Hp} (k : Kept [] H H') : Rl p H H' := fun b o e _ _ => k b o e (by simp)
theorem Rl.kd {p : Addr} {H H' : Hp} (k : Kept [p] H H') : Rl p H H' := fun b o e n _ => k b o e (by simpa using n)
theorem Rl.kp {p : Addr} {T : List Addr} {H H' : Hp} (ht : ∀ P ∈ T, TabG H P) (k : Kp T H H') : Rl p H H' := fun b o e _ m => k.obj ht e m
theorem Rl.tab {p P : Addr} {q : Str} {H H' : Hp} (t : TabS H P q) (k : ∀ b o, H b = some o → b ≠ P → H' b = some o) : Rl p H H' := fun b o e _ m => k b o e fun z => by
  obtain ⟨ps, e2, _⟩ := t
  rw [← z, e] at e2
  exact m ps (Option.some.inj e2)
theorem tabS_by {H H' : Hp} {P1 : Addr} {qn : Str} (t : LamX.TabS H P1 qn) (hk : ∀ b o, H b = some o → (b = P1 ∨ ∃ q, o = LamX.CodeO b q) → H' b = some o) : LamX.TabS H' P1 qn := by
  obtain ⟨ps, h1, h2, h3⟩ := t
  refine ⟨ps, hk _ _ h1 (.inl rfl), h2, fun pos cv hc => ?_⟩
  obtain ⟨c, e1, e2⟩ := h3 pos cv hc
  exact ⟨c, e1, hk _ _ e2 (.inr ⟨_, rfl⟩)⟩
theorem codeO_tbl {c : Addr} {q : Str} (ps : Array Value) : LamX.CodeO c q ≠ .tbl ps := fun z => by unfold LamX.CodeO at z; cases z
theorem codeO_lst {c : Addr} {q : Str} {xs : List V} : LamX.CodeO c q ≠ .lst xs := fun z => by unfold LamX.CodeO at z; cases z
structure L5 (K : PySem.W.Frag) (T : List Addr) (P1 P2 p sc : Addr) (ns : List Int) (q2 : Str) (H : Hp) : Prop where
  S : StAt K H p sc ns
  ht : ∀ P ∈ T, TabG H P
  t1 : TabS H P1 qAL
  t2 : TabS H P2 q2
structure Ap (T : List Addr) (P1 P2 : Addr) : Prop where
  n1 : P1 ∉ T
  n2 : P2 ∉ T
  n3 : P1 ≠ P2
section
variable {K : PySem.W.Frag} {T : List Addr} {P1 P2 p sc : Addr} {ns : List Int} {q2 : Str} {H H' : Hp}
theorem L5.pob (L : L5 K T P1 P2 p sc ns q2 H) : ∃ xs, H p = some (.lst xs) := L.S.ob
theorem StAt.rl (S : StAt K H p sc ns) (hp : ∃ xs, H' p = some (.lst xs) ∧ H p = some (.lst xs)) (k : Rl p H H') (ne : sc ≠ p) : StAt K H' p sc ns := by
  obtain ⟨i, r, m, h, h1, h2, h3⟩ := S
  obtain ⟨xs, e1, e2⟩ := hp
  rw [h] at e2
  cases Option.some.inj e2
  refine ⟨i, r, m, e1, h1, h2, ?_⟩
  rcases h3 with (h3 | ⟨ob, h3⟩) | h3
  · exact .inl (.inl (k _ _ h3 ne (fun _ q => nomatch q)))
  · exact .inl (.inr ⟨ob, k _ _ h3 ne (fun _ q => nomatch q)⟩)
  · exact .inr h3
theorem L5.k0 (L : L5 K T P1 P2 p sc ns q2 H) (k : Kept [] H H') : L5 K T P1 P2 p sc ns q2 H' := by
  have kt : ∀ {P : Addr} {q : Str}, TabS H P q → TabS H' P q := fun t => tabS_by t fun b o e _ => k b o e (by simp)
  obtain ⟨i, r, m, h, h1, h2, h3⟩ := L.S
  refine ⟨⟨i, r, m, k _ _ h (by simp), h1, h2, ?_⟩, (Kp.of' L.ht k).tab, kt L.t1, kt L.t2⟩
  rcases h3 with (h3 | ⟨ob, h3⟩) | h3
  · exact .inl (.inl (k _ _ h3 (by simp)))
  · exact .inl (.inr ⟨ob, k _ _ h3 (by simp)⟩)
  · exact .inr h3
theorem L5.draw (L : L5 K T P1 P2 p sc ns q2 H) (S : StAt K H' p sc ns) (k : Kept [p] H H') : L5 K T P1 P2 p sc ns q2 H' := by
  obtain ⟨xs, ep⟩ := L.S.ob
  have np : ∀ {b : Addr} {o : HO}, H b = some o → (∀ xs, o ≠ .lst xs) → b ∉ [p] := fun {b o} e n hm => by
    rw [List.mem_singleton.mp hm, ep] at e
    exact n _ (Option.some.inj e).symm
  have kt : ∀ {P : Addr} {q : Str}, TabS H P q → TabS H' P q := fun {P q} t => tabS_by t fun b o e hb => k b o e (np e fun xs z => by
    rcases hb with rfl | ⟨q, rfl⟩
    · obtain ⟨ps, e2, _⟩ := t
      rw [e, z] at e2
      cases e2
    · exact codeO_lst z)
  refine ⟨S, fun P hP => ?_, kt L.t1, kt L.t2⟩
  obtain ⟨qs, h2, h3⟩ := L.ht P hP
  exact ⟨qs, k _ _ h2 (np h2 fun _ z => nomatch z), h3⟩
theorem L5.tab (A : Ap T P1 P2) (L : L5 K T P1 P2 p sc ns q2 H) {P : Addr} {q : Str} (t : TabS H P q) (nT : P ∉ T) (k : ∀ b o, H b = some o → b ≠ P → H' b = some o) (t1 : TabS H' P1 qAL) (t2 : TabS H' P2 q2) : L5 K T P1 P2 p sc ns q2 H' := by
  have r : ∀ b o, H b = some o → (∀ ps, o ≠ .tbl ps) → H' b = some o := fun b o e m => k b o e fun z => by
    obtain ⟨ps, e2, _⟩ := t
    rw [← z, e] at e2
    exact m ps (Option.some.inj e2)
  obtain ⟨i, r', m, h, h1, h2, h3⟩ := L.S
  refine ⟨⟨i, r', m, r _ _ h (fun _ q => nomatch q), h1, h2, ?_⟩, fun P' hP => ?_, t1, t2⟩
  · rcases h3 with (h3 | ⟨ob, h3⟩) | h3
    · exact .inl (.inl (r _ _ h3 (fun _ q => nomatch q)))
    · exact .inl (.inr ⟨ob, r _ _ h3 (fun _ q => nomatch q)⟩)
    · exact .inr h3
  · obtain ⟨qs, e1, e2⟩ := L.ht P' hP
    exact ⟨qs, k _ _ e1 (fun z => nT (z ▸ hP)), e2⟩
theorem tab_other {P P' : Addr} {q : Str} (t : TabS H P q) {q' : Str} (t' : TabS H P' q') (ne : P ≠ P') (k : ∀ b o, H b = some o → b ≠ P' → H' b = some o) : TabS H' P q := tabS_by t fun b o e hb => k b o e fun z => by
  rcases hb with rfl | ⟨q, rfl⟩
  · exact ne z
  · obtain ⟨ps, e2, _⟩ := t'
    rw [← z, e] at e2
    exact codeO_tbl ps (Option.some.inj e2)
theorem L5.lam (A : Ap T P1 P2) (L : L5 K T P1 P2 p sc ns q2 H) (k : ∀ b o, H b = some o → b ≠ P2 → H' b = some o) (t2 : TabS H' P2 q2) : L5 K T P1 P2 p sc ns q2 H' := L.tab A L.t2 A.n2 k (tab_other L.t1 L.t2 A.n3 k) t2
theorem L5.kb (A : Ap T P1 P2) (L : L5 K T P1 P2 p sc ns q2 H) (k : Kb P1 H H') (t1 : TabS H' P1 qAL) : L5 K T P1 P2 p sc ns q2 H' := L.tab A L.t1 A.n1 k t1 (tab_other L.t2 L.t1 (Ne.symm A.n3) k)
theorem L5.kp (A : Ap T P1 P2) (L : L5 K T P1 P2 p sc ns q2 H) (k : Kp T H H') : L5 K T P1 P2 p sc ns q2 H' := by
  obtain ⟨i, r, m, h, h1, h2, h3⟩ := L.S
  refine ⟨⟨i, r, m, k.obj L.ht h, h1, h2, ?_⟩, k.tab, TabS.kp L.t1 A.n1 L.ht k, TabS.kp L.t2 A.n2 L.ht k⟩
  rcases h3 with (h3 | ⟨ob, h3⟩) | h3
  · exact .inl (.inl (k.obj L.ht h3))
  · exact .inl (.inr ⟨ob, k.obj L.ht h3⟩)
  · exact .inr h3
end
end Ah
end
section
set_option Elab.async false
set_option linter.all false
set_option maxRecDepth 100000
set_option maxHeartbeats 8000000
namespace Ah
open PySem PySem.Spec PyProof.Rows L2
/-! ### _law_saying -/
def SayTup (H : Hp) (v : V) (s : Say) : Prop := ∃ a, v = .ref a ∧ H a = some (.tup (s.ws.map V.str))
theorem SayTup.say {K : PySem.W.Frag} {H : Hp} {v : V} {s : Say} (h : SayTup H v s) : SayAt K H v s := let ⟨a, e, q⟩ := h; ⟨a, e, .inl (.of q)⟩
theorem SayTup.tk {H H' : Hp} {v : V} {s : Say} (k : TK H H') (h : SayTup H v s) : SayTup H' v s := let ⟨a, e, q⟩ := h; ⟨a, e, k.tup _ _ q⟩
theorem scLSay : FnScope ["_law_row_here", "_law_n", "_law_m"] ["_law_row_here"] (defScope lSaying) := ⟨rfl, rfl, rfl, by decide +kernel, rfl, by decide +kernel, by decide +kernel⟩
def spLSay (K : PySem.W.Frag) : Sp := fun vs H Q _ => ∃ (p a : Addr) (ns : List Int), vs = [.ref p] ∧ StAt K H p a ns ∧
  ∀ v s H', Say.few s → s ≠ .clash → StAt K H' p a ns → Kept [p] H H' → SayTup H' v s → Q v H'
section
variable {P : Program} {w : World} {K : PySem.W.Frag} {mg : Str → Option Value} {base : Heap} {f fT : Addr} {fd fdT : FuncData}
theorem ok_lsaying (F : FnP K "_law_saying" lSaying f fd) (c__law_taken : Own P w K mg base "_law_taken" 1 fT fdT ["_law_row_here", "_law_many"] (spTaken K)) :
    FnOk P w K mg base CX0 2 f fd ["_law_row_here"] (spLSay K) := by
  refine F.ok scLSay (fun vs H Q E h => ?_) (fun cdv A outer s H vs Q E hr h => ?_)
  · obtain ⟨p, a, ns, rfl, _⟩ := h
    rfl
  · obtain ⟨p, a, ns, rfl, S, k⟩ := h
    refine ⟨_, PSs.nox (pss_cons (ps_par (by rfl) scLSay.nd (i := 1) (j := 2) rfl rfl (by decide) rfl rfl (pa_cons (pe_ix ix_list (pe_lst (pa_cons pe_str (pa_cons pe_str (pa_cons pe_str pa_nil)))) (pe_call c__law_taken.ok hr (by rfl) c__law_taken.g c__law_taken.kp c__law_taken.b .nil pass0 (pa_cons (pv 0) (pa_cons pe_int pa_nil))) (fun _ _ => rfl)) (pa_cons (pe_ix ix_list (pe_lst (pa_cons pe_str (pa_cons pe_str (pa_cons pe_str pa_nil)))) (pe_call c__law_taken.ok hr (by rfl) c__law_taken.g c__law_taken.kp c__law_taken.b .nil pass0 (pa_cons (pv 0) (pa_cons pe_int pa_nil))) (fun _ _ => rfl)) pa_nil)) (by rfl))
      (pss_cons (ps_if (pt_cmpR op_eq (pe_call c__law_taken.ok hr (by rfl) c__law_taken.g c__law_taken.kp c__law_taken.b .nil pass0 (pa_cons (pv 0) (pa_cons pe_int pa_nil))) pe_int (nomark _))
        (pss_one (ps_ret (pe_tup (pa_cons pe_str (pa_cons (pv 1) (pa_cons (pe_ix ix_list (pe_lst (pa_cons pe_str (pa_cons pe_str (pa_cons pe_str pa_nil)))) (pe_call c__law_taken.ok hr (by rfl) c__law_taken.g c__law_taken.kp c__law_taken.b .nil pass0 (pa_cons (pv 0) (pa_cons pe_int pa_nil))) (fun _ _ => rfl)) pa_nil)))))) pss_nil)
      (pss_one (ps_ret (pe_tup (pa_cons pe_str (pa_cons (pv 1) (pa_cons (pe_ix ix_list (pe_lst (pa_cons pe_str (pa_cons pe_str pa_nil))) (pe_call c__law_taken.ok hr (by rfl) c__law_taken.g c__law_taken.kp c__law_taken.b .nil pass0 (pa_cons (pv 0) (pa_cons pe_int pa_nil))) (fun _ _ => rfl)) (pa_cons (pv 2) pa_nil))))))))), ?_⟩
    refine rd_pick (l := namesL) (valA_str (valA_str (valA_str valA_nil))) rfl (by decide) (by decide) rfl S fun n hn H1 S1 k1 => ?_
    refine rd_pick (l := namesL) (valA_str (valA_str (valA_str valA_nil))) rfl (by decide) (by decide) rfl S1 fun m hm H2 S2 k2 => ⟨_, _, rfl, ?_⟩
    refine ⟨_, rfl, p, a, ns, 2, rfl, S2, by decide, by decide, fun j H3 hj0 hj1 S3 k3 => ⟨rfl, _, rfl, ?_⟩⟩
    have fin : ∀ (H4 : Hp) (s : Say) (q : Addr), Say.few s → s ≠ .clash → StAt K H4 p a ns → Kept [p] H3 H4 → H4 q = none → s.ws.length ≤ 10 → Q (.ref q) (L2.upd H4 q (.tup (s.ws.map V.str))) := fun H4 s q h1 h2 h3 h4 h5 _ =>
      k _ s _ h1 h2 (h3.upd h5) ((((k1.trans k2).trans k3).trans h4).upd h5) ⟨q, rfl, upd_same⟩
    refine ite2 (fun hb => ?_) (fun hb => ?_)
    · refine ⟨_, rfl, ?_⟩
      refine rd_pick (l := kindsL) (valA_str (valA_str (valA_str valA_nil))) rfl (by decide) (by decide) rfl S3 fun c hc H4 S4 k4 => ⟨(by show 3 ≤ sizeLine; decide), fun q nq => ?_⟩
      exact fin H4 (.is n c) q ⟨hn, hc⟩ (fun z => nomatch z) S4 k4 nq (by show 3 ≤ 10; decide)
    · refine ⟨_, rfl, ?_⟩
      refine rd_pick (l := tiesL) (valA_str (valA_str valA_nil)) rfl (by decide) (by decide) rfl S3 fun t ht H4 S4 k4 => ⟨_, rfl, (by show 4 ≤ sizeLine; decide), fun q nq => ?_⟩
      exact fin H4 (.has n t m) q ⟨hn, ht, hm⟩ (fun z => nomatch z) S4 k4 nq (by show 4 ≤ 10; decide)
end
end Ah
end
section
set_option Elab.async false
set_option linter.all false
set_option maxRecDepth 100000
set_option maxHeartbeats 4000000
namespace Ah
open PySem PySem.Spec PyProof.Rows L2 LamX
open GxR (TabG)
open GxG
/-! ### what the law holds -/
theorem few_rowB {r : Rw} (h : r.few) : isRowL (r.ws.map V.str) = true ∧ ∀ z ∈ r.ws, z.length ≤ 100 := by
  have nk : ∀ n ∈ namesL, ∀ k ∈ kindsL, ∀ l ∈ kindsL, ∀ m ∈ namesL, ∀ t ∈ tiesL, ∀ s ∈ tiesL, ∀ x ∈ [Rw.is n k, Rw.isnt n k, Rw.has n t m, Rw.hasnt n t m, Rw.all k l, Rw.no k l, Rw.each k t m, Rw.who t k l, Rw.turned t s, Rw.on t, Rw.fr t k, Rw.to t k, Rw.under t s],
      (isRowL (x.ws.map V.str) && x.ws.all fun z => decide (z.length ≤ 100)) = true := by decide +kernel
  have fin : (isRowL (r.ws.map V.str) && r.ws.all fun z => decide (z.length ≤ 100)) = true := by
    have n0 : ("ann" : Str) ∈ namesL := by decide
    have k0 : ("cat" : Str) ∈ kindsL := by decide
    have t0 : ("likes" : Str) ∈ tiesL := by decide
    cases r <;> simp only [Rw.few] at h
    · exact nk _ h.1 _ h.2 _ k0 _ n0 _ t0 _ t0 _ (by simp)
    · exact nk _ h.1 _ h.2 _ k0 _ n0 _ t0 _ t0 _ (by simp)
    · exact nk _ h.1 _ k0 _ k0 _ h.2.2 _ h.2.1 _ t0 _ (by simp)
    · exact nk _ h.1 _ k0 _ k0 _ h.2.2 _ h.2.1 _ t0 _ (by simp)
    · exact nk _ n0 _ h.1 _ h.2 _ n0 _ t0 _ t0 _ (by simp)
    · exact nk _ n0 _ h.1 _ h.2 _ n0 _ t0 _ t0 _ (by simp)
    · exact nk _ n0 _ h.1 _ k0 _ h.2.2 _ h.2.1 _ t0 _ (by simp)
    · exact nk _ n0 _ h.2.1 _ h.2.2 _ n0 _ h.1 _ t0 _ (by simp)
    · exact nk _ n0 _ k0 _ k0 _ n0 _ h.1 _ h.2 _ (by simp)
    · exact nk _ n0 _ k0 _ k0 _ n0 _ h _ t0 _ (by simp)
    · exact nk _ n0 _ h.2 _ k0 _ n0 _ h.1 _ t0 _ (by simp)
    · exact nk _ n0 _ h.2 _ k0 _ n0 _ h.1 _ t0 _ (by simp)
    · exact nk _ n0 _ k0 _ k0 _ n0 _ h.1 _ h.2 _ (by simp)
  obtain ⟨a, b⟩ := Bool.and_eq_true_iff.mp fin
  exact ⟨a, fun z hz => of_decide_eq_true (List.all_eq_true.mp b z hz)⟩
def RowRef (H : Hp) (v : V) : Prop := ∃ (r : Addr) (q : Rw), v = .ref r ∧ q.few ∧ H r = some (.tup (q.ws.map V.str))
theorem rows_refs {H : Hp} {ps : List Addr} {rs : List Rw} (r : Paired (fun a r => H a = some (.tup ((Rw.ws r).map V.str))) ps rs) (hf : ∀ r ∈ rs, r.few) : ∀ v ∈ ps.map V.ref, RowRef H v := fun v hv => by
  obtain ⟨a, ha, rfl⟩ := List.mem_map.mp hv
  obtain ⟨i, hi⟩ := List.mem_iff_getElem?.mp ha
  obtain ⟨r', er, hr1⟩ := paired_at r hi
  exact ⟨a, r', rfl, hf _ (List.mem_of_getElem? er), hr1⟩

theorem RowRef.rowT {H : Hp} {v : V} (h : RowRef H v) : RowT H v true := by
  obtain ⟨r, q, rfl, hq, er⟩ := h
  obtain ⟨e1, e2⟩ := few_rowB hq
  refine .inr ⟨r, _, rfl, er, ?_, fun x hx => ?_, e1.symm⟩
  · rw [List.length_map]
    exact Nat.le_trans (show q.ws.length ≤ 10 by cases q <;> simp [Rw.ws]) (by decide)
  · obtain ⟨z, hz, rfl⟩ := List.mem_map.mp hx
    exact .inl ⟨z, rfl, Nat.le_trans (e2 z hz) (by decide)⟩
section
variable {p : Addr} {H H' : Hp}
theorem rl_tup (hp : ∃ xs, H p = some (.lst xs)) (k : Rl p H H') {b : Addr} {xs : List V} (e : H b = some (.tup xs)) : H' b = some (.tup xs) := k _ _ e (fun z => by
  obtain ⟨ys, h⟩ := hp
  rw [z, h] at e
  cases e) (fun _ z => nomatch z)
structure FTx (b : Addr) (rs : List V) (H : Hp) : Prop where
  ob : H b = some (.tup rs)
  len : rs.length ≤ 6
  rows : ∀ v ∈ rs, RowRef H v
theorem FTx.rl {b : Addr} {rs : List V} (h : FTx b rs H) (hp : ∃ xs, H p = some (.lst xs)) (k : Rl p H H') : FTx b rs H' := ⟨rl_tup hp k h.ob, h.len, fun v hv => by
  obtain ⟨r, q, e, hq, er⟩ := h.rows v hv
  exact ⟨r, q, e, hq, rl_tup hp k er⟩⟩
theorem FTx.txt {b : Addr} {rs : List V} (h : FTx b rs H) : TxtG H (.ref b) := ⟨b, rs, rfl, h.ob, Nat.le_trans h.len (by decide), fun v hv => (h.rows v hv).rowT⟩
/-- few items -/
def okI (xs : List V) : Bool := decide (xs.length ≤ 1000) && xs.all fun x => match x with | .str z => decide (z.length ≤ 1000) | .int _ => true | .non => true | _ => false
theorem okI_plain {xs : List V} (h : okI xs = true) : xs.length ≤ 1000 ∧ ∀ x ∈ xs, (∃ z, x = .str z ∧ z.length ≤ sizeLine) ∨ x = .non ∨ ∃ i, x = .int i := by
  obtain ⟨h1, h2⟩ := Bool.and_eq_true_iff.mp h
  refine ⟨of_decide_eq_true h1, fun x hx => ?_⟩
  have := List.all_eq_true.mp h2 x hx
  cases x <;> simp only at this
  all_goals first | exact .inr (.inr ⟨_, rfl⟩) | exact .inr (.inl rfl) | exact .inl ⟨_, rfl, Nat.le_trans (of_decide_eq_true this) (by decide)⟩ | exact absurd this (by decide)
/-- what is none, by g -/
def OddG (g : List V → Bool) (p : Addr) (H : Hp) (v : V) : Prop := ((∃ z, v = .str z) ∨ v = .non ∨ (∃ i, v = .int i) ∨ ∃ a xs, v = .ref a ∧ a ≠ p ∧ H a = some (.lst xs)) ∨ ∃ a xs, v = .ref a ∧ H a = some (.tup xs) ∧ okI xs = true ∧ g xs = false
theorem OddG.rl {g : List V → Bool} {v : V} (h : OddG g p H v) (hp : ∃ xs, H p = some (.lst xs)) (k : Rl p H H') : OddG g p H' v := by
  rcases h with (h | h | h | ⟨a, xs, e, n, h⟩) | ⟨a, xs, e, h, h1, h2⟩
  · exact .inl (.inl h)
  · exact .inl (.inr (.inl h))
  · exact .inl (.inr (.inr (.inl h)))
  · exact .inl (.inr (.inr (.inr ⟨a, xs, e, n, k _ _ h n (fun _ z => nomatch z)⟩)))
  · exact .inr ⟨a, xs, e, rl_tup hp k h, h1, h2⟩
def gS (xs : List V) : Bool := isRowL xs && saidL xs
def gQ (xs : List V) : Bool := isRowL (xs.map qW) && saidL (xs.map qW)
theorem OddG.say {v : V} (h : OddG gS p H v) : SayT H v false := by
  rcases h with (h | h | h | ⟨a, xs, e, _, h⟩) | ⟨a, xs, e, h, h1, h2⟩
  · exact .inl ⟨.inl ⟨.inl h, rfl⟩, rfl⟩
  · exact .inl ⟨.inl ⟨.inr (.inl h), rfl⟩, rfl⟩
  · exact .inl ⟨.inl ⟨.inr (.inr (.inl h)), rfl⟩, rfl⟩
  · exact .inl ⟨.inl ⟨.inr (.inr (.inr ⟨a, xs, e, h⟩)), rfl⟩, rfl⟩
  · obtain ⟨q1, q2⟩ := okI_plain h1
    have hp : ∀ x ∈ xs, PlainV H x := fun x hx => by
      rcases q2 x hx with z | z | z
      · exact .inl z
      · exact .inr (.inl z)
      · exact .inr (.inr (.inl z))
    cases hr : isRowL xs with
    | false => exact .inl ⟨.inr ⟨a, xs, e, h, q1, hp, hr.symm⟩, rfl⟩
    | true =>
      have h3 : saidL xs = false := by
        unfold gS at h2
        rw [hr] at h2
        exact h2
      exact .inr ⟨a, xs, e, h, .inr ⟨a, xs, e, h, q1, hp, hr.symm⟩, hr, h3.symm⟩
theorem OddG.qst {v : V} (h : OddG gQ p H v) : QstT H v false := by
  rcases h with (h | h | h | ⟨a, xs, e, _, h⟩) | ⟨a, xs, e, h, h1, h2⟩
  · exact .inl ⟨.inr (.inl h), rfl⟩
  · exact .inl ⟨.inl h, rfl⟩
  · exact .inl ⟨.inr (.inr (.inl h)), rfl⟩
  · exact .inl ⟨.inr (.inr (.inr ⟨a, xs, e, h⟩)), rfl⟩
  · obtain ⟨q1, q2⟩ := okI_plain h1
    exact .inr ⟨a, xs, e, h, q1, fun x hx => by
      rcases q2 x hx with z | z | z
      · exact .inl z
      · exact .inr (.inl z)
      · exact .inr (.inr (.inl z)), h2⟩
/-- an item of a display that is none by g -/
def Itm.odd (g : List V → Bool) : Itm → Bool
  | .v (.str _) => true
  | .v .non => true
  | .v (.int _) => true
  | .v _ => false
  | .t xs => okI xs && !g xs
  | .l _ => true
theorem itm_odd {g : List V → Bool} {H0 : Hp} {i : Itm} {u : V} (h : ItmAt H0 H i u) (hi : i.odd g = true) (hp : ∃ xs, H0 p = some (.lst xs)) : OddG g p H u := by
  cases i with
  | v x =>
    obtain rfl : u = x := h
    cases u <;> first | exact .inl (.inl ⟨_, rfl⟩) | exact .inl (.inr (.inl rfl)) | exact .inl (.inr (.inr (.inl ⟨_, rfl⟩))) | exact absurd hi (by simp [Itm.odd])
  | t xs =>
    obtain ⟨a, e, h, n⟩ := h
    obtain ⟨h1, h2⟩ := Bool.and_eq_true_iff.mp (show (okI xs && !g xs) = true from hi)
    exact .inr ⟨a, xs, e, h, h1, by simpa using h2⟩
  | l xs =>
    obtain ⟨a, e, h, n⟩ := h
    have ne : a ≠ p := fun z => by
      obtain ⟨ys, q⟩ := hp
      rw [z, q] at n
      cases n
    exact .inl (.inr (.inr (.inr ⟨a, xs, e, ne, h⟩)))
/-- a list of such -/
structure FOd (g : List V → Bool) (p l : Addr) (os : List V) (H : Hp) : Prop where
  ob : H l = some (.lst os)
  np : l ≠ p
  odd : ∀ v ∈ os, OddG g p H v
theorem FOd.rl {g : List V → Bool} {l : Addr} {os : List V} (h : FOd g p l os H) (hp : ∃ xs, H p = some (.lst xs)) (k : Rl p H H') : FOd g p l os H' := ⟨k _ _ h.ob h.np (fun _ z => nomatch z), h.np, fun v hv => (h.odd v hv).rl hp k⟩
end
def oddA : List Itm := [.t [.str "isnt", .str "ann", .str "cat"], .t [.str "is", .str "ann"], .t [.str "on", .str "likes"], .t [], .v .non, .v (.int 5), .v (.str "is"), .l [.str "is", .str "ann", .str "cat"]]
def oddB : List Itm := [.t [.str "has", .str "ann", .str "likes"], .t [.str "is", .str "Ann", .str "cat"], .t [.str "is", .non, .str "cat"], .t [.str "is", .str "all", .str "cat"]]
def qstA : List Itm := [.t [.str "isnt", .non, .non], .t [.str "is", .non], .t [], .v .non, .v (.int 5), .v (.str "is"), .t [.str "has", .non, .non], .t [.str "is", .str "Ann", .non]]
def qstB : List Itm := [.l [.str "is", .non, .non], .t [.str "has", .str "ann", .str "likes", .str "to"], .t [.str "is", .non, .int 5], .t [.non, .non, .non]]
theorem fr_of {p l : Addr} {H H' : Hp} (hp : ∃ xs, H p = some (.lst xs)) (k : Kept [] H H') (n : H' l = none) : l ≠ p := fun z => by
  obtain ⟨xs, e⟩ := hp
  rw [z, k _ _ e (by simp)] at n
  cases n
theorem odd_all {g : List V → Bool} {p : Addr} {H0 H1 H : Hp} : ∀ {is : List Itm} {us : List V}, is.all (·.odd g) = true → (∃ xs, H0 p = some (.lst xs)) → Kept [] H1 H → Paired (ItmAt H0 H1) is us → ∀ v ∈ us, OddG g p H v
  | _, _, _, _, _, .nil => fun v h => nomatch h
  | i :: is, u :: us, ha, hp, k, .cons h t => fun v hv => by
    have ha : (i.odd g && is.all (·.odd g)) = true := ha
    obtain ⟨a1, a2⟩ := Bool.and_eq_true_iff.mp ha
    rcases List.mem_cons.mp hv with rfl | hv
    · exact itm_odd (h.keep k) a1 hp
    · exact odd_all a2 hp k t v hv
instance (i : Itm) : Decidable i.le := by
  cases i <;> unfold Itm.le <;> infer_instance
/-! ### the law's lambdas -/
abbrev lawN : List Str := ["_law_script", "_law_row_here", "_law_rows", "_law_far", "_law_odd", "_law_bad", "_law_works", "_law_work", "_law_question", "_law_word_here", "_law_many", "_law_number", "_law_saying_here", "_law_words"]
theorem scLaw : FnScope lawN ["_law_script"] (defScope lLaw) := ⟨rfl, rfl, rfl, by decide +kernel, rfl, by decide +kernel, by decide +kernel⟩
abbrev qLaw : Str := ("law" : Str) ++ ".<locals>." ++ "<lambda>"
def lamOf : Expr → List Expr
  | .Lambda p b s q => [.Lambda p b s q]
  | .Call (.Name _ _) [.Lambda p b s q] _ _ => [.Lambda p b s q]
  | .Call _ [.Call (.Name _ _) [.Lambda p b s q] _ _] _ _ => [.Lambda p b s q]
  | _ => []
def lamsOf : Stmt → List Expr
  | .Assign _ (.List es _) _ => es.flatMap lamOf
  | .Assign _ (.BinOp _ _ (.List es _) _) _ => es.flatMap lamOf
  | .Expr (.Call _ [.Lambda p b s q] _ _) _ => [.Lambda p b s q]
  | .Expr (.Call _ [.Call (.Name _ _) [.Lambda p b s q] _ _] _ _) _ => [.Lambda p b s q]
  | .If (.Compare (.Call (.Name _ _) [.Lambda p b s q] _ _) _ _ _) _ _ _ => [.Lambda p b s q]
  | _ => []
def worksL : List Expr := (defBody lLaw).flatMap lamsOf
def lamP (i : Nat) : Arguments := match worksL[i]? with
  | some (.Lambda p _ _ _) => p
  | _ => defArgs lLaw
def lamB (i : Nat) : Expr := match worksL[i]? with
  | some (.Lambda _ b _ _) => b
  | _ => .Name "none" ⟨0, 0, 0, 0⟩
def lamS (i : Nat) : Scope := match worksL[i]? with
  | some (.Lambda _ _ s _) => s
  | _ => defScope lLaw
def tRB : TA := tCons (tVar 2) (tCons (tVar 5) tNil)
def lamE0 (T : List Addr) (C CH : Addr) : LamE := ⟨lamP 0, lamB 0, lamS 0, false, fun E => tCall (spS T C 0) [] E (tCons (tVar 2) (tCons (tVar 5) tNil))⟩
def lamE1 (T : List Addr) (C CH : Addr) : LamE := ⟨lamP 1, lamB 1, lamS 1, true, fun E => tCall (spS T C 0) [] E (tCons (tVar 2) (tCons (tVar 5) tNil))⟩
def lamE2 (T : List Addr) (C CH : Addr) : LamE := ⟨lamP 2, lamB 2, lamS 2, true, fun E => tCall (spS T C 0) [] E (tCons (tVar 2) (tCons (tVar 5) tNil))⟩
def lamE3 (T : List Addr) (C CH : Addr) : LamE := ⟨lamP 3, lamB 3, lamS 3, true, fun E => tCallN 2 1 (spS T C 1) (fun vs zs => vs ++ zs) E (tCons (tVar 2) (tCons (tVar 5) tNil)) (tCons (tC (.int 9)) tNil)⟩
def lamE4 (T : List Addr) (C CH : Addr) : LamE := ⟨lamP 4, lamB 4, lamS 4, true, fun E => tCall (spS T C 0) [] E (tCons (tVar 2) (tCons (tVar 5) tNil))⟩
def lamE5 (K : PySem.W.Frag) (T : List Addr) (C CH : Addr) : LamE := ⟨lamP 5, lamB 5, lamS 5, true, fun E => tMeth CH "ask" (spHA T C CH) [] E (tMake CH (spHI K T CH) [] L2.E0 (tCons (tVar 2) tNil)) (tCons (tVar 5) tNil)⟩
theorem lamS_ok0 : lamSDB lawN (defScope lLaw) (lamS 0) = true := by decide +kernel
theorem lamS_ok1 : lamSDB lawN (defScope lLaw) (lamS 1) = true := by decide +kernel
theorem lamS_ok2 : lamSDB lawN (defScope lLaw) (lamS 2) = true := by decide +kernel
theorem lamS_ok3 : lamSDB lawN (defScope lLaw) (lamS 3) = true := by decide +kernel
theorem lamS_ok4 : lamSDB lawN (defScope lLaw) (lamS 4) = true := by decide +kernel
theorem lamS_ok5 : lamSDB lawN (defScope lLaw) (lamS 5) = true := by decide +kernel
theorem lamS_ok6 : lamSDB lawN (defScope lLaw) (lamS 6) = true := by decide +kernel
theorem lamS_ok7 : lamSDB lawN (defScope lLaw) (lamS 7) = true := by decide +kernel
theorem lamS_ok8 : lamSDB lawN (defScope lLaw) (lamS 8) = true := by decide +kernel
theorem lamS_ok9 : lamSDB lawN (defScope lLaw) (lamS 9) = true := by decide +kernel
theorem lamS_ok10 : lamSDB lawN (defScope lLaw) (lamS 10) = true := by decide +kernel
def lawLs (K : PySem.W.Frag) (T : List Addr) (C CH : Addr) : List LamE := [lamE0 T C CH, lamE1 T C CH, lamE2 T C CH, lamE3 T C CH, lamE4 T C CH, lamE5 K T C CH]
theorem pr_keep {α β : Type} {F G : α → β → Prop} (h : ∀ a b, F a b → G a b) : ∀ {l : List α} {m : List β}, Paired F l m → Paired G l m
  | _, _, .nil => .nil
  | _, _, .cons a r => .cons (h _ _ a) (pr_keep h r)
/-- the list of what is to be done, so far -/
structure Wk (q : Str) (cells : List (Str × Addr)) (ds : List LamE) (wk : Addr) (fs : List Addr) (H : Hp) : Prop where
  ob : H wk = some (.lst (fs.map V.ref))
  pr : Paired (fun d f => LamEAt q cells H d f) ds fs

theorem Wk.rl {p : Addr} {H H' : Hp} {q : Str} {cells : List (Str × Addr)} {ds : List LamE} {wk : Addr} {fs : List Addr} (W : Wk q cells ds wk fs H) (np : wk ≠ p) (hp : ∃ xs, H p = some (.lst xs)) (k : Rl p H H') : Wk q cells ds wk fs H' := ⟨k _ _ W.ob np (fun _ z => nomatch z), pr_keep (fun _ _ h => LamAt.keep h fun b o e n m => k b o e (fun z => by
  obtain ⟨xs, h⟩ := hp
  rw [z, h] at e
  exact m _ (Option.some.inj e).symm) n) W.pr⟩
theorem L5.put {K : PySem.W.Frag} {T : List Addr} {P1 P2 p sc : Addr} {ns : List Int} {q2 : Str} {H : Hp} (L : L5 K T P1 P2 p sc ns q2 H) {wk r : Addr} {os xs : List V} (h : H wk = some (.lst (.ref r :: os))) (np : wk ≠ p) : L5 K T P1 P2 p sc ns q2 (upd H wk (.lst xs)) := by
  have kk : ∀ b o, H b = some o → (∀ zs, o ≠ .lst zs) → (upd H wk (.lst xs)) b = some o := fun b o e n => (upd_ne fun z => by
    rw [z, h] at e
    exact n _ (Option.some.inj e).symm).trans e
  have kt : ∀ {P : Addr} {q : Str}, TabS H P q → TabS (upd H wk (.lst xs)) P q := fun {P q} t => tabS_by t fun b o e hb => kk b o e fun zs z => by
    rcases hb with rfl | ⟨q, rfl⟩
    · obtain ⟨ps, e2, _⟩ := t
      rw [e, z] at e2
      cases e2
    · exact codeO_lst z
  obtain ⟨i, r', m, e, h1, h2, h3⟩ := L.S
  refine ⟨⟨i, r', m, (upd_ne (Ne.symm np)).trans e, h1, h2, seqL_upd h h3 fun z => ?_⟩, fun P hP => ?_, kt L.t1, kt L.t2⟩
  · cases ns with
    | nil => cases z
    | cons a l => cases z
  · obtain ⟨qs, e1, e2⟩ := L.ht P hP
    exact ⟨qs, kk _ _ e1 (fun _ z => nomatch z), e2⟩
/-- a list put in place: what is no list stands -/
theorem FTx.put {b wk : Addr} {rs os xs : List V} {H : Hp} (h : FTx b rs H) (e : H wk = some (.lst os)) : FTx b rs (upd H wk (.lst xs)) := by
  have kk : ∀ b zs, H b = some (.tup zs) → (upd H wk (.lst xs)) b = some (.tup zs) := fun b zs q => (upd_ne fun z => by
    rw [z, e] at q
    cases q).trans q
  exact ⟨kk _ _ h.ob, h.len, fun v hv => by
    obtain ⟨r, q, e, hq, er⟩ := h.rows v hv
    exact ⟨r, q, e, hq, kk _ _ er⟩⟩
theorem OddG.put {g : List V → Bool} {p wk : Addr} {v : V} {os xs : List V} {H : Hp} (h : OddG g p H v) (e : H wk = some (.lst os)) : OddG g p (upd H wk (.lst xs)) v := by
  rcases h with (h | h | h | ⟨a, zs, rfl, n, h⟩) | ⟨a, zs, rfl, h, h1, h2⟩
  · exact .inl (.inl h)
  · exact .inl (.inr (.inl h))
  · exact .inl (.inr (.inr (.inl h)))
  · by_cases hb : a = wk
    · exact .inl (.inr (.inr (.inr ⟨a, xs, rfl, n, by rw [hb]; exact upd_same⟩)))
    · exact .inl (.inr (.inr (.inr ⟨a, zs, rfl, n, (upd_ne hb).trans h⟩)))
  · exact .inr ⟨a, zs, rfl, (upd_ne fun z => by
      rw [z, e] at h
      cases h).trans h, h1, h2⟩
theorem wE.kp {E : XK} {C : Addr} {T : List Addr} {H H' : Hp} (h : wE E C T H) (k : Kp T H H') : wE E C T H' := fun H2 k2 => h H2 (k.trans k2)
theorem doors5 {K : PySem.W.Frag} {T : List Addr} {C CH b : Addr} {rs : List V} {σ : L2.St} {H : Hp} {Q : VK} {E : XK} {v : V} (h2 : σ[2]? = some (some (.ref b))) (h5 : σ[5]? = some (some v)) (ht : ∀ P ∈ T, TabG H P) (X : FTx b rs H) (sv : SayT H v false) (hw : wE E C T H) : ∀ d ∈ lawLs K T C CH, d.t E σ H Q := by
  intro d hd
  unfold lawLs at hd
  simp only [List.mem_cons, List.not_mem_nil, or_false] at hd
  rcases hd with rfl | rfl | rfl | rfl | rfl | rfl
  · exact ⟨_, h2, v, h5, .ref b, v, [], rfl, rfl, ht, X.txt, sv, hw⟩
  · exact ⟨_, h2, v, h5, .ref b, v, [], rfl, rfl, ht, X.txt, sv, hw⟩
  · exact ⟨_, h2, v, h5, .ref b, v, [], rfl, rfl, ht, X.txt, sv, hw⟩
  · exact ⟨_, h2, v, h5, rfl, rfl, .ref b, v, [.int 9], rfl, rfl, ht, X.txt, sv, hw⟩
  · exact ⟨_, h2, v, h5, .ref b, v, [], rfl, rfl, ht, X.txt, sv, hw⟩
  · refine ⟨_, h2, fun x dx nx ndx ne => ?_⟩
    have kx0 : Kept [] H (upd (upd H dx (.own x)) x (.ins CH dx [])) := ((Kept.refl H).upd (o := .own x) ndx).upd (o := .ins CH dx []) (by rw [upd_ne (Ne.symm ne)]; exact nx)
    have kx := Kp.of' ht kx0
    refine ⟨x, dx, b, rs, rfl, upd_same, kx0 _ _ X.ob (by simp), Nat.le_trans X.len (by decide), fun r hr => ((X.rows r hr).rowT.kp ht kx).row, kx.tab, fun H' ak ev k1 t1 _ _ S => ⟨rfl, ?_⟩⟩
    have k2 : Kp T H H' := ⟨t1, fun c o e n => k1 c o (kx0 c o e (by simp)) n (fun z => by
      rw [z, nx] at e
      cases e)⟩
    exact ⟨x, dx, _, rfl, S.ob, rfl, v, h5, x, dx, ak, ev, .ref b, v, rfl, S, k2.tab, X.txt.kp ht k2, sv.kp ht k2, hw.kp k2⟩
/-! ### what a word is -/
def dNm (z : Str) : PyData := .tuple [.str z, .none]
theorem dp_nm {K : PySem.W.Frag} {H : Hp} {q : Addr} {z : Str} (h : H q = some (.tup [.str z, .non])) : Dp K H (.ref q) (dNm z) := .tup (.inl (.of h)) (.cons (.str _) (.cons .non .nil))
theorem sh_say : SeqAt.shaped (dNm "saying") = true := by decide +kernel
theorem eq_say : PyData.eqv (dNm "saying") (dNm "saying") = true := by decide +kernel
theorem sh_nl : SeqAt.shaped (.list []) = true := by decide +kernel
theorem eq_nl : PyData.eqv (.list []) (.list []) = true := by decide +kernel
/-! ### answers, counts, numbers, words -/
def ansA : List Itm := [.v (.str "Yes"), .v (.str ""), .v .non, .v (.int 5), .t [.str "yes"]]
def FAns (H : Hp) (a : V) : Prop := (a = .non ∨ (∃ i, a = .int i) ∨ (∃ b xs, a = .ref b ∧ H b = some (.tup xs))) ∨ ∃ z : Str, a = .str z ∧ (z = "Yes" ∨ z = "")
theorem FAns.rl {p : Addr} {H H' : Hp} {a : V} (h : FAns H a) (hp : ∃ xs, H p = some (.lst xs)) (k : Rl p H H') : FAns H' a := by
  rcases h with (h | h | ⟨b, xs, e, h⟩) | h
  · exact .inl (.inl h)
  · exact .inl (.inr (.inl h))
  · exact .inl (.inr (.inr ⟨b, xs, e, rl_tup hp k h⟩))
  · exact .inr h
theorem ans_all {H0 H1 : Hp} {us : List V} (h : Paired (ItmAt H0 H1) ansA us) : ∀ v ∈ us, FAns H1 v := by
  unfold ansA at h
  cases h with
  | cons h0 h =>
  cases h with
  | cons h1 h =>
  cases h with
  | cons h2 h =>
  cases h with
  | cons h3 h =>
  cases h with
  | cons h4 h =>
  cases h
  intro v hv
  simp only [List.mem_cons, List.not_mem_nil, or_false] at hv
  rcases hv with rfl | rfl | rfl | rfl | rfl
  · exact .inr ⟨_, h0, .inl rfl⟩
  · exact .inr ⟨_, h1, .inr rfl⟩
  · exact .inl (.inl h2)
  · exact .inl (.inr (.inl ⟨_, h3⟩))
  · obtain ⟨a, e, h, _⟩ := h4
    exact .inl (.inr (.inr ⟨a, _, e, h⟩))
theorem count_all (far : Nat) : ∀ v ∈ ([.int (3 + (far : Int)), .int (0 - 1 - (far : Int)), .non, .bl true, .str "1"] : List V), NumV v ∧ isNumL 3 v = false := by
  intro v hv
  simp only [List.mem_cons, List.not_mem_nil, or_false] at hv
  rcases hv with rfl | rfl | rfl | rfl | rfl
  · refine ⟨.inl ⟨_, rfl⟩, ?_⟩
    show (decide ((0:Int) ≤ 3 + (far : Int)) && decide (3 + (far : Int) < (3:Int))) = false
    simp
    omega
  · refine ⟨.inl ⟨_, rfl⟩, ?_⟩
    show (decide ((0:Int) ≤ 0 - 1 - (far : Int)) && decide (0 - 1 - (far : Int) < (3:Int))) = false
    simp
    omega
  · exact ⟨.inr (.inl rfl), rfl⟩
  · exact ⟨.inr (.inr (.inl ⟨_, rfl⟩)), rfl⟩
  · exact ⟨.inr (.inr (.inr ⟨_, rfl⟩)), rfl⟩
theorem number_all (n far : Nat) : ∀ v ∈ ([.int ((n : Int) + (far : Int)), .int (0 - 1 - (far : Int)), .non, .bl true, .str "0"] : List V), NumV v ∧ isNumL (n : Int) v = false := by
  intro v hv
  simp only [List.mem_cons, List.not_mem_nil, or_false] at hv
  rcases hv with rfl | rfl | rfl | rfl | rfl
  · refine ⟨.inl ⟨_, rfl⟩, ?_⟩
    show (decide ((0:Int) ≤ (n : Int) + (far : Int)) && decide ((n : Int) + (far : Int) < (n : Int))) = false
    simp
    omega
  · refine ⟨.inl ⟨_, rfl⟩, ?_⟩
    show (decide ((0:Int) ≤ 0 - 1 - (far : Int)) && decide (0 - 1 - (far : Int) < (n : Int))) = false
    simp
    omega
  · exact ⟨.inr (.inl rfl), rfl⟩
  · exact ⟨.inr (.inr (.inl ⟨_, rfl⟩)), rfl⟩
  · exact ⟨.inr (.inr (.inr ⟨_, rfl⟩)), rfl⟩
structure FSay (sa : Addr) (s : Say) (H : Hp) : Prop where
  ob : H sa = some (.tup (s.ws.map V.str))
  few : s.few
  nc : s ≠ .clash
theorem FSay.rl {p sa : Addr} {s : Say} {H H' : Hp} (h : FSay sa s H) (hp : ∃ xs, H p = some (.lst xs)) (k : Rl p H H') : FSay sa s H' := ⟨rl_tup hp k h.ob, h.few, h.nc⟩
theorem FSay.put {sa wk : Addr} {s : Say} {H : Hp} {os xs : List V} (h : FSay sa s H) (e : H wk = some (.lst os)) : FSay sa s (upd H wk (.lst xs)) := ⟨(upd_ne fun z => by
  have q := h.ob
  rw [z, e] at q
  cases q).trans h.ob, h.few, h.nc⟩
theorem FSay.say {sa : Addr} {s : Say} {H : Hp} (h : FSay sa s H) : SayT H (.ref sa) true := by
  obtain ⟨h1, h2, h3⟩ := h
  have hx : ∃ r : Rw, r.few ∧ r.ws = s.ws ∧ saidL (s.ws.map V.str) = true := by
    cases s with
    | clash => exact absurd rfl h3
    | is n k => exact ⟨.is n k, h2, rfl, by show inV (V.str "is") [V.str "is", V.str "has"] = true; decide +kernel⟩
    | has n t m => exact ⟨.has n t m, h2, rfl, by show inV (V.str "has") [V.str "is", V.str "has"] = true; decide +kernel⟩
  obtain ⟨r, hr, ew, e2⟩ := hx
  obtain ⟨e3, e4⟩ := few_rowB hr
  rw [ew] at e3 e4
  refine .inr ⟨sa, _, rfl, h1, .inr ⟨sa, _, rfl, h1, ?_, fun x hx => ?_, e3.symm⟩, e3, e2.symm⟩
  · rw [List.length_map]
    exact Nat.le_trans (show s.ws.length ≤ 10 by cases s <;> simp [Say.ws]) (by decide)
  · obtain ⟨z, hz, rfl⟩ := List.mem_map.mp hx
    exact .inl ⟨z, rfl, Nat.le_trans (e4 z hz) (by decide)⟩
/-- the words so far -/
def FWd (p wl : Addr) (ws : List Addr) (zs : List Str) (H : Hp) : Prop := H wl = some (.lst (ws.map V.ref)) ∧ wl ≠ p ∧ Paired (fun a z => H a = some (.tup [.str z, .non])) ws zs
theorem FWd.rl {p wl : Addr} {ws : List Addr} {zs : List Str} {H H' : Hp} (h : FWd p wl ws zs H) (hp : ∃ xs, H p = some (.lst xs)) (k : Rl p H H') : FWd p wl ws zs H' := ⟨k _ _ h.1 h.2.1 (fun _ z => nomatch z), h.2.1, Paired.mapP h.2.2 fun _ _ e => rl_tup hp k e⟩
theorem FWd.add {p wl q : Addr} {ws : List Addr} {zs : List Str} {z : Str} {H : Hp} (h : FWd p wl ws zs H) (e : H q = some (.tup [.str z, .non])) : FWd p wl (ws ++ [q]) (zs ++ [z]) (upd H wl (.lst (ws.map V.ref ++ [V.ref q]))) := by
  have kk : ∀ {b : Addr} {ys : List V}, H b = some (.tup ys) → upd H wl (.lst (ws.map V.ref ++ [V.ref q])) b = some (.tup ys) := fun {b ys} e2 => (upd_ne fun z => by
    rw [z, h.1] at e2
    cases e2).trans e2
  refine ⟨?_, h.2.1, paired_app (Paired.mapP h.2.2 fun _ _ e => kk e) (.cons (kk e) .nil)⟩
  rw [List.map_append]
  exact upd_same
theorem FWd.len {p wl : Addr} {ws : List Addr} {zs : List Str} {H : Hp} (h : FWd p wl ws zs H) : (ws.map V.ref).length = zs.length := by rw [List.length_map, h.2.2.length]
theorem FWd.dp {K : PySem.W.Frag} {H : Hp} : ∀ {ws : List Addr} {zs : List Str}, Paired (fun a z => H a = some (.tup [.str z, .non])) ws zs → DpAll K H (ws.map V.ref) (zs.map dNm)
  | _, _, .nil => .nil
  | _, _, .cons h t => .cons (dp_nm h) (FWd.dp t)
def dueI (zs : List Str) : List Itm := zs.map fun z => .t [.str z, .non]
theorem due_dp {K : PySem.W.Frag} {H0 H1 H : Hp} (k : Kept [] H1 H) : ∀ {zs : List Str} {us : List V}, Paired (ItmAt H0 H1) (dueI zs) us → DpAll K H us (zs.map dNm)
  | [], _, .nil => .nil
  | z :: zs, _, .cons ⟨a, e, h, _⟩ t => by
    subst e
    exact .cons (dp_nm (k _ _ h (by simp))) (due_dp k t)
abbrev zsW : List Str := ["count", "count", "norow", "nofollow"]
theorem sh_w : SeqAt.shaped (.list (zsW.map dNm)) = true := by decide +kernel
theorem eq_w : PyData.eqv (.list (zsW.map dNm)) (.list (zsW.map dNm)) = true := by decide +kernel
end Ah
end
section
set_option Elab.async false
set_option linter.all false
set_option maxRecDepth 100000
set_option maxHeartbeats 4000000
namespace Ah
open PySem PySem.Spec PyProof.Rows L2 LamX
open GxR (TabG)
open GxG
def spLaw (K : PySem.W.Frag) (T : List Addr) (P1 P2 : Addr) : Sp := fun vs H Q _ => ∃ (a : Addr) (ns : List Int), vs = [.ref a] ∧ SqL K H a (ns.map V.int) ∧ ns.length ≤ 63 ∧ (∀ P ∈ T, GxR.TabG H P) ∧ LamX.TabS H P1 qAL ∧ LamX.TabS H P2 qLaw ∧ ∀ H', Q (.bl true) H'
section
variable {P : Program} {w : World} {K : PySem.W.Frag} {mg : Str → Option Value} {base : Heap} {T : List Addr} {C CH CB CN CF P1 : Addr}
def DoorX (P : Program) (w : World) (K : PySem.W.Frag) (mg : Str → Option Value) (base : Heap) (x : Str) (k : Nat) (ps : List Str) (sp : Sp) : Prop := ∃ f fd, FnOk P w K mg base (L2.CX P w) k f fd ps sp ∧ mg x = some (.ref f) ∧ PySem.W.keepIn K (.ref f) = true ∧ L2.Binds K fd ps []
def DoorK (P : Program) (w : World) (K : PySem.W.Frag) (mg : Str → Option Value) (base : Heap) (x : Str) (k : Nat) (ps : List Str) (kw : Str) (sp : Sp) : Prop := ∃ f fd, FnOk P w K mg base (L2.CX P w) k f fd ps sp ∧ mg x = some (.ref f) ∧ PySem.W.keepIn K (.ref f) = true ∧ KBn K fd ps 2 [kw] (fun us ws => us ++ ws) (fun vs zs => vs ++ zs)
structure Doors5 (P : Program) (w : World) (K : PySem.W.Frag) (mg : Str → Option Value) (base : Heap) (T : List Addr) (C CH CB CN CF P1 : Addr) : Prop where
  bearers : DoorX P w K mg base "bearers" 8 ["rows", "saying"] (spS T C 0)
  ask : DoorX P w K mg base "ask_asking" 9 ["rows", "saying"] (spS T C 0)
  against : DoorX P w K mg base "against" 8 ["rows", "saying"] (spS T C 0)
  missing : DoorK P w K mg base "missing" 8 ["rows", "saying", "most"] "most" (spS T C 1)
  paper : DoorX P w K mg base "paper" 9 ["rows", "saying"] (spS T C 0)
  house : ∃ f fd, FnOk P w K mg base CX0 7 f fd ["self", "rows"] (spHI K T CH) ∧ Mk K CH f ∧ mg "House" = some (.ref CH) ∧ L2.Binds K fd ["self", "rows"] []
  hask : ∃ f fd, FnOk P w K mg base (L2.CX P w) 10 f fd ["self", "saying"] (spHA T C CH) ∧ Meth K CH "ask" f ∧ L2.Binds K fd ["self", "saying"] []
  cls : Cls K CH
  whichQ : DoorK P w K mg base "which" 9 ["rows", "question", "answer"] "answer" (spQ T C 1)
  whichA : DoorK P w K mg base "which" 9 ["rows", "question", "answer"] "answer" (spA T CB)
  missingC : DoorK P w K mg base "missing" 8 ["rows", "saying", "most"] "most" (spM T CB)
  hanging : DoorX P w K mg base "hanging" 7 ["rows", "number"] (spN T CN)
  paper0 : DoorX P w K mg base "paper" 9 ["rows", "saying"] (spP0 K T P1 CF)
theorem lams_ok (D : Doors5 P w K mg base T C CH CB CN CF P1) {f c : Addr} {A : Around} {outer : List Env} {s : Shared} {H : Hp} {E : XK} : ∀ d ∈ lawLs K T C CH, LamOk (cxOf CX0 P w K mg base lawN "law" (defScope lLaw) f (.ref c) A outer s H E).nox 12 d := by
  intro d hd
  unfold lawLs at hd
  simp only [List.mem_cons, List.not_mem_nil, or_false] at hd
  rcases hd with rfl | rfl | rfl | rfl | rfl | rfl
  · obtain ⟨fx, fdx, dF, dg, dk, db⟩ := D.bearers
    exact ⟨lamSD_by lamS_ok0, ⟨fun _ _ _ _ _ _ => rfl, fun z => nomatch z⟩, fun A1 outer1 s1 H1 E1 f1' c1' hr' => pe_call (X := (lamCx (cxOf CX0 P w K mg base lawN "law" (defScope lLaw) f (.ref c) A outer s H E).nox A1 outer1 s1 H1 E1 (lamS 0) f1' c1')) dF (hr'.mono (by decide)) (by rfl) dg dk db .nil (passes_call (takes_of rfl rfl rfl rfl) (fun _ _ _ _ h => h)) (pa_cons (pv 2) (pa_cons (pv 5) pa_nil))⟩
  · obtain ⟨fx, fdx, dF, dg, dk, db⟩ := D.ask
    exact ⟨lamSD_by lamS_ok1, ⟨(fun z => nomatch z), fun _ => ⟨_, rfl, fun _ _ _ _ _ _ => ⟨_, rfl, fun _ => rfl⟩⟩⟩, fun A1 outer1 s1 H1 E1 f1' c1' hr' => pe_call (X := (lamCx (cxOf CX0 P w K mg base lawN "law" (defScope lLaw) f (.ref c) A outer s H E).nox A1 outer1 s1 H1 E1 (lamS 1) f1' c1')) dF (hr'.mono (by decide)) (by rfl) dg dk db .nil (passes_call (takes_of rfl rfl rfl rfl) (fun _ _ _ _ h => h)) (pa_cons (pv 2) (pa_cons (pv 5) pa_nil))⟩
  · obtain ⟨fx, fdx, dF, dg, dk, db⟩ := D.against
    exact ⟨lamSD_by lamS_ok2, ⟨(fun z => nomatch z), fun _ => ⟨_, rfl, fun _ _ _ _ _ _ => ⟨_, rfl, fun _ => rfl⟩⟩⟩, fun A1 outer1 s1 H1 E1 f1' c1' hr' => pe_call (X := (lamCx (cxOf CX0 P w K mg base lawN "law" (defScope lLaw) f (.ref c) A outer s H E).nox A1 outer1 s1 H1 E1 (lamS 2) f1' c1')) dF (hr'.mono (by decide)) (by rfl) dg dk db .nil (passes_call (takes_of rfl rfl rfl rfl) (fun _ _ _ _ h => h)) (pa_cons (pv 2) (pa_cons (pv 5) pa_nil))⟩
  · obtain ⟨fx, fdx, dF, dg, dk, db⟩ := D.missing
    exact ⟨lamSD_by lamS_ok3, ⟨(fun z => nomatch z), fun _ => ⟨_, rfl, fun _ _ _ _ _ _ => ⟨_, rfl, fun _ => rfl⟩⟩⟩, fun A1 outer1 s1 H1 E1 f1' c1' hr' => pe_callN (X := (lamCx (cxOf CX0 P w K mg base lawN "law" (defScope lLaw) f (.ref c) A outer s H E).nox A1 outer1 s1 H1 E1 (lamS 3) f1' c1')) dF (hr'.mono (by decide)) (by rfl) dg dk db (passes_call (takes_of rfl rfl rfl rfl) (fun _ _ _ _ h => h)) (pa_cons (pv 2) (pa_cons (pv 5) pa_nil)) (pk_cons pe_int pk_nil)⟩
  · obtain ⟨fx, fdx, dF, dg, dk, db⟩ := D.paper
    exact ⟨lamSD_by lamS_ok4, ⟨(fun z => nomatch z), fun _ => ⟨_, rfl, fun _ _ _ _ _ _ => ⟨_, rfl, fun _ => rfl⟩⟩⟩, fun A1 outer1 s1 H1 E1 f1' c1' hr' => pe_call (X := (lamCx (cxOf CX0 P w K mg base lawN "law" (defScope lLaw) f (.ref c) A outer s H E).nox A1 outer1 s1 H1 E1 (lamS 4) f1' c1')) dF (hr'.mono (by decide)) (by rfl) dg dk db .nil (passes_call (takes_of rfl rfl rfl rfl) (fun _ _ _ _ h => h)) (pa_cons (pv 2) (pa_cons (pv 5) pa_nil))⟩
  · obtain ⟨fx, fdx, dF, dM, dg, db⟩ := D.house
    obtain ⟨fy, fdy, eF, eM, eb⟩ := D.hask
    exact ⟨lamSD_by lamS_ok5, ⟨(fun z => nomatch z), fun _ => ⟨_, rfl, fun _ _ _ _ _ _ => ⟨_, rfl, fun _ => rfl⟩⟩⟩, fun A1 outer1 s1 H1 E1 f1' c1' hr' => pe_meth (X := (lamCx (cxOf CX0 P w K mg base lawN "law" (defScope lLaw) f (.ref c) A outer s H E).nox A1 outer1 s1 H1 E1 (lamS 5) f1' c1')) (pe_make (X := (lamCx (cxOf CX0 P w K mg base lawN "law" (defScope lLaw) f (.ref c) A outer s H E).nox A1 outer1 s1 H1 E1 (lamS 5) f1' c1')) dM dF (hr'.mono (by decide)) (by rfl) dg db .nil pass0 (pa_cons (pv 2) pa_nil)) D.cls eM eF (hr'.mono (by decide)) eb .nil (passes_call (takes_of rfl rfl rfl rfl) (fun _ _ _ _ h => h)) (pa_cons (pv 5) pa_nil)⟩
end
section
variable {P : Program} {w : World} {K : PySem.W.Frag} {mg : Str → Option Value} {base : Heap} {f c P1 P2 f1 f2 f3 f4 gW CA C CH CB CN CF : Addr} {fd fd1 fd2 fd3 fd4 fdW : FuncData} {T : List Addr} {cE : Nat → Addr}
theorem ok_law (F : FnP K "law" lLaw f fd) (hc : fd.code = .ref c) (TB : TabB base mg c P2) (AP : Ap T P1 P2) (B : Bl mg) (cRow : Own P w K mg base "_law_row" 1 f1 fd1 ["_law_script"] (spLRow K)) (cText : Own P w K mg base "_law_text" 3 f2 fd2 ["_law_row_here", "_law_many"] (spText K))
    (cTaken : Own P w K mg base "_law_taken" 1 f3 fd3 ["_law_row_here", "_law_many"] (spTaken K)) (cSaying : Own P w K mg base "_law_saying" 2 f4 fd4 ["_law_row_here"] (spLSay K))
    (FW : FnP K "_law_word" lWord gW fdW) (gWm : mg "_law_word" = some (.ref gW)) (kW : PySem.W.keepIn K (.ref gW) = true) (bW : L2.Binds K fdW ["_law_work"] []) (WF : WordG K mg CA cE) (hC : cE 1 = C) (hCB : cE 2 = CB) (hCN : cE 4 = CN) (hCF : cE 5 = CF) (D : Doors5 P w K mg base T C CH CB CN CF P1) :
    FnOk P w K mg base CX0 18 f fd ["_law_script"] (spLaw K T P1 P2) := by
  obtain ⟨woc, wod, wdV, wkV, wdoc, wpm, wan, wcdv, wct, wosl, rfl, wlk, wcd, _, _⟩ := FW.ex
  obtain ⟨fWQ, fdWQ, dWQ⟩ := D.whichQ
  obtain ⟨fWA, fdWA, dWA⟩ := D.whichA
  obtain ⟨fMC, fdMC, dMC⟩ := D.missingC
  obtain ⟨fHN, fdHN, dHN⟩ := D.hanging
  obtain ⟨fP0, fdP0, dP0⟩ := D.paper0
  refine okC F hc scLaw (fun vs H Q E h => ?_) (fun A outer s H vs Q E hr h => ?_)
  · obtain ⟨a, ns, rfl, _⟩ := h
    rfl
  · obtain ⟨sc, ns, rfl, hs, hl, ht, t1, t2, k⟩ := h
    have hLs : ∀ d ∈ lawLs K T C CH, LamOk (cxOf CX0 P w K mg base lawN "law" (defScope lLaw) f (.ref c) A outer s H E).nox 12 d := lams_ok D
    refine ⟨_, PSs.nox (Evl.pss_cut (ps_set (i := 1) scLaw.nd rfl (.inr rfl) (pe_call cRow.ok (hr.mono (by decide)) (by rfl) cRow.g cRow.kp cRow.b .nil pass0 (pa_cons (pv 0) pa_nil)))
      (Evl.pss_cut (ps_asg (pe_tup (pa_cons (pe_call cText.ok (hr.mono (by decide)) (by rfl) cText.g cText.kp cText.b .nil pass0 (pa_cons (pv 1) (pa_cons pe_int pa_nil))) (pa_cons (pe_call cTaken.ok (hr.mono (by decide)) (by rfl) cTaken.g cTaken.kp cTaken.b .nil pass0 (pa_cons (pv 1) (pa_cons pe_int pa_nil))) pa_nil))) (pg_tup rfl (pgs_cons (pg_name (i := 2) scLaw.nd rfl (.inr rfl)) (pgs_cons (pg_name (i := 3) scLaw.nd rfl (.inl rfl)) pgs_nil))))
      (Evl.pss_cut (ps_set (i := 4) scLaw.nd rfl (.inl rfl) (pe_lst (pa_cons (pe_tup (pa_cons pe_str (pa_cons pe_str (pa_cons pe_str pa_nil)))) (pa_cons (pe_tup (pa_cons pe_str (pa_cons pe_str pa_nil))) (pa_cons (pe_tup (pa_cons pe_str (pa_cons pe_str pa_nil))) (pa_cons (pe_tup pa_nil) (pa_cons pe_non (pa_cons pe_int (pa_cons pe_str (pa_cons (pe_lst (pa_cons pe_str (pa_cons pe_str (pa_cons pe_str pa_nil)))) pa_nil))))))))))
      (Evl.pss_cut (ps_set (i := 4) scLaw.nd rfl (.inl rfl) (pe_op op_cat (pv 4) (pe_lst (pa_cons (pe_tup (pa_cons pe_str (pa_cons pe_str (pa_cons pe_str pa_nil)))) (pa_cons (pe_tup (pa_cons pe_str (pa_cons pe_str (pa_cons pe_str pa_nil)))) (pa_cons (pe_tup (pa_cons pe_str (pa_cons pe_non (pa_cons pe_str pa_nil)))) (pa_cons (pe_tup (pa_cons pe_str (pa_cons pe_str (pa_cons pe_str pa_nil)))) pa_nil)))))))
      (Evl.pss_cut (ps_set (i := 5) scLaw.nd rfl (.inr rfl) (pe_ix (show IxR _ (rIxL K) from ix_list) (pv 4) (pe_call cTaken.ok (hr.mono (by decide)) (by rfl) cTaken.g cTaken.kp cTaken.b .nil pass0 (pa_cons (pv 1) (pa_cons pe_int pa_nil))) (fun _ _ => rfl)))
      (Evl.pss_cut (ps_set (i := 6) scLaw.nd rfl (.inl rfl) (pe_lst (pa_lam_cons (d := lamE0 T C CH) (pe_lamK0 TB rfl (lamSD_by (N := lawN) lamS_ok0).free rfl) (pa_lam_cons (d := lamE1 T C CH) (pe_lamKD TB rfl (lamSD_by (N := lawN) lamS_ok1).free rfl) (pa_lam_cons (d := lamE2 T C CH) (pe_lamKD TB rfl (lamSD_by (N := lawN) lamS_ok2).free rfl) pa_lam_nil)))))
      (Evl.pss_cut (ps_set (i := 6) scLaw.nd rfl (.inl rfl) (pe_op op_cat (pv 6) (pe_lst (pa_lam_cons (d := lamE3 T C CH) (pe_lamKD TB rfl (lamSD_by (N := lawN) lamS_ok3).free rfl) (pa_lam_cons (d := lamE4 T C CH) (pe_lamKD TB rfl (lamSD_by (N := lawN) lamS_ok4).free rfl) pa_lam_nil)))))
      (Evl.pss_cut (ps_expr (pe_bm PySem.F.plainAttrs_list PySem.F.slot_list_append PySem.F.type_list_append mt_append (pv 6) (pa_lam_cons (d := lamE5 K T C CH) (pe_lamKD TB rfl (lamSD_by (N := lawN) lamS_ok5).free rfl) pa_lam_nil)))
      (Evl.pss_cut (ps_if (pt_cmpR (show OpR _ _ (rNeD K) from op_neD hr.units) (pe_lcI (own := [("_law_work", 7)]) (rG := gName 7) rfl scLaw.nd (pi_list (pv 6)) (blkOk_by (N := lawN) (sc := defScope lLaw) (by decide +kernel)) (fun _ _ _ _ _ _ _ _ _ => pg_name (i := 7) scLaw.nd rfl (Or.inl rfl)) (fun pins σ u G Cn cl fp J hfp => pts_one (pt_cmpR (show OpR _ _ (rNeD K) from op_neD hr.units) (pe_wordB J hfp (Ls := lawLs K T C CH) (by rfl) gWm kW wlk wcd bW scW2 rfl (.inl rfl) (word_givesG WF) (k := 12) (hr.mono (by decide)) hLs (pv 7)) (pe_tup (pa_cons pe_str (pa_cons pe_non pa_nil))) (nomark _))) (fun _ _ _ _ _ _ _ _ _ => (pv 7))) (pe_lst pa_nil) (nomark _)) (pss_one (ps_ret pe_bl)) pss_nil)
      (Evl.pss_cut (ps_set (i := 8) scLaw.nd rfl (.inr rfl) (pe_lst (pa_cons (pe_tup (pa_cons pe_str (pa_cons pe_non (pa_cons pe_non pa_nil)))) (pa_cons (pe_tup (pa_cons pe_str (pa_cons pe_non pa_nil))) (pa_cons (pe_tup pa_nil) (pa_cons pe_non (pa_cons pe_int (pa_cons pe_str (pa_cons (pe_tup (pa_cons pe_str (pa_cons pe_non (pa_cons pe_non pa_nil)))) (pa_cons (pe_tup (pa_cons pe_str (pa_cons pe_str (pa_cons pe_non pa_nil)))) pa_nil))))))))))
      (Evl.pss_cut (ps_set (i := 8) scLaw.nd rfl (.inr rfl) (pe_op op_cat (pv 8) (pe_lst (pa_cons (pe_lst (pa_cons pe_str (pa_cons pe_non (pa_cons pe_non pa_nil)))) (pa_cons (pe_tup (pa_cons pe_str (pa_cons pe_str (pa_cons pe_str (pa_cons pe_str pa_nil))))) (pa_cons (pe_tup (pa_cons pe_str (pa_cons pe_non (pa_cons pe_int pa_nil)))) (pa_cons (pe_tup (pa_cons pe_non (pa_cons pe_non (pa_cons pe_non pa_nil)))) pa_nil)))))))
      (Evl.pss_cut (ps_if (pt_cmpR (show OpR _ _ (rNeD K) from op_neD hr.units) (pe_word1 (P := P2) (k := 12) (by rfl) gWm kW wlk wcd bW scW2 rfl (.inl rfl) (word_givesG WF) (hr.mono (by decide)) (pe_lamK0 TB rfl (lamSD_by (N := lawN) lamS_ok6).free rfl) (lamSD_by (N := lawN) lamS_ok6) ⟨fun _ _ _ _ _ _ => rfl, fun z => nomatch z⟩ (fun A1 outer1 s1 H1 E1 f1' c1' hr' => (pe_callN (X := (lamCx (cxOf CX0 P w K mg base lawN "law" (defScope lLaw) f (.ref c) A outer s H E).nox A1 outer1 s1 H1 E1 (lamS 6) f1' c1')) dWQ.1 (hr'.mono (by decide)) (by rfl) dWQ.2.1 dWQ.2.2.1 dWQ.2.2.2 (passes_call (takes_of rfl rfl rfl rfl) (fun _ _ _ _ h => h)) (pa_cons (pv 2) (pa_cons (pe_ix (show IxR _ (rIxL K) from ix_list) (pv 8) (pe_call (X := (lamCx (cxOf CX0 P w K mg base lawN "law" (defScope lLaw) f (.ref c) A outer s H E).nox A1 outer1 s1 H1 E1 (lamS 6) f1' c1')) cTaken.ok (hr'.mono (by decide)) (by rfl) cTaken.g cTaken.kp cTaken.b .nil pass0 (pa_cons (pv 1) (pa_cons pe_int pa_nil))) (fun _ _ => rfl)) pa_nil)) (pk_cons pe_int pk_nil)))) (pe_tup (pa_cons pe_str (pa_cons pe_non pa_nil))) (nomark _)) (pss_one (ps_ret pe_bl)) pss_nil)
      (Evl.pss_cut (ps_set (i := 9) scLaw.nd rfl (.inr rfl) (pe_ix (show IxR _ (rIxL K) from ix_list) (pe_lst (pa_cons pe_str (pa_cons pe_str (pa_cons pe_non (pa_cons pe_int (pa_cons (pe_tup (pa_cons pe_str pa_nil)) pa_nil)))))) (pe_call cTaken.ok (hr.mono (by decide)) (by rfl) cTaken.g cTaken.kp cTaken.b .nil pass0 (pa_cons (pv 1) (pa_cons pe_int pa_nil))) (fun _ _ => rfl)))
      (Evl.pss_cut (ps_set (i := 10) scLaw.nd rfl (.inr rfl) (pe_ix (show IxR _ (rIxL K) from ix_list) (pe_lst (pa_cons (pe_op op_add pe_int (pv 3)) (pa_cons (pe_op op_sub (pe_op op_sub pe_int pe_int) (pv 3)) (pa_cons pe_non (pa_cons pe_bl (pa_cons pe_str pa_nil)))))) (pe_call cTaken.ok (hr.mono (by decide)) (by rfl) cTaken.g cTaken.kp cTaken.b .nil pass0 (pa_cons (pv 1) (pa_cons pe_int pa_nil))) (fun _ _ => rfl)))
      (Evl.pss_cut (ps_set (i := 11) scLaw.nd rfl (.inr rfl) (pe_ix (show IxR _ (rIxL K) from ix_list) (pe_lst (pa_cons (pe_op op_add (pe_callB call_len_seq (by rfl) B.len_ (by decide +kernel) (pa_cons (pv 2) pa_nil)) (pv 3)) (pa_cons (pe_op op_sub (pe_op op_sub pe_int pe_int) (pv 3)) (pa_cons pe_non (pa_cons pe_bl (pa_cons pe_str pa_nil)))))) (pe_call cTaken.ok (hr.mono (by decide)) (by rfl) cTaken.g cTaken.kp cTaken.b .nil pass0 (pa_cons (pv 1) (pa_cons pe_int pa_nil))) (fun _ _ => rfl)))
      (Evl.pss_cut (ps_set (i := 12) scLaw.nd rfl (.inr rfl) (pe_call cSaying.ok (hr.mono (by decide)) (by rfl) cSaying.g cSaying.kp cSaying.b .nil pass0 (pa_cons (pv 1) pa_nil)))
      (Evl.pss_cut (ps_set (i := 13) scLaw.nd rfl (.inl rfl) (pe_lst (pa_cons (pe_word1 (P := P2) (k := 12) (by rfl) gWm kW wlk wcd bW scW2 rfl (.inl rfl) (word_givesG WF) (hr.mono (by decide)) (pe_lamK0 TB rfl (lamSD_by (N := lawN) lamS_ok7).free rfl) (lamSD_by (N := lawN) lamS_ok7) ⟨fun _ _ _ _ _ _ => rfl, fun z => nomatch z⟩ (fun A1 outer1 s1 H1 E1 f1' c1' hr' => (pe_callN (X := (lamCx (cxOf CX0 P w K mg base lawN "law" (defScope lLaw) f (.ref c) A outer s H E).nox A1 outer1 s1 H1 E1 (lamS 7) f1' c1')) dWA.1 (hr'.mono (by decide)) (by rfl) dWA.2.1 dWA.2.2.1 dWA.2.2.2 (passes_call (takes_of rfl rfl rfl rfl) (fun _ _ _ _ h => h)) (pa_cons (pv 2) (pa_cons (pe_tup (pa_cons pe_str (pa_cons pe_non (pa_cons pe_non pa_nil)))) pa_nil)) (pk_cons (pv 9) pk_nil)))) pa_nil)))
      (Evl.pss_cut (ps_expr (pe_bm PySem.F.plainAttrs_list PySem.F.slot_list_append PySem.F.type_list_append mt_append (pv 13) (pa_cons (pe_word1 (P := P2) (k := 12) (by rfl) gWm kW wlk wcd bW scW2 rfl (.inl rfl) (word_givesG WF) (hr.mono (by decide)) (pe_lamKD TB rfl (lamSD_by (N := lawN) lamS_ok8).free rfl) (lamSD_by (N := lawN) lamS_ok8) ⟨(fun z => nomatch z), fun _ => ⟨_, rfl, fun _ _ _ _ _ _ => ⟨_, rfl, fun _ => rfl⟩⟩⟩ (fun A1 outer1 s1 H1 E1 f1' c1' hr' => (pe_callN (X := (lamCx (cxOf CX0 P w K mg base lawN "law" (defScope lLaw) f (.ref c) A outer s H E).nox A1 outer1 s1 H1 E1 (lamS 8) f1' c1')) dMC.1 (hr'.mono (by decide)) (by rfl) dMC.2.1 dMC.2.2.1 dMC.2.2.2 (passes_call (takes_of rfl rfl rfl rfl) (fun _ _ _ _ h => h)) (pa_cons (pv 2) (pa_cons (pv 12) pa_nil)) (pk_cons (pv 10) pk_nil)))) pa_nil)))
      (Evl.pss_cut (ps_expr (pe_bm PySem.F.plainAttrs_list PySem.F.slot_list_append PySem.F.type_list_append mt_append (pv 13) (pa_cons (pe_word1 (P := P2) (k := 12) (by rfl) gWm kW wlk wcd bW scW2 rfl (.inl rfl) (word_givesG WF) (hr.mono (by decide)) (pe_lamKD TB rfl (lamSD_by (N := lawN) lamS_ok9).free rfl) (lamSD_by (N := lawN) lamS_ok9) ⟨(fun z => nomatch z), fun _ => ⟨_, rfl, fun _ _ _ _ _ _ => ⟨_, rfl, fun _ => rfl⟩⟩⟩ (fun A1 outer1 s1 H1 E1 f1' c1' hr' => (pe_call (X := (lamCx (cxOf CX0 P w K mg base lawN "law" (defScope lLaw) f (.ref c) A outer s H E).nox A1 outer1 s1 H1 E1 (lamS 9) f1' c1')) dHN.1 (hr'.mono (by decide)) (by rfl) dHN.2.1 dHN.2.2.1 dHN.2.2.2 .nil (passes_call (takes_of rfl rfl rfl rfl) (fun _ _ _ _ h => h)) (pa_cons (pv 2) (pa_cons (pv 11) pa_nil))))) pa_nil)))
      (Evl.pss_cut (ps_expr (pe_bm PySem.F.plainAttrs_list PySem.F.slot_list_append PySem.F.type_list_append mt_append (pv 13) (pa_cons (pe_word1 (P := P2) (k := 12) (by rfl) gWm kW wlk wcd bW scW2 rfl (.inl rfl) (word_givesG WF) (hr.mono (by decide)) (pe_lamKD TB rfl (lamSD_by (N := lawN) lamS_ok10).free rfl) (lamSD_by (N := lawN) lamS_ok10) ⟨(fun z => nomatch z), fun _ => ⟨_, rfl, fun _ _ _ _ _ _ => ⟨_, rfl, fun _ => rfl⟩⟩⟩ (fun A1 outer1 s1 H1 E1 f1' c1' hr' => (pe_call (X := (lamCx (cxOf CX0 P w K mg base lawN "law" (defScope lLaw) f (.ref c) A outer s H E).nox A1 outer1 s1 H1 E1 (lamS 10) f1' c1')) dP0.1 (hr'.mono (by decide)) (by rfl) dP0.2.1 dP0.2.2.1 dP0.2.2.2 .nil (passes_call (takes_of rfl rfl rfl rfl) (fun _ _ _ _ h => h)) (pa_cons (pe_tup pa_nil) (pa_cons (pv 12) pa_nil))))) pa_nil)))
      (pss_one (ps_ret (pe_cmpR (op_eqD hr.units) (pv 13) (pe_lst (pa_cons (pe_tup (pa_cons pe_str (pa_cons pe_non pa_nil))) (pa_cons (pe_tup (pa_cons pe_str (pa_cons pe_non pa_nil))) (pa_cons (pe_tup (pa_cons pe_str (pa_cons pe_non pa_nil))) (pa_cons (pe_tup (pa_cons pe_str (pa_cons pe_non pa_nil))) pa_nil))))) (nomark _)))))))))))))))))))))))), ?_⟩
    -- the draws
    refine ⟨fun σ H' => ∃ p, σ = [some (.ref sc), some (.ref p), none, none, none, none, none, none, none, none, none, none, none, none] ∧ L5 K T P1 P2 p sc ns qLaw H', ?_, ?_⟩
    · refine ⟨_, rfl, sc, ns, rfl, hs, hl, fun p m np => ?_⟩
      have kA : Kept [] H (L2.upd H p (.lst [.ref sc, .int 0, .int 0, .int m])) := (Kept.refl H).upd np
      have kt : ∀ {P : Addr} {q : Str}, TabS H P q → TabS (L2.upd H p (.lst [.ref sc, .int 0, .int 0, .int m])) P q := fun t => tabS_by t fun b o e _ => kA b o e (by simp)
      refine ⟨p, rfl, ⟨0, 0, m, upd_same, Int.le_refl _, Int.le_refl _, ?_⟩, (Kp.of' ht kA).tab, kt t1, kt t2⟩
      rcases hs with (h | ⟨o, h⟩) | h
      · exact .inl (.inl (kA _ _ h (by simp)))
      · exact .inl (.inr ⟨o, kA _ _ h (by simp)⟩)
      · exact .inr h
    clear hs ht t1 t2
    rintro σ H0 ⟨p, rfl, L0⟩
    -- the text, a number
    refine ⟨fun σ H' => ∃ (b : Addr) (rs : List V) (far : Nat), σ = [some (.ref sc), some (.ref p), some (.ref b), some (.int (far : Int)), none, none, none, none, none, none, none, none, none, none] ∧ L5 K T P1 P2 p sc ns qLaw H' ∧ FTx b rs H', ?_, ?_⟩
    · refine ⟨_, rfl, p, sc, ns, 6, rfl, L0.S, by omega, by omega, fun q rs H1 few len S1 k1 tx => ?_⟩
      have L1 := L0.draw S1 k1
      obtain ⟨ps, hq, hps⟩ := id tx
      have X1 : FTx q (ps.map V.ref) H1 := ⟨hq, by rw [List.length_map, hps.length]; omega, rows_refs hps few⟩
      refine ⟨_, rfl, p, sc, ns, 1000, rfl, L1.S, by omega, by omega, fun z H2 z0 z1 S2 k2 => ?_⟩
      have L2 := L1.draw S2 k2
      refine ⟨by show (2 : Nat) ≤ sizeLine; decide, fun pp npp => ⟨pp, _, rfl, SqT.of upd_same, rfl, _, _, rfl, _, _, rfl, rfl, q, ps.map V.ref, z.toNat, ?_, ?_, ?_⟩⟩
      · rw [Int.toNat_of_nonneg z0]
        rfl
      · exact L2.k0 ((Kept.refl H2).upd npp)
      · exact (X1.rl L1.pob (.kd k2)).rl L2.pob (.k0 ((Kept.refl H2).upd npp))
    clear L0
    rintro σ H1 ⟨b, rs, far, rfl, L, X⟩
    -- what is no saying
    refine ⟨fun σ H' => ∃ ol os, σ = [some (.ref sc), some (.ref p), some (.ref b), some (.int (far : Int)), some (.ref ol), none, none, none, none, none, none, none, none, none] ∧ L5 K T P1 P2 p sc ns qLaw H' ∧ FTx b rs H' ∧ FOd gS p ol os H' ∧ os.length = 8, ?_, ?_⟩
    · refine (show tItms oddA _ _ _ from rd_itms (by decide) fun us H2 k2 a2 => ⟨by rw [← a2.length]; decide, fun l nl => ?_⟩)
      have kk := k2.upd (o := .lst us) nl
      have k3 := (Kept.refl (M := []) H2).upd (o := .lst us) nl
      refine ⟨l, us, rfl, L.k0 kk, X.rl L.pob (.k0 kk), ⟨upd_same, ?_, ?_⟩, a2.length.symm⟩
      · exact fr_of L.pob k2 nl
      · exact odd_all (by decide +kernel) L.pob k3 a2
    clear L X
    rintro σ H2 ⟨ol, os, rfl, L, X, O, hos⟩
    refine ⟨fun σ H' => ∃ ol os, σ = [some (.ref sc), some (.ref p), some (.ref b), some (.int (far : Int)), some (.ref ol), none, none, none, none, none, none, none, none, none] ∧ L5 K T P1 P2 p sc ns qLaw H' ∧ FTx b rs H' ∧ FOd gS p ol os H' ∧ os.length = 12, ?_, ?_⟩
    · refine ⟨_, rfl, ?_⟩
      refine (show tItms oddB _ _ _ from rd_itms (by decide) fun us H3 k3 a3 => ⟨by rw [← a3.length]; decide, fun l nl => ?_⟩)
      have k4 := k3.upd (o := .lst us) nl
      have O4 := O.rl L.pob (.k0 k4)
      refine ⟨ol, l, os, us, rfl, rfl, O4.ob, upd_same, by rw [hos, ← a3.length]; decide, fun l2 nl2 => ?_⟩
      have k5 := k4.upd (o := .lst (os ++ us)) nl2
      have k6 := ((Kept.refl (M := []) H3).upd (o := .lst us) nl).upd (o := .lst (os ++ us)) nl2
      refine ⟨l2, os ++ us, rfl, L.k0 k5, X.rl L.pob (.k0 k5), ⟨upd_same, fr_of L.pob k4 nl2, fun v hv => ?_⟩, by rw [List.length_append, hos, ← a3.length]; rfl⟩
      rcases List.mem_append.mp hv with h | h
      · exact (O.odd v h).rl L.pob (.k0 k5)
      · exact odd_all (by decide +kernel) L.pob k6 a3 v h
    clear L X O hos os ol
    rintro σ H3 ⟨ol, os, rfl, L, X, O, hos⟩
    -- the one that is taken
    refine ⟨fun σ H' => ∃ bad, σ = [some (.ref sc), some (.ref p), some (.ref b), some (.int (far : Int)), some (.ref ol), some bad, none, none, none, none, none, none, none, none] ∧ L5 K T P1 P2 p sc ns qLaw H' ∧ FTx b rs H' ∧ OddG gS p H' bad, ?_, ?_⟩
    · refine ⟨_, rfl, _, rfl, p, sc, ns, 12, rfl, L.S, by omega, by omega, fun z H4 z0 z1 S4 k4 => ?_⟩
      have L4 := L.draw S4 k4
      have O4 := O.rl L.pob (.kd k4)
      obtain ⟨i0, rfl⟩ : ∃ i : Nat, z = (i : Int) := ⟨z.toNat, by omega⟩
      obtain ⟨o, ho⟩ : ∃ o, os[i0]? = some o := ⟨_, List.getElem?_eq_getElem (by omega)⟩
      exact ⟨ol, os, _, o, rfl, rfl, SqL.of O4.ob, atI_nat ho, o, rfl, L4, X.rl L.pob (.kd k4), O4.odd _ (List.mem_of_getElem? ho)⟩
    clear L X O hos
    rintro σ H4 ⟨bad, rfl, L, X, Od⟩
    -- the works
    refine ⟨fun σ H' => ∃ wk fs, σ = [some (.ref sc), some (.ref p), some (.ref b), some (.int (far : Int)), some (.ref ol), some bad, some (.ref wk), none, none, none, none, none, none, none] ∧ L5 K T P1 P2 p sc ns qLaw H' ∧ FTx b rs H' ∧ OddG gS p H' bad ∧ wk ≠ p ∧ Wk qLaw (cxOf CX0 P w K mg base lawN "law" (defScope lLaw) f (.ref c) A outer s H E).nox.env.cells [lamE0 T C CH, lamE1 T C CH, lamE2 T C CH] wk fs H', ?_, ?_⟩
    · refine ⟨L.t2, fun fs H5 k5 t5 pr => ⟨by rw [List.length_map, ← pr.length]; show (3 : Nat) ≤ sizeLine; decide, fun wk nwk => ?_⟩⟩
      have r5 : Rl p H4 H5 := .tab L.t2 k5
      have L5' := L.lam AP k5 t5
      have k6 := (Kept.refl (M := []) H5).upd (o := .lst (fs.map V.ref)) nwk
      exact ⟨wk, fs, rfl, L5'.k0 k6, X.rl L.pob (r5.trans (.k0 k6)), Od.rl L.pob (r5.trans (.k0 k6)), fr_of L5'.pob (Kept.refl _) nwk, upd_same, pr_keep (fun _ _ h => LamAt.keep h fun b o e _ _ => k6 b o e (by simp)) pr⟩
    clear L X Od
    rintro σ H5 ⟨wk, fs, rfl, L, X, Od, np, W⟩
    refine ⟨fun σ H' => ∃ wk fs, σ = [some (.ref sc), some (.ref p), some (.ref b), some (.int (far : Int)), some (.ref ol), some bad, some (.ref wk), none, none, none, none, none, none, none] ∧ L5 K T P1 P2 p sc ns qLaw H' ∧ FTx b rs H' ∧ OddG gS p H' bad ∧ wk ≠ p ∧ Wk qLaw (cxOf CX0 P w K mg base lawN "law" (defScope lLaw) f (.ref c) A outer s H E).nox.env.cells [lamE0 T C CH, lamE1 T C CH, lamE2 T C CH, lamE3 T C CH, lamE4 T C CH] wk fs H', ?_, ?_⟩
    · refine ⟨_, rfl, L.t2, fun fs2 H6 k6 t6 pr => ⟨by rw [List.length_map, ← pr.length]; show (2 : Nat) ≤ sizeLine; decide, fun l nl => ?_⟩⟩
      have r6 : Rl p H5 H6 := .tab L.t2 k6
      have L6 := L.lam AP k6 t6
      have W6 := W.rl np L.pob r6
      have k7 := (Kept.refl (M := []) H6).upd (o := .lst (fs2.map V.ref)) nl
      refine ⟨wk, l, fs.map V.ref, fs2.map V.ref, rfl, rfl, k7 _ _ W6.ob (by simp), upd_same, ?_, fun wk2 nwk2 => ?_⟩
      · rw [List.length_map, List.length_map, ← W.pr.length, ← pr.length]
        show (5 : Nat) ≤ sizeLine
        decide
      · rw [← List.map_append]
        have k8 := k7.upd (o := .lst ((fs ++ fs2).map V.ref)) nwk2
        exact ⟨wk2, fs ++ fs2, rfl, L6.k0 k8, X.rl L.pob (r6.trans (.k0 k8)), Od.rl L.pob (r6.trans (.k0 k8)), fr_of L6.pob k7 nwk2, upd_same, paired_app (pr_keep (fun _ _ h => LamAt.keep h fun b o e _ _ => k8 b o e (by simp)) W6.pr) (pr_keep (fun _ _ h => LamAt.keep h fun b o e _ _ => k8 b o e (by simp)) pr)⟩
    clear L X Od np W
    rintro σ H6 ⟨wk, fs, rfl, L, X, Od, np, W⟩
    refine ⟨fun σ H' => ∃ wk fs, σ = [some (.ref sc), some (.ref p), some (.ref b), some (.int (far : Int)), some (.ref ol), some bad, some (.ref wk), none, none, none, none, none, none, none] ∧ L5 K T P1 P2 p sc ns qLaw H' ∧ FTx b rs H' ∧ OddG gS p H' bad ∧ wk ≠ p ∧ Wk qLaw (cxOf CX0 P w K mg base lawN "law" (defScope lLaw) f (.ref c) A outer s H E).nox.env.cells (lawLs K T C CH) wk fs H', ?_, ?_⟩
    · refine ⟨_, rfl, .inl ⟨rfl, _, SqL.of W.ob⟩, L.t2, fun fs2 H7 k7 t7 pr => ?_⟩
      have r7 : Rl p H6 H7 := .tab L.t2 k7
      have L7 := L.lam AP k7 t7
      have W7 := W.rl np L.pob r7
      have hl5 : (fs.map V.ref).length = 5 := by rw [List.length_map, ← W.pr.length]; rfl
      obtain ⟨g, rfl⟩ : ∃ g, fs2 = [g] := by
        have q := pr.length
        match fs2, q with
        | [g], _ => exact ⟨g, rfl⟩
      refine ⟨wk, fs.map V.ref, .ref g, rfl, rfl, W7.ob, by rw [hl5]; decide, ?_⟩
      have em : fs.map V.ref ++ [V.ref g] = (fs ++ [g]).map V.ref := by simp
      have L8 : L5 K T P1 P2 p sc ns qLaw (upd H7 wk (.lst (fs.map V.ref ++ [V.ref g]))) := by
        match fs, hl5, W7.ob with
        | a :: r, _, ob2 => exact L7.put ob2 np
      have ks : ∀ b o, H7 b = some o → (∀ ps, o ≠ .tbl ps) → (∀ xs, o ≠ .lst xs) → upd H7 wk (.lst (fs.map V.ref ++ [V.ref g])) b = some o := fun b o e _ n => (upd_ne fun z => by
        rw [z, W7.ob] at e
        exact n _ (Option.some.inj e).symm).trans e
      refine ⟨wk, fs ++ [g], rfl, L8, (X.rl L.pob r7).put W7.ob, (Od.rl L.pob r7).put W7.ob, np, by rw [← em]; exact upd_same, ?_⟩
      exact paired_app (pr_keep (fun _ _ h => LamAt.keep h ks) W7.pr) (pr_keep (fun _ _ h => LamAt.keep h ks) pr)
    clear L X Od np W
    rintro σ H7 ⟨wk, fs, rfl, L, X, Od, np, W⟩
    -- word by word
    refine ⟨fun σ H' => ∃ v4 v5 v6 v7, σ = [some (.ref sc), some (.ref p), some (.ref b), some (.int (far : Int)), v4, v5, v6, v7, none, none, none, none, none, none] ∧ L5 K T P1 P2 p sc ns qLaw H' ∧ FTx b rs H', ?_, ?_⟩
    · refine ⟨_, rfl, wk, rfl, ⟨_, SqL.of W.ob⟩, fun D nD => lc_list (K := K) (a := wk) (xs := fs.map V.ref) (fun i H' => H' D = some (.lst []) ∧ L5 K T P1 P2 p sc ns qLaw H' ∧ FTx b rs H' ∧ OddG gS p H' bad ∧ Wk qLaw (cxOf CX0 P w K mg base lawN "law" (defScope lLaw) f (.ref c) A outer s H E).nox.env.cells (lawLs K T C CH) wk fs H') ?_ (fun i H' _ pv => SqL.of pv.2.2.2.2.ob) ?_ ?_⟩
      · have kk := (Kept.refl (M := []) H7).upd (o := .lst []) nD
        exact ⟨upd_same, L.k0 kk, X.rl L.pob (.k0 kk), Od.rl L.pob (.k0 kk), W.rl np L.pob (.k0 kk)⟩
      · have nDp := fr_of L.pob (Kept.refl H7) nD
        clear L X Od W
        rintro i v Ha hi ⟨eD, L, X, Od, W⟩
        obtain ⟨g, hg, rfl⟩ : ∃ g, fs[i]? = some g ∧ v = .ref g := by
          rw [List.getElem?_map] at hi
          cases e : fs[i]? with
          | none => rw [e] at hi; cases hi
          | some g => rw [e] at hi; exact ⟨g, rfl, (Option.some.inj hi).symm⟩
        have hlt : i < (lawLs K T C CH).length := by rw [W.pr.length]; exact (List.getElem?_eq_some_iff.mp hg).1
        obtain ⟨g', hg', la⟩ := paired_at W.pr (List.getElem?_eq_getElem hlt)
        obtain rfl : g' = g := Option.some.inj (hg'.symm.trans hg)
        refine ⟨rfl, ?_⟩
        refine ⟨_, rfl, g', _, rfl, List.getElem_mem hlt, la, fun lf nlf => ?_⟩
        have kk := (Kept.refl (M := []) Ha).upd (o := .lst []) nlf
        have Lk := L.k0 kk
        refine doors5 (b := b) (rs := rs) (v := bad) (by rfl) (by rfl) Lk.ht (X.rl L.pob (.k0 kk)) (Od.rl L.pob (.k0 kk)).say (fun H2 kp => ?_) _ (List.getElem_mem hlt)
        refine ⟨1, .non, by decide, by rw [hC], .inr ⟨rfl, rfl, rfl⟩, fun H3 q kq nq => ?_⟩
        refine ⟨by show (2 : Nat) ≤ sizeLine; decide, fun y ny => ?_⟩
        have e1 := ((Kept.refl (M := []) _).upd (o := .tup [.str "saying", .non]) ny) q _ upd_same (by simp)
        refine ⟨dNm "saying", dNm "saying", dp_nm e1, dp_nm upd_same, sh_say, sh_say, ?_⟩
        rw [eq_say]
        have kB := ((kq.upd (o := .tup [.str "saying", .non]) nq).upd (o := .tup [.str "saying", .non]) ny)
        have rA : Rl p Ha _ := ((Rl.k0 kk).trans (.kp Lk.ht kp)).trans (.k0 kB)
        exact ⟨_, rfl, iteF ⟨rA _ _ eD nDp (fun _ z => nomatch z), (Lk.kp AP kp).k0 kB, X.rl L.pob rA, Od.rl L.pob rA, W.rl np L.pob rA⟩⟩
      · rintro Hz ⟨eD, L, X, Od, W⟩
        refine ⟨Nat.zero_le _, fun l2 nl2 => ?_⟩
        have kk := (Kept.refl (M := []) Hz).upd (o := .lst []) nl2
        refine ⟨.list [], .list [], .lst (SqL.of (kk _ _ eD (by simp))) .nil, .lst (SqL.of upd_same) .nil, sh_nl, sh_nl, ?_⟩
        rw [eq_nl]
        exact ⟨_, rfl, iteF ⟨_, _, _, _, rfl, L.k0 kk, X.rl L.pob (.k0 kk)⟩⟩
    clear L X Od np W
    rintro σ H8 ⟨v4, v5, v6, v7, rfl, L, X⟩
    -- what is no question
    refine ⟨fun σ H' => ∃ ql qs, σ = [some (.ref sc), some (.ref p), some (.ref b), some (.int (far : Int)), v4, v5, v6, v7, some (.ref ql), none, none, none, none, none] ∧ L5 K T P1 P2 p sc ns qLaw H' ∧ FTx b rs H' ∧ FOd gQ p ql qs H' ∧ qs.length = 8, ?_, ?_⟩
    · refine (show tItms qstA _ _ _ from rd_itms (by decide) fun us H2 k2 a2 => ⟨by rw [← a2.length]; decide, fun l nl => ?_⟩)
      have kk := k2.upd (o := .lst us) nl
      have k3 := (Kept.refl (M := []) H2).upd (o := .lst us) nl
      refine ⟨l, us, rfl, L.k0 kk, X.rl L.pob (.k0 kk), ⟨upd_same, ?_, ?_⟩, a2.length.symm⟩
      · exact fr_of L.pob k2 nl
      · exact odd_all (by decide +kernel) L.pob k3 a2
    clear L X
    rintro σ H9 ⟨ql, qs, rfl, L, X, O, hos⟩
    refine ⟨fun σ H' => ∃ ql qs, σ = [some (.ref sc), some (.ref p), some (.ref b), some (.int (far : Int)), v4, v5, v6, v7, some (.ref ql), none, none, none, none, none] ∧ L5 K T P1 P2 p sc ns qLaw H' ∧ FTx b rs H' ∧ FOd gQ p ql qs H' ∧ qs.length = 12, ?_, ?_⟩
    · refine ⟨_, rfl, ?_⟩
      refine (show tItms qstB _ _ _ from rd_itms (by decide) fun us H3 k3 a3 => ⟨by rw [← a3.length]; decide, fun l nl => ?_⟩)
      have k4 := k3.upd (o := .lst us) nl
      have O4 := O.rl L.pob (.k0 k4)
      refine ⟨ql, l, qs, us, rfl, rfl, O4.ob, upd_same, by rw [hos, ← a3.length]; decide, fun l2 nl2 => ?_⟩
      have k5 := k4.upd (o := .lst (qs ++ us)) nl2
      have k6 := ((Kept.refl (M := []) H3).upd (o := .lst us) nl).upd (o := .lst (qs ++ us)) nl2
      refine ⟨l2, qs ++ us, rfl, L.k0 k5, X.rl L.pob (.k0 k5), ⟨upd_same, fr_of L.pob k4 nl2, fun v hv => ?_⟩, by rw [List.length_append, hos, ← a3.length]; rfl⟩
      rcases List.mem_append.mp hv with h | h
      · exact (O.odd v h).rl L.pob (.k0 k5)
      · exact odd_all (by decide +kernel) L.pob k6 a3 v h
    clear L X O hos qs ql
    rintro σ H10 ⟨ql, qs, rfl, L, X, O, hos⟩
    -- which, of such
    refine ⟨fun σ H' => ∃ v8, σ = [some (.ref sc), some (.ref p), some (.ref b), some (.int (far : Int)), v4, v5, v6, v7, v8, none, none, none, none, none] ∧ L5 K T P1 P2 p sc ns qLaw H' ∧ FTx b rs H', ?_, ?_⟩
    · refine ⟨L.t2, fun H1 e1 t1 lf nlf => ?_⟩
      have r1 : Rl p H10 H1 := .tab L.t2 e1
      have L1 := L.lam AP e1 t1
      have kk := (Kept.refl (M := []) H1).upd (o := .lst []) nlf
      have r2 : Rl p H10 _ := r1.trans (.k0 kk)
      have L2 := L1.k0 kk
      refine ⟨_, rfl, _, rfl, _, rfl, p, sc, ns, 12, rfl, L2.S, by omega, by omega, fun z H4 z0 z1 S4 k4 => ?_⟩
      have r3 := r2.trans (.kd k4)
      have L4 := L2.draw S4 k4
      have O4 := O.rl L.pob r3
      have X4 := X.rl L.pob r3
      obtain ⟨i0, rfl⟩ : ∃ i : Nat, z = (i : Int) := ⟨z.toNat, by omega⟩
      obtain ⟨o, ho⟩ : ∃ o, qs[i0]? = some o := ⟨_, List.getElem?_eq_getElem (by omega)⟩
      refine ⟨ql, qs, _, o, rfl, rfl, SqL.of O4.ob, atI_nat ho, rfl, rfl, .ref b, o, [.int 5], rfl, rfl, L4.ht, X4.txt, (O4.odd _ (List.mem_of_getElem? ho)).qst, fun H5 kp => ?_⟩
      refine ⟨1, .non, by decide, by rw [hC], .inr ⟨rfl, rfl, rfl⟩, fun Hc q kq nq => ?_⟩
      refine ⟨by show (2 : Nat) ≤ sizeLine; decide, fun y ny => ?_⟩
      have e1 := ((Kept.refl (M := []) _).upd (o := .tup [.str "saying", .non]) ny) q _ upd_same (by simp)
      refine ⟨dNm "saying", dNm "saying", dp_nm e1, dp_nm upd_same, sh_say, sh_say, ?_⟩
      rw [eq_say]
      have kB := ((kq.upd (o := .tup [.str "saying", .non]) nq).upd (o := .tup [.str "saying", .non]) ny)
      exact ⟨_, rfl, iteF ⟨_, rfl, (L4.kp AP kp).k0 kB, X.rl L.pob ((r3.trans (.kp L4.ht kp)).trans (.k0 kB))⟩⟩
    clear L X O hos qs ql
    rintro σ H11 ⟨v8, rfl, L, X⟩
    -- what is no word to answer by
    refine ⟨fun σ H' => ∃ av, σ = [some (.ref sc), some (.ref p), some (.ref b), some (.int (far : Int)), v4, v5, v6, v7, v8, some av, none, none, none, none] ∧ L5 K T P1 P2 p sc ns qLaw H' ∧ FTx b rs H' ∧ FAns H' av, ?_, ?_⟩
    · unfold tAsg tOp
      refine (show tLst (tItms ansA) _ _ _ from rd_itms (by decide) fun us H2 k2 a2 => ⟨by rw [← a2.length]; decide, fun l nl => ?_⟩)
      have kk := k2.upd (o := .lst us) nl
      have L2 := L.k0 kk
      have k3 := (Kept.refl (M := []) H2).upd (o := .lst us) nl
      refine ⟨_, rfl, p, sc, ns, 5, rfl, L2.S, by omega, by omega, fun z H4 z0 z1 S4 k4 => ?_⟩
      have L4 := L2.draw S4 k4
      have lp := fr_of L.pob k2 nl
      obtain ⟨i0, rfl⟩ : ∃ i : Nat, z = (i : Int) := ⟨z.toNat, by omega⟩
      have hlen : us.length = 5 := a2.length.symm
      obtain ⟨o, ho⟩ : ∃ o, us[i0]? = some o := ⟨_, List.getElem?_eq_getElem (by omega)⟩
      have fa : FAns H4 o := ((ans_all a2 o (List.mem_of_getElem? ho)).rl (L.k0 k2).pob (.k0 k3)).rl L2.pob (.kd k4)
      exact ⟨l, us, _, o, rfl, rfl, SqL.of (k4 _ _ upd_same (by simpa using lp)), atI_nat ho, o, rfl, L4, X.rl L.pob ((Rl.k0 kk).trans (.kd k4)), fa⟩
    clear L X
    rintro σ H12 ⟨av, rfl, L, X, FA⟩
    -- what is no count
    refine ⟨fun σ H' => ∃ mv, σ = [some (.ref sc), some (.ref p), some (.ref b), some (.int (far : Int)), v4, v5, v6, v7, v8, some av, some mv, none, none, none] ∧ L5 K T P1 P2 p sc ns qLaw H' ∧ FTx b rs H' ∧ FAns H' av ∧ NumV mv ∧ isNumL 3 mv = false, ?_, ?_⟩
    · refine ⟨_, rfl, _, _, rfl, rfl, _, _, rfl, rfl, _, rfl, _, _, rfl, rfl, by show (5 : Nat) ≤ sizeLine; decide, fun l nl => ?_⟩
      have kk := (Kept.refl (M := []) H12).upd (o := .lst [.int (3 + (far : Int)), .int (0 - 1 - (far : Int)), .non, .bl true, .str "1"]) nl
      have L2 := L.k0 kk
      refine ⟨_, rfl, p, sc, ns, 5, rfl, L2.S, by omega, by omega, fun z H4 z0 z1 S4 k4 => ?_⟩
      have L4 := L2.draw S4 k4
      have lp := fr_of L.pob (Kept.refl _) nl
      obtain ⟨i0, rfl⟩ : ∃ i : Nat, z = (i : Int) := ⟨z.toNat, by omega⟩
      obtain ⟨o, ho⟩ : ∃ o, ([.int (3 + (far : Int)), .int (0 - 1 - (far : Int)), .non, .bl true, .str "1"] : List V)[i0]? = some o := ⟨_, List.getElem?_eq_getElem (by show i0 < 5; omega)⟩
      have q := count_all far o (List.mem_of_getElem? ho)
      have r4 := (Rl.k0 kk).trans (.kd k4)
      exact ⟨l, _, _, o, rfl, rfl, SqL.of (k4 _ _ upd_same (by simpa using lp)), atI_nat ho, o, rfl, L4, X.rl L.pob r4, FA.rl L.pob r4, q.1, q.2⟩
    clear L X FA
    rintro σ H13 ⟨mv, rfl, L, X, FA, m1, m2⟩
    -- what is no row's number
    refine ⟨fun σ H' => ∃ nv, σ = [some (.ref sc), some (.ref p), some (.ref b), some (.int (far : Int)), v4, v5, v6, v7, v8, some av, some mv, some nv, none, none] ∧ L5 K T P1 P2 p sc ns qLaw H' ∧ FTx b rs H' ∧ FAns H' av ∧ NumV nv ∧ isNumL (rs.length : Int) nv = false, ?_, ?_⟩
    · refine ⟨_, rfl, b, _, rfl, .inr (.inl (.of X.ob)), _, rfl, _, _, rfl, rfl, _, _, rfl, rfl, _, rfl, _, _, rfl, rfl, by show (5 : Nat) ≤ sizeLine; decide, fun l nl => ?_⟩
      have kk := (Kept.refl (M := []) H13).upd (o := .lst [.int ((rs.length : Int) + (far : Int)), .int (0 - 1 - (far : Int)), .non, .bl true, .str "0"]) nl
      have L2 := L.k0 kk
      refine ⟨_, rfl, p, sc, ns, 5, rfl, L2.S, by omega, by omega, fun z H4 z0 z1 S4 k4 => ?_⟩
      have L4 := L2.draw S4 k4
      have lp := fr_of L.pob (Kept.refl _) nl
      obtain ⟨i0, rfl⟩ : ∃ i : Nat, z = (i : Int) := ⟨z.toNat, by omega⟩
      obtain ⟨o, ho⟩ : ∃ o, ([.int ((rs.length : Int) + (far : Int)), .int (0 - 1 - (far : Int)), .non, .bl true, .str "0"] : List V)[i0]? = some o := ⟨_, List.getElem?_eq_getElem (by show i0 < 5; omega)⟩
      have q := number_all rs.length far o (List.mem_of_getElem? ho)
      have r4 := (Rl.k0 kk).trans (.kd k4)
      exact ⟨l, _, _, o, rfl, rfl, SqL.of (k4 _ _ upd_same (by simpa using lp)), atI_nat ho, o, rfl, L4, X.rl L.pob r4, FA.rl L.pob r4, q.1, q.2⟩
    clear L X FA
    rintro σ H14 ⟨nv, rfl, L, X, FA, n1, n2⟩
    -- a saying
    refine ⟨fun σ H' => ∃ sa s, σ = [some (.ref sc), some (.ref p), some (.ref b), some (.int (far : Int)), v4, v5, v6, v7, v8, some av, some mv, some nv, some (.ref sa), none] ∧ L5 K T P1 P2 p sc ns qLaw H' ∧ FTx b rs H' ∧ FAns H' av ∧ FSay sa s H', ?_, ?_⟩
    · refine ⟨_, rfl, p, sc, ns, rfl, L.S, fun v s H4 few nc S4 k4 st => ?_⟩
      obtain ⟨sa, rfl, es⟩ := st
      exact ⟨sa, s, rfl, L.draw S4 k4, X.rl L.pob (.kd k4), FA.rl L.pob (.kd k4), ⟨es, few, nc⟩⟩
    clear L X FA
    rintro σ H15 ⟨sa, sy, rfl, L, X, FA, FS⟩
    -- the words
    refine ⟨fun σ H' => ∃ wl ws, σ = [some (.ref sc), some (.ref p), some (.ref b), some (.int (far : Int)), v4, v5, v6, v7, v8, some av, some mv, some nv, some (.ref sa), some (.ref wl)] ∧ L5 K T P1 P2 p sc ns qLaw H' ∧ FTx b rs H' ∧ FSay sa sy H' ∧ FWd p wl ws ["count"] H', ?_, ?_⟩
    · refine ⟨L.t2, fun H1 e1 t1 lf nlf => ?_⟩
      have r1 : Rl p H15 H1 := .tab L.t2 e1
      have L1 := L.lam AP e1 t1
      have kk := (Kept.refl (M := []) H1).upd (o := .lst []) nlf
      refine ⟨_, rfl, by show (3 : Nat) ≤ sizeLine; decide, fun tq ntq => ?_⟩
      have k2 := kk.upd (o := .tup [.str "is", .non, .non]) ntq
      have r2 : Rl p H15 _ := r1.trans (.k0 k2)
      have L2 := L1.k0 k2
      refine ⟨av, rfl, rfl, rfl, .ref b, .ref tq, av, rfl, L2.ht, (X.rl L.pob r2).txt, .inr ⟨tq, _, rfl, upd_same, by show (3 : Nat) ≤ 1000; decide, fun x hx => ?_, by decide +kernel⟩, FA.rl L.pob r2, fun H5 kp => ?_⟩
      · simp only [List.mem_cons, List.not_mem_nil, or_false] at hx
        rcases hx with rfl | rfl | rfl
        · exact .inl ⟨_, rfl, by decide⟩
        · exact .inr (.inl rfl)
        · exact .inr (.inl rfl)
      refine ⟨2, .non, by decide, by rw [hCB], .inr ⟨rfl, rfl, rfl⟩, fun Hc q kq nq => ?_⟩
      refine ⟨by show (1 : Nat) ≤ sizeLine; decide, fun wl nwl => ?_⟩
      have kB := (kq.upd (o := .tup [.str "count", .non]) nq).upd (o := .lst [.ref q]) nwl
      have k6 := (Kept.refl (M := []) _).upd (o := .lst [.ref q]) nwl
      have rA : Rl p H15 _ := (r2.trans (.kp L2.ht kp)).trans (.k0 kB)
      have L5' := (L2.kp AP kp)
      exact ⟨wl, [q], rfl, L5'.k0 kB, X.rl L.pob rA, FS.rl L.pob rA, upd_same, fr_of (L5'.k0 (kq.upd (o := .tup [.str "count", .non]) nq)).pob (Kept.refl _) nwl, .cons (k6 _ _ upd_same (by simp)) .nil⟩
    clear L X FA FS
    rintro σ H16 ⟨wl, ws, rfl, L, X, FS, FW'⟩
    refine ⟨fun σ H' => ∃ ws, σ = [some (.ref sc), some (.ref p), some (.ref b), some (.int (far : Int)), v4, v5, v6, v7, v8, some av, some mv, some nv, some (.ref sa), some (.ref wl)] ∧ L5 K T P1 P2 p sc ns qLaw H' ∧ FTx b rs H' ∧ FSay sa sy H' ∧ FWd p wl ws ["count", "count"] H', ?_, ?_⟩
    · refine ⟨_, rfl, .inl ⟨rfl, _, SqL.of FW'.1⟩, L.t2, fun H1 e1 t1 lf nlf => ?_⟩
      have r1 : Rl p H16 H1 := .tab L.t2 e1
      have L1 := L.lam AP e1 t1
      have k2 := (Kept.refl (M := []) H1).upd (o := .lst []) nlf
      have r2 : Rl p H16 _ := r1.trans (.k0 k2)
      have L2 := L1.k0 k2
      refine ⟨_, rfl, _, rfl, mv, rfl, rfl, rfl, .ref b, .ref sa, mv, rfl, L2.ht, (X.rl L.pob r2).txt, (FS.rl L.pob r2).say, m1, m2, fun H5 kp => ?_⟩
      refine ⟨2, .non, by decide, by rw [hCB], .inr ⟨rfl, rfl, rfl⟩, fun Hc q kq nq => ?_⟩
      have kB := kq.upd (o := .tup [.str "count", .non]) nq
      have rA : Rl p H16 _ := (r2.trans (.kp L2.ht kp)).trans (.k0 kB)
      have F7 := FW'.rl L.pob rA
      have L7 := (L2.kp AP kp).k0 kB
      refine ⟨wl, ws.map V.ref, .ref q, rfl, rfl, F7.1, by rw [F7.len]; decide, ws ++ [q], rfl, ?_, (X.rl L.pob rA).put F7.1, (FS.rl L.pob rA).put F7.1, F7.add upd_same⟩
      match ws, F7 with
      | a :: r, F7 => exact L7.put F7.1 F7.2.1
    clear L X FS FW' ws
    rintro σ H17 ⟨ws, rfl, L, X, FS, FW'⟩
    refine ⟨fun σ H' => ∃ ws, σ = [some (.ref sc), some (.ref p), some (.ref b), some (.int (far : Int)), v4, v5, v6, v7, v8, some av, some mv, some nv, some (.ref sa), some (.ref wl)] ∧ L5 K T P1 P2 p sc ns qLaw H' ∧ FTx b rs H' ∧ FSay sa sy H' ∧ FWd p wl ws ["count", "count", "norow"] H', ?_, ?_⟩
    · refine ⟨_, rfl, .inl ⟨rfl, _, SqL.of FW'.1⟩, L.t2, fun H1 e1 t1 lf nlf => ?_⟩
      have r1 : Rl p H17 H1 := .tab L.t2 e1
      have L1 := L.lam AP e1 t1
      have k2 := (Kept.refl (M := []) H1).upd (o := .lst []) nlf
      have r2 : Rl p H17 _ := r1.trans (.k0 k2)
      have L2 := L1.k0 k2
      have X2 := X.rl L.pob r2
      refine ⟨_, rfl, _, rfl, b, rs, nv, rfl, L2.ht, X2.ob, Nat.le_trans X2.len (by decide), fun r hr => (X2.rows r hr).rowT, n1, n2, fun H5 kp => ?_⟩
      refine ⟨4, .non, by decide, by rw [hCN], .inr ⟨rfl, rfl, rfl⟩, fun Hc q kq nq => ?_⟩
      have kB := kq.upd (o := .tup [.str "norow", .non]) nq
      have rA : Rl p H17 _ := (r2.trans (.kp L2.ht kp)).trans (.k0 kB)
      have F7 := FW'.rl L.pob rA
      have L7 := (L2.kp AP kp).k0 kB
      refine ⟨wl, ws.map V.ref, .ref q, rfl, rfl, F7.1, by rw [F7.len]; decide, ws ++ [q], rfl, ?_, (X.rl L.pob rA).put F7.1, (FS.rl L.pob rA).put F7.1, F7.add upd_same⟩
      match ws, F7 with
      | a :: r, F7 => exact L7.put F7.1 F7.2.1
    clear L X FS FW' ws
    rintro σ H18 ⟨ws, rfl, L, X, FS, FW'⟩
    refine ⟨fun σ H' => ∃ ws, σ = [some (.ref sc), some (.ref p), some (.ref b), some (.int (far : Int)), v4, v5, v6, v7, v8, some av, some mv, some nv, some (.ref sa), some (.ref wl)] ∧ FWd p wl ws zsW H', ?_, ?_⟩
    · refine ⟨_, rfl, .inl ⟨rfl, _, SqL.of FW'.1⟩, L.t2, fun H1 e1 t1 lf nlf => ?_⟩
      have r1 : Rl p H18 H1 := .tab L.t2 e1
      have L1 := L.lam AP e1 t1
      refine ⟨Nat.zero_le _, fun tq ntq => ?_⟩
      have k2 := ((Kept.refl (M := []) H1).upd (o := .lst []) nlf).upd (o := .tup []) ntq
      have r2 : Rl p H18 _ := r1.trans (.k0 k2)
      have L2 := L1.k0 k2
      have S2 := FS.rl L.pob r2
      refine ⟨_, rfl, tq, sa, sy, rfl, upd_same, S2.ob, S2.say, L2.ht, L2.t1, AP.n1, fun H5 H4 kp kb => ?_⟩
      refine ⟨5, .non, by decide, by rw [hCF], .inr ⟨rfl, rfl, rfl⟩, fun Hc q kq nq => ?_⟩
      have kB := kq.upd (o := .tup [.str "nofollow", .non]) nq
      have L4 := L2.kp AP kp
      have rA : Rl p H18 _ := ((r2.trans (.kp L2.ht kp)).trans (.tab L4.t1 kb)).trans (.k0 kB)
      have F7 := FW'.rl L.pob rA
      exact ⟨wl, ws.map V.ref, .ref q, rfl, rfl, F7.1, by rw [F7.len]; decide, ws ++ [q], rfl, F7.add upd_same⟩
    clear L X FS FW' ws
    rintro σ H19 ⟨ws, rfl, FW'⟩
    refine ⟨_, rfl, ?_⟩
    refine (show tItms (dueI zsW) _ _ _ from rd_itms (by decide) fun us H2 k2 a2 => ⟨by rw [← a2.length]; decide, fun l nl => ?_⟩)
    have k3 := (Kept.refl (M := []) H2).upd (o := .lst us) nl
    have k4 := k2.upd (o := .lst us) nl
    refine ⟨.list (zsW.map dNm), .list (zsW.map dNm), .lst (SqL.of (k4 _ _ FW'.1 (by simp))) (FWd.dp (Paired.mapP FW'.2.2 fun _ _ e => k4 _ _ e (by simp))), .lst (SqL.of upd_same) (due_dp k3 a2), sh_w, sh_w, ?_⟩
    rw [eq_w]
    exact k _
end
end Ah
end
section
set_option Elab.async false
set_option linter.all false
set_option maxRecDepth 100000
set_option maxHeartbeats 400000
namespace Ah
open PySem PySem.Spec PyProof.Rows L2
/-- the def by its statement st -/
theorem sup_of {P : Program} {K : PySem.W.Frag} {mg : Str → Option Value} {qual : Str} {fI C : Addr} {st : Stmt} {N : List Str} {slf : Str} {rest : List Stmt} {p0 p1 p2 p3 p4 p5 : Pos} {txt : Str} {kk : Nat} {ar : Arg}
    (hf : fnY K fI = valY qual st) (hb : supB K P.main.file qual fI C = true) (hbody : defBody st = .Expr (.Call (.Attribute (.Call (.Name "super" p0) [] [] p1) "__init__" p2) [.Constant (.str txt) kk p3] [] p4) p5 :: rest)
    (har : ((defArgs st).posonlyargs ++ (defArgs st).args).head? = some ar) (hsl : ar.arg = slf) (nd : N.Nodup) (hd : N[0]? = some slf) (sup : mg "super" = none) (top : (P.main.scope.names.lookup ("super" : Str)).isSome = false)
    (h1 : (defScope st).kind = .function ∧ (defScope st).isCoroutine = false ∧ (defScope st).isGenerator = false ∧ (∀ x ∈ (defScope st).names, x.2 ≠ .cell) ∧ (∀ x ∈ N, (defScope st).names.lookup x = some .local) ∧ (∀ x, (defScope st).names.lookup x = some .free → x = "__class__") ∧ (defScope st).names.lookup ("super" : Str) = some .globalImplicit ∧ (defScope st).names.lookup ("__class__" : Str) = some .free)
    (hin : ∀ (L : Addr) (cda cc : Addr), interactive (PySem.W.ksEnv qual (defScope st) L fI (.ref cda) cc) = false)
    (hsw : ∀ (L : Addr) (cda cc : Addr), swapsWith (.Call (.Attribute (.Call (.Name "super" p0) [] [] p1) "__init__" p2) [.Constant (.str txt) kk p3] [] p4) none p5.line (PySem.W.ksEnv qual (defScope st) L fI (.ref cda) cc) = pure false)
    (hev : ∃ pl : Addr → Addr → Addr → Sem Bool, ∀ (L : Addr) (cda cc : Addr), eval (.Call (.Attribute (.Call (.Name "super" p0) [] [] p1) "__init__" p2) [.Constant (.str txt) kk p3] [] p4) (PySem.W.ksEnv qual (defScope st) L fI (.ref cda) cc) = (do
      let ov ← attributeBase (.Call (.Name "super" p0) [] [] p1) "__init__" (PySem.W.ksEnv qual (defScope st) L fI (.ref cda) cc) (eval (.Call (.Name "super" p0) [] [] p1) (PySem.W.ksEnv qual (defScope st) L fI (.ref cda) cc))
      standAt p2.atName
      let (g, first) ← holding [ov] (getMethod ov "__init__" (pl cda cc L))
      callWith p4 g first (backTo p4 (starEach [.Constant (.str txt) kk p3] (PySem.W.ksEnv qual (defScope st) L fI (.ref cda) cc))) []))
    (hst : ∀ (L : Addr) (cda cc : Addr), starEach [.Constant (.str txt) kk p3] (PySem.W.ksEnv qual (defScope st) L fI (.ref cda) cc) = (false, eval (.Constant (.str txt) kk p3) (PySem.W.ksEnv qual (defScope st) L fI (.ref cda) cc)) :: starEach [] (PySem.W.ksEnv qual (defScope st) L fI (.ref cda) cc))
    (hpl : ∀ (L : Addr) (cda cc : Addr), (backTo p4 (starEach [] (PySem.W.ksEnv qual (defScope st) L fI (.ref cda) cc))).any (·.1) = false)
    (hbind : ∀ (kV doc pm ct : Value) (an : Option Addr) (cdv : Value) (cc : Addr) (us : List Value), us.length = N.length → bindArgs (PySem.W.ksFn "__init__" qual (defArgs st) (defBody st) (defScope st) .none kV doc pm an cdv ct cc) ⟨us, []⟩ = pure (N.zip us)) :
    ∃ fd, SupFn P K mg fI C fd N slf rest ∧ L2.Binds K fd N [] := by
  obtain ⟨b1, b2⟩ := band hb
  obtain ⟨b3, b4⟩ := band b2
  obtain ⟨b5, b6⟩ := band b4
  obtain ⟨b7, b8⟩ := band b6
  unfold fnY valY at hf
  cases q : K.lookup fI with
  | none =>
    rw [q] at hf
    cases hf
  | some o =>
    obtain ⟨oc, od, dt, osl⟩ := o
    rw [q] at hf b1
    cases dt with
    | func fd =>
      obtain ⟨n1, n2, n3, n4, n5, n6, n7, n8, n9, n10, n11, n12, n13, n14, n15⟩ := fd
      have e2 : (some (n1, n2, n3, n4, n5, n6, n7.map (·.1), n15) : FnY) = some (("__init__" : Str), qual, defArgs st, FuncBody.stmts (defBody st), defScope st, mainGlobals, [("__class__" : Str)], builtinsNs) := hf
      simp only [Option.some.injEq, Prod.mk.injEq] at e2
      obtain ⟨z1, z2, z3, z4, z5, z6, z7, z8⟩ := e2
      subst z1 z2 z3 z4 z5 z6 z8
      obtain ⟨c1, c2⟩ := band b1
      obtain ⟨c0, c1⟩ := band c1
      have c0 : n8 = .none := of_decide_eq_true c0
      subst c0
      obtain ⟨c3, c4⟩ := band c2
      obtain ⟨cda, e1⟩ : ∃ cda, n13 = .ref cda := by
        cases n13 with
        | ref cda => exact ⟨cda, rfl⟩
        | _ => cases c3
      subst e1
      obtain ⟨cc, e3⟩ : ∃ cc, n7 = [(("__class__" : Str), cc)] := by
        match n7, z7 with
        | [(x, cc)], z7 =>
          have e : x = ("__class__" : Str) := (List.cons.inj z7).1
          exact ⟨cc, by rw [e]⟩
      subst e3
      have c3 : (match K.lookup cda with
          | some ⟨_, _, .fields vs, _⟩ => (match (vs : Array Value)[2]? with
            | some (Value.str f _) => P.main.file == f
            | _ => false)
          | _ => false) = true := c3
      have c4 : (match K.lookup cc with
          | some ⟨_, _, .cell (some (.ref c)), _⟩ => decide (c = C)
          | _ => false) = true := c4
      obtain ⟨ccl, cdd, vs, ccs, file, tf, e4, e5, e6⟩ : ∃ ccl cdd vs ccs file tf, K.lookup cda = some ⟨ccl, cdd, .fields vs, ccs⟩ ∧ vs[2]? = some (.str file tf) ∧ (P.main.file == file) = true := by
        cases r : K.lookup cda with
        | none => rw [r] at c3; cases c3
        | some o =>
          obtain ⟨o1, o2, o3, o4⟩ := o
          rw [r] at c3
          cases o3 with
          | fields vs =>
            have c3 : (match (vs : Array Value)[2]? with
              | some (Value.str f _) => P.main.file == f
              | _ => false) = true := c3
            cases r2 : vs[2]? with
            | none => rw [r2] at c3; cases c3
            | some v =>
              rw [r2] at c3
              cases v with
              | str file tf => exact ⟨o1, o2, vs, o4, file, tf, rfl, r2, c3⟩
              | _ => cases c3
          | _ => cases c3
      obtain ⟨cl, cld, csl, e7⟩ : ∃ cl cld csl, K.lookup cc = some ⟨cl, cld, .cell (some (.ref C)), csl⟩ := by
        cases r : K.lookup cc with
        | none => rw [r] at c4; cases c4
        | some o =>
          obtain ⟨o1, o2, o3, o4⟩ := o
          rw [r] at c4
          cases o3 with
          | cell v =>
            cases v with
            | none => cases c4
            | some u =>
              cases u with
              | ref c =>
                have e : c = C := of_decide_eq_true c4
                rw [e]
                exact ⟨o1, o2, o4, rfl⟩
              | _ => cases c4
          | _ => cases c4
      obtain ⟨pl, hev⟩ := hev
      obtain ⟨s1, s2, s3, s4, s5, s6, s7, s8⟩ := h1
      rw [hbody] at q hbind
      have ex : SupFn P K mg fI C (PySem.W.ksFn "__init__" n2 (defArgs st) (.Expr (.Call (.Attribute (.Call (.Name "super" p0) [] [] p1) "__init__" p2) [.Constant (.str txt) kk p3] [] p4) p5 :: rest) (defScope st) .none n9 n10 n11 n12 (.ref cda) n14 cc) N slf rest := by
        refine ⟨⟨oc, od, "__init__", n2, defArgs st, defScope st, .none, n9, n10, n11, n14, n12, cda, cc, osl, p0, p1, p2, p3, p4, p5, txt, kk, ar, ccl, cl, cdd, cld, ccs, csl, vs, file, tf, pl cda cc, rfl, ?_⟩, nd, hd, sup, top, of_decide_eq_true b3, of_decide_eq_true b5, of_decide_eq_true b7, of_decide_eq_true b8⟩
        refine ⟨q, c1, har, hsl, e4, e5, e6, e7, s1, s2, s3, s4, s5, s6, s7, s8, ?_⟩
        exact ⟨fun L => hin L cda cc, fun L => hsw L cda cc, fun L => hev L cda cc, fun L => hst L cda cc, fun L => hpl L cda cc⟩
      exact ⟨_, ex, .all fun us hl => hbind _ _ _ _ _ _ _ us hl⟩
    | _ => cases b1
end Ah
end
section
set_option Elab.async false
set_option linter.all false
set_option maxRecDepth 100000
set_option maxHeartbeats 2000000
namespace Ah
open PySem PySem.Spec PyProof.Rows L2
theorem num_cases {i : Nat} (hi : i < 7) (h : numW i = true) : i = 0 ∨ i = 3 ∨ i = 6 := by
  match i, hi with
  | 0, _ => exact .inl rfl
  | 1, _ => cases h
  | 2, _ => cases h
  | 3, _ => exact .inr (.inl rfl)
  | 4, _ => cases h
  | 5, _ => cases h
  | 6, _ => exact .inr (.inr rfl)
abbrev PROG05 : Program := PySem.Challenge.pw_answerhouse_k05_sayings_counts_numbers_r
/-- BadRow.__init__ -/
theorem row_init {K : PySem.W.Frag} {mg : Str → Option Value} {w : World} {base : Heap} {fI C : Addr} (hf : fnY K fI = valY "BadRow.__init__" sBadrowInit) (hb : supB K PROG05.main.file "BadRow.__init__" fI C = true) (sup : mg "super" = none)
    (T : OexC K C) (hno : PySem.W.findIn K (.ref C) "number" = some none) :
    ∃ fd, FnOk PROG05 w K mg base (L2.CX PROG05 w) 1 fI fd ["self", "number"] (spErr1 C "number") ∧ L2.Binds K fd ["self", "number"] [] := by
  obtain ⟨fd, S, b⟩ := sup_of (P := PROG05) (mg := mg) (N := ["self", "number"]) (slf := "self") hf hb rfl rfl rfl (by decide) rfl sup (by decide +kernel)
    ⟨rfl, rfl, rfl, by decide +kernel, by decide +kernel, fun x h => by
      have e := PySem.mem_of_lookup h
      revert e
      have q : ∀ p ∈ (defScope sBadrowInit).names, p.2 = NameKind.free → p.1 = ("__class__" : Str) := by decide +kernel
      exact fun e => q _ e rfl, rfl, rfl⟩
    (fun _ _ _ => rfl) (fun _ _ _ => rfl) ⟨_, fun _ _ _ => rfl⟩ (fun _ _ _ => rfl) (fun _ _ _ => rfl)
    (fun kV doc pm ct an cdv cc us hl => by
      match us, hl with
      | [a, b], _ => rfl)
  exact ⟨fd, sup_one S T hno (by decide) (by decide) (by decide) (by decide), b⟩
/-! ### the bindings of the two defs with a default -/
section
variable {K : PySem.W.Frag} {f : Addr} {fd : FuncData}
theorem which_b0 (F : FunD K "which" "which" (defArgs sWhich) (defBody sWhich) (defScope sWhich) [] [("answer", .str "yes")] f fd) : ∃ ds, Vals [V.str "yes"] ds ∧ L2.Binds K fd ["rows", "question", "answer"] ds := by
  refine F.binds0 2 (by simp) rfl (fun D doc pm an cdv ct us ks l1 l2 => ?_)
  match us, l1, ks, l2 with
  | [a, b], _, [c], _ => exact ⟨_, _, _, _, _, _, rfl, rfl, rfl⟩
theorem missing_bk (F : FunD K "missing" "missing" (defArgs sMissing) (defBody sMissing) (defScope sMissing) [] [("most", .int 1)] f fd) : KBn K fd ["rows", "saying", "most"] 2 ["most"] (fun us ws => us ++ ws) (fun vs zs => vs ++ zs) := by
  obtain ⟨oc, od, dV, kV, doc, pm, an, cdv, ct, osl, rfl, lk, hcd, hD, hK⟩ := F.ex
  rcases hD with ⟨_, rfl⟩ | ⟨e, _⟩
  rotate_left
  · exact absurd rfl e
  refine ⟨fun s us ws X l1 l2 => ?_, fun r rz => r.append rz⟩
  match us, l1, ws, l2 with
  | [a, b], _, [c], _ => exact .of_eq rfl
end
end Ah
namespace Ah
open PySem PySem.Spec PyProof.Rows L2
theorem which_bk {K : PySem.W.Frag} {f : Addr} {fd : FuncData} (F : FunD K "which" "which" (defArgs sWhich) (defBody sWhich) (defScope sWhich) [] [("answer", .str "yes")] f fd) : KBn K fd ["rows", "question", "answer"] 2 ["answer"] (fun us ws => us ++ ws) (fun vs zs => vs ++ zs) := by
  obtain ⟨oc, od, dV, kV, doc, pm, an, cdv, ct, osl, rfl, lk, hcd, hD, hK⟩ := F.ex
  rcases hD with ⟨_, rfl⟩ | ⟨e, _⟩
  rotate_left
  · exact absurd rfl e
  refine ⟨fun s us ws X l1 l2 => ?_, fun r rz => r.append rz⟩
  match us, l1, ws, l2 with
  | [a, b], _, [c], _ => exact .of_eq rfl
end Ah
end
section
set_option Elab.async false
set_option linter.all false
set_option maxRecDepth 100000
set_option maxHeartbeats 4000000
namespace Ah
open PySem PySem.Spec PyProof.Rows L2
open GxR (TabB TabG Tabbed)
theorem forms_ok {K : PySem.W.Frag} (h : formsB K = true) {z : Str} {ps : List Str} (e : formsL.lookup z = some ps) : ∃ a, PySem.W.nsIn K (He.ga K "FORMS") z = some (some (.ref a)) ∧ ∀ H, SqT K H a (ps.map V.str) := by
  have m := lookup_in e
  have h2 := List.all_eq_true.mp h _ m
  have h3 : (match PySem.W.nsIn K (He.ga K "FORMS") z with
    | some (some (.ref a)) => tupK K a ps
    | _ => false) = true := h2
  cases q : PySem.W.nsIn K (He.ga K "FORMS") z with
  | none =>
    rw [q] at h3
    cases h3
  | some r =>
    rw [q] at h3
    cases r with
    | none => cases h3
    | some u =>
      cases u with
      | ref a => exact ⟨a, rfl, tupK_ok h3⟩
      | _ => cases h3
theorem mapK_len {α β : Type} {f : α → β} {l : List α} {m : List β} (h : l.map f = m) (i : Nat) {a : α} (ha : l[i]? = some a) : m[i]? = some (f a) := by
  rw [← h, List.getElem?_map, ha] <;> rfl
theorem facts {w : World} {K : PySem.W.Frag} {h : Heap} {mg : Str → Option Value} {f : Addr} (X : K.In h) (G : h.Ns mainGlobals mg) (hfa : mg ("law" : Str) = some (.ref f)) (c : He.SaysX fa fn ts tf exB w h K) (cv : sup05 K = val05) :
    LamX.LawAtS PySem.Challenge.rw_answerhouse_k05_sayings_counts_numbers_r w K CX0 18 63 "_law_script" mg f h := by
  have d := c.t.d
  obtain ⟨fd0, F0⟩ : ∃ fd, FnP K "places_of" sPlaces (He.ga K "places_of") fd := d.def_ 0 (d := dF "places_of" sPlaces) rfl
  obtain ⟨fd1, F1⟩ : ∃ fd, MethP K "__init__" "Rules.__init__" sRInit (He.ma K (He.ga K "Rules") "__init__") fd := d.def_ 1 (d := dM "Rules" "__init__" "Rules.__init__" sRInit) rfl
  obtain ⟨fd2, F2⟩ : ∃ fd, MethP K "__init__" "Search.__init__" sSearchInit (He.ma K (He.ga K "Search") "__init__") fd := d.def_ 2 (d := dM "Search" "__init__" "Search.__init__" sSearchInit) rfl
  obtain ⟨fd3, F3⟩ : ∃ fd, MethP K "run" "Search.run" sSearchRun (He.ma K (He.ga K "Search") "run") fd := d.def_ 3 (d := dM "Search" "run" "Search.run" sSearchRun) rfl
  obtain ⟨fd4, F4⟩ : ∃ fd, MethP K "run_level" "Search.run_level" sSearchRunLevel (He.ma K (He.ga K "Search") "run_level") fd := d.def_ 4 (d := dM "Search" "run_level" "Search.run_level" sSearchRunLevel) rfl
  obtain ⟨fd5, F5⟩ : ∃ fd, MethP K "masks" "Search.masks" sSearchMasks (He.ma K (He.ga K "Search") "masks") fd := d.def_ 5 (d := dM "Search" "masks" "Search.masks" sSearchMasks) rfl
  obtain ⟨fd6, F6⟩ : ∃ fd, FnP K "masks_of" sMasksOf (He.ga K "masks_of") fd := d.def_ 6 (d := dF "masks_of" sMasksOf) rfl
  obtain ⟨fd7, F7⟩ : ∃ fd, FnP K "as_lots" sAsLots (He.ga K "as_lots") fd := d.def_ 7 (d := dF "as_lots" sAsLots) rfl
  obtain ⟨fd8, F8⟩ : ∃ fd, FnP K "is_word" sIsWord (He.ga K "is_word") fd := d.def_ 8 (d := dF "is_word" sIsWord) rfl
  obtain ⟨fd9, F9⟩ : ∃ fd, FnP K "is_row" sIsRow (He.ga K "is_row") fd := d.def_ 9 (d := dF "is_row" sIsRow) rfl
  obtain ⟨fd10, F10⟩ : ∃ fd, FnP K "is_saying" sIsSaying (He.ga K "is_saying") fd := d.def_ 10 (d := dF "is_saying" sIsSaying) rfl
  obtain ⟨fd11, F11⟩ : ∃ fd, FnP K "is_question" sIsQuestion (He.ga K "is_question") fd := d.def_ 11 (d := dF "is_question" sIsQuestion) rfl
  obtain ⟨fd12, F12⟩ : ∃ fd, FnP K "is_number" sIsNumber (He.ga K "is_number") fd := d.def_ 12 (d := dF "is_number" sIsNumber) rfl
  obtain ⟨fd13, F13⟩ : ∃ fd, FnP K "check_text" sCheck (He.ga K "check_text") fd := d.def_ 13 (d := dF "check_text" sCheck) rfl
  obtain ⟨fd14, F14⟩ : ∃ fd, FnP K "check_saying" sCheckSaying (He.ga K "check_saying") fd := d.def_ 14 (d := dF "check_saying" sCheckSaying) rfl
  obtain ⟨fd15, F15⟩ : ∃ fd, FnP K "check_question" sCheckQuestion (He.ga K "check_question") fd := d.def_ 15 (d := dF "check_question" sCheckQuestion) rfl
  obtain ⟨fd16, F16⟩ : ∃ fd, FnP K "check_number" sCheckNumber (He.ga K "check_number") fd := d.def_ 16 (d := dF "check_number" sCheckNumber) rfl
  obtain ⟨fd17, F17⟩ : ∃ fd, FnP K "told_of" sToldOf (He.ga K "told_of") fd := d.def_ 17 (d := dF "told_of" sToldOf) rfl
  obtain ⟨fd18, F18⟩ : ∃ fd, FnP K "names_of" sNamesOf (He.ga K "names_of") fd := d.def_ 18 (d := dF "names_of" sNamesOf) rfl
  obtain ⟨fd19, F19⟩ : ∃ fd, FnP K "bearers" sBearers (He.ga K "bearers") fd := d.def_ 19 (d := dF "bearers" sBearers) rfl
  obtain ⟨fd20, F20⟩ : ∃ fd, FnP K "lots_of" sLotsOf (He.ga K "lots_of") fd := d.def_ 20 (d := dF "lots_of" sLotsOf) rfl
  obtain ⟨fd21, F21⟩ : ∃ fd, FnP K "ask" sAsk (He.ga K "ask") fd := d.def_ 21 (d := dF "ask" sAsk) rfl
  obtain ⟨fd22, F22⟩ : ∃ fd, FnP K "against" sAgainst (He.ga K "against") fd := d.def_ 22 (d := dF "against" sAgainst) rfl
  obtain ⟨fd23, F23⟩ : ∃ fd, FunD K "which" "which" (defArgs sWhich) (defBody sWhich) (defScope sWhich) [] [("answer", .str "yes")] (He.ga K "which") fd := d.def_ 23 (d := dWhich) rfl
  obtain ⟨fd24, F24⟩ : ∃ fd, FunD K "missing" "missing" (defArgs sMissing) (defBody sMissing) (defScope sMissing) [] [("most", .int 1)] (He.ga K "missing") fd := d.def_ 24 (d := dMissing) rfl
  obtain ⟨fd25, F25⟩ : ∃ fd, MthP K "__init__" "House.__init__" sHouseInit (He.ma K (He.ga K "House") "__init__") fd := d.def_ 25 (d := dM "House" "__init__" "House.__init__" sHouseInit) rfl
  obtain ⟨fd26, F26⟩ : ∃ fd, MethP K "ask" "House.ask" sHouseAsk (He.ma K (He.ga K "House") "ask") fd := d.def_ 26 (d := dM "House" "ask" "House.ask" sHouseAsk) rfl
  obtain ⟨fd27, F27⟩ : ∃ fd, FnP K "hanging" sHanging (He.ga K "hanging") fd := d.def_ 27 (d := dF "hanging" sHanging) rfl
  obtain ⟨fd28, F28⟩ : ∃ fd, FnP K "paper" sPaper (He.ga K "paper") fd := d.def_ 28 (d := dF "paper" sPaper) rfl
  obtain ⟨fd29, F29⟩ : ∃ fd, FnP K "_law_row" lRow (He.ga K "_law_row") fd := d.def_ 29 (d := dF "_law_row" lRow) rfl
  obtain ⟨fd30, F30⟩ : ∃ fd, FnP K "_law_taken" lTaken (He.ga K "_law_taken") fd := d.def_ 30 (d := dF "_law_taken" lTaken) rfl
  obtain ⟨fd31, F31⟩ : ∃ fd, FnP K "_law_one" lOne (He.ga K "_law_one") fd := d.def_ 31 (d := dF "_law_one" lOne) rfl
  obtain ⟨fd32, F32⟩ : ∃ fd, FnP K "_law_text" lText (He.ga K "_law_text") fd := d.def_ 32 (d := dF "_law_text" lText) rfl
  obtain ⟨fd33, F33⟩ : ∃ fd, FnP K "_law_word" lWord (He.ga K "_law_word") fd := d.def_ 33 (d := dF "_law_word" lWord) rfl
  obtain ⟨fd34, F34⟩ : ∃ fd, FnP K "_law_saying" lSaying (He.ga K "_law_saying") fd := d.def_ 34 (d := dF "_law_saying" lSaying) rfl
  obtain ⟨fd35, F35⟩ : ∃ fd, FnP K "law" lLaw (He.ga K "law") fd := d.def_ 35 (d := dF "law" lLaw) rfl
  have e := hfa.symm.trans (He.glo_ok X G (d.fact 28 (f := .glo "law") rfl))
  cases e
  have gl : ∀ (i : Nat) (x : Str), fa[i]? = some (.glo x) → mg x = some (.ref (He.ga K x)) := fun i x q => He.glo_ok X G (d.fact i q)
  have fr : ∀ (i : Nat) (x : Str), fa[i]? = some (.free x) → mg x = none := fun i x q => He.free_ok X G (d.fact i q)
  have z_isinstance := fr 29 "isinstance" rfl
  have z_len := fr 30 "len" rfl
  have z_tuple := fr 31 "tuple" rfl
  have z_list := fr 32 "list" rfl
  have z_str := fr 33 "str" rfl
  have z_bool := fr 34 "bool" rfl
  have z_range := fr 35 "range" rfl
  have z_enumerate := fr 36 "enumerate" rfl
  have z_sorted := fr 37 "sorted" rfl
  have z_zip := fr 38 "zip" rfl
  have z_dict := fr 39 "dict" rfl
  have z_all := fr 40 "all" rfl
  have z_super := fr 41 "super" rfl
  have z_ValueError := fr 42 "ValueError" rfl
  have z_int := fr 43 "int" rfl
  have g_FORMS := gl 44 "FORMS" rfl
  have g_BARRED := gl 45 "BARRED" rfl
  have g_ANSWERS := gl 46 "ANSWERS" rfl
  have g_Rules := gl 47 "Rules" rfl
  have g_Search := gl 48 "Search" rfl
  have g_House := gl 49 "House" rfl
  have g_AnswerError := gl 50 "AnswerError" rfl
  have g_ask_asking := gl 51 "ask_asking" rfl
  have g_BadRow := gl 52 "BadRow" rfl
  have g_BadSaying := gl 53 "BadSaying" rfl
  have g_BadCount := gl 54 "BadCount" rfl
  have g_BadSteps := gl 55 "BadSteps" rfl
  have g_NoRow := gl 56 "NoRow" rfl
  have g_NoFollow := gl 57 "NoFollow" rfl
  have g_BadDeed := gl 58 "BadDeed" rfl
  have g_Halted := gl 59 "Halted" rfl
  have g_BadText := gl 60 "BadText" rfl
  obtain ⟨hex, hex2⟩ := He.ba (show (formsB K && (tupK K (He.ga K "BARRED") barred && (tabsB K && (bdB K && wordB K (He.ga K "AnswerError"))))) = true from c.more)
  obtain ⟨hbar, hex3⟩ := He.ba hex2
  obtain ⟨htb, hex5⟩ := He.ba hex3
  obtain ⟨hbd, hwo⟩ := He.ba hex5
  obtain ⟨n1, htb⟩ := He.ba htb
  obtain ⟨n2, htb⟩ := He.ba htb
  obtain ⟨n3, htb⟩ := He.ba htb
  obtain ⟨n4, htb⟩ := He.ba htb
  obtain ⟨n5, htb⟩ := He.ba htb
  have hAsk : He.ga K "ask_asking" = He.ga K "ask" := of_decide_eq_true htb
  have neq : ∀ {a b : Addr}, neT a b = true → a ≠ b := fun {a b} h z => by
    unfold neT at h
    rw [decide_eq_true z] at h
    cases h
  have B : Bl mg := ⟨z_isinstance, z_len, z_tuple, z_list, z_str, z_bool, z_range, z_enumerate, z_sorted, z_zip, z_dict, z_all⟩
  have W : TW K mg := ⟨z_isinstance, z_len, z_all, z_str, z_tuple, z_enumerate, He.int_ok X G (d.fact 61 (f := .int "LONGEST_WORD" 6) rfl), He.str_ok X G (d.fact 63 (f := .str "LETTERS" letters) rfl), He.ga K "BARRED", g_BARRED, tupK_ok hbar⟩
  have e2 : ts.map (fun t => He.dicW K (t.1 K)) = ts.map fun t => some (He.keysIn w.params t.2) := congrArg (fun z : He.AlT => z.2) c.t
  have e3 := List.cons.inj (show He.dicW K (He.ga K "FORMS") :: _ = some (He.keysIn w.params (formsL.map (·.1))) :: _ from e2)
  have hdic : He.dicW K (He.ga K "FORMS") = some (He.keysIn w.params (formsL.map (·.1))) := e3.1
  have hdicA : He.dicW K (He.ga K "ANSWERS") = some (He.keysIn w.params ansL) := (List.cons.inj (show He.dicW K (He.ga K "ANSWERS") :: _ = some (He.keysIn w.params ansL) :: _ from e3.2)).1
  have D : TF K w mg (He.ga K "FORMS") := ⟨g_FORMS, He.dicW_ok hdic, fun z ps hz => forms_ok hex hz, fun z hz => out_of hdic (lookup_none hz)⟩
  have DA : TAns K w mg (He.ga K "ANSWERS") := ⟨g_ANSWERS, He.dicW_ok hdicA, fun z hz => out_of hdicA (by rcases hz with rfl | rfl <;> decide +kernel)⟩
  have hMost := He.int_ok X G (d.fact 62 (f := .int "MOST_ROWS" 24) rfl)
  have hMiss := He.int_ok X G (d.fact 69 (f := .int "MOST_MISSING" 2) rfl)
  have CR : ClsR K (He.ga K "Rules") := ⟨He.cls_ok (d.fact 64 (f := .cls "Rules") rfl), He.noat_ok (d.fact 65 (f := .noat "Rules" "rows") rfl), He.noat_ok (d.fact 66 (f := .noat "Rules" "names") rfl), He.noat_ok (d.fact 67 (f := .noat "Rules" "known") rfl)⟩
  have MR := He.mkr_ok (d.fact 68 (f := .mkr "Rules") rfl)
  have CS : ClsS K (He.ga K "Search") := ⟨He.cls_ok (d.fact 70 (f := .cls "Search") rfl), He.noat_ok (d.fact 71 (f := .noat "Search" "rules") rfl), He.noat_ok (d.fact 72 (f := .noat "Search" "found") rfl), He.noat_ok (d.fact 73 (f := .noat "Search" "levels") rfl)⟩
  have MS := He.mkr_ok (d.fact 77 (f := .mkr "Search") rfl)
  have mLev := He.meth_ok (d.fact 74 (f := .meth "Search" "run_level") rfl)
  have mRun := He.meth_ok (d.fact 75 (f := .meth "Search" "run") rfl)
  have mMas := He.meth_ok (d.fact 76 (f := .meth "Search" "masks") rfl)
  have CHc : ClsH K (He.ga K "House") := ⟨He.cls_ok (d.fact 78 (f := .cls "House") rfl), He.noat_ok (d.fact 79 (f := .noat "House" "standing") rfl), He.noat_ok (d.fact 80 (f := .noat "House" "asked") rfl), He.noat_ok (d.fact 81 (f := .noat "House" "events") rfl), He.noat_ok (d.fact 82 (f := .noat "House" "idle") rfl)⟩
  have MH := He.mkr_ok (d.fact 84 (f := .mkr "House") rfl)
  have mAsk := He.meth_ok (d.fact 83 (f := .meth "House" "ask") rfl)
  obtain ⟨xS, kS, bS, tS⟩ := He.exc_ok (d.fact 85 (f := .exc "BadSaying") rfl)
  obtain ⟨xB, kB, bB, tB⟩ := He.exc_ok (d.fact 86 (f := .exc "BadCount") rfl)
  obtain ⟨xN, kN, bN, tN⟩ := He.exc_ok (d.fact 87 (f := .exc "NoRow") rfl)
  obtain ⟨xF, kF, bF, tF⟩ := He.exc_ok (d.fact 88 (f := .exc "NoFollow") rfl)
  obtain ⟨bd1, bd⟩ := He.ba hbd
  obtain ⟨bd2, bd⟩ := He.ba bd
  obtain ⟨bd3, bd⟩ := He.ba bd
  obtain ⟨bd4, bd⟩ := He.ba bd
  obtain ⟨bd5, bd6⟩ := He.ba bd
  have R1 : One K (He.ga K "BadRow") (He.ma K (He.ga K "BadRow") "__init__") "number" := ⟨oexB_ok bd2, xfB_ok bd3, of_decide_eq_true bd4, of_decide_eq_true bd5, of_decide_eq_true bd6⟩
  obtain ⟨k1, k2, k3, k4, k5⟩ := wordB_ok hwo
  have WF : WordG K mg (He.ga K "AnswerError") (cW K) := ⟨g_AnswerError, g_BadRow, g_BadSaying, g_BadCount, g_BadSteps, g_NoRow, g_NoFollow, g_BadDeed, g_Halted, g_BadText, z_isinstance, z_ValueError, k1, k2, k3, k4, fun i hi hn => k5 i (num_cases hi hn)⟩
  have hsup : fnY K (He.ma K (He.ga K "BadRow") "__init__") = valY "BadRow.__init__" sBadrowInit := (List.cons.inj cv).1
  have bLaw := FunD.bindsA (ps := ["_law_script"]) F35 fun _ _ _ _ _ _ us hl => match us, hl with | [_], _ => rfl
  have code : ∀ {p : He.Defn} {x q : Str} {st : Stmt} {fd : FuncData}, FunD K x q (defArgs st) (defBody st) (defScope st) [] [] (He.fAd K p) fd → fd.code = .ref (He.cT K p).1 := by
    intro p x q st fd F
    obtain ⟨oc, od, dV, kV, doc, pm, an, cdv, ct, osl, rfl, lk, hcd, _, _⟩ := F.ex
    obtain ⟨c0, e0⟩ := He.codeIn_ref hcd
    have e1 := He.codeOf_eq (p := p) lk (show (PySem.W.fnOf x q (defArgs st) (defBody st) (defScope st) dV kV doc pm an cdv ct).code = .ref c0 from e0)
    show cdv = .ref (He.codeOf K p)
    rw [e1, e0]
  refine ⟨fd35, tf.map (He.cT K), spLaw K [(He.cT K ("is_word", none)).2, (He.cT K ("is_row", none)).2] (He.cT K ("as_lots", none)).2 (He.cT K ("law", none)).2, fun p hp => ?_, fun p hp => ?_, fun p hp => ?_, fun s u => bLaw s [u] rfl, fun H a ns hl _ hT hS => ⟨a, ns, rfl, hS, hl, fun P hP => ?_, ?_, ?_, fun _ => rfl⟩, fun base hK hN hTB => ?_⟩
  · obtain ⟨q, hq, rfl⟩ := List.mem_map.mp hp
    exact c.empty q hq
  · obtain ⟨q, hq, rfl⟩ := List.mem_map.mp hp
    exact c.out q hq
  · obtain ⟨q, hq, rfl⟩ := List.mem_map.mp hp
    exact PySem.W.codeHd_of_K X (c.hd q hq)
  · rcases List.mem_cons.mp hP with e | hP
    · exact ⟨#[], e ▸ (hT _ (List.mem_map_of_mem (f := He.cT K) (show (("is_word", none) : He.Defn) ∈ tf from (List.mem_cons_self)))), trivial⟩
    · exact ⟨#[], (List.mem_singleton.mp hP) ▸ (hT _ (List.mem_map_of_mem (f := He.cT K) (show (("is_row", none) : He.Defn) ∈ tf from (List.mem_cons_of_mem _ (List.mem_cons_self))))), trivial⟩
  · exact LamX.TabS.nil (hT _ (List.mem_map_of_mem (f := He.cT K) (show (("as_lots", none) : He.Defn) ∈ tf from (List.mem_cons_of_mem _ (List.mem_cons_of_mem _ (List.mem_cons_self))))))
  · exact LamX.TabS.nil (hT _ (List.mem_map_of_mem (f := He.cT K) (show (("law", none) : He.Defn) ∈ tf from (List.mem_cons_of_mem _ (List.mem_cons_of_mem _ (List.mem_cons_of_mem _ (List.mem_cons_self)))))))
  · have tb : ∀ q ∈ tf, TabB base mg (He.cT K q).1 (He.cT K q).2 := fun q hq => by
      have z := hTB _ (List.mem_map_of_mem (f := He.cT K) hq)
      exact ⟨z.code, z.bm, z.gP⟩
    have inT : ∀ q ∈ tf, (He.cT K q).2 ∈ (tf.map (He.cT K)).map (·.2) := fun q hq => List.mem_map_of_mem (List.mem_map_of_mem hq)
    have m0 : (("is_word", none) : He.Defn) ∈ tf := (List.mem_cons_self)
    have m1 : (("is_row", none) : He.Defn) ∈ tf := (List.mem_cons_of_mem _ (List.mem_cons_self))
    have m2 : (("as_lots", none) : He.Defn) ∈ tf := (List.mem_cons_of_mem _ (List.mem_cons_of_mem _ (List.mem_cons_self)))
    have m3 : (("law", none) : He.Defn) ∈ tf := (List.mem_cons_of_mem _ (List.mem_cons_of_mem _ (List.mem_cons_of_mem _ (List.mem_cons_self))))
    have tbL : ∀ q ∈ tf, LamX.TabB base mg (He.cT K q).1 (He.cT K q).2 := fun q hq => ⟨(tb q hq).code, (tb q hq).bm, (tb q hq).gP⟩
    have i9 : (He.cT K ("is_word", none)).2 ∈ [(He.cT K ("is_word", none)).2, (He.cT K ("is_row", none)).2] := List.mem_cons_self
    have i10 : (He.cT K ("is_row", none)).2 ∈ [(He.cT K ("is_word", none)).2, (He.cT K ("is_row", none)).2] := List.mem_cons_of_mem _ List.mem_cons_self
    have nAT : (He.cT K ("as_lots", none)).2 ∉ [(He.cT K ("is_word", none)).2, (He.cT K ("is_row", none)).2] := fun z => by
      rcases List.mem_cons.mp z with z | z
      · exact neq n1 z
      · exact neq n2 (List.mem_singleton.mp z)
    have nLT : (He.cT K ("law", none)).2 ∉ [(He.cT K ("is_word", none)).2, (He.cT K ("is_row", none)).2] := fun z => by
      rcases List.mem_cons.mp z with z | z
      · exact neq n3 z
      · exact neq n4 (List.mem_singleton.mp z)
    have AP : Ap [(He.cT K ("is_word", none)).2, (He.cT K ("is_row", none)).2] (He.cT K ("as_lots", none)).2 (He.cT K ("law", none)).2 := ⟨nAT, nLT, neq n5⟩
    generalize [(He.cT K ("is_word", none)).2, (He.cT K ("is_row", none)).2] = T at i9 i10 nAT nLT AP ⊢
    obtain ⟨fdI, FI, bI⟩ := row_init (w := w) (base := base) hsup bd1 z_super R1.T R1.hno
    have c9 := code (p := ("is_word", none)) F8
    have c10 := code (p := ("is_row", none)) F9
    have cAL := code (p := ("as_lots", none)) F7
    have cL := code (p := ("law", none)) F35
    have t9 := tb _ m0
    have t10 := tb _ m1
    have tA := tbL _ m2
    have tL := tbL _ m3
    have bW : L2.Binds K fd33 ["_law_work"] [] := F33.bindsN fun _ _ _ _ _ _ us hl => match us, hl with | [_], _ => rfl
    have b_8 : Binds K fd8 ["word"] [] := F8.bindsN fun _ _ _ _ _ _ us hl => match us, hl with | [_], _ => rfl
    have o_is_word : Own (PySem.Challenge.rw_answerhouse_k05_sayings_counts_numbers_r).prog w K mg base "is_word" 3 _ fd8 ["word"] (spWord T) := ⟨ok_word F8 c9 t9 i9 W, gl 3 "is_word" rfl, F8.kp, b_8⟩
    have b_9 : Binds K fd9 ["row"] [] := F9.bindsN fun _ _ _ _ _ _ us hl => match us, hl with | [_], _ => rfl
    have o_is_row : Own (PySem.Challenge.rw_answerhouse_k05_sayings_counts_numbers_r).prog w K mg base "is_row" 5 _ fd9 ["row"] (spRow K T) := ⟨ok_row F9 c10 t10 i10 W D o_is_word.g o_is_word.ok o_is_word.kp o_is_word.b, gl 4 "is_row" rfl, F9.kp, b_9⟩
    have b_13 : Binds K fd13 ["rows"] [] := F13.bindsN fun _ _ _ _ _ _ us hl => match us, hl with | [_], _ => rfl
    have o_check : Own (PySem.Challenge.rw_answerhouse_k05_sayings_counts_numbers_r).prog w K mg base "check_text" 6 _ fd13 ["rows"] (spCheck0 K T) := ⟨ok_check F13 W hMost o_is_row.g o_is_row.ok o_is_row.kp o_is_row.b, gl 8 "check_text" rfl, F13.kp, b_13⟩
    have b_10 : Binds K fd10 ["row"] [] := F10.bindsN fun _ _ _ _ _ _ us hl => match us, hl with | [_], _ => rfl
    have o_isS : Own (PySem.Challenge.rw_answerhouse_k05_sayings_counts_numbers_r).prog w K mg base "is_saying" 6 _ fd10 ["row"] (spIsS T) := ⟨ok_isS F10 o_is_row.g o_is_row.ok o_is_row.kp o_is_row.b, gl 5 "is_saying" rfl, F10.kp, b_10⟩
    have b_11 : Binds K fd11 ["question"] [] := F11.bindsN fun _ _ _ _ _ _ us hl => match us, hl with | [_], _ => rfl
    have o_isQ : Own (PySem.Challenge.rw_answerhouse_k05_sayings_counts_numbers_r).prog w K mg base "is_question" 7 _ fd11 ["question"] (spIsQ T) := ⟨ok_isQ F11 z_isinstance z_tuple o_isS.g o_isS.ok o_isS.kp o_isS.b, gl 6 "is_question" rfl, F11.kp, b_11⟩
    have b_12 : Binds K fd12 ["number", "many"] [] := F12.bindsN fun _ _ _ _ _ _ us hl => match us, hl with | [_, _], _ => rfl
    have o_isnum : Own (PySem.Challenge.rw_answerhouse_k05_sayings_counts_numbers_r).prog w K mg base "is_number" 1 _ fd12 ["number", "many"] spNum := ⟨ok_isnum F12 z_isinstance z_int z_bool, gl 7 "is_number" rfl, F12.kp, b_12⟩
    have b_0 : Binds K fd0 ["rows"] [] := F0.bindsN fun _ _ _ _ _ _ us hl => match us, hl with | [_], _ => rfl
    have o_places : Own (PySem.Challenge.rw_answerhouse_k05_sayings_counts_numbers_r).prog w K mg base "places_of" 1 _ fd0 ["rows"] (spPlaces K (PySem.Challenge.rw_answerhouse_k05_sayings_counts_numbers_r).prog w) := ⟨ok_places F0 B, gl 0 "places_of" rfl, F0.kp, b_0⟩
    have b_1 : Binds K fd1 ["self", "rows", "names"] [] := F1.bindsN fun _ _ _ _ _ _ us hl => match us, hl with | [_, _, _], _ => rfl
    have k_rinit : FnOk (PySem.Challenge.rw_answerhouse_k05_sayings_counts_numbers_r).prog w K mg base CX0 2 _ fd1 ["self", "rows", "names"] (spInit K (PySem.Challenge.rw_answerhouse_k05_sayings_counts_numbers_r).prog w (He.ga K "Rules")) := ok_init F1 CR B o_places
    have b_17 : Binds K fd17 ["rows", "place"] [] := F17.bindsN fun _ _ _ _ _ _ us hl => match us, hl with | [_, _], _ => rfl
    have o_told : Own (PySem.Challenge.rw_answerhouse_k05_sayings_counts_numbers_r).prog w K mg base "told_of" 1 _ fd17 ["rows", "place"] spTold := ⟨ok_told F17 D B, gl 12 "told_of" rfl, F17.kp, b_17⟩
    have b_18 : Binds K fd18 ["rows"] [] := F18.bindsN fun _ _ _ _ _ _ us hl => match us, hl with | [_], _ => rfl
    have o_names : Own (PySem.Challenge.rw_answerhouse_k05_sayings_counts_numbers_r).prog w K mg base "names_of" 2 _ fd18 ["rows"] spNames := ⟨ok_names F18 o_told, gl 13 "names_of" rfl, F18.kp, b_18⟩
    have b_5 : Binds K fd5 ["self", "result"] [] := F5.bindsN fun _ _ _ _ _ _ us hl => match us, hl with | [_, _], _ => rfl
    have k_smasks : FnOk (PySem.Challenge.rw_answerhouse_k05_sayings_counts_numbers_r).prog w K mg base CX0 1 _ fd5 ["self", "result"] (spSM0 K (PySem.Challenge.rw_answerhouse_k05_sayings_counts_numbers_r).prog w (He.ga K "Search")) := e_masks F5 CS B
    have b_4 : Binds K fd4 ["self", "size"] [] := F4.bindsN fun _ _ _ _ _ _ us hl => match us, hl with | [_, _], _ => rfl
    have k_slevel : FnOk (PySem.Challenge.rw_answerhouse_k05_sayings_counts_numbers_r).prog w K mg base CX0 1 _ fd4 ["self", "size"] (spSL0 (PySem.Challenge.rw_answerhouse_k05_sayings_counts_numbers_r).prog w (He.ga K "Search")) := e_level F4 CS B
    have b_3 : Binds K fd3 ["self"] [] := F3.bindsN fun _ _ _ _ _ _ us hl => match us, hl with | [_], _ => rfl
    have k_srun : FnOk (PySem.Challenge.rw_answerhouse_k05_sayings_counts_numbers_r).prog w K mg base CX0 2 _ fd3 ["self"] (spSR0 (PySem.Challenge.rw_answerhouse_k05_sayings_counts_numbers_r).prog w (He.ga K "Search")) := e_run F3 CS B mLev k_slevel b_4
    have b_2 : Binds K fd2 ["self", "rules", "told"] [] := F2.bindsN fun _ _ _ _ _ _ us hl => match us, hl with | [_, _, _], _ => rfl
    have k_sinit : FnOk (PySem.Challenge.rw_answerhouse_k05_sayings_counts_numbers_r).prog w K mg base CX0 3 _ fd2 ["self", "rules", "told"] (spSI0 K (PySem.Challenge.rw_answerhouse_k05_sayings_counts_numbers_r).prog w (He.ga K "Search") (He.ga K "Rules")) := e_sinit F2 CS CR B
    have b_6 : Binds K fd6 ["rules", "told", "result"] [] := F6.bindsN fun _ _ _ _ _ _ us hl => match us, hl with | [_, _, _], _ => rfl
    have o_masksof : Own (PySem.Challenge.rw_answerhouse_k05_sayings_counts_numbers_r).prog w K mg base "masks_of" 5 _ fd6 ["rules", "told", "result"] (spMO0 K (PySem.Challenge.rw_answerhouse_k05_sayings_counts_numbers_r).prog w (He.ga K "Rules")) := ⟨e_masksof F6 CS MS g_Search k_sinit b_2 mRun k_srun b_3 mMas k_smasks b_5, gl 1 "masks_of" rfl, F6.kp, b_6⟩
    have b_7 : Binds K fd7 ["masks", "rows"] [] := F7.bindsN fun _ _ _ _ _ _ us hl => match us, hl with | [_, _], _ => rfl
    have o_aslots : Own (PySem.Challenge.rw_answerhouse_k05_sayings_counts_numbers_r).prog w K mg base "as_lots" 2 _ fd7 ["masks", "rows"] (spAL0 (He.cT K ("as_lots", none)).2) := ⟨e_aslots F7 cAL tA B o_places, gl 2 "as_lots" rfl, F7.kp, b_7⟩
    have b_20 : Binds K fd20 ["rows", "result"] [] := F20.bindsN fun _ _ _ _ _ _ us hl => match us, hl with | [_, _], _ => rfl
    have o_lotsof : Own (PySem.Challenge.rw_answerhouse_k05_sayings_counts_numbers_r).prog w K mg base "lots_of" 6 _ fd20 ["rows", "result"] (spLO0 K (He.cT K ("as_lots", none)).2) := ⟨e_lotsof F20 MR g_Rules k_rinit b_1 o_names o_masksof o_aslots, gl 15 "lots_of" rfl, F20.kp, b_20⟩
    have b_25 : Binds K fd25 ["self", "rows"] [] := F25.bindsN fun _ _ _ _ _ _ us hl => match us, hl with | [_, _], _ => rfl
    have k_hinit : FnOk (PySem.Challenge.rw_answerhouse_k05_sayings_counts_numbers_r).prog w K mg base CX0 7 _ fd25 ["self", "rows"] (spHI K T (He.ga K "House")) := ok_hinit F25 CHc o_check.g o_check.ok o_check.kp o_check.b
    have b_29 : Binds K fd29 ["_law_script"] [] := F29.bindsN fun _ _ _ _ _ _ us hl => match us, hl with | [_], _ => rfl
    have o_lrow : Own (PySem.Challenge.rw_answerhouse_k05_sayings_counts_numbers_r).prog w K mg base "_law_row" 1 _ fd29 ["_law_script"] (spLRow K) := ⟨ok_lrow F29, gl 22 "_law_row" rfl, F29.kp, b_29⟩
    have b_30 : Binds K fd30 ["_law_row_here", "_law_many"] [] := F30.bindsN fun _ _ _ _ _ _ us hl => match us, hl with | [_, _], _ => rfl
    have o_ltaken : Own (PySem.Challenge.rw_answerhouse_k05_sayings_counts_numbers_r).prog w K mg base "_law_taken" 1 _ fd30 ["_law_row_here", "_law_many"] (spTaken K) := ⟨ok_ltaken F30 z_len, gl 23 "_law_taken" rfl, F30.kp, b_30⟩
    have b_31 : Binds K fd31 ["_law_row_here"] [] := F31.bindsN fun _ _ _ _ _ _ us hl => match us, hl with | [_], _ => rfl
    have o_lone : Own (PySem.Challenge.rw_answerhouse_k05_sayings_counts_numbers_r).prog w K mg base "_law_one" 2 _ fd31 ["_law_row_here"] (spOne K) := ⟨ok_lone F31 o_ltaken.g o_ltaken.ok o_ltaken.kp o_ltaken.b, gl 24 "_law_one" rfl, F31.kp, b_31⟩
    have b_32 : Binds K fd32 ["_law_row_here", "_law_many"] [] := F32.bindsN fun _ _ _ _ _ _ us hl => match us, hl with | [_, _], _ => rfl
    have o_ltext : Own (PySem.Challenge.rw_answerhouse_k05_sayings_counts_numbers_r).prog w K mg base "_law_text" 3 _ fd32 ["_law_row_here", "_law_many"] (spText K) := ⟨ok_ltext F32 o_ltaken.g o_ltaken.ok o_ltaken.kp o_ltaken.b o_lone.g o_lone.ok o_lone.kp o_lone.b z_tuple z_range, gl 25 "_law_text" rfl, F32.kp, b_32⟩
    have b_34 : Binds K fd34 ["_law_row_here"] [] := F34.bindsN fun _ _ _ _ _ _ us hl => match us, hl with | [_], _ => rfl
    have o_lsay : Own (PySem.Challenge.rw_answerhouse_k05_sayings_counts_numbers_r).prog w K mg base "_law_saying" 2 _ fd34 ["_law_row_here"] (spLSay K) := ⟨ok_lsaying F34 o_ltaken, gl 27 "_law_saying" rfl, F34.kp, b_34⟩
    exact (by
      have o_chx : OwnX (PySem.Challenge.rw_answerhouse_k05_sayings_counts_numbers_r).prog w K mg base "check_text" 6 _ fd13 ["rows"] (spCheckX K T (He.ga K "BadRow")) := ⟨ok_checkX F13 W hMost o_is_row.g o_is_row.ok o_is_row.kp o_is_row.b R1 FI bI g_BadRow, (gl 8 "check_text" rfl), (F13).kp, ((F13).bindsN fun _ _ _ _ _ _ us hl => match us, hl with | [_], _ => rfl)⟩
      have o_chs : OwnX (PySem.Challenge.rw_answerhouse_k05_sayings_counts_numbers_r).prog w K mg base "check_saying" 7 _ fd14 ["saying"] (spChS T (He.ga K "BadSaying")) := ⟨ok_chS F14 o_isS.g o_isS.ok o_isS.kp o_isS.b g_BadSaying xS kS bS tS, (gl 9 "check_saying" rfl), (F14).kp, ((F14).bindsN fun _ _ _ _ _ _ us hl => match us, hl with | [_], _ => rfl)⟩
      have o_chq : OwnX (PySem.Challenge.rw_answerhouse_k05_sayings_counts_numbers_r).prog w K mg base "check_question" 8 _ fd15 ["question"] (spChQ T (He.ga K "BadSaying")) := ⟨ok_chQ F15 o_isQ.g o_isQ.ok o_isQ.kp o_isQ.b g_BadSaying xS kS bS tS, (gl 10 "check_question" rfl), (F15).kp, ((F15).bindsN fun _ _ _ _ _ _ us hl => match us, hl with | [_], _ => rfl)⟩
      have o_chn : OwnX (PySem.Challenge.rw_answerhouse_k05_sayings_counts_numbers_r).prog w K mg base "check_number" 2 _ fd16 ["number", "many"] (spChNum (He.ga K "NoRow")) := ⟨ok_chnum F16 o_isnum.g o_isnum.ok o_isnum.kp o_isnum.b g_NoRow xN kN bN tN, (gl 11 "check_number" rfl), (F16).kp, ((F16).bindsN fun _ _ _ _ _ _ us hl => match us, hl with | [_, _], _ => rfl)⟩
      have o_be : OwnX (PySem.Challenge.rw_answerhouse_k05_sayings_counts_numbers_r).prog w K mg base "bearers" 8 _ fd19 ["rows", "saying"] (spS T (He.ga K "BadSaying") 0) := ⟨s_bearers F19 o_chx o_chs, (gl 14 "bearers" rfl), (F19).kp, ((F19).bindsN fun _ _ _ _ _ _ us hl => match us, hl with | [_, _], _ => rfl)⟩
      have o_be0 : OwnX (PySem.Challenge.rw_answerhouse_k05_sayings_counts_numbers_r).prog w K mg base "bearers" 8 _ fd19 ["rows", "saying"] (spB0 K T (He.cT K ("as_lots", none)).2) := ⟨b0_bearers F19 o_chx o_chs o_lotsof, (gl 14 "bearers" rfl), (F19).kp, ((F19).bindsN fun _ _ _ _ _ _ us hl => match us, hl with | [_, _], _ => rfl)⟩
      have hA := s_ask F21 o_be
      have gA : mg "ask_asking" = some (.ref (He.ga K "ask")) := by rw [← hAsk]; exact g_ask_asking
      have DO : Doors5 (PySem.Challenge.rw_answerhouse_k05_sayings_counts_numbers_r).prog w K mg base T (He.ga K "BadSaying") (He.ga K "House") (He.ga K "BadCount") (He.ga K "NoRow") (He.ga K "NoFollow") (He.cT K ("as_lots", none)).2 := ⟨⟨_, _, o_be.ok, (gl 14 "bearers" rfl), (F19).kp, ((F19).bindsN fun _ _ _ _ _ _ us hl => match us, hl with | [_, _], _ => rfl)⟩,
        ⟨_, _, hA, gA, (F21).kp, ((F21).bindsN fun _ _ _ _ _ _ us hl => match us, hl with | [_, _], _ => rfl)⟩,
        ⟨_, _, s_against F22 o_chx o_chs, (gl 17 "against" rfl), (F22).kp, ((F22).bindsN fun _ _ _ _ _ _ us hl => match us, hl with | [_, _], _ => rfl)⟩,
        ⟨_, _, s_missing F24 o_chx o_chs, (gl 19 "missing" rfl), (F24).kp, missing_bk F24⟩,
        ⟨_, _, s_paper F28 o_be, (gl 21 "paper" rfl), (F28).kp, ((F28).bindsN fun _ _ _ _ _ _ us hl => match us, hl with | [_, _], _ => rfl)⟩,
        ⟨_, _, k_hinit, MH, g_House, ((F25).bindsN fun _ _ _ _ _ _ us hl => match us, hl with | [_, _], _ => rfl)⟩,
        ⟨_, _, s_hask F26 CHc gA hA (F21).kp ((F21).bindsN fun _ _ _ _ _ _ us hl => match us, hl with | [_, _], _ => rfl), mAsk, ((F26).bindsN fun _ _ _ _ _ _ us hl => match us, hl with | [_, _], _ => rfl)⟩,
        CHc.c,
        ⟨_, _, s_which F23 o_chx o_chq, (gl 18 "which" rfl), (F23).kp, which_bk F23⟩,
        ⟨_, _, a_which F23 o_chx o_chq W DA g_BadCount xB kB bB tB, (gl 18 "which" rfl), (F23).kp, which_bk F23⟩,
        ⟨_, _, c_missing F24 o_chx o_chs o_isnum hMiss g_BadCount xB kB bB tB, (gl 19 "missing" rfl), (F24).kp, missing_bk F24⟩,
        ⟨_, _, n_hanging F27 o_chx o_chn z_len, (gl 20 "hanging" rfl), (F27).kp, ((F27).bindsN fun _ _ _ _ _ _ us hl => match us, hl with | [_, _], _ => rfl)⟩,
        ⟨_, _, p0_paper F28 o_be0 g_NoFollow xF kF bF tF, (gl 21 "paper" rfl), (F28).kp, ((F28).bindsN fun _ _ _ _ _ _ us hl => match us, hl with | [_, _], _ => rfl)⟩⟩
      exact ok_law F35 cL tL AP B o_lrow o_ltext o_ltaken o_lsay F33 (gl 26 "_law_word" rfl) (F33).kp bW WF rfl rfl rfl rfl DO)
end Ah
end
section
open PySem PySem.W PySem.Calls PyProof.Rows
set_option Elab.async false
set_option maxRecDepth 100000
set_option maxHeartbeats 0
theorem PySem.Challenge.cw_answerhouse_k05_sayings_counts_numbers_r_holds : PySem.Challenge.rw_answerhouse_k05_sayings_counts_numbers_r.Holds := by
  w_on; o_law
  refine Ah.head_imp (r := OpenLaw.row PySem.Challenge.rw_answerhouse_k05_sayings_counts_numbers_r) (q := view (OpenLaw.row PySem.Challenge.rw_answerhouse_k05_sayings_counts_numbers_r).prog [87]) (H := Ah.hk) (ob := Ah.ob) (MI := 6000) (M := 12000) (loose := Ah.loose) (d := HandSHeadRun.topDef (OpenLaw.row PySem.Challenge.rw_answerhouse_k05_sayings_counts_numbers_r).prog 87) (kwd := []) Ah.ob_eq
    (by kernel_rfl) Ah.run (by kernel_rfl) (by kernel_rfl) (by kernel_rfl) (by rfl) (by first | assumption | decide +kernel) (by decide +kernel) ⟨rfl, rfl, rfl, rfl, rfl, by decide +kernel⟩ ?hw ?hc
  case hw => w_witness2
  case hc =>
    refine LamX.walk_ofTsE (l := PySem.Challenge.rw_answerhouse_k05_sayings_counts_numbers_r) (n := 63) (k := 18) (x := "_law_script") (CX := fun _ => L2.CX0) rfl (by decide) (by kernel_rfl) ⟨rfl, by decide, by decide⟩ ?F (fun _ _ _ _ _ z => z)
    intro w mg fa h Y G hmg0
    obtain ⟨K, KX, c, cv⟩ := Y
    have hmg : mg ("law" : PySem.Str) = some (.ref fa) := by
      have e : (HandSHeadRun.topDef (OpenLaw.row PySem.Challenge.rw_answerhouse_k05_sayings_counts_numbers_r).prog 87).name = ("law" : PySem.Str) := by kernel_rfl
      rw [← e]
      exact hmg0
    exact ⟨K, KX, Ah.facts KX G hmg c cv⟩
end
