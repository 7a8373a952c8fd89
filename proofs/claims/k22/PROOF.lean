import PyProof.Rows.All
import Wide.All
import OpenK.AllK
import Wide.FinOn
import HandS.Zip
import HandS.SetTxt0
import HandS.SetBool
import PyProof.DictMoreH
import KE.KDictCopyH
import KE.KDictKeyed
import HandS.ForMost
import HandS.AnyAll
import HandS.GenList
import HandS.Walk
import KE.GoesEnum
import HandS.IsInst
import HandS.Defaults
import HandS.HeadHook4
import HandS.HeadWalk
import HandS.Conv
import KE.SortData
import PyProof.FString3
import PyProof.Rows.StrIntSpec
import HandS.FStr
import HandS.Text
import HandS.Star
import HandS.SortInts
import KE.KDictWalk
import HandS.Lambda
import HandS.SortKw
import KE.SortKeyHeap
import HandS.TupAny
import KE.KEqDict
import HandS.Evl
import HandS.DictComp
import HandS.Dict
import HandS.Deep
import PyProof.P3Eq
import HandS.Head2
import HandS.HeadEnd
import HandS.EndTab
import PySem.Challenge.RW_answerhouse_k22_whole_in_any_order
section
set_option Elab.async false
set_option linter.all false
set_option maxRecDepth 100000
set_option maxHeartbeats 2000000
/-! all(elt for x in iter) where elt may call defs: the generator's block as a context of its own. -/
namespace GxG
open PySem PySem.Spec PyProof.Rows L2 GenW
open GxR (TabB TabG Tabbed inv_tab sh_eta)

/-- the generator expression's own scope: one name of its own, nothing captured, no cells -/
structure GenS (env : Env) (scope : Scope) (x : Str) : Prop where
  kind : scope.kind = .function
  co : scope.isCoroutine = false
  nocf : ∀ y ∈ scope.names, y.2 ≠ .cell ∧ y.2 ≠ .free
  dot : scope.names.lookup (".0" : Str) = some NameKind.local
  loc : scope.names.lookup x = some .local
  clo : cloFrom env.cells scope.names [] = []

/-- the generator has been made: the state sB ahead of its frame, and s5 behind it -/
structure Made (X : Cx) (pins : List (Addr × Obj)) (σ : L2.St) (P : Addr) (H1 H2 : Hp) (tg : Expr) (c0 : Expr) (scope : Scope) (J : It) (it : Addr) (fp : List Addr) (tn : Nat → Heap → Prop) (code : Value) (sB s5 : Shared) : Prop where
  tab : Tabbed P H1 H2
  inv : Inv X pins σ H2 sB
  turn : Turn X.prog X.w X.K tg J fp it tn
  tn0 : tn 0 sB.heap
  fpo : ∀ b ∈ fp, FpOk X pins H2 b ∧ b < sB.heap.objs.size
  os : s5.os = sB.os
  bare : AllBare s5.gens
  keep : ∀ b o, sB.heap.get? b = some o → s5.heap.get? b = some o
  ns : s5.heap.Ns sB.heap.objs.size (fun y => if y = (".0" : Str) then some (.ref it) else none)
  gen : ∃ go nm qn, s5.heap.get? (sB.heap.objs.size + 1) = some go ∧ go.cls = .type "generator" ∧ go.data = .fields #[.int sB.gens.size 0, nm, qn] ∧ go.slots = #[]
  gs : s5.gens[sB.gens.size]? = some (.fresh (.compStart c0 0 (.ref it) .none (genEnv scope [] sB.heap.objs.size code builtinsNs X.env)))

section
variable {X : Cx} {pins : List (Addr × Obj)} {σ : L2.St} {H : Hp} {s : Shared}
theorem gen_it {c P : Addr} {elt iter tg : Expr} {x : Str} {gpos : Pos} {scope : Scope} {wi : TI} {k : Nat} {Q' : Value → Shared → Prop} {R : It → Hp → Prop}
    (hr : Room k X.A) (TB : TabB X.base X.mg c P) (hcode : X.env.code = .ref c) (S : GenS X.env scope x) (hi : PI X tg iter wi)
    (hs : ∀ v, genFold iter X.env v = pure v) (I : Inv X pins σ H s) (h : wi σ H fun J H1 => TabG H1 P ∧ R J H1)
    (hQ : ∀ J H1 H2 it fp tn code sB s5, R J H1 → Made X pins σ P H1 H2 tg (.GeneratorExp elt [⟨tg, iter, [], 0⟩] scope gpos) scope J it fp tn code sB s5 → Q' (.ref (sB.heap.objs.size + 1)) s5) :
    wpAny (model X.prog X.w) X.A (eval (.GeneratorExp elt [⟨tg, iter, [], 0⟩] scope gpos) X.env) Q' X.xe s := by
  refine wpAny_GeneratorExp_make (cl := []) S.co (by rw [← S.clo]; exact closure_ok fun y hy e => absurd e (S.nocf y hy).2) (fun y hy => (S.nocf y hy).1) S.dot S.kind (by have := hr.dp; omega) ?_ hs
  refine thn (hi.run pins s σ H _ I h) fun xv s1 h1 => thn h1 fun itv s2 h2 => ?_
  obtain ⟨it, fp, tn, J, H1, rfl, I1, T, st1, f1, ⟨ps, hP, ht⟩, hR⟩ := h2
  have hPs : s2.heap.get? P = some { cls := .none, data := .fields ps } := I1.hok P _ hP
  have cd : PySem.W.CodeHd s2.heap c P := TB.code.keeps fun b u e => I1.bk b u e
  refine ⟨I1.nolimit, ?_⟩
  have fpl : ∀ b ∈ fp, b < s2.heap.objs.size := fun b hb => let ⟨o, e, _⟩ := T.obj _ _ st1 b hb; Heap.lt_size e
  have fpP : ∀ b ∈ fp, b ≠ P := fun b hb z => by
    have := (f1 b hb).1
    rw [z, hP] at this
    cases this
  have cont : ∀ (code : Value) (h3 : Heap) (tk : Nat) (more : Array Value), Heap.ExtBut P s2.heap h3 → s2.heap.objs.size ≤ h3.objs.size → h3.get? P = some { cls := .none, data := .fields (ps ++ more) } → TriplesOk (ps ++ more).toList →
      wpAny (model X.prog X.w) X.A (builtinsFor X.env.globals X.env.builtins) (fun bi s₄ => ∀ h', h'.Ns s₄.heap.objs.size (fun y => if y = (".0" : Str) then some (.ref it) else none) → Heap.SameBut s₄.heap.objs.size (s₄.heap.push { cls := .type "frame", data := .dict #[] }) h' →
          Q' (.ref h'.objs.size) { s₄ with
            gens := s₄.gens.push (.fresh (.compStart (.GeneratorExp elt [⟨tg, iter, [], 0⟩] scope gpos) 0 (.ref it) .none (genEnv scope [] s₄.heap.objs.size code bi X.env))),
            toks := s₄.toks + 1 + 1 + 1,
            heap := h'.push { cls := .type "generator", data := .fields #[.int s₄.gens.size 0, .str "<genexpr>" (s₄.toks + 1), .str (X.env.qual ++ "<genexpr>") (s₄.toks + 1 + 1)] } }) X.xe { s2 with heap := h3, toks := tk } := by
    intro code h3 tk more hx hsz hP3 ht3
    obtain ⟨bm, ob, e1, e2, e3, e4, e5, e6, e7, e8⟩ := TB.bm
    refine wpAny_builtinsFor (m := X.mg) (by rw [I1.ok.glob]; exact (I1.mod.glob.keeps I1.bk).extBut hx TB.gP) e1 e2 (hx _ _ e4 (I1.bk _ _ e5)) e6 e7 e8 ?_
    intro h' hn' hs'
    have J3 : Inv X pins σ (upd H1 P (.tbl (ps ++ more))) { s2 with heap := h3, toks := tk } :=
      inv_tab (more := more) (h' := h3) (g' := s2.gens) (d' := s2.drawn) (t' := tk) I1 hP (fun b u hb e => hx b u hb e) hP3 I1.bare
    have hsz' : h'.objs.size = h3.objs.size + 1 := by rw [hs'.1, Heap.size_push]
    have keep' : ∀ b o, h3.get? b = some o → h'.get? b = some o := fun b o e => hs'.extBut b o (Nat.ne_of_lt (Heap.lt_size e)) (Heap.get?_push_of_some _ e)
    have e9 : Value.ref h'.objs.size = Value.ref (h3.objs.size + 1) := by rw [hsz']
    rw [e9]
    refine hQ J H1 (upd H1 P (.tbl (ps ++ more))) it fp tn code { s2 with heap := h3, toks := tk } _ hR
      ⟨⟨⟨_, upd_same, ht3⟩, fun b hb => upd_ne hb⟩, J3, T, T.keep _ _ _ st1 fun b hb o e => hx b o (fpP b hb) e, fun b hb => ⟨?_, Nat.lt_of_lt_of_le (fpl b hb) hsz⟩, rfl, I1.bare.push rfl, fun b o e => Heap.get?_push_of_some _ (keep' b o e), hn'.push _, ?_, Array.getElem?_push_size ..⟩
    · obtain ⟨q0, q1⟩ := f1 b hb
      exact ⟨by rw [upd_ne (fpP b hb)]; exact q0, q1⟩
    · have hg := Heap.get?_push_size (h := h') (o := { cls := .type "generator", data := .fields #[.int s2.gens.size 0, .str "<genexpr>" (tk + 1), .str (X.env.qual ++ "<genexpr>") (tk + 1 + 1)] }) rfl
      rw [hsz'] at hg
      exact ⟨_, _, _, hg, rfl, rfl, rfl⟩
  cases hf : codeAmong gpos ps.toList with
  | none =>
    refine wpAny_genexprCodeX hcode (cd.code hPs ht) (cd.tab hPs) hf fun c' h' tk hx hge hlt hco' _ htab' _ => ?_
    obtain ⟨o1, vs, f1', tf, fl, tg', inF, tx, tt, op, _, _, _, _, _, _, _, _, _, htr, _⟩ := hco'
    exact cont _ h' tk _ hx (Nat.le_trans hge (Nat.le_of_lt hlt)) htab'.2 htr
  | some cv =>
    refine wpAny_genexprCode_hit hcode (cd.code hPs ht) hf ?_
    have e0 : ps ++ (#[] : Array Value) = ps := by simp
    exact cont cv s2.heap s2.toks #[] (Heap.ExtBut.refl _ _) (Nat.le_refl _) (by rw [e0]; exact hPs) (by rw [e0]; exact ht)
end
end GxG
end
section
set_option Elab.async false
set_option linter.all false
set_option maxRecDepth 100000
set_option maxHeartbeats 2000000
namespace GxG
open PySem PySem.Spec PyProof.Rows L2 GenW
open GxR (TabB TabG Tabbed inv_tab sh_eta)
abbrev gEnv (X : Cx) (sB : Shared) (scope : Scope) (code : Value) : Env := genEnv scope [] sB.heap.objs.size code builtinsNs X.env
/-- the generator's block -/
def gcx (X : Cx) (A : Around) (sB : Shared) (H : Hp) (x : Str) (scope : Scope) (code : Value) (fp : List Addr) (pn : List (Addr × Obj)) : Cx :=
  { X with A := A.deeper (gEnv X sB scope code), N := [x], s_0 := sB, H_0 := H, env := gEnv X sB scope code, outer := X.stack, stack := gEnv X sB scope code :: X.stack, ex := fp, fn := fun _ => true, calm := true, pn := pn, xe := fun _ _ => False }
theorem over_gen {A : Around} {elt tg iter : Expr} {ifs : List Expr} {scope : Scope} {pos : Pos} {it acc : Value} {env : Env} :
    A.over (.compLoop (.GeneratorExp elt [⟨tg, iter, ifs, 0⟩] scope pos) 0 it acc env) [] = A.deeper env := by
  obtain ⟨hd, d, fr, gs, u⟩ := A
  simp [Around.over, Around.deeper, marksOver, frameCount, unitsOf, envsOf, guardsOf, pushEnvs, pushGuards, Code.envs, Code.env?, Code.isFrame, Code.guards, Code.isGuard, Code.weight, Code.frames, Code.isCreation, Code.isCaller, Code.cUnits]
theorem over_gen0 {A : Around} {elt tg iter : Expr} {ifs : List Expr} {scope : Scope} {pos : Pos} {it acc : Value} {env : Env} :
    A.over (.compStart (.GeneratorExp elt [⟨tg, iter, ifs, 0⟩] scope pos) 0 it acc env) [] = A.deeper env := by
  obtain ⟨hd, d, fr, gs, u⟩ := A
  simp [Around.over, Around.deeper, marksOver, frameCount, unitsOf, envsOf, guardsOf, pushEnvs, pushGuards, Code.envs, Code.env?, Code.isFrame, Code.guards, Code.isGuard, Code.weight, Code.frames, Code.isCreation, Code.isCaller, Code.cUnits]
end GxG
namespace GxG
open PySem PySem.Spec PyProof.Rows L2 GenW
open GxR (TabB TabG Tabbed inv_tab sh_eta)
section
variable {X : Cx} {pins : List (Addr × Obj)} {σ : L2.St} {P : Addr} {H1 H2 : Hp} {tg c0 : Expr} {scope : Scope} {J : It} {it : Addr} {fp : List Addr} {tn : Nat → Heap → Prop} {code : Value} {sB s5 : Shared} {A : Around} {x : Str} {pn : List (Addr × Obj)}
theorem gcx_ok (M : Made X pins σ P H1 H2 tg c0 scope J it fp tn code sB s5) (S : GenS X.env scope x) (hA : A.frames = some X.stack) (hh : A.handled = none) : (gcx X A sB H2 x scope code fp pn).Ok := by
  have I := M.inv
  have noc : ∀ (y : Str) (c : Addr), (gEnv X sB scope code).cells.lookup y = some c → False := fun y c e => by
    have e' : ([] : List (Str × Addr)).lookup y = some c := e
    cases e'
  refine ⟨I.ok.mod, S.kind, I.ok.glob, rfl, Nat.le_refl _, fun y z c e => (noc y c e).elim, fun y hy => ?_, fun y c _ e => (noc y c e).elim, fun _ => hh, ?_, .inr ⟨rfl, rfl⟩, fun b hb => ⟨Nat.ne_of_lt (M.fpo b hb).2, fun y c e => (noc y c e).elim⟩, I.bs, Nat.le_trans I.ok.bsz I.sz, fun b o e hb => ?_, fun b hb z => ?_, I.stack, I.stkFree⟩
  · have key : ∀ k, scope.names.lookup y = some k → k = .cell ∨ k = .free → False := fun k hk hk' => by
      have q := S.nocf (y, k) (PySem.mem_of_lookup hk)
      rcases hk' with z | z
      · exact q.1 z
      · exact q.2 z
    rcases hy with hy | hy
    · exact (key _ hy (.inl rfl)).elim
    · exact (key _ hy (.inr rfl)).elim
  · show (A.frames.map _) = some (gEnv X sB scope code :: X.stack)
    rw [hA] <;> rfl
  · rcases (M.fpo b hb).1.2.2.2.1 with z | z
    · exact I.ok.noex b o e z
    · exact absurd (Nat.lt_of_lt_of_le (Heap.lt_size e) (Nat.le_trans I.ok.bsz z)) (Nat.lt_irrefl _)
  · rcases List.mem_cons.mp (I.stkSub b z) with z | z
    · exact (M.fpo b hb).1.2.1 z
    · exact (M.fpo b hb).1.2.2.1 z
theorem inv_gen {go : Obj} {nm qn : Value} (M : Made X pins σ P H1 H2 tg c0 scope J it fp tn code sB s5) (S : GenS X.env scope x) (hA : A.frames = some X.stack) (hh : A.handled = none)
    (hg : s5.heap.get? (sB.heap.objs.size + 1) = some go) (hd : go.data = .fields #[.int sB.gens.size 0, nm, qn]) : Inv (gcx X A sB H2 x scope code fp [(sB.heap.objs.size + 1, go)]) [] [none] H2 s5 := by
  have I := M.inv
  refine ⟨gcx_ok M S hA hh, M.os, M.bare, Un.kept M.keep, ⟨_, M.ns, fun i y v e1 e2 e3 => ?_⟩, fun y c e => ?_, I.hok.fresh (Nat.le_refl _), fun y c e => ?_, fun p hp => ?_, I.hok.kept M.keep, rfl⟩
  · cases i with
    | zero => cases e2
    | succ i => cases e2
  · have e' : ([] : List (Str × Addr)).lookup y = some c := e
    cases e'
  · have e' : ([] : List (Str × Addr)).lookup y = some c := e
    cases e'
  · rcases List.mem_append.mp hp with z | z
    · rw [List.mem_singleton.mp z]
      refine ⟨hg, I.hok.fresh (Nat.le_succ _), Nat.succ_ne_self _, fun hm => ?_, fun v q => by rw [hd] at q; cases q⟩
      have q := I.stkSub _ hm
      rcases List.mem_cons.mp q with z2 | z2
      · have h1 : X.env.locals < sB.heap.objs.size := I.lt
        have h2 : sB.heap.objs.size + 1 = X.env.locals := z2
        rw [← h2] at h1
        exact absurd h1 (Nat.not_lt_of_le (Nat.le_succ _))
      · exact I.nofs (Nat.le_succ _) z2
    · cases z
/-- what a state with the same heap inherits -/
theorem inv_same {Y : Cx} {pins : List (Addr × Obj)} {σ : L2.St} {H : Hp} {s s' : Shared} (I : Inv Y pins σ H s) (ho : s'.os = s.os) (hg : AllBare s'.gens) (hk : ∀ b o, s.heap.get? b = some o → s'.heap.get? b = some o) : Inv Y pins σ H s' :=
  I.call' (ch := []) ho (Un.kept hk) (I.hok.kept hk) hg fun b hb => absurd hb (by simp)
/-- back in the def -/
theorem inv_back {σ' : L2.St} {pins' : List (Addr × Obj)} {H' : Hp} {s' : Shared} (M : Made X pins σ P H1 H2 tg c0 scope J it fp tn code sB s5) (I' : Inv (gcx X A sB H2 x scope code fp pn) pins' σ' H' s') : Inv X pins σ H' s' :=
  M.inv.call' (ch := fp) I'.os I'.base I'.hok I'.bare fun b hb => ⟨(M.fpo b hb).1.2.2.2.1, (M.fpo b hb).1.2.1, (M.fpo b hb).1.2.2.2.2.1, (M.fpo b hb).1.2.2.2.2.2⟩
end
end GxG
end
section
set_option Elab.async false
set_option linter.all false
set_option maxRecDepth 100000
set_option maxHeartbeats 2000000
namespace GxG
open PySem PySem.Spec PyProof.Rows L2 GenW
open GxR (TabB TabG Tabbed inv_tab sh_eta)
/-- what the generator keeps to: the end, an item -/
def GEnd (B : Cx) (QT : Hp → Prop) : GenEnd := fun _ _ r s1 => ((r = .ok (.ret .none) ∨ r = .ok .next) ∧ ∃ H', Inv B [] [none] H' s1 ∧ QT H') ∨ ∃ e, r = .error e ∧ False
def GItem (B : Cx) (QF : Hp → Prop) : Protocol := fun _ _ v s1 kap => ∃ c H' σ' pins', v = .bool c ∧ Inv B pins' σ' H' s1 ∧ (c = false → QF H') ∧ (c = true → ∀ s', s'.heap = s1.heap → s'.os = s1.os → AllBare s'.gens → kap (.send .none) s')
/-- the walk's invariant and its turns -/
def GTurns (J : It) (g : TG) (te : TE) (W : Nat → Nat → Hp → Prop) (QT QF : Hp → Prop) : Prop :=
  ∀ i m H, W i m H → (J.stop i H ∧ QT H) ∨ (J.go i H ∧ ∃ Nx : Hp → Prop, (∀ H', Nx H' → ∃ m', m' < m ∧ W (i + 1) m' H') ∧ ∀ y H', J.yld i H y H' → g y [none] H' fun σ2 H2 => te σ2 H2 fun z H3 => ∃ c, z = .bl c ∧ if c = true then Nx H3 else QF H3)
section
variable {X : Cx} {pins : List (Addr × Obj)} {σ : L2.St} {P : Addr} {H1 H2 : Hp} {elt tg iter : Expr} {scope : Scope} {gpos : Pos} {J : It} {it : Addr} {fp : List Addr} {tn : Nat → Heap → Prop} {code : Value} {sB s5 : Shared} {A : Around} {x : Str} {pn : List (Addr × Obj)}
theorem seg_loop {g : TG} {te : TE} {W : Nat → Nat → Hp → Prop} {QT QF : Hp → Prop} (hco : scope.isCoroutine = false) (T : Turn X.prog X.w X.K tg J fp it tn)
    (hg : PG (gcx X A sB H2 x scope code fp pn) tg g) (he : PE (gcx X A sB H2 x scope code fp pn) elt te) (turn : GTurns J g te W QT QF) :
    ∀ (m n i : Nat) (s₀ s : Shared) (H : Hp), m < n → W i m H → Inv (gcx X A sB H2 x scope code fp pn) [] [none] H s → tn i s.heap → (∀ b ∈ fp, FpOk (gcx X A sB H2 x scope code fp pn) [] H b) →
      Seg (model X.prog X.w) A (GEnd (gcx X A sB H2 x scope code fp pn) QT) (GItem (gcx X A sB H2 x scope code fp pn) QF) n s₀
        (.compLoop (.GeneratorExp elt [⟨tg, iter, [], 0⟩] scope gpos) 0 (.ref it) .none (gEnv X sB scope code))
        ((model X.prog X.w).den (.compLoop (.GeneratorExp elt [⟨tg, iter, [], 0⟩] scope gpos) 0 (.ref it) .none (gEnv X sB scope code))) [] s := by
  intro m
  induction m using Nat.strongRecOn with
  | ind m ih =>
    intro n i s₀ s H hn hW I hst hfp
    obtain ⟨n, rfl⟩ : ∃ q, n = q + 1 := ⟨n - 1, by omega⟩
    show Seg _ A _ _ _ s₀ _ ((compTurn (.GeneratorExp elt [⟨tg, iter, [], 0⟩] scope gpos) 0 (.ref it) .none (gEnv X sB scope code)).onRaise (leaving (gEnv X sB scope code))) [] s
    rw [compTurn_gen, Sem.onRaise_eq_wrap]
    refine seg_bind_wrap (wpAny_standAt ?_)
    rcases turn i m H hW with ⟨stop, q⟩ | ⟨go, Nx, hNx, step⟩
    · refine seg_bind_wrap ?_
      rw [over_gen]
      refine thnF (T.done (gcx X A sB H2 x scope code fp pn) rfl rfl rfl rfl i [] s [none] H (fun _ _ => False) I hfp hst stop) fun r s1 ⟨hr, I1⟩ => ?_
      subst hr
      exact seg_end (.ok .next) (.inl ⟨.inr rfl, H, I1, q⟩)
    · refine seg_bind_wrap ?_
      rw [over_gen]
      refine thnF (T.item (gcx X A sB H2 x scope code fp pn) rfl rfl rfl rfl i [] s [none] H (fun _ _ => False) I hfp hst go) fun r s1 ⟨u, hr, h1⟩ => ?_
      subst hr
      dsimp only
      refine seg_bind_wrap ?_
      rw [over_gen]
      refine thnF h1 fun _ s2 ⟨y, H', I2, r2, y2, st2, n2⟩ => ?_
      have f2 : ∀ b ∈ fp, FpOk (gcx X A sB H2 x scope code fp pn) [] H' b := fun b hb => ⟨n2 b hb, (hfp b hb).2⟩
      have I2' := I2.pinned f2 (T.obj _ _ st2)
      refine seg_bind_wrap ?_
      rw [over_gen]
      refine thnF (hg.run _ s2 _ H' y u _ I2' r2 (step y H' y2)) fun _ s3 ⟨σ3, H3, I3, q3⟩ => ?_
      simp only [List.forIn_nil]
      refine seg_bind_wrap (wpAny_pure ?_)
      simp only [if_true]
      have hy : ∀ v, yieldOut (gEnv X sB scope code) v = yieldValue v := fun v => by
        have e : (gEnv X sB scope code).scope.isCoroutine = false := hco
        simp only [yieldOut, e, Bool.false_eq_true, if_false]
      simp only [hy]
      rw [Sem.bind_eq_wrap', Sem.bind_eq_wrap', Sem.wrap_wrap, Sem.wrap_wrap]
      refine seg_wrap ?_
      rw [over_gen]
      refine thnF (he.run _ s3 σ3 H3 _ I3 q3) fun v s4 ⟨z, H4, I4, r4, c, ez, q4⟩ => ?_
      subst ez
      cases (show v = Value.bool c from r4)
      refine seg_at (seg_yield rfl rfl rfl ⟨c, H4, _, _, rfl, I4, fun e => ?_, fun e s'' eh eo eb => ?_⟩)
      · subst e
        exact q4
      · subst e
        obtain ⟨m', hm', hW'⟩ := hNx H4 q4
        have pin' : ∀ b ∈ fp, ∀ o, s2.heap.get? b = some o → s4.heap.get? b = some o ∧ H4 b = none := fun b hb o e =>
          let z := I4.pin (b, o) (List.mem_append_right _ (List.mem_append_right _ (mem_pinsAt hb e)))
          ⟨z.1, z.2.1⟩
        have I5 : Inv (gcx X A sB H2 x scope code fp pn) [] [none] H4 s'' := inv_same ((I4.unpinned (pins := [])).weak (by rw [I4.len]; rfl) (fun j v e => by
          cases j with
          | zero => cases e
          | succ j => cases e)) eo eb fun b o e => by rw [eh]; exact e
        refine seg_again rfl (ih m' hm' n (i + 1) s'' s'' H4 (by omega) hW' I5 (T.keep _ _ _ st2 fun b hb o e => by rw [eh]; exact (pin' b hb o e).1) fun b hb => ⟨?_, (hfp b hb).2⟩)
        obtain ⟨o, e, _⟩ := T.obj _ _ st2 b hb
        exact (pin' b hb o e).2
end
end GxG
end
section
set_option Elab.async false
set_option linter.all false
set_option maxRecDepth 100000
set_option maxHeartbeats 2000000
namespace GxG
open PySem PySem.Spec PyProof.Rows L2 GenW
open GxR (TabB TabG Tabbed inv_tab sh_eta)
section
variable {A : Around} {R : Result → Shared → Prop} {B : Cx} {QT QF : Hp → Prop} {a : Addr} {g : Nat} {go : Obj} {nm qn : Value}
theorem drain_all (hh : A.handled = none) (hd : A.depth < recursionLimit) (hpn : (a, go) ∈ B.pn) (hgo : go.cls = .type "generator" ∧ go.data = .fields #[.int g 0, nm, qn] ∧ go.slots = #[])
    (hT : ∀ H' s1 s', Inv B [] [none] H' s1 → QT H' → s'.os = s1.os → AllBare s'.gens → (∀ b o, s1.heap.get? b = some o → s'.heap.get? b = some o) → R (.ok (.ret (.bool true))) s')
    (hF : ∀ H' σ' pins' s1 s', Inv B pins' σ' H' s1 → QF H' → s'.os = s1.os → AllBare s'.gens → (∀ b o, s1.heap.get? b = some o → s'.heap.get? b = some o) → R (.ok (.ret (.bool false))) s') :
    ∀ (n : Nat) (s : Shared), s.heap.IsGen a g → s.heap.NoLimit →
      (∃ gs, s.gens[g]? = some gs ∧ gs.Goes (model B.prog B.w) A.in1.in1 (GEnd B QT) (GItem B QF) n (.send .none) (s.setGen g .running)) →
      codeAny (model B.prog B.w) A (.builtin "all.loop" ⟨[.ref a], []⟩) R s := by
  have goes : ∀ {gs : GenState} {A' : Around} {n : Nat} {r : Resume} {s : Shared}, gs.Goes (model B.prog B.w) A' (GEnd B QT) (GItem B QF) n r s →
      gs.Goes (model B.prog B.w) A' (fun n s₀ r s1 => ((r = .ok (.ret .none) ∨ r = .ok .next) ∧ (∃ H', Inv B [] [none] H' s1 ∧ QT H')) ∨ ∃ e, r = .error e ∧ False) (GItem B QF) n r s := fun h => h
  have isg : ∀ {pins' σ' H' s'}, Inv B pins' σ' H' s' → s'.heap.IsGen a g := fun {pins' σ' H' s'} I =>
    ⟨go, nm, qn, (I.pin (a, go) (List.mem_append_left _ hpn)).1, hgo.1, hgo.2.1, hgo.2.2⟩
  intro n
  induction n with
  | zero =>
    intro s hg hl ⟨gs, hgs, hgo'⟩
    refine codeAny_builtin F.entry_all_loop ?_
    rw [Around.under_plainId F.plain_all_loop _]
    show wpAny _ A.in1 (pyNext (.ref a) >>= _) _ _ s
    refine wpAny_bind (next_genG (A := A.in1) (Er := fun _ _ => False) hh hl hd hg hgs (goes hgo') (fun v s₁ gs' hbare hv => ?_) (fun s₁ hp h' hk => ?_) fun e s₁ he => he.elim)
    · obtain ⟨c, H', σ', pins', rfl, I', q1, q2⟩ := hv
      refine wpAny_bind (wpAny_holding (wpAny_truthy_bool ?_))
      refine wpAny_bind (wpAny_letGo ?_)
      cases c with
      | true => exact False.elim (q2 rfl s₁ rfl rfl I'.bare)
      | false =>
        simp only [Bool.false_eq_true, if_false]
        exact wpAny_bind (wpAny_rule (wpAny_pure (hF H' σ' pins' s₁ _ I' (q1 rfl) rfl (allBare_setGen I'.bare hbare) fun b o e => e)))
    · obtain ⟨H', I', q⟩ := hp
      exact wpAny_bind (wpAny_rule (wpAny_pure (hT H' s₁ _ I' q rfl (allBare_setGen I'.bare rfl) hk)))
  | succ n ih =>
    intro s hg hl ⟨gs, hgs, hgo'⟩
    have hgl : g < s.gens.size := (Array.getElem?_eq_some_iff.mp hgs).1
    refine codeAny_builtin F.entry_all_loop ?_
    rw [Around.under_plainId F.plain_all_loop _]
    show wpAny _ A.in1 (pyNext (.ref a) >>= _) _ _ s
    refine wpAny_bind (wpAny_gsz (n := g + 1) hgl (next_genG (A := A.in1) (Er := fun _ _ => False) hh hl hd hg hgs (goes hgo') (fun v s₁ gs' hbare hv => ?_) (fun s₁ hp h' hk => ?_) fun e s₁ he => he.elim))
    · intro hsz
      obtain ⟨c, H', σ', pins', rfl, I', q1, q2⟩ := hv
      refine wpAny_bind (wpAny_holding (wpAny_truthy_bool ?_))
      refine wpAny_bind (wpAny_letGo ?_)
      cases c with
      | true =>
        simp only [if_true]
        have hsz1 : g < s₁.gens.size := by
          have q : (s₁.setGen g gs').gens.size = s₁.gens.size := setGen_size _ _ _
          have hsz' : g + 1 ≤ (s₁.setGen g gs').gens.size := hsz
          omega
        refine wpAny_pure ⟨plainId_quiet F.plain_all_loop _, ih (s₁.setGen g gs') (show s₁.heap.IsGen a g from isg I') (show s₁.heap.NoLimit from I'.nolimit) ⟨gs', setGen_at hsz1, ?_⟩⟩
        exact q2 rfl _ rfl rfl (allBare_setGen (s := s₁.setGen g gs') (allBare_setGen I'.bare hbare) rfl)
      | false =>
        simp only [Bool.false_eq_true, if_false]
        exact wpAny_bind (wpAny_rule (wpAny_pure (hF H' σ' pins' s₁ _ I' (q1 rfl) rfl (allBare_setGen I'.bare hbare) fun b o e => e)))
    · intro hsz
      obtain ⟨H', I', q⟩ := hp
      exact wpAny_bind (wpAny_rule (wpAny_pure (hT H' s₁ _ I' q rfl (allBare_setGen I'.bare rfl) hk)))
end
/-- all(elt for tg in iter): the walk's invariant W by turn and measure; behind it the def's table may have grown -/
def tAllG (P : Addr) (wi : TI) (g : TG) (te : TE) : TE := fun σ H Q => wi σ H fun J H1 => TabG H1 P ∧ ∀ H2, Tabbed P H1 H2 → ∃ W : Nat → Nat → Hp → Prop, (∃ m, W 0 m H2) ∧ GTurns J g te W (Q (.bl true)) (Q (.bl false))
section
variable {X : Cx}
theorem pe_allG {c P : Addr} {elt iter tg : Expr} {x : Str} {p pos gpos : Pos} {scope : Scope} {wi : TI} {g : TG} {te : TE} {k : Nat}
    (hr : Room (k + 1) X.A) (hg : Gl X "all") (hm : X.mg "all" = none) (TB : TabB X.base X.mg c P) (hcode : X.env.code = .ref c) (S : GenS X.env scope x) (hi : PI X tg iter wi)
    (hpg : ∀ (A : Around) (sB : Shared) (H : Hp) (code : Value) (fp : List Addr) (pn : List (Addr × Obj)), PG (gcx X A sB H x scope code fp pn) tg g)
    (hel : ∀ (A : Around) (sB : Shared) (H : Hp) (code : Value) (fp : List Addr) (pn : List (Addr × Obj)), Room k (gcx X A sB H x scope code fp pn).A → PE (gcx X A sB H x scope code fp pn) elt te)
    (hs : ∀ v, genFold iter X.env v = pure v := by intro _; rfl)
    (he : starEach [.GeneratorExp elt [⟨tg, iter, [], 0⟩] scope gpos] X.env = (false, eval (.GeneratorExp elt [⟨tg, iter, [], 0⟩] scope gpos) X.env) :: starEach [] X.env := by rfl) :
    PE X (.Call (.Name "all" p) [.GeneratorExp elt [⟨tg, iter, [], 0⟩] scope gpos] [] pos) (tAllG P wi g te) := by
  refine ⟨fun pins s σ H Q I h => ?_⟩
  refine wpAny_Call_Name_kw (ld_blt I hg hm (by decide +kernel : bootBuiltins "all" = some (.builtin "all")) ?_)
  refine PyProof.Rows.callWith_builtin1 ?_ he (by rfl)
  rw [he]
  show wpAny _ _ (spliced ((false, eval (.GeneratorExp elt [⟨tg, iter, [], 0⟩] scope gpos) X.env) :: backTo pos (starEach [] X.env))) _ _ s
  refine Calls.spliced_cons (gen_it (R := fun J H1 => ∀ H2, Tabbed P H1 H2 → ∃ W : Nat → Nat → Hp → Prop, (∃ m, W 0 m H2) ∧ GTurns J g te W (Q (.bl true)) (Q (.bl false))) hr TB hcode S hi hs I h fun J H1 H2 it fp tn code sB s5 hR M => ?_)
  refine Calls.spliced_nil ?_
  obtain ⟨W, ⟨m0, w0⟩, turn⟩ := hR H2 M.tab
  obtain ⟨go, nm, qn, hgo, hc, hd, hsl⟩ := M.gen
  have hh : X.A.handled = none := hr.hd
  have hA : X.A.in1.in1.frames = some X.stack := I.ok.frames
  have I5 := inv_gen (A := X.A.in1.in1) M S hA hh hgo hd
  have hroom : Room k (gcx X X.A.in1.in1 sB H2 x scope code fp [(sB.heap.objs.size + 1, go)]).A := by
    refine ⟨hh, ?_, ?_⟩
    · have := hr.dp
      show X.A.depth + 1 + 3 * k + 5 < _
      omega
    · have := hr.un
      show X.A.units + 1 + 1 + 3 + 16 * k + 200 < _
      omega
  have hgl : sB.gens.size < s5.gens.size := (Array.getElem?_eq_some_iff.mp M.gs).1
  refine call_function_tree F.kind_all F.plain_all F.entry_all (F.args_all1 _) ?_
  unfold Builtin.«all»
  refine wpAny_bind (m := oneArg "all" _) (wpAny_pure ?_)
  refine wpAny_bind (wpAny_pyIter_gen (g := sB.gens.size) ⟨go, nm, qn, hgo, hc, hd, hsl⟩ ?_)
  refine wpAny_pure ⟨plainId_quiet F.plain_all_loop _, ?_⟩
  refine drain_all (B := gcx X X.A.in1.in1 sB H2 x scope code fp [(sB.heap.objs.size + 1, go)]) (QT := Q (.bl true)) (QF := Q (.bl false)) (g := sB.gens.size) hh hr.depth (List.mem_singleton.mpr rfl) ⟨hc, hd, hsl⟩
    (fun H' s1 s' I' q ho hb hk => ⟨.bl true, H', inv_back M (inv_same I' ho hb hk), rfl, q⟩) (fun H' σ' pins' s1 s' I' q ho hb hk => ⟨.bl false, H', inv_back M (inv_same I' ho hb hk), rfl, q⟩)
    (m0 + 1) s5 ⟨go, nm, qn, hgo, hc, hd, hsl⟩ I5.nolimit ⟨_, M.gs, rfl, ?_⟩
  -- the generator starts
  have I6 : Inv (gcx X X.A.in1.in1 sB H2 x scope code fp [(sB.heap.objs.size + 1, go)]) [] [none] H2 (s5.setGen sB.gens.size .running) := inv_same I5 rfl (allBare_setGen M.bare rfl) fun b o e => e
  have f6 : ∀ b ∈ fp, FpOk (gcx X X.A.in1.in1 sB H2 x scope code fp [(sB.heap.objs.size + 1, go)]) [] H2 b := fun b hb => by
    refine ⟨(M.fpo b hb).1.1, Nat.ne_of_lt (M.fpo b hb).2, fun z => I5.ok.exfs b hb z, .inl hb, fun y c e => ?_, fun p hp => ?_⟩
    · have e' : ([] : List (Str × Addr)).lookup y = some c := e
      cases e'
    · rw [List.mem_singleton.mp hp]
      exact Nat.ne_of_gt (Nat.lt_succ_of_lt (M.fpo b hb).2)
  have tn6 : tn 0 (s5.setGen sB.gens.size .running).heap := M.turn.keep _ _ _ M.tn0 fun b _ o e => M.keep b o e
  have loop := seg_loop (A := X.A.in1.in1) (elt := elt) (iter := iter) (gpos := gpos) (g := g) (te := te) (W := W) (QT := Q (.bl true)) (QF := Q (.bl false)) S.co M.turn (hpg _ sB H2 code fp [(sB.heap.objs.size + 1, go)]) (hel _ sB H2 code fp [(sB.heap.objs.size + 1, go)] hroom) turn
    m0 (m0 + 1) 0 (s5.setGen sB.gens.size .running) (s5.setGen sB.gens.size .running) H2 (Nat.lt_succ_self _) w0 I6 tn6 f6
  show Seg _ _ _ _ _ _ _ ((compStart (.GeneratorExp elt [⟨tg, iter, [], 0⟩] scope gpos) 0 (.ref it) .none (gEnv X sB scope code)).onRaise (leaving (gEnv X sB scope code))) [] _
  unfold compStart
  rw [Sem.onRaise_eq_wrap]
  show Seg _ _ _ _ _ _ _ ((ask >>= _).wrap _ _ _ _) [] _
  refine seg_bind_wrap (wpAny_askSetting ?_)
  split
  · exact seg_again rfl loop
  · refine seg_bind_wrap (wpAny_rule ?_)
    show Seg _ _ _ _ _ _ _ ((standAt iter.pos >>= _).wrap _ _ _ _) [] _
    refine seg_bind_wrap (wpAny_standAt (seg_bind_wrap ?_))
    exact M.turn.self _ 0 _ _ _ tn6 (seg_again rfl loop)
end
end GxG
end
section
set_option Elab.async false
set_option linter.all false
set_option maxRecDepth 100000
namespace GxG
open PySem PySem.Spec PyProof.Rows L2 GenW
theorem nd1 (x : Str) : [x].Nodup := by simp
/-- the turns of all(..) over a walk -/
theorem ga_it {J : It} {n : Nat} {G : Hp → Prop} {Y : Nat → Hp → V → Hp → Prop} (w : Walk J n G Y) {g : TG} {te : TE} {H0 : Hp} {QT QF : Hp → Prop} (Pv : Nat → Hp → Prop) (h0 : Pv 0 H0) (hG : ∀ i H, i ≤ n → Pv i H → G H)
    (hs : ∀ i y H H', i < n → Pv i H → Y i H y H' → g y [none] H' fun σ2 H2 => te σ2 H2 fun z H3 => ∃ c, z = .bl c ∧ if c = true then Pv (i + 1) H3 else QF H3) (hd : ∀ H, Pv n H → QT H) :
    ∃ W : Nat → Nat → Hp → Prop, (∃ m, W 0 m H0) ∧ GTurns J g te W QT QF := by
  refine ⟨fun i m H => m = n - i ∧ i ≤ n ∧ Pv i H, ⟨n, by simp, Nat.zero_le _, h0⟩, ?_⟩
  rintro i m H ⟨rfl, hi, p⟩
  have q := hG i H hi p
  by_cases hlt : i < n
  · exact .inr ⟨w.goes i H hlt q, Pv (i + 1), fun H' p' => ⟨n - (i + 1), by omega, rfl, hlt, p'⟩, fun y H' yy => hs i y H H' hlt p (w.yields i H y H' hlt q yy)⟩
  · have e : i = n := by omega
    subst e
    exact .inl ⟨w.stops H q, hd H p⟩
/-- all of a list, by its first parts -/
theorem all_take {α : Type} {l : List α} {p : α → Bool} {i : Nat} {c : α} (h : (l.take i).all p = true) (hc : l[i]? = some c) : (p c = true → (l.take (i + 1)).all p = true) ∧ (p c = false → l.all p = false) := by
  have e : l.take (i + 1) = l.take i ++ [c] := by rw [List.take_add_one, hc] <;> rfl
  refine ⟨fun z => by rw [e, List.all_append, h]; simp [z], fun z => ?_⟩
  cases q : l.all p with
  | false => rfl
  | true =>
    have := List.all_eq_true.mp q c (List.mem_of_getElem? hc)
    rw [z] at this
    cases this
end GxG
end
section
set_option Elab.async false
set_option linter.all false
set_option maxRecDepth 100000
set_option maxHeartbeats 2000000
/-! enumerate(t), t a tuple, in a for -/
namespace EnT
open PySem PySem.Spec PyProof.Rows L2
theorem meets_new {t : Addr} (items : Array Value) :
    Meets (Builtin.«enumerate.__new__» ⟨[.type "enumerate", .ref t], []⟩) (fun _ R s => s.heap.IsTuple t items ∧
      R (.ok (.ret (.ref (s.heap.push { cls := .type "tuple_iterator", data := .fields #[.ref t, .int 0 0] }).objs.size)))
        { s with heap := (s.heap.push { cls := .type "tuple_iterator", data := .fields #[.ref t, .int 0 0] }).push { cls := .type "enumerate", data := .fields #[.none, .bool false, .ref s.heap.objs.size, rawInt 0, .none, .none] } }) :=
  .of_wp fun prog w A R s h => by
    obtain ⟨hp, g, d, tk, os⟩ := s; obtain ⟨h1, h⟩ := h
    have hsub := sub_enumerate
    have q1 : ∀ {A' : Around} {E : Value → Shared → Prop} {Q : Value → Shared → Prop}, Q (.ref hp.objs.size) ⟨hp.push { cls := .type "tuple_iterator", data := .fields #[.ref t, .int 0 0] }, g, d, tk, os⟩ → wpAny (model prog w) A' (pyIter (.ref t)) Q E ⟨hp, g, d, tk, os⟩ :=
      fun q => (begins_tuple t items).iter prog w _ _ ⟨hp, g, d, tk, os⟩ _ h1 q
    wp_walk using q1
    refine wpAny_stack_any fun st => wpAny_pure ?_
    split
    · rename_i c _ _ _ _ _
      cases (c == Value.type "enumerate")
      · wp_walk using q1
        exact ⟨_, rfl, h⟩
      · wp_walk using q1
        exact ⟨_, rfl, h⟩
    · wp_walk using q1
      exact ⟨_, rfl, h⟩
section
variable {prog : Program} {w : World} {A : Around} {E : Value → Shared → Prop} {s : Shared}
theorem call_enum {t : Addr} {items : Array Value} {Q : Value → Shared → Prop} (h1 : s.heap.IsTuple t items)
    (h : ∀ h', IsEnum h' (s.heap.objs.size + 1) s.heap.objs.size 0 .none → h'.IsTupleIter s.heap.objs.size t 0 →
      (∀ b o, s.heap.get? b = some o → h'.get? b = some o) → Q (.ref (s.heap.objs.size + 1)) { s with heap := h' }) :
    wpAny (model prog w) A (call (.type "enumerate") [.ref t]) Q E s := by
  refine callType_new F.called_enumerate (by decide) (F.typeCall_enumerate_1 _) (F.newCall_enumerate_1 _) (fun obj => F.args_object_init_2 obj _) F.entry_enumerate_new (meets_new items) ⟨h1, ?_⟩
  generalize hob : ({ cls := .type "tuple_iterator", data := .fields #[.ref t, .int 0 0] } : Obj) = ob
  have hfree : ob.isFreed = false := by rw [← hob]; rfl
  have hz : (s.heap.push ob).objs.size = s.heap.objs.size + 1 := Heap.size_push ..
  show _ ∧ _
  rw [hz]
  have he : IsEnum ((s.heap.push ob).push { cls := .type "enumerate", data := .fields #[.none, .bool false, .ref s.heap.objs.size, rawInt 0, .none, .none] }) (s.heap.objs.size + 1) s.heap.objs.size 0 .none := by
    have q := Heap.get?_push_size (s.heap.push ob) (o := { cls := .type "enumerate", data := .fields #[.none, .bool false, .ref s.heap.objs.size, rawInt 0, .none, .none] }) rfl
    rw [hz] at q
    exact q
  refine ⟨⟨_, he, rfl⟩, h _ he ⟨ob, Heap.get?_push_of_some _ (Heap.get?_push_size _ hfree), by subst hob; rfl, by subst hob; rfl⟩ fun b o x => Heap.get?_push_of_some _ (Heap.get?_push_of_some _ x)⟩
end
def IteT (K : PySem.W.Frag) (a : Addr) : It :=
  ⟨fun i H => ∃ (xs : List V) (x : V), SqT K H a xs ∧ xs[i]? = some x, fun i H v H' => ∃ T x, v = .ref T ∧ H T = none ∧ H' = upd H T (.tup [.int (i : Nat), x]) ∧ ∀ xs, SqT K H a xs → xs[i]? = some x, fun i H => ∃ xs : List V, SqT K H a xs ∧ xs.length ≤ i⟩
theorem turn_enumT {P : Program} {w : World} {K : PySem.W.Frag} {elts : List Expr} {kk : Nat} {tpos : Pos} (a e it : Addr) :
    Turn P w K (.Tuple elts kk tpos) (IteT K a) [e, it] e (fun i h => (∃ old, IsEnum h e it ((i : Nat) : Int) old) ∧ h.IsTupleIter it a i ∧ e ≠ it ∧ a ≠ it ∧ e ≠ a) where
  mem := by simp
  obj := fun i h st b hb => by
    obtain ⟨⟨old, he⟩, ⟨o, ho, hc, hd⟩, _⟩ := st
    have e' : b = e ∨ b = it := by simpa using hb
    rcases e' with z | z
    · rw [z]; exact ⟨_, he, fun v q => nomatch q⟩
    · rw [z]; exact ⟨o, ho, fun v q => by rw [hd] at q; cases q⟩
  keep := fun i h h' st k => let ⟨⟨old, he⟩, hi, hne⟩ := st; ⟨⟨old, k e (by simp) _ he⟩, hi.at fun o q => k it (by simp) o q, hne⟩
  item := by
    intro X hP hw hK hc i pins s σ H E I hf st hg
    subst hP hw hK
    obtain ⟨⟨old, he⟩, hit, hne, hai, hea⟩ := st
    obtain ⟨xs, x, hq, hx⟩ := hg
    obtain ⟨its, rv, p, hz⟩ := I.tuple hq
    obtain ⟨u, hu, ru⟩ := rv.get hx
    have hel : e < s.heap.objs.size := Heap.lt_size he
    have hil : it < s.heap.objs.size := by obtain ⟨_, q, _⟩ := hit; exact Heap.lt_size q
    have hsz0 : i < its.toArray.size := by
      have := (List.getElem?_eq_some_iff.mp hu).1
      simpa using this
    refine wpAny_pyNext_enum_itemD (Draws.tuple (A := X.A.in1) (I.ok.hd hc) it a hai its.toArray) he ⟨hit, p⟩ hsz0 hne (by simp [hne, hea]) fun y h' tk hy ho hst hT hsz hk => ?_
    obtain rfl : y = u := by
      rw [show its.toArray[i]? = some u by simpa using hu] at hy
      exact (Option.some.inj hy).symm
    refine ⟨_, rfl, wpAny_letOwnedTupleGo_enum (s := { s with heap := h', toks := tk + 1 }) ho fun h'' he' sb => ?_⟩
    have hT2 : h''.get? s.heap.objs.size = some { cls := .type "tuple", data := .seq #[.int i tk, y] } := (sb.2 _ (Nat.ne_of_gt hel)).trans hT
    have new : ObjOk X.prog X.w (upd H s.heap.objs.size (.tup [.int (i : Nat), x])) h'' s.heap.objs.size (.tup [.int (i : Nat), x]) :=
      ⟨by show 2 ≤ sizeLine; decide, [.int i tk, y], .cons ⟨_, rfl⟩ (.cons ru .nil), ⟨_, hT2, rfl, _, rfl⟩⟩
    have I1 : Inv X pins σ (upd H s.heap.objs.size (.tup [.int (i : Nat), x])) { s with heap := h'', toks := tk + 1 } :=
      I.turnedNew (ch := [e, it]) (fun b ob hb q => (sb.2 b (fun z => hb (by simp [z]))).trans (hk b ob (fun z => hb (by simp [z])) (fun z => hb (by simp [z])) q)) hf (Nat.le_refl _) new
    refine ⟨.ref s.heap.objs.size, _, I1, rfl, ⟨_, x, rfl, I.hok.fresh (Nat.le_refl _), rfl, fun ys hy => by rw [I.tuple_inj hy hq]; exact hx⟩, ⟨⟨y, ?_⟩, hst.1.at fun o q => (sb.2 it (Ne.symm hne)).trans q, hne, hai, hea⟩, fun b hb => ?_⟩
    · have e1 : ((i + 1 : Nat) : Int) = (i : Int) + 1 := by omega
      rw [e1]; exact he'
    · have hb' : b < s.heap.objs.size := by
        have e' : b = e ∨ b = it := by simpa using hb
        rcases e' with z | z
        · rw [z]; exact hel
        · rw [z]; exact hil
      rw [upd_ne (Nat.ne_of_lt hb')]
      exact (hf b hb).1
  done := by
    intro X hP hw hK hc i pins s σ H E I hf st hg
    subst hP hw hK
    obtain ⟨⟨old, he⟩, hit, hne, hai, hea⟩ := st
    obtain ⟨xs, hq, hx⟩ := hg
    obtain ⟨its, rv, p, hz⟩ := I.tuple hq
    obtain ⟨f0, f1, f2, f3, f4, f5⟩ := hf it (by simp)
    have hl := rv.length
    have hT : s.TypeIs (.ref e) "enumerate" := ⟨_, he, rfl⟩
    unfold pyNext
    refine wpAny_bind (wpAny_attempt (wpAny_callSpecial?_slot (name := Str.ofString "__next__") hT F.slot_enumerate_next (wpAny_call_entry F.slot_enumerate_next hT F.entry_enumerate_next ?_ (F.args_enumerate_next_1 _))))
    show wpAny _ _ (field (.ref e) 2 >>= _) _ _ _
    refine wpAny_bind (wpAny_field he rfl (x := .ref it) rfl ?_)
    refine wpAny_bind (wpAny_nextOf_tuple_end (I.ok.hd hc) hit p (by simp; omega) fun h' x he' hx' => ?_)
    obtain ⟨o, ho, hc⟩ := hx'
    refine wpAny_bind (wpAny_isInstance (T := "StopIteration") (b := true) ⟨o, ho, hc⟩ isSubtype_stop ?_)
    exact wpAny_pure ⟨rfl, I.turned (t' := s.toks) (fun b o hb q => he' b o hb q) f0 f1 f3 f4 f5⟩
  self := fun A i s Q E st h => let ⟨⟨_, he⟩, _⟩ := st; wpAny_pyIter_enum he h
def iEnumT (K : PySem.W.Frag) (ta : TA) : TI := fun σ H R => ta σ H fun vs H1 => ∃ a xs, vs = [.ref a] ∧ SqT K H1 a xs ∧ R (IteT K a) H1
theorem pi_enumT {X : Cx} {e : Expr} {ta : TA} {p pos tpos : Pos} {elts : List Expr} {kk : Nat} (hg : Gl X "enumerate") (hm : X.mg "enumerate" = none) (ha : PA X [e] ta) (hs : starEach [e] X.env = [(false, eval e X.env)] := by rfl) :
    PI X (.Tuple elts kk tpos) (.Call (.Name "enumerate" p) [e] [] pos) (iEnumT X.K ta) := by
  refine ⟨fun pins s σ H R I h => ?_⟩
  refine Call_ (ld_blt I hg hm boot_enumerate (PyProof.Rows.callWith_type1 (thn (ha.run pos pins s σ H _ I h) fun us s1 ⟨vs, H1, I1, r1, q1⟩ => ?_) hs rfl))
  obtain ⟨a, xs, ex, hq, q⟩ := q1
  subst ex
  cases r1 with
  | cons r rr =>
    cases rr
    cases r
    obtain ⟨its, rv, p', hz⟩ := I1.tuple hq
    have hal : a < s1.heap.objs.size := let ⟨_, h, _⟩ := p'; Heap.lt_size h
    refine call_enum (items := its.toArray) p' fun h' he hit hk => wpAny_pyIter_enum he ?_
    have I2 : Inv X pins σ H1 { s1 with heap := h' } := I1.kept (t' := s1.toks) hk
    refine ⟨s1.heap.objs.size + 1, [s1.heap.objs.size + 1, s1.heap.objs.size], _, _, H1, rfl, I2, turn_enumT a (s1.heap.objs.size + 1) s1.heap.objs.size, ⟨⟨.none, he⟩, hit, Nat.succ_ne_self _, Nat.ne_of_lt hal, Nat.ne_of_gt (Nat.lt_succ_of_lt hal)⟩, fun b hb => ?_, q⟩
    have e' : b = s1.heap.objs.size + 1 ∨ b = s1.heap.objs.size := by simpa using hb
    have hle : s1.heap.objs.size ≤ b := by
      rcases e' with z | z
      · rw [z]; exact Nat.le_add_right _ _
      · rw [z]; exact Nat.le_refl _
    exact I1.fpOk hle (I1.hok.fresh hle)
theorem walk_enumT {K : PySem.W.Frag} {a : Addr} {xs : List V} : Walk (IteT K a) xs.length (fun H => SqT K H a xs) (YPair (fun i => some (.int (i : Nat))) (fun i => xs[i]?)) := by
  refine ⟨fun i _ hi q => ⟨xs, xs[i], q, by simp [hi]⟩, fun _ q => ⟨xs, q, Nat.le_refl _⟩, fun i H v H' _ q y => ?_⟩
  obtain ⟨T, x, h1, h2, h3, h4⟩ := y
  exact ⟨T, .int (i : Nat), x, h1, h2, h3, rfl, h4 xs q⟩
end EnT
end
section
set_option Elab.async false
set_option linter.all false
set_option maxRecDepth 100000
set_option maxHeartbeats 2000000
namespace Ah
open PySem PySem.Spec PyProof.Rows L2
open GxR (TabB TabG Tabbed)
/-! ### the text by places -/
def top (i : Nat) : Stmt := PySem.Challenge.pw_answerhouse_k22_whole_in_any_order.main.body.getD i (.Pass ⟨0, 0, 0, 0⟩)
abbrev sWall : Stmt := top 0
abbrev sPlaces : Stmt := top 3
abbrev sLKind : Stmt := top 4
abbrev sLOn : Stmt := top 5
abbrev sLTie : Stmt := top 6
abbrev sLBy : Stmt := top 7
abbrev sRInit : Stmt := inClass (top 8) 0
abbrev sRLeads : Stmt := inClass (top 8) 1
abbrev sRWork : Stmt := inClass (top 8) 2
abbrev sAll : Stmt := top 9
abbrev sSizeOf : Stmt := top 11
abbrev sSearchInit : Stmt := inClass (top 12) 0
abbrev sSearchRun : Stmt := inClass (top 12) 1
abbrev sSearchRunLevel : Stmt := inClass (top 12) 2
abbrev sSearchFindsOther : Stmt := inClass (top 12) 3
abbrev sSearchHasPart : Stmt := inClass (top 12) 4
abbrev sSearchPut : Stmt := inClass (top 12) 5
abbrev sSearchTake : Stmt := inClass (top 12) 6
abbrev sSearchJoinSecond : Stmt := inClass (top 12) 7
abbrev sSearchJoinFirst : Stmt := inClass (top 12) 8
abbrev sSearchMasks : Stmt := inClass (top 12) 9
abbrev sMasksOf : Stmt := top 13
abbrev sLotsOfMask : Stmt := top 14
abbrev sAsLots : Stmt := top 15
abbrev sBadrowInit : Stmt := inClass (top 18) 0
abbrev sIsWord : Stmt := top 27
abbrev sIsRow : Stmt := top 28
abbrev sIsSaying : Stmt := top 29
abbrev sIsNumber : Stmt := top 30
abbrev sCheck : Stmt := top 31
abbrev sCheckSaying : Stmt := top 32
abbrev sCheckNumber : Stmt := top 33
abbrev sToldOf : Stmt := top 34
abbrev sNamesOf : Stmt := top 35
abbrev sFollows : Stmt := top 37
abbrev sBearers : Stmt := top 38
abbrev sClashes : Stmt := top 39
abbrev sLotsOf : Stmt := top 40
abbrev sTrusted : Stmt := top 42
abbrev sNeedless : Stmt := top 43
abbrev sResultsOf : Stmt := top 44
abbrev sLeft : Stmt := top 45
abbrev sHanging : Stmt := top 46
abbrev sParted : Stmt := top 47
abbrev sOnlyFirst : Stmt := top 48
abbrev lRow : Stmt := top 50
abbrev lTaken : Stmt := top 51
abbrev lOne : Stmt := top 52
abbrev lText : Stmt := top 53
abbrev lLaw : Stmt := top 54
abbrev FnP (K : PySem.W.Frag) (x : Str) (st : Stmt) (f : Addr) (fd : FuncData) : Prop := FunD K x x (defArgs st) (defBody st) (defScope st) [] [] f fd
/-- the rule for a def whose code object is known -/
theorem okC {P : Program} {w : World} {K : PySem.W.Frag} {mg : Str → Option Value} {base : Heap} {x qual : Str} {params : Arguments} {body : List Stmt} {scope : Scope} {dvs : List V} {kws : List (Str × V)} {f c : Addr} {fd : FuncData}
    {CX : CXT} {N ps : List Str} {k : Nat} {sp : Sp} (F : FunD K x qual params body scope dvs kws f fd) (hc : fd.code = .ref c) (S : FnScope N ps scope) (len : ∀ vs H Q E, sp vs H Q E → vs.length = ps.length)
    (hbody : ∀ (A : Around) (outer : List Env) (s : Shared) (H : Hp) (vs : List V) (Q : VK) (E : XK), Room k (A.deeper (envOfC qual scope s.heap.objs.size f (.ref c))) → sp vs H Q E →
      ∃ t, PSs (cxOf CX P w K mg base N qual scope f (.ref c) A outer s H E) body t ∧ t { nx := fun _ H' => Q .non H', rt := Q } (start N vs) H) : FnOk P w K mg base CX (k + 1) f fd ps sp := by
  obtain ⟨oc, od, dV, kV, doc, pm, an, cdv, ct, osl, rfl, lk, hcd, _, _⟩ := F.ex
  have e : cdv = .ref c := hc
  subst e
  exact fn_of lk hcd S len fun A outer s H vs Q E hr hsp => hbody A outer s H vs Q E hr hsp
/-! ### words -/
def letters : Str := "abcdefghijklmnopqrstuvwxyz"
def barred : List Str := ["is", "isnt", "has", "hasnt", "to", "all", "are", "no", "each", "who", "some", "turned", "goes", "on", "comes", "from", "leads", "also"]
def isWord (z : Str) : Bool := decide (1 ≤ z.length) && decide (z.length ≤ 6) && !(barred.contains z) && z.cps.toList.all fun c => decide (c ∈ letters.cps.toList)
structure TW (K : PySem.W.Frag) (mg : Str → Option Value) : Prop where
  isi : mg "isinstance" = none
  len : mg "len" = none
  all_ : mg "all" = none
  str : mg "str" = none
  tup : mg "tuple" = none
  enu : mg "enumerate" = none
  lw : ∃ t, mg "LONGEST_WORD" = some (.int 6 t)
  let_ : ∃ t, mg "LETTERS" = some (.str letters t)
  bar : ∃ a, mg "BARRED" = some (.ref a) ∧ ∀ H, SqT K H a (barred.map V.str)
/-- the tables may have grown, all else that was held is held -/
structure Kp (T : List Addr) (H H' : Hp) : Prop where
  tab : ∀ P ∈ T, TabG H' P
  keep : ∀ b o, H b = some o → b ∉ T → H' b = some o
end Ah
end
section
set_option Elab.async false
set_option linter.all false
set_option maxRecDepth 100000
set_option maxHeartbeats 2000000
namespace Ah
open PySem PySem.Spec PyProof.Rows L2
open GxR (TabB TabG Tabbed)
open GxG
/-- what may be looked at as a word -/
def PlainV (H : Hp) (v : V) : Prop := (∃ z, v = .str z ∧ z.length ≤ sizeLine) ∨ v = .non ∨ (∃ i, v = .int i) ∨ ∃ a xs, v = .ref a ∧ (H a = some (.tup xs) ∨ H a = some (.lst xs))
theorem PlainV.kp {T : List Addr} {H H' : Hp} {v : V} (ht : ∀ P ∈ T, TabG H P) (k : Kp T H H') (h : PlainV H v) : PlainV H' v := by
  have out : ∀ {a : Addr} {o : HO}, H a = some o → (∀ ps, o ≠ .tbl ps) → H' a = some o := fun {a o} e n => k.keep a o e fun hm => by
    obtain ⟨ps, e2, _⟩ := ht a hm
    rw [e] at e2
    exact n ps (Option.some.inj e2)
  rcases h with h | h | h | ⟨a, xs, rfl, e | e⟩
  · exact .inl h
  · exact .inr (.inl h)
  · exact .inr (.inr (.inl h))
  · exact .inr (.inr (.inr ⟨a, xs, rfl, .inl (out e fun ps q => by cases q)⟩))
  · exact .inr (.inr (.inr ⟨a, xs, rfl, .inr (out e fun ps q => by cases q)⟩))
def isWordV : V → Bool
  | .str z => isWord z
  | _ => false
def spWord (T : List Addr) : Sp := fun vs H Q _ => ∃ v : V, vs = [v] ∧ PlainV H v ∧ (∀ P ∈ T, TabG H P) ∧ ∀ H', Kp T H H' → Q (.bl (isWordV v)) H'
theorem scW : FnScope ["word"] ["word"] (defScope sIsWord) := ⟨rfl, rfl, rfl, by decide +kernel, rfl, by decide +kernel, by decide +kernel⟩
theorem inV_strs (z : Str) (l : List Str) : inV (V.str z) (l.map V.str) = l.contains z := by
  unfold inV
  induction l with
  | nil => rfl
  | cons a r ih =>
    rw [List.map_cons, List.any_cons, List.contains_cons, ih]
    congr 1
    show (a == z) = (z == a)
    exact Bool.beq_comm
section
variable {P : Program} {w : World} {K : PySem.W.Frag} {mg : Str → Option Value} {base : Heap} {f c P1 : Addr} {fd : FuncData} {T : List Addr}
theorem ok_word (F : FnP K "is_word" sIsWord f fd) (hc : fd.code = .ref c) (TB : TabB base mg c P1) (hT : P1 ∈ T) (W : TW K mg) : FnOk P w K mg base CX0 3 f fd ["word"] (spWord T) := by
  refine okC F hc scW (fun vs H Q E h => ?_) (fun A outer s H vs Q E hr h => ?_)
  · obtain ⟨v, rfl, _⟩ := h
    rfl
  · obtain ⟨v, rfl, hv, ht, k⟩ := h
    obtain ⟨lwt, lw⟩ := W.lw
    obtain ⟨ltt, lt⟩ := W.let_
    obtain ⟨ba, bg, bs⟩ := W.bar
    refine ⟨_, pss_cons (ps_if (PW.pt (pw_or (pt_not (pt_val (pe_callB call_isi (by rfl) W.isi (by decide +kernel) (pa_cons (pv 0) (pa_cons (pe_bltn (v := .ty "str") (by rfl) W.str (by decide +kernel) rfl) pa_nil)))))
        (pw_or (pt_not (pt_chain op_le op_le pe_int (pe_callB call_len_str (by rfl) W.len (by decide +kernel) (pa_cons (pv 0) pa_nil)) (pe_glob (v := .int 6) (by rfl) lw ⟨_, rfl⟩)))
        (pw_or1 (pt_cmpR op_in_seq (pv 0) (pe_glob (v := .ref ba) (by rfl) bg rfl) (by rfl))))))
        (pss_one (ps_ret pe_bl)) pss_nil)
      (pss_one (ps_ret (pe_allG (k := 1) (x := "letter") (P := P1) hr (by rfl) W.all_ TB rfl ⟨rfl, rfl, by decide +kernel, by decide +kernel, by decide +kernel, by rfl⟩ (pi_str (pv 0))
        (fun A sB H code fp pn => pg_name (i := 0) (nd1 _) rfl (Or.inl rfl))
        (fun A sB H code fp pn hr' => pe_cmpR op_in_sign (pv 0) (pe_glob (v := .str letters) (by rfl) lt ⟨_, rfl⟩) (by rfl))))), ?_⟩
    rcases hv with ⟨z, rfl, hz⟩ | hn
    · have fin : ∀ b, isWordV (V.str z) = b → Q (.bl b) H := fun b e => by
        rw [← e]
        exact k H ⟨ht, fun _ _ e _ => e⟩
      refine ⟨_, rfl, _, _, _, _, true, rfl, ClsV.ty _, TyX.base (.str z), kit_ty (by decide +kernel), true, rfl, ?_⟩
      refine iteF ?_
      refine ⟨_, rfl, z, rfl, hz, 1, _, rfl, rfl, _, rfl, ?_⟩
      by_cases h1 : (1 : Int) ≤ z.length
      · rw [decide_eq_true h1]
        refine iteT ⟨_, _, rfl, rfl, _, rfl, ?_⟩
        by_cases h6 : (z.length : Int) ≤ 6
        · rw [decide_eq_true h6]
          refine iteF ⟨_, rfl, ba, _, rfl, .inr (bs H), rfl, by decide +kernel, _, rfl, ?_⟩
          show (fun b H1 => _) (inV (V.str z) (List.map V.str barred)) H
          rw [inV_strs]
          cases hb : barred.contains z with
          | true => exact iteT (fin false (by show isWord z = false; unfold isWord; rw [hb]; simp))
          | false =>
            refine iteF ⟨_, rfl, z, rfl, ht P1 hT, fun H2 tb => ?_⟩
            have kp : Kp T H H2 := ⟨fun p hp => by
              by_cases e : p = P1
              · rw [e]; exact tb.1
              · obtain ⟨ps, h2, h3⟩ := ht p hp
                exact ⟨ps, (tb.2 p e).trans h2, h3⟩, fun b o e hb => (tb.2 b fun z => hb (by rw [z]; exact hT)).trans e⟩
            have fin2 : ∀ b, z.cps.toList.all (fun c => decide (c ∈ letters.cps.toList)) = b → Q (.bl b) H2 := fun b e => by
              have q := k H2 kp
              have e2 : isWordV (V.str z) = b := by
                show isWord z = b
                unfold isWord
                rw [hb, e, decide_eq_true (show 1 ≤ z.length by omega), decide_eq_true (show z.length ≤ 6 by omega)] <;> simp
              rw [e2] at q
              exact q
            refine ga_it (walk_str (z := z)) (fun i H' => H' = H2 ∧ (z.cps.toList.take i).all (fun c => decide (c ∈ letters.cps.toList)) = true) ⟨rfl, rfl⟩ (fun _ _ _ _ => trivial) (fun i y Ha Hb hi p yy => ?_) (fun H' p => ?_)
            · obtain ⟨rfl, p⟩ := p
              obtain ⟨rfl, cc, e, rfl⟩ := yy
              have e' : z.cps.toList[i]? = some cc := by rw [Array.getElem?_toList]; exact e
              obtain ⟨a1, a2⟩ := all_take p e'
              refine ⟨_, rfl, cc, letters, rfl, rfl, _, rfl, ?_⟩
              cases hd : decide (cc ∈ letters.cps.toList) with
              | true => exact iteT ⟨rfl, a1 hd⟩
              | false => exact iteF (fin2 false (a2 hd))
            · obtain ⟨rfl, p⟩ := p
              rw [List.take_of_length_le (by simp)] at p
              exact fin2 true p
        · rw [decide_eq_false h6]
          exact iteT (fin false (by simp [isWordV, isWord]; omega))
      · rw [decide_eq_false h1]
        refine iteF ⟨_, rfl, ?_⟩
        exact iteT (fin false (by simp [isWordV, isWord]; omega))
    · rcases hn with rfl | ⟨i, rfl⟩ | ⟨a, xs, rfl, e | e⟩
      · exact ⟨_, rfl, _, _, _, _, false, rfl, ClsV.ty _, TyX.base .non, kit_ty (by decide +kernel), false, rfl, iteT (iteT (k H ⟨ht, fun _ _ e _ => e⟩))⟩
      · exact ⟨_, rfl, _, _, _, _, false, rfl, ClsV.ty _, TyX.base (.int i), kit_ty (by decide +kernel), false, rfl, iteT (iteT (k H ⟨ht, fun _ _ e _ => e⟩))⟩
      · exact ⟨_, rfl, _, _, _, _, false, rfl, ClsV.ty _, TyX.base (.tup e), kit_ty (by decide +kernel), false, rfl, iteT (iteT (k H ⟨ht, fun _ _ e _ => e⟩))⟩
      · exact ⟨_, rfl, _, _, _, _, false, rfl, ClsV.ty _, TyX.base (.lst e), kit_ty (by decide +kernel), false, rfl, iteT (iteT (k H ⟨ht, fun _ _ e _ => e⟩))⟩
end
end Ah
end
section
set_option Elab.async false
set_option linter.all false
set_option maxRecDepth 100000
set_option maxHeartbeats 2000000
namespace Ah
open PySem PySem.Spec PyProof.Rows L2
open GxR (TabB TabG Tabbed)
open GxG
/-! ### rows -/
def formsL : List (Str × List Str) := [("is", ["name", "kind"]), ("isnt", ["name", "kind"]), ("has", ["name", "tie", "name"]), ("hasnt", ["name", "tie", "name"]), ("all", ["kind", "kind"]), ("no", ["kind", "kind"]),
  ("each", ["kind", "tie", "name"]), ("who", ["tie", "kind", "kind"]), ("turned", ["tie", "tie"]), ("on", ["tie"]), ("from", ["tie", "kind"]), ("to", ["tie", "kind"]), ("under", ["tie", "tie"])]
/-- the module's dict FORMS -/
structure TF (K : PySem.W.Frag) (w : World) (mg : Str → Option Value) (d : Addr) : Prop where
  at_ : mg "FORMS" = some (.ref d)
  kd : ∃ es n, KDict K w d es n
  val : ∀ z ps, formsL.lookup z = some ps → ∃ a, PySem.W.nsIn K d z = some (some (.ref a)) ∧ ∀ H, SqT K H a (ps.map V.str)
  out : ∀ z, formsL.lookup z = none → PySem.W.nsIn K d z = some none
def isRowL : List V → Bool
  | .str h :: rest => (match formsL.lookup h with
    | some ps => decide (rest.length = ps.length) && rest.all isWordV
    | none => false)
  | _ => false
/-- what may be looked at as a row, and the answer -/
theorem tyTup {K : PySem.W.Frag} {H : Hp} {a : Addr} {xs : List V} (h : SqT K H a xs) : TyX K H (.ref a) (.type "tuple") := by
  rcases h with (e | ⟨o, e⟩) | ⟨o, its, n, h1, h2, _⟩
  · exact .base (.tup e)
  · exact .fTuple e
  · exact .kTuple h1 h2
def RowV (K : PySem.W.Frag) (H : Hp) (v : V) (b : Bool) : Prop := (((∃ z, v = .str z) ∨ v = .non ∨ (∃ i, v = .int i) ∨ ∃ a xs, v = .ref a ∧ H a = some (.lst xs)) ∧ b = false) ∨ ∃ a xs, v = .ref a ∧ SqT K H a xs ∧ xs.length ≤ 1000 ∧ (∀ x ∈ xs, PlainV H x) ∧ b = isRowL xs
def spRow (K : PySem.W.Frag) (T : List Addr) : Sp := fun vs H Q _ => ∃ (v : V) (b : Bool), vs = [v] ∧ RowV K H v b ∧ (∀ P ∈ T, TabG H P) ∧ ∀ H', Kp T H H' → Q (.bl b) H'
theorem scR : FnScope ["row"] ["row"] (defScope sIsRow) := ⟨rfl, rfl, rfl, by decide +kernel, rfl, by decide +kernel, by decide +kernel⟩
theorem cut_tail (h : V) (rest : List V) : cutV (h :: rest) (some 1) none = rest := by
  have h1 : HT.sIx (h :: rest).length 0 (some 1) = 1 := by
    rw [show (1 : Int) = ((1 : Nat) : Int) from rfl, HT.sIx_nat, List.length_cons]
    omega
  unfold cutV
  rw [h1, HT.sIx_none]
  simp
theorem Kp.trans {T : List Addr} {H H1 H2 : Hp} (a : Kp T H H1) (b : Kp T H1 H2) : Kp T H H2 := ⟨b.tab, fun p o e n => b.keep p o (a.keep p o e n) n⟩
/-- what is no table is held -/
theorem Kp.obj {T : List Addr} {H H' : Hp} {a : Addr} {o : HO} (k : Kp T H H') (ht : ∀ P ∈ T, TabG H P) (e : H a = some o) (n : ∀ ps, o ≠ .tbl ps := by intro ps q; cases q) : H' a = some o := k.keep a o e fun hm => by
  obtain ⟨ps, e2, _⟩ := ht a hm
  rw [e] at e2
  exact n ps (Option.some.inj e2)
section
variable {P : Program} {w : World} {K : PySem.W.Frag} {mg : Str → Option Value} {base : Heap} {f c P1 fW d : Addr} {fd fdW : FuncData} {T : List Addr}
theorem ok_row (F : FnP K "is_row" sIsRow f fd) (hc : fd.code = .ref c) (TB : TabB base mg c P1) (hT : P1 ∈ T) (W : TW K mg) (D : TF K w mg d) (gW : mg "is_word" = some (.ref fW)) (FW : FnOk P w K mg base CX0 3 fW fdW ["word"] (spWord T))
    (kW : PySem.W.keepIn K (.ref fW) = true) (bW : Binds K fdW ["word"] []) : FnOk P w K mg base CX0 5 f fd ["row"] (spRow K T) := by
  refine okC F hc scR (fun vs H Q E h => ?_) (fun A outer s H vs Q E hr h => ?_)
  · obtain ⟨v, b, rfl, _⟩ := h
    rfl
  · obtain ⟨v, b, rfl, hv, ht, k⟩ := h
    obtain ⟨es, nn, kd⟩ := D.kd
    refine ⟨_, pss_cons (ps_if (PW.pt (pw_or (pt_not (pt_val (pe_callB call_isi (by rfl) W.isi (by decide +kernel) (pa_cons (pv 0) (pa_cons (pe_bltn (v := .ty "tuple") (by rfl) W.tup (by decide +kernel) rfl) pa_nil)))))
        (pw_or (pt_not (pt_truth (pv 0) (by intro _; rfl)))
        (pw_or (pt_not (pt_val (pe_callB call_isi (by rfl) W.isi (by decide +kernel) (pa_cons (pe_ix ix_tup (pv 0) pe_int (fun _ _ => rfl)) (pa_cons (pe_bltn (v := .ty "str") (by rfl) W.str (by decide +kernel) rfl) pa_nil)))))
        (pw_or1 (pt_cmpR (op_notIn_kd kd) (pe_ix ix_tup (pv 0) pe_int (fun _ _ => rfl)) (pe_glob (v := .ref d) (by rfl) D.at_ rfl) (by rfl)))))))
        (pss_one (ps_ret pe_bl)) pss_nil)
      (pss_one (ps_ret (pe_and (pe_cmpR op_eq (pe_callB call_len_seq (by rfl) W.len (by decide +kernel) (pa_cons (pv 0) pa_nil)) (pe_op op_add pe_int (pe_callB call_len_seq (by rfl) W.len (by decide +kernel) (pa_cons
          (pe_ix ix_kdict (pe_glob (v := .ref d) (by rfl) D.at_ rfl) (pe_ix ix_tup (pv 0) pe_int (fun _ _ => rfl)) (fun _ _ => rfl)) pa_nil))) (nomark _))
        (pe_one (pe_allG (k := 3) (x := "word") (P := P1) hr (by rfl) W.all_ TB rfl ⟨rfl, rfl, by decide +kernel, by decide +kernel, by decide +kernel, by rfl⟩ (pi_tup (pe_slice sl_tup (pv 0) (po_some pe_int) po_none))
          (fun A sB H code fp pn => pg_name (i := 0) (nd1 _) rfl (Or.inl rfl))
          (fun A sB H code fp pn hr' => pe_call FW hr' (by rfl) gW kW bW .nil pass0 (pa_cons (pv 0) pa_nil))))))), ?_⟩
    have kp0 : Kp T H H := ⟨ht, fun _ _ e _ => e⟩
    rcases hv with ⟨hn, rfl⟩ | ⟨a, xs, rfl, hx, hl, hp, rfl⟩
    · rcases hn with ⟨z, rfl⟩ | rfl | ⟨i, rfl⟩ | ⟨a, xs, rfl, e⟩
      · exact ⟨_, rfl, _, _, _, _, false, rfl, ClsV.ty _, TyX.base (.str z), kit_ty (by decide +kernel), false, rfl, iteT (iteT (k H kp0))⟩
      · exact ⟨_, rfl, _, _, _, _, false, rfl, ClsV.ty _, TyX.base .non, kit_ty (by decide +kernel), false, rfl, iteT (iteT (k H kp0))⟩
      · exact ⟨_, rfl, _, _, _, _, false, rfl, ClsV.ty _, TyX.base (.int i), kit_ty (by decide +kernel), false, rfl, iteT (iteT (k H kp0))⟩
      · exact ⟨_, rfl, _, _, _, _, false, rfl, ClsV.ty _, TyX.base (.lst e), kit_ty (by decide +kernel), false, rfl, iteT (iteT (k H kp0))⟩
    · have sx : SqT K H a xs := hx
      refine ⟨_, rfl, _, _, _, _, true, rfl, ClsV.ty _, tyTup hx, kit_ty (by decide +kernel), true, rfl, ?_⟩
      refine iteF ⟨_, rfl, !xs.isEmpty, .inr (.inl ⟨xs, sx, rfl⟩), ?_⟩
      cases xs with
      | nil => exact iteT (iteT (k H kp0))
      | cons h rest =>
        have ph := hp h List.mem_cons_self
        refine iteF ⟨_, rfl, a, _, 0, h, rfl, rfl, sx, at_of (j := 0) rfl rfl, ?_⟩
        rcases ph with ⟨z, rfl, hz⟩ | rfl | ⟨i, rfl⟩ | ⟨a', ys, rfl, e | e⟩
        · refine ⟨_, _, _, _, true, rfl, ClsV.ty _, TyX.base (.str z), kit_ty (by decide +kernel), true, rfl, ?_⟩
          refine iteF ⟨_, rfl, a, _, 0, .str z, rfl, rfl, sx, at_of (j := 0) rfl rfl, ?_⟩
          cases hf : formsL.lookup z with
          | none =>
            refine ⟨z, _, rfl, rfl, D.out z hf, _, rfl, ?_⟩
            refine iteT ?_
            have e : isRowL (.str z :: rest) = false := by
              show (match formsL.lookup z with
                | some ps => decide (rest.length = ps.length) && rest.all isWordV
                | none => false) = false
              rw [hf]
            have q := k H kp0
            rw [e] at q
            exact q
          | some ps =>
            obtain ⟨ap, e1, e2⟩ := D.val z ps hf
            have er : isRowL (.str z :: rest) = (decide (rest.length = ps.length) && rest.all isWordV) := by
              show (match formsL.lookup z with
                | some ps => decide (rest.length = ps.length) && rest.all isWordV
                | none => false) = _
              rw [hf]
            rw [er] at k
            refine ⟨z, _, rfl, rfl, e1, _, rfl, ?_⟩
            refine iteF ?_
            refine ⟨_, rfl, a, _, rfl, .inr sx, ?_⟩
            refine ⟨_, rfl, a, _, 0, .str z, rfl, rfl, sx, at_of (j := 0) rfl rfl, d, z, .ref ap, rfl, rfl, ⟨es, nn, _, kd.at_, kd.lit, e1, rfl⟩, ap, _, rfl, .inr (e2 H), _, _, rfl, rfl, rfl, _, rfl, ?_⟩
            have ed : decide (V.int (((V.str z :: rest).length : Nat) : Int) = V.int (1 + ((ps.map V.str).length : Int))) = decide (rest.length = ps.length) := by
              rw [List.length_cons, List.length_map]
              by_cases e : rest.length = ps.length
              · rw [decide_eq_true e, e]
                exact decide_eq_true (by congr 1; omega)
              · rw [decide_eq_false e]
                refine decide_eq_false fun q => e ?_
                have := V.int.inj q
                omega
            rw [ed]
            cases hl2 : decide (rest.length = ps.length) with
            | false =>
              refine iteF ?_
              have q := k H kp0
              rw [hl2] at q
              exact q
            | true =>
              rw [hl2, Bool.true_and] at k
              refine iteT ⟨_, rfl, 1, rfl, a, _, rfl, sx, fun q => ?_, fun p np => ⟨p, rfl, ⟨rest, .inl (.of ?_)⟩, ?_, fun H2 tb => ?_⟩⟩
              · have h1 : HT.sIx (V.str z :: rest).length 0 (some 1) = 1 := by
                  rw [show (1 : Int) = ((1 : Nat) : Int) from rfl, HT.sIx_nat, List.length_cons]
                  omega
                have h2 := q.1
                rw [h1] at h2
                cases h2
              · rw [cut_tail]; exact upd_same
              · obtain ⟨qs, h2, h3⟩ := ht P1 hT
                exact ⟨qs, by rw [upd_ne (ne_of_none h2 np)]; exact h2, h3⟩
              · rw [cut_tail] at tb
                have hpP : p ≠ P1 := fun e => by
                  obtain ⟨qs, h2, h3⟩ := ht P1 hT
                  rw [e, h2] at np
                  cases np
                have kp2 : Kp T H H2 := ⟨fun q hq => by
                  by_cases e : q = P1
                  · rw [e]; exact tb.1
                  · obtain ⟨qs, h2, h3⟩ := ht q hq
                    exact ⟨qs, by rw [tb.2 q e, upd_ne (ne_of_none h2 np)]; exact h2, h3⟩, fun b o e hb => by
                    rw [tb.2 b fun z => hb (by rw [z]; exact hT), upd_ne (ne_of_none e np)]
                    exact e⟩
                have hp2 : H2 p = some (.tup rest) := by rw [tb.2 p hpP, upd_same]
                refine ga_it (walk_tup (K := K) (a := p) (xs := rest)) (fun i H' => Kp T H2 H' ∧ (rest.take i).all isWordV = true) ⟨⟨kp2.tab, fun _ _ e _ => e⟩, rfl⟩ (fun i H' _ pv => ?_) (fun i y Ha Hb hi pv yy => ?_) (fun H' pv => ?_)
                · exact .inl (.of (pv.1.obj kp2.tab hp2))
                · obtain ⟨k1, p1⟩ := pv
                  obtain ⟨rfl, ey⟩ := yy
                  obtain ⟨a1, a2⟩ := all_take p1 ey
                  have py : PlainV Hb y := (hp y (List.mem_cons_of_mem _ (List.mem_of_getElem? ey))).kp ht (kp2.trans k1)
                  refine ⟨y, rfl, y, rfl, py, k1.tab, fun H3 k3 => ⟨_, rfl, ?_⟩⟩
                  cases hw : isWordV y with
                  | true => exact iteT ⟨k1.trans k3, a1 hw⟩
                  | false =>
                    have q := k H3 (kp2.trans (k1.trans k3))
                    rw [a2 hw] at q
                    exact iteF q
                · obtain ⟨k1, p1⟩ := pv
                  rw [List.take_of_length_le (Nat.le_refl _)] at p1
                  have q := k H' (kp2.trans k1)
                  rw [p1] at q
                  exact q
        · exact ⟨_, _, _, _, false, rfl, ClsV.ty _, TyX.base .non, kit_ty (by decide +kernel), false, rfl, iteT (iteT (k H kp0))⟩
        · exact ⟨_, _, _, _, false, rfl, ClsV.ty _, TyX.base (.int i), kit_ty (by decide +kernel), false, rfl, iteT (iteT (k H kp0))⟩
        · exact ⟨_, _, _, _, false, rfl, ClsV.ty _, TyX.base (.tup e), kit_ty (by decide +kernel), false, rfl, iteT (iteT (k H kp0))⟩
        · exact ⟨_, _, _, _, false, rfl, ClsV.ty _, TyX.base (.lst e), kit_ty (by decide +kernel), false, rfl, iteT (iteT (k H kp0))⟩
end
end Ah
end
section
set_option Elab.async false
set_option linter.all false
set_option maxRecDepth 100000
set_option maxHeartbeats 2000000
namespace Ah
open PySem PySem.Spec PyProof.Rows L2
open GxR (TabB TabG Tabbed)
open GxG EnT
/-! ### texts -/
def spCheck0 (K : PySem.W.Frag) (T : List Addr) : Sp := fun vs H Q _ => ∃ (a : Addr) (rs : List V), vs = [.ref a] ∧ H a = some (.tup rs) ∧ rs.length ≤ 24 ∧ (∀ r ∈ rs, RowV K H r true) ∧ (∀ P ∈ T, TabG H P) ∧ ∀ H', Kp T H H' → Q .non H'
theorem Kp.sqT {K : PySem.W.Frag} {T : List Addr} {H H' : Hp} {a : Addr} {xs : List V} (ht : ∀ P ∈ T, TabG H P) (k : Kp T H H') (h : SqT K H a xs) : SqT K H' a xs := by
  rcases h with (h | ⟨o, h⟩) | h
  · exact .inl (.inl (k.obj ht h))
  · exact .inl (.inr ⟨o, k.obj ht h⟩)
  · exact .inr h
theorem RowV.kp {K : PySem.W.Frag} {T : List Addr} {H H' : Hp} {v : V} {b : Bool} (ht : ∀ P ∈ T, TabG H P) (k : Kp T H H') (h : RowV K H v b) : RowV K H' v b := by
  rcases h with ⟨h, e⟩ | ⟨a, xs, e, h1, h2, h3, h4⟩
  · refine .inl ⟨?_, e⟩
    rcases h with h | h | h | ⟨a, xs, e, h⟩
    · exact .inl h
    · exact .inr (.inl h)
    · exact .inr (.inr (.inl h))
    · exact .inr (.inr (.inr ⟨a, xs, e, k.obj ht h⟩))
  · exact .inr ⟨a, xs, e, Kp.sqT ht k h1, h2, fun x hx => (h3 x hx).kp ht k, h4⟩
theorem scC : FnScope ["rows", "number", "row"] ["rows"] (defScope sCheck) := ⟨rfl, rfl, rfl, by decide +kernel, rfl, by decide +kernel, by decide +kernel⟩
theorem Kp.upd {T : List Addr} {H H1 : Hp} {p : Addr} {o : HO} (k : Kp T H H1) (n : H1 p = none) : Kp T H (upd H1 p o) := ⟨fun q hq => by
    obtain ⟨ps, e, h⟩ := k.tab q hq
    exact ⟨ps, by rw [upd_ne (ne_of_none e n)]; exact e, h⟩, fun b u e hb => by
    have q := k.keep b u e hb
    rw [upd_ne (ne_of_none q n)]
    exact q⟩
section
variable {P : Program} {w : World} {K : PySem.W.Frag} {mg : Str → Option Value} {base : Heap} {f fR : Addr} {fd fdR : FuncData} {T : List Addr}
theorem ok_check (F : FnP K "check_text" sCheck f fd) (W : TW K mg) (hm : ∃ t, mg "MOST_ROWS" = some (.int 24 t)) (gR : mg "is_row" = some (.ref fR)) (FR : FnOk P w K mg base CX0 5 fR fdR ["row"] (spRow K T))
    (kR : PySem.W.keepIn K (.ref fR) = true) (bR : Binds K fdR ["row"] []) : FnOk P w K mg base CX0 6 f fd ["rows"] (spCheck0 K T) := by
  refine F.ok scC (fun vs H Q E h => ?_) (fun cdv A outer s H vs Q E hr h => ?_)
  · obtain ⟨a, rs, rfl, _⟩ := h
    rfl
  · obtain ⟨a, rs, rfl, ha, hl, hrs, ht, k⟩ := h
    obtain ⟨mt, hm⟩ := hm
    have sa : SqT K H a rs := .inl (.of ha)
    refine ⟨_, PSs.nox (pss_cons (ps_if (pt_not (pt_val (pe_callB call_isi (by rfl) W.isi (by decide +kernel) (pa_cons (pv 0) (pa_cons (pe_bltn (v := .ty "tuple") (by rfl) W.tup (by decide +kernel) rfl) pa_nil))))) (pss_one ps_never) pss_nil)
      (pss_one (ps_for PassesOwn.never rfl (pi_enumT (by rfl) W.enu (pa_cons (pv 0) pa_nil)) (pg_tup rfl (pgs_cons (pg_name (i := 1) scC.nd rfl (.inl rfl)) (pgs_cons (pg_name (i := 2) scC.nd rfl (.inl rfl)) pgs_nil)))
        (pss_one (ps_if (PW.pt (pw_or (pt_cmpR op_eq (pv 1) (pe_glob (v := .int 24) (by rfl) hm ⟨_, rfl⟩) (nomark _)) (pw_or1 (pt_not (pt_val (pe_call FR hr (by rfl) gR kR bR .nil pass0 (pa_cons (pv 2) pa_nil))))))) (pss_one ps_never) pss_nil))))), ?_⟩
    refine ⟨_, rfl, _, _, _, _, true, rfl, ClsV.ty _, TyX.base (.tup ha), kit_ty (by decide +kernel), true, rfl, ?_⟩
    refine iteF ?_
    refine ⟨_, rfl, a, rs, rfl, sa, for_it (walk_enumT (K := K) (a := a) (xs := rs)) (fun i σ H' => (∃ v1 v2, σ = [some (.ref a), v1, v2]) ∧ Kp T H H') ⟨⟨_, _, rfl⟩, ht, fun _ _ e _ => e⟩ (fun i σ H' _ pv => .inl (.of (pv.2.obj ht ha))) ?_ ?_⟩
    · rintro i x σ Ha Hb hi ⟨⟨v1, v2, rfl⟩, kp⟩ ⟨Tp, x1, x2, rfl, nT, rfl, e1, e2⟩
      cases e1
      have kp1 : Kp T H (L2.upd Ha Tp (.tup [.int (i : Nat), x2])) := kp.upd nT
      refine ⟨Tp, _, rfl, .inl (.of upd_same), rfl, ?_⟩
      refine ⟨_, _, rfl, _, _, rfl, rfl, ?_⟩
      refine ⟨_, rfl, rfl, _, rfl, ?_⟩
      have hi24 : ¬ V.int ((i : Nat) : Int) = V.int 24 := fun e => by
        have := V.int.inj e
        omega
      rw [decide_eq_false hi24]
      refine iteF ⟨_, rfl, ?_⟩
      refine ⟨_, true, rfl, (hrs x2 (List.mem_of_getElem? e2)).kp ht kp1, kp1.tab, fun H2 k2 => ⟨_, rfl, iteF ⟨⟨_, _, rfl⟩, kp1.trans k2⟩⟩⟩
    · rintro σ H' ⟨_, kp⟩
      exact k H' kp
end
end Ah
end
section
set_option Elab.async false
set_option linter.all false
set_option maxRecDepth 100000
set_option maxHeartbeats 2000000
namespace Ah
open PySem PySem.Spec PyProof.Rows L2
/-! ### the law's draws -/
theorem scLR : FnScope ["_law_script", "_law_mixed", "_law_cell"] ["_law_script"] (defScope lRow) := ⟨rfl, rfl, rfl, by decide +kernel, rfl, by decide +kernel, by decide +kernel⟩
theorem scLT : FnScope ["_law_row_here", "_law_many", "_law_found", "_law_cell"] ["_law_row_here", "_law_many"] (defScope lTaken) := ⟨rfl, rfl, rfl, by decide +kernel, rfl, by decide +kernel, by decide +kernel⟩
def spLRow (K : PySem.W.Frag) : Sp := fun vs H Q _ => ∃ (a : Addr) (ns : List Int), vs = [.ref a] ∧ SqL K H a (ns.map V.int) ∧ ns.length ≤ 63 ∧ ∀ (p : Addr) (m : Int), H p = none → Q (.ref p) (upd H p (.lst [.ref a, .int 0, .int 0, .int m]))
/-- the draws' state: the script, the place, what is left, the mixed number -/
def StAt (K : PySem.W.Frag) (H : Hp) (p a : Addr) (ns : List Int) : Prop := ∃ i r m : Int, H p = some (.lst [.ref a, .int i, .int r, .int m]) ∧ 0 ≤ i ∧ 0 ≤ r ∧ SqL K H a (ns.map V.int)
/-- all that was held is held, but at M -/
def Kept (M : List Addr) (H H' : Hp) : Prop := ∀ b o, H b = some o → b ∉ M → H' b = some o
def spTaken (K : PySem.W.Frag) : Sp := fun vs H Q _ => ∃ (p a : Addr) (ns : List Int) (many : Int), vs = [.ref p, .int many] ∧ StAt K H p a ns ∧ 0 < many ∧ many < 1000000 ∧
  ∀ (n : Int) (H' : Hp), 0 ≤ n → n < many → StAt K H' p a ns → Kept [p] H H' → Q (.int n) H'
theorem seqL_upd {K : PySem.W.Frag} {H : Hp} {a p : Addr} {o : HO} {xs ys : List V} (hp : H p = some (.lst ys)) (h : SqL K H a xs) (n : ys ≠ xs) : SqL K (upd H p o) a xs := by
  rcases h with (h | ⟨ob, h⟩) | h
  · exact .inl (.inl (by rw [upd_ne (fun e => n (by rw [e, hp] at h; cases h; rfl))]; exact h))
  · exact .inl (.inr ⟨ob, by rw [upd_ne (fun e => by rw [e, hp] at h; cases h)]; exact h⟩)
  · exact .inr h
section
variable {P : Program} {w : World} {K : PySem.W.Frag} {mg : Str → Option Value} {base : Heap} {f : Addr} {fd : FuncData}
theorem ok_lrow (F : FnP K "_law_row" lRow f fd) : FnOk P w K mg base CX0 1 f fd ["_law_script"] (spLRow K) := by
  refine F.ok scLR (fun vs H Q E h => ?_) (fun cdv A outer s H vs Q E hr h => ?_)
  · obtain ⟨a, ns, rfl, _⟩ := h
    rfl
  · obtain ⟨a, ns, rfl, hs, hl, k⟩ := h
    refine ⟨_, PSs.nox (pss_cons (ps_set (i := 1) scLR.nd rfl (.inl rfl) pe_int) (pss_cons (ps_for PassesOwn.never rfl (pi_list (pv 0)) (pg_name (i := 2) scLR.nd rfl (.inl rfl))
        (pss_one (ps_set (i := 1) scLR.nd rfl (.inl rfl) (pe_op op_mod (pe_op op_add (pe_op op_add (pe_op op_mul (pv 1) pe_int) (pv 2)) pe_int) pe_int))))
      (pss_one (ps_ret (pe_lst (pa_cons (pv 0) (pa_cons pe_int (pa_cons pe_int (pa_cons (pv 1) pa_nil))))))))), ?_⟩
    refine ⟨_, rfl, a, rfl, ⟨_, hs⟩, for_list (K := K) (a := a) (xs := ns.map V.int) (fun i σ H' => (∃ (m : Int) (v : Option V), σ = [some (.ref a), some (.int m), v]) ∧ H' = H) ⟨⟨7, none, rfl⟩, rfl⟩ (fun i σ H' _ pv => by rw [pv.2]; exact hs) ?_ ?_⟩
    · rintro i x σ Ha hi ⟨⟨m, v, rfl⟩, rfl⟩
      obtain ⟨c, rfl⟩ : ∃ c, x = V.int c := by
        obtain ⟨c, _, e⟩ := List.mem_map.mp (List.mem_of_getElem? hi)
        exact ⟨c, e.symm⟩
      exact ⟨_, rfl, _, _, rfl, rfl, .inr ⟨by decide, by decide⟩, _, rfl, _, _, rfl, rfl, _, _, rfl, rfl, _, _, rfl, rfl, (by decide : (0 : Int) < 2147483647), ⟨_, _, rfl⟩, rfl⟩
    · rintro σ Ha ⟨⟨m, v, rfl⟩, rfl⟩
      exact ⟨_, rfl, _, rfl, (by show 4 ≤ sizeLine; decide), fun p np => k p m np⟩
theorem ok_ltaken (F : FnP K "_law_taken" lTaken f fd) (hlen : mg "len" = none) : FnOk P w K mg base CX0 1 f fd ["_law_row_here", "_law_many"] (spTaken K) := by
  refine F.ok scLT (fun vs H Q E h => ?_) (fun cdv A outer s H vs Q E hr h => ?_)
  · obtain ⟨p, a, ns, many, rfl, _⟩ := h
    rfl
  · obtain ⟨p, a, ns, many, rfl, ⟨i, r, m, hp, hi, hr0, hs⟩, hm, hm2, k⟩ := h
    have ne : ∀ z1 z2 z3 : Int, ([.ref a, .int z1, .int z2, .int z3] : List V) ≠ ns.map V.int := fun z1 z2 z3 e => by
      cases ns with
      | nil => cases e
      | cons q qs => cases e
    have k : ∀ (n i r m : Int), 0 ≤ n → n < many → 0 ≤ i → 0 ≤ r → Q (.int n) (upd H p (.lst [.ref a, .int i, .int r, .int m])) := fun n i' r' m' h1 h2 h3 h4 =>
      k n _ h1 h2 ⟨i', r', m', upd_same, h3, h4, seqL_upd hp hs (ne _ _ _)⟩ fun b o e hb => by rw [upd_ne (fun z => hb (by simp [z]))]; exact e
    have sp : SqL K H p [.ref a, .int i, .int r, .int m] := .inl (.of hp)
    have cd : CDiv 5 many := ⟨hm, by omega⟩
    have a0 : ∀ {xs : List V} {j : Nat} {v : V} {z : Int}, z = (j : Int) → xs[j]? = some v → atI xs z = some v := fun h1 h2 => at_of h1 h2
    refine ⟨_, PSs.nox (pss_cons (ps_if (pt_cmpR op_gt (pe_ix ix_list (pv 0) pe_int (fun _ _ => rfl)) pe_int (nomark _))
        (pss_cons (ps_set (i := 2) scLT.nd rfl (.inl rfl) (pe_op op_mod (pe_ix ix_list (pv 0) pe_int (fun _ _ => rfl)) (pv 1)))
        (pss_cons (ps_asg (pe_op op_fdiv (pe_ix ix_list (pv 0) pe_int (fun _ _ => rfl)) (pv 1)) (pg_sub (pv 0) pe_int set_list))
        (pss_one (ps_ret (pv 2))))) pss_nil)
      (pss_cons (ps_if (pt_cmpR op_lt (pe_ix ix_list (pv 0) pe_int (fun _ _ => rfl)) (pe_callB call_len_seq (by rfl) hlen PySem.boot_len (pa_cons (pe_ix ix_list (pv 0) pe_int (fun _ _ => rfl)) pa_nil)) (nomark _))
        (pss_cons (ps_set (i := 3) scLT.nd rfl (.inl rfl) (pe_ix ix_list (pe_ix ix_list (pv 0) pe_int (fun _ _ => rfl)) (pe_ix ix_list (pv 0) pe_int (fun _ _ => rfl)) (fun _ _ => rfl)))
        (pss_cons (ps_asg (pe_op op_add (pe_ix ix_list (pv 0) pe_int (fun _ _ => rfl)) pe_int) (pg_sub (pv 0) pe_int set_list))
        (pss_cons (ps_if (pt_cmpR op_ge (pv 3) (pe_op op_pow pe_int pe_int) (nomark _)) (pss_one (ps_asg (pe_op op_fdiv (pv 3) (pv 1)) (pg_sub (pv 0) pe_int set_list))) pss_nil)
        (pss_one (ps_ret (pe_op op_mod (pv 3) (pv 1))))))) pss_nil)
      (pss_cons (ps_asg (pe_op op_mod (pe_op op_add (pe_op op_mul (pe_ix ix_list (pv 0) pe_int (fun _ _ => rfl)) pe_int) pe_int) pe_int) (pg_sub (pv 0) pe_int set_list))
      (pss_one (ps_ret (pe_op op_mod (pe_op op_fdiv (pe_ix ix_list (pv 0) pe_int (fun _ _ => rfl)) pe_int) (pv 1))))))), ?_⟩
    refine ⟨_, rfl, p, _, 2, _, rfl, rfl, sp, a0 (j := 2) rfl rfl, _, _, rfl, rfl, _, rfl, ?_⟩
    by_cases h2 : 0 < r
    · rw [decide_eq_true h2]
      refine iteT ⟨_, rfl, p, _, 2, _, rfl, rfl, sp, a0 (j := 2) rfl rfl, _, rfl, _, _, rfl, rfl, hm, ?_⟩
      refine ⟨_, rfl, p, _, 2, _, rfl, rfl, sp, a0 (j := 2) rfl rfl, _, rfl, _, _, rfl, rfl, ⟨hm, by omega⟩, ?_⟩
      refine ⟨_, rfl, p, _, 2, 2, rfl, rfl, hp, rfl, ?_⟩
      refine ⟨_, rfl, ?_⟩
      exact k (r % many) i (r / many) m (Int.emod_nonneg _ (by omega)) (Int.emod_lt_of_pos _ hm) hi (Int.ediv_nonneg hr0 (by omega))
    · rw [decide_eq_false h2]
      refine iteF ?_
      refine ⟨_, rfl, p, _, 1, _, rfl, rfl, sp, a0 (j := 1) rfl rfl, _, rfl, p, _, 0, _, rfl, rfl, sp, a0 (j := 0) rfl rfl, a, _, rfl, .inl hs, _, _, rfl, rfl, _, rfl, ?_⟩
      rw [List.length_map]
      by_cases h3 : i < (ns.length : Int)
      · rw [decide_eq_true h3]
        obtain ⟨j, rfl⟩ : ∃ j : Nat, i = (j : Int) := ⟨i.toNat, by omega⟩
        have hj : j < ns.length := by omega
        have ej : (ns.map V.int)[j]? = some (.int ns[j]) := by rw [List.getElem?_map, List.getElem?_eq_getElem hj]; rfl
        have up1 : upd H p (.lst [.ref a, .int ((j : Int) + 1), .int r, .int m]) p = some (.lst [.ref a, .int ((j : Int) + 1), .int r, .int m]) := upd_same
        refine iteT ⟨_, rfl, p, _, 0, _, rfl, rfl, sp, a0 (j := 0) rfl rfl, _, rfl, p, _, 1, _, rfl, rfl, sp, a0 (j := 1) rfl rfl, a, _, _, _, rfl, rfl, hs, a0 rfl ej, ?_⟩
        refine ⟨_, rfl, p, _, 1, _, rfl, rfl, sp, a0 (j := 1) rfl rfl, _, _, rfl, rfl, ?_⟩
        refine ⟨_, rfl, p, _, 1, 1, rfl, rfl, hp, rfl, ?_⟩
        refine ⟨_, rfl, _, _, rfl, rfl, ⟨by decide, by decide, by decide⟩, _, _, rfl, rfl, _, rfl, ?_⟩
        have md : 0 ≤ ns[j] % many ∧ ns[j] % many < many := ⟨Int.emod_nonneg _ (by omega), Int.emod_lt_of_pos _ hm⟩
        refine ite2 (fun hb => ?_) (fun _ => ?_)
        · refine ⟨_, rfl, _, rfl, _, _, rfl, rfl, ⟨hm, by omega⟩, ?_⟩
          refine ⟨_, rfl, p, _, 2, 2, rfl, rfl, up1, rfl, ?_⟩
          refine ⟨_, rfl, _, rfl, _, _, rfl, rfl, hm, ?_⟩
          have q := k (ns[j] % many) ((j : Int) + 1) (ns[j] / many) m md.1 md.2 (by omega) (Int.ediv_nonneg (by
            have hb' := of_decide_eq_true hb
            have : (0 : Int) ≤ 10 ^ (18 : Int).toNat := by decide
            omega) (by omega))
          rw [upd_upd]
          exact q
        · refine ⟨_, rfl, _, rfl, _, _, rfl, rfl, hm, ?_⟩
          exact k _ ((j : Int) + 1) r m md.1 md.2 (by omega) hr0
      · rw [decide_eq_false h3]
        refine iteF ?_
        refine ⟨_, rfl, p, _, 3, _, rfl, rfl, sp, a0 (j := 3) rfl rfl, _, _, rfl, rfl, .inr ⟨by decide, by decide⟩, _, _, rfl, rfl, _, _, rfl, rfl, (by decide : (0 : Int) < 2147483647), ?_⟩
        refine ⟨_, rfl, p, _, 3, 3, rfl, rfl, hp, rfl, ?_⟩
        refine ⟨_, rfl, p, _, 3, _, rfl, rfl, .inl (.of upd_same), a0 (j := 3) rfl rfl, _, _, rfl, rfl, ⟨by decide, by decide⟩, _, rfl, _, _, rfl, rfl, hm, ?_⟩
        exact k _ i r _ (Int.emod_nonneg _ (by omega)) (Int.emod_lt_of_pos _ hm) hi hr0
end
end Ah
end
section
set_option Elab.async false
set_option linter.all false
set_option maxRecDepth 100000
set_option maxHeartbeats 2000000
namespace Ah
open PySem PySem.Spec PyProof.Rows L2
/-! ### rows and sayings as data -/
inductive Rw where
  | is (n k : Str) | isnt (n k : Str) | has (n t m : Str) | hasnt (n t m : Str) | all (k l : Str) | no (k l : Str) | each (k t m : Str) | who (t k l : Str) | turned (t s : Str) | on (t : Str) | fr (t k : Str) | to (t k : Str) | under (t s : Str)
  deriving DecidableEq
def Rw.ws : Rw → List Str
  | .is n k => ["is", n, k] | .isnt n k => ["isnt", n, k] | .has n t m => ["has", n, t, m] | .hasnt n t m => ["hasnt", n, t, m] | .all k l => ["all", k, l] | .no k l => ["no", k, l]
  | .each k t m => ["each", k, t, m] | .who t k l => ["who", t, k, l] | .turned t s => ["turned", t, s] | .on t => ["on", t] | .fr t k => ["from", t, k] | .to t k => ["to", t, k] | .under t s => ["under", t, s]
def namesL : List Str := ["ann", "ben", "cy"]
def kindsL : List Str := ["cat", "dog", "owl"]
def tiesL : List Str := ["likes", "owns"]
/-- a row of the law's few words -/
def Rw.few : Rw → Prop
  | .is n k => n ∈ namesL ∧ k ∈ kindsL | .isnt n k => n ∈ namesL ∧ k ∈ kindsL | .has n t m => n ∈ namesL ∧ t ∈ tiesL ∧ m ∈ namesL | .hasnt n t m => n ∈ namesL ∧ t ∈ tiesL ∧ m ∈ namesL
  | .all k l => k ∈ kindsL ∧ l ∈ kindsL | .no k l => k ∈ kindsL ∧ l ∈ kindsL | .each k t m => k ∈ kindsL ∧ t ∈ tiesL ∧ m ∈ namesL | .who t k l => t ∈ tiesL ∧ k ∈ kindsL ∧ l ∈ kindsL
  | .turned t s => t ∈ tiesL ∧ s ∈ tiesL | .on t => t ∈ tiesL | .fr t k => t ∈ tiesL ∧ k ∈ kindsL | .to t k => t ∈ tiesL ∧ k ∈ kindsL | .under t s => t ∈ tiesL ∧ s ∈ tiesL
theorem Kept.refl {M : List Addr} (H : Hp) : Kept M H H := fun _ _ e _ => e
theorem Kept.trans {M : List Addr} {H H1 H2 : Hp} (a : Kept M H H1) (b : Kept M H1 H2) : Kept M H H2 := fun p o e n => b p o (a p o e n) n
theorem Kept.mono {M M' : List Addr} {H H1 : Hp} (a : Kept M H H1) (h : ∀ b ∈ M, b ∈ M') : Kept M' H H1 := fun p o e n => a p o e fun z => n (h p z)
theorem Kept.upd {M : List Addr} {H H1 : Hp} {p : Addr} {o : HO} (a : Kept M H H1) (n : H1 p = none) : Kept M H (upd H1 p o) := fun b u e hb => by
  have q := a b u e hb
  rw [upd_ne (ne_of_none q n)]
  exact q
/-- what stands at an address not in M: it is another than M's -/
theorem notin1 {H : Hp} {a p : Addr} {o u : HO} (h : H a = some o) (hp : H p = some u) (d : o ≠ u) : a ∉ [p] := fun z => by
  rw [List.mem_singleton.mp z, hp] at h
  exact d (Option.some.inj h).symm
theorem StAt.ob {K : PySem.W.Frag} {H : Hp} {p a : Addr} {ns : List Int} (S : StAt K H p a ns) : ∃ xs, H p = some (.lst xs) := let ⟨_, _, _, h, _⟩ := S; ⟨_, h⟩
theorem StAt.upd {K : PySem.W.Frag} {H : Hp} {p a q : Addr} {ns : List Int} {o : HO} (S : StAt K H p a ns) (n : H q = none) : StAt K (upd H q o) p a ns := by
  obtain ⟨i, r, m, h, h1, h2, h3⟩ := S
  refine ⟨i, r, m, by rw [upd_ne (ne_of_none h n)]; exact h, h1, h2, ?_⟩
  rcases h3 with (h3 | ⟨ob, h3⟩) | h3
  · exact .inl (.inl (by rw [upd_ne (ne_of_none h3 n)]; exact h3))
  · exact .inl (.inr ⟨ob, by rw [upd_ne (ne_of_none h3 n)]; exact h3⟩)
  · exact .inr h3
/-! ### displays -/
/-- arguments that are evaluated without a change: their values -/
def ValA (t : TA) (σ : L2.St) (vs : List V) : Prop := ∀ H (Q : List V → Hp → Prop), Q vs H → t σ H Q
theorem valA_nil {σ : L2.St} : ValA tNil σ [] := fun _ _ h => h
theorem valA_str {σ : L2.St} {t : TA} {z : Str} {vs : List V} (h : ValA t σ vs) : ValA (tCons (tC (.str z)) t) σ (.str z :: vs) := fun H Q q => h H _ q
theorem valA_var {σ : L2.St} {t : TA} {i : Nat} {v : V} {vs : List V} (e : σ[i]? = some (some v)) (h : ValA t σ vs) : ValA (tCons (tVar i) t) σ (v :: vs) := fun H Q q => ⟨v, e, h H _ q⟩
/-- arguments that are new tuples -/
def MkA (t : TA) (σ : L2.St) (xss : List (List V)) : Prop := ∀ H (Q : List V → Hp → Prop), (∀ (ps : List Addr) H', Kept [] H H' → Paired (fun p xs => H' p = some (.tup xs)) ps xss → Q (ps.map V.ref) H') → t σ H Q
theorem mkA_nil {σ : L2.St} : MkA tNil σ [] := fun H Q h => h [] H (Kept.refl H) .nil
theorem mkA_cons {σ : L2.St} {s t : TA} {xs : List V} {xss : List (List V)} (hs : ValA s σ xs) (h : MkA t σ xss) (hl : xs.length ≤ 100 := by exact Nat.le_of_ble_eq_true rfl) : MkA (tCons (tTup s) t) σ (xs :: xss) := fun H Q q =>
  hs H _ ⟨Nat.le_trans hl (by decide), fun p np => h _ _ fun ps H' k r => q (p :: ps) H' (fun b o e hb => k b o (by rw [upd_ne (ne_of_none e np)]; exact e) hb) (.cons (k p _ upd_same (by simp)) r)⟩
/-- [..][_law_taken(row, m)]: one of them -/
theorem rd_pick {K : PySem.W.Frag} {σ : L2.St} {H : Hp} {Q : VK} {tl : TA} {l : List Str} {m : Int} {p a : Addr} {ns : List Int} {E : XK} (hl : ValA tl σ (l.map V.str)) (hm : m = (l.length : Int)) (h0 : 0 < l.length) (h1 : l.length ≤ 100)
    (hσ : σ[0]? = some (some (.ref p))) (S : StAt K H p a ns) (h : ∀ z ∈ l, ∀ H', StAt K H' p a ns → Kept [p] H H' → Q (.str z) H') :
    tOp (rIxL K) (tLst tl) (tCall (spTaken K) [] E (tCons (tVar 0) (tCons (tC (.int m)) tNil))) σ H Q := by
  refine hl H _ ⟨by rw [List.length_map]; exact Nat.le_trans h1 (by decide), fun q nq => ?_⟩
  refine ⟨_, hσ, p, a, ns, m, rfl, S.upd nq, by omega, by omega, fun n H' hn0 hn1 S' k => ?_⟩
  obtain ⟨j, rfl⟩ : ∃ j : Nat, n = (j : Int) := ⟨n.toNat, by omega⟩
  have hj : j < l.length := by omega
  obtain ⟨xs, hp⟩ := S.ob
  have hq : q ∉ [p] := fun z => by
    rw [List.mem_singleton.mp z, hp] at nq
    cases nq
  refine ⟨q, l.map V.str, (j : Int), .str l[j], rfl, rfl, .inl (.of (k q _ upd_same hq)), at_of (j := j) rfl (by rw [List.getElem?_map, List.getElem?_eq_getElem hj]; rfl), ?_⟩
  exact h _ (List.getElem_mem hj) H' S' fun b o e hb => k b o (by rw [upd_ne (ne_of_none e nq)]; exact e) hb
theorem mkL {t : TA} {σ : L2.St} {xss : List (List V)} {H : Hp} {Q : VK} (h : MkA t σ xss) (hl : xss.length ≤ 100) (k : ∀ (ps : List Addr) (l : Addr) H', Kept [] H H' → Paired (fun p xs => H' p = some (.tup xs)) ps xss → H' l = some (.lst (ps.map V.ref)) → Q (.ref l) H') : tLst t σ H Q :=
  h H _ fun ps H' k1 r => ⟨by rw [List.length_map, r.length]; exact Nat.le_trans hl (by decide), fun l nl => k ps l _ (k1.upd nl) (Paired.mapP r fun p xs e => by rw [upd_ne (ne_of_none e nl)]; exact e) upd_same⟩
/-- statement by statement -/
theorem seq_set {te : TE} {i : Nat} {rest : TS} {D : Ends} {σ : L2.St} {H : Hp} (h : te σ H fun x H1 => rest D (σ.set i (some x)) H1) : tSeq (tAsg te (gName i)) rest D σ H := h
theorem ret_of {te : TE} {D : Ends} {σ : L2.St} {H : Hp} (h : te σ H D.rt) : tRet te D σ H := h
theorem op_of {r : R2} {ta tb : TE} {σ : L2.St} {H : Hp} {Q : VK} (h : ta σ H fun x H1 => tb σ H1 fun y H2 => r x y H2 Q) : tOp r ta tb σ H Q := h
theorem paired_app {α β : Type} {F : α → β → Prop} : ∀ {l₁ m₁ : List α} {l₂ m₂ : List β}, Paired F l₁ l₂ → Paired F m₁ m₂ → Paired F (l₁ ++ m₁) (l₂ ++ m₂)
  | _, _, _, _, .nil, h => h
  | _, _, _, _, .cons r t, h => .cons r (paired_app t h)
theorem paired_at {α β : Type} {F : α → β → Prop} : ∀ {l₁ : List α} {l₂ : List β} {i : Nat} {a : α}, Paired F l₁ l₂ → l₁[i]? = some a → ∃ b, l₂[i]? = some b ∧ F a b
  | _, _, _, _, .nil, h => by simp at h
  | _, _, 0, _, .cons r t, h => by
    simp at h
    subst h
    exact ⟨_, rfl, r⟩
  | _, _, i + 1, _, .cons r t, h => by
    obtain ⟨b, e, f⟩ := paired_at (i := i) t (by simpa using h)
    exact ⟨b, by simpa using e, f⟩
theorem StAt.kept {K : PySem.W.Frag} {H H' : Hp} {p a : Addr} {ns : List Int} (S : StAt K H p a ns) (k : Kept [] H H') : StAt K H' p a ns := by
  obtain ⟨i, r, m, h, h1, h2, h3⟩ := S
  refine ⟨i, r, m, k _ _ h (by simp), h1, h2, ?_⟩
  rcases h3 with (h3 | ⟨ob, h3⟩) | h3
  · exact .inl (.inl (k _ _ h3 (by simp)))
  · exact .inl (.inr ⟨ob, k _ _ h3 (by simp)⟩)
  · exact .inr h3
theorem few16 {n m c d t u : Str} (hn : n ∈ namesL) (hm : m ∈ namesL) (hc : c ∈ kindsL) (hd : d ∈ kindsL) (ht : t ∈ tiesL) (hu : u ∈ tiesL) :
    ∀ xs ∈ ([[.str "is", .str n, .str c], [.str "is", .str n, .str c], [.str "has", .str n, .str t, .str m], [.str "has", .str n, .str t, .str m], [.str "has", .str n, .str t, .str m], [.str "all", .str c, .str d]] ++
      [[.str "isnt", .str n, .str c], [.str "hasnt", .str n, .str t, .str m], [.str "no", .str c, .str d], [.str "each", .str c, .str t, .str m], [.str "who", .str t, .str c, .str d]] ++
      [[.str "turned", .str t, .str u], [.str "on", .str t], [.str "from", .str t, .str c], [.str "to", .str t, .str c], [.str "under", .str t, .str u]] : List (List V)), ∃ r : Rw, r.few ∧ xs = r.ws.map V.str := by
  intro xs hx
  simp only [List.mem_append, List.mem_cons, List.not_mem_nil, or_false] at hx
  rcases hx with ((e | e | e | e | e | e) | (e | e | e | e | e)) | (e | e | e | e | e)
  · exact ⟨.is n c, ⟨hn, hc⟩, e⟩
  · exact ⟨.is n c, ⟨hn, hc⟩, e⟩
  · exact ⟨.has n t m, ⟨hn, ht, hm⟩, e⟩
  · exact ⟨.has n t m, ⟨hn, ht, hm⟩, e⟩
  · exact ⟨.has n t m, ⟨hn, ht, hm⟩, e⟩
  · exact ⟨.all c d, ⟨hc, hd⟩, e⟩
  · exact ⟨.isnt n c, ⟨hn, hc⟩, e⟩
  · exact ⟨.hasnt n t m, ⟨hn, ht, hm⟩, e⟩
  · exact ⟨.no c d, ⟨hc, hd⟩, e⟩
  · exact ⟨.each c t m, ⟨hc, ht, hm⟩, e⟩
  · exact ⟨.who t c d, ⟨ht, hc, hd⟩, e⟩
  · exact ⟨.turned t u, ⟨ht, hu⟩, e⟩
  · exact ⟨.on t, ht, e⟩
  · exact ⟨.fr t c, ⟨ht, hc⟩, e⟩
  · exact ⟨.to t c, ⟨ht, hc⟩, e⟩
  · exact ⟨.under t u, ⟨ht, hu⟩, e⟩
/-- the slots -/
def sg (p : Addr) (n m c d t u : Str) (v : Option V) : L2.St := [some (.ref p), some (.str n), some (.str m), some (.str c), some (.str d), some (.str t), some (.str u), v]
theorem scLOne : FnScope ["_law_row_here", "_law_n", "_law_m", "_law_k", "_law_l", "_law_t", "_law_s", "_law_some"] ["_law_row_here"] (defScope lOne) := ⟨rfl, rfl, rfl, by decide +kernel, rfl, by decide +kernel, by decide +kernel⟩
def spOne (K : PySem.W.Frag) : Sp := fun vs H Q _ => ∃ (p a : Addr) (ns : List Int), vs = [.ref p] ∧ StAt K H p a ns ∧
  ∀ (q : Addr) (r : Rw) (H' : Hp), r.few → StAt K H' p a ns → Kept [p] H H' → H' q = some (.tup (r.ws.map V.str)) → Q (.ref q) H'
section
variable {P : Program} {w : World} {K : PySem.W.Frag} {mg : Str → Option Value} {base : Heap} {f fT : Addr} {fd fdT : FuncData}
theorem ok_lone (F : FnP K "_law_one" lOne f fd) (gT : mg "_law_taken" = some (.ref fT)) (FT : FnOk P w K mg base CX0 1 fT fdT ["_law_row_here", "_law_many"] (spTaken K)) (kT : PySem.W.keepIn K (.ref fT) = true) (bT : Binds K fdT ["_law_row_here", "_law_many"] []) :
    FnOk P w K mg base CX0 2 f fd ["_law_row_here"] (spOne K) := by
  refine F.ok scLOne (fun vs H Q E h => ?_) (fun cdv A outer s H vs Q E hr h => ?_)
  · obtain ⟨p, a, ns, rfl, _⟩ := h
    rfl
  · obtain ⟨p, a, ns, rfl, S, k⟩ := h
    refine ⟨_, PSs.nox (pss_cons (ps_par (by rfl) scLOne.nd (i := 1) (j := 2) rfl rfl (by decide) rfl rfl (pa_cons (pe_ix ix_list (pe_lst (pa_cons pe_str (pa_cons pe_str (pa_cons pe_str pa_nil)))) (pe_call FT hr (by rfl) gT kT bT .nil pass0 (pa_cons (pv 0) (pa_cons pe_int pa_nil))) (fun _ _ => rfl)) (pa_cons (pe_ix ix_list (pe_lst (pa_cons pe_str (pa_cons pe_str (pa_cons pe_str pa_nil)))) (pe_call FT hr (by rfl) gT kT bT .nil pass0 (pa_cons (pv 0) (pa_cons pe_int pa_nil))) (fun _ _ => rfl)) pa_nil)) (by rfl))
      (pss_cons (ps_par (by rfl) scLOne.nd (i := 3) (j := 4) rfl rfl (by decide) rfl rfl (pa_cons (pe_ix ix_list (pe_lst (pa_cons pe_str (pa_cons pe_str (pa_cons pe_str pa_nil)))) (pe_call FT hr (by rfl) gT kT bT .nil pass0 (pa_cons (pv 0) (pa_cons pe_int pa_nil))) (fun _ _ => rfl)) (pa_cons (pe_ix ix_list (pe_lst (pa_cons pe_str (pa_cons pe_str (pa_cons pe_str pa_nil)))) (pe_call FT hr (by rfl) gT kT bT .nil pass0 (pa_cons (pv 0) (pa_cons pe_int pa_nil))) (fun _ _ => rfl)) pa_nil)) (by rfl))
      (pss_cons (ps_par (by rfl) scLOne.nd (i := 5) (j := 6) rfl rfl (by decide) rfl rfl (pa_cons (pe_ix ix_list (pe_lst (pa_cons pe_str (pa_cons pe_str pa_nil))) (pe_call FT hr (by rfl) gT kT bT .nil pass0 (pa_cons (pv 0) (pa_cons pe_int pa_nil))) (fun _ _ => rfl)) (pa_cons (pe_ix ix_list (pe_lst (pa_cons pe_str (pa_cons pe_str pa_nil))) (pe_call FT hr (by rfl) gT kT bT .nil pass0 (pa_cons (pv 0) (pa_cons pe_int pa_nil))) (fun _ _ => rfl)) pa_nil)) (by rfl))
      (pss_cons (ps_set (i := 7) scLOne.nd rfl (.inl rfl) (pe_lst (pa_cons (pe_tup (pa_cons pe_str (pa_cons (pv 1) (pa_cons (pv 3) pa_nil)))) (pa_cons (pe_tup (pa_cons pe_str (pa_cons (pv 1) (pa_cons (pv 3) pa_nil)))) (pa_cons (pe_tup (pa_cons pe_str (pa_cons (pv 1) (pa_cons (pv 5) (pa_cons (pv 2) pa_nil))))) (pa_cons (pe_tup (pa_cons pe_str (pa_cons (pv 1) (pa_cons (pv 5) (pa_cons (pv 2) pa_nil))))) (pa_cons (pe_tup (pa_cons pe_str (pa_cons (pv 1) (pa_cons (pv 5) (pa_cons (pv 2) pa_nil))))) (pa_cons (pe_tup (pa_cons pe_str (pa_cons (pv 3) (pa_cons (pv 4) pa_nil)))) pa_nil))))))))
      (pss_cons (ps_set (i := 7) scLOne.nd rfl (.inl rfl) (pe_op op_cat (pv 7) (pe_lst (pa_cons (pe_tup (pa_cons pe_str (pa_cons (pv 1) (pa_cons (pv 3) pa_nil)))) (pa_cons (pe_tup (pa_cons pe_str (pa_cons (pv 1) (pa_cons (pv 5) (pa_cons (pv 2) pa_nil))))) (pa_cons (pe_tup (pa_cons pe_str (pa_cons (pv 3) (pa_cons (pv 4) pa_nil)))) (pa_cons (pe_tup (pa_cons pe_str (pa_cons (pv 3) (pa_cons (pv 5) (pa_cons (pv 2) pa_nil))))) (pa_cons (pe_tup (pa_cons pe_str (pa_cons (pv 5) (pa_cons (pv 3) (pa_cons (pv 4) pa_nil))))) pa_nil))))))))
      (pss_cons (ps_set (i := 7) scLOne.nd rfl (.inl rfl) (pe_op op_cat (pv 7) (pe_lst (pa_cons (pe_tup (pa_cons pe_str (pa_cons (pv 5) (pa_cons (pv 6) pa_nil)))) (pa_cons (pe_tup (pa_cons pe_str (pa_cons (pv 5) pa_nil))) (pa_cons (pe_tup (pa_cons pe_str (pa_cons (pv 5) (pa_cons (pv 3) pa_nil)))) (pa_cons (pe_tup (pa_cons pe_str (pa_cons (pv 5) (pa_cons (pv 3) pa_nil)))) (pa_cons (pe_tup (pa_cons pe_str (pa_cons (pv 5) (pa_cons (pv 6) pa_nil)))) pa_nil))))))))
      (pss_one (ps_ret (pe_ix ix_list (pv 7) (pe_call FT hr (by rfl) gT kT bT .nil pass0 (pa_cons (pv 0) (pa_cons pe_int pa_nil))) (fun _ _ => rfl)))))))))), ?_⟩
    refine rd_pick (l := namesL) (valA_str (valA_str (valA_str valA_nil))) rfl (by decide) (by decide) rfl S fun n hn H1 S1 k1 => ?_
    refine rd_pick (l := namesL) (valA_str (valA_str (valA_str valA_nil))) rfl (by decide) (by decide) rfl S1 fun m hm H2 S2 k2 => ⟨_, _, rfl, ?_⟩
    refine rd_pick (l := kindsL) (valA_str (valA_str (valA_str valA_nil))) rfl (by decide) (by decide) rfl S2 fun c hc H3 S3 k3 => ?_
    refine rd_pick (l := kindsL) (valA_str (valA_str (valA_str valA_nil))) rfl (by decide) (by decide) rfl S3 fun d hd H4 S4 k4 => ⟨_, _, rfl, ?_⟩
    refine rd_pick (l := tiesL) (valA_str (valA_str valA_nil)) rfl (by decide) (by decide) rfl S4 fun t ht H5 S5 k5 => ?_
    refine rd_pick (l := tiesL) (valA_str (valA_str valA_nil)) rfl (by decide) (by decide) rfl S5 fun u hu H6 S6 k6 => ⟨_, _, rfl, ?_⟩
    have A1 : MkA _ (sg p n m c d t u none) [[.str "is", .str n, .str c], [.str "is", .str n, .str c], [.str "has", .str n, .str t, .str m], [.str "has", .str n, .str t, .str m], [.str "has", .str n, .str t, .str m], [.str "all", .str c, .str d]] :=
      mkA_cons (valA_str (valA_var (i := 1) rfl (valA_var (i := 3) rfl valA_nil))) (mkA_cons (valA_str (valA_var (i := 1) rfl (valA_var (i := 3) rfl valA_nil))) (mkA_cons (valA_str (valA_var (i := 1) rfl (valA_var (i := 5) rfl (valA_var (i := 2) rfl valA_nil)))) (mkA_cons (valA_str (valA_var (i := 1) rfl (valA_var (i := 5) rfl (valA_var (i := 2) rfl valA_nil)))) (mkA_cons (valA_str (valA_var (i := 1) rfl (valA_var (i := 5) rfl (valA_var (i := 2) rfl valA_nil)))) (mkA_cons (valA_str (valA_var (i := 3) rfl (valA_var (i := 4) rfl valA_nil))) mkA_nil)))))
    dsimp only
    refine seq_set ?_
    change tLst _ (sg p n m c d t u none) H6 _
    refine mkL A1 (by exact Nat.le_of_ble_eq_true rfl) fun ps1 l1 H7 k7 r7 e7 => ?_
    change tSeq (tAsg _ (gName 7)) _ _ (sg p n m c d t u (some (.ref l1))) H7
    refine seq_set (op_of ⟨_, rfl, ?_⟩)
    change tLst _ (sg p n m c d t u (some (.ref l1))) H7 _
    have A2 : MkA _ (sg p n m c d t u (some (.ref l1))) [[.str "isnt", .str n, .str c], [.str "hasnt", .str n, .str t, .str m], [.str "no", .str c, .str d], [.str "each", .str c, .str t, .str m], [.str "who", .str t, .str c, .str d]] :=
      mkA_cons (valA_str (valA_var (i := 1) rfl (valA_var (i := 3) rfl valA_nil))) (mkA_cons (valA_str (valA_var (i := 1) rfl (valA_var (i := 5) rfl (valA_var (i := 2) rfl valA_nil)))) (mkA_cons (valA_str (valA_var (i := 3) rfl (valA_var (i := 4) rfl valA_nil))) (mkA_cons (valA_str (valA_var (i := 3) rfl (valA_var (i := 5) rfl (valA_var (i := 2) rfl valA_nil)))) (mkA_cons (valA_str (valA_var (i := 5) rfl (valA_var (i := 3) rfl (valA_var (i := 4) rfl valA_nil)))) mkA_nil))))
    refine mkL A2 (by exact Nat.le_of_ble_eq_true rfl) fun ps2 l2 H8 k8 r8 e8 => ?_
    refine ⟨l1, l2, _, _, rfl, rfl, k8 l1 _ e7 (by simp), e8, ?_, fun l3 n3 => ?_⟩
    · rw [List.length_map, List.length_map, r7.length, r8.length]; exact Nat.le_of_ble_eq_true rfl
    change tSeq (tAsg _ (gName 7)) _ _ (sg p n m c d t u (some (.ref l3))) _
    refine seq_set (op_of ⟨_, rfl, ?_⟩)
    change tLst _ (sg p n m c d t u (some (.ref l3))) _ _
    have A3 : MkA _ (sg p n m c d t u (some (.ref l3))) [[.str "turned", .str t, .str u], [.str "on", .str t], [.str "from", .str t, .str c], [.str "to", .str t, .str c], [.str "under", .str t, .str u]] :=
      mkA_cons (valA_str (valA_var (i := 5) rfl (valA_var (i := 6) rfl valA_nil))) (mkA_cons (valA_str (valA_var (i := 5) rfl valA_nil)) (mkA_cons (valA_str (valA_var (i := 5) rfl (valA_var (i := 3) rfl valA_nil))) (mkA_cons (valA_str (valA_var (i := 5) rfl (valA_var (i := 3) rfl valA_nil))) (mkA_cons (valA_str (valA_var (i := 5) rfl (valA_var (i := 6) rfl valA_nil))) mkA_nil))))
    refine mkL A3 (by exact Nat.le_of_ble_eq_true rfl) fun ps3 l4 H9 k9 r9 e9 => ?_
    refine ⟨l3, l4, _, _, rfl, rfl, k9 l3 _ upd_same (by simp), e9, ?_, fun l5 n5 => ?_⟩
    · rw [List.length_append, List.length_map, List.length_map, List.length_map, r7.length, r8.length, r9.length]; exact Nat.le_of_ble_eq_true rfl
    change tRet _ _ (sg p n m c d t u (some (.ref l5))) _
    refine ret_of (op_of ⟨_, rfl, ?_⟩)
    have kA : Kept [] H6 (L2.upd H8 l3 (.lst (ps1.map V.ref ++ ps2.map V.ref))) := (k7.trans k8).upd n3
    have kB : Kept [] H6 (L2.upd H9 l5 (.lst (ps1.map V.ref ++ ps2.map V.ref ++ ps3.map V.ref))) := (kA.trans k9).upd n5
    have k89 : Kept [] H8 (L2.upd H9 l5 (.lst (ps1.map V.ref ++ ps2.map V.ref ++ ps3.map V.ref))) := (((Kept.refl H8).upd n3).trans k9).upd n5
    have k99 : Kept [] H9 (L2.upd H9 l5 (.lst (ps1.map V.ref ++ ps2.map V.ref ++ ps3.map V.ref))) := (Kept.refl H9).upd n5
    have rr := (paired_app (paired_app (Paired.mapP r7 fun q xs e => k89 q _ (k8 q _ e (by simp)) (by simp)) (Paired.mapP r8 fun q xs e => k89 q _ e (by simp))) (Paired.mapP r9 fun q xs e => k99 q _ e (by simp)))
    have e5 : L2.upd H9 l5 (.lst (ps1.map V.ref ++ ps2.map V.ref ++ ps3.map V.ref)) l5 = some (.lst ((ps1 ++ ps2 ++ ps3).map V.ref)) := by rw [upd_same, List.map_append, List.map_append]
    have SB := S6.kept kB
    generalize hHf : L2.upd H9 l5 (.lst (ps1.map V.ref ++ ps2.map V.ref ++ ps3.map V.ref)) = Hf at kB rr e5 SB
    have hl5 : l5 ∉ [p] := fun z => by
      obtain ⟨xs, hp⟩ := S6.ob
      have q := k9 p _ (kA p _ hp (by simp)) (by simp)
      rw [List.mem_singleton.mp z, q] at n5
      cases n5
    refine ⟨_, rfl, p, a, ns, 16, rfl, SB, by decide, by decide, fun i H' h0 h1 S' k' => ?_⟩
    obtain ⟨j, rfl⟩ : ∃ j : Nat, i = (j : Int) := ⟨i.toNat, by omega⟩
    have hlen := rr.length
    have hj : j < (ps1 ++ ps2 ++ ps3).length := by
      rw [hlen]
      exact Nat.lt_of_lt_of_le (show j < 16 by omega) (by exact Nat.le_of_ble_eq_true rfl)
    obtain ⟨xs, hx, hq⟩ := paired_at rr (List.getElem?_eq_getElem hj)
    obtain ⟨r, hr, er⟩ := few16 hn hm hc hd ht hu xs (List.mem_of_getElem? hx)
    subst er
    refine ⟨l5, _, _, _, rfl, rfl, .inl (.of (k' l5 _ e5 hl5)), at_of (j := j) rfl (by rw [List.getElem?_map, List.getElem?_eq_getElem hj]; rfl), ?_⟩
    obtain ⟨ys, hp6⟩ := SB.ob
    refine k _ r H' hr S' ?_ (k' _ _ hq (notin1 hq hp6 (by intro z; cases z)))
    exact ((((((k1.trans k2).trans k3).trans k4).trans k5).trans k6).trans (kB.mono (by simp))).trans k'
end
end Ah
end
section
set_option Elab.async false
set_option linter.all false
set_option maxRecDepth 100000
set_option maxHeartbeats 2000000
namespace Ah
open PySem PySem.Spec PyProof.Rows L2
/-! ### texts -/
def TextAt (H : Hp) (q : Addr) (rs : List Rw) : Prop := ∃ ps : List Addr, H q = some (.tup (ps.map V.ref)) ∧ Paired (fun a r => H a = some (.tup ((Rw.ws r).map V.str))) ps rs
theorem scLTx : FnScope ["_law_row_here", "_law_many", "_law_k"] ["_law_row_here", "_law_many"] (defScope lText) := ⟨rfl, rfl, rfl, by decide +kernel, rfl, by decide +kernel, by decide +kernel⟩
def spText (K : PySem.W.Frag) : Sp := fun vs H Q _ => ∃ (p a : Addr) (ns : List Int) (many : Int), vs = [.ref p, .int many] ∧ StAt K H p a ns ∧ 0 ≤ many ∧ many < 1000 ∧
  ∀ (q : Addr) (rs : List Rw) (H' : Hp), (∀ r ∈ rs, r.few) → (rs.length : Int) ≤ many → StAt K H' p a ns → Kept [p] H H' → TextAt H' q rs → Q (.ref q) H'
theorem seqL_far {K : PySem.W.Frag} {H1 H' : Hp} {a D : Addr} {o : HO} {xs : List V} (h1 : SqL K H1 a xs) (n : H1 D = none) (h : SqL K H' a xs) : SqL K (upd H' D o) a xs := by
  rcases h1 with h1 | h1
  · have ne : a ≠ D := fun e => by
      rcases h1 with h1 | ⟨ob, h1⟩ <;> rw [e, n] at h1 <;> cases h1
    rcases h with (h | ⟨ob, h⟩) | h
    · exact .inl (.inl (by rw [upd_ne ne]; exact h))
    · exact .inl (.inr ⟨ob, by rw [upd_ne ne]; exact h⟩)
    · exact .inr h
  · exact .inr h1
/-- the state stands where another new object changes -/
theorem StAt.far {K : PySem.W.Frag} {H1 H' : Hp} {p a D : Addr} {ns : List Int} {o : HO} (S1 : StAt K H1 p a ns) (n : H1 D = none) (S : StAt K H' p a ns) : StAt K (L2.upd H' D o) p a ns := by
  obtain ⟨i, r, m, h, g1, g2, g3⟩ := S
  obtain ⟨i1, r1, m1, h1, _, _, q3⟩ := S1
  exact ⟨i, r, m, by rw [upd_ne (ne_of_none h1 n)]; exact h, g1, g2, seqL_far q3 n g3⟩
theorem Kept.far {M : List Addr} {H H1 H' : Hp} {D : Addr} {o : HO} (k1 : Kept M H H1) (n : H1 D = none) (k : Kept M H H') : Kept M H (L2.upd H' D o) := fun b u e hb => by
  rw [upd_ne (ne_of_none (k1 b u e hb) n)]
  exact k b u e hb
theorem yes_if {X Y : Hp → Prop} {σ : L2.St} {H : Hp} (h : X H) : tYes σ H fun b H3 => if b = true then X H3 else Y H3 := by
  show if true = true then X H else Y H
  rw [if_pos rfl]
  exact h
section
variable {P : Program} {w : World} {K : PySem.W.Frag} {mg : Str → Option Value} {base : Heap} {f fT fO : Addr} {fd fdT fdO : FuncData}
theorem ok_ltext (F : FnP K "_law_text" lText f fd) (gT : mg "_law_taken" = some (.ref fT)) (FT : FnOk P w K mg base CX0 1 fT fdT ["_law_row_here", "_law_many"] (spTaken K)) (kT : PySem.W.keepIn K (.ref fT) = true) (bT : Binds K fdT ["_law_row_here", "_law_many"] [])
    (gO : mg "_law_one" = some (.ref fO)) (FO : FnOk P w K mg base CX0 2 fO fdO ["_law_row_here"] (spOne K)) (kO : PySem.W.keepIn K (.ref fO) = true) (bO : Binds K fdO ["_law_row_here"] []) (zt : mg "tuple" = none) (zr : mg "range" = none) :
    FnOk P w K mg base CX0 3 f fd ["_law_row_here", "_law_many"] (spText K) := by
  refine F.ok scLTx (fun vs H Q E h => ?_) (fun cdv A outer s H vs Q E hr h => ?_)
  · obtain ⟨p, a, ns, many, rfl, _⟩ := h
    rfl
  · obtain ⟨p, a, ns, many, rfl, S, h0, h1, k⟩ := h
    refine ⟨_, PSs.nox (pss_one (ps_ret (pe_callTy call_tuple_of (by rfl) zt (by decide +kernel) (pa_cons
      (pe_lc (own := [("_law_k", 2)]) (g := gName 2) (tt := tYes) rfl scLTx.nd (pi_range1 rfl zr (pa_cons (pe_call FT (hr.mono (by decide)) (by rfl) gT kT bT .nil pass0 (pa_cons (pv 0) (pa_cons (pe_op op_add (pv 1) pe_int) pa_nil))) pa_nil))
        (blkOk_by (N := ["_law_row_here", "_law_many", "_law_k"]) (sc := defScope lText) (by decide +kernel)) (fun _ _ _ _ _ => pg_name (i := 2) scLTx.nd rfl (Or.inl rfl)) (fun _ _ _ _ _ => pts_nil)
        (fun _ _ _ _ _ => pe_call FO hr (by rfl) gO kO bO .nil pass0 (pa_cons (pv 0) pa_nil))) pa_nil)))), ?_⟩
    refine ⟨_, rfl, _, rfl, _, _, rfl, rfl, p, a, ns, many + 1, rfl, S, by omega, by omega, fun n H1 hn0 hn1 S1 k1 => ⟨n, rfl, by omega, by omega, fun D nD => ?_⟩⟩
    refine lc_range (lo := 0) (n := n.toNat) (fun i H' => ∃ (ps : List Addr) (rs : List Rw), H' D = some (.lst (ps.map V.ref)) ∧ Paired (fun a r => H' a = some (.tup ((Rw.ws r).map V.str))) ps rs ∧ rs.length = i ∧ (∀ r ∈ rs, r.few) ∧ StAt K H' p a ns ∧ Kept [p] H H')
      ⟨[], [], upd_same, .nil, rfl, fun _ z => (by simp at z), S1.upd nD, k1.upd nD⟩ ?_ ?_
    · rintro i Ha hi ⟨ps, rs, e1, r1, hl, hf, S2, k2⟩
      refine ⟨rfl, yes_if ?_⟩
      refine ⟨_, rfl, p, a, ns, rfl, S2, fun q r H3 hr' S3 k3 eq => ?_⟩
      obtain ⟨ys, hp2⟩ := S2.ob
      have hDp : D ∉ [p] := fun z => by
        obtain ⟨zs, hz⟩ := S1.ob
        rw [List.mem_singleton.mp z, hz] at nD
        cases nD
      have hl2 : ps.length = rs.length := r1.length
      have eD := k3 D _ e1 hDp
      refine ⟨_, eD, ?_, ps ++ [q], rs ++ [r], ?_, ?_, ?_, ?_, ?_, ?_⟩
      · rw [List.length_map, hl2, hl]
        exact Nat.lt_of_lt_of_le (show i < 2000 by omega) (by decide)
      · rw [upd_same, List.map_append] <;> rfl
      · have neD : ∀ {b : Addr} {xs : List V}, H3 b = some (.tup xs) → b ≠ D := fun e z => by
          rw [z, eD] at e
          cases e
        refine paired_app (Paired.mapP r1 fun b r' e => ?_) (.cons ?_ .nil)
        · have e' := k3 b _ e (notin1 e hp2 (by intro z; cases z))
          rw [upd_ne (neD e')]
          exact e'
        · rw [upd_ne (neD eq)]
          exact eq
      · rw [List.length_append, hl] <;> rfl
      · intro r' hr2
        rcases List.mem_append.mp hr2 with z | z
        · exact hf r' z
        · rw [List.mem_singleton.mp z]
          exact hr'
      · exact S1.far nD S3
      · exact k1.far nD (k2.trans k3)
    · rintro Ha ⟨ps, rs, e1, r1, hl, hf, S2, k2⟩
      refine ⟨D, _, rfl, .inl ⟨.inl (.of e1), fun q nq => ?_⟩⟩
      refine k q rs _ hf (by omega) (S2.upd nq) (k2.upd nq) ⟨ps, upd_same, Paired.mapP r1 fun b r' e => by rw [upd_ne (ne_of_none e nq)]; exact e⟩
end
end Ah
end
section
set_option Elab.async false
set_option linter.all false
set_option maxRecDepth 100000
set_option maxHeartbeats 2000000
namespace Ah
open PySem PySem.Spec PyProof.Rows L2
/-! ### alike -/
def Flat : V → Prop
  | .non => True | .bl _ => True | .int _ => True | .str _ => True | _ => False
/-- the same data to the depth n -/
def At (K : PySem.W.Frag) (H : Hp) : Nat → V → V → Prop
  | 0, x, y => x = y ∧ Flat x
  | n + 1, x, y => (x = y ∧ Flat x) ∨ ∃ a b xs ys, x = .ref a ∧ y = .ref b ∧ ((SqT K H a xs ∧ SqT K H b ys) ∨ (H a = some (.lst xs) ∧ H b = some (.lst ys))) ∧ xs.length ≤ 1000000 ∧ Paired (At K H n) xs ys
theorem sqT_kept {K : PySem.W.Frag} {H H' : Hp} {a : Addr} {xs : List V} (k : Kept [] H H') (h : SqT K H a xs) : SqT K H' a xs := by
  rcases h with (h | ⟨o, h⟩) | h
  · exact .inl (.inl (k _ _ h (by simp)))
  · exact .inl (.inr ⟨o, k _ _ h (by simp)⟩)
  · exact .inr h
theorem At.kept {K : PySem.W.Frag} {H H' : Hp} (k : Kept [] H H') : ∀ {n : Nat} {x y : V}, At K H n x y → At K H' n x y
  | 0, _, _, h => h
  | n + 1, _, _, h => by
    rcases h with h | ⟨a, b, xs, ys, e1, e2, h, hl, r⟩
    · exact .inl h
    · refine .inr ⟨a, b, xs, ys, e1, e2, ?_, hl, Paired.mapP r fun x y q => At.kept k q⟩
      rcases h with ⟨h1, h2⟩ | ⟨h1, h2⟩
      · exact .inl ⟨sqT_kept k h1, sqT_kept k h2⟩
      · exact .inr ⟨k _ _ h1 (by simp), k _ _ h2 (by simp)⟩
def spAlike (K : PySem.W.Frag) : Nat → Sp
  | 0 => fun _ _ _ _ => False
  | n + 1 => fun vs H Q _ => ∃ x y : V, vs = [x, y] ∧ At K H n x y ∧ ∀ H', Kept [] H H' → Q (.bl true) H'
/-- built-in names that the module leaves alone -/
structure Bl (mg : Str → Option Value) : Prop where
  isinstance_ : mg "isinstance" = none
  len_ : mg "len" = none
  tuple_ : mg "tuple" = none
  list_ : mg "list" = none
  str_ : mg "str" = none
  bool_ : mg "bool" = none
  range_ : mg "range" = none
  enumerate_ : mg "enumerate" = none
  sorted_ : mg "sorted" = none
  zip_ : mg "zip" = none
  dict_ : mg "dict" = none
  all_ : mg "all" = none
/-- a def of the module's own, its promise, its binding -/
structure Own (P : Program) (w : World) (K : PySem.W.Frag) (mg : Str → Option Value) (base : Heap) (x : Str) (k : Nat) (f : Addr) (fd : FuncData) (ps : List Str) (sp : Sp) : Prop where
  ok : FnOk P w K mg base CX0 k f fd ps sp
  g : mg x = some (.ref f)
  kp : PySem.W.keepIn K (.ref f) = true
  b : Binds K fd ps []
/-- a value's built-in class -/
inductive TyS (K : PySem.W.Frag) (H : Hp) : V → String → Prop where
  | non : TyS K H .non "NoneType"
  | bl (b : Bool) : TyS K H (.bl b) "bool"
  | int (i : Int) : TyS K H (.int i) "int"
  | str (z : Str) : TyS K H (.str z) "str"
  | tup {a : Addr} {xs : List V} (e : SqT K H a xs) : TyS K H (.ref a) "tuple"
  | lst {a : Addr} {xs : List V} (e : H a = some (.lst xs)) : TyS K H (.ref a) "list"
theorem TyS.x {K : PySem.W.Frag} {H : Hp} {v : V} {a : String} (h : TyS K H v a) : TyX K H v (.type a) := by
  cases h with
  | non => exact .base .non
  | bl b => exact .base (.bl b)
  | int i => exact .base (.int i)
  | str z => exact .base (.str z)
  | tup e =>
    rcases e with (e | ⟨o, e⟩) | ⟨o, its, n, h1, h2, _⟩
    · exact .base (.tup e)
    · exact .fTuple e
    · exact .kTuple h1 h2
  | lst e => exact .base (.lst e)
theorem TyS.kept {K : PySem.W.Frag} {H H' : Hp} {v : V} {a : String} (h : TyS K H v a) (k : Kept [] H H') : TyS K H' v a := by
  cases h with
  | non => exact .non
  | bl b => exact .bl b
  | int i => exact .int i
  | str z => exact .str z
  | tup e => exact .tup (sqT_kept k e)
  | lst e => exact .lst (k _ _ e (by simp))
theorem Flat.ty {K : PySem.W.Frag} {H : Hp} {v : V} (h : Flat v) : ∃ a, TyS K H v a ∧ kitB a "tuple" = some false ∧ kitB a "list" = some false ∧ (∃ b, kitB a "str" = some b) ∧ ∃ b, kitB a "bool" = some b := by
  cases v with
  | non => exact ⟨_, .non, by decide +kernel, by decide +kernel, ⟨false, by decide +kernel⟩, false, by decide +kernel⟩
  | bl b => exact ⟨_, .bl b, by decide +kernel, by decide +kernel, ⟨false, by decide +kernel⟩, true, by decide +kernel⟩
  | int b => exact ⟨_, .int b, by decide +kernel, by decide +kernel, ⟨false, by decide +kernel⟩, false, by decide +kernel⟩
  | str b => exact ⟨_, .str b, by decide +kernel, by decide +kernel, ⟨true, by decide +kernel⟩, false, by decide +kernel⟩
  | _ => exact h.elim
theorem iteNF {A B : Prop} {x : V} (hx : x = x) (h : B) : if (!decide (x = x)) = true then A else B := by
  rw [decide_eq_true hx]
  exact iteF h
theorem rd_isi {K : PySem.W.Frag} {σ : L2.St} {H : Hp} {Q : VK} {i : Nat} {v : V} {a c : String} {b : Bool} (hσ : σ[i]? = some (some v)) (ty : TyS K H v a) (kb : kitB a c = some b) (q : Q (.bl b) H) : tCB (rIsi K) (tCons (tVar i) (tCons (tC (.ty c)) tNil)) σ H Q :=
  ⟨v, hσ, v, .ty c, .type a, .type c, b, rfl, .ty c, ty.x, kit_ty kb, q⟩
theorem rd_isi2 {K : PySem.W.Frag} {σ : L2.St} {H : Hp} {Q : VK} {i : Nat} {v : V} {a : String} {b1 b2 : Bool} (hσ : σ[i]? = some (some v)) (ty : TyS K H v a) (k1 : kitB a "tuple" = some b1) (k2 : kitB a "list" = some b2)
    (q : ∀ H', Kept [] H H' → Q (.bl (b1 || b2)) H') : tCB (rIsiT K) (tCons (tVar i) (tCons (tTup (tCons (tC (.ty "tuple")) (tCons (tC (.ty "list")) tNil))) tNil)) σ H Q := by
  refine ⟨v, hσ, by show 2 ≤ sizeLine; decide, fun T nT => ?_⟩
  have k : Kept [] H (upd H T (.tup [.ty "tuple", .ty "list"])) := (Kept.refl H).upd nT
  refine ⟨v, T, _, .type a, [.type "tuple", .type "list"], b1 || b2, rfl, upd_same, .cons (.ty _) (.cons (.ty _) .nil), (ty.kept k).x, ?_, q _ k⟩
  refine kitAny_cons (kit_ty k1) (fun e => ?_) fun e => by rw [e]; rfl
  rw [e]
  exact kitAny_cons (kit_ty k2) (fun e2 => by rw [e2]; exact kitAny_nil) fun e2 => by rw [e2]; rfl
end Ah
end
section
set_option Elab.async false
set_option linter.all false
set_option maxRecDepth 100000
set_option maxHeartbeats 2000000
/-! Dicts whose keys are tuples of texts (the keys' own tuples may be constants): {}, in, d[k], d[k] = v, setdefault. -/
namespace L2
open PySem PySem.Spec PyProof.Rows
/-- an entry: the key, its own tuple, the value -/
abbrev Ent := List Key × Addr × V
def EntR (p : Ent) (q : List Key × Addr × Value) : Prop := p.1 = q.1 ∧ p.2.1 = q.2.1 ∧ RelV p.2.2 q.2.2
def DicR (P : Program) (w : World) (a : Addr) (es : List Ent) (h : Heap) : Prop :=
  es.length ≤ sizeLine ∧ (a == sysModules) = false ∧ (es.map (·.1)).Nodup ∧ ∃ xs : List (List Key × Addr × Value), Paired EntR es xs ∧
    ∃ (o : Obj) (ds : Array DictEntry) (ep : Nat), h.get? a = some o ∧ o.ExactDict ∧ o.data = .dict ds ep ∧ ds.toList = xs.map (entryOfKey (tupleKind (mixKind P w)))
def DicO (P : Program) (w : World) (a : Addr) (es : List Ent) : HO := .ext (DicR P w a es)
/-- the keys' own tuples may be read -/
def KeysIn (K : PySem.W.Frag) (H : Hp) (es : List Ent) : Prop := ∀ e ∈ es, SqT K H e.2.1 (e.1.map kV)
def valE (es : List Ent) (k : List Key) : Option V := (es.find? fun e => decide (e.1 = k)).map (·.2.2)
def putE (es : List Ent) (k : List Key) (b : Addr) (v : V) : List Ent :=
  if (valE es k).isSome then es.map (fun e => if e.1 = k then (e.1, e.2.1, v) else e) else es ++ [(k, b, v)]
theorem valE_nil {k : List Key} : valE [] k = none := rfl
theorem valE_pos {p : Ent} {r : List Ent} {k : List Key} (e : p.1 = k) : valE (p :: r) k = some p.2.2 := by simp [valE, List.find?_cons, e]
theorem valE_neg {p : Ent} {r : List Ent} {k : List Key} (e : ¬ p.1 = k) : valE (p :: r) k = valE r k := by simp [valE, List.find?_cons, e]
theorem valE_none (k : List Key) : ∀ es : List Ent, valE es k = none ↔ k ∉ es.map (·.1)
  | [] => by simp [valE]
  | p :: r => by
    by_cases e : p.1 = k
    · rw [valE_pos e]
      simp [e]
    · rw [valE_neg e, valE_none k r]
      simp [Ne.symm e]
theorem valE_some {es : List Ent} {k : List Key} (h : (valE es k).isSome = true) : k ∈ es.map (·.1) := Classical.byContradiction fun q => by
  rw [(valE_none k es).mpr q] at h
  cases h
theorem valE_mem {es : List Ent} {k : List Key} : (valE es k).isSome = true ↔ k ∈ es.map (·.1) := ⟨valE_some, fun h => by
  cases q : valE es k with
  | none => exact absurd h ((valE_none k es).mp q)
  | some _ => rfl⟩
theorem putE_keys (es : List Ent) (k : List Key) (b : Addr) (v : V) : (putE es k b v).map (·.1) = if (valE es k).isSome = true then es.map (·.1) else es.map (·.1) ++ [k] := by
  unfold putE
  by_cases h : (valE es k).isSome = true
  · rw [if_pos h, if_pos h, List.map_map]
    refine List.map_congr_left fun e _ => ?_
    show (if e.1 = k then (e.1, e.2.1, v) else e).1 = e.1
    split <;> rfl
  · rw [if_neg h, if_neg h, List.map_append]
    rfl
theorem putE_len (es : List Ent) (k : List Key) (b : Addr) (v : V) : (putE es k b v).length ≤ es.length + 1 := by
  have h := congrArg List.length (putE_keys es k b v)
  rw [List.length_map] at h
  rw [h]
  split <;> simp
theorem putE_nodup {es : List Ent} (k : List Key) (b : Addr) (v : V) (hn : (es.map (·.1)).Nodup) : ((putE es k b v).map (·.1)).Nodup := by
  rw [putE_keys]
  split
  · exact hn
  · rename_i h
    rw [List.nodup_append]
    refine ⟨hn, by simp, fun x hx y hy => ?_⟩
    rw [List.mem_singleton] at hy
    rw [hy]
    exact fun e => h (valE_mem.mpr (e ▸ hx))
/-- what is stored is an old entry under its own tuple, or the new one -/
theorem putE_mem {es : List Ent} {k : List Key} {b : Addr} {v : V} {e : Ent} (h : e ∈ putE es k b v) : (∃ e' ∈ es, e.1 = e'.1 ∧ e.2.1 = e'.2.1 ∧ (e.2.2 = e'.2.2 ∨ e.2.2 = v)) ∨ e = (k, b, v) := by
  unfold putE at h
  split at h
  · obtain ⟨e', h1, h2⟩ := List.mem_map.mp h
    refine .inl ⟨e', h1, ?_⟩
    rw [← h2]
    split
    · exact ⟨rfl, rfl, .inr rfl⟩
    · exact ⟨rfl, rfl, .inl rfl⟩
  · rcases List.mem_append.mp h with h | h
    · exact .inl ⟨e, h, rfl, rfl, .inl rfl⟩
    · exact .inr (List.mem_singleton.mp h)
theorem KeysIn.put {K : PySem.W.Frag} {H : Hp} {es : List Ent} {k : List Key} {b : Addr} {v : V} (h : KeysIn K H es) (hb : SqT K H b (k.map kV)) : KeysIn K H (putE es k b v) := by
  intro e he
  rcases putE_mem he with ⟨e', h1, h2, h3, _⟩ | rfl
  · rw [h2, h3]
    exact h e' h1
  · exact hb

theorem entR_val {es : List Ent} {xs : List (List Key × Addr × Value)} (r : Paired EntR es xs) (k : List Key) : RelO (valE es k) ((atKey xs k).map (·.2)) := by
  induction r with
  | nil => exact True.intro
  | @cons p q ps qs h t ih =>
    obtain ⟨h1, _, h2⟩ := h
    by_cases e : p.1 = k
    · have e' : q.1 = k := h1.symm.trans e
      have b : atKey (q :: qs) k = some q.2 := by simp [atKey, List.find?_cons, e']
      rw [valE_pos e, b]; exact h2
    · have e' : ¬ q.1 = k := fun z => e (h1.trans z)
      have b : atKey (q :: qs) k = atKey qs k := by simp [atKey, List.find?_cons, e']
      rw [valE_neg e, b]; exact ih
theorem entR_put {es : List Ent} {xs : List (List Key × Addr × Value)} (r : Paired EntR es xs) (k : List Key) (b : Addr) {y : V} {u : Value} (ry : RelV y u) : Paired EntR (putE es k b y) (storedH xs k b u) := by
  have e : (valE es k).isSome = (atKey xs k).isSome := by
    rw [(entR_val r k).isSome_eq, Option.isSome_map]
  unfold putE storedH
  rw [e]
  by_cases q : (atKey xs k).isSome = true
  · rw [if_pos q, if_pos q]
    clear e q
    induction r with
    | nil => exact .nil
    | @cons p q ps qs h t ih =>
      rw [List.map_cons, List.map_cons]
      refine .cons ?_ ih
      obtain ⟨h1, h2, h3⟩ := h
      unfold putAt
      by_cases e : p.1 = k
      · rw [if_pos e, if_pos (h1.symm.trans e)]; exact ⟨h1, h2, ry⟩
      · rw [if_neg e, if_neg (fun z => e (h1.trans z))]; exact ⟨h1, h2, h3⟩
  · rw [if_neg q, if_neg q]
    exact Paired.snoc r ⟨rfl, rfl, ry⟩

section
variable {X : Cx} {pins : List (Addr × Obj)} {σ : St} {H : Hp} {s : Shared} {a b : Addr} {es : List Ent} {k : List Key} {A : Around} {E : Value → Shared → Prop}
theorem key_rd (I : Inv X pins σ H s) (h : SqT X.K H b (k.map kV)) : (tupleKind (mixKind X.prog X.w)).is s.heap k b := by
  obtain ⟨its, r, ⟨o, h1, h2, n, h3⟩, _⟩ := I.tuple h
  exact ⟨o, its.toArray, n, h1, h2, h3, by simpa using items_are r⟩
theorem dic_rd (I : Inv X pins σ H s) (ha : Rd H a (DicO X.prog X.w a es)) : DicR X.prog X.w a es s.heap := by
  have q : ObjOk X.prog X.w H s.heap a (DicO X.prog X.w a es) := ha.ok I.hok
  exact q.1
theorem dic_at (I : Inv X pins σ H s) (ha : Rd H a (DicO X.prog X.w a es)) (hk : KeysIn X.K H es) : es.length ≤ sizeLine ∧ (a == sysModules) = false ∧ (es.map (·.1)).Nodup ∧
    ∃ xs, Paired EntR es xs ∧ s.heap.DictOfH (tupleKind (mixKind X.prog X.w)) a xs := by
  obtain ⟨z, hd, hn, xs, r, o, ds, ep, h1, h2, h3, h4⟩ := dic_rd I ha
  refine ⟨z, hd, hn, xs, r, o, ds, ep, h1, h2, h3, h4, fun x hx => ?_, ?_⟩
  · have all : ∀ {l : List Ent} {m : List (List Key × Addr × Value)}, Paired EntR l m → (∀ e ∈ l, e ∈ es) → ∀ x ∈ m, (tupleKind (mixKind X.prog X.w)).is s.heap x.1 x.2.1 := by
      intro l m q
      induction q with
      | nil => intro _ x hx; exact nomatch hx
      | @cons p q ps qs hq t ih =>
        intro sub x hx
        rcases List.mem_cons.mp hx with e | hx
        · subst e
          rw [← hq.1, ← hq.2.1]
          exact key_rd I (hk p (sub p (List.mem_cons_self ..)))
        · exact ih (fun e he => sub e (List.mem_cons_of_mem _ he)) x hx
    exact all r (fun _ h => h) x hx
  · have e : es.map (·.1) = xs.map (·.1) := by
      clear h4 hn hk z ha
      induction r with
      | nil => rfl
      | @cons p q ps qs h t ih => rw [List.map_cons, List.map_cons, h.1, ih]
    rw [← e]
    exact hn
theorem dic_ok {P : Program} {w : World} {H' : Hp} {h' : Heap} {xs : List (List Key × Addr × Value)} (z : es.length ≤ sizeLine) (hd : (a == sysModules) = false) (hn : (es.map (·.1)).Nodup) (r : Paired EntR es xs)
    (dd : h'.DictOfH (tupleKind (mixKind P w)) a xs) : ObjOk P w H' h' a (DicO P w a es) := by
  obtain ⟨o, ds, ep, h1, h2, h3, h4, _, _⟩ := dd
  exact ⟨⟨z, hd, hn, xs, r, o, ds, ep, h1, h2, h3, h4⟩, ⟨o, h1⟩, fun u v p q => by
    obtain ⟨z, hd, hn, xs, r, o, ds, ep, e1, e2⟩ := p
    exact ⟨z, hd, hn, xs, r, o, ds, ep, q _ e1, e2⟩⟩
/-- the dict is another one -/
theorem dic_write {h' : Heap} {t' : Nat} {es' : List Ent} {xs : List (List Key × Addr × Value)} (I : Inv X pins σ H s) (ha : H a = some (DicO X.prog X.w a es)) (hs : Heap.SameBut a s.heap h')
    (z : es'.length ≤ sizeLine) (hd : (a == sysModules) = false) (hn : (es'.map (·.1)).Nodup) (r : Paired EntR es' xs) (dd : h'.DictOfH (tupleKind (mixKind X.prog X.w)) a xs) :
    Inv X pins σ (upd H a (DicO X.prog X.w a es')) { s with heap := h', toks := t' } := by
  obtain ⟨o, ds, ep, h1, rest⟩ := id dd
  exact d_write I (by rw [ha]; exact True.intro) hs ⟨o, h1⟩ (dic_ok z hd hn r dd)

/-- k in d -/
theorem dic_in {Q : Value → Shared → Prop} (hu : A.units + 1 < cLine) (I : Inv X pins σ H s) (ha : Rd H a (DicO X.prog X.w a es)) (hk : KeysIn X.K H es) (hb : SqT X.K H b (k.map kV))
    (h : ∀ s', Inv X pins σ H s' → Q (.bool (valE es k).isSome) s') : wpAny (model X.prog X.w) A (compareOp .In (.ref b) (.ref a)) Q E s := by
  obtain ⟨z, hd, hn, xs, r, dd⟩ := dic_at I ha hk
  refine wpAny_in_heap (tupleKind_room_in1 hu) (key_rd I hb) hd dd ?_
  have q := (entR_val r k).isSome_eq
  rw [Option.isSome_map] at q
  rw [← q]
  exact h _ (I.tok _)
theorem dic_notIn {Q : Value → Shared → Prop} (hu : A.units + 1 < cLine) (I : Inv X pins σ H s) (ha : Rd H a (DicO X.prog X.w a es)) (hk : KeysIn X.K H es) (hb : SqT X.K H b (k.map kV))
    (h : ∀ s', Inv X pins σ H s' → Q (.bool (!(valE es k).isSome)) s') : wpAny (model X.prog X.w) A (compareOp .NotIn (.ref b) (.ref a)) Q E s := by
  obtain ⟨z, hd, hn, xs, r, dd⟩ := dic_at I ha hk
  refine wpAny_notIn_heap (tupleKind_room_in1 hu) (key_rd I hb) hd dd ?_
  have q := (entR_val r k).isSome_eq
  rw [Option.isSome_map] at q
  rw [← q]
  exact h _ (I.tok _)
/-- d[k], there -/
theorem dic_get {v : V} {Q : Value → Shared → Prop} (hu : A.units + 1 < cLine) (I : Inv X pins σ H s) (ha : Rd H a (DicO X.prog X.w a es)) (hk : KeysIn X.K H es) (hb : SqT X.K H b (k.map kV)) (hv : valE es k = some v)
    (h : ∀ w' s', Inv X pins σ H s' → RelV v w' → Q w' s') : wpAny (model X.prog X.w) A (getItem (.ref a) (.ref b)) Q E s := by
  obtain ⟨z, hd, hn, xs, r, dd⟩ := dic_at I ha hk
  obtain ⟨w', hw, rw'⟩ := RelO.some_of (v := v) (o := (atKey xs k).map (·.2)) (by rw [← hv]; exact entR_val r k)
  obtain ⟨p, hp, hp2⟩ := Option.map_eq_some_iff.mp hw
  refine wpAny_getItem_heap (tupleKind_room_in1 hu) (key_rd I hb) dd hp ?_
  rw [hp2]
  exact h w' _ (I.tok _) rw'
/-- d[k] = v -/
theorem dic_set {v : V} {r0 : Value} {Q : Unit → Shared → Prop} (hu : A.units + 1 < cLine) (I : Inv X pins σ H s) (ha : H a = some (DicO X.prog X.w a es)) (hk : KeysIn X.K H es) (hb : SqT X.K H b (k.map kV)) (rv : RelV v r0) (hl : es.length < sizeLine)
    (h : ∀ s', Inv X pins σ (upd H a (DicO X.prog X.w a (putE es k b v))) s' → Q () s') : wpAny (model X.prog X.w) A (setItem (.ref a) (.ref b) r0) Q E s := by
  obtain ⟨z, hd, hn, xs, r, dd⟩ := dic_at I (.inl ha) hk
  have hz : xs.length ≤ sizeLine := by rw [← Paired.length r]; exact z
  have h2 := putE_len es k b v
  refine wpAny_setItem_heap (hsz := hz) (tupleKind_room_in1 hu) (key_rd I hb) dd fun h' dd' hs => h _ ?_
  exact dic_write I ha hs (by omega) hd (putE_nodup k b v hn) (entR_put r k b rv) dd'
/-- d.setdefault(k, v) -/
theorem dic_setd {v : V} {r0 : Value} {Q : Value → Shared → Prop} (hu : A.units + 1 < cLine) (I : Inv X pins σ H s) (ha : H a = some (DicO X.prog X.w a es)) (hk : KeysIn X.K H es) (hb : SqT X.K H b (k.map kV)) (rv : RelV v r0) (hl : es.length < sizeLine)
    (h1 : ∀ y, valE es k = some y → ∀ (w' : Value) (s' : Shared), Inv X pins σ H s' → RelV y w' → Q w' s')
    (h2 : valE es k = none → ∀ (w' : Value) (s' : Shared), Inv X pins σ (upd H a (DicO X.prog X.w a (putE es k b v))) s' → RelV v w' → Q w' s') :
    wpAny (model X.prog X.w) A (call (.builtin "dict.setdefault") [.ref a, .ref b, r0]) Q E s := by
  obtain ⟨z, hd, hn, xs, r, dd⟩ := dic_at I (.inl ha) hk
  have hz : xs.length ≤ sizeLine := by rw [← Paired.length r]; exact z
  have hl2 := putE_len es k b v
  refine call_setdefault_heap (hsz := hz) (tupleKind_room_in1 hu) (key_rd I hb) hd dd (fun p hp => ?_) fun hnone h' dd' hs => ?_
  · have q := entR_val r k
    rw [hp] at q
    cases q0 : valE es k with
    | none =>
      rw [q0] at q
      exact (show False from q).elim
    | some v0 =>
      rw [q0] at q
      exact h1 v0 q0 _ _ (I.tok _) q
  · have q := entR_val r k
    rw [hnone] at q
    cases q0 : valE es k with
    | some v0 =>
      rw [q0] at q
      exact (show False from q).elim
    | none => exact h2 q0 _ _ (dic_write I ha hs (by omega) hd (putE_nodup k b v hn) (entR_put r k b rv) dd') rv
/-- d.update(d2), d not empty -/
def putAll (es more : List Ent) : List Ent := more.foldl (fun acc e => putE acc e.1 e.2.1 e.2.2) es
theorem putAll_len : ∀ (more es : List Ent), (putAll es more).length ≤ es.length + more.length
  | [], es => by show es.length ≤ es.length + 0; omega
  | p :: r, es => by
    have h1 := putAll_len r (putE es p.1 p.2.1 p.2.2)
    have h2 := putE_len es p.1 p.2.1 p.2.2
    show (putAll (putE es p.1 p.2.1 p.2.2) r).length ≤ _
    rw [List.length_cons]; omega
theorem putAll_nodup : ∀ (more es : List Ent), (es.map (·.1)).Nodup → ((putAll es more).map (·.1)).Nodup
  | [], es, h => h
  | p :: r, es, h => putAll_nodup r _ (putE_nodup p.1 p.2.1 p.2.2 h)
theorem entR_putAll {more : List Ent} {ys : List (List Key × Addr × Value)} (q : Paired EntR more ys) : ∀ {es : List Ent} {xs : List (List Key × Addr × Value)}, Paired EntR es xs → Paired EntR (putAll es more) (storedAllH xs ys) := by
  induction q with
  | nil => intro es xs r; exact r
  | @cons p q ps qs h t ih =>
    intro es xs r
    have e : Paired EntR (putE es p.1 p.2.1 p.2.2) (storedH xs q.1 q.2.1 q.2.2) := by
      rw [← h.1, ← h.2.1]
      exact entR_put r p.1 p.2.1 h.2.2
    exact ih e
theorem dic_update {c : Addr} {more : List Ent} {Q : Value → Shared → Prop} (hu : A.units + 1 < cLine) (I : Inv X pins σ H s) (ha : H a = some (DicO X.prog X.w a es)) (hc : Rd H c (DicO X.prog X.w c more)) (hac : a ≠ c)
    (hk : KeysIn X.K H es) (hm : KeysIn X.K H more) (hne : es ≠ []) (hl : es.length + more.length ≤ sizeLine)
    (h : ∀ s', Inv X pins σ (upd H a (DicO X.prog X.w a (putAll es more))) s' → Q .none s') : wpAny (model X.prog X.w) A (call (.builtin "dict.update") [.ref a, .ref c]) Q E s := by
  obtain ⟨z, hd, hn, xs, r, dd⟩ := dic_at I (.inl ha) hk
  obtain ⟨z2, hd2, hn2, ys, r2, dd2⟩ := dic_at I hc hm
  have e1 := Paired.length r
  have e2 := Paired.length r2
  have hl2 := putAll_len more es
  refine call_update_dictH (tupleKind_room_in1 hu) hac hd2 dd dd2 (.inl fun e => hne ?_) (by omega) fun h' dd' _ hs => h _ ?_
  · rw [e] at r
    cases r
    rfl
  · have := dic_write (t' := s.toks) I ha hs (by omega) hd (putAll_nodup more es hn) (entR_putAll r2 r) dd'
    exact this
end
end L2
end
section
set_option Elab.async false
set_option linter.all false
set_option maxRecDepth 100000
set_option maxHeartbeats 2000000
/-! Dicts whose keys are tuples of texts: the rules for expressions. -/
namespace L2
open PySem PySem.Spec PyProof.Rows
section
variable {X : Cx}
/-- {}, to be such a dict -/
def tDicNew (P : Program) (w : World) : TE := fun _ H Q => ∀ p, H p = none → Q (.ref p) (upd H p (DicO P w p []))
theorem pe_dicNew {pos : Pos} : PE X (.Dict [] [] pos) (tDicNew X.prog X.w) := ⟨fun pins s σ H Q I h =>
  wpAny_Dict_empty ⟨.ref s.heap.objs.size, _, I.laid (a := s.heap.objs.size) (o := DicO X.prog X.w s.heap.objs.size []) (t' := s.toks) (fun _ _ q => Heap.get?_push_of_some _ q) (Nat.le_refl _)
    (dic_ok (xs := []) (Nat.zero_le _) (beq_eq_false_iff_ne.mpr (Ne.symm (Nat.ne_of_lt I.big))) List.nodup_nil .nil (Heap.DictOfH.new s.heap)), rfl, h _ (I.hok.fresh (Nat.le_refl _))⟩⟩
/-- k in d, k not in d -/
def rDicIn (X : Cx) (neg : Bool) : R2 := fun y x H Q => ∃ (a b : Addr) (es : List Ent) (k : List Key), x = .ref a ∧ y = .ref b ∧ Rd H a (DicO X.prog X.w a es) ∧ KeysIn X.K H es ∧ SqT X.K H b (k.map kV) ∧
  Q (.bl (if neg then !(valE es k).isSome else (valE es k).isSome)) H
theorem op_in_dic (hu : X.A.units + 1 < cLine) : OpR X (compareOp .In) (rDicIn X false) := by
  intro pins s σ H y x v u Q I ry rx h
  obtain ⟨a, b, es, k, rfl, rfl, ha, hk, hb, q⟩ := h
  cases ry
  cases rx
  exact dic_in hu I ha hk hb fun s' I' => ⟨.bl (valE es k).isSome, H, I', rfl, q⟩
theorem op_notIn_dic (hu : X.A.units + 1 < cLine) : OpR X (compareOp .NotIn) (rDicIn X true) := by
  intro pins s σ H y x v u Q I ry rx h
  obtain ⟨a, b, es, k, rfl, rfl, ha, hk, hb, q⟩ := h
  cases ry
  cases rx
  exact dic_notIn hu I ha hk hb fun s' I' => ⟨.bl (!(valE es k).isSome), H, I', rfl, q⟩
/-- d[k], there -/
def rDicIx (X : Cx) : R2 := fun x y H Q => ∃ (a b : Addr) (es : List Ent) (k : List Key) (v : V), x = .ref a ∧ y = .ref b ∧ Rd H a (DicO X.prog X.w a es) ∧ KeysIn X.K H es ∧ SqT X.K H b (k.map kV) ∧ valE es k = some v ∧ Q v H
def rDicIxK (K : PySem.W.Frag) (P : Program) (w : World) : R2 := fun x y H Q => ∃ (a b : Addr) (es : List Ent) (k : List Key) (v : V), x = .ref a ∧ y = .ref b ∧ Rd H a (DicO P w a es) ∧ KeysIn K H es ∧ SqT K H b (k.map kV) ∧ valE es k = some v ∧ Q v H
theorem ix_dic (hu : X.A.units + 1 < cLine) : IxR X (rDicIx X) := by
  intro value slice pins s σ H x y v u Q I rx ry h hs
  obtain ⟨a, b, es, k, z, rfl, rfl, ha, hk, hb, hv, q⟩ := h
  cases rx
  cases ry
  have hT : s.TypeIs (.ref a) "dict" := by
    obtain ⟨_, _, _, xs, _, dd⟩ := dic_at I ha hk
    exact dd.typeIs
  obtain ⟨_, _, _, xs, r, dd⟩ := dic_at I ha hk
  obtain ⟨w', hw, rw'⟩ := RelO.some_of (v := z) (o := (atKey xs k).map (·.2)) (by rw [← hv]; exact entR_val r k)
  obtain ⟨p, hp, hp2⟩ := Option.map_eq_some_iff.mp hw
  refine subscriptTail_builtinR (x := w') hT PySem.F.slot_dict_getitem.lookup ?_ hs
  refine wpAny_getItem_heap (tupleKind_room_in1 hu) (key_rd I hb) dd hp ?_
  exact ⟨hp2, z, H, I.tok _, by rw [hp2]; exact rw', q⟩
/-- d[k] = v -/
def rDicSet (X : Cx) : V → V → V → Hp → (Hp → Prop) → Prop := fun o i v H Q => ∃ (a b : Addr) (es : List Ent) (k : List Key), o = .ref a ∧ i = .ref b ∧ H a = some (DicO X.prog X.w a es) ∧ KeysIn X.K H es ∧ SqT X.K H b (k.map kV) ∧ es.length < sizeLine ∧
  Q (upd H a (DicO X.prog X.w a (putE es k b v)))
theorem set_dic (hu : X.A.units + 1 < cLine) : PSet X (rDicSet X) := by
  intro pins s σ H o i v ov iv u Q I ro ri rv h
  obtain ⟨a, b, es, k, rfl, rfl, ha, hk, hb, hl, q⟩ := h
  cases ro
  cases ri
  exact dic_set hu I ha hk hb rv hl fun s' I' => ⟨_, I', q⟩
/-- a method of such a dict -/
def tDicM (X : Cx) (r : V → List V → Hp → VK → Prop) (to : TE) (t : TA) : TE := fun σ H Q => to σ H fun x H1 => (∃ (a : Addr) (es : List Ent), x = V.ref a ∧ Rd H1 a (DicO X.prog X.w a es)) ∧ t σ H1 fun xs H2 => r x xs H2 Q
theorem dic_type {pins : List (Addr × Obj)} {σ : St} {H : Hp} {s : Shared} {a : Addr} {es : List Ent} (I : Inv X pins σ H s) (ha : Rd H a (DicO X.prog X.w a es)) :
    s.TypeIs (.ref a) "dict" ∧ ∀ b, Value.ref a = .ref b → ∃ ob, s.heap.get? b = some ob ∧ ob.dict = none := by
  obtain ⟨_, _, _, _, _, o, _, _, h1, h2, _⟩ := dic_rd I ha
  exact ⟨⟨o, h1, h2.1⟩, fun b e => by cases e; exact ⟨o, h1, h2.2.1⟩⟩
theorem pe_dicM {o e : Expr} {es : List Expr} {to : TE} {t : TA} {name : Str} {apos cpos : Pos} {id : String} {r : V → List V → Hp → VK → Prop} (slot : Slot "dict" name id) (hty : typeOf (.builtin id) = pure (.type "method_descriptor")) (hm : MtR X id r) (ho : PE X o to) (ha : PA X (e :: es) t)
    (hbase : attributeBase o name X.env (eval o X.env) = eval o X.env := by rfl)
    (hfew : ((backTo cpos (starEach (e :: es) X.env)).all (fun x => !x.1) && (backToKw cpos (keywordEach [] X.env)).all (fun x => x.1.isSome)
      && decide ((e :: es).length + ([] : List Keyword).length + (if ([] : List Keyword).isEmpty then 0 else 1) < 30)) = true := by rfl)
    (hline : (apos.endLine == cpos.line) = true := by rfl) (hs : starEach (e :: es) X.env = (false, eval e X.env) :: starEach es X.env := by rfl) (hplain : (backTo cpos (starEach es X.env)).any (·.1) = false := by rfl) :
    PE X (.Call (.Attribute o name apos) (e :: es) [] cpos) (tDicM X r to t) := by
  refine ⟨fun pins s σ H Q I h => ?_⟩
  refine wpAny_Call_method_late hbase hfew hline rfl (thn (ho.run pins s σ H _ I h) fun v s1 ⟨x, H1, I1, r1, ty, q1⟩ => ?_)
  obtain ⟨a, es, rfl, hka⟩ := ty
  obtain ⟨h1, h2⟩ := dic_type I1 hka
  cases r1
  refine ⟨"dict", id, PySem.F.plainAttrs_dict, slot, hty, h1, h2, ?_⟩
  have hA := ha.run cpos pins s1 σ H1 _ I1 q1
  rw [hs] at hA ⊢
  refine Calls.callWith_builtin (by show (false || (backTo cpos (starEach _ X.env)).any (·.1)) = false; rw [hplain] <;> rfl) (Calls.evalArgs_plain ?_)
  exact thn hA fun us s2 ⟨vs, H2, I2, r2, q2⟩ => hm pins s2 σ H2 (.ref a) vs (.ref a) us Q I2 rfl r2 q2
/-- d.setdefault(k, v) -/
def rDicSetd (X : Cx) : V → List V → Hp → VK → Prop := fun x xs H Q => ∃ (a b : Addr) (es : List Ent) (k : List Key) (v : V), x = .ref a ∧ xs = [.ref b, v] ∧ H a = some (DicO X.prog X.w a es) ∧ KeysIn X.K H es ∧ SqT X.K H b (k.map kV) ∧ es.length < sizeLine ∧
  (∀ y, valE es k = some y → Q y H) ∧ (valE es k = none → Q v (upd H a (DicO X.prog X.w a (putE es k b v))))
theorem mt_dicSetd (hu : X.A.units + 1 < cLine) : MtR X "dict.setdefault" (rDicSetd X) := by
  intro pins s σ H x xs v us Q I rx rxs h
  obtain ⟨a, b, es, k, d, rfl, rfl, ha, hk, hb, hl, q1, q2⟩ := h
  cases rx
  obtain ⟨u1, u2, rfl, r1, r2⟩ := vals2 rxs
  cases r1
  exact dic_setd hu I ha hk hb r2 hl (fun y hy w' s' I' rw' => ⟨y, H, I', rw', q1 y hy⟩) fun hn w' s' I' rw' => ⟨d, _, I', rw', q2 hn⟩
/-- d.update(d2), d not empty -/
def rDicUpd (X : Cx) : V → List V → Hp → VK → Prop := fun x xs H Q => ∃ (a c : Addr) (es more : List Ent), x = .ref a ∧ xs = [.ref c] ∧ a ≠ c ∧ H a = some (DicO X.prog X.w a es) ∧ Rd H c (DicO X.prog X.w c more) ∧ KeysIn X.K H es ∧ KeysIn X.K H more ∧ es ≠ [] ∧
  es.length + more.length ≤ sizeLine ∧ Q .non (upd H a (DicO X.prog X.w a (putAll es more)))
theorem mt_dicUpd (hu : X.A.units + 1 < cLine) : MtR X "dict.update" (rDicUpd X) := by
  intro pins s σ H x xs v us Q I rx rxs h
  obtain ⟨a, c, es, more, rfl, rfl, hac, ha, hc, hk, hm, hne, hl, q⟩ := h
  cases rx
  obtain ⟨u1, rfl, r1⟩ := vals1 rxs
  cases r1
  exact dic_update hu I ha hc hac hk hm hne hl fun s' I' => ⟨.non, _, I', rfl, q⟩
/-- the entries' own tuples in a row -/
abbrev entRefs (es : List Ent) : List V := es.map fun e => V.ref e.2.1
theorem entR_refs {es : List Ent} {xs : List (List Key × Addr × Value)} (r : Paired EntR es xs) : xs.map (fun x => x.2.1) = es.map fun e => e.2.1 := by
  induction r with
  | nil => rfl
  | @cons p q ps qs h t ih => rw [List.map_cons, List.map_cons, ih, h.2.1]
/-- what comes out of a walk over the raw entries -/
theorem dic_items {P : Program} {w : World} {es : List Ent} {xs : List (List Key × Addr × Value)} {ds : Array DictEntry} {acc : Array Value} (r : Paired EntR es xs) (he : ds.toList = xs.map (entryOfKey (tupleKind (mixKind P w))))
    (it : ItemsOf (fun i v => ∃ en : DictEntry, ds[i]? = some en ∧ v = en.key) acc ds.size) : acc.toList = es.map fun e => Value.ref e.2.1 := by
  have l1 : ds.size = xs.length := size_of_entries he
  have ea : acc.toList = xs.map fun x => Value.ref x.2.1 := by
    have hl : acc.toList.length = xs.length := by rw [Array.length_toList, it.1]; exact l1
    apply List.ext_getElem?
    intro j
    rw [List.getElem?_map]
    cases hj : acc.toList[j]? with
    | none =>
      have h1 := List.getElem?_eq_none_iff.mp hj
      rw [List.getElem?_eq_none (by omega)]
      all_goals rfl
    | some v =>
      obtain ⟨en, hen, hv⟩ := it.2 j v (by rw [← Array.getElem?_toList]; exact hj)
      have qe := entry_at he j
      rw [hen] at qe
      cases hb : xs[j]? with
      | none =>
        rw [hb] at qe
        exact nomatch (show some en = none from qe)
      | some b =>
        rw [hb] at qe
        have e2 : en = entryOfKey (tupleKind (mixKind P w)) b := Option.some.inj qe
        rw [hv, e2]
        all_goals rfl
  have e := congrArg (List.map Value.ref) (entR_refs r)
  rw [List.map_map, List.map_map] at e
  exact ea.trans e
theorem entVals : ∀ es : List Ent, Vals (entRefs es) (es.map fun e => Value.ref e.2.1)
  | [] => .nil
  | _ :: r => .cons rfl (entVals r)
/-- list(d) -/
theorem call_list_dic (hc : X.calm = true) : CallR X (.type "list") (fun xs H Q => ∃ (a : Addr) (es : List Ent), xs = [V.ref a] ∧ Rd H a (DicO X.prog X.w a es) ∧ ∀ p, H p = none → Q (.ref p) (upd H p (.lst (entRefs es)))) := by
  intro pins s σ H xs us Q I r h
  obtain ⟨a, es, rfl, hd, q⟩ := h
  obtain ⟨u, rfl, rx⟩ := r.one
  cases rx
  obtain ⟨z, hs, hn, ks, pr, o, ds, ep, ho, hx, hdt, he⟩ := dic_rd I hd
  have l1 : ds.size = ks.length := size_of_entries he
  have l2 : es.length = ks.length := Paired.length pr
  refine PySem.W.kdl_call (kdl_raw hs hx hdt) (I.ok.hd hc) ho (by omega) fun h' tk acc' c' kp e it => ?_
  have ea := dic_items pr he it
  have rv : Vals (entRefs es) acc'.toList := by
    rw [ea]
    exact entVals es
  have hz : (entRefs es).length ≤ sizeLine := by rw [List.length_map]; exact z
  refine ⟨.ref s.heap.objs.size, _, I.laid (t' := tk) (o := .lst (entRefs es)) kp (Nat.le_refl _) ?_, rfl, q _ (I.hok.fresh (Nat.le_refl _))⟩
  exact ⟨hz, acc'.toList, c', rv, by rw [Array.toArray_toList]; exact e⟩
end
end L2
end
section
set_option Elab.async false
set_option linter.all false
set_option maxRecDepth 100000
set_option maxHeartbeats 2000000
/-! Dicts whose keys are tuples of texts: walks, sorted. -/
namespace L2
open PySem PySem.Spec PyProof.Rows
/-- the keys of the locked dict at d, in their order: the keys' own tuples -/
def ItD (P : Program) (w : World) (d : Addr) (o : Obj) (es : List Ent) : It :=
  ⟨fun i H => H d = some (.frz o (DicO P w d es)) ∧ i < es.length, fun i H x H' => H' = H ∧ ∃ e, es[i]? = some e ∧ x = .ref e.2.1, fun i H => H d = some (.frz o (DicO P w d es)) ∧ es.length ≤ i⟩
theorem dic_frz {X : Cx} {pins : List (Addr × Obj)} {σ : St} {H : Hp} {s : Shared} {d : Addr} {o : Obj} {es : List Ent} (I : Inv X pins σ H s) (h : H d = some (.frz o (DicO X.prog X.w d es))) :
    (d == sysModules) = false ∧ s.heap.get? d = some o ∧ o.ExactDict ∧ es.length ≤ sizeLine ∧ ∃ (ds : Array DictEntry) (ep : Nat), o.data = .dict ds ep ∧ ds.size = es.length ∧
      ∀ (i : Nat) (e : Ent), es[i]? = some e → ∃ en : DictEntry, ds[i]? = some en ∧ en.key = .ref e.2.1 := by
  obtain ⟨hd, q⟩ := (show ObjOk X.prog X.w H s.heap d (.frz o (DicO X.prog X.w d es)) from I.hok d _ h)
  obtain ⟨z, hs, hn, xs, pr, o', ds, ep, ho, hx, hdt, he⟩ := (show ObjOk X.prog X.w H s.heap d (DicO X.prog X.w d es) from q).1
  rw [hd] at ho
  cases ho
  have l1 : ds.size = xs.length := size_of_entries he
  have l2 : es.length = xs.length := Paired.length pr
  refine ⟨hs, hd, hx, z, ds, ep, hdt, by omega, fun i e hi => ?_⟩
  obtain ⟨b, hb, e1, e2, e3⟩ := paired_get pr hi
  have q := entry_at he i
  rw [hb] at q
  exact ⟨_, q, by rw [e2]; all_goals rfl⟩
theorem turn_dic {P : Program} {w : World} {K : PySem.W.Frag} {tg : Expr} {d : Addr} {o : Obj} {ds : Array DictEntry} {ep : Nat} {es : List Ent} (it : Addr) (hod : o.data = .dict ds ep) : Turn P w K tg (ItD P w d o es) [it] it (fun i h => h.IsKeyIter it d i es.length ep) where
  mem := by simp
  obj := fun i h st b hb => by
    have e : b = it := by simpa using hb
    subst e
    obtain ⟨oi, e, c, dd⟩ := st
    exact ⟨oi, e, fun v z => by rw [dd] at z; cases z⟩
  keep := fun i h h' st k => st.at fun oi e => k it (by simp) oi e
  item := by
    intro X hP hw hK hc i pins s σ H E I hf st hg
    subst hP hw hK
    obtain ⟨hd, hi⟩ := hg
    obtain ⟨f0, f1, f2, f3, f4, f5⟩ := hf it (by simp)
    obtain ⟨hs, hgd, hx, hz, ds', ep', hdt, hsz, ent⟩ := dic_frz I hd
    obtain ⟨rfl, rfl⟩ := dict_ep hod hdt
    obtain ⟨e, hkv⟩ : ∃ p, es[i]? = some p := ⟨es[i], List.getElem?_eq_getElem hi⟩
    obtain ⟨en, hen, hkey⟩ := ent i e hkv
    refine next_key_item st hgd hdt hsz hen fun h' st' sb => ?_
    have I1 : Inv X pins σ H { s with heap := h' } := I.turned (t' := s.toks) (fun b ob hb e => (sb.2 b hb).trans e) f0 f1 f3 f4 f5
    obtain ⟨oi, e0, c, dd⟩ := id st'
    exact ⟨en.key, rfl, go_of (s := { s with heap := h' }) e0 c dd (by decide) ⟨.ref e.2.1, H, I1, hkey, ⟨rfl, e, hkv, rfl⟩, st', fun b hb => (hf b hb).1⟩⟩
  done := by
    intro X hP hw hK hc i pins s σ H E I hf st hg
    subst hP hw hK
    obtain ⟨hd, hi⟩ := hg
    obtain ⟨f0, f1, f2, f3, f4, f5⟩ := hf it (by simp)
    obtain ⟨hs, hgd, hx, hz, ds', ep', hdt, hsz, ent⟩ := dic_frz I hd
    obtain ⟨rfl, rfl⟩ := dict_ep hod hdt
    exact next_key_end (I.ok.hd hc) st hgd hdt hsz hi fun h' eb => ⟨rfl, I.turned (t' := s.toks) (fun b ob hb e => eb b ob hb e) f0 f1 f3 f4 f5⟩
  self := fun A i s Q E st h => by
    refine wpAny_pyIter_slot st.typeIs F.slot_dict_keyiterator_iter (wpAny_call_entry F.slot_dict_keyiterator_iter st.typeIs F.entry_dict_keyiterator_iter ?_ (F.args_dict_keyiterator_iter_1 _))
    show wpAny _ _ (ret (.ref it)) _ _ s
    exact wpAny_pure ⟨_, rfl, "dict_keyiterator", _, st.typeIs, F.slot_dict_keyiterator_next.lookup, h⟩
def iDic (P : Program) (w : World) (td : TE) : TI := fun σ H R => td σ H fun x H1 => ∃ (d : Addr) (o : Obj) (es : List Ent), x = .ref d ∧ H1 d = some (.frz o (DicO P w d es)) ∧ R (ItD P w d o es) H1
theorem pi_dic {X : Cx} {tg e : Expr} {td : TE} (he : PE X e td) : PI X tg e (iDic X.prog X.w td) := by
  refine ⟨fun pins s σ H R I h => ?_⟩
  refine thn (he.run pins s σ H _ I h) fun u s1 ⟨x, H1, I1, rx, d, o, es, ex, hd, q⟩ => ?_
  subst ex
  obtain rfl : u = Value.ref d := rx
  obtain ⟨hs, hgd, hx, hz, ds, ep, hdt, hsz, ent⟩ := dic_frz I1 hd
  refine iter_keys hs hgd hx hdt (pi_one (tk := s1.toks) I1 _ (turn_dic _ hdt) ⟨_, Heap.get?_push_size _ rfl, rfl, ?_⟩ q)
  rw [hsz] <;> rfl
theorem walk_dic {P : Program} {w : World} {d : Addr} {o : Obj} {es : List Ent} : Walk (ItD P w d o es) es.length (fun H => H d = some (.frz o (DicO P w d es))) (YAt (entRefs es)) :=
  ⟨fun _ _ hi q => ⟨q, hi⟩, fun _ q => ⟨q, Nat.le_refl _⟩, fun i _ _ _ _ _ y => ⟨y.1, by
    obtain ⟨e, h1, h2⟩ := y.2
    rw [List.getElem?_map, h1, h2]
    rfl⟩⟩

/-! ### sorted -/
def keyD : Key → PyData
  | .inl i => .int i
  | .inr z => .str z
/-- a tuple of texts and its address -/
abbrev Tx := Addr × List Key
def encT (b : Tx) : PyData := .tuple (b.2.map keyD)
def leT : Tx → Tx → Bool := PySem.W.dataLe false encT
theorem readsKeys {h : Heap} : ∀ {ks : List Key} {us : List Value}, Vals (ks.map kV) us → ReadsAll h us (ks.map keyD) []
  | [], _, r => by
    rw [List.map_nil] at r
    cases r
    exact .nil
  | k :: ks, _, r => by
    rw [List.map_cons] at r
    cases r with
    | cons r1 r2 =>
      rename_i u us
      rw [List.map_cons]
      have t := readsKeys (h := h) r2
      cases k with
      | inl i =>
        obtain ⟨t1, rfl⟩ := r1
        exact ReadsAll.cons (as := []) (bs := []) (.int i t1) t
      | inr z =>
        obtain ⟨t1, rfl⟩ := r1
        exact ReadsAll.cons (as := []) (bs := []) (.str z t1) t
theorem depthKeys : ∀ ks : List Key, PyData.depthAll (ks.map keyD) = 0
  | [] => by simp [PyData.depthAll]
  | k :: ks => by
    rw [List.map_cons, PyData.depthAll, depthKeys ks]
    cases k <;> simp [keyD, PyData.depth]
theorem depthT (b : Tx) : (encT b).depth = 1 := by
  unfold encT
  rw [PyData.depth, depthKeys]
section
variable {X : Cx} {pins : List (Addr × Obj)} {σ : St} {H : Hp} {s : Shared}
theorem readsT (I : Inv X pins σ H s) {b : Tx} (h : SqT X.K H b.1 (b.2.map kV)) : ∃ as, Reads s.heap (.ref b.1) (encT b) as := by
  obtain ⟨its, r, ⟨o, h1, h2, n, h3⟩, _⟩ := I.tuple h
  exact ⟨[], .tuple h1 h2 h3 (by simpa using readsKeys r)⟩
theorem readsTs (I : Inv X pins σ H s) : ∀ {bs : List Tx}, (∀ b ∈ bs, SqT X.K H b.1 (b.2.map kV)) →
    PySem.W.EachIs (fun v b => ∃ as, Reads s.heap v (encT b) as) (bs.map fun b => Value.ref b.1) bs
  | [], _ => .nil
  | b :: bs, h => .cons (readsT I (h b (List.mem_cons_self ..))) (readsTs I fun c hc => h c (List.mem_cons_of_mem _ hc))
theorem each_refs : ∀ bs : List Tx, PySem.W.EachIs (fun v (b : Tx) => v = Value.ref b.1) (bs.map fun b => Value.ref b.1) bs
  | [] => .nil
  | _ :: r => .cons rfl (each_refs r)
theorem of_each : ∀ {out : List Value} {bs : List Tx}, PySem.W.EachIs (fun v (b : Tx) => v = Value.ref b.1) out bs → out = bs.map fun b => Value.ref b.1
  | _, _, .nil => rfl
  | _, _, .cons h t => by rw [List.map_cons, h, of_each t]
theorem txVals : ∀ bs : List Tx, Vals (bs.map fun b => V.ref b.1) (bs.map fun b => Value.ref b.1)
  | [] => .nil
  | _ :: r => .cons rfl (txVals r)
/-- what may be sorted: every key begins, and any two are of one kind place by place -/
def SortT (bs : List Tx) : Prop := PySem.W.AllAlike (bs.map encT) ∧ ∀ b ∈ bs, b.2 ≠ []
theorem SortT.able {bs : List Tx} (h : SortT bs) : PySem.W.Sortable (bs.map encT) := .inl fun d hd => by
  obtain ⟨b, hb, rfl⟩ := List.mem_map.mp hd
  have ne := h.2 b hb
  unfold encT
  cases e : b.2 with
  | nil => exact (ne e).elim
  | cons k ks => exact ⟨keyD k, ks.map keyD, by rw [List.map_cons]⟩
theorem mergeT_len (bs : List Tx) : (bs.mergeSort leT).length = bs.length := (List.mergeSort_perm bs leT).length_eq
/-- sorted(l) of a list of tuples -/
theorem cr_sortT (hu : X.A.units + 64 < cLine) : CallR X (.builtin "sorted") (fun vs H Q => ∃ (a : Addr) (bs : List Tx), vs = [V.ref a] ∧ SqL X.K H a (bs.map fun b => V.ref b.1) ∧ (∀ b ∈ bs, SqT X.K H b.1 (b.2.map kV)) ∧ SortT bs ∧
    ∀ p, H p = none → Q (.ref p) (upd H p (.lst ((bs.mergeSort leT).map fun b => V.ref b.1)))) := by
  intro pins s σ H xs us Q I r h
  obtain ⟨a, bs, rfl, ha, hb, hs, q⟩ := h
  obtain ⟨u, rfl, rx⟩ := vals1 r
  cases rx
  obtain ⟨its, rv, pl, hz⟩ := I.list ha
  have ei : its = bs.map fun b => Value.ref b.1 := by
    have e := refs_at (ps := bs.map (·.1)) (us := its) (by rw [List.map_map]; exact rv)
    rw [e, List.map_map]
    all_goals rfl
  subst ei
  rw [List.length_map] at hz
  refine PySem.W.sorted_data (R := fun v (b : Tx) => v = Value.ref b.1) (enc := encT) (bs := bs) (vs := bs.map fun b => Value.ref b.1) pl.isList (each_refs bs) (readsTs I hb) hs.1 hs.able hz (fun b _ => by rw [depthT]; omega) fun out hl eo => ?_
  have eo' : out = (bs.mergeSort leT).map fun b => Value.ref b.1 := of_each eo
  subst eo'
  obtain ⟨c, hc⟩ := PyProof.Rows.sortedAll_at s.heap (bs.map fun b => Value.ref b.1) ((bs.mergeSort leT).map fun b => Value.ref b.1).toArray
  have hn : H (s.heap.objs.size + 1) = none := I.hok.fresh (Nat.le_succ _)
  refine ⟨.ref (s.heap.objs.size + 1), upd H (s.heap.objs.size + 1) (.lst ((bs.mergeSort leT).map fun b => V.ref b.1)), I.laid (t' := s.toks) (fun b o e => PyProof.Rows.sortedAll_old e) (Nat.le_succ _) ?_, rfl, q _ hn⟩
  exact ⟨by rw [List.length_map, mergeT_len]; exact hz, _, c, txVals _, hc⟩
/-- sorted(d) of a dict with such keys -/
theorem cr_sortDic (hcalm : X.calm = true) (hu : X.A.units + 64 < cLine) : CallR X (.builtin "sorted") (fun vs H Q => ∃ (a : Addr) (es : List Ent), vs = [V.ref a] ∧ Rd H a (DicO X.prog X.w a es) ∧ KeysIn X.K H es ∧ SortT (es.map fun e => (e.2.1, e.1)) ∧
    ∀ p, H p = none → Q (.ref p) (upd H p (.lst (((es.map fun e => (e.2.1, e.1)).mergeSort leT).map fun b => V.ref b.1)))) := by
  intro pins s σ H xs us Q I r h
  obtain ⟨a, es, rfl, ha, hk, hs, q⟩ := h
  obtain ⟨u, rfl, rx⟩ := vals1 r
  cases rx
  obtain ⟨z, lo, hn, ks, pr, o, ds, ep, ho, hx, hdt, he⟩ := dic_rd I ha
  have l1 : ds.size = ks.length := size_of_entries he
  have l2 : es.length = ks.length := Paired.length pr
  refine Calls.call_function_entry PyProof.Rows.kind_sorted PyProof.Rows.plain_sorted PyProof.Rows.entry_sorted (PyProof.Rows.args_sorted1 _) ?_
  unfold Builtin.«sorted»
  refine wpAny_bind (m := checkCount "sorted" 1 1 _) (wpAny_pure ?_)
  refine wpAny_bind (PySem.W.kdu_collect (A := X.A.in1) (kdl_raw lo hx hdt) (I.ok.hd hcalm) ho (by omega) fun h' tk acc hk2 it => ?_)
  have ea := dic_items pr he it
  have I1 : Inv X pins σ H { s with heap := h', toks := tk } := I.kept hk2
  generalize hbs : (es.map fun e : Ent => ((e.2.1, e.1) : Tx)) = bs at hs q
  have ea2 : acc.toList = bs.map fun b => Value.ref b.1 := by
    rw [ea, ← hbs, List.map_map]
    all_goals rfl
  have hlb : bs.length = es.length := by rw [← hbs, List.length_map]
  have hb : ∀ b ∈ bs, SqT X.K H b.1 (b.2.map kV) := by
    intro b hb
    rw [← hbs] at hb
    obtain ⟨e, he, rfl⟩ := List.mem_map.mp hb
    exact hk e he
  rw [ea2]
  refine wpAny_bind (wpAny_newList ?_ (by rw [List.length_map]; omega))
  have hoL : (h'.push (seqObj "list" (bs.map fun b => Value.ref b.1).toArray 0)).get? h'.objs.size = some (seqObj "list" (bs.map fun b => Value.ref b.1).toArray 0) := Heap.get?_push_size _ rfl
  show wpAny _ _ _ _ _ { s with heap := h'.push (seqObj "list" (bs.map fun b => Value.ref b.1).toArray 0), toks := tk }
  have rd : PySem.W.EachIs (fun v (b : Tx) => ∃ as, Reads (h'.push (seqObj "list" (bs.map fun b => Value.ref b.1).toArray 0)) v (encT b) as ∧ h'.objs.size ∉ as) (bs.map fun b => Value.ref b.1) bs := by
    have go : ∀ cs : List Tx, (∀ b ∈ cs, SqT X.K H b.1 (b.2.map kV)) → PySem.W.EachIs (fun v (b : Tx) => ∃ as, Reads (h'.push (seqObj "list" (bs.map fun b => Value.ref b.1).toArray 0)) v (encT b) as ∧ h'.objs.size ∉ as) (cs.map fun b => Value.ref b.1) cs := by
      intro cs
      induction cs with
      | nil => intro _; exact .nil
      | cons c cs ih =>
        intro hc
        refine .cons ?_ (ih fun d hd => hc d (List.mem_cons_of_mem _ hd))
        obtain ⟨its, rr, ⟨oo, h1, h2, n, h3⟩, _⟩ := I1.tuple (hc c (List.mem_cons_self ..))
        exact ⟨[], .tuple (Heap.get?_push_of_some _ h1) h2 h3 (by simpa using readsKeys rr), fun q => nomatch q⟩
    exact go bs hb
  refine wpAny_bind (wpAny_holding (PySem.W.list_sort_data (s := { s with heap := h'.push (seqObj "list" (bs.map fun b => Value.ref b.1).toArray 0), toks := tk }) (R := fun v (b : Tx) => v = Value.ref b.1) (enc := encT) (bs := bs) (vs := bs.map fun b => Value.ref b.1)
    hoL (each_refs bs) rd hs.1 hs.able (by omega) (fun b _ => by rw [depthT]; show X.A.units + 1 + 1 + 1 < cLine; omega) fun out hl eo => ?_))
  have eo' : out = (bs.mergeSort leT).map fun b => Value.ref b.1 := of_each eo
  subst eo'
  obtain ⟨c, hc⟩ := PyProof.Rows.sortedHeap_at (vs := bs.map fun b => Value.ref b.1) (out := ((bs.mergeSort leT).map fun b => Value.ref b.1).toArray) hoL
  refine wpAny_pure ⟨_, rfl, .ref h'.objs.size, upd H h'.objs.size (.lst ((bs.mergeSort leT).map fun b => V.ref b.1)), I1.laid (t' := tk) (fun b u e => ?_) (Nat.le_refl _)
    (show ObjOk X.prog X.w _ _ _ (.lst ((bs.mergeSort leT).map fun b => V.ref b.1)) from ⟨by rw [List.length_map, mergeT_len]; omega, _, c, txVals _, hc⟩), rfl, q _ (I1.hok.fresh (Nat.le_refl _))⟩
  have hbl : b < h'.objs.size := Heap.lt_size e
  rw [PyProof.Rows.sortedHeap_old (Nat.ne_of_lt hbl) (by rw [size_push']; exact Nat.lt_succ_of_lt hbl)]
  exact Heap.get?_push_of_some _ e
end
end L2
end
section
set_option Elab.async false
set_option linter.all false
set_option maxRecDepth 100000
set_option maxHeartbeats 2000000
/-! Sets of texts: made anew, add, sorted. -/
namespace L2
open PySem PySem.Spec PyProof.Rows PySem.Froz
/-- the set of the texts l at a, no text twice in l -/
def SetS (P : Program) (w : World) (a : Addr) (l : List Str) (h : Heap) : Prop :=
  ∃ D : SD, h.get? a = some (sObj "set" D) ∧ TxOk P w D l ∧ l.Nodup ∧ l.length < scanBound ∧ Ris D.2.2.place.toList ∧ (w.params.followText "set-order" = true ∨ D.2.2.led = true)
theorem tailTx_ris {ep : Nat} {es1 : Array (Int × Value)} {t2 : SetTable} {wd : Bool} (r : Ris t2.place.toList) : Ris (tailTx ep es1 t2 wd).2.2.place.toList := by
  unfold tailTx
  split
  · exact relayAll_ris t2 es1 _
  · exact r
theorem tailTx_led {ep : Nat} {es1 : Array (Int × Value)} {t2 : SetTable} {wd : Bool} : (tailTx ep es1 t2 wd).2.2.led = t2.led := by
  unfold tailTx
  split
  · exact relayAll_led t2 es1 _
  · rfl
theorem addTx_ris {h : Int} {v : Value} {D : SD} (r : Ris D.2.2.place.toList) : Ris (addTx h v D).2.2.place.toList := by
  have q := layNew_ris D.2.2 D.1 h v r
  unfold addTx
  refine tailTx_ris ?_
  split
  · exact q
  · exact q
theorem addTx_led {h : Int} {v : Value} {D : SD} : (addTx h v D).2.2.led = D.2.2.led := by
  have q := layNew_led D.2.2 D.1 h v
  unfold addTx
  rw [tailTx_led]
  split
  · exact q
  · exact q
section
variable {P : Program} {w : World} {A : Around} {E : Value → Shared → Prop} {s : Shared} {a : Addr} {l : List Str} {k : Str} {u : Tok}
/-- the text is in the set -/
theorem old_x {D : SD} {Q : Bool → Shared → Prop} (ho : s.heap.get? a = some (sObj "set" D)) (F : TxOk P w D l) (hk : k ∈ l) (hb : l.length < scanBound) (h : Q false s) :
    wpAny (model P w) A (setAddHashed a (.str k u) (hashStr w k)) Q E s := by
  obtain ⟨es, ep, t⟩ := D
  have hd : (sObj "set" (es, ep, t)).data = .set es ep t := rfl
  have hsz : es.size = l.length := F.sz
  have hkey : (strKind P w).is k (.str k u) = true := is_str k u
  obtain ⟨j, hj⟩ : ∃ j, List.findIdx? (fun e => (strKind P w).is k e.2) es.toList = some j := by
    obtain ⟨e, he, q⟩ := (F.mem k).mp hk
    cases hr : List.findIdx? (fun e => (strKind P w).is k e.2) es.toList with
    | some j => exact ⟨j, rfl⟩
    | none =>
      have c := List.findIdx?_eq_none_iff.mp hr e he
      rw [q] at c
      cases c
  unfold setAddHashed setAddHashedIn
  refine wpAny_holding (wpAny_bind (wpAny_setState_of ho hd F.fit ?_))
  dsimp only
  rw [byScan_of rfl (show es.size < scanBound by omega) F.el]
  simp only [↓reduceIte]
  unfold setAddByScan
  refine wpAny_bind ?_
  refine wpAny_bind (wpAny_rule ?_)
  refine wpAny_bind (wpAny_setScan_of (knd := strKind P w) (k := k) hkey ho hd F.fit F.el ?_)
  rw [hj]
  dsimp only
  exact wpAny_pure (wpAny_pure h)
/-- found.add(k) -/
theorem setS_add {Q : Value → Shared → Prop} (R : SetS P w a l s.heap) (hb : l.length + 1 < scanBound)
    (hQ : ∀ h' l', Heap.SameBut a s.heap h' → SetS P w a l' h' → (∀ z, z ∈ l' ↔ z = k ∨ z ∈ l) → l'.length ≤ l.length + 1 → Q .none { s with heap := h', toks := s.toks + 1 }) :
    wpAny (model P w) A (call (.builtin "set.add") [.ref a, .str k u]) Q E s := by
  obtain ⟨D, ho, F, nd, hz0, hr, hl⟩ := R
  refine wpAny_call_entry PySem.F.slot_set_add ⟨_, ho, rfl⟩ PySem.F.entry_set_add ?_ (PySem.F.args_set_add_2 _ _)
  unfold Builtin.«set.add» Builtin.Frozenset.oneOther
  simp only [List.isEmpty_nil, bind_assoc]
  unfold Builtin.Frozenset.addrOf setAdd
  refine wpAny_bind (wpAny_pure ?_)
  try dsimp only
  refine wpAny_bind (wpAny_pure ?_)
  try dsimp only
  refine wpAny_bind ?_
  refine wpAny_holding ?_
  refine wpAny_bind ((strKind P w).pyHash (is_str k u) ?_)
  by_cases hk : k ∈ l
  · refine old_x (s := { s with toks := s.toks + 1 }) ho F hk (by omega) ?_
    show wpAny _ _ (ret Value.none) _ _ _
    exact wpAny_pure ⟨_, rfl, hQ s.heap l (Heap.SameBut.refl a s.heap) ⟨D, ho, F, nd, hz0, hr, hl⟩ (fun z => ⟨.inr, fun h => h.elim (fun e => e ▸ hk) id⟩) (Nat.le_succ _)⟩
  · refine add_x (s := { s with toks := s.toks + 1 }) ho F hk hb ?_
    show wpAny _ _ (ret Value.none) _ _ _
    refine wpAny_pure ⟨_, rfl, hQ _ (k :: l) (Heap.SameBut.update s.heap a _) ⟨addTx (hashStr w k) (.str k u) D, get_upd _ ho rfl, add_ok u F, List.nodup_cons.mpr ⟨hk, nd⟩, hb, addTx_ris hr, hl.imp id fun z => by rw [addTx_led]; exact z⟩ (fun z => List.mem_cons) (Nat.le_refl _)⟩
theorem setS_fresh {h : Heap} (P : Program) (w : World) : SetS P w h.objs.size [] (h.push { cls := .type "set", dict := none, data := .set #[] 0 (.fresh 0 0 (!w.params.followText "set-order")) }) :=
  ⟨(#[], 0, .fresh 0 0 (!w.params.followText "set-order")), Heap.get?_push_size _ rfl, TxOk.nil (by rfl), List.nodup_nil, (by decide), List.Pairwise.nil, by
    show _ ∨ (!w.params.followText "set-order") = true
    cases w.params.followText "set-order"
    · exact .inr rfl
    · exact .inl rfl⟩
end
def SetSO (P : Program) (w : World) (a : Addr) (l : List Str) : HO := .ext (SetS P w a l)
theorem setSO_new {P : Program} {w : World} {H : Hp} {h : Heap} {a : Addr} {l : List Str} (R : SetS P w a l h) : ObjOk P w H h a (SetSO P w a l) := by
  have ⟨D, ho, _⟩ := R
  exact ⟨R, ⟨_, ho⟩, fun h1 h2 p k => by
    obtain ⟨D, ho, r⟩ := p
    exact ⟨D, k _ ho, r⟩⟩
section
variable {X : Cx} {pins : List (Addr × Obj)} {σ : St} {H : Hp} {s : Shared} {D : Addr} {l : List Str} {E : Value → Shared → Prop}
theorem addS_ok {y : Str} {t : Tok} {Q : Value → Shared → Prop} (I : Inv X pins σ H s) (hD : H D = some (SetSO X.prog X.w D l)) (hb : l.length + 1 < scanBound)
    (h : ∀ s' l', (∀ z, z ∈ l' ↔ z = y ∨ z ∈ l) → l'.length ≤ l.length + 1 → Inv X pins σ (upd H D (SetSO X.prog X.w D l')) s' → Q .none s') :
    wpAny (model X.prog X.w) X.A (call (.builtin "set.add") [.ref D, .str y t]) Q E s := by
  have R : SetS X.prog X.w D l s.heap := (show ObjOk X.prog X.w H s.heap D (SetSO X.prog X.w D l) from I.hok D _ hD).1
  refine setS_add R hb fun h' l' sb R' hm hz => h _ l' hm hz ?_
  have ⟨D', ho, _⟩ := R'
  exact I.write (x := D) (e := D) (by rw [hD]; trivial) (.inl rfl) (fun b q hq z => (sb.2 b hq).trans z) ⟨_, ho⟩ (setSO_new R')
end

/-! ### sorted -/
theorem nodup_back {α : Type} [DecidableEq α] {l : List α} (hn : l.Nodup) : ∀ {bs : List α}, (∀ z, z ∈ bs ↔ z ∈ l) → bs.length = l.length → bs.Nodup := by
  have go : ∀ (bs l : List α), l.Nodup → (∀ z ∈ l, z ∈ bs) → bs.length ≤ l.length → bs.Nodup := by
    intro bs
    induction bs with
    | nil => intro l _ _ _; exact .nil
    | cons b t ih =>
      intro l hn hs hl
      have h3 : ∀ z ∈ l.erase b, z ∈ t := fun z hz => by
        rw [hn.mem_erase_iff] at hz
        rcases List.mem_cons.mp (hs z hz.2) with q | q
        · exact absurd q hz.1
        · exact q
      have h4 : l.length ≤ (l.erase b).length + 1 := by
        rw [List.length_erase]
        split <;> omega
      rw [List.length_cons] at hl
      have hne := hn.erase b
      have h5 : (l.erase b).length ≤ t.length := hne.length_le_of_subset h3
      refine List.nodup_cons.mpr ⟨fun hb => ?_, ih (l.erase b) hne h3 (by omega)⟩
      have h6 : l.length ≤ t.length := hn.length_le_of_subset fun z hz => by
        rcases List.mem_cons.mp (hs z hz) with q | q
        · exact q ▸ hb
        · exact q
      omega
  exact fun {bs} hm he => go bs l hn (fun z hz => (hm z).mpr hz) (by omega)
def leS : Str → Str → Bool := PySem.W.dataLe false PyData.str
theorem alikeS : ∀ (bs : List Str), PySem.W.AllAlike (bs.map PyData.str) := fun bs => PySem.W.AllAlike.of fun b b' => by simp [PySem.W.alike]
theorem txts_of : ∀ {vs : List Value}, (∀ v ∈ vs, ∃ (k : Str) (t : Tok), v = Value.str k t) → ∃ bs : List Str, PySem.W.EachIs (fun v b => ∃ t : Tok, v = Value.str b t) vs bs
  | [], _ => ⟨[], .nil⟩
  | v :: vs, h => by
    obtain ⟨k, t, e⟩ := h v (List.mem_cons_self ..)
    obtain ⟨bs, r⟩ := txts_of fun u hu => h u (List.mem_cons_of_mem _ hu)
    exact ⟨k :: bs, .cons ⟨t, e⟩ r⟩
theorem each_mem_iff {P : Program} {w : World} : ∀ {vs : List Value} {bs : List Str}, PySem.W.EachIs (fun v b => ∃ t : Tok, v = Value.str b t) vs bs → ∀ k : Str, (∃ v ∈ vs, (strKind P w).is k v = true) ↔ k ∈ bs
  | _, _, .nil, k => by simp
  | v :: vs, b :: bs, .cons h t, k => by
    obtain ⟨u, e⟩ := h
    have ih := each_mem_iff (P := P) (w := w) t k
    constructor
    · rintro ⟨x, hx, q⟩
      rcases List.mem_cons.mp hx with z | z
      · rw [z, e] at q
        rw [(strKind P w).inj (.str b u) k b q (is_str b u)]
        exact List.mem_cons_self ..
      · exact List.mem_cons_of_mem _ (ih.mp ⟨x, z, q⟩)
    · intro hk
      rcases List.mem_cons.mp hk with z | z
      · exact ⟨v, List.mem_cons_self .., by rw [z, e]; exact is_str b u⟩
      · obtain ⟨x, hx, q⟩ := ih.mpr z
        exact ⟨x, List.mem_cons_of_mem _ hx, q⟩
theorem strVals : ∀ {out : List Value} {bs : List Str}, PySem.W.EachIs (fun v b => ∃ t : Tok, v = Value.str b t) out bs → Vals (bs.map V.str) out
  | _, _, .nil => .nil
  | _, _, .cons h t => .cons h (strVals t)
section
variable {X : Cx}
/-- sorted(found) of a set of texts -/
theorem cr_sortSetS (hcalm : X.calm = true) (hu : X.A.units + 64 < cLine) : CallR X (.builtin "sorted") (fun vs H Q => ∃ (a : Addr) (l : List Str), vs = [V.ref a] ∧ H a = some (SetSO X.prog X.w a l) ∧
    ∀ (p : Addr) (bs : List Str), H p = none → (∀ z, z ∈ bs ↔ z ∈ l) → bs.length = l.length → bs.Nodup → Q (.ref p) (upd H p (.lst ((bs.mergeSort leS).map V.str)))) := by
  intro pins s σ H xs us Q I r h
  obtain ⟨a, l, rfl, ha, q⟩ := h
  obtain ⟨u, rfl, rx⟩ := vals1 r
  cases rx
  obtain ⟨⟨es, ep, t⟩, ho, F, nd, hz0, hr, hl⟩ := (show ObjOk X.prog X.w H s.heap a (SetSO X.prog X.w a l) from I.hok a _ ha).1
  have hsz : es.size = l.length := F.sz
  have hsb : es.size < scanBound := by omega
  refine Calls.call_function_entry PyProof.Rows.kind_sorted PyProof.Rows.plain_sorted PyProof.Rows.entry_sorted (PyProof.Rows.args_sorted1 _) ?_
  unfold Builtin.«sorted»
  refine wpAny_bind (m := checkCount "sorted" 1 1 _) (wpAny_pure ?_)
  refine wpAny_bind (collect_set (A := X.A.in1) (I.ok.hd hcalm) ⟨_, ho, rfl, rfl⟩ F.fit hsb hr hl fun s1 vs k1 hz g1 o1 pm => ?_)
  have I1 : Inv X pins σ H s1 := by
    have J : Inv X pins σ H { s with heap := s1.heap, gens := s1.gens, drawn := s1.drawn, toks := s1.toks } :=
      I.call (ch := []) ⟨fun b o e _ _ _ => k1 b o e, fun b o e _ _ _ => ⟨o.slots, k1 b o e⟩, fun _ _ _ h _ => h, fun b o e _ => ⟨o, k1 b o e⟩, fun _ _ h => h, fun _ _ _ h => h, fun b ps h => ⟨#[], by simpa using h⟩⟩
        (I.hok.kept k1) (by rw [g1]; exact I.bare) (fun _ z => nomatch z)
    have e : s1 = { s with heap := s1.heap, gens := s1.gens, drawn := s1.drawn, toks := s1.toks } := by
      cases s1
      cases s
      cases o1
      rfl
    rw [e]
    exact J
  have hst : ∀ v ∈ vs, ∃ (k : Str) (t : Tok), v = Value.str k t := fun v hv => by
    obtain ⟨e, he, q⟩ := List.mem_map.mp (pm.mem_iff.mp hv)
    obtain ⟨⟨k, h1, _⟩, _⟩ := F.el e he
    obtain ⟨t, e2⟩ := Value.isStrOf_shape h1
    exact ⟨k, t, by rw [← q]; exact e2⟩
  obtain ⟨bs, ev⟩ := txts_of hst
  have lb : bs.length = l.length := by rw [← ev.length, pm.length_eq, List.length_map, Array.length_toList]; exact hsz
  have hmem : ∀ z, z ∈ bs ↔ z ∈ l := fun z => by
    rw [← each_mem_iff (P := X.prog) (w := X.w) ev z, F.mem z]
    constructor
    · rintro ⟨v, hv, q⟩
      obtain ⟨e, he, q2⟩ := List.mem_map.mp (pm.mem_iff.mp hv)
      exact ⟨e, he, by rw [q2]; exact q⟩
    · rintro ⟨e, he, q⟩
      exact ⟨e.2, pm.mem_iff.mpr (List.mem_map.mpr ⟨e, he, rfl⟩), q⟩
  have hvl : vs.length = l.length := by rw [ev.length]; exact lb
  have hbig : l.length ≤ sizeLine := by rw [← hsz]; exact fits_of_scanBound hsb
  refine wpAny_bind (wpAny_newList ?_ (by omega))
  have hoL : (s1.heap.push (seqObj "list" vs.toArray 0)).get? s1.heap.objs.size = some (seqObj "list" vs.toArray 0) := Heap.get?_push_size _ rfl
  show wpAny _ _ _ _ _ { s1 with heap := s1.heap.push (seqObj "list" vs.toArray 0) }
  refine wpAny_bind (wpAny_holding (PySem.W.list_sort_data (s := { s1 with heap := s1.heap.push (seqObj "list" vs.toArray 0) }) (R := fun v (b : Str) => ∃ t : Tok, v = Value.str b t) (enc := PyData.str) (bs := bs) (vs := vs)
    hoL ev (ev.mono fun v b ⟨t, e⟩ => ⟨[], by rw [e]; exact .str b t, fun q => nomatch q⟩) (alikeS bs) (PySem.W.Sortable.others fun b => ⟨(fun e => nomatch e), fun xs e => nomatch e⟩) (by omega) (fun b _ => by show X.A.units + 1 + 1 + PyData.depth (.str b) < cLine; rw [PyData.depth]; omega) fun out ho2 eo => ?_))
  obtain ⟨c, hc⟩ := PyProof.Rows.sortedHeap_at (vs := vs) (out := out.toArray) hoL
  refine wpAny_pure ⟨_, rfl, .ref s1.heap.objs.size, upd H s1.heap.objs.size (.lst ((bs.mergeSort leS).map V.str)), I1.laid (t' := s1.toks) (fun b u e => ?_) (Nat.le_refl _)
    (show ObjOk X.prog X.w _ _ _ (.lst ((bs.mergeSort leS).map V.str)) from ⟨?_, out, c, strVals eo, hc⟩), rfl, q _ bs (I1.hok.fresh (Nat.le_refl _)) hmem lb (nodup_back nd hmem lb)⟩
  · have hbl : b < s1.heap.objs.size := Heap.lt_size e
    rw [PyProof.Rows.sortedHeap_old (Nat.ne_of_lt hbl) (by rw [size_push']; exact Nat.lt_succ_of_lt hbl)]
    exact Heap.get?_push_of_some _ e
  · have e := (List.mergeSort_perm bs leS).length_eq
    rw [List.length_map, e]
    omega
end
end L2
end
section
set_option Elab.async false
set_option linter.all false
set_option maxRecDepth 100000
set_option maxHeartbeats 2000000
/-! {elt for tg in iter if .. for tg1 in iter1 if ..}, elt a text. -/
namespace L2
open PySem PySem.Spec PyProof.Rows PpSet
section
variable {prog : Program} {w : World} {A : Around} {R : Result → Shared → Prop} {s : Shared} {elt t0 i0 t1 i1 : Expr} {f0 f1 : List Expr} {scope : Scope} {pos : Pos} {it acc : Value} {env : Env}
abbrev Sc2 (elt t0 i0 t1 i1 : Expr) (f0 f1 : List Expr) (scope : Scope) (pos : Pos) : Expr := .SetComp elt [⟨t0, i0, f0, 0⟩, ⟨t1, i1, f1, 0⟩] scope pos
theorem sc2_turn0 : compTurn (Sc2 elt t0 i0 t1 i1 f0 f1 scope pos) 0 it acc env = (do
      standAt i0.pos
      match ← pyNext it with
      | none => pure (.done .next)
      | some v =>
        letOwnedTupleGo t0 it v
        assign t0 env v
        let mut ok := true
        for c in f0 do
          if ok then ok ← isTrue c env (eval c env)
        if ok then
          let x ← eval i1 env
          standAt i1.pos
          let x ← foldedSetIterable i1 env x
          let _ ← runOwn (.compStart (Sc2 elt t0 i0 t1 i1 f0 f1 scope pos) 1 (← holding [x] (pyIter x)) acc env) env
        again (.compLoop (Sc2 elt t0 i0 t1 i1 f0 f1 scope pos) 0 it acc env)) := by rfl
theorem sc2_turn1 : compTurn (Sc2 elt t0 i0 t1 i1 f0 f1 scope pos) 1 it acc env = (do
      standAt i1.pos
      match ← pyNext it with
      | none => pure (.done .next)
      | some v =>
        letOwnedTupleGo t1 it v
        assign t1 env v
        let mut ok := true
        for c in f1 do
          if ok then ok ← isTrue c env (eval c env)
        if ok then
          (do let v ← eval elt env; standAt elt.pos; let _ ← call (.builtin "set.add") [acc, v])
        again (.compLoop (Sc2 elt t0 i0 t1 i1 f0 f1 scope pos) 1 it acc env)) := by rfl
/-- the outer loop -/
theorem sc2_out (hs : ∀ x, foldedSetIterable i1 env x = pure x) (I : Nat → Shared → Prop)
    (turn : ∀ n s, I n s → wpAny (model prog w) A (pyNext it) (fun r s₁ => match r with
      | none => R (.ok .next) s₁
      | some v => wpAny (model prog w) A (letOwnedTupleGo t0 it v) (fun _ s₁' => wpAny (model prog w) A (assign t0 env v) (fun _ s₂ =>
          wpAny (model prog w) A (forIn f0 true fun c r => if r = true then do let ok ← isTrue c env (eval c env); pure (ForInStep.yield ok) else pure (ForInStep.yield r)) (fun ok s₃ =>
            if ok = true then wpAny (model prog w) A (eval i1 env) (fun x s₄ => wpAny (model prog w) A (pyIter x) (fun it1 s₅ =>
              codeAny (model prog w) A (.compStart (Sc2 elt t0 i0 t1 i1 f0 f1 scope pos) 1 it1 acc env) (fun r s' => match r with
                | .ok _ => ∃ m, m < n ∧ I m s'
                | .error _ => False) s₅) (notedBy (model prog w) A env fun e s' => R (.error e) s') s₄) (notedBy (model prog w) A env fun e s' => R (.error e) s') s₃
            else ∃ m, m < n ∧ I m s₃) (notedBy (model prog w) A env fun e s' => R (.error e) s') s₂) (notedBy (model prog w) A env fun e s' => R (.error e) s') s₁') (notedBy (model prog w) A env fun e s' => R (.error e) s') s₁) (notedBy (model prog w) A env fun e s' => R (.error e) s') s)
    (n : Nat) (h : I n s) : codeAny (model prog w) A (.compLoop (Sc2 elt t0 i0 t1 i1 f0 f1 scope pos) 0 it acc env) R s := by
  refine codeAny_loop rfl I (fun n s hI => ?_) n h
  show wpAny _ A ((compTurn (Sc2 elt t0 i0 t1 i1 f0 f1 scope pos) 0 it acc env).onRaise (fun x => do noteFrame x env; theTreesLotGoes x)) _ _ s
  refine wpAny_noted ?_
  rw [sc2_turn0]
  refine wpAny_bind (wpAny_standAt (wpAny_bind (wpAny_mono (turn n s hI) (fun r s₁ h₁ => ?_) fun _ _ h' => h')))
  cases r with
  | none => exact wpAny_pure h₁
  | some v =>
    refine wpAny_bind (wpAny_mono h₁ (fun _ s₁' h₁' => ?_) fun _ _ h' => h')
    refine wpAny_bind (wpAny_mono h₁' (fun _ s₂ h₂ => wpAny_bind (wpAny_mono h₂ (fun ok s₃ h₃ => ?_) fun _ _ h' => h')) fun _ _ h' => h')
    cases ok with
    | false => exact wpAny_pure ⟨rfl, h₃⟩
    | true =>
      refine wpAny_bind (wpAny_mono h₃ (fun x s₄ h₄ => ?_) fun _ _ h' => h')
      refine wpAny_bind (wpAny_standAt (wpAny_bind (wpAny_of_eq (hs x) (wpAny_bind (wpAny_holding (wpAny_mono h₄ (fun it1 s₅ h₅ => ?_) fun _ _ h' => h'))))))
      refine wpAny_bind (wpAny_runOwn ?_)
      rw [Around.mark_none]
      refine codeAny_mono h₅ fun r s' hr => ?_
      cases r with
      | ok f =>
        first
          | exact wpAny_pure ⟨rfl, hr⟩
          | exact wpAny_bind (wpAny_pure (wpAny_pure ⟨rfl, hr⟩))
      | error e => exact hr.elim
/-- the inner one -/
theorem sc2_in (I : Nat → Shared → Prop)
    (turn : ∀ n s, I n s → wpAny (model prog w) A (pyNext it) (fun r s₁ => match r with
      | none => R (.ok .next) s₁
      | some v => wpAny (model prog w) A (letOwnedTupleGo t1 it v) (fun _ s₁' => wpAny (model prog w) A (assign t1 env v) (fun _ s₂ =>
          wpAny (model prog w) A (forIn f1 true fun c r => if r = true then do let ok ← isTrue c env (eval c env); pure (ForInStep.yield ok) else pure (ForInStep.yield r)) (fun ok s₃ =>
            if ok = true then wpAny (model prog w) A (eval elt env) (fun x s₄ =>
              wpAny (model prog w) A (call (.builtin "set.add") [acc, x]) (fun _ s₅ => ∃ m, m < n ∧ I m s₅) (notedBy (model prog w) A env fun e s' => R (.error e) s') s₄) (notedBy (model prog w) A env fun e s' => R (.error e) s') s₃
            else ∃ m, m < n ∧ I m s₃) (notedBy (model prog w) A env fun e s' => R (.error e) s') s₂) (notedBy (model prog w) A env fun e s' => R (.error e) s') s₁') (notedBy (model prog w) A env fun e s' => R (.error e) s') s₁) (notedBy (model prog w) A env fun e s' => R (.error e) s') s)
    (n : Nat) (h : I n s) : codeAny (model prog w) A (.compLoop (Sc2 elt t0 i0 t1 i1 f0 f1 scope pos) 1 it acc env) R s := by
  refine codeAny_loop rfl I (fun n s hI => ?_) n h
  show wpAny _ A ((compTurn (Sc2 elt t0 i0 t1 i1 f0 f1 scope pos) 1 it acc env).onRaise (fun x => do noteFrame x env; theTreesLotGoes x)) _ _ s
  refine wpAny_noted ?_
  rw [sc2_turn1]
  refine wpAny_bind (wpAny_standAt (wpAny_bind (wpAny_mono (turn n s hI) (fun r s₁ h₁ => ?_) fun _ _ h' => h')))
  cases r with
  | none => exact wpAny_pure h₁
  | some v =>
    refine wpAny_bind (wpAny_mono h₁ (fun _ s₁' h₁' => ?_) fun _ _ h' => h')
    refine wpAny_bind (wpAny_mono h₁' (fun _ s₂ h₂ => wpAny_bind (wpAny_mono h₂ (fun ok s₃ h₃ => ?_) fun _ _ h' => h')) fun _ _ h' => h')
    cases ok with
    | false => exact wpAny_pure ⟨rfl, h₃⟩
    | true =>
      exact wpAny_bind (wpAny_bind (wpAny_mono h₃ (fun x s₄ h₄ => wpAny_bind (wpAny_standAt (wpAny_bind (wpAny_mono h₄ (fun _ s₅ h₅ => wpAny_pure (wpAny_pure ⟨rfl, h₅⟩)) fun _ _ h' => h')))) fun _ _ h' => h'))
theorem sc2_start (h0 : codeAny (model prog w) A (.compLoop (Sc2 elt t0 i0 t1 i1 f0 f1 scope pos) 1 it acc env) R s)
    (h : wpAny (model prog w) A (pyIter it) (fun it' s' => codeAny (model prog w) A (.compLoop (Sc2 elt t0 i0 t1 i1 f0 f1 scope pos) 1 it' acc env) R s')
      (notedBy (model prog w) A env fun x s' => R (.error x) s') s) :
    codeAny (model prog w) A (.compStart (Sc2 elt t0 i0 t1 i1 f0 f1 scope pos) 1 it acc env) R s := by
  refine codeAny_of_tree ?_
  show wpAny _ _ ((compStart (Sc2 elt t0 i0 t1 i1 f0 f1 scope pos) 1 it acc env).onRaise (fun x => do noteFrame x env; standAt theWindowsPlace)) _ _ s
  refine wpAny_notedAt ?_
  unfold compStart
  show wpAny _ _ (ask >>= _) _ _ s
  refine wpAny_bind (wpAny_askSetting (wpAny_ite ?_))
  split
  · first
      | exact wpAny_bind (wpAny_pure (wpAny_pure (And.intro rfl h0)))
      | exact wpAny_pure (And.intro rfl h0)
  · first
      | exact wpAny_bind (wpAny_rule (wpAny_bind (wpAny_standAt (wpAny_bind (wpAny_mono h (fun it' s' h' => wpAny_pure (And.intro rfl h')) fun _ _ x => x)))))
      | (refine wpAny_bind (wpAny_rule ?_); show wpAny _ _ (standAt i1.pos >>= _) _ _ s; exact wpAny_bind (wpAny_standAt (wpAny_bind (wpAny_mono h (fun it' s' h' => wpAny_pure (And.intro rfl h')) fun _ _ x => x))))
end
section
variable {X : Cx}
/-- D: the new set; vs: the block's names; vs1: those of the second target -/
def tSc2 (P : Program) (w : World) (wi : TI) (g : TG) (tt : TT) (wi1 : TI) (g1 : TG) (tt1 : TT) (te : TE) (vs vs1 : List Nat) : TE := fun σ H Q => wi σ H fun J H1 => ∀ D, H1 D = none → ∃ W : Nat → Nat → Hp → Prop, (∃ m, W 0 m (upd H1 D (SetSO P w D []))) ∧ ∀ i m H, W i m H →
  (J.stop i H ∧ Q (.ref D) H) ∨ (J.go i H ∧ ∃ Nx : Hp → Prop, (∀ H', Nx H' → ∃ m', m' < m ∧ W (i + 1) m' H') ∧ ∀ x H', J.yld i H x H' → g x (wipe σ vs) H' fun σ2 H2 => wipe σ2 vs = wipe σ vs ∧ tt σ2 H2 fun b H3 =>
    if b = true then wi1 σ2 H3 fun J1 H4 => ∃ W1 : Nat → Nat → Hp → Prop, (∃ m, W1 0 m H4) ∧ ∀ j k H, W1 j k H →
      (J1.stop j H ∧ Nx H) ∨ (J1.go j H ∧ ∃ Nx1 : Hp → Prop, (∀ H', Nx1 H' → ∃ k', k' < k ∧ W1 (j + 1) k' H') ∧ ∀ x H', J1.yld j H x H' → g1 x (wipe σ2 vs1) H' fun σ3 H5 => wipe σ3 vs1 = wipe σ2 vs1 ∧ tt1 σ3 H5 fun b H6 =>
        if b = true then te σ3 H6 fun y H7 => ∃ (z : Str) (l : List Str), y = .str z ∧ H7 D = some (SetSO P w D l) ∧ l.length + 1 < scanBound ∧ ∀ l', (∀ c, c ∈ l' ↔ c = z ∨ c ∈ l) → l'.length ≤ l.length + 1 → Nx1 (upd H7 D (SetSO P w D l')) else Nx1 H6)
    else Nx H3)
theorem sc2_core {pins : List (Addr × Obj)} {s : Shared} {σ : St} {H : Hp} {Q : VK} {elt tg iter tg1 iter1 : Expr} {ifs ifs1 : List Expr} {scope : Scope} {own : List (Str × Nat)} {vs1 : List Nat} {pos pos' : Pos} {wi wi1 : TI} {g g1 : TG} {tt tt1 : TT} {te : TE} {use : Option (Value → Sem Unit)} {Qf : Value → Shared → Prop}
    (hc : X.calm = true) (hN : X.N.Nodup) (I : Inv X pins σ H s) (hi : PI X tg iter wi) (ok : BlkOk X.N X.env.scope scope own) (hv : ∀ i ∈ vs1, i ∈ own.map (·.2))
    (hg : ∀ (s : Shared) (H : Hp) (C : Addr) (cl : List (Str × Addr)) (fp : List Addr), PG (X.blk s H scope (compEnvC scope cl C X.env) fp) tg g) (ht : ∀ (s : Shared) (H : Hp) (C : Addr) (cl : List (Str × Addr)) (fp : List Addr), PTs (X.blk s H scope (compEnvC scope cl C X.env) fp) ifs tt)
    (he : ∀ (s : Shared) (H : Hp) (C : Addr) (cl : List (Str × Addr)) (fp : List Addr), PE (X.blk s H scope (compEnvC scope cl C X.env) fp) elt te) (hs : ∀ x, foldedSetIterable iter X.env x = pure x)
    (hi1 : ∀ (s : Shared) (H : Hp) (C : Addr) (cl : List (Str × Addr)) (fp : List Addr), PI (X.blk s H scope (compEnvC scope cl C X.env) fp) tg1 iter1 wi1)
    (hg1 : ∀ (s : Shared) (H : Hp) (C : Addr) (cl : List (Str × Addr)) (fp : List Addr), PG (X.blk s H scope (compEnvC scope cl C X.env) fp) tg1 g1)
    (ht1 : ∀ (s : Shared) (H : Hp) (C : Addr) (cl : List (Str × Addr)) (fp : List Addr), PTs (X.blk s H scope (compEnvC scope cl C X.env) fp) ifs1 tt1)
    (hs1 : ∀ env x, foldedSetIterable iter1 env x = pure x)
    (h : tSc2 X.prog X.w wi g tt wi1 g1 tt1 te (own.map (·.2)) vs1 σ H Q)
    (hRR : ∀ D C s' m H', Inv X pins σ H' s' → Q (.ref D) H' → s'.heap.Ns C m → FpOk X pins H' C → compPost (model X.prog X.w) X.A X.xe use Qf (.ref D) C (.ok .next) s') :
    wpAny (model X.prog X.w) X.A (comprehension (Sc2 elt tg iter tg1 iter1 ifs ifs1 scope pos) scope X.env pos' (newSet (.type "set")) false (eval iter X.env) use) Qf X.xe s := by
  have hfree : ∀ y ∈ scope.names, y.2 = .free → ∃ c, X.env.cells.lookup y.1 = some c := fun y hy e => by
    rcases ok.free y hy e with k | k
    · exact I.ok.has _ (.inl k)
    · exact I.ok.has _ (.inr k)
  refine wpAny_comprehension_free (use := use) rfl hs (closure_ok hfree) ok.kind (fun y hy e => by rw [ok.uniq y hy, e])
    (thn (hi.run pins s σ H _ I h) fun xv s1 hx => thn hx fun itv s2 h2 => ?_)
  obtain ⟨it, fp, tn, J, H2, e, I2, T, st2, f2, q⟩ := h2
  subst e
  refine newSet_ok (newEnv_comp ?_)
  generalize hD : s2.heap.objs.size = D
  have hDn : H2 D = none := I2.hok.fresh (Nat.le_of_eq hD)
  obtain ⟨W, ⟨m0, w0⟩, turn⟩ := q D hDn
  generalize hs3 : ({ s2 with heap := s2.heap.push { cls := .type "set", dict := none, data := .set #[] 0 (.fresh 0 0 (!X.w.params.followText "set-order")) } } : Shared) = s3
  generalize hO : SetSO X.prog X.w D [] = O at w0
  have I3 : Inv X pins σ (upd H2 D O) s3 := by
    rw [← hs3, ← hO]
    refine I2.laid (t' := s2.toks) (fun b o e => Heap.get?_push_of_some _ e) (Nat.le_of_eq hD) ?_
    rw [← hD]
    exact setSO_new (setS_fresh X.prog X.w)
  have h3 : s3.heap = s2.heap.push { cls := .type "set", dict := none, data := .set #[] 0 (.fresh 0 0 (!X.w.params.followText "set-order")) } := by rw [← hs3]
  have sz : ∀ b ∈ fp, b < s2.heap.objs.size := fun b hb => by
    obtain ⟨o, e, _⟩ := T.obj _ _ st2 b hb
    exact Heap.lt_size e
  have f3 : ∀ b ∈ fp, FpOk X pins (upd H2 D O) b ∧ b < s3.heap.objs.size := fun b hb => by
    have hlt := sz b hb
    refine ⟨⟨?_, (f2 b hb).2⟩, by rw [h3, Heap.size_push]; exact Nat.lt_succ_of_lt hlt⟩
    rw [upd_ne (by rw [← hD]; exact Nat.ne_of_lt hlt)]
    exact (f2 b hb).1
  have st3 : tn 0 s3.heap := T.keep _ _ _ st2 fun b _ o e => by rw [h3]; exact Heap.get?_push_of_some _ e
  have I4 := block_start I3 ok hN f3
  generalize hcl : cellsFrom (s3.heap.objs.size + 1) scope.names (cloFrom X.env.cells scope.names []) = cl at I4
  have pg := hg s3 (upd H2 D O) s3.heap.objs.size cl fp
  have pt := ht s3 (upd H2 D O) s3.heap.objs.size cl fp
  have pe := he s3 (upd H2 D O) s3.heap.objs.size cl fp
  have pi1 := hi1 s3 (upd H2 D O) s3.heap.objs.size cl fp
  have pg1 := hg1 s3 (upd H2 D O) s3.heap.objs.size cl fp
  have pt1 := ht1 s3 (upd H2 D O) s3.heap.objs.size cl fp
  show codeAny _ _ (.compStart (Sc2 elt tg iter tg1 iter1 ifs ifs1 scope pos) 0 (.ref it) (.ref D) (compEnvC scope cl s3.heap.objs.size X.env)) (compPost (model X.prog X.w) X.A X.xe use Qf (.ref D) s3.heap.objs.size) { s3 with heap := pushCells (s3.heap.push { cls := .type "dict", data := .dict #[] }) scope.names }
  have nfp : ∀ b ∈ fp, (upd H2 D O) b = none := fun b hb => (f3 b hb).1.1
  generalize hce : compEnvC scope cl s3.heap.objs.size X.env = ce at I4 pg pt pe pi1 pg1 pt1 ⊢
  have cL : ce.locals = s3.heap.objs.size := by subst hce; rfl
  generalize hH3 : upd H2 D O = H3 at I3 I4 pg pt pe pi1 pg1 pt1 w0 nfp f3
  generalize hs4 : ({ s3 with heap := pushCells (s3.heap.push { cls := .type "dict", data := .dict #[] }) scope.names } : Shared) = s4 at I4 ⊢
  have st4 : tn 0 s4.heap := T.keep _ _ _ st3 fun b _ o e => by rw [← hs4]; exact pushCells_keeps _ _ _ _ (Heap.get?_push_of_some _ e)
  have stat : ∀ {σ' : St} {H' : Hp} {s' : Shared}, Inv (X.blk s3 H3 scope ce fp) [] σ' H' s' → (∀ b ∈ fp, H' b = none) → ∀ b ∈ fp, FpOk (X.blk s3 H3 scope ce fp) [] H' b := fun {σ' H' s'} I' hn b hb =>
    ⟨hn b hb, (I'.ok.exf b hb).1, I'.ok.exfs b hb, .inl hb, fun x c e => (I'.ok.exf b hb).2 x c e, fun p hp => absurd (show p ∈ ([] : List (Addr × Obj)) ++ [] from hp) (by simp)⟩
  have loop : codeAny (model X.prog X.w) X.A (.compLoop (Sc2 elt tg iter tg1 iter1 ifs ifs1 scope pos) 0 (.ref it) (.ref D) ce) (compPost (model X.prog X.w) X.A X.xe use Qf (.ref D) s3.heap.objs.size) s4 := by
    refine sc2_out (hs1 ce) (fun n s' => ∃ i H', Inv (X.blk s3 H3 scope ce fp) [] (wipe σ (own.map (·.2))) H' s' ∧ tn i s'.heap ∧ (∀ b ∈ fp, H' b = none) ∧ W i n H') ?_ m0 ⟨0, H3, I4, st4, nfp, w0⟩
    rintro n s5 ⟨i, H5, I5, st5, n5, w5⟩
    rcases turn i n H5 w5 with ⟨stop, qq⟩ | ⟨go, Nx, hNx, step⟩
    · refine thnF (T.done (X.blk s3 H3 scope ce fp) rfl rfl rfl hc i [] s5 _ H5 (fun _ _ => False) I5 (stat I5 n5) st5 stop) fun r s6 ⟨hr, I6⟩ => ?_
      subst hr
      have I7 : Inv X pins σ H5 s6 := I3.call' (ch := fp) I6.os I6.base I6.hok I6.bare fun b hb => ⟨(f3 b hb).1.2.2.2.1, (f3 b hb).1.2.1, (f3 b hb).1.2.2.2.2.1, (f3 b hb).1.2.2.2.2.2⟩
      have nC : H5 s3.heap.objs.size = none := by
        have z : H5 ce.locals = none := I6.free
        rw [cL] at z
        exact z
      obtain ⟨m, hn, _⟩ := I6.loc
      have hn : s6.heap.Ns ce.locals m := hn
      rw [cL] at hn
      exact hRR D s3.heap.objs.size s6 m H5 I7 qq hn (I3.fpOk (Nat.le_refl _) nC)
    · refine thnF (T.item (X.blk s3 H3 scope ce fp) rfl rfl rfl hc i [] s5 _ H5 (fun _ _ => False) I5 (stat I5 n5) st5 go) fun r s6 ⟨u, hr, h6⟩ => ?_
      subst hr
      refine thnF h6 fun _ s7 ⟨x, H7, I7, r7, y7, st7, n7⟩ => ?_
      have I7' := I7.pinned (stat I7 n7) (T.obj _ _ st7)
      refine thnF (pg.run _ s7 _ H7 x u _ I7' r7 (step x H7 y7)) fun _ s8 ⟨σ8, H8, I8, hw8, q8⟩ => ?_
      refine thnF (pt.run _ s8 σ8 H8 _ I8 q8) fun b s9 ⟨H9, I9, q9⟩ => ?_
      have fin : ∀ {σ9 : St} {s' : Shared} {H' : Hp}, Inv (X.blk s3 H3 scope ce fp) ([] ++ pinsAt fp s7.heap) σ9 H' s' → (wipe σ (own.map (·.2))).length = σ9.length → (∀ (j : Nat) v, (wipe σ (own.map (·.2)))[j]? = some (some v) → σ9[j]? = some (some v)) → Nx H' →
          ∃ m, m < n ∧ ∃ i H', Inv (X.blk s3 H3 scope ce fp) [] (wipe σ (own.map (·.2))) H' s' ∧ tn i s'.heap ∧ (∀ b ∈ fp, H' b = none) ∧ W i m H' := fun {σ9 s' H'} I' hl hk nx => by
        obtain ⟨m', hm, w'⟩ := hNx H' nx
        have pin' : ∀ b ∈ fp, ∀ o, s7.heap.get? b = some o → s'.heap.get? b = some o ∧ H' b = none := fun b hb o e =>
          let z := I'.pin (b, o) (List.mem_append_right _ (List.mem_append_right _ (mem_pinsAt hb e)))
          ⟨z.1, z.2.1⟩
        refine ⟨m', hm, i + 1, H', (I'.unpinned (pins := [])).weak hl hk, T.keep _ _ _ st7 fun b hb o e => (pin' b hb o e).1, fun b hb => ?_, w'⟩
        obtain ⟨o, e, _⟩ := T.obj _ _ st7 b hb
        exact (pin' b hb o e).2
      have hl8 : (wipe σ (own.map (·.2))).length = σ8.length := by rw [← hw8, wipe_length]
      have hk8 : ∀ (j : Nat) v, (wipe σ (own.map (·.2)))[j]? = some (some v) → σ8[j]? = some (some v) := fun j v e => by
        rw [← hw8] at e
        exact (wipe_some e).1
      have hk9 : ∀ (j : Nat) v, (wipe σ (own.map (·.2)))[j]? = some (some v) → (wipe σ8 vs1)[j]? = some (some v) := fun j v e => by
        rw [← hw8] at e
        obtain ⟨e1, e2⟩ := wipe_some e
        rw [wipe_out fun z => e2 (hv j z)]
        exact e1
      cases b with
      | false =>
        simp only [Bool.false_eq_true, if_false] at q9 ⊢
        exact fin I9 hl8 hk8 q9
      | true =>
        simp only [if_true] at q9 ⊢
        refine thnF (pi1.run _ s9 σ8 H9 _ I9 q9) fun xv s10 hx => thnF hx fun itv s11 h11 => ?_
        obtain ⟨it1, fp1, tn1, J1, H11, e1, I11, T1, st11, f11, W1, ⟨m1, w1⟩, turn1⟩ := h11
        subst e1
        have stat1 : ∀ {H' : Hp}, (∀ b ∈ fp1, H' b = none) → ∀ b ∈ fp1, FpOk (X.blk s3 H3 scope ce fp) ([] ++ pinsAt fp s7.heap) H' b := fun hn b hb => ⟨hn b hb, (f11 b hb).2⟩
        have loop1 : codeAny (model X.prog X.w) X.A (.compLoop (Sc2 elt tg iter tg1 iter1 ifs ifs1 scope pos) 1 (.ref it1) (.ref D) ce)
            (fun r s' => match r with
              | .ok _ => ∃ m, m < n ∧ ∃ i H', Inv (X.blk s3 H3 scope ce fp) [] (wipe σ (own.map (·.2))) H' s' ∧ tn i s'.heap ∧ (∀ b ∈ fp, H' b = none) ∧ W i m H'
              | .error _ => False) s11 := by
          refine sc2_in (fun k s' => ∃ j H', Inv (X.blk s3 H3 scope ce fp) ([] ++ pinsAt fp s7.heap) (wipe σ8 vs1) H' s' ∧ tn1 j s'.heap ∧ (∀ b ∈ fp1, H' b = none) ∧ W1 j k H') ?_ m1 ⟨0, H11, I11.weak (wipe_length _ _) (fun j v e => (wipe_some e).1), st11, fun b hb => (f11 b hb).1, w1⟩
          rintro k s12 ⟨j, H12, I12, st12, n12, w12⟩
          rcases turn1 j k H12 w12 with ⟨stop1, nx1⟩ | ⟨go1, Nx1, hNx1, step1⟩
          · refine thnF (T1.done (X.blk s3 H3 scope ce fp) rfl rfl rfl hc j _ s12 (wipe σ8 vs1) H12 (fun _ _ => False) I12 (stat1 n12) st12 stop1) fun r s13 ⟨hr, I13⟩ => ?_
            subst hr
            exact fin I13 (hl8.trans (wipe_length σ8 vs1).symm) hk9 nx1
          · refine thnF (T1.item (X.blk s3 H3 scope ce fp) rfl rfl rfl hc j _ s12 (wipe σ8 vs1) H12 (fun _ _ => False) I12 (stat1 n12) st12 go1) fun r s13 ⟨u1, hr, h13⟩ => ?_
            subst hr
            refine thnF h13 fun _ s14 ⟨x1, H14, I14, r14, y14, st14, n14⟩ => ?_
            have I14' := I14.pinned (stat1 n14) (T1.obj _ _ st14)
            refine thnF (pg1.run _ s14 (wipe σ8 vs1) H14 x1 u1 _ I14' r14 (step1 x1 H14 y14)) fun _ s15 ⟨σ15, H15, I15, hw15, q15⟩ => ?_
            refine thnF (pt1.run _ s15 σ15 H15 _ I15 q15) fun b1 s16 ⟨H16, I16, q16⟩ => ?_
            have fin1 : ∀ {s' : Shared} {H' : Hp}, Inv (X.blk s3 H3 scope ce fp) (([] ++ pinsAt fp s7.heap) ++ pinsAt fp1 s14.heap) σ15 H' s' → Nx1 H' → ∃ m, m < k ∧ ∃ j H', Inv (X.blk s3 H3 scope ce fp) ([] ++ pinsAt fp s7.heap) (wipe σ8 vs1) H' s' ∧ tn1 j s'.heap ∧ (∀ b ∈ fp1, H' b = none) ∧ W1 j m H' := fun {s' H'} I' nx => by
              obtain ⟨m', hm, w'⟩ := hNx1 H' nx
              have pin' : ∀ b ∈ fp1, ∀ o, s14.heap.get? b = some o → s'.heap.get? b = some o ∧ H' b = none := fun b hb o e =>
                let z := I'.pin (b, o) (List.mem_append_right _ (List.mem_append_right _ (mem_pinsAt hb e)))
                ⟨z.1, z.2.1⟩
              refine ⟨m', hm, j + 1, H', I'.unpinned.weak (by rw [← hw15, wipe_length]) (fun j v e => by rw [← hw15] at e; exact (wipe_some e).1), T1.keep _ _ _ st14 fun b hb o e => (pin' b hb o e).1, fun b hb => ?_, w'⟩
              obtain ⟨o, e, _⟩ := T1.obj _ _ st14 b hb
              exact (pin' b hb o e).2
            cases b1 with
            | false =>
              simp only [Bool.false_eq_true, if_false] at q16 ⊢
              exact fin1 I16 q16
            | true =>
              simp only [if_true] at q16 ⊢
              refine thnF (pe.run _ s16 σ15 H16 _ I16 q16) fun z s17 ⟨yv, H17, I17, r17, zt, l0, ey, hD17, hz17, nx⟩ => ?_
              subst ey
              obtain ⟨tz, rfl⟩ := r17
              exact addS_ok (X := X.blk s3 H3 scope ce fp) I17 hD17 hz17 fun s18 l' m1 m2 I18 => fin1 I18 (nx l' m1 m2)
        exact sc2_start loop1 (T1.self X.A 0 _ _ _ st11 loop1)
  exact codeAny_compStart_set loop (T.self X.A 0 _ _ _ st4 loop)
theorem pe_sc2 {elt tg iter tg1 iter1 : Expr} {ifs ifs1 : List Expr} {scope : Scope} {own : List (Str × Nat)} {vs1 : List Nat} {pos : Pos} {wi wi1 : TI} {g g1 : TG} {tt tt1 : TT} {te : TE} (hc : X.calm = true) (hN : X.N.Nodup) (hi : PI X tg iter wi) (ok : BlkOk X.N X.env.scope scope own) (hv : ∀ i ∈ vs1, i ∈ own.map (·.2))
    (hg : ∀ (s : Shared) (H : Hp) (C : Addr) (cl : List (Str × Addr)) (fp : List Addr), PG (X.blk s H scope (compEnvC scope cl C X.env) fp) tg g) (ht : ∀ (s : Shared) (H : Hp) (C : Addr) (cl : List (Str × Addr)) (fp : List Addr), PTs (X.blk s H scope (compEnvC scope cl C X.env) fp) ifs tt)
    (hi1 : ∀ (s : Shared) (H : Hp) (C : Addr) (cl : List (Str × Addr)) (fp : List Addr), PI (X.blk s H scope (compEnvC scope cl C X.env) fp) tg1 iter1 wi1)
    (hg1 : ∀ (s : Shared) (H : Hp) (C : Addr) (cl : List (Str × Addr)) (fp : List Addr), PG (X.blk s H scope (compEnvC scope cl C X.env) fp) tg1 g1) (ht1 : ∀ (s : Shared) (H : Hp) (C : Addr) (cl : List (Str × Addr)) (fp : List Addr), PTs (X.blk s H scope (compEnvC scope cl C X.env) fp) ifs1 tt1)
    (he : ∀ (s : Shared) (H : Hp) (C : Addr) (cl : List (Str × Addr)) (fp : List Addr), PE (X.blk s H scope (compEnvC scope cl C X.env) fp) elt te) (hs : ∀ x, foldedSetIterable iter X.env x = pure x := by intro _; rfl) (hs1 : ∀ env x, foldedSetIterable iter1 env x = pure x := by intro _ _; rfl) :
    PE X (Sc2 elt tg iter tg1 iter1 ifs ifs1 scope pos) (tSc2 X.prog X.w wi g tt wi1 g1 tt1 te (own.map (·.2)) vs1) := by
  refine ⟨fun pins s σ H Q I h => ?_⟩
  rw [eval_SetComp]
  refine sc2_core hc hN I hi ok hv hg ht he hs hi1 hg1 ht1 hs1 h fun D C s' m H' I' q hn f => ⟨m, hn, fun h'' sb => ?_⟩
  obtain ⟨f0, f1, f2, f3, f4, f5⟩ := f
  exact ⟨.ref D, H', I'.turned (t' := s'.toks) (fun b o hb e => (sb.2 b hb).trans e) f0 f1 f3 f4 f5, rfl, q⟩
end
end L2
end
section
set_option Elab.async false
set_option linter.all false
set_option maxRecDepth 100000
set_option maxHeartbeats 2000000
namespace L2
open PySem PySem.Spec PyProof.Rows
/-- n turns, whatever the body asks -/
theorem walk_W {J : It} {n : Nat} {G : Hp → Prop} {Y : Nat → Hp → V → Hp → Prop} (w : Walk J n G Y) {B : (Hp → Prop) → V → Hp → Prop} {H0 : Hp} {Qd : Hp → Prop} (Pv : Nat → Hp → Prop) (h0 : Pv 0 H0) (hG : ∀ i H, i ≤ n → Pv i H → G H)
    (hs : ∀ i x H H', i < n → Pv i H → Y i H x H' → B (Pv (i + 1)) x H') (hd : ∀ H, Pv n H → Qd H) :
    ∃ W : Nat → Nat → Hp → Prop, (∃ m, W 0 m H0) ∧ ∀ i m H, W i m H →
      (J.stop i H ∧ Qd H) ∨ (J.go i H ∧ ∃ Nx : Hp → Prop, (∀ H', Nx H' → ∃ m', m' < m ∧ W (i + 1) m' H') ∧ ∀ x H', J.yld i H x H' → B Nx x H') := by
  refine ⟨fun i m H => m = n - i ∧ i ≤ n ∧ Pv i H, ⟨n, by simp, Nat.zero_le _, h0⟩, ?_⟩
  rintro i m H ⟨rfl, hi, p⟩
  have q := hG i H hi p
  by_cases hlt : i < n
  · exact .inr ⟨w.goes i H hlt q, Pv (i + 1), fun H' p' => ⟨n - (i + 1), by omega, rfl, hlt, p'⟩, fun x H' y => hs i x H H' hlt p (w.yields i H x H' hlt q y)⟩
  · have e : i = n := by omega
    subst e
    exact .inl ⟨w.stops H q, hd H p⟩
theorem walk_zipT {K : PySem.W.Frag} {a b : Addr} {xs ys : List V} {n : Nat} (hn : n = min xs.length ys.length) : Walk (RZ.ItzT K a b) n (fun H => SqT K H a xs ∧ SqT K H b ys) (YPair (fun i => xs[i]?) (fun i => ys[i]?)) := by
  subst hn
  refine ⟨fun i _ hi q => ?_, fun _ q => ⟨xs, ys, q.1, q.2, by omega⟩, fun i H v H' _ q y => ?_⟩
  · have h1 : i < xs.length := by omega
    have h2 : i < ys.length := by omega
    exact ⟨xs, ys, xs[i], ys[i], q.1, q.2, by simp [h1], by simp [h2]⟩
  · obtain ⟨T, x, z, h1, h2, h3, h4, h5⟩ := y
    exact ⟨T, x, z, h1, h2, h3, h4 xs q.1, h5 ys q.2⟩
end L2
namespace Ah
open PySem PySem.Spec PyProof.Rows L2
/-! ### told_of -/
def toldW (place : Str) : List Str → List Str
  | h :: rest => (match formsL.lookup h with
    | some ps => ((rest.zip ps).filter fun (z : Str × Str) => decide (z.2 = place)).map (fun (z : Str × Str) => z.1)
    | none => [])
  | [] => []
theorem Rw.form (r : Rw) : ∃ h rest ps, r.ws = h :: rest ∧ formsL.lookup h = some ps ∧ rest.length = ps.length ∧ rest.length ≤ 3 := by
  cases r <;> exact ⟨_, _, _, rfl, (by rfl), (by rfl), Nat.le_of_ble_eq_true rfl⟩
theorem toldW_of {place h : Str} {rest ps : List Str} (e : formsL.lookup h = some ps) : toldW place (h :: rest) = ((rest.zip ps).filter fun (z : Str × Str) => decide (z.2 = place)).map (fun (z : Str × Str) => z.1) := by
  show (match formsL.lookup h with
    | some ps => ((rest.zip ps).filter fun (z : Str × Str) => decide (z.2 = place)).map (fun (z : Str × Str) => z.1)
    | none => []) = _
  rw [e]
theorem mem_take_succ {α : Type} {l : List α} {i : Nat} {x y : α} (e : l[i]? = some x) : y ∈ l.take (i + 1) ↔ y ∈ l.take i ∨ y = x := by
  rw [List.take_add_one, e, List.mem_append]
  simp
theorem kD_far {H H' : Hp} {D : Addr} {o : HO} (n : H D = none) (k : Kept [] H H') : Kept [] H (upd H' D o) := Kept.far (Kept.refl H) n k
theorem scTd : FnScope ["rows", "place", "row", "word", "at"] ["rows", "place"] (defScope sToldOf) := ⟨rfl, rfl, rfl, by decide +kernel, rfl, by decide +kernel, by decide +kernel⟩
/-- a text, its rows tuples of any kind -/
def TextW (K : PySem.W.Frag) (H : Hp) (q : Addr) (rs : List Rw) : Prop := ∃ ps : List Addr, H q = some (.tup (ps.map V.ref)) ∧ Paired (fun a r => SqT K H a ((Rw.ws r).map V.str)) ps rs
theorem TextAt.w {K : PySem.W.Frag} {H : Hp} {q : Addr} {rs : List Rw} (h : TextAt H q rs) : TextW K H q rs := by
  obtain ⟨ps, h1, h2⟩ := h
  exact ⟨ps, h1, Paired.mapP h2 fun _ _ e => .inl (.of e)⟩
def spTold (K : PySem.W.Frag) : Sp := fun vs H Q _ => ∃ (q : Addr) (rs : List Rw) (place : Str), vs = [.ref q, .str place] ∧ TextW K H q rs ∧ rs.length ≤ 1000 ∧
  ∀ (p : Addr) (bs : List Str) (H' : Hp), Kept [] H H' → H p = none → H' p = some (.lst ((bs.mergeSort leS).map V.str)) → (∀ z, z ∈ bs ↔ ∃ r ∈ rs, z ∈ toldW place (Rw.ws r)) → bs.length ≤ 3 * rs.length → bs.Nodup → Q (.ref p) H'
section
variable {P : Program} {w : World} {K : PySem.W.Frag} {mg : Str → Option Value} {base : Heap} {f d : Addr} {fd : FuncData}
theorem ok_told (F : FnP K "told_of" sToldOf f fd) (D : TF K w mg d) (B : Bl mg) : FnOk P w K mg base CX0 1 f fd ["rows", "place"] (spTold K) := by
  refine F.ok scTd (fun vs H Q E h => ?_) (fun cdv A outer s H vs Q E hr h => ?_)
  · obtain ⟨q, rs, place, rfl, _⟩ := h
    rfl
  · obtain ⟨q, rs, place, rfl, tx, hl, k⟩ := h
    obtain ⟨es, nn, kd⟩ := D.kd
    refine ⟨_, PSs.nox (pss_one (ps_ret (pe_callB (cr_sortSetS rfl hr.units) (by rfl) B.sorted_ (by decide +kernel) (pa_cons
      (pe_sc2 (own := [("row", 2), ("word", 3), ("at", 4)]) (vs1 := [3, 4]) (tt := tYes) rfl scTd.nd (pi_tup (pv 0)) (blkOk_by (N := ["rows", "place", "row", "word", "at"]) (sc := defScope sToldOf) (by decide +kernel)) (by decide)
        (fun _ _ _ _ _ => pg_name (i := 2) scTd.nd rfl (Or.inl rfl)) (fun _ _ _ _ _ => pts_nil)
        (fun _ _ _ _ _ => show PI _ _ _ (RZ.iZipA K _) from RZ.pi_zipA (by rfl) B.zip_ (pa_cons (pe_slice (show SlR _ (rSlT K) from sl_tup) (pv 2) (po_some pe_int) po_none) (pa_cons (pe_ix (show IxR _ (rIxD K w) from ix_kdict) (pe_glob (v := .ref d) (by rfl) D.at_ rfl) (pe_ix (show IxR _ (rIxT K) from ix_tup) (pv 2) pe_int (fun _ _ => rfl)) (fun _ _ => rfl)) pa_nil)))
        (fun _ _ _ _ _ => show PG _ _ (gTup K 2 _) from pg_tup rfl (pgs_cons (pg_name (i := 3) scTd.nd rfl (Or.inl rfl)) (pgs_cons (pg_name (i := 4) scTd.nd rfl (Or.inl rfl)) pgs_nil)))
        (fun _ _ _ _ _ => pts_one (pt_cmpR op_eq (pv 4) (pv 1) (nomark _)))
        (fun _ _ _ _ _ => pv 3)) pa_nil)))), ?_⟩
    obtain ⟨ps, hq, hps⟩ := tx
    refine ⟨_, rfl, q, rfl, ⟨_, .inl (.of hq)⟩, fun Dz nD => ?_⟩
    have kD : Kept [] H (upd H Dz (SetSO P w Dz [])) := (Kept.refl H).upd nD
    have fin : ∀ {Ha : Hp} {l : List Str}, Kept [] H Ha → Ha Dz = some (SetSO P w Dz l) → (∀ z, z ∈ l ↔ ∃ r ∈ rs, z ∈ toldW place (Rw.ws r)) → l.length ≤ 3 * rs.length →
        ∀ (p : Addr) (bs : List Str), Ha p = none → (∀ z, z ∈ bs ↔ z ∈ l) → bs.length = l.length → bs.Nodup → Q (.ref p) (upd Ha p (.lst ((bs.mergeSort leS).map V.str))) := fun kk _ hm hz p bs np hb hbl hnd => by
      refine k p bs _ (kk.upd np) ?_ upd_same (fun z => (hb z).trans (hm z)) (by omega) hnd
      cases e : H p with
      | none => rfl
      | some o =>
        rw [kk p o e (by simp)] at np
        cases np
    have tq : ∀ {Ha : Hp}, Kept [] H Ha → SqT K Ha q (ps.map V.ref) := fun kk => .inl (.of (kk _ _ hq (by simp)))
    refine walk_W (walk_tup (K := K) (a := q) (xs := ps.map V.ref)) (fun i Ha => ∃ l, Ha Dz = some (SetSO P w Dz l) ∧ (∀ z, z ∈ l ↔ ∃ r ∈ rs.take i, z ∈ toldW place (Rw.ws r)) ∧ l.length ≤ 3 * i ∧ Kept [] H Ha)
      ⟨[], upd_same, (fun z => by simp), by simp, kD⟩ (fun i Ha _ pv => tq pv.choose_spec.2.2.2) ?_ ?_
    · rintro i x Ha0 Ha hi ⟨l, e1, hm, hz, kk⟩ ⟨rfl, ey⟩
      refine ⟨rfl, yes_if ?_⟩
      rw [List.getElem?_map] at ey
      obtain ⟨pr, epr, rfl⟩ := Option.map_eq_some_iff.mp ey
      obtain ⟨r, er, hr1⟩ := paired_at hps epr
      obtain ⟨hd, rest, fs, ew, ef, el1, el2⟩ := Rw.form r
      obtain ⟨ap, ea1, ea2⟩ := D.val hd fs ef
      have sx : SqT K Ha pr (.str hd :: rest.map V.str) := by
        have q := sqT_kept kk hr1
        rw [ew] at q
        exact q
      refine ⟨_, rfl, 1, rfl, pr, _, rfl, sx, fun q => ?_, fun p np => ?_⟩
      · have h1 : HT.sIx (V.str hd :: rest.map V.str).length 0 (some 1) = 1 := by
          rw [show (1 : Int) = ((1 : Nat) : Int) from rfl, HT.sIx_nat, List.length_cons]
          omega
        have h2 := q.1
        rw [h1] at h2
        cases h2
      · rw [cut_tail]
        have k1 : Kept [] H (upd Ha p (.tup (rest.map V.str))) := kk.upd np
        have ndp : Dz ≠ p := ne_of_none e1 np
        refine ⟨_, rfl, pr, _, 0, .str hd, rfl, rfl, sqT_kept ((Kept.refl Ha).upd np) sx, at_of (j := 0) rfl rfl, d, hd, .ref ap, rfl, rfl, ⟨es, nn, _, kd.at_, kd.lit, ea1, rfl⟩, ?_⟩
        refine ⟨p, ap, rest.map V.str, fs.map V.str, rfl, .inr ⟨.inl (.of upd_same), ea2 _, ?_⟩⟩
        have lens : (rest.map V.str).length = rest.length ∧ (fs.map V.str).length = rest.length := ⟨List.length_map .., by rw [List.length_map, el1]⟩
        refine walk_W (walk_zipT (K := K) (a := p) (b := ap) (xs := rest.map V.str) (ys := fs.map V.str) (n := rest.length) (by omega))
          (fun j Hc => ∃ l', Hc Dz = some (SetSO P w Dz l') ∧ (∀ z, z ∈ l' ↔ z ∈ l ∨ z ∈ (((rest.zip fs).take j).filter fun (z : Str × Str) => decide (z.2 = place)).map fun (z : Str × Str) => z.1) ∧ l'.length ≤ l.length + j ∧ Kept [] H Hc ∧ Hc p = some (.tup (rest.map V.str)))
          ⟨l, by rw [upd_ne ndp]; exact e1, (fun z => by simp), by simp, k1, upd_same⟩ (fun j Hc _ pv => ⟨.inl (.of pv.choose_spec.2.2.2.2), ea2 _⟩) ?_ ?_
        · rintro j x Hc Hc' hj ⟨l', e2, hm2, hz2, kk2, ep2⟩ ⟨Tp, x1, x2, rfl, nT, rfl, g1, g2⟩
          dsimp only at g1 g2
          rw [List.getElem?_map] at g1 g2
          obtain ⟨a1, ga1, rfl⟩ := Option.map_eq_some_iff.mp g1
          obtain ⟨a2, ga2, rfl⟩ := Option.map_eq_some_iff.mp g2
          have ez : (rest.zip fs)[j]? = some (a1, a2) := List.getElem?_zip_eq_some.mpr ⟨ga1, ga2⟩
          have nd2 : Dz ≠ Tp := ne_of_none e2 nT
          refine ⟨Tp, _, rfl, .inl (.of upd_same), rfl, _, _, rfl, _, _, rfl, rfl, rfl, ?_⟩
          refine ⟨_, rfl, _, rfl, rfl, ?_⟩
          have k3 : Kept [] H (upd Hc Tp (.tup [.str a1, .str a2])) := kk2.upd nT
          by_cases hp : a2 = place
          · rw [decide_eq_true (by rw [hp])]
            refine ⟨true, rfl, iteT ⟨_, rfl, a1, l', rfl, (by rw [upd_ne nd2]; exact e2), ?_, fun l'' m1 m2 => ⟨l'', upd_same, fun z => ?_, by omega, kD_far nD k3, ?_⟩⟩⟩
            · exact Nat.lt_of_le_of_lt (show l'.length + 1 ≤ 4000 by
                have el : ps.length = rs.length := hps.length
                rw [List.length_map] at hi
                omega) (by decide)
            · rw [m1 z, hm2 z, List.take_add_one, ez]
              simp [hp, or_assoc, or_comm, or_left_comm]
            · rw [upd_ne (ne_of ep2 e2 (fun q => nomatch q)), upd_ne (ne_of_none ep2 nT)]
              exact ep2
          · rw [decide_eq_false (by intro q; exact hp (V.str.inj q))]
            refine ⟨false, rfl, iteF ⟨l', (by rw [upd_ne nd2]; exact e2), fun z => ?_, by omega, k3, ?_⟩⟩
            · rw [hm2 z, List.take_add_one, ez]
              simp [hp]
            · rw [upd_ne (ne_of_none ep2 nT)]
              exact ep2
        · rintro Hc ⟨l', e2, hm2, hz2, kk2, ep2⟩
          have et : (rest.zip fs).take rest.length = rest.zip fs := List.take_of_length_le (by rw [List.length_zip]; omega)
          rw [et] at hm2
          refine ⟨l', e2, fun z => ?_, by omega, kk2⟩
          rw [hm2, hm z]
          have et2 : toldW place (Rw.ws r) = ((rest.zip fs).filter fun (z : Str × Str) => decide (z.2 = place)).map fun (z : Str × Str) => z.1 := by
            rw [ew]
            exact toldW_of ef
          constructor
          · rintro (⟨r', hr', hz'⟩ | hz')
            · exact ⟨r', (mem_take_succ er).mpr (.inl hr'), hz'⟩
            · exact ⟨r, (mem_take_succ er).mpr (.inr rfl), by rw [et2]; exact hz'⟩
          · rintro ⟨r', hr', hz'⟩
            rcases (mem_take_succ er).mp hr' with q | q
            · exact .inl ⟨r', q, hz'⟩
            · right
              rw [q, et2] at hz'
              exact hz'
    · rintro Ha ⟨l, e1, hm, hz, kk⟩
      rw [List.length_map] at hm hz
      have el : ps.length = rs.length := hps.length
      rw [el, List.take_of_length_le (Nat.le_refl _)] at hm
      exact ⟨Dz, l, rfl, e1, fun p bs np hb hbl hnd => fin kk e1 hm (by omega) p bs np hb hbl hnd⟩
end
end Ah
end
section
set_option Elab.async false
set_option linter.all false
set_option maxRecDepth 100000
set_option maxHeartbeats 2000000
namespace Ah
open PySem PySem.Spec PyProof.Rows L2
/-! ### sayings and leads as data -/
inductive Say where
  | is (n k : Str) | has (n t m : Str) | clash
  deriving DecidableEq
def Say.ws : Say → List Str
  | .is n k => ["is", n, k] | .has n t m => ["has", n, t, m] | .clash => ["clash"]
theorem Say.inj {s t : Say} (h : s.ws = t.ws) : s = t := by
  cases s <;> cases t <;> simp [Say.ws] at h <;> first | rfl | (simp [h]) | (exact absurd h (by decide))
abbrev Lead := Say × Option Say × Say
def okW (ws : List Str) : Prop := ws.all PyData.strOk = true
/-- tuples, and what is known, stay -/
structure TK (H H' : Hp) : Prop where
  tup : ∀ b xs, H b = some (.tup xs) → H' b = some (.tup xs)
  frz : ∀ b o u, H b = some (.frz o u) → H' b = some (.frz o u)
theorem TK.refl (H : Hp) : TK H H := ⟨fun _ _ e => e, fun _ _ _ e => e⟩
theorem TK.trans {H H1 H2 : Hp} (a : TK H H1) (b : TK H1 H2) : TK H H2 := ⟨fun p x e => b.tup p x (a.tup p x e), fun p o u e => b.frz p o u (a.frz p o u e)⟩
theorem TK.of {H H' : Hp} (k : Kept [] H H') : TK H H' := ⟨fun b x e => k b _ e (by simp), fun b o u e => k b _ e (by simp)⟩
/-- what is neither a tuple nor known may be written -/
theorem TK.upd {H H' : Hp} {D : Addr} {u o : HO} (k : TK H H') (h : H' D = some u) (h1 : ∀ xs, u ≠ .tup xs) (h2 : ∀ o v, u ≠ .frz o v) : TK H (L2.upd H' D o) :=
  ⟨fun b x e => by
    have q := k.tup b x e
    rw [upd_ne (ne_of q h (fun z => h1 x z.symm))]
    exact q, fun b ob v e => by
    have q := k.frz b ob v e
    rw [upd_ne (ne_of q h (fun z => h2 ob v z.symm))]
    exact q⟩
theorem TK.updL {H H' : Hp} {D : Addr} {xs : List V} {o : HO} (k : TK H H') (h : H' D = some (.lst xs)) : TK H (L2.upd H' D o) := k.upd h (fun _ z => nomatch z) fun _ _ z => nomatch z
theorem TK.new {H H' : Hp} {D : Addr} {o : HO} (k : TK H H') (n : H' D = none) : TK H (L2.upd H' D o) :=
  ⟨fun b x e => by
    have q := k.tup b x e
    rw [upd_ne (ne_of_none q n)]
    exact q, fun b ob v e => by
    have q := k.frz b ob v e
    rw [upd_ne (ne_of_none q n)]
    exact q⟩
section
variable {K : PySem.W.Frag} {H H' : Hp} {a b : Addr} {xs ys : List V}
theorem sqT_tk (k : TK H H') (h : SqT K H a xs) : SqT K H' a xs := by
  rcases h with (h | ⟨o, h⟩) | h
  · exact .inl (.inl (k.tup _ _ h))
  · exact .inl (.inr ⟨o, k.frz _ _ _ h⟩)
  · exact .inr h
theorem sqL_kept (k : Kept [] H H') (h : SqL K H a xs) : SqL K H' a xs := by
  rcases h with (h | ⟨o, h⟩) | h
  · exact .inl (.inl (k _ _ h (by simp)))
  · exact .inl (.inr ⟨o, k _ _ h (by simp)⟩)
  · exact .inr h
end
def SayAt (K : PySem.W.Frag) (H : Hp) (v : V) (s : Say) : Prop := ∃ a, v = .ref a ∧ SqT K H a (s.ws.map V.str)
def OSayAt (K : PySem.W.Frag) (H : Hp) (v : V) : Option Say → Prop
  | none => v = .non
  | some s => SayAt K H v s
def LeadAt (K : PySem.W.Frag) (H : Hp) (v : V) (l : Lead) : Prop := ∃ q v1 v2 v3, v = .ref q ∧ H q = some (.tup [v1, v2, v3]) ∧ SayAt K H v1 l.1 ∧ OSayAt K H v2 l.2.1 ∧ SayAt K H v3 l.2.2
def LeadsAt (K : PySem.W.Frag) (H : Hp) (p : Addr) (ls : List Lead) : Prop := ∃ vs, H p = some (.lst vs) ∧ Paired (LeadAt K H) vs ls
section
variable {K : PySem.W.Frag} {H H' : Hp} {v : V}
theorem SayAt.tk {s : Say} (k : TK H H') (h : SayAt K H v s) : SayAt K H' v s := let ⟨a, e, q⟩ := h; ⟨a, e, sqT_tk k q⟩
theorem OSayAt.tk {s : Option Say} (k : TK H H') (h : OSayAt K H v s) : OSayAt K H' v s := by
  cases s with
  | none => exact h
  | some s => exact SayAt.tk k h
theorem LeadAt.tk {l : Lead} (k : TK H H') (h : LeadAt K H v l) : LeadAt K H' v l := by
  obtain ⟨q, v1, v2, v3, e, h1, h2, h3, h4⟩ := h
  exact ⟨q, v1, v2, v3, e, k.tup _ _ h1, h2.tk k, h3.tk k, h4.tk k⟩
theorem LeadsAt.kept {p : Addr} {ls : List Lead} (k : Kept [] H H') (h : LeadsAt K H p ls) : LeadsAt K H' p ls := by
  obtain ⟨vs, h1, h2⟩ := h
  exact ⟨vs, k _ _ h1 (by simp), Paired.mapP h2 fun _ _ q => q.tk (.of k)⟩
end
/-! ### tuples of texts are compared -/
theorem dpStrs {K : PySem.W.Frag} {H : Hp} : ∀ ws : List Str, DpAll K H (ws.map V.str) (ws.map PyData.str)
  | [] => .nil
  | w :: ws => .cons (.str w) (dpStrs ws)
theorem eqvStrs : ∀ xs ys : List Str, PyData.eqvAll (xs.map PyData.str) (ys.map PyData.str) = decide (xs = ys)
  | [], [] => by simp [PyData.eqvAll]
  | [], _ :: _ => by simp [PyData.eqvAll]
  | _ :: _, [] => by simp [PyData.eqvAll]
  | x :: xs, y :: ys => by
    rw [List.map_cons, List.map_cons, PyData.eqvAll, eqvStrs xs ys]
    by_cases h : x = y <;> by_cases h2 : xs = ys <;> simp [PyData.eqv, h, h2]
theorem shapedStrs {ws : List Str} (h : okW ws) : SeqAt.shaped (.tuple (ws.map PyData.str)) = true := by
  have h1 : ∀ l : List Str, l.all PyData.strOk = true → PyData.canLayAll0 (l.map PyData.str) = true := by
    intro l
    induction l with
    | nil => intro _; simp [PyData.canLayAll0]
    | cons w l ih =>
      intro h
      rw [List.all_cons, Bool.and_eq_true] at h
      rw [List.map_cons, PyData.canLayAll0, ih h.2, PyData.canLay0, h.1]
      rfl
  have h2 : ∀ l : List Str, PyData.depthAll (l.map PyData.str) = 0 := by
    intro l
    induction l with
    | nil => simp [PyData.depthAll]
    | cons w l ih => simp [PyData.depthAll, PyData.depth, ih]
  unfold SeqAt.shaped
  rw [PyData.canLay0, h1 ws h, PyData.depth, h2]
  rfl
section
variable {K : PySem.W.Frag} {H : Hp} {Q : VK}
theorem rd_eqW {a b : Addr} {xs ys : List Str} (ha : SqT K H a (xs.map V.str)) (hb : SqT K H b (ys.map V.str)) (ox : okW xs) (oy : okW ys) (q : Q (.bl (decide (xs = ys))) H) : rEqD K (.ref a) (.ref b) H Q := by
  refine ⟨_, _, .tup ha (dpStrs xs), .tup hb (dpStrs ys), shapedStrs ox, shapedStrs oy, ?_⟩
  rw [PyData.eqv, eqvStrs]
  exact q
theorem rd_neW {a b : Addr} {xs ys : List Str} (ha : SqT K H a (xs.map V.str)) (hb : SqT K H b (ys.map V.str)) (ox : okW xs) (oy : okW ys) (q : Q (.bl (!decide (xs = ys))) H) : rNeD K (.ref a) (.ref b) H Q := by
  refine ⟨_, _, .tup ha (dpStrs xs), .tup hb (dpStrs ys), shapedStrs ox, shapedStrs oy, ?_⟩
  rw [PyData.eqv, eqvStrs]
  exact q
theorem say_dec (s t : Say) : decide (s.ws = t.ws) = decide (s = t) := by
  by_cases h : s = t
  · rw [decide_eq_true h, decide_eq_true (by rw [h])]
  · rw [decide_eq_false h, decide_eq_false fun z => h (Say.inj z)]
theorem rd_eqS {v u : V} {s t : Say} (hv : SayAt K H v s) (hu : SayAt K H u t) (os : okW s.ws) (ot : okW t.ws) (q : Q (.bl (decide (s = t))) H) : rEqD K v u H Q := by
  obtain ⟨a, rfl, ha⟩ := hv
  obtain ⟨b, rfl, hb⟩ := hu
  refine rd_eqW ha hb os ot ?_
  rw [say_dec]
  exact q
theorem rd_neS {v u : V} {s : Say} {t : Option Say} (hv : SayAt K H v s) (hu : OSayAt K H u t) (os : okW s.ws) (ot : ∀ x, t = some x → okW x.ws) (q : Q (.bl (!decide (t = some s))) H) : rNeD K v u H Q := by
  obtain ⟨a, rfl, ha⟩ := hv
  cases t with
  | none =>
    obtain rfl : u = .non := hu
    refine ⟨_, _, .tup ha (dpStrs _), .non, shapedStrs os, rfl, ?_⟩
    have e : PyData.eqv (.tuple (s.ws.map PyData.str)) .none = false := by simp [PyData.eqv]
    rw [e]
    exact q
  | some t =>
    obtain ⟨b, rfl, hb⟩ := hu
    refine rd_neW ha hb os (ot t rfl) ?_
    rw [say_dec]
    have e : decide (s = t) = decide (some t = some s) := by
      by_cases h : s = t
      · rw [decide_eq_true h, decide_eq_true (by rw [h])]
      · rw [decide_eq_false h, decide_eq_false fun z => h (Option.some.inj z).symm]
    rw [e]
    exact q
end
theorem none_of {H Ha : Hp} {p : Addr} (k : Kept [] H Ha) (n : Ha p = none) : H p = none := by
  cases e : H p with
  | none => rfl
  | some o =>
    rw [k p o e (by simp)] at n
    cases n
/-! ### displays of leads -/
/-- arguments' values, from H0 on -/
def ValB (t : TA) (σ : L2.St) (H0 : Hp) (vs : List V) : Prop := ∀ H (Q : List V → Hp → Prop), Kept [] H0 H → Q vs H → t σ H Q
section
variable {K : PySem.W.Frag} {σ : L2.St} {H0 : Hp} {t : TA} {vs : List V} {i : Nat}
theorem valB_nil : ValB tNil σ H0 [] := fun _ _ _ h => h
theorem valB_str {z : Str} (h : ValB t σ H0 vs) : ValB (tCons (tC (.str z)) t) σ H0 (.str z :: vs) := fun H Q k q => h H _ k q
theorem valB_var {v : V} (e : σ[i]? = some (some v)) (h : ValB t σ H0 vs) : ValB (tCons (tVar i) t) σ H0 (v :: vs) := fun H Q k q => ⟨v, e, h H _ k q⟩
theorem valB_ix {a : Addr} {xs : List V} {c : Int} {j : Nat} {v : V} (e : σ[i]? = some (some (.ref a))) (hs : SqT K H0 a xs) (ec : c = (j : Int)) (ev : xs[j]? = some v) (h : ValB t σ H0 vs) : ValB (tCons (tOp (rIxT K) (tVar i) (tC (.int c))) t) σ H0 (v :: vs) :=
  fun H Q k q => ⟨_, e, a, xs, c, v, rfl, rfl, sqT_tk (.of k) hs, at_of ec ev, h H _ k q⟩
/-- a saying, or None -/
def MkV (K : PySem.W.Frag) (te : TE) (σ : L2.St) (H0 : Hp) (os : Option Say) : Prop := ∀ H (Q : VK), Kept [] H0 H → (∀ v H', Kept [] H H' → OSayAt K H' v os → Q v H') → te σ H Q
theorem mk_var {v : V} {os : Option Say} (e : σ[i]? = some (some v)) (h : OSayAt K H0 v os) : MkV K (tVar i) σ H0 os := fun H Q k q => ⟨v, e, q v H (Kept.refl H) (h.tk (.of k))⟩
theorem mk_non : MkV K (tC .non) σ H0 none := fun H Q k q => q _ H (Kept.refl H) rfl
theorem mk_glob {c : Addr} {s : Say} (h : ∀ H, SqT K H c (s.ws.map V.str)) : MkV K (tC (.ref c)) σ H0 (some s) := fun H Q k q => q _ H (Kept.refl H) ⟨c, rfl, h H⟩
theorem mk_new {s : Say} (h : ValB t σ H0 (s.ws.map V.str)) : MkV K (tTup t) σ H0 (some s) := fun H Q k q => h H _ k ⟨by rw [List.length_map]; exact Nat.le_trans (show s.ws.length ≤ 10 by cases s <;> simp [Say.ws]) (by decide), fun p np =>
  q _ _ ((Kept.refl H).upd np) ⟨p, rfl, .inl (.of upd_same)⟩⟩
/-- a lead -/
def MkL (K : PySem.W.Frag) (te : TE) (σ : L2.St) (H0 : Hp) (l : Lead) : Prop := ∀ H (Q : VK), Kept [] H0 H → (∀ v H', Kept [] H H' → LeadAt K H' v l → Q v H') → te σ H Q
theorem mk_lead {e1 e2 e3 : TE} {l : Lead} (h1 : MkV K e1 σ H0 (some l.1)) (h2 : MkV K e2 σ H0 l.2.1) (h3 : MkV K e3 σ H0 (some l.2.2)) : MkL K (tTup (tCons e1 (tCons e2 (tCons e3 tNil)))) σ H0 l := fun H Q k q =>
  h1 H _ k fun v1 H1 k1 o1 => h2 H1 _ (k.trans k1) fun v2 H2 k2 o2 => h3 H2 _ ((k.trans k1).trans k2) fun v3 H3 k3 o3 => ⟨by show 3 ≤ sizeLine; decide, fun p np =>
    q _ _ (((k1.trans k2).trans k3).upd np) ⟨p, v1, v2, v3, rfl, upd_same, (o1.tk (.of (k2.trans k3))).tk (TK.new (TK.refl _) np), (o2.tk (.of k3)).tk (TK.new (TK.refl _) np), o3.tk (TK.new (TK.refl _) np)⟩⟩
/-- [lead] -/
theorem mk_one {te : TE} {l : Lead} {H : Hp} {Q : VK} (h : MkL K te σ H0 l) (k : Kept [] H0 H) (q : ∀ p H', Kept [] H H' → H p = none → LeadsAt K H' p [l] → Q (.ref p) H') : tLst (tCons te tNil) σ H Q :=
  h H _ k fun v H1 k1 o1 => ⟨by show 1 ≤ sizeLine; decide, fun p np => q p _ (k1.upd np) (none_of k1 np) ⟨[v], upd_same, .cons (o1.tk (TK.new (TK.refl _) np)) .nil⟩⟩
/-- [] -/
theorem mk_none {H : Hp} {Q : VK} (q : ∀ p H', Kept [] H H' → H p = none → LeadsAt K H' p [] → Q (.ref p) H') : tLst tNil σ H Q :=
  ⟨by show 0 ≤ sizeLine; decide, fun p np => q p _ ((Kept.refl H).upd np) np ⟨[], upd_same, .nil⟩⟩
end
end Ah
end
section
set_option Elab.async false
set_option linter.all false
set_option maxRecDepth 100000
set_option maxHeartbeats 2000000
namespace Ah
open PySem PySem.Spec PyProof.Rows L2
/-- [a lead for name in names] -/
theorem rd_lcLeads {K : PySem.W.Frag} {σ : L2.St} {H : Hp} {Q : VK} {i j : Nat} {te : TE} {vs : List Nat} {na : Addr} {ns : List Str} {f : Str → Lead} (hσ : σ[i]? = some (some (.ref na))) (hs : SqL K H na (ns.map V.str)) (hl : ns.length ≤ 1000)
    (hw : ∀ v, wipe ((wipe σ vs).set j (some v)) vs = wipe σ vs) (he : ∀ x ∈ ns, MkL K te ((wipe σ vs).set j (some (.str x))) H (f x))
    (q : ∀ p H', Kept [] H H' → H p = none → LeadsAt K H' p (ns.map f) → Q (.ref p) H') : tLc (iList K (tVar i)) (gName j) tYes te vs σ H Q := by
  refine ⟨_, hσ, na, rfl, ⟨_, hs⟩, fun D nD => ?_⟩
  refine lc_it (walk_list (K := K) (a := na) (xs := ns.map V.str)) (fun i Ha => ∃ us, Ha D = some (.lst us) ∧ Paired (LeadAt K Ha) us ((ns.take i).map f) ∧ Kept [] H Ha) ⟨[], upd_same, .nil, (Kept.refl H).upd nD⟩ (fun i Ha _ pv => sqL_kept pv.choose_spec.2.2 hs) ?_ ?_
  · rintro i x Ha0 Ha hi ⟨us, e1, r, kk⟩ ⟨rfl, ey⟩
    refine ⟨hw x, yes_if ?_⟩
    rw [List.getElem?_map] at ey
    obtain ⟨z, ez, rfl⟩ := Option.map_eq_some_iff.mp ey
    refine he z (List.mem_of_getElem? ez) Ha _ kk fun v H' k1 lv => ?_
    have lu : us.length ≤ 1000 := by
      rw [r.length, List.length_map, List.length_take]
      omega
    refine ⟨us, k1 _ _ e1 (by simp), Nat.lt_of_le_of_lt lu (by decide), us ++ [v], upd_same, ?_, kD_far nD (kk.trans k1)⟩
    have tk : TK Ha (upd H' D (.lst (us ++ [v]))) := (TK.of k1).updL (k1 _ _ e1 (by simp))
    have tk2 : TK H' (upd H' D (.lst (us ++ [v]))) := (TK.refl H').updL (k1 _ _ e1 (by simp))
    rw [List.take_add_one, ez, List.map_append]
    exact paired_app (Paired.mapP r fun _ _ q => q.tk tk) (.cons (lv.tk tk2) .nil)
  · rintro Ha ⟨us, e1, r, kk⟩
    rw [List.length_map, List.take_of_length_le (Nat.le_refl _)] at r
    exact q D Ha kk nD ⟨us, e1, r⟩
theorem gN_eq {i : Nat} {v : V} {σ : L2.St} {H : Hp} {Q : L2.St → Hp → Prop} : gName i v σ H Q = Q (σ.set i (some v)) H := rfl
/-! ### leads_on -/
def leadsOn (n t m : Str) (names : List Str) : List Lead :=
  names.map (fun x => (Say.has n t m, some (Say.has m t x), Say.has n t x)) ++ names.map (fun x => (Say.has x t n, some (Say.has n t m), Say.has x t m))
theorem scOn : FnScope ["saying", "names", "_", "one", "tie", "other", "behind", "ahead", "name"] ["saying", "names"] (defScope sLOn) := ⟨rfl, rfl, rfl, by decide +kernel, rfl, by decide +kernel, by decide +kernel⟩
/-- saying, names -/
structure ArgsL (K : PySem.W.Frag) (H : Hp) (sv : V) (na : Addr) (s : Say) (names : List Str) : Prop where
  say : SayAt K H sv s
  ns : SqL K H na (names.map V.str)
  few : names.length ≤ 1000
theorem ArgsL.kept {K : PySem.W.Frag} {H H' : Hp} {sv : V} {na : Addr} {s : Say} {names : List Str} (k : Kept [] H H') (h : ArgsL K H sv na s names) : ArgsL K H' sv na s names := ⟨h.say.tk (.of k), sqL_kept k h.ns, h.few⟩
def spOn (K : PySem.W.Frag) : Sp := fun vs H Q _ => ∃ (sv : V) (na : Addr) (n t m : Str) (names : List Str), vs = [sv, .ref na] ∧ ArgsL K H sv na (.has n t m) names ∧ ∀ p H', Kept [] H H' → H p = none → LeadsAt K H' p (leadsOn n t m names) → Q (.ref p) H'
section
variable {P : Program} {w : World} {K : PySem.W.Frag} {mg : Str → Option Value} {base : Heap} {f : Addr} {fd : FuncData}
theorem ok_lon (F : FnP K "leads_on" sLOn f fd) : FnOk P w K mg base CX0 1 f fd ["saying", "names"] (spOn K) := by
  refine F.ok scOn (fun vs H Q E h => ?_) (fun cdv A outer s H vs Q E hr h => ?_)
  · obtain ⟨sv, na, n, t, m, names, rfl, _⟩ := h
    rfl
  · obtain ⟨sv, na, n, t, m, names, rfl, ⟨hsay, hns, hfew⟩, k⟩ := h
    refine ⟨_, PSs.nox (pss_cons (ps_asg (pv 0) (pg_tup rfl (pgs_cons (pg_name (i := 2) scOn.nd rfl (Or.inl rfl)) (pgs_cons (pg_name (i := 3) scOn.nd rfl (Or.inr rfl)) (pgs_cons (pg_name (i := 4) scOn.nd rfl (Or.inr rfl)) (pgs_cons (pg_name (i := 5) scOn.nd rfl (Or.inr rfl)) pgs_nil))))))
      (pss_cons (ps_setLc (i := 6) (own := [("name", 8)]) rfl scOn.nd rfl rfl (sw_true rfl rfl rfl (by decide +kernel)) (pi_list (pv 1)) (blkOk_by (N := ["saying", "names", "_", "one", "tie", "other", "behind", "ahead", "name"]) (sc := defScope sLOn) (by decide +kernel)) (fun _ _ _ _ _ => (pg_name (i := 8) scOn.nd rfl (Or.inl rfl))) (fun _ _ _ _ _ => pts_nil) (fun _ _ _ _ _ => (pe_tup (pa_cons (pv 0) (pa_cons (pe_tup (pa_cons pe_str (pa_cons (pv 5) (pa_cons (pv 4) (pa_cons (pv 8) pa_nil))))) (pa_cons (pe_tup (pa_cons pe_str (pa_cons (pv 3) (pa_cons (pv 4) (pa_cons (pv 8) pa_nil))))) pa_nil))))))
      (pss_cons (ps_setLc (i := 7) (own := [("name", 8)]) rfl scOn.nd rfl rfl (sw_true rfl rfl rfl (by decide +kernel)) (pi_list (pv 1)) (blkOk_by (N := ["saying", "names", "_", "one", "tie", "other", "behind", "ahead", "name"]) (sc := defScope sLOn) (by decide +kernel)) (fun _ _ _ _ _ => (pg_name (i := 8) scOn.nd rfl (Or.inl rfl))) (fun _ _ _ _ _ => pts_nil) (fun _ _ _ _ _ => (pe_tup (pa_cons (pe_tup (pa_cons pe_str (pa_cons (pv 8) (pa_cons (pv 4) (pa_cons (pv 3) pa_nil))))) (pa_cons (pv 0) (pa_cons (pe_tup (pa_cons pe_str (pa_cons (pv 8) (pa_cons (pv 4) (pa_cons (pv 5) pa_nil))))) pa_nil))))))
      (pss_one (ps_ret (pe_op op_cat (pv 6) (pv 7)))))) ), ?_⟩
    obtain ⟨sa, rfl, hsa⟩ := id hsay
    refine ⟨_, rfl, sa, _, rfl, hsa, rfl, ?_⟩
    refine ⟨_, _, rfl, _, _, rfl, _, _, rfl, _, _, rfl, rfl, ?_⟩
    dsimp only
    unfold tSeq tAsg
    dsimp only
    refine rd_lcLeads (f := fun x => (Say.has n t m, some (Say.has m t x), Say.has n t x)) rfl hns hfew (fun _ => rfl) (fun x hx => by exact mk_lead (mk_var rfl hsay) (mk_new (valB_str (valB_var rfl (valB_var rfl (valB_var rfl valB_nil))))) (mk_new (valB_str (valB_var rfl (valB_var rfl (valB_var rfl valB_nil)))))) fun p1 H1 k1 _ l1 => ?_
    rw [gN_eq]
    refine rd_lcLeads (f := fun x => (Say.has x t n, some (Say.has n t m), Say.has x t m)) rfl (sqL_kept k1 hns) hfew (fun _ => rfl) (fun x hx => by exact mk_lead (mk_new (valB_str (valB_var rfl (valB_var rfl (valB_var rfl valB_nil))))) (mk_var rfl (SayAt.tk (.of k1) hsay)) (mk_new (valB_str (valB_var rfl (valB_var rfl (valB_var rfl valB_nil)))))) fun p2 H2 k2 _ l2 => ?_
    obtain ⟨us1, e1, r1⟩ := l1.kept k2
    obtain ⟨us2, e2, r2⟩ := l2
    have z1 : us1.length = names.length := by rw [r1.length, List.length_map]
    have z2 : us2.length = names.length := by rw [r2.length, List.length_map]
    refine ⟨_, rfl, _, rfl, p1, p2, us1, us2, rfl, rfl, e1, e2, Nat.le_trans (show us1.length + us2.length ≤ 2000 by omega) (by decide), fun p np => ?_⟩
    have tk : TK H2 (upd H2 p (.lst (us1 ++ us2))) := (TK.refl H2).new np
    exact k p _ ((k1.trans k2).upd np) (none_of (k1.trans k2) np) ⟨us1 ++ us2, upd_same, paired_app (Paired.mapP r1 fun _ _ q => q.tk tk) (Paired.mapP r2 fun _ _ q => q.tk tk)⟩
end
end Ah
end
section
set_option Elab.async false
set_option linter.all false
set_option maxRecDepth 100000
set_option maxHeartbeats 4000000
namespace Ah
open PySem PySem.Spec PyProof.Rows L2
theorem if_no {p : Prop} [Decidable p] {A B : Prop} (h : ¬ p) (q : B) : if decide p = true then A else B := by rw [decide_eq_false h]; exact iteF q
theorem if_yes {p : Prop} [Decidable p] {A B : Prop} (h : p) (q : A) : if decide p = true then A else B := by rw [decide_eq_true h]; exact iteT q
theorem if_dec {p : Prop} [Decidable p] {A B : Prop} (h1 : p → A) (h2 : ¬ p → B) : if decide p = true then A else B := by
  by_cases h : p
  · exact if_yes h (h1 h)
  · exact if_no h (h2 h)
theorem okW_tail {w : Str} {ws : List Str} (h : okW (w :: ws)) : okW ws := by
  unfold okW at h ⊢
  rw [List.all_cons, Bool.and_eq_true] at h
  exact h.2
/-- row[1:] -/
theorem rd_tail {K : PySem.W.Frag} {σ : L2.St} {H : Hp} {Q : VK} {i : Nat} {ra : Addr} {h : V} {rest : List V} (hσ : σ[i]? = some (some (.ref ra))) (hr : SqT K H ra (h :: rest)) (q : ∀ p, H p = none → Q (.ref p) (upd H p (.tup rest))) :
    tSl (rSlT K) (tVar i) (tPart (tC (.int 1))) tNoPart σ H Q := by
  refine ⟨_, hσ, 1, rfl, ra, _, rfl, hr, fun z => ?_, fun p np => ?_⟩
  · have h1 : HT.sIx (h :: rest).length 0 (some 1) = 1 := by
      rw [show (1 : Int) = ((1 : Nat) : Int) from rfl, HT.sIx_nat, List.length_cons]
      omega
    have h2 := z.1
    rw [h1] at h2
    cases h2
  · rw [cut_tail]
    exact q p np
theorem mk_if {K : PySem.W.Frag} {σ : L2.St} {H0 : Hp} {tt : TT} {ta tb : TE} {os : Option Say} {b : Bool} (ht : ∀ H (Q : Bool → Hp → Prop), Kept [] H0 H → Q b H → tt σ H Q) (ha : b = true → MkV K ta σ H0 os) (hb : b = false → MkV K tb σ H0 os) : MkV K (tIf tt ta tb) σ H0 os := by
  intro H Q k q
  refine ht H _ k ?_
  cases b with
  | true => exact iteT (ha rfl H Q k q)
  | false => exact iteF (hb rfl H Q k q)
theorem mk_ifEq {K : PySem.W.Frag} {σ : L2.St} {H0 : Hp} {ta tb : TE} {os : Option Say} {i j : Nat} {x y : Str} (hi : σ[i]? = some (some (.str x))) (hj : σ[j]? = some (some (.str y))) (ha : x = y → MkV K ta σ H0 os) (hb : ¬ x = y → MkV K tb σ H0 os) :
    MkV K (tIf (tTest (tOp rEq (tVar i) (tVar j))) ta tb) σ H0 os := by
  refine mk_if (b := decide (x = y)) (fun H Q _ q => ⟨_, hi, _, hj, rfl, _, rfl, ?_⟩) (fun h => ha (of_decide_eq_true h)) fun h => hb (of_decide_eq_false h)
  have e : decide (V.str x = V.str y) = decide (x = y) := by
    by_cases h : x = y
    · rw [decide_eq_true h, decide_eq_true (by rw [h])]
    · rw [decide_eq_false h, decide_eq_false fun z => h (V.str.inj z)]
  rw [e]
  exact q
/-! ### leads_from_kind -/
def leadsKind (r : Rw) (n k : Str) (names : List Str) : List Lead :=
  match r with
  | .isnt n' k' => if [n', k'] = [n, k] then [(.is n k, none, .clash)] else []
  | .no k1 k2 => if k ∈ [k1, k2] then [(.is n k, if (if k1 = k then k2 else k1) = k then none else some (.is n (if k1 = k then k2 else k1)), .clash)] else []
  | .all k1 l => if k1 = k then [(.is n k, none, .is n l)] else []
  | .each k1 t m => if k1 = k then [(.is n k, none, .has n t m)] else []
  | .who t k1 l => if k1 = k then names.map (fun x => (Say.has x t n, some (Say.is n k), Say.is x l)) else []
  | _ => []
theorem scLK : FnScope ["row", "saying", "names", "_", "one", "kind", "word", "other", "name"] ["row", "saying", "names"] (defScope sLKind) := ⟨rfl, rfl, rfl, by decide +kernel, rfl, by decide +kernel, by decide +kernel⟩
def RowAt (K : PySem.W.Frag) (H : Hp) (ra : Addr) (r : Rw) : Prop := SqT K H ra (r.ws.map V.str)
def spLK (K : PySem.W.Frag) : Sp := fun vs H Q _ => ∃ (ra : Addr) (sv : V) (na : Addr) (r : Rw) (n k : Str) (names : List Str), vs = [.ref ra, sv, .ref na] ∧ RowAt K H ra r ∧ okW r.ws ∧ okW (Say.is n k).ws ∧ ArgsL K H sv na (.is n k) names ∧
  ∀ p H', Kept [] H H' → H p = none → LeadsAt K H' p (leadsKind r n k names) → Q (.ref p) H'
structure TClash (K : PySem.W.Frag) (mg : Str → Option Value) (cl : Addr) : Prop where
  g : mg "CLASH" = some (.ref cl)
  val : ∀ H, SqT K H cl ((Say.clash).ws.map V.str)
section
variable {P : Program} {w : World} {K : PySem.W.Frag} {mg : Str → Option Value} {base : Heap} {f cl : Addr} {fd : FuncData}
theorem ok_lkind (F : FnP K "leads_from_kind" sLKind f fd) (C : TClash K mg cl) : FnOk P w K mg base CX0 1 f fd ["row", "saying", "names"] (spLK K) := by
  refine F.ok scLK (fun vs H Q E h => ?_) (fun cdv A outer s H vs Q E hr h => ?_)
  · obtain ⟨ra, sv, na, r, n, k, names, rfl, _⟩ := h
    rfl
  · obtain ⟨ra, sv, na, r, n, k, names, rfl, hrow, okr, oks, ⟨hsay, hns, hfew⟩, q⟩ := h
    have gCl := C.g
    refine ⟨_, PSs.nox (pss_cons (ps_asg (pv 1) (pg_tup rfl (pgs_cons (pg_name (i := 3) scLK.nd rfl (Or.inl rfl)) (pgs_cons (pg_name (i := 4) scLK.nd rfl (Or.inr rfl)) (pgs_cons (pg_name (i := 5) scLK.nd rfl (Or.inl rfl)) pgs_nil)))))
      (pss_cons (ps_set (i := 6) scLK.nd rfl (.inl rfl) (pe_ix ix_tup (pv 0) pe_int (fun _ _ => rfl)))
      (pss_cons (ps_if (PW.pt (pw_and (pt_cmpR op_eq (pv 6) pe_str (nomark _)) (pw_and1 (pt_cmpR (op_eqD hr.units) (pe_slice sl_tup (pv 0) (po_some pe_int) po_none) (pe_tup (pa_cons (pv 4) (pa_cons (pv 5) pa_nil))) (nomark _))))) (pss_one (ps_ret (pe_lst (pa_cons (pe_tup (pa_cons (pv 1) (pa_cons pe_non (pa_cons (pe_glob (v := .ref cl) (by rfl) gCl rfl) pa_nil)))) pa_nil)))) pss_nil)
      (pss_cons (ps_if (PW.pt (pw_and (pt_cmpR op_eq (pv 6) pe_str (nomark _)) (pw_and1 (pt_cmpR op_in_seq (pv 5) (pe_slice sl_tup (pv 0) (po_some pe_int) po_none) (by rfl))))) (pss_cons (ps_set (i := 7) scLK.nd rfl (.inl rfl) (pe_ifExp (pt_cmpR op_eq (pe_ix ix_tup (pv 0) pe_int (fun _ _ => rfl)) (pv 5) (nomark _)) (pe_ix ix_tup (pv 0) pe_int (fun _ _ => rfl)) (pe_ix ix_tup (pv 0) pe_int (fun _ _ => rfl))))
      (pss_one (ps_ret (pe_lst (pa_cons (pe_tup (pa_cons (pv 1) (pa_cons (pe_ifExp (pt_cmpR op_eq (pv 7) (pv 5) (nomark _)) pe_non (pe_tup (pa_cons pe_str (pa_cons (pv 4) (pa_cons (pv 7) pa_nil))))) (pa_cons (pe_glob (v := .ref cl) (by rfl) gCl rfl) pa_nil)))) pa_nil))))) pss_nil)
      (pss_cons (ps_if (PW.pt (pw_and (pt_cmpR op_eq (pv 6) pe_str (nomark _)) (pw_and1 (pt_cmpR op_eq (pe_ix ix_tup (pv 0) pe_int (fun _ _ => rfl)) (pv 5) (nomark _))))) (pss_one (ps_ret (pe_lst (pa_cons (pe_tup (pa_cons (pv 1) (pa_cons pe_non (pa_cons (pe_tup (pa_cons pe_str (pa_cons (pv 4) (pa_cons (pe_ix ix_tup (pv 0) pe_int (fun _ _ => rfl)) pa_nil)))) pa_nil)))) pa_nil)))) pss_nil)
      (pss_cons (ps_if (PW.pt (pw_and (pt_cmpR op_eq (pv 6) pe_str (nomark _)) (pw_and1 (pt_cmpR op_eq (pe_ix ix_tup (pv 0) pe_int (fun _ _ => rfl)) (pv 5) (nomark _))))) (pss_one (ps_ret (pe_lst (pa_cons (pe_tup (pa_cons (pv 1) (pa_cons pe_non (pa_cons (pe_tup (pa_cons pe_str (pa_cons (pv 4) (pa_cons (pe_ix ix_tup (pv 0) pe_int (fun _ _ => rfl)) (pa_cons (pe_ix ix_tup (pv 0) pe_int (fun _ _ => rfl)) pa_nil))))) pa_nil)))) pa_nil)))) pss_nil)
      (pss_cons (ps_if (PW.pt (pw_and (pt_cmpR op_eq (pv 6) pe_str (nomark _)) (pw_and1 (pt_cmpR op_eq (pe_ix ix_tup (pv 0) pe_int (fun _ _ => rfl)) (pv 5) (nomark _))))) (pss_one (ps_ret (pe_lc (own := [("name", 8)]) rfl scLK.nd (pi_list (pv 2)) (blkOk_by (N := ["row", "saying", "names", "_", "one", "kind", "word", "other", "name"]) (sc := defScope sLKind) (by decide +kernel)) (fun _ _ _ _ _ => (pg_name (i := 8) scLK.nd rfl (Or.inl rfl))) (fun _ _ _ _ _ => pts_nil) (fun _ _ _ _ _ => (pe_tup (pa_cons (pe_tup (pa_cons pe_str (pa_cons (pv 8) (pa_cons (pe_ix (show IxR _ (rIxT K) from ix_tup) (pv 0) pe_int (fun _ _ => rfl)) (pa_cons (pv 4) pa_nil))))) (pa_cons (pv 1) (pa_cons (pe_tup (pa_cons pe_str (pa_cons (pv 8) (pa_cons (pe_ix (show IxR _ (rIxT K) from ix_tup) (pv 0) pe_int (fun _ _ => rfl)) pa_nil)))) pa_nil)))))))) pss_nil)
      (pss_one (ps_ret (pe_lst pa_nil)))))))))), ?_⟩
    obtain ⟨sa, rfl, hsa⟩ := id hsay
    refine ⟨_, rfl, sa, _, rfl, hsa, rfl, ?_⟩
    refine ⟨_, _, rfl, _, _, rfl, _, _, rfl, rfl, ?_⟩
    unfold RowAt at hrow
    have nil : ∀ H', Kept [] H H' → leadsKind r n k names = [] → tLst tNil [] H' Q := fun H' kk e => mk_none (K := K) fun p H2 k2 n2 l2 => q p H2 (kk.trans k2) (none_of kk n2) (by rw [e]; exact l2)
    cases r with
    | is a b =>
      refine ⟨_, rfl, ra, _, 0, _, rfl, rfl, hrow, at_of (j := 0) rfl rfl, ?_⟩
      (refine ⟨_, rfl, rfl, _, rfl, if_no (by decide +kernel) (iteF ?_)⟩)
      (refine ⟨_, rfl, rfl, _, rfl, if_no (by decide +kernel) (iteF ?_)⟩)
      (refine ⟨_, rfl, rfl, _, rfl, if_no (by decide +kernel) (iteF ?_)⟩)
      (refine ⟨_, rfl, rfl, _, rfl, if_no (by decide +kernel) (iteF ?_)⟩)
      (refine ⟨_, rfl, rfl, _, rfl, if_no (by decide +kernel) (iteF ?_)⟩)
      exact nil H (Kept.refl H) rfl
    | isnt a b =>
      refine ⟨_, rfl, ra, _, 0, _, rfl, rfl, hrow, at_of (j := 0) rfl rfl, ?_⟩
      (refine ⟨_, rfl, rfl, _, rfl, if_yes (by decide +kernel) ?_⟩)
      refine rd_tail rfl hrow fun p np => ?_
      refine ⟨_, rfl, _, rfl, (by show 2 ≤ sizeLine; decide), fun p2 np2 => ?_⟩
      have k2 := ((Kept.refl (M := []) H).upd (o := .tup [V.str a, V.str b]) np).upd (o := .tup [V.str n, V.str k]) np2
      refine rd_eqW (xs := [a, b]) (ys := [n, k]) (.inl (.of (by rw [upd_ne (ne_of_none upd_same np2)]; exact upd_same))) (.inl (.of upd_same)) (okW_tail okr) (okW_tail oks) ?_
      refine ⟨_, rfl, if_dec (fun e => ?_) (fun e => ?_)⟩
      · refine mk_one (l := (.is n k, none, .clash)) (mk_lead (mk_var rfl hsay) mk_non (mk_glob C.val)) k2 fun p H2 k3 n3 l3 => q p H2 (k2.trans k3) (none_of k2 n3) ?_
        have e2 : leadsKind (.isnt a b) n k names = [(.is n k, none, .clash)] := if_pos e
        rw [e2]
        exact l3
      · (refine ⟨_, rfl, rfl, _, rfl, if_no (by decide +kernel) (iteF ?_)⟩)
        (refine ⟨_, rfl, rfl, _, rfl, if_no (by decide +kernel) (iteF ?_)⟩)
        (refine ⟨_, rfl, rfl, _, rfl, if_no (by decide +kernel) (iteF ?_)⟩)
        (refine ⟨_, rfl, rfl, _, rfl, if_no (by decide +kernel) (iteF ?_)⟩)
        exact nil _ k2 (if_neg e)
    | has a b c =>
      refine ⟨_, rfl, ra, _, 0, _, rfl, rfl, hrow, at_of (j := 0) rfl rfl, ?_⟩
      (refine ⟨_, rfl, rfl, _, rfl, if_no (by decide +kernel) (iteF ?_)⟩)
      (refine ⟨_, rfl, rfl, _, rfl, if_no (by decide +kernel) (iteF ?_)⟩)
      (refine ⟨_, rfl, rfl, _, rfl, if_no (by decide +kernel) (iteF ?_)⟩)
      (refine ⟨_, rfl, rfl, _, rfl, if_no (by decide +kernel) (iteF ?_)⟩)
      (refine ⟨_, rfl, rfl, _, rfl, if_no (by decide +kernel) (iteF ?_)⟩)
      exact nil H (Kept.refl H) rfl
    | hasnt a b c =>
      refine ⟨_, rfl, ra, _, 0, _, rfl, rfl, hrow, at_of (j := 0) rfl rfl, ?_⟩
      (refine ⟨_, rfl, rfl, _, rfl, if_no (by decide +kernel) (iteF ?_)⟩)
      (refine ⟨_, rfl, rfl, _, rfl, if_no (by decide +kernel) (iteF ?_)⟩)
      (refine ⟨_, rfl, rfl, _, rfl, if_no (by decide +kernel) (iteF ?_)⟩)
      (refine ⟨_, rfl, rfl, _, rfl, if_no (by decide +kernel) (iteF ?_)⟩)
      (refine ⟨_, rfl, rfl, _, rfl, if_no (by decide +kernel) (iteF ?_)⟩)
      exact nil H (Kept.refl H) rfl
    | all a b =>
      refine ⟨_, rfl, ra, _, 0, _, rfl, rfl, hrow, at_of (j := 0) rfl rfl, ?_⟩
      (refine ⟨_, rfl, rfl, _, rfl, if_no (by decide +kernel) (iteF ?_)⟩)
      (refine ⟨_, rfl, rfl, _, rfl, if_no (by decide +kernel) (iteF ?_)⟩)
      (refine ⟨_, rfl, rfl, _, rfl, if_yes (by decide +kernel) ?_⟩)
      refine ⟨_, rfl, ra, _, 1, _, rfl, rfl, hrow, at_of (j := 1) rfl rfl, _, rfl, rfl, ?_⟩
      refine ⟨_, rfl, if_dec (fun e => ?_) (fun e => ?_)⟩
      · have e2 : leadsKind (.all a b) n k names = [(.is n k, none, .is n b)] := if_pos (V.str.inj e)
        refine mk_one (l := (.is n k, none, .is n b)) (mk_lead (mk_var rfl hsay) mk_non (mk_new (s := .is n b) (valB_str (valB_var rfl (valB_ix rfl hrow (j := 2) rfl rfl valB_nil))))) (Kept.refl H) fun p H2 k3 n3 l3 => q p H2 k3 n3 ?_
        rw [e2]
        exact l3
      · (refine ⟨_, rfl, rfl, _, rfl, if_no (by decide +kernel) (iteF ?_)⟩)
        (refine ⟨_, rfl, rfl, _, rfl, if_no (by decide +kernel) (iteF ?_)⟩)
        exact nil H (Kept.refl H) (if_neg fun z => e (by rw [z]))
    | no a b =>
      refine ⟨_, rfl, ra, _, 0, _, rfl, rfl, hrow, at_of (j := 0) rfl rfl, ?_⟩
      (refine ⟨_, rfl, rfl, _, rfl, if_no (by decide +kernel) (iteF ?_)⟩)
      (refine ⟨_, rfl, rfl, _, rfl, if_yes (by decide +kernel) ?_⟩)
      refine ⟨_, rfl, rd_tail rfl hrow fun p np => ?_⟩
      have k1 := (Kept.refl (M := []) H).upd (o := .tup [V.str a, V.str b]) np
      refine ⟨p, _, rfl, .inr (.inl (.of upd_same)), rfl, rfl, ?_⟩
      have ei : inV (V.str k) ([a, b].map V.str) = decide (k ∈ [a, b]) := by
        show ((a == k) || ((b == k) || false)) = _
        by_cases h1 : a = k <;> by_cases h2 : b = k <;> simp [h1, h2, show ¬ k = a ↔ ¬ a = k from ⟨fun h e => h e.symm, fun h e => h e.symm⟩, Ne.symm]
      simp only [Bool.false_eq_true, if_false]
      rw [ei]
      have hrow1 := sqT_tk (TK.of k1) hrow
      refine ⟨_, rfl, if_dec (fun e => ?_) (fun e => ?_)⟩
      · have e2 : leadsKind (.no a b) n k names = [(.is n k, if (if a = k then b else a) = k then none else some (.is n (if a = k then b else a)), .clash)] := if_pos e
        rw [e2] at q
        clear e2
        refine ⟨_, rfl, ra, _, 1, _, rfl, rfl, hrow1, at_of (j := 1) rfl rfl, _, rfl, rfl, ?_⟩
        refine ⟨_, rfl, if_dec (fun e1 => ?_) (fun e1 => ?_)⟩
        · rw [if_pos (V.str.inj e1)] at q
          refine ⟨_, rfl, ra, _, 2, _, rfl, rfl, hrow1, at_of (j := 2) rfl rfl, ?_⟩
          refine mk_one (l := (.is n k, if b = k then none else some (.is n b), .clash)) (mk_lead (mk_var rfl hsay) (mk_ifEq (x := b) (y := k) rfl rfl (fun h => by rw [if_pos h]; exact mk_non) (fun h => by rw [if_neg h]; exact mk_new (s := .is n b) (valB_str (valB_var rfl (valB_var rfl valB_nil))))) (mk_glob C.val)) k1 fun p H2 k3 n3 l3 => q p H2 (k1.trans k3) (none_of k1 n3) l3
        · rw [show (if a = k then b else a) = a from if_neg fun z => e1 (by rw [z])] at q
          refine ⟨_, rfl, ra, _, 1, _, rfl, rfl, hrow1, at_of (j := 1) rfl rfl, ?_⟩
          refine mk_one (l := (.is n k, if a = k then none else some (.is n a), .clash)) (mk_lead (mk_var rfl hsay) (mk_ifEq (x := a) (y := k) rfl rfl (fun h => by rw [if_pos h]; exact mk_non) (fun h => by rw [if_neg h]; exact mk_new (s := .is n a) (valB_str (valB_var rfl (valB_var rfl valB_nil))))) (mk_glob C.val)) k1 fun p H2 k3 n3 l3 => q p H2 (k1.trans k3) (none_of k1 n3) l3
      · (refine ⟨_, rfl, rfl, _, rfl, if_no (by decide +kernel) (iteF ?_)⟩)
        (refine ⟨_, rfl, rfl, _, rfl, if_no (by decide +kernel) (iteF ?_)⟩)
        (refine ⟨_, rfl, rfl, _, rfl, if_no (by decide +kernel) (iteF ?_)⟩)
        exact nil _ k1 (if_neg e)
    | each a b c =>
      refine ⟨_, rfl, ra, _, 0, _, rfl, rfl, hrow, at_of (j := 0) rfl rfl, ?_⟩
      (refine ⟨_, rfl, rfl, _, rfl, if_no (by decide +kernel) (iteF ?_)⟩)
      (refine ⟨_, rfl, rfl, _, rfl, if_no (by decide +kernel) (iteF ?_)⟩)
      (refine ⟨_, rfl, rfl, _, rfl, if_no (by decide +kernel) (iteF ?_)⟩)
      (refine ⟨_, rfl, rfl, _, rfl, if_yes (by decide +kernel) ?_⟩)
      refine ⟨_, rfl, ra, _, 1, _, rfl, rfl, hrow, at_of (j := 1) rfl rfl, _, rfl, rfl, ?_⟩
      refine ⟨_, rfl, if_dec (fun e => ?_) (fun e => ?_)⟩
      · have e2 : leadsKind (.each a b c) n k names = [(.is n k, none, .has n b c)] := if_pos (V.str.inj e)
        refine mk_one (l := (.is n k, none, .has n b c)) (mk_lead (mk_var rfl hsay) mk_non (mk_new (s := .has n b c) (valB_str (valB_var rfl (valB_ix rfl hrow (j := 2) rfl rfl (valB_ix rfl hrow (j := 3) rfl rfl valB_nil)))))) (Kept.refl H) fun p H2 k3 n3 l3 => q p H2 k3 n3 ?_
        rw [e2]
        exact l3
      · (refine ⟨_, rfl, rfl, _, rfl, if_no (by decide +kernel) (iteF ?_)⟩)
        exact nil H (Kept.refl H) (if_neg fun z => e (by rw [z]))
    | who a b c =>
      refine ⟨_, rfl, ra, _, 0, _, rfl, rfl, hrow, at_of (j := 0) rfl rfl, ?_⟩
      (refine ⟨_, rfl, rfl, _, rfl, if_no (by decide +kernel) (iteF ?_)⟩)
      (refine ⟨_, rfl, rfl, _, rfl, if_no (by decide +kernel) (iteF ?_)⟩)
      (refine ⟨_, rfl, rfl, _, rfl, if_no (by decide +kernel) (iteF ?_)⟩)
      (refine ⟨_, rfl, rfl, _, rfl, if_no (by decide +kernel) (iteF ?_)⟩)
      (refine ⟨_, rfl, rfl, _, rfl, if_yes (by decide +kernel) ?_⟩)
      refine ⟨_, rfl, ra, _, 2, _, rfl, rfl, hrow, at_of (j := 2) rfl rfl, _, rfl, rfl, ?_⟩
      refine ⟨_, rfl, if_dec (fun e => ?_) (fun e => ?_)⟩
      · have e2 : leadsKind (.who a b c) n k names = names.map (fun x => (Say.has x a n, some (Say.is n k), Say.is x c)) := if_pos (V.str.inj e)
        refine rd_lcLeads (f := fun x => (Say.has x a n, some (Say.is n k), Say.is x c)) rfl hns hfew (fun _ => rfl) (fun x hx => by exact mk_lead (mk_new (valB_str (valB_var rfl (valB_ix rfl hrow (j := 1) rfl rfl (valB_var rfl valB_nil))))) (mk_var rfl hsay) (mk_new (valB_str (valB_var rfl (valB_ix rfl hrow (j := 3) rfl rfl valB_nil))))) fun p1 H1 k1 n1 l1 => q p1 H1 k1 n1 ?_
        rw [e2]
        exact l1
      · exact nil H (Kept.refl H) (if_neg fun z => e (by rw [z]))
    | turned a b =>
      refine ⟨_, rfl, ra, _, 0, _, rfl, rfl, hrow, at_of (j := 0) rfl rfl, ?_⟩
      (refine ⟨_, rfl, rfl, _, rfl, if_no (by decide +kernel) (iteF ?_)⟩)
      (refine ⟨_, rfl, rfl, _, rfl, if_no (by decide +kernel) (iteF ?_)⟩)
      (refine ⟨_, rfl, rfl, _, rfl, if_no (by decide +kernel) (iteF ?_)⟩)
      (refine ⟨_, rfl, rfl, _, rfl, if_no (by decide +kernel) (iteF ?_)⟩)
      (refine ⟨_, rfl, rfl, _, rfl, if_no (by decide +kernel) (iteF ?_)⟩)
      exact nil H (Kept.refl H) rfl
    | on a =>
      refine ⟨_, rfl, ra, _, 0, _, rfl, rfl, hrow, at_of (j := 0) rfl rfl, ?_⟩
      (refine ⟨_, rfl, rfl, _, rfl, if_no (by decide +kernel) (iteF ?_)⟩)
      (refine ⟨_, rfl, rfl, _, rfl, if_no (by decide +kernel) (iteF ?_)⟩)
      (refine ⟨_, rfl, rfl, _, rfl, if_no (by decide +kernel) (iteF ?_)⟩)
      (refine ⟨_, rfl, rfl, _, rfl, if_no (by decide +kernel) (iteF ?_)⟩)
      (refine ⟨_, rfl, rfl, _, rfl, if_no (by decide +kernel) (iteF ?_)⟩)
      exact nil H (Kept.refl H) rfl
    | fr a b =>
      refine ⟨_, rfl, ra, _, 0, _, rfl, rfl, hrow, at_of (j := 0) rfl rfl, ?_⟩
      (refine ⟨_, rfl, rfl, _, rfl, if_no (by decide +kernel) (iteF ?_)⟩)
      (refine ⟨_, rfl, rfl, _, rfl, if_no (by decide +kernel) (iteF ?_)⟩)
      (refine ⟨_, rfl, rfl, _, rfl, if_no (by decide +kernel) (iteF ?_)⟩)
      (refine ⟨_, rfl, rfl, _, rfl, if_no (by decide +kernel) (iteF ?_)⟩)
      (refine ⟨_, rfl, rfl, _, rfl, if_no (by decide +kernel) (iteF ?_)⟩)
      exact nil H (Kept.refl H) rfl
    | to a b =>
      refine ⟨_, rfl, ra, _, 0, _, rfl, rfl, hrow, at_of (j := 0) rfl rfl, ?_⟩
      (refine ⟨_, rfl, rfl, _, rfl, if_no (by decide +kernel) (iteF ?_)⟩)
      (refine ⟨_, rfl, rfl, _, rfl, if_no (by decide +kernel) (iteF ?_)⟩)
      (refine ⟨_, rfl, rfl, _, rfl, if_no (by decide +kernel) (iteF ?_)⟩)
      (refine ⟨_, rfl, rfl, _, rfl, if_no (by decide +kernel) (iteF ?_)⟩)
      (refine ⟨_, rfl, rfl, _, rfl, if_no (by decide +kernel) (iteF ?_)⟩)
      exact nil H (Kept.refl H) rfl
    | under a b =>
      refine ⟨_, rfl, ra, _, 0, _, rfl, rfl, hrow, at_of (j := 0) rfl rfl, ?_⟩
      (refine ⟨_, rfl, rfl, _, rfl, if_no (by decide +kernel) (iteF ?_)⟩)
      (refine ⟨_, rfl, rfl, _, rfl, if_no (by decide +kernel) (iteF ?_)⟩)
      (refine ⟨_, rfl, rfl, _, rfl, if_no (by decide +kernel) (iteF ?_)⟩)
      (refine ⟨_, rfl, rfl, _, rfl, if_no (by decide +kernel) (iteF ?_)⟩)
      (refine ⟨_, rfl, rfl, _, rfl, if_no (by decide +kernel) (iteF ?_)⟩)
      exact nil H (Kept.refl H) rfl
end
end Ah
end
section
set_option Elab.async false
set_option linter.all false
set_option maxRecDepth 100000
set_option maxHeartbeats 4000000
namespace Ah
open PySem PySem.Spec PyProof.Rows L2
theorem if_nd {p : Prop} [Decidable p] {A B : Prop} (h1 : ¬ p → A) (h2 : p → B) : if (!decide p) = true then A else B := by
  by_cases h : p
  · rw [decide_eq_true h]; exact iteF (h2 h)
  · rw [decide_eq_false h]; exact iteT (h1 h)
/-! ### leads_from_tie -/
def leadsTie (r : Rw) (n t m : Str) (names : List Str) : List Lead :=
  match r with
  | .hasnt a b c => if [a, b, c] = [n, t, m] then [(.has n t m, none, .clash)] else []
  | .on a => if a = t then leadsOn n t m names else []
  | .who a k l => if a = t then [(.has n t m, some (.is m k), .is n l)] else []
  | .turned a b => if a = t then [(.has n t m, none, .has m b n)] else []
  | .under a b => if a = t then [(.has n t m, none, .has n b m)] else []
  | .fr a k => if a = t then [(.has n t m, none, .is n k)] else []
  | .to a k => if a = t then [(.has n t m, none, .is m k)] else []
  | _ => []
theorem scTi : FnScope ["row", "saying", "names", "_", "one", "tie", "other", "word"] ["row", "saying", "names"] (defScope sLTie) := ⟨rfl, rfl, rfl, by decide +kernel, rfl, by decide +kernel, by decide +kernel⟩
theorem scBy : FnScope ["row", "saying", "names"] ["row", "saying", "names"] (defScope sLBy) := ⟨rfl, rfl, rfl, by decide +kernel, rfl, by decide +kernel, by decide +kernel⟩
def spLT (K : PySem.W.Frag) : Sp := fun vs H Q _ => ∃ (ra : Addr) (sv : V) (na : Addr) (r : Rw) (n t m : Str) (names : List Str), vs = [.ref ra, sv, .ref na] ∧ RowAt K H ra r ∧ okW r.ws ∧ okW (Say.has n t m).ws ∧ ArgsL K H sv na (.has n t m) names ∧
  ∀ p H', Kept [] H H' → H p = none → LeadsAt K H' p (leadsTie r n t m names) → Q (.ref p) H'
def leadsBy (r : Rw) (s : Say) (names : List Str) : List Lead :=
  match s with
  | .is n k => leadsKind r n k names
  | .has n t m => leadsTie r n t m names
  | .clash => []
def spBy (K : PySem.W.Frag) : Sp := fun vs H Q _ => ∃ (ra : Addr) (sv : V) (na : Addr) (r : Rw) (s : Say) (names : List Str), vs = [.ref ra, sv, .ref na] ∧ RowAt K H ra r ∧ okW r.ws ∧ okW s.ws ∧ ArgsL K H sv na s names ∧
  ∀ p H', Kept [] H H' → H p = none → LeadsAt K H' p (leadsBy r s names) → Q (.ref p) H'
section
variable {P : Program} {w : World} {K : PySem.W.Frag} {mg : Str → Option Value} {base : Heap} {f cl fO fK fT : Addr} {fd fdO fdK fdT : FuncData}
theorem ok_ltie (F : FnP K "leads_from_tie" sLTie f fd) (C : TClash K mg cl) (c_leads_on : Own P w K mg base "leads_on" 1 fO fdO ["saying", "names"] (spOn K)) : FnOk P w K mg base CX0 2 f fd ["row", "saying", "names"] (spLT K) := by
  refine F.ok scTi (fun vs H Q E h => ?_) (fun cdv A outer s H vs Q E hr h => ?_)
  · obtain ⟨ra, sv, na, r, n, t, m, names, rfl, _⟩ := h
    rfl
  · obtain ⟨ra, sv, na, r, n, t, m, names, rfl, hrow, okr, oks, ⟨hsay, hns, hfew⟩, q⟩ := h
    have gCl := C.g
    refine ⟨_, PSs.nox (pss_cons (ps_asg (pv 1) (pg_tup rfl (pgs_cons (pg_name (i := 3) scTi.nd rfl (Or.inl rfl)) (pgs_cons (pg_name (i := 4) scTi.nd rfl (Or.inl rfl)) (pgs_cons (pg_name (i := 5) scTi.nd rfl (Or.inl rfl)) (pgs_cons (pg_name (i := 6) scTi.nd rfl (Or.inl rfl)) pgs_nil))))))
      (pss_cons (ps_set (i := 7) scTi.nd rfl (.inl rfl) (pe_ix ix_tup (pv 0) pe_int (fun _ _ => rfl)))
      (pss_cons (ps_if (PW.pt (pw_and (pt_cmpR op_eq (pv 7) pe_str (nomark _)) (pw_and1 (pt_cmpR (op_eqD hr.units) (pe_slice sl_tup (pv 0) (po_some pe_int) po_none) (pe_tup (pa_cons (pv 4) (pa_cons (pv 5) (pa_cons (pv 6) pa_nil)))) (nomark _))))) (pss_one (ps_ret (pe_lst (pa_cons (pe_tup (pa_cons (pv 1) (pa_cons pe_non (pa_cons (pe_glob (v := .ref cl) (by rfl) gCl rfl) pa_nil)))) pa_nil)))) pss_nil)
      (pss_cons (ps_if (pt_cmpR op_ne (pe_ix ix_tup (pv 0) pe_int (fun _ _ => rfl)) (pv 5) (nomark _)) (pss_one (ps_ret (pe_lst pa_nil))) pss_nil)
      (pss_cons (ps_if (pt_cmpR op_eq (pv 7) pe_str (nomark _)) (pss_one (ps_ret (pe_call c_leads_on.ok hr (by rfl) c_leads_on.g c_leads_on.kp c_leads_on.b .nil pass0 (pa_cons (pv 1) (pa_cons (pv 2) pa_nil))))) pss_nil)
      (pss_cons (ps_if (pt_cmpR op_eq (pv 7) pe_str (nomark _)) (pss_one (ps_ret (pe_lst (pa_cons (pe_tup (pa_cons (pv 1) (pa_cons (pe_tup (pa_cons pe_str (pa_cons (pv 6) (pa_cons (pe_ix ix_tup (pv 0) pe_int (fun _ _ => rfl)) pa_nil)))) (pa_cons (pe_tup (pa_cons pe_str (pa_cons (pv 4) (pa_cons (pe_ix ix_tup (pv 0) pe_int (fun _ _ => rfl)) pa_nil)))) pa_nil)))) pa_nil)))) pss_nil)
      (pss_cons (ps_if (pt_cmpR op_eq (pv 7) pe_str (nomark _)) (pss_one (ps_ret (pe_lst (pa_cons (pe_tup (pa_cons (pv 1) (pa_cons pe_non (pa_cons (pe_tup (pa_cons pe_str (pa_cons (pv 6) (pa_cons (pe_ix ix_tup (pv 0) pe_int (fun _ _ => rfl)) (pa_cons (pv 4) pa_nil))))) pa_nil)))) pa_nil)))) pss_nil)
      (pss_cons (ps_if (pt_cmpR op_eq (pv 7) pe_str (nomark _)) (pss_one (ps_ret (pe_lst (pa_cons (pe_tup (pa_cons (pv 1) (pa_cons pe_non (pa_cons (pe_tup (pa_cons pe_str (pa_cons (pv 4) (pa_cons (pe_ix ix_tup (pv 0) pe_int (fun _ _ => rfl)) (pa_cons (pv 6) pa_nil))))) pa_nil)))) pa_nil)))) pss_nil)
      (pss_cons (ps_if (pt_cmpR op_eq (pv 7) pe_str (nomark _)) (pss_one (ps_ret (pe_lst (pa_cons (pe_tup (pa_cons (pv 1) (pa_cons pe_non (pa_cons (pe_tup (pa_cons pe_str (pa_cons (pv 4) (pa_cons (pe_ix ix_tup (pv 0) pe_int (fun _ _ => rfl)) pa_nil)))) pa_nil)))) pa_nil)))) pss_nil)
      (pss_cons (ps_if (pt_cmpR op_eq (pv 7) pe_str (nomark _)) (pss_one (ps_ret (pe_lst (pa_cons (pe_tup (pa_cons (pv 1) (pa_cons pe_non (pa_cons (pe_tup (pa_cons pe_str (pa_cons (pv 6) (pa_cons (pe_ix ix_tup (pv 0) pe_int (fun _ _ => rfl)) pa_nil)))) pa_nil)))) pa_nil)))) pss_nil)
      (pss_one (ps_ret (pe_lst pa_nil))))))))))))), ?_⟩
    obtain ⟨sa, rfl, hsa⟩ := id hsay
    refine ⟨_, rfl, sa, _, rfl, hsa, rfl, ?_⟩
    refine ⟨_, _, rfl, _, _, rfl, _, _, rfl, _, _, rfl, rfl, ?_⟩
    unfold RowAt at hrow
    have nil : ∀ H', Kept [] H H' → leadsTie r n t m names = [] → tLst tNil [] H' Q := fun H' kk e => mk_none (K := K) fun p H2 k2 n2 l2 => q p H2 (kk.trans k2) (none_of kk n2) (by rw [e]; exact l2)
    cases r with
    | is a b =>
      refine ⟨_, rfl, ra, _, 0, _, rfl, rfl, hrow, at_of (j := 0) rfl rfl, ?_⟩
      (refine ⟨_, rfl, rfl, _, rfl, if_no (by decide +kernel) (iteF ?_)⟩)
      refine ⟨_, rfl, ra, _, 1, _, rfl, rfl, hrow, at_of (j := 1) rfl rfl, _, rfl, rfl, _, rfl, if_nd (fun e => ?_) (fun e => ?_)⟩
      · exact nil H (Kept.refl H) rfl
      · (refine ⟨_, rfl, rfl, _, rfl, if_no (by decide +kernel) ?_⟩)
        (refine ⟨_, rfl, rfl, _, rfl, if_no (by decide +kernel) ?_⟩)
        (refine ⟨_, rfl, rfl, _, rfl, if_no (by decide +kernel) ?_⟩)
        (refine ⟨_, rfl, rfl, _, rfl, if_no (by decide +kernel) ?_⟩)
        (refine ⟨_, rfl, rfl, _, rfl, if_no (by decide +kernel) ?_⟩)
        (refine ⟨_, rfl, rfl, _, rfl, if_no (by decide +kernel) ?_⟩)
        exact nil H (Kept.refl H) rfl
    | isnt a b =>
      refine ⟨_, rfl, ra, _, 0, _, rfl, rfl, hrow, at_of (j := 0) rfl rfl, ?_⟩
      (refine ⟨_, rfl, rfl, _, rfl, if_no (by decide +kernel) (iteF ?_)⟩)
      refine ⟨_, rfl, ra, _, 1, _, rfl, rfl, hrow, at_of (j := 1) rfl rfl, _, rfl, rfl, _, rfl, if_nd (fun e => ?_) (fun e => ?_)⟩
      · exact nil H (Kept.refl H) rfl
      · (refine ⟨_, rfl, rfl, _, rfl, if_no (by decide +kernel) ?_⟩)
        (refine ⟨_, rfl, rfl, _, rfl, if_no (by decide +kernel) ?_⟩)
        (refine ⟨_, rfl, rfl, _, rfl, if_no (by decide +kernel) ?_⟩)
        (refine ⟨_, rfl, rfl, _, rfl, if_no (by decide +kernel) ?_⟩)
        (refine ⟨_, rfl, rfl, _, rfl, if_no (by decide +kernel) ?_⟩)
        (refine ⟨_, rfl, rfl, _, rfl, if_no (by decide +kernel) ?_⟩)
        exact nil H (Kept.refl H) rfl
    | has a b c =>
      refine ⟨_, rfl, ra, _, 0, _, rfl, rfl, hrow, at_of (j := 0) rfl rfl, ?_⟩
      (refine ⟨_, rfl, rfl, _, rfl, if_no (by decide +kernel) (iteF ?_)⟩)
      refine ⟨_, rfl, ra, _, 1, _, rfl, rfl, hrow, at_of (j := 1) rfl rfl, _, rfl, rfl, _, rfl, if_nd (fun e => ?_) (fun e => ?_)⟩
      · exact nil H (Kept.refl H) rfl
      · (refine ⟨_, rfl, rfl, _, rfl, if_no (by decide +kernel) ?_⟩)
        (refine ⟨_, rfl, rfl, _, rfl, if_no (by decide +kernel) ?_⟩)
        (refine ⟨_, rfl, rfl, _, rfl, if_no (by decide +kernel) ?_⟩)
        (refine ⟨_, rfl, rfl, _, rfl, if_no (by decide +kernel) ?_⟩)
        (refine ⟨_, rfl, rfl, _, rfl, if_no (by decide +kernel) ?_⟩)
        (refine ⟨_, rfl, rfl, _, rfl, if_no (by decide +kernel) ?_⟩)
        exact nil H (Kept.refl H) rfl
    | hasnt a b c =>
      refine ⟨_, rfl, ra, _, 0, _, rfl, rfl, hrow, at_of (j := 0) rfl rfl, ?_⟩
      (refine ⟨_, rfl, rfl, _, rfl, if_yes (by decide +kernel) ?_⟩)
      refine rd_tail rfl hrow fun p np => ?_
      refine ⟨_, rfl, _, rfl, _, rfl, (by show 3 ≤ sizeLine; decide), fun p2 np2 => ?_⟩
      have k2 := ((Kept.refl (M := []) H).upd (o := .tup [V.str a, V.str b, V.str c]) np).upd (o := .tup [V.str n, V.str t, V.str m]) np2
      have hrow2 := sqT_tk (TK.of k2) hrow
      refine rd_eqW (xs := [a, b, c]) (ys := [n, t, m]) (.inl (.of (by rw [upd_ne (ne_of_none upd_same np2)]; exact upd_same))) (.inl (.of upd_same)) (okW_tail okr) (okW_tail oks) ?_
      refine ⟨_, rfl, if_dec (fun e => ?_) (fun e => ?_)⟩
      · have e2 : leadsTie (.hasnt a b c) n t m names = [(.has n t m, none, .clash)] := if_pos e
        rw [e2] at q
        refine mk_one (l := (.has n t m, none, .clash)) (mk_lead (mk_var rfl hsay) mk_non (mk_glob C.val)) k2 fun p H2 k3 n3 l3 => q p H2 (k2.trans k3) (none_of k2 n3) l3
      · refine ⟨_, rfl, ra, _, 1, _, rfl, rfl, hrow2, at_of (j := 1) rfl rfl, _, rfl, rfl, _, rfl, if_nd (fun e1 => ?_) (fun e1 => ?_)⟩
        · exact nil _ k2 (if_neg e)
        · (refine ⟨_, rfl, rfl, _, rfl, if_no (by decide +kernel) ?_⟩)
          (refine ⟨_, rfl, rfl, _, rfl, if_no (by decide +kernel) ?_⟩)
          (refine ⟨_, rfl, rfl, _, rfl, if_no (by decide +kernel) ?_⟩)
          (refine ⟨_, rfl, rfl, _, rfl, if_no (by decide +kernel) ?_⟩)
          (refine ⟨_, rfl, rfl, _, rfl, if_no (by decide +kernel) ?_⟩)
          (refine ⟨_, rfl, rfl, _, rfl, if_no (by decide +kernel) ?_⟩)
          exact nil _ k2 (if_neg e)
    | all a b =>
      refine ⟨_, rfl, ra, _, 0, _, rfl, rfl, hrow, at_of (j := 0) rfl rfl, ?_⟩
      (refine ⟨_, rfl, rfl, _, rfl, if_no (by decide +kernel) (iteF ?_)⟩)
      refine ⟨_, rfl, ra, _, 1, _, rfl, rfl, hrow, at_of (j := 1) rfl rfl, _, rfl, rfl, _, rfl, if_nd (fun e => ?_) (fun e => ?_)⟩
      · exact nil H (Kept.refl H) rfl
      · (refine ⟨_, rfl, rfl, _, rfl, if_no (by decide +kernel) ?_⟩)
        (refine ⟨_, rfl, rfl, _, rfl, if_no (by decide +kernel) ?_⟩)
        (refine ⟨_, rfl, rfl, _, rfl, if_no (by decide +kernel) ?_⟩)
        (refine ⟨_, rfl, rfl, _, rfl, if_no (by decide +kernel) ?_⟩)
        (refine ⟨_, rfl, rfl, _, rfl, if_no (by decide +kernel) ?_⟩)
        (refine ⟨_, rfl, rfl, _, rfl, if_no (by decide +kernel) ?_⟩)
        exact nil H (Kept.refl H) rfl
    | no a b =>
      refine ⟨_, rfl, ra, _, 0, _, rfl, rfl, hrow, at_of (j := 0) rfl rfl, ?_⟩
      (refine ⟨_, rfl, rfl, _, rfl, if_no (by decide +kernel) (iteF ?_)⟩)
      refine ⟨_, rfl, ra, _, 1, _, rfl, rfl, hrow, at_of (j := 1) rfl rfl, _, rfl, rfl, _, rfl, if_nd (fun e => ?_) (fun e => ?_)⟩
      · exact nil H (Kept.refl H) rfl
      · (refine ⟨_, rfl, rfl, _, rfl, if_no (by decide +kernel) ?_⟩)
        (refine ⟨_, rfl, rfl, _, rfl, if_no (by decide +kernel) ?_⟩)
        (refine ⟨_, rfl, rfl, _, rfl, if_no (by decide +kernel) ?_⟩)
        (refine ⟨_, rfl, rfl, _, rfl, if_no (by decide +kernel) ?_⟩)
        (refine ⟨_, rfl, rfl, _, rfl, if_no (by decide +kernel) ?_⟩)
        (refine ⟨_, rfl, rfl, _, rfl, if_no (by decide +kernel) ?_⟩)
        exact nil H (Kept.refl H) rfl
    | each a b c =>
      refine ⟨_, rfl, ra, _, 0, _, rfl, rfl, hrow, at_of (j := 0) rfl rfl, ?_⟩
      (refine ⟨_, rfl, rfl, _, rfl, if_no (by decide +kernel) (iteF ?_)⟩)
      refine ⟨_, rfl, ra, _, 1, _, rfl, rfl, hrow, at_of (j := 1) rfl rfl, _, rfl, rfl, _, rfl, if_nd (fun e => ?_) (fun e => ?_)⟩
      · exact nil H (Kept.refl H) rfl
      · (refine ⟨_, rfl, rfl, _, rfl, if_no (by decide +kernel) ?_⟩)
        (refine ⟨_, rfl, rfl, _, rfl, if_no (by decide +kernel) ?_⟩)
        (refine ⟨_, rfl, rfl, _, rfl, if_no (by decide +kernel) ?_⟩)
        (refine ⟨_, rfl, rfl, _, rfl, if_no (by decide +kernel) ?_⟩)
        (refine ⟨_, rfl, rfl, _, rfl, if_no (by decide +kernel) ?_⟩)
        (refine ⟨_, rfl, rfl, _, rfl, if_no (by decide +kernel) ?_⟩)
        exact nil H (Kept.refl H) rfl
    | who a b c =>
      refine ⟨_, rfl, ra, _, 0, _, rfl, rfl, hrow, at_of (j := 0) rfl rfl, ?_⟩
      (refine ⟨_, rfl, rfl, _, rfl, if_no (by decide +kernel) (iteF ?_)⟩)
      refine ⟨_, rfl, ra, _, 1, _, rfl, rfl, hrow, at_of (j := 1) rfl rfl, _, rfl, rfl, _, rfl, if_nd (fun e => ?_) (fun e => ?_)⟩
      · exact nil H (Kept.refl H) (if_neg fun z => e (by rw [z]))
      · have e2 : leadsTie (.who a b c) n t m names = [(.has n t m, some (.is m b), .is n c)] := if_pos (V.str.inj e)
        (refine ⟨_, rfl, rfl, _, rfl, if_no (by decide +kernel) ?_⟩)
        (refine ⟨_, rfl, rfl, _, rfl, if_yes (by decide +kernel) ?_⟩)
        rw [e2] at q
        refine mk_one (l := (.has n t m, some (.is m b), .is n c)) (mk_lead (mk_var rfl hsay) (mk_new (s := .is m b) (valB_str (valB_var rfl (valB_ix rfl hrow (j := 2) rfl rfl valB_nil)))) (mk_new (s := .is n c) (valB_str (valB_var rfl (valB_ix rfl hrow (j := 3) rfl rfl valB_nil))))) (Kept.refl H) fun p H2 k3 n3 l3 => q p H2 k3 n3 l3
    | turned a b =>
      refine ⟨_, rfl, ra, _, 0, _, rfl, rfl, hrow, at_of (j := 0) rfl rfl, ?_⟩
      (refine ⟨_, rfl, rfl, _, rfl, if_no (by decide +kernel) (iteF ?_)⟩)
      refine ⟨_, rfl, ra, _, 1, _, rfl, rfl, hrow, at_of (j := 1) rfl rfl, _, rfl, rfl, _, rfl, if_nd (fun e => ?_) (fun e => ?_)⟩
      · exact nil H (Kept.refl H) (if_neg fun z => e (by rw [z]))
      · have e2 : leadsTie (.turned a b) n t m names = [(.has n t m, none, .has m b n)] := if_pos (V.str.inj e)
        (refine ⟨_, rfl, rfl, _, rfl, if_no (by decide +kernel) ?_⟩)
        (refine ⟨_, rfl, rfl, _, rfl, if_no (by decide +kernel) ?_⟩)
        (refine ⟨_, rfl, rfl, _, rfl, if_yes (by decide +kernel) ?_⟩)
        rw [e2] at q
        refine mk_one (l := (.has n t m, none, .has m b n)) (mk_lead (mk_var rfl hsay) mk_non (mk_new (s := .has m b n) (valB_str (valB_var rfl (valB_ix rfl hrow (j := 2) rfl rfl (valB_var rfl valB_nil)))))) (Kept.refl H) fun p H2 k3 n3 l3 => q p H2 k3 n3 l3
    | on a =>
      refine ⟨_, rfl, ra, _, 0, _, rfl, rfl, hrow, at_of (j := 0) rfl rfl, ?_⟩
      (refine ⟨_, rfl, rfl, _, rfl, if_no (by decide +kernel) (iteF ?_)⟩)
      refine ⟨_, rfl, ra, _, 1, _, rfl, rfl, hrow, at_of (j := 1) rfl rfl, _, rfl, rfl, _, rfl, if_nd (fun e => ?_) (fun e => ?_)⟩
      · exact nil H (Kept.refl H) (if_neg fun z => e (by rw [z]))
      · have e2 : leadsTie (.on a) n t m names = leadsOn n t m names := if_pos (V.str.inj e)
        (refine ⟨_, rfl, rfl, _, rfl, if_yes (by decide +kernel) ?_⟩)
        rw [e2] at q
        refine ⟨_, rfl, _, rfl, _, na, n, t, m, names, rfl, ⟨hsay, hns, hfew⟩, fun p H' kk nn l => q p H' kk nn l⟩
    | fr a b =>
      refine ⟨_, rfl, ra, _, 0, _, rfl, rfl, hrow, at_of (j := 0) rfl rfl, ?_⟩
      (refine ⟨_, rfl, rfl, _, rfl, if_no (by decide +kernel) (iteF ?_)⟩)
      refine ⟨_, rfl, ra, _, 1, _, rfl, rfl, hrow, at_of (j := 1) rfl rfl, _, rfl, rfl, _, rfl, if_nd (fun e => ?_) (fun e => ?_)⟩
      · exact nil H (Kept.refl H) (if_neg fun z => e (by rw [z]))
      · have e2 : leadsTie (.fr a b) n t m names = [(.has n t m, none, .is n b)] := if_pos (V.str.inj e)
        (refine ⟨_, rfl, rfl, _, rfl, if_no (by decide +kernel) ?_⟩)
        (refine ⟨_, rfl, rfl, _, rfl, if_no (by decide +kernel) ?_⟩)
        (refine ⟨_, rfl, rfl, _, rfl, if_no (by decide +kernel) ?_⟩)
        (refine ⟨_, rfl, rfl, _, rfl, if_no (by decide +kernel) ?_⟩)
        (refine ⟨_, rfl, rfl, _, rfl, if_yes (by decide +kernel) ?_⟩)
        rw [e2] at q
        refine mk_one (l := (.has n t m, none, .is n b)) (mk_lead (mk_var rfl hsay) mk_non (mk_new (s := .is n b) (valB_str (valB_var rfl (valB_ix rfl hrow (j := 2) rfl rfl valB_nil))))) (Kept.refl H) fun p H2 k3 n3 l3 => q p H2 k3 n3 l3
    | to a b =>
      refine ⟨_, rfl, ra, _, 0, _, rfl, rfl, hrow, at_of (j := 0) rfl rfl, ?_⟩
      (refine ⟨_, rfl, rfl, _, rfl, if_no (by decide +kernel) (iteF ?_)⟩)
      refine ⟨_, rfl, ra, _, 1, _, rfl, rfl, hrow, at_of (j := 1) rfl rfl, _, rfl, rfl, _, rfl, if_nd (fun e => ?_) (fun e => ?_)⟩
      · exact nil H (Kept.refl H) (if_neg fun z => e (by rw [z]))
      · have e2 : leadsTie (.to a b) n t m names = [(.has n t m, none, .is m b)] := if_pos (V.str.inj e)
        (refine ⟨_, rfl, rfl, _, rfl, if_no (by decide +kernel) ?_⟩)
        (refine ⟨_, rfl, rfl, _, rfl, if_no (by decide +kernel) ?_⟩)
        (refine ⟨_, rfl, rfl, _, rfl, if_no (by decide +kernel) ?_⟩)
        (refine ⟨_, rfl, rfl, _, rfl, if_no (by decide +kernel) ?_⟩)
        (refine ⟨_, rfl, rfl, _, rfl, if_no (by decide +kernel) ?_⟩)
        (refine ⟨_, rfl, rfl, _, rfl, if_yes (by decide +kernel) ?_⟩)
        rw [e2] at q
        refine mk_one (l := (.has n t m, none, .is m b)) (mk_lead (mk_var rfl hsay) mk_non (mk_new (s := .is m b) (valB_str (valB_var rfl (valB_ix rfl hrow (j := 2) rfl rfl valB_nil))))) (Kept.refl H) fun p H2 k3 n3 l3 => q p H2 k3 n3 l3
    | under a b =>
      refine ⟨_, rfl, ra, _, 0, _, rfl, rfl, hrow, at_of (j := 0) rfl rfl, ?_⟩
      (refine ⟨_, rfl, rfl, _, rfl, if_no (by decide +kernel) (iteF ?_)⟩)
      refine ⟨_, rfl, ra, _, 1, _, rfl, rfl, hrow, at_of (j := 1) rfl rfl, _, rfl, rfl, _, rfl, if_nd (fun e => ?_) (fun e => ?_)⟩
      · exact nil H (Kept.refl H) (if_neg fun z => e (by rw [z]))
      · have e2 : leadsTie (.under a b) n t m names = [(.has n t m, none, .has n b m)] := if_pos (V.str.inj e)
        (refine ⟨_, rfl, rfl, _, rfl, if_no (by decide +kernel) ?_⟩)
        (refine ⟨_, rfl, rfl, _, rfl, if_no (by decide +kernel) ?_⟩)
        (refine ⟨_, rfl, rfl, _, rfl, if_no (by decide +kernel) ?_⟩)
        (refine ⟨_, rfl, rfl, _, rfl, if_yes (by decide +kernel) ?_⟩)
        rw [e2] at q
        refine mk_one (l := (.has n t m, none, .has n b m)) (mk_lead (mk_var rfl hsay) mk_non (mk_new (s := .has n b m) (valB_str (valB_var rfl (valB_ix rfl hrow (j := 2) rfl rfl (valB_var rfl valB_nil)))))) (Kept.refl H) fun p H2 k3 n3 l3 => q p H2 k3 n3 l3
theorem ok_lby (F : FnP K "leads_by" sLBy f fd) (c_leads_from_kind : Own P w K mg base "leads_from_kind" 1 fK fdK ["row", "saying", "names"] (spLK K)) (c_leads_from_tie : Own P w K mg base "leads_from_tie" 2 fT fdT ["row", "saying", "names"] (spLT K)) :
    FnOk P w K mg base CX0 3 f fd ["row", "saying", "names"] (spBy K) := by
  refine F.ok scBy (fun vs H Q E h => ?_) (fun cdv A outer s H vs Q E hr h => ?_)
  · obtain ⟨ra, sv, na, r, sy, names, rfl, _⟩ := h
    rfl
  · obtain ⟨ra, sv, na, r, sy, names, rfl, hrow, okr, oks, ⟨hsay, hns, hfew⟩, q⟩ := h
    refine ⟨_, PSs.nox (pss_cons (ps_if (pt_cmpR op_eq (pe_ix ix_tup (pv 1) pe_int (fun _ _ => rfl)) pe_str (nomark _)) (pss_one (ps_ret (pe_call c_leads_from_kind.ok (hr.mono (by decide)) (by rfl) c_leads_from_kind.g c_leads_from_kind.kp c_leads_from_kind.b .nil pass0 (pa_cons (pv 0) (pa_cons (pv 1) (pa_cons (pv 2) pa_nil)))))) pss_nil)
      (pss_cons (ps_if (pt_cmpR op_eq (pe_ix ix_tup (pv 1) pe_int (fun _ _ => rfl)) pe_str (nomark _)) (pss_one (ps_ret (pe_call c_leads_from_tie.ok hr (by rfl) c_leads_from_tie.g c_leads_from_tie.kp c_leads_from_tie.b .nil pass0 (pa_cons (pv 0) (pa_cons (pv 1) (pa_cons (pv 2) pa_nil)))))) pss_nil)
      (pss_one (ps_ret (pe_lst pa_nil))))), ?_⟩
    obtain ⟨sa, rfl, hsa⟩ := id hsay
    cases sy with
    | is n k =>
      refine ⟨_, rfl, sa, _, 0, _, rfl, rfl, hsa, at_of (j := 0) rfl rfl, rfl, _, rfl, if_yes (by decide +kernel) ?_⟩
      exact ⟨_, rfl, _, rfl, _, rfl, ra, _, na, r, n, k, names, rfl, hrow, okr, oks, ⟨hsay, hns, hfew⟩, q⟩
    | has n t m =>
      refine ⟨_, rfl, sa, _, 0, _, rfl, rfl, hsa, at_of (j := 0) rfl rfl, rfl, _, rfl, if_no (by decide +kernel) ?_⟩
      refine ⟨_, rfl, sa, _, 0, _, rfl, rfl, hsa, at_of (j := 0) rfl rfl, rfl, _, rfl, if_yes (by decide +kernel) ?_⟩
      exact ⟨_, rfl, _, rfl, _, rfl, ra, _, na, r, n, t, m, names, rfl, hrow, okr, oks, ⟨hsay, hns, hfew⟩, q⟩
    | clash =>
      refine ⟨_, rfl, sa, _, 0, _, rfl, rfl, hsa, at_of (j := 0) rfl rfl, rfl, _, rfl, if_no (by decide +kernel) ?_⟩
      refine ⟨_, rfl, sa, _, 0, _, rfl, rfl, hsa, at_of (j := 0) rfl rfl, rfl, _, rfl, if_no (by decide +kernel) ?_⟩
      exact mk_none (K := K) (σ := []) q
end
end Ah
end
section
set_option Elab.async false
set_option linter.all false
set_option maxRecDepth 100000
set_option maxHeartbeats 4000000
namespace Ah
open PySem PySem.Spec PyProof.Rows L2
open EnT
/-! ### places_of -/
def keyW (ws : List Str) : List Key := ws.map Sum.inr
theorem keyW_kV (ws : List Str) : (keyW ws).map kV = ws.map V.str := by
  unfold keyW
  rw [List.map_map]
  rfl
theorem keyW_inj : ∀ {xs ys : List Str}, keyW xs = keyW ys → xs = ys
  | [], [], _ => rfl
  | [], _ :: _, h => nomatch h
  | _ :: _, [], h => nomatch h
  | x :: xs, y :: ys, h => by
    have h' : (Sum.inr x : Key) :: keyW xs = Sum.inr y :: keyW ys := h
    injection h' with h1 h2
    rw [Sum.inr.inj h1, keyW_inj h2]
/-- the entries' own tuples are rows of rs, all rows are there -/
structure RowsE (K : PySem.W.Frag) (H : Hp) (es : List Ent) (rs : List Rw) : Prop where
  at_ : ∀ e ∈ es, ∃ r ∈ rs, e.1 = keyW (Rw.ws r) ∧ RowAt K H e.2.1 r
  all_ : ∀ r ∈ rs, ∃ e ∈ es, e.1 = keyW (Rw.ws r)
theorem RowsE.keys {K : PySem.W.Frag} {H : Hp} {es : List Ent} {rs : List Rw} (h : RowsE K H es rs) : KeysIn K H es := fun e he => by
  obtain ⟨r, _, h1, h2⟩ := h.at_ e he
  rw [h1, keyW_kV]
  exact h2
theorem RowsE.tk {K : PySem.W.Frag} {H H' : Hp} {es : List Ent} {rs : List Rw} (k : TK H H') (h : RowsE K H es rs) : RowsE K H' es rs :=
  ⟨fun e he => let ⟨r, h0, h1, h2⟩ := h.at_ e he; ⟨r, h0, h1, sqT_tk k h2⟩, h.all_⟩
theorem RowsE.put {K : PySem.W.Frag} {H : Hp} {es : List Ent} {rs : List Rw} {r : Rw} {b : Addr} {v : V} (h : RowsE K H es rs) (hb : RowAt K H b r) : RowsE K H (putE es (keyW r.ws) b v) (rs ++ [r]) := by
  constructor
  · intro e he
    rcases putE_mem he with ⟨e', h1, h2, h3, _⟩ | rfl
    · obtain ⟨r', q1, q2, q3⟩ := h.at_ e' h1
      exact ⟨r', List.mem_append_left _ q1, by rw [h2]; exact q2, by rw [h3]; exact q3⟩
    · exact ⟨r, List.mem_append_right _ (List.mem_singleton.mpr rfl), rfl, hb⟩
  · intro r' hr'
    have hk : keyW r'.ws ∈ (putE es (keyW r.ws) b v).map (·.1) := by
      rw [putE_keys]
      rcases List.mem_append.mp hr' with q | q
      · obtain ⟨e, he, e1⟩ := h.all_ r' q
        have : keyW r'.ws ∈ es.map (·.1) := List.mem_map.mpr ⟨e, he, e1⟩
        split
        · exact this
        · exact List.mem_append_left _ this
      · rw [List.mem_singleton.mp q]
        split
        · rename_i hs
          exact valE_some hs
        · exact List.mem_append_right _ (List.mem_singleton.mpr rfl)
    obtain ⟨e, he, e1⟩ := List.mem_map.mp hk
    exact ⟨e, he, e1⟩
theorem snocInd {α : Type} {P : List α → Prop} (h0 : P []) (h1 : ∀ l a, P l → P (l ++ [a])) (l : List α) : P l := by
  rw [← List.reverse_reverse l]
  induction l.reverse with
  | nil => exact h0
  | cons a t ih =>
    rw [List.reverse_cons]
    exact h1 _ _ ih
/-- the rows, each but once, in the order in which they come -/
def ddAdd (acc : List Rw) (r : Rw) : List Rw := if r ∈ acc then acc else acc ++ [r]
def dd (rs : List Rw) : List Rw := rs.foldl ddAdd []
theorem dd_snoc (rs : List Rw) (r : Rw) : dd (rs ++ [r]) = ddAdd (dd rs) r := by unfold dd; rw [List.foldl_append] <;> rfl
def posOf (rs : List Rw) (r : Rw) : List Nat := (List.range rs.length).filter fun i => decide (rs[i]? = some r)
theorem posOf_snoc (rs : List Rw) (r r' : Rw) : posOf (rs ++ [r]) r' = posOf rs r' ++ if r' = r then [rs.length] else [] := by
  unfold posOf
  rw [List.length_append, List.length_singleton, List.range_succ, List.filter_append]
  congr 1
  · refine List.filter_congr fun i hi => ?_
    rw [List.getElem?_append_left (List.mem_range.mp hi)]
  · rw [List.filter_cons, List.filter_nil, List.getElem?_append_right (Nat.le_refl _), Nat.sub_self]
    by_cases h : r' = r
    · rw [if_pos h, if_pos (by rw [h]; simp)]
    · rw [if_neg h, if_neg (by simp [Ne.symm h])]
theorem dd_mem (rs : List Rw) : ∀ r, r ∈ dd rs ↔ r ∈ rs := by
  refine snocInd (P := fun rs => ∀ r, r ∈ dd rs ↔ r ∈ rs) (fun r => Iff.rfl) (fun rs x ih => ?_) rs
  · intro r
    rw [dd_snoc]
    unfold ddAdd
    split
    · rename_i h
      rw [ih, List.mem_append, List.mem_singleton]
      exact ⟨.inl, fun z => z.elim id fun e => by rw [e]; exact (ih x).mp h⟩
    · rw [List.mem_append, List.mem_append, ih]
theorem dd_nodup (rs : List Rw) : (dd rs).Nodup := by
  refine snocInd (P := fun rs => (dd rs).Nodup) List.nodup_nil (fun rs x ih => ?_) rs
  · rw [dd_snoc]
    unfold ddAdd
    split
    · exact ih
    · rename_i h
      rw [List.nodup_append]
      exact ⟨ih, by simp, fun a ha b hb => by rw [List.mem_singleton.mp hb]; exact fun e => h (e ▸ ha)⟩
theorem dd_len (rs : List Rw) : (dd rs).length ≤ rs.length := by
  refine snocInd (P := fun rs => (dd rs).length ≤ rs.length) (Nat.le_refl _) (fun rs x ih => ?_) rs
  · rw [dd_snoc, List.length_append, List.length_singleton]
    unfold ddAdd
    split
    · omega
    · rw [List.length_append, List.length_singleton]
      omega
theorem posOf_nil {rs : List Rw} {r : Rw} (h : r ∉ rs) : posOf rs r = [] := by
  unfold posOf
  rw [List.filter_eq_nil_iff]
  intro i _ e
  exact h (List.mem_of_getElem? (of_decide_eq_true e))
/-- an entry of places: the row, its list of places -/
def PlE (K : PySem.W.Frag) (H : Hp) (rs : List Rw) (e : Ent) (r : Rw) : Prop := e.1 = keyW r.ws ∧ RowAt K H e.2.1 r ∧ ∃ l, e.2.2 = V.ref l ∧ H l = some (.lst ((posOf rs r).map fun i : Nat => V.int i))
structure PlacesE (K : PySem.W.Frag) (H0 H : Hp) (es : List Ent) (rs : List Rw) : Prop where
  at_ : Paired (PlE K H rs) es (dd rs)
  nd : (es.map (·.2.2)).Nodup
  new : ∀ e ∈ es, ∀ l, e.2.2 = V.ref l → H0 l = none
theorem valE_at {es : List Ent} {k : List Key} {v : V} (h : valE es k = some v) : ∃ e ∈ es, e.1 = k ∧ e.2.2 = v := by
  unfold valE at h
  obtain ⟨e, h1, h2⟩ := Option.map_eq_some_iff.mp h
  have h3 : decide (e.1 = k) = true := List.find?_some (p := fun e : Ent => decide (e.1 = k)) h1
  exact ⟨e, List.mem_of_find?_eq_some h1, of_decide_eq_true h3, h2⟩
theorem scPl : FnScope ["rows", "places", "number", "row"] ["rows"] (defScope sPlaces) := ⟨rfl, rfl, rfl, by decide +kernel, rfl, by decide +kernel, by decide +kernel⟩
end Ah
end
section
set_option Elab.async false
set_option linter.all false
set_option maxRecDepth 100000
set_option maxHeartbeats 4000000
namespace Ah
open PySem PySem.Spec PyProof.Rows L2
open EnT
def Rw.of : List Str → Option Rw
  | [a, b] => if a = "on" then some (.on b) else none
  | [a, b, c] => if a = "is" then some (.is b c) else if a = "isnt" then some (.isnt b c) else if a = "all" then some (.all b c) else if a = "no" then some (.no b c) else if a = "turned" then some (.turned b c) else if a = "from" then some (.fr b c)
      else if a = "to" then some (.to b c) else if a = "under" then some (.under b c) else none
  | [a, b, c, d] => if a = "has" then some (.has b c d) else if a = "hasnt" then some (.hasnt b c d) else if a = "each" then some (.each b c d) else if a = "who" then some (.who b c d) else none
  | _ => none
theorem Rw.of_ws (r : Rw) : Rw.of r.ws = some r := by
  cases r <;> simp only [Rw.ws, Rw.of] <;> rfl
theorem Rw.inj {r s : Rw} (h : r.ws = s.ws) : r = s := by
  have h1 := Rw.of_ws r
  rw [h, Rw.of_ws s] at h1
  exact (Option.some.inj h1).symm
theorem valE_snoc {k : List Key} {b : Addr} {v : V} : ∀ {es : List Ent}, valE es k = none → valE (es ++ [(k, b, v)]) k = some v
  | [], _ => valE_pos rfl
  | p :: r, h => by
    have hk : ¬ p.1 = k := fun z => by rw [valE_pos z] at h; cases h
    rw [valE_neg hk] at h
    rw [List.cons_append, valE_neg hk]
    exact valE_snoc h
theorem putE_new {es : List Ent} {k : List Key} {b : Addr} {v : V} (h : valE es k = none) : putE es k b v = es ++ [(k, b, v)] := by
  unfold putE
  rw [h]
  rfl
theorem nodup_inj {α β : Type} {f : α → β} : ∀ {l : List α}, (l.map f).Nodup → ∀ {a b : α}, a ∈ l → b ∈ l → f a = f b → a = b
  | [], _, _, _, ha, _, _ => nomatch ha
  | x :: l, h, a, b, ha, hb, e => by
    rw [List.map_cons, List.nodup_cons] at h
    rcases List.mem_cons.mp ha with ea | ha1
    · rcases List.mem_cons.mp hb with eb | hb1
      · rw [ea, eb]
      · exact absurd (by rw [← ea, e]; exact List.mem_map.mpr ⟨b, hb1, rfl⟩) h.1
    · rcases List.mem_cons.mp hb with eb | hb1
      · exact absurd (by rw [← eb, ← e]; exact List.mem_map.mpr ⟨a, ha1, rfl⟩) h.1
      · exact nodup_inj h.2 ha1 hb1 e
theorem paired_mem {α β : Type} {F G : α → β → Prop} {l : List α} {m : List β} (h : Paired F l m) (k : ∀ a b, a ∈ l → b ∈ m → F a b → G a b) : Paired G l m := by
  induction h with
  | nil => exact .nil
  | cons h t ih => exact .cons (k _ _ (List.mem_cons_self ..) (List.mem_cons_self ..) h) (ih fun a b ha hb => k a b (List.mem_cons_of_mem _ ha) (List.mem_cons_of_mem _ hb))
theorem paired_left {α β : Type} {F : α → β → Prop} {l : List α} {m : List β} (h : Paired F l m) : ∀ {a : α}, a ∈ l → ∃ b ∈ m, F a b := by
  induction h with
  | nil => intro a ha; exact nomatch ha
  | cons h t ih =>
    intro a ha
    rcases List.mem_cons.mp ha with rfl | ha
    · exact ⟨_, List.mem_cons_self .., h⟩
    · obtain ⟨b, hb, q⟩ := ih ha
      exact ⟨b, List.mem_cons_of_mem _ hb, q⟩
theorem paired_right {α β : Type} {F : α → β → Prop} {l : List α} {m : List β} (h : Paired F l m) : ∀ {b : β}, b ∈ m → ∃ a ∈ l, F a b := by
  induction h with
  | nil => intro a ha; exact nomatch ha
  | cons h t ih =>
    intro a ha
    rcases List.mem_cons.mp ha with rfl | ha
    · exact ⟨_, List.mem_cons_self .., h⟩
    · obtain ⟨b, hb, q⟩ := ih ha
      exact ⟨b, List.mem_cons_of_mem _ hb, q⟩
theorem paired_map {α β γ : Type} {F : α → β → Prop} {f : α → γ} {g : β → γ} {l : List α} {m : List β} (h : Paired F l m) (k : ∀ a b, F a b → f a = g b) : l.map f = m.map g := by
  induction h with
  | nil => rfl
  | cons h t ih => rw [List.map_cons, List.map_cons, k _ _ h, ih]
theorem nodup_map {α β : Type} {f : α → β} (hf : ∀ a b, f a = f b → a = b) {l : List α} (h : l.Nodup) : (l.map f).Nodup := by
  induction l with
  | nil => exact List.nodup_nil
  | cons a l ih =>
    rw [List.nodup_cons] at h
    rw [List.map_cons, List.nodup_cons]
    refine ⟨fun hm => ?_, ih h.2⟩
    obtain ⟨b, hb, e⟩ := List.mem_map.mp hm
    exact h.1 (by rw [← hf _ _ e]; exact hb)
theorem keyWs_inj {r s : Rw} (h : keyW r.ws = keyW s.ws) : r = s := Rw.inj (keyW_inj h)
section
variable {K : PySem.W.Frag} {H0 H H' : Hp} {es : List Ent} {rs : List Rw}
theorem PlacesE.keys1 (h : PlacesE K H0 H es rs) : es.map (·.1) = (dd rs).map fun r => keyW r.ws := paired_map h.at_ fun _ _ q => q.1
theorem PlacesE.knd (h : PlacesE K H0 H es rs) : (es.map (·.1)).Nodup := by
  rw [h.keys1]
  exact nodup_map (fun _ _ => keyWs_inj) (dd_nodup rs)
theorem PlacesE.keys (h : PlacesE K H0 H es rs) : KeysIn K H es := fun e he => by
  obtain ⟨r, _, h1, h2, _⟩ := paired_left h.at_ he
  rw [h1, keyW_kV]
  exact h2
theorem PlacesE.len (h : PlacesE K H0 H es rs) : es.length = (dd rs).length := h.at_.length
theorem PlacesE.kept (k : Kept [] H H') (h : PlacesE K H0 H es rs) : PlacesE K H0 H' es rs :=
  ⟨Paired.mapP h.at_ fun _ _ ⟨a, b, l, c, d⟩ => ⟨a, sqT_tk (.of k) b, l, c, k _ _ d (by simp)⟩, h.nd, h.new⟩
end
def spPlaces (K : PySem.W.Frag) (P : Program) (w : World) : Sp := fun vs H Q _ => ∃ (q : Addr) (rs : List Rw), vs = [.ref q] ∧ TextAt H q rs ∧ rs.length ≤ 1000 ∧
  ∀ p H' es, Kept [] H H' → H p = none → H' p = some (DicO P w p es) → PlacesE K H H' es rs → Q (.ref p) H'
section
variable {P : Program} {w : World} {K : PySem.W.Frag} {mg : Str → Option Value} {base : Heap} {f : Addr} {fd : FuncData}
theorem ok_places (F : FnP K "places_of" sPlaces f fd) (B : Bl mg) : FnOk P w K mg base CX0 1 f fd ["rows"] (spPlaces K P w) := by
  refine F.ok scPl (fun vs H Q E h => ?_) (fun cdv A outer s H vs Q E hr h => ?_)
  · obtain ⟨q, rs, rfl, _⟩ := h
    rfl
  · obtain ⟨q, rs, rfl, ⟨ps, hq, hps⟩, hl, k⟩ := h
    have hu : A.units + 3 + 1 < cLine := by have := hr.units; exact (by have h2 : (A.deeper (envOfC "places_of" (defScope sPlaces) s.heap.objs.size f cdv)).units = A.units + 3 := rfl; omega)
    refine ⟨_, PSs.nox (pss_cons (ps_set (i := 1) scPl.nd rfl (.inl rfl) pe_dicNew)
      (pss_cons (ps_for PassesOwn.never rfl (pi_enumT (by rfl) B.enumerate_ (pa_cons (pv 0) pa_nil)) (pg_tup rfl (pgs_cons (pg_name (i := 2) scPl.nd rfl (.inl rfl)) (pgs_cons (pg_name (i := 3) scPl.nd rfl (.inl rfl)) pgs_nil)))
        (pss_one (ps_expr (pe_bm PySem.F.plainAttrs_list PySem.F.slot_list_append PySem.F.type_list_append mt_append
          (pe_dicM PySem.F.slot_dict_setdefault PySem.F.type_dict_setdefault (mt_dicSetd hu) (pv 1) (pa_cons (pv 3) (pa_cons (pe_lst pa_nil) pa_nil))) (pa_cons (pv 2) pa_nil)))))
      (pss_one (ps_ret (pv 1))))), ?_⟩
    intro Dz nD
    refine ⟨_, rfl, q, _, rfl, .inl (.of (by rw [upd_ne (ne_of_none hq nD)]; exact hq)), for_it (walk_enumT (K := K) (a := q) (xs := ps.map V.ref))
      (fun i σ Ha => (∃ v2 v3, σ = [some (.ref q), some (.ref Dz), v2, v3]) ∧ ∃ es, Ha Dz = some (DicO P w Dz es) ∧ PlacesE K H Ha es (rs.take i) ∧ Kept [] H Ha)
      ⟨⟨_, _, rfl⟩, [], upd_same, ⟨.nil, List.nodup_nil, fun e h => absurd h (by simp)⟩, (Kept.refl H).upd nD⟩ (fun i σ Ha _ pv => .inl (.of (pv.2.choose_spec.2.2 _ _ hq (by simp)))) ?_ ?_⟩
    · rintro i x σ Ha Hb hi ⟨⟨v2, v3, rfl⟩, es, e1, re, kk⟩ ⟨Tp, x1, x2, rfl, nT, rfl, g1, g2⟩
      cases g1
      dsimp only at g2
      rw [List.getElem?_map] at g2
      obtain ⟨pr, epr, rfl⟩ := Option.map_eq_some_iff.mp g2
      obtain ⟨r, er, hr1⟩ := paired_at hps epr
      have el : ps.length = rs.length := hps.length
      rw [List.length_map] at hi
      have li : (rs.take i).length = i := by rw [List.length_take]; omega
      have kT := kk.upd (o := .tup [V.int (i : Nat), V.ref pr]) nT
      have dT : Dz ≠ Tp := ne_of_none e1 nT
      refine ⟨Tp, _, rfl, .inl (.of upd_same), rfl, _, _, rfl, _, _, rfl, rfl, ?_⟩
      refine ⟨_, rfl, ⟨Dz, es, rfl, .inl (by rw [upd_ne dT]; exact e1)⟩, _, rfl, Nat.zero_le _, fun ln nl => ?_⟩
      have nl0 : Ha ln = none := by
        by_cases h : ln = Tp
        · rw [h, upd_same] at nl
          cases nl
        · rw [upd_ne h] at nl
          exact nl
      have lD : Dz ≠ ln := ne_of_none e1 nl0
      have kL := kT.upd (o := .lst []) nl
      have nHl : H ln = none := none_of kT nl
      have kAL : Kept [] Ha (L2.upd (L2.upd Ha Tp (.tup [V.int (i : Nat), V.ref pr])) ln (.lst [])) := ((Kept.refl Ha).upd nT).upd nl
      have eD : (L2.upd (L2.upd Ha Tp (.tup [V.int (i : Nat), V.ref pr])) ln (.lst [])) Dz = some (DicO P w Dz es) := kAL _ _ e1 (by simp)
      have eL : (L2.upd (L2.upd Ha Tp (.tup [V.int (i : Nat), V.ref pr])) ln (.lst [])) ln = some (.lst []) := upd_same
      have reL := re.kept kAL
      have rowp : SqT K (L2.upd (L2.upd Ha Tp (.tup [V.int (i : Nat), V.ref pr])) ln (.lst [])) pr ((keyW r.ws).map kV) := by
        rw [keyW_kV]
        exact .inl (.of (kL _ _ hr1 (by simp)))
      generalize L2.upd (L2.upd Ha Tp (.tup [V.int (i : Nat), V.ref pr])) ln (.lst []) = Hc at kL kAL eD eL reL rowp
      have lel := reL.len
      have ldd := dd_len (rs.take i)
      have hsz : es.length < sizeLine := Nat.lt_of_le_of_lt (show es.length ≤ 1000 by omega) (by decide)
      have er2 : rs.take (i + 1) = rs.take i ++ [r] := by rw [List.take_add_one, er]; rfl
      refine ⟨Dz, pr, es, keyW r.ws, .ref ln, rfl, rfl, eD, reL.keys, rowp, hsz, fun y hy => ?_, fun hn => ?_⟩
      · obtain ⟨e, he, ek, ev⟩ := valE_at hy
        obtain ⟨r0, hr0, p1, p2, l, p3, p4⟩ := paired_left reL.at_ he
        have e0 : r0 = r := keyWs_inj (p1.symm.trans ek)
        subst e0
        obtain rfl : y = V.ref l := ev.symm.trans p3
        have lz : ((posOf (rs.take i) r0).map fun i : Nat => V.int i).length ≤ 1000 := by
          rw [List.length_map]
          unfold posOf
          exact Nat.le_trans (List.length_filter_le ..) (by rw [List.length_range, li]; omega)
        refine ⟨.inl ⟨rfl, _, .inl (.of p4)⟩, _, rfl, l, _, _, rfl, rfl, p4, Nat.lt_of_le_of_lt lz (by decide), ?_⟩
        have ld : l ≠ Dz := ne_of p4 eD (fun z => nomatch z)
        have nl2 : H l = none := re.new e he l p3
        refine ⟨⟨_, _, rfl⟩, es, by rw [upd_ne (Ne.symm ld)]; exact eD, ⟨?_, re.nd, re.new⟩, kD_far nl2 kL⟩
        have ed : dd (rs.take (i + 1)) = dd (rs.take i) := by
          rw [er2, dd_snoc]
          unfold ddAdd
          rw [if_pos hr0]
        rw [ed]
        refine paired_mem reL.at_ fun e' r' he' hr' ⟨q1, q2, l', q3, q4⟩ => ⟨q1, sqT_tk ((TK.refl Hc).updL p4) q2, l', q3, ?_⟩
        rw [er2, posOf_snoc, li]
        by_cases h : r' = r0
        · have ee : e' = e := nodup_inj reL.knd he' he (by rw [q1, p1, h])
          rw [ee, p3] at q3
          obtain rfl : l = l' := V.ref.inj q3
          rw [if_pos h, List.map_append, h]
          exact upd_same
        · have ll : l' ≠ l := fun z => by
            have ee : e' = e := nodup_inj reL.nd he' he (by rw [q3, p3, z])
            rw [ee, p1] at q1
            exact h (keyWs_inj q1.symm)
          rw [if_neg h, List.append_nil, upd_ne ll]
          exact q4
      · refine ⟨.inl ⟨rfl, [], .inl (.of (by rw [upd_ne (Ne.symm lD)]; exact eL))⟩, _, rfl, ln, [], _, rfl, rfl, by rw [upd_ne (Ne.symm lD)]; exact eL, (by decide), ?_⟩
        have nr : r ∉ dd (rs.take i) := fun h => by
          obtain ⟨e, he, q1, _⟩ := paired_right reL.at_ h
          exact (valE_none _ _).mp hn (List.mem_map.mpr ⟨e, he, q1⟩)
        have ed : dd (rs.take (i + 1)) = dd (rs.take i) ++ [r] := by
          rw [er2, dd_snoc]
          unfold ddAdd
          rw [if_neg nr]
        have old : ∀ {l : Addr} {ys : List V}, Hc l = some (.lst ys) → l ≠ ln → (L2.upd (L2.upd Hc Dz (DicO P w Dz (es ++ [(keyW r.ws, pr, V.ref ln)]))) ln (.lst ([] ++ [V.int (i : Nat)]))) l = some (.lst ys) := fun {l ys} h n => by
          rw [upd_ne n, upd_ne (ne_of h eD (fun z => nomatch z))]
          exact h
        have tk2 : TK Hc (L2.upd (L2.upd Hc Dz (DicO P w Dz (es ++ [(keyW r.ws, pr, V.ref ln)]))) ln (.lst ([] ++ [V.int (i : Nat)]))) := ((TK.refl Hc).upd eD (fun _ z => nomatch z) (fun _ _ z => nomatch z)).updL (by rw [upd_ne (Ne.symm lD)]; exact eL)
        refine ⟨⟨_, _, rfl⟩, putE es (keyW r.ws) pr (V.ref ln), by rw [upd_ne lD]; exact upd_same, ?_, kD_far nHl (kD_far nD kL)⟩
        rw [putE_new hn]
        have other : ∀ e' ∈ es, e'.2.2 ≠ V.ref ln := fun e' he' z => by
          obtain ⟨r', _, _, _, l', q3, q4⟩ := paired_left re.at_ he'
          rw [q3] at z
          rw [V.ref.inj z, nl0] at q4
          cases q4
        refine ⟨?_, ?_, fun e' he' l' hl' => ?_⟩
        · rw [ed]
          refine paired_app (paired_mem reL.at_ fun e' r' he' hr' ⟨q1, q2, l', q3, q4⟩ => ⟨q1, sqT_tk tk2 q2, l', q3, ?_⟩) (.cons ⟨rfl, ?_, ln, rfl, ?_⟩ .nil)
          · have h : ¬ r' = r := fun z => nr (z ▸ hr')
            rw [er2, posOf_snoc, if_neg h, List.append_nil]
            exact old q4 (fun z => other e' he' (by rw [q3, z]))
          · have := sqT_tk tk2 rowp
            rw [keyW_kV] at this
            exact this
          · rw [er2, posOf_snoc, posOf_nil (fun h => nr ((dd_mem _ _).mpr h)), if_pos rfl, li]
            exact upd_same
        · rw [List.map_append, List.nodup_append]
          refine ⟨re.nd, by simp, fun a ha b hb => ?_⟩
          obtain ⟨e', he', rfl⟩ := List.mem_map.mp ha
          rw [List.mem_singleton.mp hb]
          exact other e' he'
        · rcases List.mem_append.mp he' with q | q
          · exact re.new e' q l' hl'
          · rw [List.mem_singleton.mp q] at hl'
            rw [← V.ref.inj hl']
            exact nHl
    · rintro σ Ha ⟨⟨v2, v3, rfl⟩, es, e1, re, kk⟩
      rw [List.length_map] at re
      have el : ps.length = rs.length := hps.length
      rw [el, List.take_of_length_le (Nat.le_refl _)] at re
      exact ⟨_, rfl, k Dz Ha es kk nD e1 re⟩
end
end Ah
end
section
set_option Elab.async false
set_option linter.all false
set_option maxRecDepth 100000
set_option maxHeartbeats 4000000
namespace Ah
open PySem PySem.Spec PyProof.Rows L2
open EnT
/-! ### what leads are worked out -/
abbrev MethP (K : PySem.W.Frag) (x q : Str) (st : Stmt) (f : Addr) (fd : FuncData) : Prop := FunD K x q (defArgs st) (defBody st) (defScope st) [] [] f fd
def useful (l : Lead) : Bool := !decide (l.1 = l.2.2) && !decide (l.2.1 = some l.2.2)
/-- the leads with their rows' numbers -/
abbrev LeadN := Nat × Lead
def workedN (rws : List Rw) (s : Say) (names : List Str) : List LeadN := rws.zipIdx.flatMap fun q => ((leadsBy q.1 s names).filter useful).map fun l => (q.2, l)
/-- a lead with its row's number -/
def Lead4 (K : PySem.W.Frag) (H : Hp) (v : V) (l : LeadN) : Prop := ∃ q v1 v2 v3, v = .ref q ∧ H q = some (.tup [.int l.1, v1, v2, v3]) ∧ SayAt K H v1 l.2.1 ∧ OSayAt K H v2 l.2.2.1 ∧ SayAt K H v3 l.2.2.2
theorem Lead4.tk {K : PySem.W.Frag} {H H' : Hp} {v : V} {l : LeadN} (k : TK H H') (h : Lead4 K H v l) : Lead4 K H' v l := by
  obtain ⟨q, v1, v2, v3, e, h1, h2, h3, h4⟩ := h
  exact ⟨q, v1, v2, v3, e, k.tup _ _ h1, h2.tk k, h3.tk k, h4.tk k⟩
def FoundAt (K : PySem.W.Frag) (H : Hp) (p : Addr) (ls : List LeadN) : Prop := ∃ vs, H p = some (.lst vs) ∧ Paired (Lead4 K H) vs ls
/-- rows in a list -/
def RowsV (K : PySem.W.Frag) (H : Hp) (vs : List V) (rws : List Rw) : Prop := Paired (fun v r => ∃ a, v = V.ref a ∧ RowAt K H a r) vs rws
theorem RowsV.tk {K : PySem.W.Frag} {H H' : Hp} {vs : List V} {rws : List Rw} (k : TK H H') (h : RowsV K H vs rws) : RowsV K H' vs rws := Paired.mapP h fun _ _ ⟨a, e, q⟩ => ⟨a, e, sqT_tk k q⟩
structure RObj where
  ro : Addr
  C : Addr
  dx : Addr
  rl : Addr
  na : Addr
  kd : Addr
/-- the entries of what is known -/
def KnownE (K : PySem.W.Frag) (H : Hp) (rws : List Rw) (names : List Str) (es : List Ent) : Prop :=
  ∀ e ∈ es, ∃ (s : Say) (fl : Addr), e.1 = keyW s.ws ∧ SqT K H e.2.1 (s.ws.map V.str) ∧ e.2.2 = .ref fl ∧ FoundAt K H fl (workedN rws s names)
structure RulesAt (K : PySem.W.Frag) (P : Program) (w : World) (H : Hp) (o : RObj) (rws : List Rw) (names : List Str) (es : List Ent) : Prop where
  ob : H o.ro = some (.ins o.C o.dx [("rows", .ref o.rl), ("names", .ref o.na), ("known", .ref o.kd)])
  rows : ∃ vs, H o.rl = some (.lst vs) ∧ RowsV K H vs rws
  ns : H o.na = some (.lst (names.map V.str))
  kn : H o.kd = some (DicO P w o.kd es)
  ents : KnownE K H rws names es
structure ClsR (K : PySem.W.Frag) (C : Addr) : Prop where
  c : Cls K C
  n1 : NoAttr K C "rows"
  n2 : NoAttr K C "names"
  n3 : NoAttr K C "known"
/-- the words can be written, the counts are small -/
structure OkD (rws : List Rw) (names : List Str) : Prop where
  l1 : rws.length ≤ 1000
  l2 : names.length ≤ 1000
  rok : ∀ r ∈ rws, okW r.ws
  nok : ∀ x ∈ names, PyData.strOk x = true
def okL (l : Lead) : Prop := okW l.1.ws ∧ (∀ x, l.2.1 = some x → okW x.ws) ∧ okW l.2.2.ws
theorem okW_cons {w : Str} {ws : List Str} : okW (w :: ws) ↔ PyData.strOk w = true ∧ okW ws := by
  unfold okW
  rw [List.all_cons, Bool.and_eq_true]
theorem okW_nil : okW [] := rfl
theorem okW_clash : okW (Say.clash).ws := by unfold okW; decide +kernel
theorem okL_by {r : Rw} {s : Say} {names : List Str} (hr : okW r.ws) (hs : okW s.ws) (hn : ∀ x ∈ names, PyData.strOk x = true) : ∀ l ∈ leadsBy r s names, okL l := by
  have c := okW_clash
  intro l hl
  unfold okL
  cases s with
  | clash => exact absurd hl (by simp [leadsBy])
  | is n k =>
    obtain ⟨hi, hs1⟩ := okW_cons.mp hs
    obtain ⟨h1, hs2⟩ := okW_cons.mp hs1
    obtain ⟨h2, _⟩ := okW_cons.mp hs2
    have h3 : PyData.strOk "has" = true := by decide +kernel
    have h4 : PyData.strOk "is" = true := by decide +kernel
    cases r <;> simp only [leadsBy, leadsKind] at hl <;> (try split at hl) <;> (try simp only [List.mem_cons, List.mem_map, List.not_mem_nil, or_false] at hl) <;> (try exact hl.elim)
    all_goals simp only [Rw.ws, okW_cons] at hr
    all_goals first
      | (subst hl; simp [okL, okW_cons, okW_nil, Say.ws, *] <;> done)
      | (obtain ⟨x, hx, rfl⟩ := hl; have hx2 := hn x hx; simp [okW_cons, okW_nil, Say.ws, *] <;> done)
      | skip
    · subst hl
      exact ⟨hs, (fun x hx => nomatch hx), c⟩
    · subst hl
      refine ⟨hs, fun x hx => ?_, c⟩
      dsimp only at hx
      (repeat' split at hx) <;> first
        | (simp at hx; done)
        | (rw [← Option.some.inj hx]; exact okW_cons.mpr ⟨h4, okW_cons.mpr ⟨h1, okW_cons.mpr ⟨by first | exact hr.2.2.1 | exact hr.2.1, okW_nil⟩⟩⟩)
  | has n t m =>
    obtain ⟨hi, hs1⟩ := okW_cons.mp hs
    obtain ⟨h1, hs2⟩ := okW_cons.mp hs1
    obtain ⟨h2, hs3⟩ := okW_cons.mp hs2
    obtain ⟨h5, _⟩ := okW_cons.mp hs3
    have h3 : PyData.strOk "has" = true := by decide +kernel
    have h4 : PyData.strOk "is" = true := by decide +kernel
    cases r <;> simp only [leadsBy, leadsTie, leadsOn] at hl <;> (try split at hl) <;> (try simp only [List.mem_cons, List.mem_map, List.not_mem_nil, or_false, List.mem_append] at hl) <;> (try exact hl.elim)
    all_goals simp only [Rw.ws, okW_cons] at hr
    all_goals first
      | (subst hl; simp [okL, okW_cons, okW_nil, Say.ws, *] <;> done)
      | (obtain (⟨x, hx, rfl⟩ | ⟨x, hx, rfl⟩) := hl <;> have hx2 := hn x hx <;> simp [okW_cons, okW_nil, Say.ws, *] <;> done)
      | skip
    · subst hl
      exact ⟨hs, (fun x hx => nomatch hx), c⟩
end Ah
end
section
set_option Elab.async false
set_option linter.all false
set_option maxRecDepth 100000
set_option maxHeartbeats 4000000
namespace Ah
open PySem PySem.Spec PyProof.Rows L2
open EnT
theorem RulesAt.kept {K : PySem.W.Frag} {P : Program} {w : World} {H H' : Hp} {o : RObj} {rws : List Rw} {names : List Str} {es : List Ent} (k : Kept [] H H') (h : RulesAt K P w H o rws names es) : RulesAt K P w H' o rws names es where
  ob := k _ _ h.ob (by simp)
  rows := let ⟨vs, h1, h2⟩ := h.rows; ⟨vs, k _ _ h1 (by simp), h2.tk (.of k)⟩
  ns := k _ _ h.ns (by simp)
  kn := k _ _ h.kn (by simp)
  ents := fun e he => by
    obtain ⟨s, fl, h1, h2, h3, vs, h4, h5⟩ := h.ents e he
    exact ⟨s, fl, h1, sqT_tk (.of k) h2, h3, vs, k _ _ h4 (by simp), Paired.mapP h5 fun _ _ q => q.tk (.of k)⟩
theorem by_len (r : Rw) (s : Say) (names : List Str) : (leadsBy r s names).length ≤ 2 * names.length + 1 := by
  cases s with
  | clash => simp [leadsBy]
  | is n k => cases r <;> simp only [leadsBy, leadsKind] <;> (try split) <;> simp <;> omega
  | has n t m => cases r <;> simp only [leadsBy, leadsTie, leadsOn] <;> (try split) <;> simp <;> omega
theorem worked_snoc (rws : List Rw) (r : Rw) (s : Say) (names : List Str) : workedN (rws ++ [r]) s names = workedN rws s names ++ ((leadsBy r s names).filter useful).map fun l => (rws.length, l) := by
  unfold workedN
  rw [List.zipIdx_append, List.flatMap_append]
  simp
theorem worked_len (names : List Str) (s : Say) (rws : List Rw) : (workedN rws s names).length ≤ rws.length * (2 * names.length + 1) := by
  refine snocInd (P := fun rws => (workedN rws s names).length ≤ rws.length * (2 * names.length + 1)) (by simp [workedN]) (fun rws r ih => ?_) rws
  have h1 := by_len r s names
  have h2 : ((leadsBy r s names).filter useful).length ≤ (leadsBy r s names).length := List.length_filter_le ..
  rw [worked_snoc, List.length_append, List.length_append, List.length_map, List.length_singleton, Nat.add_mul]
  omega
theorem scRW : FnScope ["self", "saying", "found", "number", "row", "first", "second", "result"] ["self", "saying"] (defScope sRWork) := ⟨rfl, rfl, rfl, by decide +kernel, rfl, by decide +kernel, by decide +kernel⟩
def spWork (K : PySem.W.Frag) (P : Program) (w : World) : Sp := fun vs H Q _ => ∃ (o : RObj) (sv : V) (rws : List Rw) (names : List Str) (es : List Ent) (s : Say), vs = [.ref o.ro, sv] ∧ RulesAt K P w H o rws names es ∧ ClsR K o.C ∧ SayAt K H sv s ∧ okW s.ws ∧ OkD rws names ∧
  ∀ p H', Kept [] H H' → H p = none → FoundAt K H' p (workedN rws s names) → Q (.ref p) H'
section
variable {P : Program} {w : World} {K : PySem.W.Frag} {mg : Str → Option Value} {base : Heap} {f fB : Addr} {fd fdB : FuncData}
theorem ok_work (F : MethP K "worked_out" "Rules.worked_out" sRWork f fd) (B : Bl mg) (c_leads_by : Own P w K mg base "leads_by" 3 fB fdB ["row", "saying", "names"] (spBy K)) : FnOk P w K mg base CX0 4 f fd ["self", "saying"] (spWork K P w) := by
  refine F.ok scRW (fun vs H Q E h => ?_) (fun cdv A outer s H vs Q E hr h => ?_)
  · obtain ⟨o, sv, rws, names, es, sy, rfl, _⟩ := h
    rfl
  · obtain ⟨o, sv, rws, names, es, sy, rfl, R, CR, hsay, oks, D, q⟩ := h
    refine ⟨_, PSs.nox (pss_cons (ps_set (i := 2) scRW.nd rfl (.inl rfl) (pe_lst pa_nil))
      (pss_cons (ps_for PassesOwn.never rfl (pi_enum (by rfl) B.enumerate_ (pa_cons (pe_fld (pv 0) rfl) pa_nil)) (pg_tup rfl (pgs_cons (pg_name (i := 3) scRW.nd rfl (Or.inl rfl)) (pgs_cons (pg_name (i := 4) scRW.nd rfl (Or.inl rfl)) pgs_nil)))
      (pss_one (ps_for PassesOwn.never rfl (pi_list (pe_call c_leads_by.ok hr (by rfl) c_leads_by.g c_leads_by.kp c_leads_by.b .nil pass0 (pa_cons (pv 4) (pa_cons (pv 1) (pa_cons (pe_fld (pv 0) rfl) pa_nil))))) (pg_tup rfl (pgs_cons (pg_name (i := 5) scRW.nd rfl (Or.inl rfl)) (pgs_cons (pg_name (i := 6) scRW.nd rfl (Or.inl rfl)) (pgs_cons (pg_name (i := 7) scRW.nd rfl (Or.inl rfl)) pgs_nil))))
      (pss_one (ps_if (PW.pt (pw_and (pt_cmpR (op_neD hr.units) (pv 7) (pv 5) (nomark _)) (pw_and1 (pt_cmpR (op_neD hr.units) (pv 7) (pv 6) (nomark _))))) (pss_one (ps_expr (pe_bm PySem.F.plainAttrs_list PySem.F.slot_list_append PySem.F.type_list_append mt_append (pv 2) (pa_cons (pe_tup (pa_cons (pv 3) (pa_cons (pv 5) (pa_cons (pv 6) (pa_cons (pv 7) pa_nil))))) pa_nil)))) pss_nil)))))
      (pss_one (ps_ret (pv 2))))), ?_⟩
    refine ⟨Nat.zero_le _, fun fD nD => ?_⟩
    have R1 := R.kept ((Kept.refl H).upd (o := .lst []) nD)
    obtain ⟨vs, hvs, rvs⟩ := R.rows
    have lvs : vs.length = rws.length := rvs.length
    have hlen := worked_len names sy
    refine ⟨_, rfl, _, _, _, _, _, rfl, R1.ob, CR.c, CR.n1, rfl, o.rl, vs, rfl, .inl (.of (by rw [upd_ne (ne_of_none hvs nD)]; exact hvs)), for_it (walk_enum (K := K) (a := o.rl) (xs := vs))
      (fun i σ Ha => (∃ v3 v4 v5 v6 v7, σ = [some (.ref o.ro), some sv, some (.ref fD), v3, v4, v5, v6, v7]) ∧ FoundAt K Ha fD (workedN (rws.take i) sy names) ∧ Kept [] H Ha)
      ⟨⟨_, _, _, _, _, rfl⟩, ⟨[], upd_same, .nil⟩, (Kept.refl H).upd nD⟩ (fun i σ Ha _ pv => .inl (.of (pv.2.2 _ _ hvs (by simp)))) ?_ ?_⟩
    · rintro i x σ Ha Hb hi ⟨⟨v3, v4, v5, v6, v7, rfl⟩, ⟨us, eu, ru⟩, kk⟩ ⟨Tp, x1, x2, rfl, nT, rfl, g1, g2⟩
      cases g1
      dsimp only at g2
      obtain ⟨r, er, pr, rfl, hrow⟩ := paired_at rvs g2
      have kT := kk.upd (o := .tup [V.int (i : Nat), V.ref pr]) nT
      have tkT : TK Ha (L2.upd Ha Tp (.tup [V.int (i : Nat), V.ref pr])) := (TK.refl Ha).new nT
      have R2 := R.kept kT
      have hr1 := D.rok r (List.mem_of_getElem? er)
      refine ⟨Tp, _, rfl, .inl (.of upd_same), rfl, _, _, rfl, _, _, rfl, rfl, ?_⟩
      refine ⟨_, rfl, _, rfl, _, rfl, _, _, _, _, _, rfl, R2.ob, CR.c, CR.n2, rfl, pr, sv, o.na, r, sy, names, rfl, sqT_tk (.of kT) hrow, hr1, oks, ⟨hsay.tk (.of kT), .inl (.of R2.ns), D.l2⟩, fun lp H2 k2 n2 l2 => ?_⟩
      obtain ⟨ls, el, rl⟩ := l2
      have kH := kT.trans k2
      have efD : H2 fD = some (.lst us) := k2 _ _ (by rw [upd_ne (ne_of_none eu nT)]; exact eu) (by simp)
      have ll : ls.length ≤ 2001 := by
        have h1 := by_len r sy names
        have h2 := D.l2
        rw [rl.length]
        omega
      have lpD : lp ≠ fD := fun e => by
        rw [e, upd_ne (ne_of_none eu nT), eu] at n2
        cases n2
      have bd : (workedN (rws.take i) sy names).length ≤ 1000 * 2001 := by
        refine Nat.le_trans (hlen (rws.take i)) (Nat.mul_le_mul ?_ ?_)
        · have h1 := D.l1
          rw [List.length_take]
          omega
        · have h2 := D.l2
          omega
      have er2 : rws.take (i + 1) = rws.take i ++ [r] := by rw [List.take_add_one, er]; rfl
      refine ⟨lp, rfl, ⟨_, .inl (.of el)⟩, for_it (walk_list (K := K) (a := lp) (xs := ls))
        (fun j σ Hc => (∃ v5 v6 v7, σ = [some (.ref o.ro), some sv, some (.ref fD), some (.int (i : Nat)), some (.ref pr), v5, v6, v7]) ∧ FoundAt K Hc fD (workedN (rws.take i) sy names ++ (((leadsBy r sy names).take j).filter useful).map fun l => (i, l)) ∧ Kept [] H Hc ∧ Hc lp = some (.lst ls) ∧ TK H2 Hc)
        ⟨⟨_, _, _, rfl⟩, ⟨us, efD, by
          rw [List.take_zero, List.filter_nil, List.map_nil, List.append_nil]
          exact Paired.mapP ru fun _ _ q => q.tk (tkT.trans (.of k2))⟩, kH, el, TK.refl _⟩ (fun j σ Hc _ pv => .inl (.of pv.2.2.2.1)) ?_ ?_⟩
      · rintro j y σ Hc0 Hc hj ⟨⟨v5, v6, v7, rfl⟩, ⟨us', eu', ru'⟩, kc, elc, tk2⟩ ⟨rfl, ey⟩
        obtain ⟨l, hl, hla⟩ := paired_at rl ey
        obtain ⟨qa, w1, w2, w3, rfl, t1, s1, s2, s3⟩ := hla.tk tk2
        have ol := okL_by hr1 oks D.nok l (List.mem_of_getElem? hl)
        have et : ((leadsBy r sy names).take (j + 1)).filter useful = ((leadsBy r sy names).take j).filter useful ++ if useful l = true then [l] else [] := by
          rw [List.take_add_one, hl, List.filter_append]
          congr 1
          show List.filter useful [l] = _
          rw [List.filter_cons, List.filter_nil]
        have skip : useful l = false → FoundAt K Hc fD (workedN (rws.take i) sy names ++ (((leadsBy r sy names).take (j + 1)).filter useful).map fun l => (i, l)) := fun e => by
          rw [et, e, if_neg (by simp), List.append_nil]
          exact ⟨us', eu', ru'⟩
        refine ⟨qa, _, rfl, .inl (.of t1), rfl, _, _, rfl, _, _, rfl, _, _, rfl, rfl, ?_⟩
        refine ⟨_, rfl, _, rfl, rd_neS (s := l.2.2) (t := some l.1) s3 s1 ol.2.2 (fun x hx => by rw [← Option.some.inj hx]; exact ol.1) ⟨_, rfl, if_nd (fun ne => ?_) (fun e => ?_)⟩⟩
        · refine ⟨_, rfl, _, rfl, rd_neS (s := l.2.2) (t := l.2.1) s3 s2 ol.2.2 ol.2.1 ⟨_, rfl, if_nd (fun ne2 => ?_) (fun e2 => ?_)⟩⟩
          · have eu2 : useful l = true := by
              unfold useful
              rw [decide_eq_false fun z => ne (by rw [z]), decide_eq_false ne2]
              rfl
            refine ⟨_, rfl, .inl ⟨rfl, us', .inl (.of eu')⟩, _, rfl, _, rfl, _, rfl, _, rfl, (by show 4 ≤ sizeLine; decide), fun T4 n4 => ?_⟩
            have nfD : fD ≠ T4 := ne_of_none eu' n4
            refine ⟨fD, us', _, rfl, rfl, by rw [upd_ne nfD]; exact eu', ?_, ⟨_, _, _, rfl⟩, ⟨us' ++ [V.ref T4], upd_same, ?_⟩, kD_far nD (kc.upd n4), ?_, ?_⟩
            · have lu := ru'.length
              rw [List.length_append, List.length_map] at lu
              have h1 : (((leadsBy r sy names).take j).filter useful).length ≤ 2001 := by
                refine Nat.le_trans (List.length_filter_le ..) ?_
                rw [List.length_take]
                have h2 := rl.length
                omega
              exact Nat.lt_of_le_of_lt (show us'.length ≤ 1000 * 2001 + 2001 by omega) (by decide)
            · rw [et, if_pos eu2, List.map_append, ← List.append_assoc]
              have tk3 : TK Hc (L2.upd (L2.upd Hc T4 (.tup [V.int (i : Nat), w1, w2, w3])) fD (.lst (us' ++ [V.ref T4]))) := ((TK.refl Hc).new n4).updL (xs := us') (by rw [upd_ne nfD]; exact eu')
              refine paired_app (Paired.mapP ru' fun _ _ q => q.tk tk3) (.cons ⟨T4, w1, w2, w3, rfl, ?_, s1.tk tk3, s2.tk tk3, s3.tk tk3⟩ .nil)
              rw [upd_ne (Ne.symm nfD)]
              exact upd_same
            · rw [upd_ne lpD, upd_ne (ne_of_none elc n4)]
              exact elc
            · exact (tk2.new n4).updL (xs := us') (by rw [upd_ne nfD]; exact eu')
          · refine ⟨⟨_, _, _, rfl⟩, skip ?_, kc, elc, tk2⟩
            unfold useful
            rw [decide_eq_true e2]
            simp
        · refine iteF ⟨⟨_, _, _, rfl⟩, skip ?_, kc, elc, tk2⟩
          unfold useful
          rw [decide_eq_true (Option.some.inj e)]
          simp
      · rintro σ Hc ⟨⟨v5, v6, v7, rfl⟩, fa, kc, elc, tk2⟩
        have h2 := rl.length
        have li : (rws.take i).length = i := by
          rw [List.length_take]
          omega
        rw [h2, List.take_of_length_le (Nat.le_refl _)] at fa
        have ws := worked_snoc (rws.take i) r sy names
        rw [li, ← er2] at ws
        rw [← ws] at fa
        exact ⟨⟨_, _, _, _, _, rfl⟩, fa, kc⟩
    · rintro σ Ha ⟨⟨v3, v4, v5, v6, v7, rfl⟩, fa, kk⟩
      rw [lvs, List.take_of_length_le (Nat.le_refl _)] at fa
      exact ⟨_, rfl, q fD Ha kk nD fa⟩
end
end Ah
end
section
set_option Elab.async false
set_option linter.all false
set_option maxRecDepth 100000
set_option maxHeartbeats 4000000
namespace Ah
open PySem PySem.Spec PyProof.Rows L2
theorem KnownE.keys {K : PySem.W.Frag} {H : Hp} {rws : List Rw} {names : List Str} {es : List Ent} (h : KnownE K H rws names es) : KeysIn K H es := fun e he => by
  obtain ⟨s, fl, h1, h2, _⟩ := h e he
  rw [h1, keyW_kV]
  exact h2
theorem scRL : FnScope ["self", "saying"] ["self", "saying"] (defScope sRLeads) := ⟨rfl, rfl, rfl, by decide +kernel, rfl, by decide +kernel, by decide +kernel⟩
theorem scRI : FnScope ["self", "rows", "names"] ["self", "rows", "names"] (defScope sRInit) := ⟨rfl, rfl, rfl, by decide +kernel, rfl, by decide +kernel, by decide +kernel⟩
def spLeads (K : PySem.W.Frag) (P : Program) (w : World) (C : Addr) : Sp := fun vs H Q _ => ∃ (o : RObj) (sv : V) (rws : List Rw) (names : List Str) (es : List Ent) (s : Say), vs = [.ref o.ro, sv] ∧ o.C = C ∧ RulesAt K P w H o rws names es ∧ SayAt K H sv s ∧ okW s.ws ∧ OkD rws names ∧ es.length ≤ 1000000 ∧
  ∀ fl H' es', Kept [o.kd] H H' → RulesAt K P w H' o rws names es' → es'.length ≤ es.length + 1 → FoundAt K H' fl (workedN rws s names) →
    (∀ W, H W ≠ none → (∀ e ∈ es, e.2.2 ≠ V.ref W) → fl ≠ W ∧ ∀ e ∈ es', e.2.2 ≠ V.ref W) → Q (.ref fl) H'
section
variable {P : Program} {w : World} {K : PySem.W.Frag} {mg : Str → Option Value} {base : Heap} {f fW fP C : Addr} {fd fdW fdP : FuncData}
theorem ok_leads (F : MethP K "leads" "Rules.leads" sRLeads f fd) (CR : ClsR K C) (mW : Meth K C "worked_out" fW) (FW : FnOk P w K mg base CX0 4 fW fdW ["self", "saying"] (spWork K P w)) (bW : Binds K fdW ["self", "saying"] []) :
    FnOk P w K mg base CX0 5 f fd ["self", "saying"] (spLeads K P w C) := by
  refine F.ok scRL (fun vs H Q E h => ?_) (fun cdv A outer s H vs Q E hr h => ?_)
  · obtain ⟨o, sv, rws, names, es, sy, rfl, _⟩ := h
    rfl
  · obtain ⟨o, sv, rws, names, es, sy, rfl, rfl, R, hsay, oks, D, hz, q⟩ := h
    have hu : A.units + 3 + 1 < cLine := by have := hr.units; exact (by have h2 : (A.deeper (envOfC "Rules.leads" (defScope sRLeads) s.heap.objs.size f cdv)).units = A.units + 3 := rfl; omega)
    refine ⟨_, PSs.nox (pss_cons (ps_if (pt_cmpR (op_notIn_dic hu) (pv 1) (pe_fld (pv 0) rfl) (by rfl)) (pss_one (ps_asg (pe_meth (pv 0) CR.c mW FW hr bW .nil pass0 (pa_cons (pv 1) pa_nil)) (pg_sub (pe_fld (pv 0) rfl) (pv 1) (set_dic hu)))) pss_nil)
      (pss_one (ps_ret (pe_ix (ix_dic hu) (pe_fld (pv 0) rfl) (pv 1) (fun _ _ => rfl))))), ?_⟩
    obtain ⟨sa, rfl, hsa⟩ := id hsay
    have hkey : ∀ {H'}, TK H H' → SqT K H' sa ((keyW sy.ws).map kV) := fun k => by
      rw [keyW_kV]
      exact sqT_tk k hsa
    have hsz : es.length < sizeLine := Nat.lt_of_le_of_lt hz (by decide)
    refine ⟨_, rfl, _, rfl, _, _, _, _, _, rfl, R.ob, CR.c, CR.n3, rfl, o.kd, sa, es, keyW sy.ws, rfl, rfl, .inl R.kn, R.ents.keys, hkey (TK.refl H), ?_⟩
    cases hv : valE es (keyW sy.ws) with
    | some v =>
      refine ⟨false, rfl, iteF ?_⟩
      obtain ⟨e, he, ek, ev⟩ := valE_at hv
      obtain ⟨s', fl, h1, h2, h3, h4⟩ := R.ents e he
      obtain rfl : v = V.ref fl := ev.symm.trans h3
      have es1 : s' = sy := Say.inj (keyW_inj (h1.symm.trans ek))
      rw [es1] at h4
      refine ⟨_, rfl, _, _, _, _, _, rfl, R.ob, CR.c, CR.n3, rfl, _, rfl, o.kd, sa, es, keyW sy.ws, _, rfl, rfl, .inl R.kn, R.ents.keys, hkey (TK.refl H), hv, ?_⟩
      exact q fl H es (Kept.refl H) R (Nat.le_succ _) h4 fun W _ hW => ⟨fun z => hW e he (by rw [h3, z]), hW⟩
    | none =>
      refine ⟨true, rfl, iteT ?_⟩
      refine ⟨_, rfl, o.ro, o.dx, _, rfl, R.ob, rfl, _, rfl, o, _, rws, names, es, sy, rfl, R, CR, hsay, oks, D, fun p H1 k1 n1 fa => ?_⟩
      have R1 := R.kept k1
      refine ⟨_, rfl, _, _, _, _, _, rfl, R1.ob, CR.c, CR.n3, rfl, _, rfl, o.kd, sa, es, keyW sy.ws, rfl, rfl, R1.kn, R1.ents.keys, hkey (.of k1), hsz, ?_⟩
      rw [putE_new hv]
      obtain ⟨us, eus, rus⟩ := fa
      have pk : p ≠ o.kd := ne_of eus R1.kn (fun z => nomatch z)
      have tk1 : TK H1 (L2.upd H1 o.kd (DicO P w o.kd (es ++ [(keyW sy.ws, sa, V.ref p)]))) := (TK.refl H1).upd R1.kn (fun _ z => nomatch z) (fun _ _ z => nomatch z)
      have lk : ∀ {l : Addr} {ys : List V}, H1 l = some (.lst ys) → (L2.upd H1 o.kd (DicO P w o.kd (es ++ [(keyW sy.ws, sa, V.ref p)]))) l = some (.lst ys) := fun {l ys} h => by
        rw [upd_ne (ne_of h R1.kn (fun z => nomatch z))]
        exact h
      have fa2 : FoundAt K (L2.upd H1 o.kd (DicO P w o.kd (es ++ [(keyW sy.ws, sa, V.ref p)]))) p (workedN rws sy names) := ⟨us, lk eus, Paired.mapP rus fun _ _ q => q.tk tk1⟩
      have R2 : RulesAt K P w (L2.upd H1 o.kd (DicO P w o.kd (es ++ [(keyW sy.ws, sa, V.ref p)]))) o rws names (es ++ [(keyW sy.ws, sa, V.ref p)]) := by
        refine ⟨?_, ?_, ?_, upd_same, fun e he => ?_⟩
        · rw [upd_ne (ne_of R1.ob R1.kn (fun z => nomatch z))]
          exact R1.ob
        · obtain ⟨vs, h1, h2⟩ := R1.rows
          exact ⟨vs, lk h1, h2.tk tk1⟩
        · exact lk R1.ns
        · rcases List.mem_append.mp he with he | he
          · obtain ⟨s', fl, h1, h2, h3, vs, h4, h5⟩ := R1.ents e he
            exact ⟨s', fl, h1, sqT_tk tk1 h2, h3, vs, lk h4, Paired.mapP h5 fun _ _ q => q.tk tk1⟩
          · rw [List.mem_singleton.mp he]
            exact ⟨sy, p, rfl, sqT_tk ((TK.of k1).trans tk1) hsa, rfl, fa2⟩
      refine ⟨_, rfl, _, _, _, _, _, rfl, R2.ob, CR.c, CR.n3, rfl, _, rfl, o.kd, sa, _, keyW sy.ws, _, rfl, rfl, .inl R2.kn, R2.ents.keys, ?_, valE_snoc hv, ?_⟩
      · exact hkey ((TK.of k1).trans tk1)
      · refine q p _ _ ?_ R2 (by rw [List.length_append]; exact Nat.le_refl _) fa2 fun W hW hn => ?_
        · intro b u e hb
          rw [upd_ne (fun z => hb (by rw [z]; simp))]
          exact k1 b u e (by simp)
        · have pW : p ≠ W := fun z => hW (by rw [← z]; exact n1)
          refine ⟨pW, fun e he => ?_⟩
          rcases List.mem_append.mp he with he | he
          · exact hn e he
          · rw [List.mem_singleton.mp he]
            exact fun z => pW (V.ref.inj z)
end
end Ah
end
section
set_option Elab.async false
set_option linter.all false
set_option maxRecDepth 100000
set_option maxHeartbeats 4000000
namespace Ah
open PySem PySem.Spec PyProof.Rows L2
theorem placesE_rows {K : PySem.W.Frag} {H0 H : Hp} {es : List Ent} {rs : List Rw} (h : PlacesE K H0 H es rs) : RowsV K H (entRefs es) (dd rs) := by
  have mk : ∀ {l : List Ent} {m : List Rw}, Paired (PlE K H rs) l m → RowsV K H (entRefs l) m := by
    intro l m q
    induction q with
    | nil => exact .nil
    | @cons e r l m h t ih => exact .cons ⟨e.2.1, rfl, h.2.1⟩ ih
  exact mk h.at_
theorem pf1 {a : Addr} : putF "rows" (V.ref a) [] = ([("rows", V.ref a)] : List (Str × V)) := rfl
theorem pf2 {a b : Addr} : putF "names" (V.ref b) ([("rows", V.ref a)] : List (Str × V)) = ([("rows", V.ref a), ("names", V.ref b)] : List (Str × V)) := rfl
theorem pf3 {a b c : Addr} : putF "known" (V.ref c) ([("rows", V.ref a), ("names", V.ref b)] : List (Str × V)) = ([("rows", V.ref a), ("names", V.ref b), ("known", V.ref c)] : List (Str × V)) := rfl
theorem lt1 {p : Str × V} : [p].length < 1000 := Nat.lt_of_sub_eq_succ rfl
theorem lt2 {p q : Str × V} : [p, q].length < 1000 := Nat.lt_of_sub_eq_succ rfl
def spInit (K : PySem.W.Frag) (P : Program) (w : World) (C : Addr) : Sp := fun vs H Q _ => ∃ (x q na dx : Addr) (rs : List Rw) (names : List Str), vs = [.ref x, .ref q, .ref na] ∧ H x = some (.ins C dx []) ∧ TextAt H q rs ∧ rs.length ≤ 1000 ∧ H na = some (.lst (names.map V.str)) ∧
  ∀ H' (o : RObj), o.ro = x → o.C = C → H o.kd = none → Kept [x] H H' → RulesAt K P w H' o (dd rs) names [] → Q .non H'
section
variable {P : Program} {w : World} {K : PySem.W.Frag} {mg : Str → Option Value} {base : Heap} {f fP C : Addr} {fd fdP : FuncData}
theorem ok_init (F : MethP K "__init__" "Rules.__init__" sRInit f fd) (CR : ClsR K C) (B : Bl mg) (c_places_of : Own P w K mg base "places_of" 1 fP fdP ["rows"] (spPlaces K P w)) : FnOk P w K mg base CX0 2 f fd ["self", "rows", "names"] (spInit K P w C) := by
  refine F.ok scRI (fun vs H Q E h => ?_) (fun cdv A outer s H vs Q E hr h => ?_)
  · obtain ⟨x, q, na, dx, rs, names, rfl, _⟩ := h
    rfl
  · obtain ⟨x, q, na, dx, rs, names, rfl, hx, tx, hl, hns, k⟩ := h
    refine ⟨_, PSs.nox (pss_cons (ps_fld (pv 0) (pe_callTy (call_list_dic rfl) (by rfl) B.list_ (by decide +kernel) (pa_cons (pe_call c_places_of.ok hr (by rfl) c_places_of.g c_places_of.kp c_places_of.b .nil pass0 (pa_cons (pv 1) pa_nil)) pa_nil)) rfl)
      (pss_cons (ps_fld (pv 0) (pv 2) rfl)
      (pss_one (ps_fld (pv 0) pe_dicNew rfl)))), ?_⟩
    refine ⟨_, rfl, q, rs, rfl, tx, hl, fun p H1 es k1 np1 e1 re => ⟨p, es, rfl, .inl e1, fun rl nrl => ?_⟩⟩
    have x1 : H1 x = some (.ins C dx []) := k1 _ _ hx (by simp)
    have xr : x ≠ rl := ne_of_none x1 nrl
    refine ⟨_, rfl, x, C, dx, [], rfl, by rw [upd_ne xr]; exact x1, CR.c, CR.n1, by decide, ?_⟩
    rw [pf1]
    refine ⟨_, rfl, _, rfl, x, C, dx, _, rfl, upd_same, CR.c, CR.n2, lt1, ?_⟩
    rw [pf2]
    intro kd nkd
    have kx : kd ≠ x := fun z => by
      rw [z, upd_same] at nkd
      cases nkd
    refine ⟨_, rfl, x, C, dx, _, rfl, by rw [upd_ne (Ne.symm kx)]; exact upd_same, CR.c, CR.n3, lt2, ?_⟩
    rw [pf3]
    have hv := placesE_rows re
    rw [upd_upd] at nkd ⊢
    rw [upd_ne kx] at nkd
    have krl : kd ≠ rl := fun z => by
      rw [z, upd_same] at nkd
      cases nkd
    rw [upd_ne krl] at nkd
    have n0 : ∀ {b : Addr} {o : HO}, H1 b = some o → b ≠ kd ∧ b ≠ rl := fun h => ⟨ne_of_none h nkd, ne_of_none h nrl⟩
    have old : ∀ {b : Addr} {o : HO}, H1 b = some o → b ≠ x → (L2.upd (L2.upd (L2.upd (L2.upd H1 rl (.lst (entRefs es))) x (.ins C dx [("rows", .ref rl), ("names", .ref na)])) kd (DicO P w kd [])) x (.ins C dx [("rows", .ref rl), ("names", .ref na), ("known", .ref kd)])) b = some o := fun {b o} h hb => by
      rw [upd_ne hb, upd_ne (n0 h).1, upd_ne hb, upd_ne (n0 h).2]
      exact h
    have tk : TK H1 (L2.upd (L2.upd (L2.upd (L2.upd H1 rl (.lst (entRefs es))) x (.ins C dx [("rows", .ref rl), ("names", .ref na)])) kd (DicO P w kd [])) x (.ins C dx [("rows", .ref rl), ("names", .ref na), ("known", .ref kd)])) :=
      ⟨fun b ys h => old h (ne_of h x1 (fun z => nomatch z)), fun b ob u h => old h (ne_of h x1 (fun z => nomatch z))⟩
    refine k _ ⟨x, C, dx, rl, na, kd⟩ rfl rfl (none_of k1 nkd) (fun b o h hb => old (k1 b o h (by simp)) (fun z => hb (by rw [z]; simp))) ⟨upd_same, ⟨entRefs es, ?_, hv.tk tk⟩, ?_, ?_, fun e he => absurd he (by simp)⟩
    · rw [upd_ne (Ne.symm xr), upd_ne (Ne.symm krl), upd_ne (Ne.symm xr)]
      exact upd_same
    · exact old (k1 _ _ hns (by simp)) (ne_of hns hx (fun z => nomatch z))
    · rw [upd_ne kx]
      exact upd_same
end
end Ah
end
section
set_option Elab.async false
set_option linter.all false
set_option maxRecDepth 100000
set_option maxHeartbeats 4000000
namespace Ah
open PySem PySem.Spec PyProof.Rows L2
/-! ### what follows, as the program's leads tell it -/
def workedL (rws : List Rw) (s : Say) (names : List Str) : List Lead := (workedN rws s names).map (·.2)
theorem mem_workedN {rws : List Rw} {s : Say} {names : List Str} {l : LeadN} : l ∈ workedN rws s names ↔ ∃ r, rws[l.1]? = some r ∧ l.2 ∈ leadsBy r s names ∧ useful l.2 = true := by
  unfold workedN
  rw [List.mem_flatMap]
  constructor
  · rintro ⟨⟨r, i⟩, h1, h2⟩
    obtain ⟨l', h3, rfl⟩ := List.mem_map.mp h2
    rw [List.mem_filter] at h3
    exact ⟨r, List.mem_zipIdx_iff_getElem?.mp h1, h3.1, h3.2⟩
  · rintro ⟨r, h1, h2, h3⟩
    exact ⟨(r, l.1), List.mem_zipIdx_iff_getElem?.mpr h1, List.mem_map.mpr ⟨l.2, List.mem_filter.mpr ⟨h2, h3⟩, rfl⟩⟩
def other (l : Lead) (s : Say) : Option Say := if l.1 = s then l.2.1 else some l.1
def sayOf : Rw → Option Say
  | .is n k => some (.is n k) | .has n t m => some (.has n t m) | _ => none
inductive Fol (rws : List Rw) (names : List Str) : Say → Prop where
  | base {r : Rw} {s : Say} : r ∈ rws → sayOf r = some s → Fol rws names s
  | one {s : Say} {l : Lead} : Fol rws names s → l ∈ workedL rws s names → other l s = none → Fol rws names l.2.2
  | two {s s2 : Say} {l : Lead} : Fol rws names s → l ∈ workedL rws s names → other l s = some s2 → Fol rws names s2 → Fol rws names l.2.2
def Say.names : Say → List Str
  | .is n _ => [n] | .has n _ m => [n, m] | .clash => []
theorem mem_worked {rws : List Rw} {s : Say} {names : List Str} {l : Lead} : l ∈ workedL rws s names ↔ ∃ r ∈ rws, l ∈ leadsBy r s names ∧ useful l = true := by
  unfold workedL
  rw [List.mem_map]
  constructor
  · rintro ⟨⟨i, l'⟩, h1, rfl⟩
    obtain ⟨r, h2, h3, h4⟩ := mem_workedN.mp h1
    exact ⟨r, List.mem_of_getElem? h2, h3, h4⟩
  · rintro ⟨r, h1, h2, h3⟩
    obtain ⟨i, hi⟩ := List.mem_iff_getElem?.mp h1
    exact ⟨(i, l), mem_workedN.mpr ⟨r, hi, h2, h3⟩, rfl⟩
/-- a lead of two sayings is told by either -/
theorem lead_sym {r : Rw} {s s2 : Say} {names : List Str} {l : Lead} (hs : ∀ x ∈ s.names, x ∈ names) (hl : l ∈ leadsBy r s names) (ho : other l s = some s2) : ∃ l' ∈ leadsBy r s2 names, l'.2.2 = l.2.2 ∧ other l' s2 = some s ∧ (useful l = true → useful l' = true) := by
  cases s with
  | clash => exact absurd hl (by simp [leadsBy])
  | is n k =>
    cases r <;> simp only [leadsBy, leadsKind] at hl <;> (try split at hl) <;> (try simp only [List.mem_cons, List.mem_map, List.not_mem_nil, or_false] at hl) <;> (try exact hl.elim)
    all_goals first
      | (subst hl; simp [other] at ho; done)
      | skip
    · rename_i k1 k2 hk
      subst hl
      have ho' : (if (if k1 = k then k2 else k1) = k then none else some (Say.is n (if k1 = k then k2 else k1))) = some s2 := by
        unfold other at ho
        rw [if_pos rfl] at ho
        exact ho
      by_cases h1 : k1 = k
      · rw [if_pos h1] at ho'
        by_cases h2 : k2 = k
        · rw [if_pos h2] at ho'
          cases ho'
        · rw [if_neg h2] at ho'
          rw [← Option.some.inj ho']
          have h3 : ¬ k1 = k2 := fun z => h2 (z ▸ h1)
          refine ⟨(.is n k2, some (.is n k), .clash), ?_, rfl, by simp [other], fun _ => by simp [useful]⟩
          simp [leadsBy, leadsKind, h3, h1, Ne.symm h2, show ¬ k = k2 from fun z => h2 z.symm]
      · have h2 : k2 = k := by
          rcases List.mem_cons.mp hk with z | z
          · exact absurd z.symm h1
          · exact (List.mem_singleton.mp z).symm
        rw [if_neg h1, if_neg h1] at ho'
        rw [← Option.some.inj ho']
        refine ⟨(.is n k1, some (.is n k), .clash), ?_, rfl, by simp [other], fun _ => by simp [useful]⟩
        simp [leadsBy, leadsKind, h2, show ¬ k = k1 from fun z => h1 z.symm]
    · rename_i a b c hk
      obtain ⟨x, hx, rfl⟩ := hl
      have ho' : some (Say.has x a n) = some s2 := by
        unfold other at ho
        rw [if_neg (fun z => nomatch z)] at ho
        exact ho
      rw [← Option.some.inj ho']
      refine ⟨(.has x a n, some (.is n b), .is x c), by simp [leadsBy, leadsTie], rfl, by simp [other, hk], fun h => by simpa [useful, hk] using h⟩
  | has n t m =>
    cases r <;> simp only [leadsBy, leadsTie, leadsOn] at hl <;> (try split at hl) <;> (try simp only [List.mem_cons, List.mem_map, List.not_mem_nil, or_false, List.mem_append] at hl) <;> (try exact hl.elim)
    all_goals first
      | (subst hl; simp [other] at ho; done)
      | skip
    · rename_i a b c hk
      subst hl
      have ho' : some (Say.is m b) = some s2 := by
        unfold other at ho
        rw [if_pos rfl] at ho
        exact ho
      rw [← Option.some.inj ho']
      refine ⟨(.has n a m, some (.is m b), .is n c), ?_, rfl, by simp [other, hk], fun h => by simpa [useful, hk] using h⟩
      simp only [leadsBy, leadsKind, if_true, List.mem_map]
      exact ⟨n, hs n (by simp [Say.names]), rfl⟩
    · rename_i a hk
      subst hk
      rcases hl with ⟨x, hx, rfl⟩ | ⟨x, hx, rfl⟩
      · have ho' : some (Say.has m a x) = some s2 := by
          unfold other at ho
          rw [if_pos rfl] at ho
          exact ho
        rw [← Option.some.inj ho']
        refine ⟨(.has n a m, some (.has m a x), .has n a x), ?_, rfl, ?_, fun h => h⟩
        · simp only [leadsBy, leadsTie, leadsOn, if_true, List.mem_append, List.mem_map]
          exact .inr ⟨n, hs n (by simp [Say.names]), rfl⟩
        · unfold other
          split
          · rename_i e
            exact congrArg some e.symm
          · rfl
      · by_cases e : Say.has x a n = Say.has n a m
        · have ho' : some (Say.has n a m) = some s2 := by
            unfold other at ho
            rw [if_pos e] at ho
            exact ho
          rw [← Option.some.inj ho']
          refine ⟨(.has x a n, some (.has n a m), .has x a m), ?_, rfl, ?_, fun h => h⟩
          · simp only [leadsBy, leadsTie, leadsOn, if_true, List.mem_append, List.mem_map]
            exact .inr ⟨x, hx, rfl⟩
          · unfold other
            rw [if_pos e]
        · have ho' : some (Say.has x a n) = some s2 := by
            unfold other at ho
            rw [if_neg e] at ho
            exact ho
          rw [← Option.some.inj ho']
          refine ⟨(.has x a n, some (.has n a m), .has x a m), ?_, rfl, ?_, fun h => h⟩
          · simp only [leadsBy, leadsTie, leadsOn, if_true, List.mem_append, List.mem_map]
            exact .inl ⟨m, hs m (by simp [Say.names]), rfl⟩
          · unfold other
            rw [if_pos rfl]
theorem worked_sym {rws : List Rw} {s s2 : Say} {names : List Str} {l : Lead} (hs : ∀ x ∈ s.names, x ∈ names) (hl : l ∈ workedL rws s names) (ho : other l s = some s2) : ∃ l' ∈ workedL rws s2 names, l'.2.2 = l.2.2 ∧ other l' s2 = some s := by
  obtain ⟨r, h1, h2, h3⟩ := mem_worked.mp hl
  obtain ⟨l', g1, g2, g3, g4⟩ := lead_sym hs h2 ho
  exact ⟨l', mem_worked.mpr ⟨r, h1, g1, g4 h3⟩, g2, g3⟩
/-- a set of sayings that is closed so holds all that follows -/
theorem fol_least {rws : List Rw} {names : List Str} {M : Say → Prop} (h0 : ∀ r ∈ rws, ∀ s, sayOf r = some s → M s) (h1 : ∀ s l, M s → l ∈ workedL rws s names → (other l s = none ∨ ∃ s2, other l s = some s2 ∧ M s2) → M l.2.2) : ∀ s, Fol rws names s → M s := by
  intro s h
  induction h with
  | base hr e => exact h0 _ hr _ e
  | one _ hl ho ih => exact h1 _ _ ih hl (.inl ho)
  | two _ hl ho _ ih ih2 => exact h1 _ _ ih hl (.inr ⟨_, ho, ih2⟩)
end Ah
end
section
set_option Elab.async false
set_option linter.all false
set_option maxRecDepth 100000
set_option maxHeartbeats 4000000
namespace Ah
open PySem PySem.Spec PyProof.Rows L2
theorem len_sub {α : Type} : ∀ (l m : List α), l.Nodup → (∀ x ∈ l, x ∈ m) → l.length ≤ m.length
  | [], _, _, _ => Nat.zero_le _
  | a :: l, m, hn, h => by
    obtain ⟨m1, m2, e⟩ := List.append_of_mem (h a (List.mem_cons_self ..))
    rw [List.nodup_cons] at hn
    have ih := len_sub l (m1 ++ m2) hn.2 fun x hx => by
      have hx2 := h x (List.mem_cons_of_mem _ hx)
      rw [e] at hx2
      rcases List.mem_append.mp hx2 with q | q
      · exact List.mem_append_left _ q
      · rcases List.mem_cons.mp q with z | z
        · exact absurd (z ▸ hx) hn.1
        · exact List.mem_append_right _ z
    rw [e, List.length_append, List.length_cons]
    rw [List.length_append] at ih
    rw [List.length_cons]
    omega
theorem paired_last {α β : Type} {R : α → β → Prop} : ∀ {ws : List α} {ss : List β}, Paired R ws ss → ss ≠ [] → ∃ ws0 y ss0 s, ws = ws0 ++ [y] ∧ ss = ss0 ++ [s] ∧ Paired R ws0 ss0 ∧ R y s
  | _, _, .nil, h => (h rfl).elim
  | a :: ws, b :: ss, .cons h t, _ => by
    cases ss with
    | nil =>
      cases t
      exact ⟨[], a, [], b, rfl, rfl, .nil, h⟩
    | cons c ss =>
      obtain ⟨ws0, y, ss0, s, e1, e2, r, q⟩ := paired_last t (fun z => nomatch z)
      exact ⟨a :: ws0, y, b :: ss0, s, by rw [e1]; rfl, by rw [e2]; rfl, .cons h r, q⟩
/-- the saying is a key -/
def HasE (es : List Ent) (s : Say) : Prop := ∃ e ∈ es, e.1 = keyW s.ws
theorem hasE_val {es : List Ent} {s : Say} : HasE es s ↔ (valE es (keyW s.ws)).isSome = true := by
  rw [valE_mem]
  constructor
  · rintro ⟨e, h1, h2⟩
    exact List.mem_map.mpr ⟨e, h1, h2⟩
  · intro h
    obtain ⟨e, h1, h2⟩ := List.mem_map.mp h
    exact ⟨e, h1, h2⟩
/-- the keys are sayings that follow -/
def SayE (K : PySem.W.Frag) (H : Hp) (rws : List Rw) (names : List Str) (es : List Ent) : Prop := ∀ e ∈ es, ∃ s, Fol rws names s ∧ e.1 = keyW s.ws ∧ SqT K H e.2.1 (s.ws.map V.str)
theorem SayE.keys {K : PySem.W.Frag} {H : Hp} {rws : List Rw} {names : List Str} {es : List Ent} (h : SayE K H rws names es) : KeysIn K H es := fun e he => by
  obtain ⟨s, _, h1, h2⟩ := h e he
  rw [h1, keyW_kV]
  exact h2
theorem SayE.tk {K : PySem.W.Frag} {H H' : Hp} {rws : List Rw} {names : List Str} {es : List Ent} (k : TK H H') (h : SayE K H rws names es) : SayE K H' rws names es := fun e he => let ⟨s, h1, h2, h3⟩ := h e he; ⟨s, h1, h2, sqT_tk k h3⟩
theorem SayE.fol {K : PySem.W.Frag} {H : Hp} {rws : List Rw} {names : List Str} {es : List Ent} (h : SayE K H rws names es) {s : Say} (hs : HasE es s) : Fol rws names s := by
  obtain ⟨e, he, e1⟩ := hs
  obtain ⟨s', h1, h2, _⟩ := h e he
  rw [Say.inj (keyW_inj (e1.symm.trans h2))]
  exact h1
/-- another list is written -/
theorem RulesAt.updL {K : PySem.W.Frag} {P : Program} {w : World} {H : Hp} {o : RObj} {rws : List Rw} {names : List Str} {es : List Ent} {Wz : Addr} {ws ws' : List V} (h : RulesAt K P w H o rws names es) (hW : H Wz = some (.lst ws)) (n1 : o.rl ≠ Wz) (n2 : o.na ≠ Wz) (n3 : ∀ e ∈ es, e.2.2 ≠ V.ref Wz) :
    RulesAt K P w (L2.upd H Wz (.lst ws')) o rws names es := by
  have tk : TK H (L2.upd H Wz (.lst ws')) := (TK.refl H).updL hW
  refine ⟨?_, ?_, ?_, ?_, fun e he => ?_⟩
  · rw [upd_ne (ne_of h.ob hW (fun z => nomatch z))]
    exact h.ob
  · obtain ⟨vs, h1, h2⟩ := h.rows
    exact ⟨vs, by rw [upd_ne n1]; exact h1, h2.tk tk⟩
  · rw [upd_ne n2]
    exact h.ns
  · rw [upd_ne (ne_of h.kn hW (fun z => nomatch z))]
    exact h.kn
  · obtain ⟨s, fl, h1, h2, h3, vs, h4, h5⟩ := h.ents e he
    exact ⟨s, fl, h1, sqT_tk tk h2, h3, vs, by rw [upd_ne (fun z => n3 e he (by rw [h3, z]))]; exact h4, Paired.mapP h5 fun _ _ q => q.tk tk⟩
theorem RulesAt.updD {K : PySem.W.Frag} {P : Program} {w : World} {H : Hp} {o : RObj} {rws : List Rw} {names : List Str} {es es1 es2 : List Ent} {Dz : Addr} (h : RulesAt K P w H o rws names es) (hD : H Dz = some (DicO P w Dz es1)) (n1 : o.kd ≠ Dz) :
    RulesAt K P w (L2.upd H Dz (DicO P w Dz es2)) o rws names es := by
  have tk : TK H (L2.upd H Dz (DicO P w Dz es2)) := (TK.refl H).upd hD (fun _ z => nomatch z) (fun _ _ z => nomatch z)
  have lk : ∀ {l : Addr} {ys : List V}, H l = some (.lst ys) → (L2.upd H Dz (DicO P w Dz es2)) l = some (.lst ys) := fun {l ys} q => by
    rw [upd_ne (ne_of q hD (fun z => nomatch z))]
    exact q
  refine ⟨?_, ?_, ?_, ?_, fun e he => ?_⟩
  · rw [upd_ne (ne_of h.ob hD (fun z => nomatch z))]
    exact h.ob
  · obtain ⟨vs, h1, h2⟩ := h.rows
    exact ⟨vs, lk h1, h2.tk tk⟩
  · exact lk h.ns
  · rw [upd_ne n1]
    exact h.kn
  · obtain ⟨s, fl, h1, h2, h3, vs, h4, h5⟩ := h.ents e he
    exact ⟨s, fl, h1, sqT_tk tk h2, h3, vs, lk h4, Paired.mapP h5 fun _ _ q => q.tk tk⟩
theorem kM_far {M : List Addr} {H H' : Hp} {D : Addr} {o : HO} (n : H D = none) (k : Kept M H H') : Kept M H (L2.upd H' D o) := Kept.far (Kept.refl H) n k
theorem row_test (r : Rw) : ∃ h rest, r.ws = h :: rest ∧ inV (V.str h) [V.str "is", V.str "has"] = (sayOf r).isSome := by
  cases r <;> exact ⟨_, _, rfl, by rfl⟩
theorem say_ws {r : Rw} {s : Say} (h : sayOf r = some s) : r.ws = s.ws := by
  cases r <;> simp [sayOf] at h <;> subst h <;> rfl
end Ah
end
section
set_option Elab.async false
set_option linter.all false
set_option maxRecDepth 100000
set_option maxHeartbeats 4000000
namespace Ah
open PySem PySem.Spec PyProof.Rows L2
/-! ### the law's few words -/
def rowNames : Rw → List Str
  | .is n _ => [n] | .isnt n _ => [n] | .has n _ m => [n, m] | .hasnt n _ m => [n, m] | .each _ _ m => [m] | _ => []
theorem told_name (r : Rw) : toldW "name" r.ws = rowNames r := by
  cases r <;> rfl
def Say.few : Say → Prop
  | .is n k => n ∈ namesL ∧ k ∈ kindsL | .has n t m => n ∈ namesL ∧ t ∈ tiesL ∧ m ∈ namesL | .clash => True
def allSay : List Say := (namesL.flatMap fun n => kindsL.map fun k => Say.is n k) ++ (namesL.flatMap fun n => tiesL.flatMap fun t => namesL.map fun m => Say.has n t m) ++ [.clash]
theorem mem_allSay {s : Say} (h : s.few) : s ∈ allSay := by
  unfold allSay
  cases s with
  | clash => simp
  | is n k =>
    obtain ⟨h1, h2⟩ := h
    refine List.mem_append_left _ (List.mem_append_left _ (List.mem_flatMap.mpr ⟨n, h1, List.mem_map.mpr ⟨k, h2, rfl⟩⟩))
  | has n t m =>
    obtain ⟨h1, h2, h3⟩ := h
    refine List.mem_append_left _ (List.mem_append_right _ (List.mem_flatMap.mpr ⟨n, h1, List.mem_flatMap.mpr ⟨t, h2, List.mem_map.mpr ⟨m, h3, rfl⟩⟩⟩))
theorem allSay_len : allSay.length = 28 := by decide +kernel
theorem allSay_ok : ∀ s ∈ allSay, okW s.ws := by
  unfold okW
  decide +kernel
theorem few_word : ∀ w ∈ namesL ++ kindsL ++ tiesL, PyData.strOk w = true ∧ isWord w = true := by decide +kernel
theorem w_name {w : Str} (h : w ∈ namesL) : PyData.strOk w = true ∧ isWord w = true := few_word w (List.mem_append_left _ (List.mem_append_left _ h))
theorem w_kind {w : Str} (h : w ∈ kindsL) : PyData.strOk w = true ∧ isWord w = true := few_word w (List.mem_append_left _ (List.mem_append_right _ h))
theorem w_tie {w : Str} (h : w ∈ tiesL) : PyData.strOk w = true ∧ isWord w = true := few_word w (List.mem_append_right _ h)
theorem few_ok {r : Rw} (h : r.few) : okW r.ws := by
  unfold okW
  cases r <;> simp only [Rw.few] at h <;> simp only [Rw.ws, List.all_cons, List.all_nil, Bool.and_true, Bool.and_eq_true]
  case is n k => exact ⟨by decide +kernel, (w_name h.1).1, (w_kind h.2).1⟩
  case isnt n k => exact ⟨by decide +kernel, (w_name h.1).1, (w_kind h.2).1⟩
  case has n t m => exact ⟨by decide +kernel, (w_name h.1).1, (w_tie h.2.1).1, (w_name h.2.2).1⟩
  case hasnt n t m => exact ⟨by decide +kernel, (w_name h.1).1, (w_tie h.2.1).1, (w_name h.2.2).1⟩
  case all k l => exact ⟨by decide +kernel, (w_kind h.1).1, (w_kind h.2).1⟩
  case no k l => exact ⟨by decide +kernel, (w_kind h.1).1, (w_kind h.2).1⟩
  case each k t m => exact ⟨by decide +kernel, (w_kind h.1).1, (w_tie h.2.1).1, (w_name h.2.2).1⟩
  case who t k l => exact ⟨by decide +kernel, (w_tie h.1).1, (w_kind h.2.1).1, (w_kind h.2.2).1⟩
  case turned t s => exact ⟨by decide +kernel, (w_tie h.1).1, (w_tie h.2).1⟩
  case on t => exact ⟨by decide +kernel, (w_tie h).1⟩
  case fr t k => exact ⟨by decide +kernel, (w_tie h.1).1, (w_kind h.2).1⟩
  case to t k => exact ⟨by decide +kernel, (w_tie h.1).1, (w_kind h.2).1⟩
  case under t s => exact ⟨by decide +kernel, (w_tie h.1).1, (w_tie h.2).1⟩
theorem rowL_of {h : Str} {rest ps : List Str} (e : formsL.lookup h = some ps) (hl : rest.length = ps.length) (hw : ∀ w ∈ rest, isWord w = true) : isRowL ((h :: rest).map V.str) = true := by
  show (match formsL.lookup h with
    | some ps => decide ((rest.map V.str).length = ps.length) && (rest.map V.str).all isWordV
    | none => false) = true
  rw [e]
  dsimp only
  rw [List.length_map, decide_eq_true hl, Bool.true_and, List.all_eq_true]
  intro v hv
  obtain ⟨w, h1, rfl⟩ := List.mem_map.mp hv
  exact hw w h1
theorem few_words {r : Rw} (h : r.few) : ∀ w ∈ r.ws.tail, isWord w = true := by
  intro w hw
  cases r <;> simp only [Rw.few] at h <;> simp only [Rw.ws, List.tail_cons, List.mem_cons, List.not_mem_nil, or_false] at hw
  case is n k => rcases hw with rfl | rfl; exact (w_name h.1).2; exact (w_kind h.2).2
  case isnt n k => rcases hw with rfl | rfl; exact (w_name h.1).2; exact (w_kind h.2).2
  case has n t m => rcases hw with rfl | rfl | rfl; exact (w_name h.1).2; exact (w_tie h.2.1).2; exact (w_name h.2.2).2
  case hasnt n t m => rcases hw with rfl | rfl | rfl; exact (w_name h.1).2; exact (w_tie h.2.1).2; exact (w_name h.2.2).2
  case all k l => rcases hw with rfl | rfl; exact (w_kind h.1).2; exact (w_kind h.2).2
  case no k l => rcases hw with rfl | rfl; exact (w_kind h.1).2; exact (w_kind h.2).2
  case each k t m => rcases hw with rfl | rfl | rfl; exact (w_kind h.1).2; exact (w_tie h.2.1).2; exact (w_name h.2.2).2
  case who t k l => rcases hw with rfl | rfl | rfl; exact (w_tie h.1).2; exact (w_kind h.2.1).2; exact (w_kind h.2.2).2
  case turned t s => rcases hw with rfl | rfl; exact (w_tie h.1).2; exact (w_tie h.2).2
  case on t => subst hw; exact (w_tie h).2
  case fr t k => rcases hw with rfl | rfl; exact (w_tie h.1).2; exact (w_kind h.2).2
  case to t k => rcases hw with rfl | rfl; exact (w_tie h.1).2; exact (w_kind h.2).2
  case under t s => rcases hw with rfl | rfl; exact (w_tie h.1).2; exact (w_tie h.2).2
theorem few_row {r : Rw} (h : r.few) : isRowL (r.ws.map V.str) = true := by
  obtain ⟨hd, rest, ps, e1, e2, e3, _⟩ := Rw.form r
  have h2 := few_words h
  rw [e1] at h2 ⊢
  exact rowL_of e2 e3 h2
theorem few_names {r : Rw} (h : r.few) : ∀ x ∈ rowNames r, x ∈ namesL := by
  intro x hx
  cases r <;> simp only [Rw.few] at h <;> simp only [rowNames, List.mem_cons, List.not_mem_nil, or_false] at hx
  case is n k => subst hx; exact h.1
  case isnt n k => subst hx; exact h.1
  case has n t m => rcases hx with rfl | rfl; exact h.1; exact h.2.2
  case hasnt n t m => rcases hx with rfl | rfl; exact h.1; exact h.2.2
  case each k t m => subst hx; exact h.2.2
/-- what follows is told by the few words, its names by the rows -/
theorem lead_few {r : Rw} {s : Say} {names : List Str} (hr : r.few) (hn : ∀ x ∈ rowNames r, x ∈ names) (hL : ∀ x ∈ names, x ∈ namesL) (hs : s.few ∧ ∀ x ∈ s.names, x ∈ names) {l : Lead} (hl : l ∈ leadsBy r s names) : l.2.2.few ∧ ∀ x ∈ l.2.2.names, x ∈ names := by
  obtain ⟨hs1, hs2⟩ := hs
  cases s with
  | clash => exact absurd hl (by simp [leadsBy])
  | is n k =>
    cases r <;> simp only [leadsBy, leadsKind] at hl <;> (try split at hl) <;> (try simp only [List.mem_cons, List.mem_map, List.not_mem_nil, or_false] at hl) <;> (try exact hl.elim)
    all_goals simp only [Rw.few, Say.few, Say.names, rowNames, List.mem_cons, List.not_mem_nil, or_false, forall_eq, forall_eq_or_imp] at hr hs1 hs2 hn
    all_goals first
      | (subst hl; simp [Say.few, Say.names, *] <;> done)
      | (obtain ⟨x, hx, rfl⟩ := hl; have hx2 := hL x hx; simp [Say.few, Say.names, *] <;> done)
  | has n t m =>
    cases r <;> simp only [leadsBy, leadsTie, leadsOn] at hl <;> (try split at hl) <;> (try simp only [List.mem_cons, List.mem_map, List.not_mem_nil, or_false, List.mem_append] at hl) <;> (try exact hl.elim)
    all_goals simp only [Rw.few, Say.few, Say.names, rowNames, List.mem_cons, List.not_mem_nil, or_false, forall_eq, forall_eq_or_imp] at hr hs1 hs2 hn
    all_goals first
      | (subst hl; simp [Say.few, Say.names, *] <;> done)
      | (obtain (⟨x, hx, rfl⟩ | ⟨x, hx, rfl⟩) := hl <;> have hx2 := hL x hx <;> simp [Say.few, Say.names, *] <;> done)
theorem fol_few {rws : List Rw} {names : List Str} (hr : ∀ r ∈ rws, r.few) (hn : ∀ r ∈ rws, ∀ x ∈ rowNames r, x ∈ names) (hL : ∀ x ∈ names, x ∈ namesL) : ∀ s, Fol rws names s → s.few ∧ ∀ x ∈ s.names, x ∈ names := by
  refine fol_least (fun r h1 s h2 => ?_) fun s l h1 h2 _ => ?_
  · have a := hr r h1
    have b := hn r h1
    cases r <;> simp [sayOf] at h2 <;> subst h2
    · exact ⟨a, b⟩
    · exact ⟨a, b⟩
  · obtain ⟨r, g1, g2, _⟩ := mem_worked.mp h2
    exact lead_few (hr r g1) (hn r g1) hL h1 g2
end Ah
end
section
set_option Elab.async false
set_option linter.all false
set_option maxRecDepth 100000
set_option maxHeartbeats 8000000
namespace Ah
open PySem PySem.Spec PyProof.Rows L2
open GxR (TabB TabG Tabbed)
theorem scNO : FnScope ["rows"] ["rows"] (defScope sNamesOf) := ⟨rfl, rfl, rfl, by decide +kernel, rfl, by decide +kernel, by decide +kernel⟩
def spNames (K : PySem.W.Frag) : Sp := fun vs H Q _ => ∃ (q : Addr) (rs : List Rw), vs = [.ref q] ∧ TextW K H q rs ∧ rs.length ≤ 1000 ∧
  ∀ (p : Addr) (bs : List Str) (H' : Hp), Kept [] H H' → H p = none → H' p = some (.lst (bs.map V.str)) → (∀ z, z ∈ bs ↔ ∃ r ∈ rs, z ∈ rowNames r) → bs.length ≤ 3 * rs.length → bs.Nodup → Q (.ref p) H'
theorem TextAt.kp {T : List Addr} {H H' : Hp} {q : Addr} {rs : List Rw} (ht : ∀ P ∈ T, TabG H P) (k : Kp T H H') (h : TextAt H q rs) : TextAt H' q rs := by
  obtain ⟨ps, h1, h2⟩ := h
  exact ⟨ps, k.obj ht h1, Paired.mapP h2 fun _ _ e => k.obj ht e⟩
theorem TextAt.kept {M : List Addr} {H H' : Hp} {q : Addr} {rs : List Rw} (k : TK H H') (h : TextAt H q rs) : TextAt H' q rs := by
  obtain ⟨ps, h1, h2⟩ := h
  exact ⟨ps, k.tup _ _ h1, Paired.mapP h2 fun _ _ e => k.tup _ _ e⟩
theorem sort_says {rws : List Rw} {names : List Str} {bs : List Tx} (h : ∀ b ∈ bs, ∃ s, s ≠ Say.clash ∧ Fol rws names s ∧ b.2 = keyW s.ws) : SortT bs := by
  constructor
  · intro d hd d' hd'
    obtain ⟨b, hb, rfl⟩ := List.mem_map.mp hd
    obtain ⟨b', hb', rfl⟩ := List.mem_map.mp hd'
    obtain ⟨s, _, _, e⟩ := h b hb
    obtain ⟨s', _, _, e'⟩ := h b' hb'
    unfold encT
    rw [e, e', PySem.W.alike]
    have go : ∀ xs ys : List Str, PySem.W.alikeAll ((keyW xs).map keyD) ((keyW ys).map keyD) = true := by
      intro xs
      induction xs with
      | nil => intro ys; simp [keyW, PySem.W.alikeAll]
      | cons x xs ih =>
        intro ys
        cases ys with
        | nil => simp [keyW, PySem.W.alikeAll]
        | cons y ys =>
          show PySem.W.alikeAll (PyData.str x :: (keyW xs).map keyD) (PyData.str y :: (keyW ys).map keyD) = true
          rw [PySem.W.alikeAll, ih ys]
          simp [PySem.W.alike]
    exact go _ _
  · intro b hb e
    obtain ⟨s, _, _, e'⟩ := h b hb
    rw [e] at e'
    cases s <;> cases e'
theorem few_len {r : Rw} (h : r.few) : ∀ z ∈ r.ws, z.length ≤ 100 := by
  intro z hz
  obtain ⟨hd, rest, ps, e1, _, _, _⟩ := Rw.form r
  have h2 := few_words h
  rw [e1] at h2 hz
  rcases List.mem_cons.mp hz with q | q
  · rw [q]
    cases r <;> cases e1 <;> decide +kernel
  · have h3 := h2 z q
    unfold isWord at h3
    simp only [Bool.and_eq_true, decide_eq_true_eq] at h3
    omega
theorem Kp.of {T : List Addr} {H H' : Hp} (ht : ∀ P ∈ T, TabG H P) (k : Kept [] H H') : Kp T H H' := ⟨fun P hP => by
  obtain ⟨qs, h2, h3⟩ := ht P hP
  exact ⟨qs, k _ _ h2 (by simp), h3⟩, fun b o e _ => k b o e (by simp)⟩
theorem Kp.fresh {T : List Addr} {H H' : Hp} {p : Addr} (ht : ∀ P ∈ T, TabG H P) (k : Kp T H H') (n : H' p = none) : H p = none := by
  cases e : H p with
  | none => rfl
  | some o =>
    by_cases hp : p ∈ T
    · obtain ⟨qs, h2, _⟩ := k.tab p hp
      rw [n] at h2
      cases h2
    · rw [k.keep p o e hp] at n
      cases n
section
variable {P : Program} {w : World} {K : PySem.W.Frag} {mg : Str → Option Value} {base : Heap} {f fT : Addr} {fd fdT : FuncData}
theorem ok_names (F : FnP K "names_of" sNamesOf f fd) (c_told_of : Own P w K mg base "told_of" 1 fT fdT ["rows", "place"] (spTold K)) : FnOk P w K mg base CX0 2 f fd ["rows"] (spNames K) := by
  refine F.ok scNO (fun vs H Q E h => ?_) (fun cdv A outer s H vs Q E hr h => ?_)
  · obtain ⟨q, rs, rfl, _⟩ := h
    rfl
  · obtain ⟨q, rs, rfl, tx, hl, k⟩ := h
    refine ⟨_, PSs.nox (pss_one (ps_ret (pe_call c_told_of.ok hr (by rfl) c_told_of.g c_told_of.kp c_told_of.b .nil pass0 (pa_cons (pv 0) (pa_cons pe_str pa_nil))))), ?_⟩
    refine ⟨_, rfl, q, rs, "name", rfl, tx, hl, fun p bs H' kk np e hm hb hnd => ?_⟩
    refine k p (bs.mergeSort leS) H' kk np e (fun z => ?_) ?_ ((List.mergeSort_perm bs leS).nodup_iff.mpr hnd)
    · rw [(List.mergeSort_perm bs leS).mem_iff, hm]
      constructor
      · rintro ⟨r, h1, h2⟩
        rw [told_name] at h2
        exact ⟨r, h1, h2⟩
      · rintro ⟨r, h1, h2⟩
        exact ⟨r, h1, by rw [told_name]; exact h2⟩
    · rw [(List.mergeSort_perm bs leS).length_eq]
      exact hb
end
end Ah
end
section
set_option Elab.async false
set_option linter.all false
set_option maxRecDepth 100000
set_option maxHeartbeats 4000000
namespace Ah
open PySem PySem.Spec PyProof.Rows L2
/-- what is fixed while the sayings are gathered -/
structure AllFix (H : Hp) (o : RObj) (rws : List Rw) (names : List Str) (U : List Say) (Dz Wz : Addr) : Prop where
  nD : H Dz = none
  nW : H Wz = none
  n1 : o.rl ≠ Wz
  n2 : o.na ≠ Wz
  n3 : o.kd ≠ Dz
  d : OkD rws names
  u1 : U.length ≤ 1000
  u2 : ∀ s, Fol rws names s → s ∈ U
  u3 : ∀ s ∈ U, okW s.ws ∧ ∀ x ∈ s.names, x ∈ names
/-- within the loop over the leads of s -/
structure AllFor (K : PySem.W.Frag) (P : Program) (w : World) (H : Hp) (o : RObj) (rws : List Rw) (names : List Str) (Dz Wz : Addr) (s : Say) (es2 esk : List Ent) (ss0 : List Say) (fl : Addr) (fvs : List V) (H' : Hp) (j : Nat) (Hd : Hp) (ws : List V) (ss : List Say) : Prop where
  w1 : Hd Wz = some (.lst ws)
  w2 : Paired (fun v s => SayAt K Hd v s) ws ss
  f : ∀ s ∈ ss, Fol rws names s
  old : ∀ s ∈ ss0, s ∈ ss
  new : ∀ l ∈ (workedL rws s names).take j, (other l s = none ∨ ∃ s2, other l s = some s2 ∧ HasE es2 s2) → l.2.2 ∈ ss
  len : ss.length ≤ ss0.length + j
  d : Hd Dz = some (DicO P w Dz es2)
  R : RulesAt K P w Hd o rws names esk
  wk : ∀ e ∈ esk, e.2.2 ≠ V.ref Wz
  kp : Kept [o.kd] H Hd
  fl1 : Hd fl = some (.lst fvs)
  fl2 : fl ≠ Wz
  tk : TK H' Hd
theorem AllFor.push {K : PySem.W.Frag} {P : Program} {w : World} {H : Hp} {o : RObj} {rws : List Rw} {names : List Str} {U : List Say} {Dz Wz : Addr} {s : Say} {es2 esk : List Ent} {ss0 : List Say} {fl : Addr} {fvs : List V} {H' : Hp} {j : Nat} {Hd : Hp} {ws : List V} {ss : List Say} {l : Lead} {v : V}
    (X : AllFix H o rws names U Dz Wz) (h : AllFor K P w H o rws names Dz Wz s es2 esk ss0 fl fvs H' j Hd ws ss) (hl : (workedL rws s names)[j]? = some l) (hv : SayAt K Hd v l.2.2) (hf : Fol rws names l.2.2) :
    AllFor K P w H o rws names Dz Wz s es2 esk ss0 fl fvs H' (j + 1) (L2.upd Hd Wz (.lst (ws ++ [v]))) (ws ++ [v]) (ss ++ [l.2.2]) := by
  have tk : TK Hd (L2.upd Hd Wz (.lst (ws ++ [v]))) := (TK.refl Hd).updL h.w1
  refine ⟨upd_same, paired_app (Paired.mapP h.w2 fun _ _ q => q.tk tk) (.cons (hv.tk tk) .nil), fun x hx => ?_, fun x hx => List.mem_append_left _ (h.old x hx), fun l' hl' c => ?_, ?_, ?_, h.R.updL h.w1 X.n1 X.n2 h.wk, h.wk, kM_far X.nW h.kp, ?_, h.fl2, h.tk.trans tk⟩
  · rcases List.mem_append.mp hx with q | q
    · exact h.f x q
    · rw [List.mem_singleton.mp q]
      exact hf
  · rcases (mem_take_succ hl).mp hl' with q | q
    · exact List.mem_append_left _ (h.new l' q c)
    · rw [q]
      exact List.mem_append_right _ (List.mem_singleton.mpr rfl)
  · rw [List.length_append, List.length_singleton]
    have := h.len
    omega
  · rw [upd_ne (ne_of h.d h.w1 (fun z => nomatch z))]
    exact h.d
  · rw [upd_ne h.fl2]
    exact h.fl1
theorem AllFor.skip {K : PySem.W.Frag} {P : Program} {w : World} {H : Hp} {o : RObj} {rws : List Rw} {names : List Str} {Dz Wz : Addr} {s : Say} {es2 esk : List Ent} {ss0 : List Say} {fl : Addr} {fvs : List V} {H' : Hp} {j : Nat} {Hd : Hp} {ws : List V} {ss : List Say} {l : Lead}
    (h : AllFor K P w H o rws names Dz Wz s es2 esk ss0 fl fvs H' j Hd ws ss) (hl : (workedL rws s names)[j]? = some l) (hn : ¬ (other l s = none ∨ ∃ s2, other l s = some s2 ∧ HasE es2 s2)) :
    AllFor K P w H o rws names Dz Wz s es2 esk ss0 fl fvs H' (j + 1) Hd ws ss := by
  refine ⟨h.w1, h.w2, h.f, h.old, fun l' hl' c => ?_, ?_, h.d, h.R, h.wk, h.kp, h.fl1, h.fl2, h.tk⟩
  · rcases (mem_take_succ hl).mp hl' with q | q
    · exact h.new l' q c
    · rw [q] at c
      exact absurd c hn
  · have := h.len
    omega
/-- at the while -/
structure AllInv (K : PySem.W.Frag) (P : Program) (w : World) (H : Hp) (o : RObj) (rws : List Rw) (names : List Str) (Dz Wz : Addr) (n0 : Nat) (Ha : Hp) (es esk : List Ent) (ws : List V) (ss : List Say) : Prop where
  d : Ha Dz = some (DicO P w Dz es)
  nd : (es.map (·.1)).Nodup
  se : SayE K Ha rws names es
  w1 : Ha Wz = some (.lst ws)
  w2 : Paired (fun v s => SayAt K Ha v s) ws ss
  f : ∀ s ∈ ss, Fol rws names s
  R : RulesAt K P w Ha o rws names esk
  kl : esk.length ≤ es.length + n0
  wk : ∀ e ∈ esk, e.2.2 ≠ V.ref Wz
  kp : Kept [o.kd] H Ha
  sl : ss.length ≤ 1000 + es.length * (rws.length * (2 * names.length + 1))
  base : ∀ r ∈ rws, ∀ s, sayOf r = some s → HasE es s ∨ s ∈ ss
  step : ∀ s l, HasE es s → l ∈ workedL rws s names → (other l s = none ∨ ∃ s2, other l s = some s2 ∧ HasE es s2) → HasE es l.2.2 ∨ l.2.2 ∈ ss
  tv : ∀ e ∈ es, e.2.2 = V.bl true
theorem AllInv.len {K : PySem.W.Frag} {P : Program} {w : World} {H : Hp} {o : RObj} {rws : List Rw} {names : List Str} {U : List Say} {Dz Wz : Addr} {n0 : Nat} {Ha : Hp} {es esk : List Ent} {ws : List V} {ss : List Say} (X : AllFix H o rws names U Dz Wz) (h : AllInv K P w H o rws names Dz Wz n0 Ha es esk ws ss) : es.length ≤ U.length := by
  have q := len_sub (es.map (·.1)) (U.map fun s => keyW s.ws) h.nd fun k hk => by
    obtain ⟨e, he, rfl⟩ := List.mem_map.mp hk
    obtain ⟨s, h1, h2, _⟩ := h.se e he
    exact List.mem_map.mpr ⟨s, X.u2 s h1, h2.symm⟩
  rw [List.length_map, List.length_map] at q
  exact q
/-- a lead, its row's number being of no matter -/
def Lead4o (K : PySem.W.Frag) (H : Hp) (v : V) (l : Lead) : Prop := ∃ q n v1 v2 v3, v = .ref q ∧ H q = some (.tup [.int n, v1, v2, v3]) ∧ SayAt K H v1 l.1 ∧ OSayAt K H v2 l.2.1 ∧ SayAt K H v3 l.2.2
theorem Lead4o.tk {K : PySem.W.Frag} {H H' : Hp} {v : V} {l : Lead} (k : TK H H') (h : Lead4o K H v l) : Lead4o K H' v l := by
  obtain ⟨q, n, v1, v2, v3, e, h1, h2, h3, h4⟩ := h
  exact ⟨q, n, v1, v2, v3, e, k.tup _ _ h1, h2.tk k, h3.tk k, h4.tk k⟩
theorem leads_o {K : PySem.W.Frag} {H : Hp} : ∀ {vs : List V} {ls : List LeadN}, Paired (Lead4 K H) vs ls → Paired (Lead4o K H) vs (ls.map (·.2))
  | _, _, .nil => .nil
  | _, _, .cons ⟨q, v1, v2, v3, e, h1, h2, h3, h4⟩ t => .cons ⟨q, _, v1, v2, v3, e, h1, h2, h3, h4⟩ (leads_o t)
end Ah
end
section
set_option Elab.async false
set_option linter.all false
set_option maxRecDepth 100000
set_option maxHeartbeats 8000000
namespace Ah
open PySem PySem.Spec PyProof.Rows L2
theorem scAR : FnScope ["rules", "found", "waiting", "row", "saying", "_", "first", "second", "result", "other"] ["rules"] (defScope sAll) := ⟨rfl, rfl, rfl, by decide +kernel, rfl, by decide +kernel, by decide +kernel⟩
def spAll (K : PySem.W.Frag) (P : Program) (w : World) (C : Addr) : Sp := fun vs H Q _ => ∃ (o : RObj) (rws : List Rw) (names : List Str) (esk : List Ent) (U : List Say), vs = [.ref o.ro] ∧ o.C = C ∧ RulesAt K P w H o rws names esk ∧ OkD rws names ∧ esk.length ≤ 1000 ∧ U.length ≤ 1000 ∧ (U.length + 1) * (rws.length * (2 * names.length + 1)) ≤ 10000000 ∧
  (∀ s, Fol rws names s → s ∈ U) ∧ (∀ s ∈ U, okW s.ws ∧ ∀ x ∈ s.names, x ∈ names) ∧
  ∀ p H' es, Kept [o.kd] H H' → H p = none → H' p = some (DicO P w p es) → SayE K H' rws names es → (∀ s, HasE es s ↔ Fol rws names s) → (es.map (·.1)).Nodup → es.length ≤ 1000 → (∀ e ∈ es, e.2.2 = V.bl true) → Q (.ref p) H'
section
variable {P : Program} {w : World} {K : PySem.W.Frag} {mg : Str → Option Value} {base : Heap} {f fL C : Addr} {fd fdL : FuncData}
theorem ok_all (F : FnP K "all_results" sAll f fd) (CR : ClsR K C) (mL : Meth K C "leads" fL) (FL : FnOk P w K mg base CX0 5 fL fdL ["self", "saying"] (spLeads K P w C)) (bL : Binds K fdL ["self", "saying"] []) :
    FnOk P w K mg base CX0 6 f fd ["rules"] (spAll K P w C) := by
  refine F.ok scAR (fun vs H Q E h => ?_) (fun cdv A outer s H vs Q E hr h => ?_)
  · obtain ⟨o, rws, names, esk, U, rfl, _⟩ := h
    rfl
  · obtain ⟨o, rws, names, esk0, U, rfl, rfl, R, D, hk0, hU1, hB, hU2, hU3, q⟩ := h
    have hu : A.units + 3 + 1 < cLine := by have := hr.units; exact (by have h2 : (A.deeper (envOfC "all_results" (defScope sAll) s.heap.objs.size f cdv)).units = A.units + 3 := rfl; omega)
    refine ⟨_, PSs.nox (pss_cons (ps_set (i := 1) scAR.nd rfl (.inl rfl) pe_dicNew)
      (pss_cons (ps_setLc (i := 2) (own := [("row", 3)]) rfl scAR.nd rfl rfl (sw_true rfl rfl rfl (by decide +kernel)) (pi_list (pe_fld (pv 0) rfl)) (blkOk_by (N := ["rules", "found", "waiting", "row", "saying", "_", "first", "second", "result", "other"]) (sc := defScope sAll) (by decide +kernel)) (fun _ _ _ _ _ => (pg_name (i := 3) scAR.nd rfl (Or.inl rfl))) (fun _ _ _ _ _ => (pts_one (pt_cmpR (show OpR _ _ (rIn K false) from op_in_seq) (pe_ix (show IxR _ (rIxT K) from ix_tup) (pv 3) pe_int (fun _ _ => rfl)) (pe_tup (pa_cons pe_str (pa_cons pe_str pa_nil))) (by rfl)))) (fun _ _ _ _ _ => (pv 3)))
      (pss_cons (ps_while PassesOwn.never (pt_truth (pv 2) (by intro _; rfl))
      (pss_cons (ps_set (i := 4) scAR.nd rfl (.inl rfl) (pe_bm0 PySem.F.plainAttrs_list PySem.F.slot_list_pop PySem.F.type_list_pop mt_pop (pv 2)))
      (pss_one (ps_if (pt_cmpR (op_notIn_dic hu) (pv 4) (pv 1) (by rfl)) (pss_cons (ps_asg pe_bl (pg_sub (pv 1) (pv 4) (set_dic hu)))
      (pss_one (ps_for PassesOwn.never rfl (pi_list (pe_meth (pv 0) CR.c mL FL hr bL .nil pass0 (pa_cons (pv 4) pa_nil))) (pg_tup rfl (pgs_cons (pg_name (i := 5) scAR.nd rfl (Or.inl rfl)) (pgs_cons (pg_name (i := 6) scAR.nd rfl (Or.inl rfl)) (pgs_cons (pg_name (i := 7) scAR.nd rfl (Or.inl rfl)) (pgs_cons (pg_name (i := 8) scAR.nd rfl (Or.inl rfl)) pgs_nil)))))
      (pss_cons (ps_set (i := 9) scAR.nd rfl (.inl rfl) (pe_ifExp (pt_cmpR (op_eqD hr.units) (pv 6) (pv 4) (nomark _)) (pv 7) (pv 6)))
      (pss_one (ps_if (PW.pt (pw_or (pt_cmpR op_isN (pv 9) pe_non (nomark _)) (pw_or1 (pt_cmpR (op_in_dic hu) (pv 9) (pv 1) (by rfl))))) (pss_one (ps_expr (pe_bm PySem.F.plainAttrs_list PySem.F.slot_list_append PySem.F.type_list_append mt_append (pv 2) (pa_cons (pv 8) pa_nil)))) pss_nil)))))) pss_nil))))
      (pss_one (ps_ret (pv 1)))))), ?_⟩
    intro Dz nD
    have R1 := R.kept ((Kept.refl (M := []) H).upd (o := DicO P w Dz []) nD)
    obtain ⟨vs, hvs, rvs⟩ := R1.rows
    have lvs : vs.length = rws.length := rvs.length
    refine ⟨_, rfl, _, _, _, _, _, rfl, R1.ob, CR.c, CR.n1, rfl, o.rl, rfl, ⟨vs, .inl (.of hvs)⟩, fun Wz nW => ?_⟩
    have nW0 : H Wz = none := none_of ((Kept.refl H).upd nD) nW
    have dw : Dz ≠ Wz := fun z => by
      rw [← z, upd_same] at nW
      cases nW
    have X : AllFix H o rws names U Dz Wz := by
      refine ⟨nD, nW0, ne_of_none hvs nW, ?_, ?_, D, hU1, hU2, hU3⟩
      · exact ne_of_none R1.ns nW
      · exact ne_of_none R.kn nD
    refine lc_it (walk_list (K := K) (a := o.rl) (xs := vs)) (fun i Ha => ∃ ws, Ha Wz = some (.lst ws) ∧ Paired (fun v s => SayAt K Ha v s) ws ((rws.take i).filterMap sayOf) ∧ Kept [] (L2.upd H Dz (DicO P w Dz [])) Ha)
      ⟨[], upd_same, .nil, (Kept.refl _).upd nW⟩ (fun i Ha _ pv => .inl (.of (pv.choose_spec.2.2 _ _ hvs (by simp)))) ?_ ?_
    · rintro i x Ha0 Ha hi ⟨ws, e1, r1, kk⟩ ⟨rfl, ey⟩
      obtain ⟨r, er, pr, rfl, hrow0⟩ := paired_at rvs ey
      have hrow : RowAt K Ha pr r := sqT_tk (.of kk) hrow0
      obtain ⟨hd, rest, ew, ei⟩ := row_test r
      have hrow2 : SqT K Ha pr (V.str hd :: rest.map V.str) := by
        unfold RowAt at hrow
        rw [ew] at hrow
        exact hrow
      refine ⟨rfl, ?_⟩
      refine ⟨_, rfl, pr, _, 0, _, rfl, rfl, hrow2, at_of (j := 0) rfl rfl, (by show 2 ≤ sizeLine; decide), fun Tp nT => ⟨Tp, _, rfl, .inr (.inl (.of upd_same)), rfl, rfl, ?_⟩⟩
      have eW : (L2.upd Ha Tp (.tup [V.str "is", V.str "has"])) Wz = some (.lst ws) := by rw [upd_ne (ne_of_none e1 nT)]; exact e1
      have kT : Kept [] (L2.upd H Dz (DicO P w Dz [])) (L2.upd Ha Tp (.tup [V.str "is", V.str "has"])) := kk.upd nT
      have tkT : TK Ha (L2.upd Ha Tp (.tup [V.str "is", V.str "has"])) := (TK.refl Ha).new nT
      have et : (rws.take (i + 1)).filterMap sayOf = (rws.take i).filterMap sayOf ++ (sayOf r).toList := by
        rw [List.take_add_one, er, List.filterMap_append]
        congr 1
      simp only [Bool.false_eq_true, if_false]
      rw [ei]
      cases hs : sayOf r with
      | none =>
        refine ⟨false, rfl, iteF ⟨ws, eW, ?_, kT⟩⟩
        rw [et, hs]
        simp only [Option.toList, List.append_nil]
        exact Paired.mapP r1 fun _ _ q => q.tk tkT
      | some sy =>
        have lw : ws.length ≤ 1000 := by
          have h1 := r1.length
          have h2 := List.length_filterMap_le sayOf (rws.take i)
          rw [List.length_take] at h2
          have h3 := D.l1
          omega
        refine ⟨true, rfl, iteT ⟨_, rfl, ws, eW, Nat.lt_of_le_of_lt lw (by decide), ws ++ [V.ref pr], upd_same, ?_, kD_far nW kT⟩⟩
        rw [et, hs]
        have tk2 := tkT.updL (o := .lst (ws ++ [V.ref pr])) eW
        refine paired_app (Paired.mapP r1 fun _ _ q => q.tk tk2) (.cons ⟨pr, rfl, ?_⟩ .nil)
        have h1 := sqT_tk tk2 hrow
        rw [say_ws hs] at h1
        exact h1
    · rintro Ha ⟨ws, e1, r1, kk⟩
      rw [lvs, List.take_of_length_le (Nat.le_refl _)] at r1
      have R2 := R1.kept kk
      have kH : Kept [o.kd] H Ha := fun b u e hb => kk _ _ (((Kept.refl (M := []) H).upd (o := DicO P w Dz []) nD) _ _ e (by simp)) (by simp)
      have I0 : AllInv K P w H o rws names Dz Wz esk0.length Ha [] esk0 ws (rws.filterMap sayOf) := by
        refine ⟨kk _ _ upd_same (by simp), List.nodup_nil, fun e he => absurd he (by simp), e1, r1, fun s hs => ?_, R2, by simp, fun e he => ?_, kH, (by have h1 := List.length_filterMap_le sayOf rws; have h2 := D.l1; simp only [List.length_nil]; omega), fun r hr s hs => .inr (List.mem_filterMap.mpr ⟨r, hr, hs⟩), fun s l h => absurd h (by rintro ⟨e, he, _⟩; exact absurd he (by simp)), fun e he => absurd he (by simp)⟩
        · obtain ⟨r, hr, e⟩ := List.mem_filterMap.mp hs
          exact .base hr e
        · obtain ⟨s', fl, h1, h2, h3, vs', h4, h5⟩ := R1.ents e he
          rw [h3]
          exact fun z => ne_of_none h4 nW (V.ref.inj z)
      refine ⟨fun m σ Ha => ∃ es esk ws ss, (∃ v3 v4 v5 v6 v7 v8 v9, σ = [some (.ref o.ro), some (.ref Dz), some (.ref Wz), v3, v4, v5, v6, v7, v8, v9]) ∧ AllInv K P w H o rws names Dz Wz esk0.length Ha es esk ws ss ∧ m = (U.length - es.length) * (1000 * 2001 + 1) + ss.length,
        ⟨_, [], esk0, ws, _, ⟨_, _, _, _, _, _, _, rfl⟩, I0, rfl⟩, ?_⟩
      rintro m σ Ha ⟨es, esk, ws, ss, ⟨v3, v4, v5, v6, v7, v8, v9, rfl⟩, I, rfl⟩
      by_cases hss : ss = []
      · subst hss
        have ew : ws = [] := by
          have h := I.w2.length
          cases ws with
          | nil => rfl
          | cons a b => simp at h
        subst ew
        refine ⟨_, rfl, false, .inl ⟨[], .inl (.of I.w1), rfl⟩, iteF ?_⟩
        refine ⟨_, rfl, q Dz Ha es I.kp nD I.d I.se (fun s => ⟨fun h => I.se.fol h, fun h => ?_⟩) I.nd (Nat.le_trans (I.len X) hU1) I.tv⟩
        refine fol_least (M := HasE es) (fun r hr s hs => ?_) (fun s l hs hl ho => ?_) s h
        · rcases I.base r hr s hs with z | z
          · exact z
          · exact absurd z (by simp)
        · rcases I.step s l hs hl ho with z | z
          · exact z
          · exact absurd z (by simp)
      · obtain ⟨ws0, y, ss0, sy, e1', e2', r0, hsy⟩ := paired_last I.w2 hss
        subst e1' e2'
        have fs : Fol rws names sy := I.f sy (List.mem_append_right _ (List.mem_singleton.mpr rfl))
        have oks := (hU3 sy (hU2 sy fs)).1
        have lU := I.len X
        have sl0 : ss0.length ≤ 1000 + es.length * (rws.length * (2 * names.length + 1)) := by
          have h := I.sl
          rw [List.length_append, List.length_singleton] at h
          omega
        refine ⟨_, rfl, true, .inl ⟨ws0 ++ [y], .inl (.of I.w1), by simp⟩, iteT ?_⟩
        refine ⟨fun σ' H' => ∃ m', m' < (U.length - es.length) * (1000 * 2001 + 1) + (ss0 ++ [sy]).length ∧ ∃ es esk ws ss, (∃ v3 v4 v5 v6 v7 v8 v9, σ' = [some (.ref o.ro), some (.ref Dz), some (.ref Wz), v3, v4, v5, v6, v7, v8, v9]) ∧ AllInv K P w H o rws names Dz Wz esk0.length H' es esk ws ss ∧ m' = (U.length - es.length) * (1000 * 2001 + 1) + ss.length, fun σ' H' h => h, ?_⟩
        refine ⟨_, rfl, .inl ⟨rfl, ws0 ++ [y], .inl (.of I.w1)⟩, Wz, ws0 ++ [y], y, rfl, rfl, I.w1, by simp, ?_⟩
        rw [List.dropLast_concat]
        -- the list is shorter by one
        have tkb : TK Ha (L2.upd Ha Wz (.lst ws0)) := (TK.refl Ha).updL I.w1
        have eDb : (L2.upd Ha Wz (.lst ws0)) Dz = some (DicO P w Dz es) := by rw [upd_ne dw]; exact I.d
        have Rb : RulesAt K P w (L2.upd Ha Wz (.lst ws0)) o rws names esk := I.R.updL I.w1 X.n1 X.n2 I.wk
        have seb := I.se.tk tkb
        have hsyb := hsy.tk tkb
        have kb : Kept [o.kd] H (L2.upd Ha Wz (.lst ws0)) := kM_far nW0 I.kp
        generalize hHb : L2.upd Ha Wz (.lst ws0) = Hb at tkb eDb Rb seb hsyb kb
        have eWb : Hb Wz = some (.lst ws0) := by rw [← hHb]; exact upd_same
        obtain ⟨sa, rfl, hsa⟩ := id hsyb
        have hkey : SqT K Hb sa ((keyW sy.ws).map kV) := by
          rw [keyW_kV]
          exact hsa
        refine ⟨_, rfl, _, rfl, Dz, sa, es, keyW sy.ws, rfl, rfl, .inl eDb, seb.keys, hkey, ?_⟩
        cases hv : valE es (keyW sy.ws) with
        | some v =>
          have hh : HasE es sy := hasE_val.mpr (by rw [hv]; rfl)
          have dr : ∀ s, s ∈ ss0 ++ [sy] → HasE es s ∨ s ∈ ss0 := fun s h => by
            rcases List.mem_append.mp h with z | z
            · exact .inr z
            · rw [List.mem_singleton.mp z]
              exact .inl hh
          refine ⟨false, rfl, iteF ⟨_, ?_, es, esk, ws0, ss0, ⟨_, _, _, _, _, _, _, rfl⟩, ⟨eDb, I.nd, seb, eWb, Paired.mapP r0 fun _ _ q => q.tk tkb, fun s hs => I.f s (List.mem_append_left _ hs), Rb, I.kl, I.wk, kb, sl0, fun r hr s hs => ?_, fun s l h1 h2 h3 => ?_, I.tv⟩, rfl⟩⟩
          · rw [List.length_append, List.length_singleton]
            omega
          · rcases I.base r hr s hs with z | z
            · exact .inl z
            · exact dr s z
          · rcases I.step s l h1 h2 h3 with z | z
            · exact .inl z
            · exact dr _ z
        | none =>
          have hsz : es.length < sizeLine := Nat.lt_of_le_of_lt (show es.length ≤ 1000 by omega) (by decide)
          refine ⟨true, rfl, iteT ?_⟩
          refine ⟨_, rfl, _, rfl, Dz, sa, es, keyW sy.ws, rfl, rfl, eDb, seb.keys, hkey, hsz, ?_⟩
          rw [putE_new hv]
          generalize hes2 : es ++ [(keyW sy.ws, sa, V.bl true)] = es2
          have tkc : TK Hb (L2.upd Hb Dz (DicO P w Dz es2)) := (TK.refl Hb).upd eDb (fun _ z => nomatch z) (fun _ _ z => nomatch z)
          have Rc : RulesAt K P w (L2.upd Hb Dz (DicO P w Dz es2)) o rws names esk := Rb.updD eDb X.n3
          have tv2 : ∀ e ∈ es2, e.2.2 = V.bl true := fun e he => by
            rw [← hes2] at he
            rcases List.mem_append.mp he with z | z
            · exact I.tv e z
            · rw [List.mem_singleton.mp z]
          have l2 : es2.length = es.length + 1 := by rw [← hes2, List.length_append, List.length_singleton]
          have nd2 : (es2.map (·.1)).Nodup := by
            have h := putE_nodup (keyW sy.ws) sa (V.bl true) I.nd
            rw [putE_new hv, hes2] at h
            exact h
          have has2 : ∀ s, HasE es2 s ↔ HasE es s ∨ s = sy := fun s => by
            constructor
            · rintro ⟨e, he, ek⟩
              rw [← hes2] at he
              rcases List.mem_append.mp he with z | z
              · exact .inl ⟨e, z, ek⟩
              · rw [List.mem_singleton.mp z] at ek
                exact .inr (Say.inj (keyW_inj ek.symm))
            · rintro (⟨e, he, ek⟩ | z)
              · exact ⟨e, by rw [← hes2]; exact List.mem_append_left _ he, ek⟩
              · exact ⟨_, by rw [← hes2]; exact List.mem_append_right _ (List.mem_singleton.mpr rfl), by rw [z]⟩
          have sec : SayE K (L2.upd Hb Dz (DicO P w Dz es2)) rws names es2 := fun e he => by
            rw [← hes2] at he
            rcases List.mem_append.mp he with z | z
            · exact (seb.tk tkc) e z
            · rw [List.mem_singleton.mp z]
              exact ⟨sy, fs, rfl, sqT_tk tkc hsa⟩
          have hsyc : SayAt K (L2.upd Hb Dz (DicO P w Dz es2)) (V.ref sa) sy := SayAt.tk tkc ⟨sa, rfl, hsa⟩
          have eWc : (L2.upd Hb Dz (DicO P w Dz es2)) Wz = some (.lst ws0) := by rw [upd_ne (Ne.symm dw)]; exact eWb
          have eDc : (L2.upd Hb Dz (DicO P w Dz es2)) Dz = some (DicO P w Dz es2) := upd_same
          have kc : Kept [o.kd] H (L2.upd Hb Dz (DicO P w Dz es2)) := kM_far nD kb
          have r0c := Paired.mapP r0 fun _ _ q => SayAt.tk tkc (SayAt.tk tkb q)
          have lU2 : es2.length ≤ U.length := by
            have qq := len_sub (es2.map (·.1)) (U.map fun s => keyW s.ws) nd2 fun k hk => by
              obtain ⟨e, he, rfl⟩ := List.mem_map.mp hk
              obtain ⟨s, h1, h2, _⟩ := sec e he
              exact List.mem_map.mpr ⟨s, hU2 s h1, h2.symm⟩
            rw [List.length_map, List.length_map] at qq
            exact qq
          have kl := I.kl
          refine ⟨_, rfl, o.ro, o.dx, _, rfl, Rc.ob, rfl, _, rfl, o, _, rws, names, esk, sy, rfl, rfl, Rc, hsyc, oks, D, by omega, fun fl Hl esk2 k2 R2 lk fa sep => ?_⟩
          obtain ⟨fw, esk3⟩ := sep Wz (fun z => by have q := eWc.symm.trans z; cases q) I.wk
          obtain ⟨fvs, efl, rfl20⟩ := fa
          have rfl2 : Paired (Lead4o K Hl) fvs (workedL rws sy names) := leads_o rfl20
          have lN : (workedL rws sy names).length = (workedN rws sy names).length := List.length_map ..
          have nWk : Wz ≠ o.kd := ne_of eWc Rc.kn (fun z => nomatch z)
          have nDk : Dz ≠ o.kd := Ne.symm X.n3
          have tkl : TK (L2.upd Hb Dz (DicO P w Dz es2)) Hl := ⟨fun b ys h => k2 b _ h (by simp; exact ne_of h Rc.kn (fun z => nomatch z)), fun b ob u h => k2 b _ h (by simp; exact ne_of h Rc.kn (fun z => nomatch z))⟩
          have bdw : (workedL rws sy names).length ≤ 1000 * 2001 := by
            rw [lN]
            refine Nat.le_trans (worked_len names sy rws) (Nat.mul_le_mul D.l1 ?_)
            have := D.l2
            omega
          have lf : fvs.length = (workedL rws sy names).length := rfl2.length
          have G0 : AllFor K P w H o rws names Dz Wz sy es2 esk2 ss0 fl fvs Hl 0 Hl ws0 ss0 :=
            ⟨k2 _ _ eWc (by simp [nWk]), Paired.mapP r0c fun _ _ q => q.tk tkl, fun s hs => I.f s (List.mem_append_left _ hs), fun _ h => h, fun l hl => absurd hl (by simp), Nat.le_refl _, k2 _ _ eDc (by simp [nDk]), R2, esk3, kc.trans k2, efl, fw, TK.refl Hl⟩
          have se2 := sec.tk tkl
          have lss : ss0.length ≤ 1000 + 10000000 := by
            have h1 : es.length * (rws.length * (2 * names.length + 1)) ≤ (U.length + 1) * (rws.length * (2 * names.length + 1)) := Nat.mul_le_mul_right _ (by omega)
            omega
          refine ⟨fl, rfl, ⟨_, .inl (.of efl)⟩, for_it (walk_list (K := K) (a := fl) (xs := fvs))
            (fun j σ Hd => (∃ v3 v5 v6 v7 v8 v9, σ = [some (.ref o.ro), some (.ref Dz), some (.ref Wz), v3, some (.ref sa), v5, v6, v7, v8, v9]) ∧ ∃ ws2 ss2, AllFor K P w H o rws names Dz Wz sy es2 esk2 ss0 fl fvs Hl j Hd ws2 ss2)
            ⟨⟨_, _, _, _, _, _, rfl⟩, ws0, ss0, G0⟩ (fun j σ Hd _ pv => .inl (.of pv.2.choose_spec.choose_spec.fl1)) ?_ ?_⟩
          · rintro j x σ Hd0 Hd hj ⟨⟨v3, v5, v6, v7, v8, v9, rfl⟩, ws2, ss2, G⟩ ⟨rfl, ey⟩
            obtain ⟨l, hl, hla⟩ := paired_at rfl2 ey
            obtain ⟨qa, nn, w1, w2, w3, rfl, t1, s1, s2', s3⟩ := hla.tk G.tk
            have hlm : l ∈ workedL rws sy names := List.mem_of_getElem? hl
            have hsd : SayAt K Hd (V.ref sa) sy := (hsyc.tk tkl).tk G.tk
            obtain ⟨rr, hr1, hr2, hr3⟩ := mem_worked.mp hlm
            have ol := okL_by (D.rok rr hr1) oks D.nok l hr2
            have gl := G.len
            have lw2 : ws2.length = ss2.length := G.w2.length
            refine ⟨qa, _, rfl, .inl (.of t1), rfl, _, _, rfl, _, _, rfl, _, _, rfl, _, _, rfl, rfl, ?_⟩
            refine ⟨_, rfl, _, rfl, rd_eqS (s := l.1) (t := sy) s1 hsd ol.1 oks ⟨_, rfl, if_dec (fun e => ?_) (fun e => ?_)⟩⟩
            · refine ⟨_, rfl, ?_⟩
              have oX : OSayAt K Hd w2 (other l sy) := by
                unfold other
                rw [if_pos e]
                exact s2'
              cases ho : other l sy with
              | none =>
                obtain rfl : w2 = V.non := by
                  have q := oX
                  rw [ho] at q
                  exact q
                refine ⟨_, rfl, rfl, _, rfl, ?_⟩
                rw [decide_eq_true rfl]
                refine iteT ?_
                refine ⟨_, rfl, .inl ⟨rfl, ws2, .inl (.of G.w1)⟩, _, rfl, Wz, ws2, _, rfl, rfl, G.w1, ?_, ⟨⟨_, _, _, _, _, _, rfl⟩, _, _, G.push X hl s3 (.one fs hlm ho)⟩⟩
                exact Nat.lt_of_le_of_lt (show ws2.length ≤ 1000 + 10000000 + 2001000 by omega) (by decide)
              | some s2 =>
                obtain ⟨a2, rfl, ha2⟩ : SayAt K Hd w2 s2 := by
                  have q := oX
                  rw [ho] at q
                  exact q
                refine ⟨_, rfl, rfl, _, rfl, ?_⟩
                rw [decide_eq_false (fun z => nomatch z)]
                refine iteF ?_
                have ha3 : SqT K Hd a2 ((keyW s2.ws).map kV) := by
                  rw [keyW_kV]
                  exact ha2
                refine ⟨_, rfl, _, rfl, Dz, a2, es2, keyW s2.ws, rfl, rfl, .inl G.d, (se2.tk G.tk).keys, ha3, ?_⟩
                cases hv2 : valE es2 (keyW s2.ws) with
                | some v =>
                  have hh : HasE es2 s2 := hasE_val.mpr (by rw [hv2]; rfl)
                  refine ⟨true, rfl, iteT ?_⟩
                  refine ⟨_, rfl, .inl ⟨rfl, ws2, .inl (.of G.w1)⟩, _, rfl, Wz, ws2, _, rfl, rfl, G.w1, ?_, ⟨⟨_, _, _, _, _, _, rfl⟩, _, _, G.push X hl s3 (.two fs hlm ho (se2.fol hh))⟩⟩
                  exact Nat.lt_of_le_of_lt (show ws2.length ≤ 1000 + 10000000 + 2001000 by omega) (by decide)
                | none =>
                  have hh : ¬ (other l sy = none ∨ ∃ s2, other l sy = some s2 ∧ HasE es2 s2) := by
                    rintro (z | ⟨s3', z1, z2⟩)
                    · rw [ho] at z
                      cases z
                    · rw [ho] at z1
                      rw [← Option.some.inj z1] at z2
                      have z3 := hasE_val.mp z2
                      rw [hv2] at z3
                      cases z3
                  exact ⟨false, rfl, iteF ⟨⟨_, _, _, _, _, _, rfl⟩, _, _, G.skip hl hh⟩⟩
            · refine ⟨_, rfl, ?_⟩
              have oX : OSayAt K Hd w1 (other l sy) := by
                unfold other
                rw [if_neg e]
                exact s1
              cases ho : other l sy with
              | none =>
                obtain rfl : w1 = V.non := by
                  have q := oX
                  rw [ho] at q
                  exact q
                refine ⟨_, rfl, rfl, _, rfl, ?_⟩
                rw [decide_eq_true rfl]
                refine iteT ?_
                refine ⟨_, rfl, .inl ⟨rfl, ws2, .inl (.of G.w1)⟩, _, rfl, Wz, ws2, _, rfl, rfl, G.w1, ?_, ⟨⟨_, _, _, _, _, _, rfl⟩, _, _, G.push X hl s3 (.one fs hlm ho)⟩⟩
                exact Nat.lt_of_le_of_lt (show ws2.length ≤ 1000 + 10000000 + 2001000 by omega) (by decide)
              | some s2 =>
                obtain ⟨a2, rfl, ha2⟩ : SayAt K Hd w1 s2 := by
                  have q := oX
                  rw [ho] at q
                  exact q
                refine ⟨_, rfl, rfl, _, rfl, ?_⟩
                rw [decide_eq_false (fun z => nomatch z)]
                refine iteF ?_
                have ha3 : SqT K Hd a2 ((keyW s2.ws).map kV) := by
                  rw [keyW_kV]
                  exact ha2
                refine ⟨_, rfl, _, rfl, Dz, a2, es2, keyW s2.ws, rfl, rfl, .inl G.d, (se2.tk G.tk).keys, ha3, ?_⟩
                cases hv2 : valE es2 (keyW s2.ws) with
                | some v =>
                  have hh : HasE es2 s2 := hasE_val.mpr (by rw [hv2]; rfl)
                  refine ⟨true, rfl, iteT ?_⟩
                  refine ⟨_, rfl, .inl ⟨rfl, ws2, .inl (.of G.w1)⟩, _, rfl, Wz, ws2, _, rfl, rfl, G.w1, ?_, ⟨⟨_, _, _, _, _, _, rfl⟩, _, _, G.push X hl s3 (.two fs hlm ho (se2.fol hh))⟩⟩
                  exact Nat.lt_of_le_of_lt (show ws2.length ≤ 1000 + 10000000 + 2001000 by omega) (by decide)
                | none =>
                  have hh : ¬ (other l sy = none ∨ ∃ s2, other l sy = some s2 ∧ HasE es2 s2) := by
                    rintro (z | ⟨s3', z1, z2⟩)
                    · rw [ho] at z
                      cases z
                    · rw [ho] at z1
                      rw [← Option.some.inj z1] at z2
                      have z3 := hasE_val.mp z2
                      rw [hv2] at z3
                      cases z3
                  exact ⟨false, rfl, iteF ⟨⟨_, _, _, _, _, _, rfl⟩, _, _, G.skip hl hh⟩⟩
          · rintro σ Hd ⟨⟨v3, v5, v6, v7, v8, v9, rfl⟩, ws2, ss2, G⟩
            have gl := G.len
            rw [lf] at gl
            have gn := G.new
            rw [lf, List.take_of_length_le (Nat.le_refl _)] at gn
            refine ⟨_, ?_, es2, esk2, ws2, ss2, ⟨_, _, _, _, _, _, _, rfl⟩, ⟨G.d, nd2, se2.tk G.tk, G.w1, G.w2, G.f, G.R, by omega, G.wk, G.kp, ?_, fun r hr s hs => ?_, fun s l h1 h2 h3 => ?_, tv2⟩, rfl⟩
            · rw [List.length_append, List.length_singleton, l2]
              have ea : U.length - es.length = (U.length - (es.length + 1)) + 1 := by omega
              rw [ea, Nat.add_mul]
              omega
            · have wl := worked_len names sy rws
              rw [← lN] at wl
              rw [l2, Nat.add_mul]
              omega
            · rcases I.base r hr s hs with z | z
              · exact .inl ((has2 s).mpr (.inl z))
              · rcases List.mem_append.mp z with z | z
                · exact .inr (G.old s z)
                · exact .inl ((has2 s).mpr (.inr (List.mem_singleton.mp z)))
            · have up : HasE es l.2.2 ∨ l.2.2 ∈ ss0 ++ [sy] → HasE es2 l.2.2 ∨ l.2.2 ∈ ss2 := fun z => by
                rcases z with z | z
                · exact .inl ((has2 _).mpr (.inl z))
                · rcases List.mem_append.mp z with z | z
                  · exact .inr (G.old _ z)
                  · exact .inl ((has2 _).mpr (.inr (List.mem_singleton.mp z)))
              rcases (has2 s).mp h1 with z1 | z1
              · rcases h3 with z3 | ⟨s2, z3, z4⟩
                · exact up (I.step s l z1 h2 (.inl z3))
                · rcases (has2 s2).mp z4 with z5 | z5
                  · exact up (I.step s l z1 h2 (.inr ⟨s2, z3, z5⟩))
                  · subst z5
                    obtain ⟨l', g1, g2, g3⟩ := worked_sym (hU3 s (hU2 s (I.se.fol z1))).2 h2 z3
                    rw [← g2]
                    exact .inr (gn l' g1 (.inr ⟨s, g3, (has2 s).mpr (.inl z1)⟩))
              · subst z1
                exact .inr (gn l h2 h3)
end
end Ah
end
section
set_option Elab.async false
set_option linter.all false
set_option maxRecDepth 100000
set_option maxHeartbeats 8000000
namespace Ah
open PySem PySem.Spec PyProof.Rows L2
open GxR (TabB TabG Tabbed)
theorem scFo : FnScope ["rows", "found", "saying"] ["rows"] (defScope sFollows) := ⟨rfl, rfl, rfl, by decide +kernel, rfl, by decide +kernel, by decide +kernel⟩
/-- what is told as following: the entries of the sayings, without the clash -/
def toldT (es : List Ent) : List Tx := (es.filter fun e => !decide (e.1 = keyW (Say.clash).ws)).map fun e => (e.2.1, e.1)
def spFollows (K : PySem.W.Frag) (T : List Addr) : Sp := fun vs H Q _ => ∃ (q : Addr) (rs : List Rw), vs = [.ref q] ∧ TextAt H q rs ∧ (∀ r ∈ rs, r.few) ∧ rs.length ≤ 20 ∧ (∀ P ∈ T, TabG H P) ∧
  ∀ (p : Addr) (bs : List Tx) (rws : List Rw) (names : List Str) (H' : Hp), Kp T H H' → H p = none → H' p = some (.lst ((bs.mergeSort leT).map fun b => V.ref b.1)) → (∀ r, r ∈ rws ↔ r ∈ rs) → (∀ z, z ∈ names ↔ ∃ r ∈ rs, z ∈ rowNames r) →
    (∀ b ∈ bs, ∃ s, s ≠ .clash ∧ Fol rws names s ∧ b.2 = keyW s.ws ∧ SqT K H' b.1 (s.ws.map V.str)) → (∀ s, s ≠ .clash → Fol rws names s → ∃ b ∈ bs, b.2 = keyW s.ws) → (bs.map (·.2)).Nodup → bs.length ≤ 28 → Q (.ref p) H'
section
variable {P : Program} {w : World} {K : PySem.W.Frag} {mg : Str → Option Value} {base : Heap} {f fT fC fA fN fI C cl : Addr} {fd fdT fdC fdA fdN fdI : FuncData} {T : List Addr}
theorem ok_follows (F : FnP K "follows" sFollows f fd) (B : Bl mg) (Cc : TClash K mg cl) (CR : ClsR K C) (M : Mk K C fI) (gR : mg "Rules" = some (.ref C)) (FI : FnOk P w K mg base CX0 2 fI fdI ["self", "rows", "names"] (spInit K P w C)) (bI : Binds K fdI ["self", "rows", "names"] [])
    (c_check_text : Own P w K mg base "check_text" 6 fC fdC ["rows"] (spCheck0 K T)) (c_all_results : Own P w K mg base "all_results" 6 fA fdA ["rules"] (spAll K P w C)) (c_names_of : Own P w K mg base "names_of" 2 fN fdN ["rows"] (spNames K)) :
    FnOk P w K mg base CX0 7 f fd ["rows"] (spFollows K T) := by
  refine F.ok scFo (fun vs H Q E h => ?_) (fun cdv A outer s H vs Q E hr h => ?_)
  · obtain ⟨q, rs, rfl, _⟩ := h
    rfl
  · obtain ⟨q, rs, rfl, tx, hf, hl, ht, k⟩ := h
    have gCl := Cc.g
    refine ⟨_, PSs.nox (pss_cons (ps_expr (pe_call c_check_text.ok hr (by rfl) c_check_text.g c_check_text.kp c_check_text.b .nil pass0 (pa_cons (pv 0) pa_nil)))
      (pss_cons (ps_set (i := 1) scFo.nd rfl (.inl rfl) (pe_call c_all_results.ok hr (by rfl) c_all_results.g c_all_results.kp c_all_results.b .nil pass0 (pa_cons (pe_make M FI (hr.mono (by decide)) (by rfl) gR bI .nil pass0 (pa_cons (pv 0) (pa_cons (pe_call c_names_of.ok (hr.mono (by decide)) (by rfl) c_names_of.g c_names_of.kp c_names_of.b .nil pass0 (pa_cons (pv 0) pa_nil)) pa_nil))) pa_nil)))
      (pss_one (ps_ret (pe_callB (cr_sortT hr.units) (by rfl) B.sorted_ (by decide +kernel) (pa_cons (pe_lock (pe_lc (own := [("saying", 2)]) rfl scFo.nd (pi_dic (pv 1)) (blkOk_by (N := ["rows", "found", "saying"]) (sc := defScope sFollows) (by decide +kernel)) (fun _ _ _ _ _ => (pg_name (i := 2) scFo.nd rfl (Or.inl rfl))) (fun _ _ _ _ _ => (pts_one (pt_cmpR (show OpR _ _ (rNeD K) from op_neD hr.units) (pv 2) (pe_glob (v := .ref cl) (by rfl) gCl rfl) (nomark _)))) (fun _ _ _ _ _ => (pv 2)))) pa_nil)))))), ?_⟩
    obtain ⟨ps, hq, hps⟩ := id tx
    have lps : ps.length = rs.length := hps.length
    refine ⟨_, rfl, q, ps.map V.ref, rfl, hq, by rw [List.length_map]; omega, fun v hv => ?_, ht, fun H1 kp1 => ?_⟩
    · obtain ⟨a, ha, rfl⟩ := List.mem_map.mp hv
      obtain ⟨i, hi⟩ := List.mem_iff_getElem?.mp ha
      obtain ⟨r, er, hr1⟩ := paired_at hps hi
      have fr := hf r (List.mem_of_getElem? er)
      refine .inr ⟨a, _, rfl, .inl (.of hr1), ?_, fun x hx => ?_, (few_row fr).symm⟩
      · rw [List.length_map]
        exact Nat.le_trans (show r.ws.length ≤ 10 by cases r <;> simp [Rw.ws]) (by decide)
      · obtain ⟨z, hz, rfl⟩ := List.mem_map.mp hx
        exact .inl ⟨z, rfl, Nat.le_trans (few_len fr z hz) (by decide)⟩
    · have tx1 := tx.kp ht kp1
      refine ⟨_, rfl, _, rfl, q, rs, rfl, tx1.w, by omega, fun na nb H2 k2 nna e2 hm2 hl2 _ => ?_⟩
      intro x dx nx ndx dxx
      have kx : Kept [] H2 (L2.upd (L2.upd H2 dx (.own x)) x (.ins C dx [])) := ((Kept.refl H2).upd ndx).upd (by rw [upd_ne (Ne.symm dxx)]; exact nx)
      refine ⟨x, q, na, dx, rs, nb, rfl, upd_same, (tx1.kept (M := []) (TK.of k2)).kept (M := []) (TK.of kx), by omega, kx _ _ e2 (by simp), fun H3 o ho hC nkd k3 R3 => ⟨rfl, ?_⟩⟩
      have hrw : ∀ r, r ∈ dd rs ↔ r ∈ rs := dd_mem rs
      have hrl : (dd rs).length ≤ rs.length := dd_len rs
      generalize dd rs = rws at R3 hrw hrl
      have hnb : ∀ z ∈ nb, z ∈ namesL := fun z hz => by
        obtain ⟨r, h1, h2⟩ := (hm2 z).mp hz
        exact few_names (hf r h1) z h2
      have hrf : ∀ r ∈ rws, r.few := fun r hr => hf r ((hrw r).mp hr)
      have hff := fol_few (names := nb) hrf (fun r hr z hz => (hm2 z).mpr ⟨r, (hrw r).mp hr, hz⟩) hnb
      have okd : OkD rws nb := ⟨by omega, by omega, fun r hr => few_ok (hrf r hr), fun z hz => (w_name (hnb z hz)).1⟩
      subst ho
      refine ⟨o, rws, nb, [], allSay.filter (fun s => s.names.all fun z => decide (z ∈ nb)), rfl, hC, R3, okd, Nat.zero_le _, ?_, ?_, fun s hs => ?_, fun s hs => ?_, fun d H4 es k4 nd4 e4 se4 hes nd hle _ => ?_⟩
      · exact Nat.le_trans (List.length_filter_le ..) (by rw [allSay_len]; decide)
      · have h1 : (allSay.filter (fun s => s.names.all fun z => decide (z ∈ nb))).length ≤ 28 := by
          rw [← allSay_len]
          exact List.length_filter_le ..
        have h2 : rws.length * (2 * nb.length + 1) ≤ 20 * 121 := Nat.mul_le_mul (by omega) (by omega)
        exact Nat.le_trans (Nat.mul_le_mul (show _ ≤ 29 by omega) h2) (by decide)
      · obtain ⟨h1, h2⟩ := hff s hs
        exact List.mem_filter.mpr ⟨mem_allSay h1, List.all_eq_true.mpr fun z hz => decide_eq_true (h2 z hz)⟩
      · obtain ⟨h1, h2⟩ := List.mem_filter.mp hs
        exact ⟨allSay_ok s h1, fun z hz => of_decide_eq_true (List.all_eq_true.mp h2 z hz)⟩
      · refine ⟨d, DicO P w d es, e4, trivial, fun od => ?_⟩
        have k14 : Kept [] H1 H4 := fun b u e hb => by
          have b2 := k2 b u e hb
          have b3 := kx b u b2 hb
          have b4 := k3 b u b3 (by rw [List.mem_singleton]; exact ne_of_none b2 nx)
          exact k4 b u b4 (by rw [List.mem_singleton]; exact ne_of_none b3 nkd)
        have tkf : TK H4 (L2.upd H4 d (.frz od (DicO P w d es))) := (TK.refl H4).upd e4 (fun _ z => nomatch z) (fun _ _ z => nomatch z)
        refine ⟨_, rfl, d, od, es, rfl, upd_same, fun Dl nDl => ?_⟩
        refine lc_it (walk_dic (P := P) (w := w) (d := d) (o := od) (es := es)) (fun i Ha => Ha Dl = some (.lst (((es.take i).filter fun e => !decide (e.1 = keyW (Say.clash).ws)).map fun e => V.ref e.2.1)) ∧ Kept [] (L2.upd H4 d (.frz od (DicO P w d es))) Ha)
          ⟨by rw [List.take_zero]; exact upd_same, (Kept.refl _).upd nDl⟩ (fun i Ha _ pv => pv.2 _ _ upd_same (by simp)) ?_ ?_
        · rintro i v Ha0 Ha hi ⟨eD, kk⟩ ⟨rfl, ey⟩
          rw [List.getElem?_map] at ey
          obtain ⟨e, ee, rfl⟩ := Option.map_eq_some_iff.mp ey
          obtain ⟨s', f1, f2, f3⟩ := se4 e (List.mem_of_getElem? ee)
          have tka : TK H4 Ha := tkf.trans (TK.of kk)
          have et : (es.take (i + 1)).filter (fun e => !decide (e.1 = keyW (Say.clash).ws)) = (es.take i).filter (fun e => !decide (e.1 = keyW (Say.clash).ws)) ++ if s' = .clash then [] else [e] := by
            rw [List.take_add_one, ee, List.filter_append]
            congr 1
            show List.filter _ [e] = _
            rw [List.filter_cons, List.filter_nil]
            by_cases hc : s' = .clash
            · rw [if_pos hc, if_neg]
              rw [f2, hc]
              simp
            · rw [if_neg hc, if_pos]
              rw [f2, decide_eq_false fun z => hc (Say.inj (keyW_inj z))]
              rfl
          have oks : okW s'.ws := allSay_ok s' (mem_allSay (hff s' f1).1)
          refine ⟨rfl, ?_⟩
          refine ⟨_, rfl, ?_⟩
          unfold tC
          refine rd_neS (s := s') (t := some .clash) ⟨_, rfl, sqT_tk tka f3⟩ ⟨cl, rfl, Cc.val Ha⟩ oks (fun y hy => by rw [← Option.some.inj hy]; exact okW_clash) ⟨_, rfl, if_nd (fun ne => ?_) (fun eq => ?_)⟩
          · have hc : ¬ s' = .clash := fun z => ne (by rw [z])
            refine ⟨_, rfl, _, eD, ?_, ?_, kD_far nDl kk⟩
            · rw [List.length_map]
              refine Nat.lt_of_le_of_lt (Nat.le_trans (List.length_filter_le ..) ?_) (show 1000 < sizeLine by decide)
              rw [List.length_take]
              omega
            · rw [et, if_neg hc, List.map_append]
              exact upd_same
          · have hc : s' = .clash := (Option.some.inj eq).symm
            rw [et, if_pos hc, List.append_nil]
            exact ⟨eD, kk⟩
        · rintro Ha ⟨eD, kk⟩
          rw [List.take_of_length_le (Nat.le_refl _)] at eD
          have fz : Ha d = some (.frz od (DicO P w d es)) := kk _ _ upd_same (by simp)
          have dl : Dl ≠ d := ne_of eD fz (fun z => nomatch z)
          refine ⟨fz, ?_⟩
          have k45 : Kept [] H4 (L2.upd Ha d (DicO P w d es)) := fun b u e hb => by
            by_cases h : b = d
            · rw [h, e4] at e
              rw [h, upd_same]
              exact e
            · rw [upd_ne h]
              exact kk b u (by rw [upd_ne h]; exact e) hb
          have tk5 := TK.of k45
          have hbs : ∀ b ∈ toldT es, ∃ s, s ≠ Say.clash ∧ Fol rws nb s ∧ b.2 = keyW s.ws ∧ SqT K H4 b.1 (s.ws.map V.str) := fun b hb => by
            obtain ⟨e, he, rfl⟩ := List.mem_map.mp hb
            obtain ⟨h1, h2⟩ := List.mem_filter.mp he
            obtain ⟨s', f1, f2, f3⟩ := se4 e h1
            refine ⟨s', fun z => ?_, f1, f2, f3⟩
            rw [f2, z] at h2
            simp at h2
          have ndt : ((toldT es).map (·.2)).Nodup := by
            unfold toldT
            rw [List.map_map]
            exact (List.Sublist.map _ List.filter_sublist).nodup nd
          have eD2 : (L2.upd Ha d (DicO P w d es)) Dl = some (.lst ((toldT es).map fun b => V.ref b.1)) := by
            rw [upd_ne dl, eD]
            unfold toldT
            rw [List.map_map]
            rfl
          refine ⟨Dl, toldT es, rfl, .inl (.of eD2), fun b hb => ?_, sort_says (rws := rws) (names := nb) fun b hb => ?_, fun p np => ?_⟩
          · obtain ⟨s', _, _, f2, f3⟩ := hbs b hb
            rw [f2, keyW_kV]
            exact sqT_tk tk5 f3
          · obtain ⟨s', f0, f1, f2, _⟩ := hbs b hb
            exact ⟨s', f0, f1, f2⟩
          · have k1f := (k14.trans k45).upd (o := .lst (((toldT es).mergeSort leT).map fun b => V.ref b.1)) np
            have kpf := kp1.trans (Kp.of kp1.tab k1f)
            refine k p (toldT es) rws nb _ kpf (kp1.fresh ht (none_of (k14.trans k45) np)) upd_same hrw hm2 (fun b hb => ?_) (fun s' n1 f1 => ?_) ndt ?_
            · obtain ⟨s', f0, f1, f2, f3⟩ := hbs b hb
              exact ⟨s', f0, f1, f2, sqT_tk (TK.new tk5 np) f3⟩
            · obtain ⟨e, he, ek⟩ := (hes s').mpr f1
              refine ⟨(e.2.1, e.1), List.mem_map.mpr ⟨e, List.mem_filter.mpr ⟨he, ?_⟩, rfl⟩, ek⟩
              rw [ek, decide_eq_false fun z => n1 (Say.inj (keyW_inj z))]
              rfl
            · have h := len_sub ((toldT es).map (·.2)) (allSay.map fun s => keyW s.ws) ndt fun y hy => by
                obtain ⟨b, hb, rfl⟩ := List.mem_map.mp hy
                obtain ⟨s', _, f1, f2, _⟩ := hbs b hb
                exact List.mem_map.mpr ⟨s', mem_allSay (hff s' f1).1, f2.symm⟩
              rw [List.length_map, List.length_map, allSay_len] at h
              exact h
end
end Ah
end
section
set_option Elab.async false
set_option linter.all false
set_option maxRecDepth 100000
set_option maxHeartbeats 4000000
namespace Ah
open PySem PySem.Spec PyProof.Rows L2
/-! ### both lists are in one order -/
def leSay : Say → Say → Bool := PySem.W.dataLe false fun s => .tuple (s.ws.map PyData.str)
def leKy : List Key → List Key → Bool := PySem.W.dataLe false fun k => .tuple (k.map keyD)
theorem anti_say : ∀ s ∈ allSay, ∀ t ∈ allSay, leSay s t = true → leSay t s = true → s = t := by decide +kernel
theorem tot_say : PySem.W.TotalLe leSay := by
  unfold leSay PySem.W.dataLe
  exact PySem.W.sortLe_total _ _ _
theorem one_list {α : Type} [DecidableEq α] {l m : List α} (h1 : l.Nodup) (h2 : m.Nodup) (h3 : ∀ x, x ∈ l ↔ x ∈ m) (h4 : ∀ x ∈ l, ∀ y ∈ l, x = y) : l = m := by
  have sh : ∀ {k : List α}, k.Nodup → (∀ x ∈ k, ∀ y ∈ k, x = y) → k = [] ∨ ∃ a, k = [a] := by
    intro k hn he
    cases k with
    | nil => exact .inl rfl
    | cons a k =>
      cases k with
      | nil => exact .inr ⟨a, rfl⟩
      | cons b k =>
        rw [List.nodup_cons] at hn
        exact absurd (he a (by simp) b (by simp) ▸ List.mem_cons_self ..) hn.1
  rcases sh h1 h4 with e | ⟨a, e⟩
  · rcases sh h2 (fun x hx y hy => h4 x ((h3 x).mpr hx) y ((h3 y).mpr hy)) with e' | ⟨b, e'⟩
    · rw [e, e']
    · have := (h3 b).mpr (by rw [e']; simp)
      rw [e] at this
      exact absurd this (by simp)
  · rcases sh h2 (fun x hx y hy => h4 x ((h3 x).mpr hx) y ((h3 y).mpr hy)) with e' | ⟨b, e'⟩
    · have := (h3 a).mp (by rw [e]; simp)
      rw [e'] at this
      exact absurd this (by simp)
    · have := (h3 a).mp (by rw [e]; simp)
      rw [e'] at this
      rw [e, e', List.mem_singleton.mp this]
theorem sort_says_eq {ss ts : List Say} (h1 : ss.Nodup) (h2 : ts.Nodup) (h3 : ∀ s, s ∈ ss ↔ s ∈ ts) (h4 : ∀ s ∈ ss, s ∈ allSay) : ss.mergeSort leSay = ts.mergeSort leSay := by
  refine PySem.W.sort_unique tot_say (PySem.W.sort_pairwise tot_say ss) fun c => ?_
  rw [PySem.W.sort_stable tot_say]
  refine one_list (h1.filter _) (h2.filter _) (fun x => by rw [List.mem_filter, List.mem_filter, h3]) fun x hx y hy => ?_
  obtain ⟨x1, x2⟩ := List.mem_filter.mp hx
  obtain ⟨y1, y2⟩ := List.mem_filter.mp hy
  unfold PySem.W.sameRank at x2 y2
  rw [Bool.and_eq_true] at x2 y2
  exact anti_say x (h4 x x1) y (h4 y y1) (tot_say.trans _ _ _ x2.2 y2.1) (tot_say.trans _ _ _ y2.2 x2.1)
/-- tuples of sayings, sorted: their words in the order of the sorted sayings -/
theorem sort_tx {bs : List Tx} {ss : List Say} (h : bs.map (·.2) = ss.map fun s => keyW s.ws) : (bs.mergeSort leT).map (·.2) = (ss.mergeSort leSay).map fun s => keyW s.ws := by
  have e1 : (bs.mergeSort leT).map (·.2) = (bs.map (·.2)).mergeSort leKy := PySem.W.sort_maps (r := leT) (s := leKy) (fun b : Tx => b.2) fun a _ b _ => rfl
  have e2 : (ss.mergeSort leSay).map (fun s => keyW s.ws) = (ss.map fun s => keyW s.ws).mergeSort leKy := PySem.W.sort_maps (r := leSay) (s := leKy) (fun s : Say => keyW s.ws) fun a _ b _ => by
    have e : ∀ ws : List Str, (keyW ws).map keyD = ws.map PyData.str := fun ws => by
      unfold keyW
      rw [List.map_map]
      rfl
    unfold leSay leKy
    rw [PySem.W.dataLe_eq, PySem.W.dataLe_eq]
    dsimp only
    rw [e, e]
  rw [e1, h, ← e2]
theorem says_of {bs : List Tx} {M : Say → Prop} (h : ∀ b ∈ bs, ∃ s, M s ∧ b.2 = keyW s.ws) : ∃ ss : List Say, bs.map (·.2) = ss.map (fun s => keyW s.ws) ∧ ∀ s ∈ ss, M s := by
  induction bs with
  | nil => exact ⟨[], rfl, fun s hs => absurd hs (by simp)⟩
  | cons b bs ih =>
    obtain ⟨ss, e, m⟩ := ih fun x hx => h x (List.mem_cons_of_mem _ hx)
    obtain ⟨s, h1, h2⟩ := h b (List.mem_cons_self ..)
    refine ⟨s :: ss, by rw [List.map_cons, List.map_cons, h2, e], fun x hx => ?_⟩
    rcases List.mem_cons.mp hx with z | z
    · rw [z]; exact h1
    · exact m x z
/-- the program's list and the law's: the same words place by place -/
theorem told_eq {bs ts : List Tx} {M : Say → Prop} (hM : ∀ s, M s → s ∈ allSay) (b1 : ∀ b ∈ bs, ∃ s, M s ∧ b.2 = keyW s.ws) (b2 : ∀ s, M s → ∃ b ∈ bs, b.2 = keyW s.ws) (b3 : (bs.map (·.2)).Nodup)
    (t1 : ∀ b ∈ ts, ∃ s, M s ∧ b.2 = keyW s.ws) (t2 : ∀ s, M s → ∃ b ∈ ts, b.2 = keyW s.ws) (t3 : (ts.map (·.2)).Nodup) : (bs.mergeSort leT).map (·.2) = (ts.mergeSort leT).map (·.2) := by
  obtain ⟨ss, e1, m1⟩ := says_of b1
  obtain ⟨us, e2, m2⟩ := says_of t1
  have back : ∀ {l : List Tx} {k : List Say}, l.map (·.2) = k.map (fun s => keyW s.ws) → (∀ s, M s → ∃ b ∈ l, b.2 = keyW s.ws) → ∀ s, M s → s ∈ k := fun {l k} e h s hs => by
    obtain ⟨b, hb, eb⟩ := h s hs
    have : b.2 ∈ l.map (·.2) := List.mem_map.mpr ⟨b, hb, rfl⟩
    rw [e, eb] at this
    obtain ⟨s', h1, h2⟩ := List.mem_map.mp this
    rw [← Say.inj (keyW_inj h2)]
    exact h1
  have nd : ∀ {l : List Tx} {k : List Say}, l.map (·.2) = k.map (fun s => keyW s.ws) → (l.map (·.2)).Nodup → k.Nodup := fun e h => by
    rw [e] at h
    exact List.Pairwise.of_map _ (fun a b hne e => hne (by rw [e])) h
  rw [sort_tx e1, sort_tx e2, sort_says_eq (nd e1 b3) (nd e2 t3) (fun s => ⟨fun h => back e2 t2 s (m1 s h), fun h => back e1 b2 s (m2 s h)⟩) fun s h => hM s (m1 s h)]
end Ah
end
section
set_option Elab.async false
set_option linter.all false
set_option maxRecDepth 100000
set_option maxHeartbeats 4000000
namespace Ah
open PySem PySem.Spec PyProof.Rows L2
open GxR (TabB TabG Tabbed)
theorem StAt.kp {K : PySem.W.Frag} {T : List Addr} {H H' : Hp} {p a : Addr} {ns : List Int} (ht : ∀ P ∈ T, TabG H P) (k : Kp T H H') (S : StAt K H p a ns) : StAt K H' p a ns := by
  obtain ⟨i, r, m, h, h1, h2, h3⟩ := S
  refine ⟨i, r, m, k.obj ht h, h1, h2, ?_⟩
  rcases h3 with (h3 | ⟨o, h3⟩) | h3
  · exact .inl (.inl (k.obj ht h3))
  · exact .inl (.inr ⟨o, k.obj ht h3⟩)
  · exact .inr h3
theorem rd_for2 {g : TG} {tb : TS} {D : Ends} {σ : L2.St} {H : Hp} (Pv : Nat → L2.St → Hp → Prop) (h0 : Pv 0 σ H)
    (hs : ∀ (i : Nat) (x : V) (σ : L2.St) (H H' : Hp), i < 2 → Pv i σ H → YFn (fun i => V.int (0 + (i : Int))) i H x H' → g x σ H' fun σ2 H2 => tb { nx := Pv (i + 1), rt := D.rt, bk := D.nx, ct := Pv (i + 1) } σ2 H2) (hd : ∀ σ H, Pv 2 σ H → D.nx σ H) :
    tFor (iRng1 (tCons (tC (V.int 2)) tNil)) g tb D σ H :=
  ⟨2, rfl, by omega, by omega, for_it (walk_range (lo := 0) (n := 2)) Pv h0 (fun _ _ _ _ _ => trivial) hs hd⟩
theorem sqT_kp {K : PySem.W.Frag} {T : List Addr} {H H' : Hp} {a : Addr} {xs : List V} (ht : ∀ P ∈ T, TabG H P) (k : Kp T H H') (h : SqT K H a xs) : SqT K H' a xs := by
  rcases h with (h | ⟨o, h⟩) | h
  · exact .inl (.inl (k.obj ht h))
  · exact .inl (.inr ⟨o, k.obj ht h⟩)
  · exact .inr h
theorem TabG.keptM {M : List Addr} {T : List Addr} {H H' : Hp} (k : Kept M H H') (hM : ∀ b ∈ M, ∃ xs, H b = some (.lst xs)) (ht : ∀ P ∈ T, TabG H P) : ∀ P ∈ T, TabG H' P := fun P hP => by
  obtain ⟨qs, h2, h3⟩ := ht P hP
  refine ⟨qs, k _ _ h2 (fun hm => ?_), h3⟩
  obtain ⟨xs, h⟩ := hM P hm
  rw [h2] at h
  cases h
theorem sort_saysM {bs : List Tx} (h : ∀ b ∈ bs, ∃ s : Say, b.2 = keyW s.ws) : SortT bs := by
  constructor
  · intro d hd d' hd'
    obtain ⟨b, hb, rfl⟩ := List.mem_map.mp hd
    obtain ⟨b', hb', rfl⟩ := List.mem_map.mp hd'
    obtain ⟨s, e⟩ := h b hb
    obtain ⟨s', e'⟩ := h b' hb'
    unfold encT
    rw [e, e', PySem.W.alike]
    have go : ∀ xs ys : List Str, PySem.W.alikeAll ((keyW xs).map keyD) ((keyW ys).map keyD) = true := by
      intro xs
      induction xs with
      | nil => intro ys; simp [keyW, PySem.W.alikeAll]
      | cons x xs ih =>
        intro ys
        cases ys with
        | nil => simp [keyW, PySem.W.alikeAll]
        | cons y ys =>
          show PySem.W.alikeAll (PyData.str x :: (keyW xs).map keyD) (PyData.str y :: (keyW ys).map keyD) = true
          rw [PySem.W.alikeAll, ih ys]
          simp [PySem.W.alike]
    exact go _ _
  · intro b hb e
    obtain ⟨s, e'⟩ := h b hb
    rw [e] at e'
    cases s <;> cases e'
theorem at_words {K : PySem.W.Frag} {H : Hp} : ∀ ws : List Str, Paired (At K H 0) (ws.map V.str) (ws.map V.str)
  | [] => .nil
  | w :: ws => .cons ⟨rfl, trivial⟩ (at_words ws)
theorem at_lists {K : PySem.W.Frag} {H : Hp} : ∀ {bs ts : List Tx}, bs.map (·.2) = ts.map (·.2) → (∀ b ∈ bs, ∃ s : Say, b.2 = keyW s.ws ∧ SqT K H b.1 (s.ws.map V.str)) → (∀ b ∈ ts, ∃ s : Say, b.2 = keyW s.ws ∧ SqT K H b.1 (s.ws.map V.str)) →
    Paired (At K H 1) (bs.map fun b => V.ref b.1) (ts.map fun b => V.ref b.1)
  | [], [], _, _, _ => .nil
  | [], _ :: _, e, _, _ => by simp at e
  | _ :: _, [], e, _, _ => by simp at e
  | b :: bs, t :: ts, e, h1, h2 => by
    rw [List.map_cons, List.map_cons] at e
    injection e with e1 e2
    refine .cons ?_ (at_lists e2 (fun x hx => h1 x (List.mem_cons_of_mem _ hx)) fun x hx => h2 x (List.mem_cons_of_mem _ hx))
    obtain ⟨s, g1, g2⟩ := h1 b (List.mem_cons_self ..)
    obtain ⟨s', g3, g4⟩ := h2 t (List.mem_cons_self ..)
    have es : s = s' := Say.inj (keyW_inj (g1.symm.trans (e1.trans g3)))
    subst es
    refine .inr ⟨b.1, t.1, _, _, rfl, rfl, .inl ⟨g2, g4⟩, ?_, at_words s.ws⟩
    rw [List.length_map]
    exact Nat.le_trans (show s.ws.length ≤ 10 by cases s <;> simp [Say.ws]) (by decide)
end Ah
end
section
set_option Elab.async false
set_option linter.all false
set_option maxRecDepth 100000
set_option maxHeartbeats 2000000
/-! f'{n:b}' -/
namespace L2
open PySem PySem.Spec PyProof.Rows
open Builtin Builtin.Int Builtin.Float
def biT (a : Nat) : PySem.Str := ⟨((Nat.toDigits 2 a).map Char.toNat).toArray⟩
def fB : FormatSpec := { align := 62, type := some 98 }
theorem parse_b : parseFormatSpec (Str.ofString "b").cps.toList "int" 62 = .ok fB := by rfl
theorem if_neg' {c : Prop} [Decidable c] {X Y : Prop} (hc : ¬ c) (h : Y) : if c then X else Y := by rw [if_neg hc]; exact h
section
variable {prog : Program} {w : World} {A : Around} {E : Value → Shared → Prop} {s : Shared}
theorem field_b {a : Int} {t : Tok} {Q : Value → Shared → Prop} (h0 : (decide (a < 0)) = false) (hl : (biT a.natAbs).length ≤ sizeLine) (h : Q (.str (biT a.natAbs) (s.toks + 1)) { s with toks := s.toks + 1 + 1 }) :
    wpAny (model prog w) A (formatField (.int a t) "b") Q E s := by
  show wpAny _ _ (holding [.int a t] (pyFormat (.int a t) "b")) Q E s
  refine wpAny_holding ?_
  unfold pyFormat
  refine wpAny_bind (wpAny_mkStr ?_ (by decide))
  refine wpAny_bind (m := callSpecial? (.int a t) (Str.ofString "__format__") [.str "b" s.toks]) (wpAny_callSpecial?_slot (name := Str.ofString "__format__") (typeIs_int _ _ t) PySem.F.slot_int_format ?_)
  refine wpAny_call (codeAny_call_builtin PySem.F.slot_int_format.plain PySem.F.entry_int_format (PySem.F.slot_int_format.check _ _ _ _ _ _ _ _ (typeIs_int _ _ t) (PySem.F.args_int_format_2 _ _) ?_))
  unfold Builtin.«int.__format__»
  simp only [selfAndOne, noKeywords, Int.intOfSelf, asInt?, asStr?, List.isEmpty_nil, if_true, pure_bind, bind_pure, bind_assoc, Bool.false_eq_true, if_false,
    show (Value.str (Str.ofString "b") s.toks == Value.none) = false from rfl]
  refine wpAny_bind (wpAny_typeNameOf (T := "str") (typeIs_str _ _ _) (by decide) fun _ => ?_)
  rw [if_neg (by decide +kernel)]
  rw [if_neg (by decide +kernel)]
  refine wpAny_bind (wpAny_typeNameOfCut_int ?_)
  rw [parse_b]
  dsimp only
  rw [if_pos (by decide +kernel)]
  rw [show fB.type.getD (if ((Str.ofString "b").cps.back? == some 0) = true then 0 else 100) = 98 from rfl]
  have e : intField' fB (decide (a < 0)) [] ((Nat.toDigits 2 a.natAbs).map fun c => (if ((98 : Nat) == 88) = true then c.toUpper else c).toNat) [] 4 = biT a.natAbs := by
    have h1 : ((Nat.toDigits 2 a.natAbs).map fun c => (if ((98 : Nat) == 88) = true then c.toUpper else c).toNat) = (Nat.toDigits 2 a.natAbs).map Char.toNat := List.map_congr_left fun c _ => rfl
    rw [h1, h0]
    unfold intField' biT fB
    have h2 : ∀ l : List Nat, (if l.isEmpty = true then [] else List.replicate ((0 : Int).toNat - l.length) 48 ++ l) = l := fun l => by
      cases l with
      | nil => rfl
      | cons x l => simp
    simp [h2]
    try omega
  show wpAny _ _ (retStr _) _ _ _
  unfold retStr
  refine wpAny_bind (wpAny_mkStr (wpAny_pure ?_) ?hs2)
  case hs2 =>
    have h2 : (intField' fB (decide (a < 0)) [] ((Nat.toDigits 2 a.natAbs).map fun c => (if ((98 : Nat) == 88) = true then c.toUpper else c).toNat) [] 4).length ≤ sizeLine := by
      rw [e]
      exact hl
    exact h2
  dsimp only
  refine wpAny_bind (wpAny_isInstance (typeIs_str _ _ _) isSubtype_str_str (wpAny_pure ?_))
  have h2 : Q (.str (intField' fB (decide (a < 0)) [] ((Nat.toDigits 2 a.natAbs).map fun c => (if ((98 : Nat) == 88) = true then c.toUpper else c).toNat) [] 4) (s.toks + 1)) { s with toks := s.toks + 1 + 1 } := by
    rw [e]
    exact h
  exact h2
end
end L2
end
section
set_option Elab.async false
set_option linter.all false
set_option maxRecDepth 100000
set_option maxHeartbeats 4000000
namespace L2
open PySem PySem.Spec PyProof.Rows
/-- how many rows a mask has -/
def pc (n : Nat) : Nat := ((List.range 12).filter fun i => n.testBit i).length
def pcOk (n : Nat) : Bool := decide (Txt.count (biT n) "1" = pc n) && decide ((biT n).length ≤ 100)
theorem pc_all : (List.range 1024).all pcOk = true := by decide +kernel
theorem pc_ok {n : Nat} (h : n < 1024) : Txt.count (biT n) "1" = pc n ∧ (biT n).length ≤ 100 := by
  have e := List.all_eq_true.mp pc_all n (List.mem_range.mpr h)
  unfold pcOk at e
  rw [Bool.and_eq_true] at e
  exact ⟨of_decide_eq_true e.1, of_decide_eq_true e.2⟩
section
variable {X : Cx}
def tFmtB (te : TE) : TE := fun σ H Q => te σ H fun x H1 => ∃ a : Int, x = .int a ∧ 0 ≤ a ∧ (biT a.natAbs).length ≤ sizeLine ∧ Q (.str (biT a.natAbs)) H1
theorem pe_fmtB {e : Expr} {te : TE} {j : Nat} {p1 p2 p3 p4 : Pos} (he : PE X e te) : PE X (.JoinedStr [.FormattedValue e (-1) (some (.JoinedStr [.Constant (.str "b") j p3] p4)) p2] p1) (tFmtB te) := by
  refine pe_joined1 ⟨fun pins s σ H Q I h => ?_⟩
  refine wpAny_FormattedValue_spec (thn (he.run pins s σ H _ I h) fun v s1 ⟨x, H1, I1, r1, a, ex, h0, hl, q⟩ => ?_)
  subst ex
  obtain ⟨t, rfl⟩ := r1
  refine wpAny_JoinedStr_one (Calls.Constant_str ?_)
  exact ⟨_, _, rfl, field_b (decide_eq_false (by omega)) hl ⟨.str (biT a.natAbs), H1, I1.tok _, ⟨_, rfl⟩, q⟩⟩
end
end L2
namespace Ah
open PySem PySem.Spec PyProof.Rows L2
theorem scSize : FnScope ["mask", "digits"] ["mask"] (defScope sSizeOf) := ⟨rfl, rfl, rfl, by decide +kernel, rfl, by decide +kernel, by decide +kernel⟩
def spSize : Sp := fun vs H Q _ => ∃ m : Nat, vs = [.int m] ∧ m < 1024 ∧ Q (.int (pc m)) H
section
variable {P : Program} {w : World} {K : PySem.W.Frag} {mg : Str → Option Value} {base : Heap} {f : Addr} {fd : FuncData}
theorem ok_size (F : FnP K "size_of" sSizeOf f fd) : FnOk P w K mg base CX0 1 f fd ["mask"] spSize := by
  refine F.ok scSize (fun vs H Q E h => ?_) (fun cdv A outer s H vs Q E hr h => ?_)
  · obtain ⟨m, rfl, _⟩ := h
    rfl
  · obtain ⟨m, rfl, hm, k⟩ := h
    refine ⟨_, PSs.nox (pss_cons (ps_set (i := 1) scSize.nd rfl (.inl rfl) (pe_fmtB (pv 0))) (pss_one (ps_ret (pe_m1 PySem.F.slot_str_count PySem.F.type_str_count mt_count (pv 1) pe_str)))), ?_⟩
    obtain ⟨h1, h2⟩ := pc_ok hm
    refine ⟨_, rfl, (m : Int), rfl, by omega, Nat.le_trans h2 (by decide), ?_⟩
    refine ⟨_, rfl, ⟨_, rfl⟩, _, _, rfl, rfl, ?_⟩
    rw [Int.natAbs_natCast, h1]
    exact k
end
end Ah
end
section
set_option Elab.async false
set_option linter.all false
set_option maxRecDepth 100000
set_option maxHeartbeats 2000000
namespace L2
open PySem PySem.Spec PyProof.Rows
section
variable {X : Cx}
/-- d.get(k, v) -/
def rDicGet (K : PySem.W.Frag) (P : Program) (w : World) : V → List V → Hp → VK → Prop := fun x xs H Q => ∃ (a b : Addr) (es : List Ent) (k : List Key) (v : V), x = .ref a ∧ xs = [.ref b, v] ∧ Rd H a (DicO P w a es) ∧ KeysIn K H es ∧ SqT K H b (k.map kV) ∧ Q ((valE es k).getD v) H
theorem mt_dicGet (hu : X.A.units + 1 < cLine) : MtR X "dict.get" (rDicGet X.K X.prog X.w) := by
  intro pins s σ H x xs v us Q I rx rxs h
  obtain ⟨a, b, es, k, d, rfl, rfl, ha, hk, hb, q⟩ := h
  cases rx
  obtain ⟨u1, u2, rfl, r1, r2⟩ := vals2 rxs
  cases r1
  obtain ⟨z, hd, hn, xs, r, dd⟩ := dic_at I ha hk
  refine call_meetsIn PySem.F.slot_dict_get dd.typeIs PySem.F.entry_dict_get (PySem.F.args_dict_get_3 _ _ _) (meetsH_dict_get_default (tupleKind (mixKind X.prog X.w)) a b hd u2) ⟨tupleKind_room_in1 hu, k, xs, key_rd I hb, dd, (valE es k).getD d, H, I.tok _, ?_, q⟩
  have e := entR_val r k
  cases q1 : valE es k with
  | none =>
    rw [q1] at e
    cases q2 : (atKey xs k).map (·.2) with
    | none => exact r2
    | some y =>
      rw [q2] at e
      exact (show False from e).elim
  | some v0 =>
    rw [q1] at e
    cases q2 : (atKey xs k).map (·.2) with
    | none =>
      rw [q2] at e
      exact (show False from e).elim
    | some y =>
      rw [q2] at e
      exact e
end
end L2
end
section
set_option Elab.async false
set_option linter.all false
set_option maxRecDepth 100000
set_option maxHeartbeats 2000000
namespace L2
open PySem PySem.Spec PyProof.Rows
/-- list(d.values()) -/
def entVs (es : List Ent) : List V := es.map fun e => e.2.2
def tListVals (P : Program) (w : World) (te : TE) : TE := fun σ H Q => te σ H fun x H1 => ∃ (a : Addr) (es : List Ent), x = .ref a ∧ Rd H1 a (DicO P w a es) ∧ ∀ p, H1 p = none → Q (.ref p) (upd H1 p (.lst (entVs es)))
theorem vals_at : ∀ {xs : List V} {us : List Value}, xs.length = us.length → (∀ (i : Nat) (v : V), xs[i]? = some v → ∃ u, us[i]? = some u ∧ RelV v u) → Vals xs us
  | [], [], _, _ => .nil
  | [], _ :: _, h, _ => by cases h
  | _ :: _, [], h, _ => by cases h
  | x :: xs, u :: us, h, k => by
    obtain ⟨u', e, r⟩ := k 0 x rfl
    have e' : u = u' := Option.some.inj e
    rw [e']
    exact .cons r (vals_at (Nat.succ.inj h) fun i v hv => k (i + 1) v hv)
section
variable {X : Cx} {e : Expr} {te : TE} {p apos cpos pos : Pos}
theorem pe_listVals (hc : X.calm = true) (he : PE X e te) (hg : Gl X "list") (hm : X.mg "list" = none) (hv : bootBuiltins "list" = some (.type "list")) (hbase : attributeBase e "values" X.env (eval e X.env) = eval e X.env := by rfl) (hline : (apos.endLine == cpos.line) = true := by rfl)
    (hs : starEach [.Call (.Attribute e "values" apos) [] [] cpos] X.env = (false, eval (.Call (.Attribute e "values" apos) [] [] cpos) X.env) :: starEach [] X.env := by rfl) :
    PE X (.Call (.Name "list" p) [.Call (.Attribute e "values" apos) [] [] cpos] [] pos) (tListVals X.prog X.w te) := by
  refine ⟨fun pins s σ H Q I hq => ?_⟩
  refine wpAny_Call_Name_kw (ld_blt I hg hm hv ?_)
  refine PyProof.Rows.callWith_type1 ?_ hs rfl
  rw [hs]
  show wpAny _ _ (spliced ((false, eval (.Call (.Attribute e "values" apos) [] [] cpos) X.env) :: backTo pos (starEach [] X.env))) _ _ s
  refine Calls.spliced_cons ?_
  refine wpAny_Call_method (T := "dict") (id := "dict.values") hbase rfl hline F.plainAttrs_dict F.slot_dict_values F.type_dict_values (thn (he.run pins s σ H _ I hq) fun u s1 ⟨x, H1, I1, rx, d, es, ex, hd, q⟩ => ?_)
  subst ex
  obtain rfl : u = Value.ref d := rx
  obtain ⟨z, hs0, hn, ks, pr, o, ds, ep, ho, hx, hdt, hents⟩ := dic_rd I1 hd
  have l1 : ds.size = ks.length := size_of_entries hents
  have l2 : es.length = ks.length := Paired.length pr
  have I2 : Inv X pins σ H1 { s1 with heap := s1.heap.push { cls := .type "dict_values", data := .fields #[.ref d] } } := I1.kept (t' := s1.toks) fun b ob q => Heap.get?_push_of_some _ q
  refine ⟨⟨o, ho, hx.1⟩, fun b eb => by cases eb; exact ⟨o, ho, hx.2.1⟩, ?_⟩
  show wpAny _ _ (callWith cpos (.builtin "dict.values") [.ref d] [] []) _ X.xe s1
  refine method_meetsIn F.slot_dict_values F.entry_dict_values rfl (PySem.evalArgs_none ⟨rfl, ⟨o, ho, hx.1⟩, F.args_dict_values_1 _, _, meets_dict_values_raw d hs0, ⟨⟨_, _, o, ho, hx, hdt⟩, ?_⟩⟩)
  refine Calls.spliced_nil ?_
  refine PySem.W.kdl_call (PySem.KdlSrc.rawValues (r := s1.heap.objs.size) (d := d) (es := ds) (ep := ep)) (I1.ok.hd hc) ⟨⟨_, Heap.get?_push_size _ rfl, rfl, rfl⟩, o, Heap.get?_push_of_some _ ho, hx, hdt⟩ (by omega) fun h' tk acc' c' kp e1 it => ?_
  have nv : H1 (s1.heap.objs.size + 1) = none := I1.hok.fresh (Nat.le_succ _)
  have rv : Vals (entVs es) acc'.toList := by
    have h1 := it.1
    have h2 : (entVs es).length = es.length := by unfold entVs; rw [List.length_map]
    have h3 : acc'.toList.length = acc'.size := Array.length_toList
    refine vals_at (by omega) fun i v hv => ?_
    unfold entVs at hv
    rw [List.getElem?_map] at hv
    obtain ⟨e0, he0, rfl⟩ := Option.map_eq_some_iff.mp hv
    obtain ⟨b, hb, g1, g2, g3⟩ := paired_get pr he0
    have qe := entry_at hents i
    rw [hb] at qe
    have hi : i < acc'.toList.length := by
      have h4 := (List.getElem?_eq_some_iff.mp he0).1
      omega
    refine ⟨acc'.toList[i], List.getElem?_eq_getElem hi, ?_⟩
    obtain ⟨hi2, ev⟩ := it.2 i acc'.toList[i] (by rw [← Array.getElem?_toList, List.getElem?_eq_getElem hi])
    have e3 : ds[i]? = some ds[i] := Array.getElem?_eq_getElem hi2
    rw [e3] at qe
    rw [ev, Option.some.inj qe]
    exact g3
  have hz : (entVs es).length ≤ sizeLine := by unfold entVs; rw [List.length_map]; exact z
  have es2 : ({ s1 with heap := s1.heap.push { cls := .type "dict_values", data := .fields #[.ref d] } } : Shared).heap.objs.size = s1.heap.objs.size + 1 := by simp [Heap.push]
  refine ⟨.ref _, _, I2.laid (t' := tk) (o := .lst (entVs es)) kp (Nat.le_refl _) ?_, rfl, q _ (I2.hok.fresh (Nat.le_refl _))⟩
  exact ⟨hz, acc'.toList, c', rv, by rw [Array.toArray_toList]; exact e1⟩
end
end L2
end
section
set_option Elab.async false
set_option linter.all false
set_option maxRecDepth 100000
set_option maxHeartbeats 4000000
namespace Ah
open L2 (pc)
/-! ### masks -/
def sub (p m : Nat) : Prop := p &&& m = p
instance : Decidable (sub p m) := inferInstanceAs (Decidable (p &&& m = p))
theorem sub_iff {p m : Nat} : sub p m ↔ ∀ i, p.testBit i = true → m.testBit i = true := by
  constructor
  · intro h i hi
    have e : (p &&& m).testBit i = p.testBit i := by rw [h]
    rw [Nat.testBit_and, hi] at e
    simpa using e
  · intro h
    apply Nat.eq_of_testBit_eq
    intro i
    rw [Nat.testBit_and]
    cases q : p.testBit i with
    | false => rfl
    | true => rw [h i q]; rfl
theorem sub_refl (p : Nat) : sub p p := sub_iff.mpr fun _ h => h
theorem sub_trans {p q m : Nat} (a : sub p q) (b : sub q m) : sub p m := sub_iff.mpr fun i h => sub_iff.mp b i (sub_iff.mp a i h)
theorem sub_anti {p m : Nat} (a : sub p m) (b : sub m p) : p = m := by
  apply Nat.eq_of_testBit_eq
  intro i
  cases q : p.testBit i with
  | true => exact (sub_iff.mp a i q).symm
  | false =>
    cases r : m.testBit i with
    | false => rfl
    | true => rw [sub_iff.mp b i r] at q; cases q
theorem sub_l (p q : Nat) : sub p (p ||| q) := sub_iff.mpr fun i h => by rw [Nat.testBit_or, h]; rfl
theorem sub_r (p q : Nat) : sub q (p ||| q) := sub_iff.mpr fun i h => by rw [Nat.testBit_or, h, Bool.or_true]
theorem or_sub {p q m : Nat} (a : sub p m) (b : sub q m) : sub (p ||| q) m := sub_iff.mpr fun i h => by
  rw [Nat.testBit_or, Bool.or_eq_true] at h
  exact h.elim (sub_iff.mp a i) (sub_iff.mp b i)
theorem or_mono {p q p' q' : Nat} (a : sub p p') (b : sub q q') : sub (p ||| q) (p' ||| q') := or_sub (sub_trans a (sub_l _ _)) (sub_trans b (sub_r _ _))
theorem zero_sub (m : Nat) : sub 0 m := sub_iff.mpr fun i h => by rw [Nat.zero_testBit] at h; cases h
theorem sub_zero {m : Nat} (h : sub m 0) : m = 0 := sub_anti h (zero_sub m)
theorem bit_test (i j : Nat) : (2 ^ i).testBit j = decide (i = j) := Nat.testBit_two_pow
theorem bit_sub {i m : Nat} : sub (2 ^ i) m ↔ m.testBit i = true := by
  rw [sub_iff]
  constructor
  · intro h
    exact h i (by rw [bit_test]; simp)
  · intro h j hj
    rw [bit_test] at hj
    rw [← of_decide_eq_true hj]
    exact h
theorem or_lt {p q n : Nat} (a : p < 2 ^ n) (b : q < 2 ^ n) : p ||| q < 2 ^ n := Nat.or_lt_two_pow a b
theorem sub_lt {p m n : Nat} (a : sub p m) (b : m < 2 ^ n) : p < 2 ^ n := by
  have h : p ≤ m := by
    rw [← (show p &&& m = p from a)]
    exact Nat.and_le_right
  omega
theorem bit_hi {m n i : Nat} (h : m < 2 ^ n) (hi : n ≤ i) : m.testBit i = false := Nat.testBit_lt_two_pow (Nat.lt_of_lt_of_le h (Nat.pow_le_pow_right (by decide) hi))
theorem pc_mono {p m : Nat} (h : sub p m) : pc p ≤ pc m := by
  unfold pc
  have e : (List.range 12).filter (fun i => p.testBit i) = ((List.range 12).filter fun i => m.testBit i).filter fun i => p.testBit i := by
    rw [List.filter_filter]
    refine List.filter_congr fun i _ => ?_
    cases q : p.testBit i with
    | false => rfl
    | true => rw [sub_iff.mp h i q]; rfl
  rw [e]
  exact List.length_filter_le ..
theorem pc_eq {p m : Nat} (h : sub p m) (hm : m < 2 ^ 12) (e : pc m ≤ pc p) : p = m := by
  have e1 : (List.range 12).filter (fun i => p.testBit i) = ((List.range 12).filter fun i => m.testBit i).filter fun i => p.testBit i := by
    rw [List.filter_filter]
    refine List.filter_congr fun i _ => ?_
    cases q : p.testBit i with
    | false => rfl
    | true => rw [sub_iff.mp h i q]; rfl
  have s : List.Sublist ((List.range 12).filter fun i => p.testBit i) ((List.range 12).filter fun i => m.testBit i) := by
    rw [e1]
    exact List.filter_sublist
  have e2 := s.eq_of_length_le e
  refine sub_anti h (sub_iff.mpr fun i hi => ?_)
  have hi12 : i < 12 := Classical.byContradiction fun q => by
    rw [bit_hi hm (by omega)] at hi
    cases hi
  have mem : i ∈ (List.range 12).filter fun i => p.testBit i := by
    rw [e2]
    exact List.mem_filter.mpr ⟨List.mem_range.mpr hi12, hi⟩
  exact (List.mem_filter.mp mem).2
theorem pc_le {m n : Nat} (h : m < 2 ^ n) (hn : n ≤ 12) : pc m ≤ n := by
  unfold pc
  have s : ∀ i ∈ (List.range 12).filter (fun i => m.testBit i), i ∈ List.range n := fun i hi => by
    obtain ⟨_, h2⟩ := List.mem_filter.mp hi
    refine List.mem_range.mpr (Classical.byContradiction fun q => ?_)
    rw [bit_hi h (by omega)] at h2
    cases h2
  have := len_sub _ _ (List.filter_sublist.nodup (List.nodup_range (n := 12))) s
  rwa [List.length_range] at this
/-! ### chains of masks: how many masks there are of which none is a part of another -/
def chStep (n : Nat) (c : List Nat) : List (List Nat) := (c ++ [c.getLastD 0 ||| 2 ^ n]) :: (if 2 ≤ c.length then [c.dropLast.map (· ||| 2 ^ n)] else [])
def chains : Nat → List (List Nat)
  | 0 => [[0]]
  | n + 1 => (chains n).flatMap (chStep n)
theorem getLastD_mem {c : List Nat} (h : c ≠ []) : c.getLastD 0 ∈ c := by
  cases c with
  | nil => exact absurd rfl h
  | cons a t => rw [List.getLastD_cons]; cases t with
    | nil => exact List.mem_singleton.mpr rfl
    | cons b t => 
      have : (b :: t).getLastD a ∈ b :: t := by
        rw [List.getLastD_eq_getLast?, List.getLast?_eq_some_getLast (by simp)]
        exact List.getLast_mem _
      exact List.mem_cons_of_mem _ this
theorem last_all {c : List Nat} (hp : c.Pairwise sub) : ∀ x ∈ c, sub x (c.getLastD 0) := by
  intro x hx
  rcases List.eq_nil_or_concat c with e | ⟨l, b, e⟩
  · rw [e] at hx; exact nomatch hx
  · rw [e, List.concat_eq_append] at hp hx ⊢
    have e2 : (l ++ [b]).getLastD 0 = b := by simp [List.getLastD_eq_getLast?]
    rw [e2]
    rcases List.mem_append.mp hx with q | q
    · exact (List.pairwise_append.mp hp).2.2 x q b (List.mem_singleton.mpr rfl)
    · rw [List.mem_singleton.mp q]
      exact sub_refl b
theorem chains_ok : ∀ n, ∀ c ∈ chains n, c ≠ [] ∧ c.Pairwise sub
  | 0, c, h => by
    rw [List.mem_singleton.mp h]
    exact ⟨by simp, List.pairwise_singleton ..⟩
  | n + 1, c, h => by
    obtain ⟨d, hd, hc⟩ := List.mem_flatMap.mp h
    obtain ⟨h1, h2⟩ := chains_ok n d hd
    unfold chStep at hc
    rcases List.mem_cons.mp hc with e | hc
    · rw [e]
      refine ⟨by simp, List.pairwise_append.mpr ⟨h2, List.pairwise_singleton .., fun a ha b hb => ?_⟩⟩
      rw [List.mem_singleton.mp hb]
      exact sub_trans (last_all h2 a ha) (sub_l _ _)
    · split at hc
      · rename_i hl
        rw [List.mem_singleton.mp hc]
        refine ⟨fun e => ?_, ?_⟩
        · have := congrArg List.length e
          rw [List.length_map, List.length_dropLast, List.length_nil] at this
          omega
        · rw [List.pairwise_map]
          exact (h2.sublist (List.dropLast_sublist d)).imp fun h => or_mono h (sub_refl _)
      · exact nomatch hc
theorem chains_all : ∀ n m, m < 2 ^ n → ∃ c ∈ chains n, m ∈ c
  | 0, m, h => ⟨[0], List.mem_singleton.mpr rfl, by rw [show m = 0 by rw [Nat.pow_zero] at h; omega]; exact List.mem_singleton.mpr rfl⟩
  | n + 1, m, h => by
    by_cases hm : m < 2 ^ n
    · obtain ⟨c, hc, mc⟩ := chains_all n m hm
      exact ⟨c ++ [c.getLastD 0 ||| 2 ^ n], List.mem_flatMap.mpr ⟨c, hc, by unfold chStep; exact List.mem_cons_self ..⟩, List.mem_append_left _ mc⟩
    · have hp : 2 ^ (n + 1) = 2 ^ n + 2 ^ n := by rw [Nat.pow_succ]; omega
      have lt : m - 2 ^ n < 2 ^ n := by omega
      have em : m = (m - 2 ^ n) ||| 2 ^ n := by
        have h1 := Nat.two_pow_add_eq_or_of_lt lt 1
        rw [Nat.mul_one] at h1
        rw [Nat.or_comm, ← h1]
        omega
      obtain ⟨c, hc, mc⟩ := chains_all n (m - 2 ^ n) lt
      rcases List.eq_nil_or_concat c with e | ⟨l, b, e⟩
      · rw [e] at mc; exact nomatch mc
      · rw [List.concat_eq_append] at e
        have e2 : c.getLastD 0 = b := by rw [e]; simp [List.getLastD_eq_getLast?]
        rw [e] at mc
        rcases List.mem_append.mp mc with q | q
        · refine ⟨c.dropLast.map (· ||| 2 ^ n), List.mem_flatMap.mpr ⟨c, hc, ?_⟩, ?_⟩
          · unfold chStep
            refine List.mem_cons_of_mem _ ?_
            rw [if_pos]
            · exact List.mem_singleton.mpr rfl
            · rw [e, List.length_append, List.length_singleton]
              have := List.length_pos_of_mem q
              omega
          · rw [e, List.dropLast_concat]
            exact List.mem_map.mpr ⟨m - 2 ^ n, q, em.symm⟩
        · refine ⟨c ++ [c.getLastD 0 ||| 2 ^ n], List.mem_flatMap.mpr ⟨c, hc, by unfold chStep; exact List.mem_cons_self ..⟩, List.mem_append_right _ ?_⟩
          rw [List.mem_singleton.mp q] at em
          rw [e2, List.mem_singleton]
          exact em
/-- no more masks than chains, if none is a part of another -/
theorem anti_len {n : Nat} {l : List Nat} (hl : ∀ x ∈ l, x < 2 ^ n) (nd : l.Nodup) (ha : ∀ x ∈ l, ∀ y ∈ l, sub x y → x = y) : l.length ≤ (chains n).length := by
  have f : ∀ x : Nat, ∃ c : List Nat, x < 2 ^ n → c ∈ chains n ∧ x ∈ c := fun x => by
    by_cases h : x < 2 ^ n
    · obtain ⟨c, h1, h2⟩ := chains_all n x h
      exact ⟨c, fun _ => ⟨h1, h2⟩⟩
    · exact ⟨[], fun h' => absurd h' h⟩
  let g : Nat → List Nat := fun x => Classical.choose (f x)
  have hg : ∀ x, x < 2 ^ n → g x ∈ chains n ∧ x ∈ g x := fun x h => Classical.choose_spec (f x) h
  have comp : ∀ c : List Nat, c.Pairwise sub → ∀ x ∈ c, ∀ y ∈ c, sub x y ∨ sub y x := by
    intro c
    induction c with
    | nil => intro _ x hx; exact nomatch hx
    | cons a t ih =>
      intro hp x hx y hy
      rw [List.pairwise_cons] at hp
      rcases List.mem_cons.mp hx with ex | hx1
      · rcases List.mem_cons.mp hy with ey | hy1
        · rw [ex, ey]; exact .inl (sub_refl _)
        · rw [ex]; exact .inl (hp.1 y hy1)
      · rcases List.mem_cons.mp hy with ey | hy1
        · rw [ey]; exact .inr (hp.1 x hx1)
        · exact ih hp.2 x hx1 y hy1
  have nd2 : (l.map g).Nodup := by
    have go : ∀ k : List Nat, (∀ x ∈ k, x ∈ l) → k.Nodup → (k.map g).Nodup := by
      intro k
      induction k with
      | nil => intro _ _; exact List.nodup_nil
      | cons a t ih =>
        intro hs hk
        rw [List.nodup_cons] at hk
        rw [List.map_cons, List.nodup_cons]
        refine ⟨fun hm => ?_, ih (fun x hx => hs x (List.mem_cons_of_mem _ hx)) hk.2⟩
        obtain ⟨b, hb, e⟩ := List.mem_map.mp hm
        have la := hs a (List.mem_cons_self ..)
        have lb := hs b (List.mem_cons_of_mem _ hb)
        obtain ⟨c1, c2⟩ := hg a (hl a la)
        obtain ⟨_, c4⟩ := hg b (hl b lb)
        rw [e] at c4
        have eab : a = b := by
          rcases comp _ (chains_ok n _ c1).2 a c2 b c4 with h | h
          · exact ha a la b lb h
          · exact (ha b lb a la h).symm
        exact hk.1 (eab ▸ hb)
    exact go l (fun _ h => h) nd
  have := len_sub (l.map g) (chains n) nd2 fun c hc => by
    obtain ⟨x, hx, rfl⟩ := List.mem_map.mp hc
    exact (hg x (hl x hx)).1
  rwa [List.length_map] at this
theorem chains_7 : (chains 7).length = 35 := by decide +kernel
theorem chains_8 : (chains 8).length = 70 := by decide +kernel
end Ah
end
section
set_option Elab.async false
set_option linter.all false
set_option maxRecDepth 100000
set_option maxHeartbeats 4000000
namespace Ah
open PySem PySem.Spec PyProof.Rows L2
/-! ### the kinds of leads -/
theorem lead_cls {r : Rw} {s : Say} {names : List Str} {l : Lead} (hl : l ∈ leadsBy r s names) :
    (l.2.1 = none ∧ l.1 = s ∧ ∀ t, r ≠ .on t) ∨
    (∃ n k1 k2, (r = .no k1 k2 ∨ r = .no k2 k1) ∧ k1 ≠ k2 ∧ l = (.is n k1, some (.is n k2), .clash) ∧ s = .is n k1) ∨
    (∃ x a n b c, r = .who a b c ∧ l = (.has x a n, some (.is n b), .is x c) ∧ (s = .has x a n ∨ s = .is n b)) ∨
    (∃ x t y z, r = .on t ∧ l = (.has x t y, some (.has y t z), .has x t z) ∧ (s = .has x t y ∨ s = .has y t z)) := by
  cases s with
  | clash => exact absurd hl (by simp [leadsBy])
  | is n k =>
    cases r <;> simp only [leadsBy, leadsKind] at hl <;> (try split at hl) <;> (try simp only [List.mem_cons, List.mem_map, List.not_mem_nil, or_false] at hl) <;> (try exact hl.elim)
    all_goals first
      | (subst hl; exact .inl ⟨rfl, rfl, fun t e => nomatch e⟩)
      | skip
    · rename_i k1 k2 hk
      by_cases h1 : k1 = k
      · rw [if_pos h1] at hl
        by_cases h2 : k2 = k
        · rw [if_pos h2] at hl
          subst hl
          exact .inl ⟨rfl, rfl, fun t e => nomatch e⟩
        · rw [if_neg h2] at hl
          subst hl
          exact .inr (.inl ⟨n, k, k2, .inl (by rw [h1]), fun e => h2 e.symm, rfl, rfl⟩)
      · have h2 : k2 = k := by
          rcases List.mem_cons.mp hk with z | z
          · exact absurd z.symm h1
          · exact (List.mem_singleton.mp z).symm
        rw [if_neg h1, if_neg h1] at hl
        subst hl
        exact .inr (.inl ⟨n, k, k1, .inr (by rw [h2]), fun e => h1 e.symm, rfl, rfl⟩)
    · rename_i a b c hk
      obtain ⟨x, hx, rfl⟩ := hl
      subst hk
      exact .inr (.inr (.inl ⟨x, a, n, b, c, rfl, rfl, .inr rfl⟩))
  | has n t m =>
    cases r <;> simp only [leadsBy, leadsTie, leadsOn] at hl <;> (try split at hl) <;> (try simp only [List.mem_cons, List.mem_map, List.not_mem_nil, or_false, List.mem_append] at hl) <;> (try exact hl.elim)
    all_goals first
      | (subst hl; exact .inl ⟨rfl, rfl, fun t e => nomatch e⟩)
      | skip
    · rename_i a b c hk
      subst hl
      subst hk
      exact .inr (.inr (.inl ⟨n, a, m, b, c, rfl, rfl, .inl rfl⟩))
    · rename_i a hk
      subst hk
      rcases hl with ⟨x, hx, rfl⟩ | ⟨x, hx, rfl⟩
      · exact .inr (.inr (.inr ⟨n, a, m, x, rfl, rfl, .inl rfl⟩))
      · exact .inr (.inr (.inr ⟨x, a, n, m, rfl, rfl, .inr rfl⟩))
theorem lead_no {n k1 k2 : Str} {r : Rw} {names : List Str} (h : r = .no k1 k2 ∨ r = .no k2 k1) (hk : k1 ≠ k2) : (Say.is n k1, some (Say.is n k2), Say.clash) ∈ leadsBy r (.is n k1) names := by
  rcases h with rfl | rfl
  · simp [leadsBy, leadsKind, Ne.symm hk, hk]
  · simp [leadsBy, leadsKind, Ne.symm hk, hk]
theorem lead_who1 {x a n b c : Str} {names : List Str} : (Say.has x a n, some (Say.is n b), Say.is x c) ∈ leadsBy (.who a b c) (.has x a n) names := by
  simp [leadsBy, leadsTie]
theorem lead_who2 {x a n b c : Str} {names : List Str} (h : x ∈ names) : (Say.has x a n, some (Say.is n b), Say.is x c) ∈ leadsBy (.who a b c) (.is n b) names := by
  simp only [leadsBy, leadsKind, if_true, List.mem_map]
  exact ⟨x, h, rfl⟩
theorem lead_on1 {x t y z : Str} {names : List Str} (h : z ∈ names) : (Say.has x t y, some (Say.has y t z), Say.has x t z) ∈ leadsBy (.on t) (.has x t y) names := by
  simp only [leadsBy, leadsTie, leadsOn, if_true, List.mem_append, List.mem_map]
  exact .inl ⟨z, h, rfl⟩
theorem lead_on2 {x t y z : Str} {names : List Str} (h : x ∈ names) : (Say.has x t y, some (Say.has y t z), Say.has x t z) ∈ leadsBy (.on t) (.has y t z) names := by
  simp only [leadsBy, leadsTie, leadsOn, if_true, List.mem_append, List.mem_map]
  exact .inr ⟨x, h, rfl⟩
theorem leads_len {r : Rw} {s : Say} {names : List Str} : (leadsBy r s names).length ≤ 1 + 2 * names.length := by
  cases s with
  | clash => simp [leadsBy]
  | is n k => cases r <;> simp only [leadsBy, leadsKind] <;> (try split) <;> simp only [List.length_map, List.length_nil, List.length_cons] <;> omega
  | has n t m => cases r <;> simp only [leadsBy, leadsTie, leadsOn] <;> (try split) <;> simp only [List.length_map, List.length_nil, List.length_cons, List.length_append] <;> omega
theorem flatMap_len {α β : Type} {f : α → List β} {c : Nat} : ∀ {xs : List α}, (∀ x ∈ xs, (f x).length ≤ c) → (xs.flatMap f).length ≤ xs.length * c
  | [], _ => by simp
  | x :: xs, h => by
    rw [List.flatMap_cons, List.length_append, List.length_cons, Nat.succ_mul]
    have h1 := h x (List.mem_cons_self ..)
    have h2 := flatMap_len (xs := xs) fun y hy => h y (List.mem_cons_of_mem _ hy)
    omega
theorem workedN_len {rws : List Rw} {s : Say} {names : List Str} : (workedN rws s names).length ≤ rws.length * (1 + 2 * names.length) := by
  unfold workedN
  have := flatMap_len (f := fun q : Rw × Nat => ((leadsBy q.1 s names).filter useful).map fun l => (q.2, l)) (c := 1 + 2 * names.length) (xs := rws.zipIdx) fun q _ => by
    rw [List.length_map]
    exact Nat.le_trans (List.length_filter_le ..) leads_len
  rwa [List.length_zipIdx] at this
/-! ### what follows from which rows -/
inductive Der (rws : List Rw) (names : List Str) (told : List Say) : Say → Nat → Prop where
  | told {s : Say} : s ∈ told → Der rws names told s 0
  | base {i : Nat} {r : Rw} {s : Say} : rws[i]? = some r → sayOf r = some s → Der rws names told s (2 ^ i)
  | one {s : Say} {m : Nat} {l : LeadN} : Der rws names told s m → l ∈ workedN rws s names → other l.2 s = none → Der rws names told l.2.2.2 (m ||| 2 ^ l.1)
  | two {s s2 : Say} {m m2 : Nat} {l : LeadN} : Der rws names told s m → l ∈ workedN rws s names → other l.2 s = some s2 → Der rws names told s2 m2 → Der rws names told l.2.2.2 (m ||| 2 ^ l.1 ||| m2)
structure WfR (rws : List Rw) (names : List Str) (told : List Say) : Prop where
  rf : ∀ r ∈ rws, r.few
  rn : ∀ r ∈ rws, ∀ x ∈ rowNames r, x ∈ names
  nl : ∀ x ∈ names, x ∈ namesL
  tf : ∀ s ∈ told, s.few ∧ ∀ x ∈ s.names, x ∈ names
  n12 : rws.length ≤ 12
theorem base_few {r : Rw} {s : Say} (h : sayOf r = some s) (hr : r.few) : s.few ∧ ∀ x ∈ s.names, x ∈ rowNames r := by
  cases r <;> cases h
  · exact ⟨hr, fun x hx => hx⟩
  · exact ⟨hr, fun x hx => hx⟩
theorem der_few {rws : List Rw} {names : List Str} {told : List Say} (W : WfR rws names told) : ∀ {s m}, Der rws names told s m → s.few ∧ ∀ x ∈ s.names, x ∈ names := by
  intro s m h
  induction h with
  | told h => exact W.tf _ h
  | base hi e =>
    have hr := List.mem_of_getElem? hi
    obtain ⟨h1, h2⟩ := base_few e (W.rf _ hr)
    exact ⟨h1, fun x hx => W.rn _ hr x (h2 x hx)⟩
  | one _ hl _ ih =>
    obtain ⟨r, h1, h2, _⟩ := mem_workedN.mp hl
    have hr := List.mem_of_getElem? h1
    exact lead_few (W.rf _ hr) (W.rn _ hr) W.nl ih h2
  | two _ hl _ _ ih _ =>
    obtain ⟨r, h1, h2, _⟩ := mem_workedN.mp hl
    have hr := List.mem_of_getElem? h1
    exact lead_few (W.rf _ hr) (W.rn _ hr) W.nl ih h2
theorem bit_lt {i n : Nat} (h : i < n) : 2 ^ i < 2 ^ n := Nat.pow_lt_pow_right (by decide) h
theorem get_lt {α : Type} {xs : List α} {i : Nat} {x : α} (h : xs[i]? = some x) : i < xs.length := by
  rcases Nat.lt_or_ge i xs.length with h1 | h1
  · exact h1
  · rw [List.getElem?_eq_none h1] at h
    cases h
theorem der_lt {rws : List Rw} {names : List Str} {told : List Say} : ∀ {s m}, Der rws names told s m → m < 2 ^ rws.length := by
  intro s m h
  induction h with
  | told h => exact Nat.pow_pos (by decide)
  | base hi e => exact bit_lt (get_lt hi)
  | one _ hl _ ih =>
    obtain ⟨r, h1, _⟩ := mem_workedN.mp hl
    exact or_lt ih (bit_lt (get_lt h1))
  | two _ hl _ _ ih ih2 =>
    obtain ⟨r, h1, _⟩ := mem_workedN.mp hl
    exact or_lt (or_lt ih (bit_lt (get_lt h1))) ih2
end Ah
end
section
set_option Elab.async false
set_option linter.all false
set_option maxRecDepth 100000
set_option maxHeartbeats 4000000
namespace Ah
open PySem PySem.Spec PyProof.Rows L2
/-! ### the search's state -/
structure Ps where
  s : Say
  m : Nat
  i : Option Nat
def hasP (log : List Ps) (s : Say) (m : Nat) : Prop := ∃ e ∈ log, e.s = s ∧ sub e.m m
def hasB (log : List Ps) (s : Say) (m : Nat) : Bool := log.any fun e => decide (e.s = s) && decide (sub e.m m)
theorem hasB_iff {log : List Ps} {s : Say} {m : Nat} : hasB log s m = true ↔ hasP log s m := by
  unfold hasB hasP
  rw [List.any_eq_true]
  simp only [Bool.and_eq_true, decide_eq_true_eq]
theorem hasP.up {log : List Ps} {s : Say} {m m' : Nat} (h : hasP log s m) (hs : sub m m') : hasP log s m' :=
  let ⟨e, h1, h2, h3⟩ := h; ⟨e, h1, h2, sub_trans h3 hs⟩
theorem hasP.app {log : List Ps} {s : Say} {m : Nat} (ys : List Ps) (h : hasP log s m) : hasP (log ++ ys) s m :=
  let ⟨e, h1, h2⟩ := h; ⟨e, List.mem_append_left _ h1, h2⟩
def lv (lev : List (List Ps)) (j : Nat) : List Ps := lev.getD j []
def putS (log : List Ps) (lev : List (List Ps)) (c : Ps) : List (List Ps) := if hasB log c.s c.m then lev else lev.set (pc c.m) (lv lev (pc c.m) ++ [c])
theorem lv_set {lev : List (List Ps)} {k j : Nat} {v : List Ps} (h : k < lev.length) : lv (lev.set k v) j = if j = k then v else lv lev j := by
  unfold lv
  rw [List.getD_eq_getElem?_getD, List.getD_eq_getElem?_getD, List.getElem?_set]
  by_cases e : k = j
  · rw [if_pos e, if_pos e.symm, if_pos (e ▸ h)]
    rfl
  · rw [if_neg e, if_neg (fun z => e z.symm)]
theorem lv_out {lev : List (List Ps)} {j : Nat} (h : lev.length ≤ j) : lv lev j = [] := by
  unfold lv
  rw [List.getD_eq_getElem?_getD, List.getElem?_eq_none h]
  rfl
theorem putS_len {log : List Ps} {lev : List (List Ps)} {c : Ps} : (putS log lev c).length = lev.length := by
  unfold putS
  split
  · rfl
  · rw [List.length_set]
def putsS (log : List Ps) (lev : List (List Ps)) (cs : List Ps) : List (List Ps) := cs.foldl (putS log) lev
theorem putsS_len {log : List Ps} : ∀ {cs : List Ps} {lev : List (List Ps)}, (putsS log lev cs).length = lev.length
  | [], _ => rfl
  | c :: cs, lev => by
    show (putsS log (putS log lev c) cs).length = _
    rw [putsS_len, putS_len]
theorem putS_lv {log : List Ps} {lev : List (List Ps)} {c : Ps} (h : pc c.m < lev.length) (j : Nat) : ∃ add, lv (putS log lev c) j = lv lev j ++ add ∧ ∀ p ∈ add, p = c ∧ pc p.m = j := by
  unfold putS
  split
  · exact ⟨[], by rw [List.append_nil], fun p hp => nomatch hp⟩
  · rw [lv_set h]
    by_cases e : j = pc c.m
    · rw [if_pos e, e]
      exact ⟨[c], rfl, fun p hp => by rw [List.mem_singleton.mp hp]; exact ⟨rfl, rfl⟩⟩
    · rw [if_neg e]
      exact ⟨[], by rw [List.append_nil], fun p hp => nomatch hp⟩
theorem putsS_lv {log : List Ps} : ∀ {cs : List Ps} {lev : List (List Ps)} (h : ∀ c ∈ cs, pc c.m < lev.length) (j : Nat), ∃ add, lv (putsS log lev cs) j = lv lev j ++ add ∧ ∀ p ∈ add, p ∈ cs ∧ pc p.m = j
  | [], lev, h, j => ⟨[], by rw [List.append_nil]; rfl, fun p hp => nomatch hp⟩
  | c :: cs, lev, h, j => by
    obtain ⟨a1, e1, h1⟩ := putS_lv (log := log) (h c (List.mem_cons_self ..)) j
    obtain ⟨a2, e2, h2⟩ := putsS_lv (log := log) (cs := cs) (lev := putS log lev c) (fun x hx => by rw [putS_len]; exact h x (List.mem_cons_of_mem _ hx)) j
    refine ⟨a1 ++ a2, ?_, fun p hp => ?_⟩
    · show lv (putsS log (putS log lev c) cs) j = _
      rw [e2, e1, List.append_assoc]
    · rcases List.mem_append.mp hp with q | q
      · obtain ⟨e, g⟩ := h1 p q
        exact ⟨e ▸ List.mem_cons_self .., g⟩
      · obtain ⟨e, g⟩ := h2 p q
        exact ⟨List.mem_cons_of_mem _ e, g⟩
theorem putsS_cov {log : List Ps} : ∀ {cs : List Ps} {lev : List (List Ps)} (h : ∀ c ∈ cs, pc c.m < lev.length), ∀ c ∈ cs, hasP log c.s c.m ∨ c ∈ lv (putsS log lev cs) (pc c.m)
  | [], lev, h, c, hc => nomatch hc
  | d :: cs, lev, h, c, hc => by
    have h' : ∀ x ∈ cs, pc x.m < (putS log lev d).length := fun x hx => by rw [putS_len]; exact h x (List.mem_cons_of_mem _ hx)
    rcases List.mem_cons.mp hc with e | hc
    · subst e
      cases hb : hasB log c.s c.m with
      | true => exact .inl (hasB_iff.mp hb)
      | false =>
        obtain ⟨a2, e2, _⟩ := putsS_lv (log := log) h' (pc c.m)
        refine .inr ?_
        show c ∈ lv (putsS log (putS log lev c) cs) _
        rw [e2]
        refine List.mem_append_left _ ?_
        unfold putS
        rw [hb]
        show c ∈ lv (lev.set _ _) _
        rw [lv_set (h c (List.mem_cons_self ..)), if_pos rfl]
        exact List.mem_append_right _ (List.mem_singleton.mpr rfl)
    · exact putsS_cov h' c hc
def tot (lev : List (List Ps)) : Nat := (lev.map List.length).sum
theorem sum_set {v : List Ps} : ∀ {lev : List (List Ps)} {k : Nat}, k < lev.length → tot (lev.set k v) + (lv lev k).length = tot lev + v.length
  | [], k, h => absurd h (Nat.not_lt_zero _)
  | x :: xs, 0, h => by
    show ((v :: xs).map List.length).sum + x.length = ((x :: xs).map List.length).sum + v.length
    rw [List.map_cons, List.map_cons, List.sum_cons, List.sum_cons]
    omega
  | x :: xs, k + 1, h => by
    have ih := sum_set (v := v) (lev := xs) (k := k) (Nat.lt_of_succ_lt_succ h)
    show ((x :: xs.set k v).map List.length).sum + (lv xs k).length = ((x :: xs).map List.length).sum + v.length
    rw [List.map_cons, List.map_cons, List.sum_cons, List.sum_cons]
    unfold tot at ih
    omega
theorem putsS_tot {log : List Ps} : ∀ {cs : List Ps} {lev : List (List Ps)} (h : ∀ c ∈ cs, pc c.m < lev.length), tot (putsS log lev cs) ≤ tot lev + cs.length
  | [], lev, h => Nat.le_refl _
  | c :: cs, lev, h => by
    have h1 := putsS_tot (log := log) (cs := cs) (lev := putS log lev c) (fun x hx => by rw [putS_len]; exact h x (List.mem_cons_of_mem _ hx))
    have h2 : tot (putS log lev c) ≤ tot lev + 1 := by
      unfold putS
      split
      · omega
      · have := sum_set (v := lv lev (pc c.m) ++ [c]) (h c (List.mem_cons_self ..))
        rw [List.length_append, List.length_singleton] at this
        omega
    show tot (putsS log (putS log lev c) cs) ≤ _
    rw [List.length_cons]
    omega
theorem lv_tot : ∀ {lev : List (List Ps)} {k : Nat}, (lv lev k).length ≤ tot lev
  | [], k => by rw [lv_out (Nat.zero_le _)]; exact Nat.zero_le _
  | x :: xs, 0 => by
    show x.length ≤ ((x :: xs).map List.length).sum
    rw [List.map_cons, List.sum_cons]
    omega
  | x :: xs, k + 1 => by
    have := lv_tot (lev := xs) (k := k)
    show (lv xs k).length ≤ ((x :: xs).map List.length).sum
    rw [List.map_cons, List.sum_cons]
    unfold tot at this
    omega
/-! ### what is put when one is taken -/
def cand (log : List Ps) (x : Ps) (l : LeadN) : List Ps :=
  match l.2.2.1 with
  | none => [⟨l.2.2.2, x.m ||| 2 ^ l.1, some l.1⟩]
  | some s2 =>
    if l.2.1 = x.s then (if x.i = some l.1 then [] else (log.filter fun o => decide (o.s = s2)).map fun o => ⟨l.2.2.2, (x.m ||| 2 ^ l.1) ||| o.m, some l.1⟩)
    else ((log.filter fun o => decide (o.s = l.2.1)).filter fun o => !decide (o.i = some l.1)).map fun o => ⟨l.2.2.2, (x.m ||| 2 ^ l.1) ||| o.m, some l.1⟩
def cands (rws : List Rw) (names : List Str) (log : List Ps) (x : Ps) : List Ps := (workedN rws x.s names).flatMap (cand log x)
/-- where an entry comes from -/
def Dec (rws : List Rw) (names : List Str) (log : List Ps) (p : Ps) : Prop := ∀ i, p.i = some i → ∃ r, rws[i]? = some r ∧
  ((∃ t a x b e1 e2, r = .on t ∧ e1 ∈ log ∧ e2 ∈ log ∧ p.s = .has a t b ∧ e1.s = .has a t x ∧ e2.s = .has x t b ∧ e1.i ≠ some i ∧ sub (e1.m ||| 2 ^ i ||| e2.m) p.m) ∨
   ((∀ t, r ≠ .on t) ∧ ∃ s0 l, l ∈ leadsBy r s0 names ∧ l.2.2 = p.s))
theorem Dec.app {rws : List Rw} {names : List Str} {log : List Ps} {p : Ps} (ys : List Ps) (h : Dec rws names log p) : Dec rws names (log ++ ys) p := fun i hi => by
  obtain ⟨r, h1, h2⟩ := h i hi
  refine ⟨r, h1, ?_⟩
  rcases h2 with ⟨t, a, x, b, e1, e2, g1, g2, g3, g4⟩ | h2
  · exact .inl ⟨t, a, x, b, e1, e2, g1, List.mem_append_left _ g2, List.mem_append_left _ g3, g4⟩
  · exact .inr h2
/-- what must be there, in the end -/
structure Clo (rws : List Rw) (names : List Str) (told : List Say) (log : List Ps) (C : Say → Nat → Prop) : Prop where
  ct : ∀ s ∈ told, C s 0
  cb : ∀ i r s, rws[i]? = some r → sayOf r = some s → C s (2 ^ i)
  c1 : ∀ e ∈ log, ∀ l ∈ workedN rws e.s names, l.2.2.1 = none → C l.2.2.2 (e.m ||| 2 ^ l.1)
  c2 : ∀ e1 ∈ log, ∀ e2 ∈ log, ∀ l ∈ workedN rws e1.s names, l.2.1 = e1.s → l.2.2.1 = some e2.s → e1.i ≠ some l.1 → C l.2.2.2 (e1.m ||| 2 ^ l.1 ||| e2.m)
def Cov (log : List Ps) (lev : List (List Ps)) (z : Say) (m : Nat) : Prop := hasP log z m ∨ ∃ j, ∃ p ∈ lv lev j, p.s = z ∧ sub p.m m
structure Inv (rws : List Rw) (names : List Str) (told : List Say) (log : List Ps) (lev : List (List Ps)) (k at_ : Nat) : Prop where
  len : lev.length = rws.length + 1
  lvl : ∀ j, ∀ p ∈ lv lev j, pc p.m = j ∧ Der rws names told p.s p.m ∧ Dec rws names log p
  lg : ∀ e ∈ log, pc e.m ≤ k ∧ Der rws names told e.s e.m
  ord : log.Pairwise fun e f => pc e.m ≤ pc f.m ∧ (e.s = f.s → ¬ sub e.m f.m)
  dec : ∀ pre f post, log = pre ++ f :: post → Dec rws names pre f
  fin : ∀ j, ∀ p ∈ lv lev j, (j < k ∨ (j = k ∧ p ∈ (lv lev j).take at_)) → hasP log p.s p.m
  clo : Clo rws names told log (Cov log lev)
end Ah
end
section
set_option Elab.async false
set_option linter.all false
set_option maxRecDepth 100000
set_option maxHeartbeats 4000000
namespace Ah
open PySem PySem.Spec PyProof.Rows L2
section
variable {rws : List Rw} {names : List Str} {told : List Say}
theorem cand_ok {log : List Ps} (hlog : ∀ e ∈ log, Der rws names told e.s e.m) {x : Ps} (hx : x ∈ log) {l : LeadN} (hl : l ∈ workedN rws x.s names) {c : Ps} (hc : c ∈ cand log x l) :
    Der rws names told c.s c.m ∧ sub x.m c.m ∧ Dec rws names log c ∧ c.s = l.2.2.2 ∧ c.i = some l.1 := by
  obtain ⟨r, h1, h2, h3⟩ := mem_workedN.mp hl
  have cls := lead_cls h2
  have dx := hlog x hx
  unfold cand at hc
  split at hc
  · rename_i e
    rw [List.mem_singleton.mp hc]
    rcases cls with ⟨_, g1, g2⟩ | ⟨n, k1, k2, _, _, g, _⟩ | ⟨a1, a2, a3, a4, a5, _, g, _⟩ | ⟨a1, a2, a3, a4, _, g, _⟩
    · refine ⟨.one dx hl (by unfold other; rw [if_pos g1, e]), sub_l _ _, fun i hi => ?_, rfl, rfl⟩
      cases hi
      exact ⟨r, h1, .inr ⟨g2, _, _, h2, rfl⟩⟩
    · rw [g] at e; cases e
    · rw [g] at e; cases e
    · rw [g] at e; cases e
  · rename_i s2 e
    split at hc
    · rename_i e1
      split at hc
      · exact nomatch hc
      · rename_i ei
        obtain ⟨o, ho, rfl⟩ := List.mem_map.mp hc
        obtain ⟨ho1, ho2⟩ := List.mem_filter.mp ho
        have ho3 : o.s = s2 := of_decide_eq_true ho2
        refine ⟨.two dx hl (by unfold other; rw [if_pos e1, e, ← ho3]) (hlog o ho1), sub_trans (sub_l _ _) (sub_l _ _), fun i hi => ?_, rfl, rfl⟩
        cases hi
        refine ⟨r, h1, ?_⟩
        rcases cls with ⟨g, _⟩ | ⟨n, k1, k2, gr, _, g, _⟩ | ⟨a1, a2, a3, a4, a5, gr, g, _⟩ | ⟨a1, a2, a3, a4, gr, g, _⟩
        · rw [g] at e; cases e
        · refine .inr ⟨fun t z => ?_, _, _, h2, rfl⟩
          rcases gr with gr | gr <;> rw [gr] at z <;> cases z
        · exact .inr ⟨fun t z => (by rw [gr] at z; cases z), _, _, h2, rfl⟩
        · refine .inl ⟨a2, a1, a3, a4, x, o, gr, hx, ho1, by rw [g], ?_, ?_, ei, sub_refl _⟩
          · rw [← e1, g]
          · rw [ho3]
            rw [g] at e
            exact (Option.some.inj e).symm
    · rename_i e1
      obtain ⟨o, ho, rfl⟩ := List.mem_map.mp hc
      obtain ⟨ho, ho4⟩ := List.mem_filter.mp ho
      obtain ⟨ho1, ho2⟩ := List.mem_filter.mp ho
      have ho3 : o.s = l.2.1 := of_decide_eq_true ho2
      have ho5 : ¬ o.i = some l.1 := by
        intro z
        rw [decide_eq_true z] at ho4
        cases ho4
      refine ⟨.two dx hl (by unfold other; rw [if_neg e1, ← ho3]) (hlog o ho1), sub_trans (sub_l _ _) (sub_l _ _), fun i hi => ?_, rfl, rfl⟩
      cases hi
      refine ⟨r, h1, ?_⟩
      rcases cls with ⟨g, _⟩ | ⟨n, k1, k2, gr, _, g, _⟩ | ⟨a1, a2, a3, a4, a5, gr, g, _⟩ | ⟨a1, a2, a3, a4, gr, g, gs⟩
      · rw [g] at e; cases e
      · refine .inr ⟨fun t z => ?_, _, _, h2, rfl⟩
        rcases gr with gr | gr <;> rw [gr] at z <;> cases z
      · exact .inr ⟨fun t z => (by rw [gr] at z; cases z), _, _, h2, rfl⟩
      · refine .inl ⟨a2, a1, a3, a4, o, x, gr, ho1, hx, by rw [g], by rw [ho3, g], ?_, ho5, ?_⟩
        · rcases gs with gs | gs
          · exact absurd (by rw [gs, g]) e1
          · exact gs
        · exact or_sub (or_sub (sub_r _ _) (sub_trans (sub_r _ _) (sub_l _ _))) (sub_trans (sub_l _ _) (sub_l _ _))
theorem cands_ok {log : List Ps} (hlog : ∀ e ∈ log, Der rws names told e.s e.m) {x : Ps} (hx : x ∈ log) : ∀ c ∈ cands rws names log x, Der rws names told c.s c.m ∧ sub x.m c.m ∧ Dec rws names log c := by
  intro c hc
  obtain ⟨l, hl, hc⟩ := List.mem_flatMap.mp hc
  obtain ⟨h1, h2, h3, _⟩ := cand_ok hlog hx hl hc
  exact ⟨h1, h2, h3⟩
theorem pc_in (W : WfR rws names told) {s : Say} {m : Nat} {lev : List (List Ps)} (hl : lev.length = rws.length + 1) (h : Der rws names told s m) : pc m < lev.length := by
  have := pc_le (der_lt h) W.n12
  omega
theorem Cov.up {log : List Ps} {lev : List (List Ps)} {z : Say} {m m' : Nat} (h : Cov log lev z m) (hs : sub m m') : Cov log lev z m' := by
  rcases h with h | ⟨j, p, h1, h2, h3⟩
  · exact .inl (h.up hs)
  · exact .inr ⟨j, p, h1, h2, sub_trans h3 hs⟩
theorem Clo.mono {log : List Ps} {C C' : Say → Nat → Prop} (h : Clo rws names told log C) (hc : ∀ z m, C z m → C' z m) : Clo rws names told log C' :=
  ⟨fun s hs => hc _ _ (h.ct s hs), fun i r s h1 h2 => hc _ _ (h.cb i r s h1 h2), fun e he l hl z => hc _ _ (h.c1 e he l hl z), fun a ha b hb l hl x y z => hc _ _ (h.c2 a ha b hb l hl x y z)⟩
/-- a lead of two is told by the second too -/
theorem second_leads (W : WfR rws names told) {s1 s2 : Say} {m1 : Nat} (d1 : Der rws names told s1 m1) {l : LeadN} (hl : l ∈ workedN rws s1 names) (e1 : l.2.1 = s1) (e2 : l.2.2.1 = some s2) :
    s1 ≠ s2 ∧ (l ∈ workedN rws s2 names ∨ (∃ n k, s2 = .is n k ∧ l.2.2.2 = .clash ∧ (l.1, s2, some s1, Say.clash) ∈ workedN rws s2 names ∧ ∃ k1 k2, rws[l.1]? = some (.no k1 k2))) := by
  obtain ⟨r, h1, h2, h3⟩ := mem_workedN.mp hl
  have hn := (der_few W d1).2
  have hr := List.mem_of_getElem? h1
  unfold useful at h3
  simp only [Bool.and_eq_true, Bool.not_eq_true', decide_eq_false_iff_not] at h3
  rcases lead_cls h2 with ⟨g, _⟩ | ⟨n, k1, k2, gr, gk, g, gs⟩ | ⟨a1, a2, a3, a4, a5, gr, g, gs⟩ | ⟨a1, a2, a3, a4, gr, g, gs⟩
  · rw [g] at e2; cases e2
  · rw [g] at e1 e2 h3
    have es : s2 = .is n k2 := (Option.some.inj e2).symm
    refine ⟨fun z => ?_, .inr ⟨n, k2, es, by rw [g], mem_workedN.mpr ⟨r, h1, ?_, ?_⟩, ?_⟩⟩
    · rw [es, gs] at z
      cases z
      exact gk rfl
    · rw [es, gs]
      exact lead_no gr.symm (Ne.symm gk)
    · rw [es, gs]
      rfl
    · rcases gr with gr | gr
      · exact ⟨k1, k2, gr ▸ h1⟩
      · exact ⟨k2, k1, gr ▸ h1⟩
  · rw [g] at e1 e2
    have es : s2 = .is a3 a4 := (Option.some.inj e2).symm
    dsimp only at e1
    refine ⟨fun z => (by rw [es, ← e1] at z; cases z), .inl (mem_workedN.mpr ⟨r, h1, ?_, ?_⟩)⟩
    · rw [es, g, gr]
      exact lead_who2 (hn a1 (by rw [← e1]; simp [Say.names]))
    · unfold useful
      simp only [Bool.and_eq_true, Bool.not_eq_true', decide_eq_false_iff_not]
      exact h3
  · rw [g] at e1 e2
    have es : s2 = .has a3 a2 a4 := (Option.some.inj e2).symm
    dsimp only at e1
    refine ⟨fun z => ?_, .inl (mem_workedN.mpr ⟨r, h1, ?_, ?_⟩)⟩
    · rw [es, ← e1] at z
      cases z
      exact h3.1 (by rw [g])
    · rw [es, g, gr]
      exact lead_on2 (hn a1 (by rw [← e1]; simp [Say.names]))
    · unfold useful
      simp only [Bool.and_eq_true, Bool.not_eq_true', decide_eq_false_iff_not]
      exact h3
end
end Ah
end
section
set_option Elab.async false
set_option linter.all false
set_option maxRecDepth 100000
set_option maxHeartbeats 4000000
namespace Ah
open PySem PySem.Spec PyProof.Rows L2
section
variable {rws : List Rw} {names : List Str} {told : List Say}
theorem take_succ_get {α : Type} {L : List α} {i : Nat} {x : α} (h : L[i]? = some x) : L.take (i + 1) = L.take i ++ [x] := by
  rw [List.take_add_one, h]
  rfl
theorem Inv.skip {log : List Ps} {lev : List (List Ps)} {k i : Nat} (V : Inv rws names told log lev k i) {x : Ps} (hx : (lv lev k)[i]? = some x) (h : hasP log x.s x.m) : Inv rws names told log lev k (i + 1) :=
  ⟨V.len, V.lvl, V.lg, V.ord, V.dec, fun j p hp hj => by
    rcases hj with hj | ⟨rfl, hj⟩
    · exact V.fin j p hp (.inl hj)
    · rw [take_succ_get hx] at hj
      rcases List.mem_append.mp hj with q | q
      · exact V.fin j p hp (.inr ⟨rfl, q⟩)
      · rw [List.mem_singleton.mp q]
        exact h, V.clo⟩
theorem Inv.level {log : List Ps} {lev : List (List Ps)} {k i : Nat} (V : Inv rws names told log lev k i) (h : (lv lev k).length ≤ i) : Inv rws names told log lev (k + 1) 0 :=
  ⟨V.len, V.lvl, fun e he => ⟨Nat.le_succ_of_le (V.lg e he).1, (V.lg e he).2⟩, V.ord, V.dec, fun j p hp hj => by
    rcases hj with hj | ⟨rfl, hj⟩
    · rcases Nat.lt_or_ge j k with q | q
      · exact V.fin j p hp (.inl q)
      · have : j = k := by omega
        subst this
        exact V.fin j p hp (.inr ⟨rfl, by rw [List.take_of_length_le h]; exact hp⟩)
    · exact (nomatch hj), V.clo⟩
theorem snoc_split {α : Type} {xs pre post : List α} {x f : α} (h : xs ++ [x] = pre ++ f :: post) : (post = [] ∧ f = x ∧ pre = xs) ∨ ∃ post', xs = pre ++ f :: post' := by
  rcases List.eq_nil_or_concat post with e | ⟨p', b, e⟩
  · subst e
    have := List.append_inj' h (by simp)
    exact .inl ⟨rfl, (List.cons.inj this.2).1.symm, this.1.symm⟩
  · subst e
    refine .inr ⟨p', ?_⟩
    have h2 : xs ++ [x] = (pre ++ f :: p') ++ [b] := by rw [h]; simp
    exact (List.append_inj' h2 (by simp)).1
theorem Inv.take (W : WfR rws names told) {log : List Ps} {lev : List (List Ps)} {k i : Nat} (V : Inv rws names told log lev k i) {x : Ps} (hx : (lv lev k)[i]? = some x) (h : ¬ hasP log x.s x.m) :
    Inv rws names told (log ++ [x]) (putsS (log ++ [x]) lev (cands rws names (log ++ [x]) x)) k (i + 1) := by
  obtain ⟨hk, dx, cx⟩ := V.lvl k x (List.mem_of_getElem? hx)
  have hxm : x ∈ log ++ [x] := List.mem_append_right _ (List.mem_singleton.mpr rfl)
  have hlog : ∀ e ∈ log ++ [x], Der rws names told e.s e.m := fun e he => by
    rcases List.mem_append.mp he with q | q
    · exact (V.lg e q).2
    · rw [List.mem_singleton.mp q]; exact dx
  have hcs := cands_ok hlog hxm
  have hin : ∀ c ∈ cands rws names (log ++ [x]) x, pc c.m < lev.length := fun c hc => pc_in W V.len (hcs c hc).1
  have hlv := putsS_lv (log := log ++ [x]) hin
  have hcov := putsS_cov (log := log ++ [x]) hin
  have up : ∀ z m, Cov log lev z m → Cov (log ++ [x]) (putsS (log ++ [x]) lev (cands rws names (log ++ [x]) x)) z m := by
    rintro z m (q | ⟨j, p, h1, h2⟩)
    · exact .inl (q.app _)
    · obtain ⟨add, e, _⟩ := hlv j
      exact .inr ⟨j, p, by rw [e]; exact List.mem_append_left _ h1, h2⟩
  have cc : ∀ c ∈ cands rws names (log ++ [x]) x, Cov (log ++ [x]) (putsS (log ++ [x]) lev (cands rws names (log ++ [x]) x)) c.s c.m := fun c hc => by
    rcases hcov c hc with q | q
    · exact .inl q
    · exact .inr ⟨_, c, q, rfl, sub_refl _⟩
  refine ⟨by rw [putsS_len]; exact V.len, fun j p hp => ?_, fun e he => ?_, ?_, fun pre f post e => ?_, fun j p hp hj => ?_, ?_⟩
  · obtain ⟨add, e, ha⟩ := hlv j
    rw [e] at hp
    rcases List.mem_append.mp hp with q | q
    · obtain ⟨h1, h2, h3⟩ := V.lvl j p q
      exact ⟨h1, h2, h3.app _⟩
    · obtain ⟨h1, h2⟩ := ha p q
      obtain ⟨g1, _, g3⟩ := hcs p h1
      exact ⟨h2, g1, g3⟩
  · rcases List.mem_append.mp he with q | q
    · exact V.lg e q
    · rw [List.mem_singleton.mp q]
      exact ⟨Nat.le_of_eq hk, dx⟩
  · refine List.pairwise_append.mpr ⟨V.ord, List.pairwise_singleton .., fun e he f hf => ?_⟩
    rw [List.mem_singleton.mp hf]
    exact ⟨by rw [hk]; exact (V.lg e he).1, fun es hs => h ⟨e, he, es, hs⟩⟩
  · rcases snoc_split e with ⟨_, rfl, rfl⟩ | ⟨post', e'⟩
    · exact cx
    · exact V.dec pre f post' e'
  · obtain ⟨add, e, ha⟩ := hlv j
    rw [e] at hp hj
    rcases hj with hj | ⟨rfl, hj⟩
    · rcases List.mem_append.mp hp with q | q
      · exact (V.fin j p q (.inl hj)).app _
      · obtain ⟨h1, h2⟩ := ha p q
        have := pc_mono (hcs p h1).2.1
        omega
    · have hi := get_lt hx
      rw [List.take_append_of_le_length (by omega), take_succ_get hx] at hj
      rcases List.mem_append.mp hj with q | q
      · exact (V.fin j p (List.mem_of_mem_take q) (.inr ⟨rfl, q⟩)).app _
      · rw [List.mem_singleton.mp q]
        exact ⟨x, hxm, rfl, sub_refl _⟩
  · have M := V.clo.mono up
    refine ⟨M.ct, M.cb, fun e he l hl z => ?_, fun a ha b hb l hl z1 z2 z3 => ?_⟩
    · rcases List.mem_append.mp he with q | q
      · exact M.c1 e q l hl z
      · have ex := List.mem_singleton.mp q
        subst ex
        exact cc ⟨l.2.2.2, e.m ||| 2 ^ l.1, some l.1⟩ (List.mem_flatMap.mpr ⟨l, hl, by unfold cand; rw [z]; exact List.mem_singleton.mpr rfl⟩)
    · have first : ∀ y ∈ log ++ [x], y.s = b.s → a = x → Cov (log ++ [x]) (putsS (log ++ [x]) lev (cands rws names (log ++ [x]) x)) l.2.2.2 (a.m ||| 2 ^ l.1 ||| y.m) := by
        intro y hy ey ea
        subst ea
        refine cc ⟨l.2.2.2, (a.m ||| 2 ^ l.1) ||| y.m, some l.1⟩ (List.mem_flatMap.mpr ⟨l, hl, ?_⟩)
        unfold cand
        rw [z2]
        dsimp only
        rw [if_pos z1, if_neg z3]
        exact List.mem_map.mpr ⟨y, List.mem_filter.mpr ⟨hy, decide_eq_true ey⟩, rfl⟩
      rcases List.mem_append.mp ha with qa | qa
      · rcases List.mem_append.mp hb with qb | qb
        · exact M.c2 a qa b qb l hl z1 z2 z3
        · have eb := List.mem_singleton.mp qb
          subst eb
          obtain ⟨ne, hl2⟩ := second_leads W (hlog a ha) hl z1 z2
          rcases hl2 with hl2 | ⟨n, kk, es, er, hl2, k1, k2, hr⟩
          · have hc := cc ⟨l.2.2.2, (b.m ||| 2 ^ l.1) ||| a.m, some l.1⟩ (List.mem_flatMap.mpr ⟨l, hl2, by
              unfold cand
              rw [z2]
              dsimp only
              rw [if_neg (by rw [z1]; exact ne)]
              exact List.mem_map.mpr ⟨a, List.mem_filter.mpr ⟨List.mem_filter.mpr ⟨ha, decide_eq_true z1.symm⟩, by rw [decide_eq_false z3]; rfl⟩, rfl⟩⟩)
            exact hc.up (or_sub (or_sub (sub_r _ _) (sub_trans (sub_r _ _) (sub_l _ _))) (sub_trans (sub_l _ _) (sub_l _ _)))
          · have hne : ¬ b.i = some l.1 := by
              intro z
              obtain ⟨r, h1, h2⟩ := cx l.1 z
              rw [hr] at h1
              have er2 := Option.some.inj h1
              rcases h2 with ⟨t, a', x', b', e1, e2, g, _⟩ | ⟨_, s0, l0, g1, g2⟩
              · rw [← er2] at g; cases g
              · rw [← er2] at g1
                rcases lead_cls g1 with ⟨g, g', _⟩ | ⟨n', q1, q2, gr, _, g, _⟩ | ⟨a1, a2, a3, a4, a5, gr, _⟩ | ⟨a1, a2, a3, a4, gr, _⟩
                · cases s0 with
                  | clash => exact absurd g1 (by simp [leadsBy])
                  | is n0 k0 =>
                    simp only [leadsBy, leadsKind] at g1
                    split at g1
                    · rw [List.mem_singleton.mp g1] at g2
                      rw [es] at g2
                      cases g2
                    · exact nomatch g1
                  | has n0 t0 m0 => exact absurd g1 (by simp [leadsBy, leadsTie])
                · rw [g, es] at g2
                  cases g2
                · cases gr
                · cases gr
            have hc := cc ⟨Say.clash, (b.m ||| 2 ^ l.1) ||| a.m, some l.1⟩ (List.mem_flatMap.mpr ⟨_, hl2, by
              unfold cand
              dsimp only
              rw [if_pos rfl, if_neg hne]
              exact List.mem_map.mpr ⟨a, List.mem_filter.mpr ⟨ha, decide_eq_true rfl⟩, rfl⟩⟩)
            rw [er]
            exact hc.up (or_sub (or_sub (sub_r _ _) (sub_trans (sub_r _ _) (sub_l _ _))) (sub_trans (sub_l _ _) (sub_l _ _)))
      · exact first b hb rfl (List.mem_singleton.mp qa)
theorem Inv.start (W : WfR rws names told) {cs : List Ps} (hc : ∀ c ∈ cs, c.i = none ∧ c.s ∈ told ∧ c.m = 0 ∨ ∃ i r, rws[i]? = some r ∧ sayOf r = some c.s ∧ c.m = 2 ^ i ∧ c.i = none) (ht : ∀ s ∈ told, ⟨s, 0, none⟩ ∈ cs) (hb : ∀ i r s, rws[i]? = some r → sayOf r = some s → ⟨s, 2 ^ i, none⟩ ∈ cs) :
    Inv rws names told [] (putsS [] (List.replicate (rws.length + 1) []) cs) 0 0 := by
  have hd : ∀ c ∈ cs, Der rws names told c.s c.m ∧ c.i = none := fun c h => by
    rcases hc c h with ⟨h1, h2, h3⟩ | ⟨i, r, h1, h2, h3, h4⟩
    · rw [h3]; exact ⟨.told h2, h1⟩
    · rw [h3]; exact ⟨.base h1 h2, h4⟩
  have hl : (List.replicate (rws.length + 1) ([] : List Ps)).length = rws.length + 1 := List.length_replicate ..
  have hin : ∀ c ∈ cs, pc c.m < (List.replicate (rws.length + 1) ([] : List Ps)).length := fun c h => pc_in W hl (hd c h).1
  have h0 : ∀ j, lv (List.replicate (rws.length + 1) ([] : List Ps)) j = [] := fun j => by
    unfold lv
    rw [List.getD_eq_getElem?_getD, List.getElem?_replicate]
    split <;> rfl
  have hlv := putsS_lv (log := []) hin
  have hcov := putsS_cov (log := []) hin
  have cc : ∀ c ∈ cs, Cov [] (putsS [] (List.replicate (rws.length + 1) []) cs) c.s c.m := fun c h => by
    rcases hcov c h with q | q
    · exact .inl q
    · exact .inr ⟨_, c, q, rfl, sub_refl _⟩
  refine ⟨by rw [putsS_len, hl], fun j p hp => ?_, fun e he => (nomatch he), List.Pairwise.nil, fun pre f post e => ?_, fun j p hp hj => ?_, ?_⟩
  · obtain ⟨add, e, ha⟩ := hlv j
    rw [e, h0, List.nil_append] at hp
    obtain ⟨h1, h2⟩ := ha p hp
    exact ⟨h2, (hd p h1).1, fun i hi => by rw [(hd p h1).2] at hi; cases hi⟩
  · have := congrArg List.length e
    rw [List.length_append, List.length_cons, List.length_nil] at this
    omega
  · rcases hj with hj | ⟨_, hj⟩
    · omega
    · exact nomatch hj
  · exact ⟨fun s hs => cc _ (ht s hs), fun i r s h1 h2 => cc _ (hb i r s h1 h2), fun e he => (nomatch he), fun a ha => (nomatch ha)⟩
theorem Inv.done {log : List Ps} {lev : List (List Ps)} (V : Inv rws names told log lev (rws.length + 1) 0) : Clo rws names told log (hasP log) := by
  refine V.clo.mono ?_
  rintro z m (q | ⟨j, p, h1, h2, h3⟩)
  · exact q
  · have hj : j < rws.length + 1 := by
      rcases Nat.lt_or_ge j (rws.length + 1) with g | g
      · exact g
      · rw [lv_out (by rw [V.len]; exact g)] at h1
        exact nomatch h1
    have := V.fin j p h1 (.inl hj)
    rw [h2] at this
    exact this.up h3
end
end Ah
end
section
set_option Elab.async false
set_option linter.all false
set_option maxRecDepth 100000
set_option maxHeartbeats 4000000
namespace Ah
open PySem PySem.Spec PyProof.Rows L2
section
variable {rws : List Rw} {names : List Str} {told : List Say}
theorem mem_split {α : Type} {x : α} {xs : List α} (h : x ∈ xs) : ∃ a b, xs = a ++ x :: b := List.append_of_mem h
theorem on_lead {i : Nat} {t a b c : Str} (hr : rws[i]? = some (.on t)) (hab : a ≠ b) (hbc : b ≠ c) (hc : c ∈ names) : (i, Say.has a t b, some (Say.has b t c), Say.has a t c) ∈ workedN rws (.has a t b) names :=
  mem_workedN.mpr ⟨_, hr, lead_on1 hc, by
    unfold useful
    simp only [Bool.and_eq_true, Bool.not_eq_true', decide_eq_false_iff_not]
    refine ⟨fun z => ?_, fun z => ?_⟩
    · cases z; exact hbc rfl
    · cases z; exact hab rfl⟩
theorem chain_ok (W : WfR rws names told) {log : List Ps} (C : Clo rws names told log (hasP log)) (hd : ∀ e ∈ log, Der rws names told e.s e.m) (hdec : ∀ pre f post, log = pre ++ f :: post → Dec rws names pre f)
    {i : Nat} {t : Str} (hr : rws[i]? = some (.on t)) : ∀ (n : Nat) (pre : List Ps) (f : Ps) (post : List Ps), pre.length ≤ n → log = pre ++ f :: post → ∀ (a b c : Str), f.s = .has a t b → ∀ g ∈ log, g.s = .has b t c → hasP log (.has a t c) (f.m ||| 2 ^ i ||| g.m) := by
  intro n
  induction n with
  | zero =>
    intro pre f post hn e a b c hf g hg hgs
    have hfm : f ∈ log := e ▸ List.mem_append_right _ (List.mem_cons_self ..)
    by_cases hab : a = b
    · subst hab; exact ⟨g, hg, hgs, sub_r _ _⟩
    by_cases hbc : b = c
    · subst hbc; exact ⟨f, hfm, hf, sub_trans (sub_l _ _) (sub_l _ _)⟩
    have hc : c ∈ names := (der_few W (hd g hg)).2 c (by rw [hgs]; simp [Say.names])
    have hl := on_lead hr hab hbc hc
    by_cases hi : f.i = some i
    · obtain ⟨r, h1, h2⟩ := hdec pre f post e i hi
      rw [hr] at h1
      rcases h2 with ⟨_, _, _, _, e1, _, _, g1, _⟩ | ⟨h2, _⟩
      · rw [List.eq_nil_of_length_eq_zero (Nat.le_zero.mp hn)] at g1
        exact nomatch g1
      · exact absurd (Option.some.inj h1).symm (h2 t)
    · exact C.c2 f hfm g hg _ (by rw [hf]; exact hl) hf.symm (by rw [hgs]) hi
  | succ n ih =>
    intro pre f post hn e a b c hf g hg hgs
    have hfm : f ∈ log := e ▸ List.mem_append_right _ (List.mem_cons_self ..)
    by_cases hab : a = b
    · subst hab; exact ⟨g, hg, hgs, sub_r _ _⟩
    by_cases hbc : b = c
    · subst hbc; exact ⟨f, hfm, hf, sub_trans (sub_l _ _) (sub_l _ _)⟩
    have hc : c ∈ names := (der_few W (hd g hg)).2 c (by rw [hgs]; simp [Say.names])
    by_cases hi : f.i = some i
    · obtain ⟨r, h1, h2⟩ := hdec pre f post e i hi
      rw [hr] at h1
      have er := Option.some.inj h1
      rcases h2 with ⟨t', a', x, b', e1, e2, g0, g1, g2, g3, g4, g5, g6, g7⟩ | ⟨h2, _⟩
      · rw [← er] at g0
        cases g0
        rw [hf] at g3
        cases g3
        obtain ⟨p1, p2, ep⟩ := mem_split g2
        have hl2 : log = p1 ++ e2 :: (p2 ++ f :: post) := by rw [e, ep]; simp
        have hlen : p1.length ≤ n := by
          have := congrArg List.length ep
          rw [List.length_append, List.length_cons] at this
          omega
        obtain ⟨h, hh, hs, hm⟩ := ih p1 e2 _ hlen hl2 x b c g5 g hg hgs
        have he1 : e1 ∈ log := by rw [e]; exact List.mem_append_left _ g1
        have k1 : sub e1.m (f.m ||| 2 ^ i ||| g.m) := sub_trans (sub_trans (sub_l _ _) (sub_trans (sub_l _ _) g7)) (sub_trans (sub_l _ _) (sub_l _ _))
        have k2 : sub e2.m (f.m ||| 2 ^ i ||| g.m) := sub_trans (sub_trans (sub_r _ _) g7) (sub_trans (sub_l _ _) (sub_l _ _))
        have k3 : sub (2 ^ i) (f.m ||| 2 ^ i ||| g.m) := sub_trans (sub_r _ _) (sub_l _ _)
        have k4 : sub h.m (f.m ||| 2 ^ i ||| g.m) := sub_trans hm (or_sub (or_sub k2 k3) (sub_r _ _))
        by_cases hax : a = x
        · subst hax; exact ⟨h, hh, hs, k4⟩
        by_cases hxc : x = c
        · subst hxc; exact ⟨e1, he1, g4, k1⟩
        exact (C.c2 e1 he1 h hh _ (by rw [g4]; exact on_lead hr hax hxc hc) g4.symm (by rw [hs]) g6).up (or_sub (or_sub k1 k3) k4)
      · exact absurd er.symm (h2 t)
    · exact C.c2 f hfm g hg _ (by rw [hf]; exact on_lead hr hab hbc hc) hf.symm (by rw [hgs]) hi
theorem join_ok (W : WfR rws names told) {log : List Ps} (C : Clo rws names told log (hasP log)) (hd : ∀ e ∈ log, Der rws names told e.s e.m) (hdec : ∀ pre f post, log = pre ++ f :: post → Dec rws names pre f)
    {f g : Ps} (hf : f ∈ log) (hg : g ∈ log) {l : LeadN} (hl : l ∈ workedN rws f.s names) (e1 : l.2.1 = f.s) (e2 : l.2.2.1 = some g.s) : hasP log l.2.2.2 (f.m ||| 2 ^ l.1 ||| g.m) := by
  by_cases hi : f.i = some l.1
  · obtain ⟨pre, post, ep⟩ := mem_split hf
    obtain ⟨r, h1, h2⟩ := hdec pre f post ep l.1 hi
    obtain ⟨r', h1', h3, _⟩ := mem_workedN.mp hl
    rw [h1] at h1'
    have er := Option.some.inj h1'
    rcases lead_cls h3 with ⟨z, _⟩ | ⟨n, k1, k2, gr, _, g0, gs⟩ | ⟨x, a, n, b, c, gr, g0, gs⟩ | ⟨x, t, y, z, gr, g0, gs⟩
    · rw [z] at e2; cases e2
    · rcases h2 with ⟨t, _, _, _, _, _, g1, _⟩ | ⟨_, s0, l0, q1, q2⟩
      · rw [er] at g1
        rcases gr with gr | gr <;> rw [gr] at g1 <;> cases g1
      · rw [gs] at q2
        rw [er] at q1
        have : l0.2.2 = .clash := by
          rcases gr with gr | gr <;> rw [gr] at q1
          all_goals
            cases s0 with
            | clash => exact absurd q1 (by simp [leadsBy])
            | is n0 k0 =>
              simp only [leadsBy, leadsKind] at q1
              split at q1
              · rw [List.mem_singleton.mp q1]
              · exact nomatch q1
            | has n0 t0 m0 => exact absurd q1 (by simp [leadsBy, leadsTie])
        rw [this] at q2
        cases q2
    · rcases h2 with ⟨t, _, _, _, _, _, g1, _⟩ | ⟨_, s0, l0, q1, q2⟩
      · rw [er, gr] at g1; cases g1
      · rw [er, gr] at q1
        rw [g0] at e1
        rw [← e1] at q2
        rcases lead_cls q1 with ⟨_, q3, _⟩ | ⟨_, _, _, gr', _⟩ | ⟨_, _, _, _, _, gr', g0', _⟩ | ⟨_, _, _, _, gr', _⟩
        · cases s0 with
          | clash => exact absurd q1 (by simp [leadsBy])
          | is n0 k0 =>
            simp only [leadsBy, leadsKind] at q1
            split at q1
            · obtain ⟨_, _, rfl⟩ := List.mem_map.mp q1
              cases q2
            · exact nomatch q1
          | has n0 t0 m0 =>
            simp only [leadsBy, leadsTie] at q1
            split at q1
            · rw [List.mem_singleton.mp q1] at q2
              cases q2
            · exact nomatch q1
        · rcases gr' with gr' | gr' <;> cases gr'
        · rw [g0'] at q2; cases q2
        · cases gr'
    · rw [g0] at e1 e2 ⊢
      exact chain_ok W C hd hdec (by rw [h1, er, gr]) pre.length pre f post (Nat.le_refl _) ep x y z e1.symm g hg (Option.some.inj e2).symm
  · exact C.c2 f hf g hg l hl e1 e2 hi
theorem compl (W : WfR rws names told) {log : List Ps} (C : Clo rws names told log (hasP log)) (hd : ∀ e ∈ log, Der rws names told e.s e.m) (hdec : ∀ pre f post, log = pre ++ f :: post → Dec rws names pre f) :
    ∀ {z m}, Der rws names told z m → hasP log z m := by
  intro z m h
  induction h with
  | told h => exact C.ct _ h
  | base h1 h2 => exact C.cb _ _ _ h1 h2
  | @one s m l d hl ho ih =>
    obtain ⟨e, h1, rfl, h3⟩ := ih
    have e0 : l.2.2.1 = none := by
      unfold other at ho
      split at ho
      · exact ho
      · cases ho
    exact (C.c1 e h1 l hl e0).up (or_mono h3 (sub_refl _))
  | @two s s2 m m2 l d hl ho d2 ih ih2 =>
    obtain ⟨e, h1, rfl, h3⟩ := ih
    obtain ⟨e', h1', rfl, h3'⟩ := ih2
    by_cases hs : l.2.1 = e.s
    · have e0 : l.2.2.1 = some e'.s := by
        unfold other at ho
        rw [if_pos hs] at ho
        exact ho
      exact (join_ok W C hd hdec h1 h1' hl hs e0).up (or_mono (or_mono h3 (sub_refl _)) h3')
    · have e0 : l.2.1 = e'.s := by
        unfold other at ho
        rw [if_neg hs] at ho
        exact Option.some.inj ho
      obtain ⟨r, g1, g2, g3⟩ := mem_workedN.mp hl
      have key : l ∈ workedN rws e'.s names ∧ l.2.2.1 = some e.s := by
        rcases lead_cls g2 with ⟨_, z, _⟩ | ⟨n, k1, k2, gr, _, g0, gs⟩ | ⟨x, a, n, b, c, gr, g0, gs⟩ | ⟨x, t, y, z, gr, g0, gs⟩
        · exact absurd z hs
        · exact absurd (by rw [g0, gs]) hs
        · rcases gs with gs | gs
          · exact absurd (by rw [g0, gs]) hs
          · refine ⟨mem_workedN.mpr ⟨r, g1, ?_, g3⟩, by rw [g0, gs]⟩
            rw [← e0, g0, gr]
            exact lead_who1
        · rcases gs with gs | gs
          · exact absurd (by rw [g0, gs]) hs
          · refine ⟨mem_workedN.mpr ⟨r, g1, ?_, g3⟩, by rw [g0, gs]⟩
            rw [← e0, g0, gr]
            exact lead_on1 ((der_few W (hd e h1)).2 z (by rw [gs]; simp [Say.names]))
      refine (join_ok W C hd hdec h1' h1 key.1 e0 key.2).up ?_
      exact or_sub (or_sub (sub_trans h3' (sub_r _ _)) (sub_trans (sub_r _ _) (sub_l _ _))) (sub_trans h3 (sub_trans (sub_l _ _) (sub_l _ _)))
/-! ### what is found for one saying -/
def masksL (log : List Ps) (z : Say) : List Nat := (log.filter fun e => decide (e.s = z)).map (·.m)
theorem mem_masksL {log : List Ps} {z : Say} {m : Nat} : m ∈ masksL log z ↔ ∃ e ∈ log, e.s = z ∧ e.m = m := by
  unfold masksL
  rw [List.mem_map]
  constructor
  · rintro ⟨e, h, rfl⟩
    rw [List.mem_filter] at h
    exact ⟨e, h.1, of_decide_eq_true h.2, rfl⟩
  · rintro ⟨e, h1, h2, rfl⟩
    exact ⟨e, List.mem_filter.mpr ⟨h1, decide_eq_true h2⟩, rfl⟩
theorem masks_pair {log : List Ps} (ho : log.Pairwise fun e f => pc e.m ≤ pc f.m ∧ (e.s = f.s → ¬ sub e.m f.m)) (z : Say) : (masksL log z).Pairwise fun a b => pc a ≤ pc b ∧ ¬ sub a b := by
  unfold masksL
  rw [List.pairwise_map, List.pairwise_filter]
  exact ho.imp fun h a b => ⟨h.1, h.2 ((of_decide_eq_true a).trans (of_decide_eq_true b).symm)⟩
theorem pair_anti : ∀ {l : List Nat}, (l.Pairwise fun a b => pc a ≤ pc b ∧ ¬ sub a b) → (∀ x ∈ l, x < 2 ^ 12) → l.Nodup ∧ ∀ x ∈ l, ∀ y ∈ l, sub x y → x = y
  | [], _, _ => ⟨.nil, fun x hx => nomatch hx⟩
  | a :: l, h, hl => by
    obtain ⟨h1, h2⟩ := List.pairwise_cons.mp h
    obtain ⟨nd, an⟩ := pair_anti h2 fun x hx => hl x (List.mem_cons_of_mem _ hx)
    refine ⟨List.nodup_cons.mpr ⟨fun ha => (h1 a ha).2 (sub_refl a), nd⟩, fun x hx y hy hs => ?_⟩
    rcases List.mem_cons.mp hx with ex | hx <;> rcases List.mem_cons.mp hy with ey | hy
    · rw [ex, ey]
    · rw [ex] at hs ⊢
      exact absurd hs (h1 y hy).2
    · rw [ey] at hs ⊢
      exact pc_eq hs (hl a (List.mem_cons_self ..)) (h1 x hx).1
    · exact an x hx y hy hs
theorem masks_anti (W : WfR rws names told) {log : List Ps} (ho : log.Pairwise fun e f => pc e.m ≤ pc f.m ∧ (e.s = f.s → ¬ sub e.m f.m)) (hd : ∀ e ∈ log, Der rws names told e.s e.m) (z : Say) :
    (masksL log z).Nodup ∧ (∀ x ∈ masksL log z, ∀ y ∈ masksL log z, sub x y → x = y) ∧ ∀ x ∈ masksL log z, x < 2 ^ rws.length := by
  have hlt : ∀ x ∈ masksL log z, x < 2 ^ rws.length := fun x hx => by
    obtain ⟨e, h1, _, rfl⟩ := mem_masksL.mp hx
    exact der_lt (hd e h1)
  obtain ⟨h1, h2⟩ := pair_anti (masks_pair ho z) fun x hx => Nat.lt_of_lt_of_le (hlt x hx) (Nat.pow_le_pow_right (by decide) W.n12)
  exact ⟨h1, h2, hlt⟩
theorem masks_len (W : WfR rws names told) {log : List Ps} (ho : log.Pairwise fun e f => pc e.m ≤ pc f.m ∧ (e.s = f.s → ¬ sub e.m f.m)) (hd : ∀ e ∈ log, Der rws names told e.s e.m) (z : Say) : (masksL log z).length ≤ (chains rws.length).length := by
  obtain ⟨h1, h2, h3⟩ := masks_anti W ho hd z
  exact anti_len h3 h1 h2
/-- what stands in the end -/
theorem masks_iff (W : WfR rws names told) {log : List Ps} {lev : List (List Ps)} (V : Inv rws names told log lev (rws.length + 1) 0) (z : Say) (m : Nat) :
    m ∈ masksL log z ↔ Der rws names told z m ∧ ∀ m', Der rws names told z m' → sub m' m → m' = m := by
  have hd : ∀ e ∈ log, Der rws names told e.s e.m := fun e he => (V.lg e he).2
  have C : ∀ {z m}, Der rws names told z m → hasP log z m := fun d => compl W V.done hd V.dec d
  obtain ⟨nd, an, lt⟩ := masks_anti W V.ord hd z
  constructor
  · intro h
    obtain ⟨e, h1, rfl, rfl⟩ := mem_masksL.mp h
    refine ⟨hd e h1, fun m' d hs => ?_⟩
    obtain ⟨f, g1, g2, g3⟩ := C d
    have := an f.m (mem_masksL.mpr ⟨f, g1, g2, rfl⟩) e.m h (sub_trans g3 hs)
    rw [this] at g3
    exact sub_anti hs g3
  · rintro ⟨d, mn⟩
    obtain ⟨f, g1, g2, g3⟩ := C d
    have hf := hd f g1
    rw [g2] at hf
    exact mem_masksL.mpr ⟨f, g1, g2, mn f.m hf g3⟩
/-! ### how many there are -/
theorem len_parts {p : Ps → Say} : ∀ (zs : List Say) (log : List Ps) (A : Nat), (∀ e ∈ log, e.s ∈ zs) → (∀ z, (log.filter fun e => decide (e.s = z)).length ≤ A) → log.length ≤ zs.length * A
  | [], log, A, h, _ => by
    rcases log with _ | ⟨e, l⟩
    · exact Nat.zero_le _
    · exact nomatch h e (List.mem_cons_self ..)
  | z :: zs, log, A, h, hA => by
    have e := List.length_eq_countP_add_countP (fun e : Ps => decide (e.s = z)) (l := log)
    have h1 := hA z
    have h2 := len_parts (p := p) zs (log.filter fun e => !decide (e.s = z)) A (fun e he => by
      rw [List.mem_filter] at he
      rcases List.mem_cons.mp (h e he.1) with q | q
      · rw [decide_eq_true q] at he; exact nomatch he.2
      · exact q) (fun y => by
        refine Nat.le_trans ?_ (hA y)
        rw [List.filter_filter]
        refine (List.Sublist.length_le ?_)
        have : (log.filter fun a => decide (a.s = y) && !decide (a.s = z)) = (log.filter fun a => decide (a.s = y)).filter fun a => !decide (a.s = z) := by
          rw [List.filter_filter]
          congr 1
          funext a
          rw [Bool.and_comm]
        rw [this]
        exact List.filter_sublist)
    rw [List.countP_eq_length_filter, List.countP_eq_length_filter] at e
    have e3 : (log.filter fun a => !decide (a.s = z)).length = (log.filter fun a => decide (¬ decide (a.s = z) = true)).length := by
      congr 2
      funext a
      by_cases q : a.s = z <;> simp [q]
    rw [List.length_cons, Nat.succ_mul]
    omega
theorem log_len (W : WfR rws names told) {log : List Ps} (ho : log.Pairwise fun e f => pc e.m ≤ pc f.m ∧ (e.s = f.s → ¬ sub e.m f.m)) (hd : ∀ e ∈ log, Der rws names told e.s e.m) : log.length ≤ 28 * (chains rws.length).length := by
  have := len_parts (p := fun e => e.s) allSay log (chains rws.length).length (fun e he => mem_allSay (der_few W (hd e he)).1) fun z => by
    have := masks_len W ho hd z
    unfold masksL at this
    rwa [List.length_map] at this
  rwa [allSay_len] at this
theorem chains_pos (n : Nat) : 1 ≤ (chains n).length := by
  obtain ⟨c, h, _⟩ := chains_all n 0 (Nat.pow_pos (by decide))
  exact List.length_pos_of_mem h
theorem cands_len (W : WfR rws names told) {log : List Ps} (ho : log.Pairwise fun e f => pc e.m ≤ pc f.m ∧ (e.s = f.s → ¬ sub e.m f.m)) (hd : ∀ e ∈ log, Der rws names told e.s e.m) (x : Ps) :
    (cands rws names log x).length ≤ rws.length * (2 * names.length + 1) * (chains rws.length).length := by
  have h1 := chains_pos rws.length
  have hm := fun z => masks_len W ho hd z
  unfold masksL at hm
  have hc : ∀ l ∈ workedN rws x.s names, (cand log x l).length ≤ (chains rws.length).length := fun l _ => by
    unfold cand
    split
    · exact h1
    · rename_i s2 _
      split
      · split
        · exact Nat.zero_le _
        · have := hm s2
          rw [List.length_map] at this ⊢
          exact this
      · have := hm l.2.1
        rw [List.length_map] at this ⊢
        exact Nat.le_trans (List.length_filter_le ..) this
  have h2 := flatMap_len hc
  refine Nat.le_trans h2 (Nat.mul_le_mul_right _ (worked_len names x.s rws))
end
end Ah
end
section
set_option Elab.async false
set_option linter.all false
set_option maxRecDepth 100000
set_option maxHeartbeats 4000000
namespace Ah
open PySem PySem.Spec PyProof.Rows L2
/-! ### from masks to lots -/
theorem fol_mono {r1 r2 : List Rw} {names : List Str} (h : ∀ r ∈ r1, r ∈ r2) {s : Say} (f : Fol r1 names s) : Fol r2 names s := by
  induction f with
  | base hr e => exact .base (h _ hr) e
  | one _ hl ho ih =>
    obtain ⟨r, g1, g2⟩ := mem_worked.mp hl
    exact .one ih (mem_worked.mpr ⟨r, h r g1, g2⟩) ho
  | two _ hl ho _ ih ih2 =>
    obtain ⟨r, g1, g2⟩ := mem_worked.mp hl
    exact .two ih (mem_worked.mpr ⟨r, h r g1, g2⟩) ho ih2
theorem leads_mono {r : Rw} {s : Say} {n1 n2 : List Str} (h : ∀ x ∈ n1, x ∈ n2) {l : Lead} (hl : l ∈ leadsBy r s n1) : l ∈ leadsBy r s n2 := by
  cases s with
  | clash => exact hl
  | is n k =>
    cases r <;> simp only [leadsBy, leadsKind] at hl ⊢ <;> try exact hl
    split at hl
    · rename_i e
      rw [if_pos e]
      obtain ⟨x, hx, e2⟩ := List.mem_map.mp hl
      exact List.mem_map.mpr ⟨x, h x hx, e2⟩
    · exact nomatch hl
  | has n t m =>
    cases r <;> simp only [leadsBy, leadsTie] at hl ⊢ <;> try exact hl
    split at hl
    · rename_i e
      rw [if_pos e]
      unfold leadsOn at hl ⊢
      rcases List.mem_append.mp hl with q | q
      · obtain ⟨x, hx, e2⟩ := List.mem_map.mp q
        exact List.mem_append_left _ (List.mem_map.mpr ⟨x, h x hx, e2⟩)
      · obtain ⟨x, hx, e2⟩ := List.mem_map.mp q
        exact List.mem_append_right _ (List.mem_map.mpr ⟨x, h x hx, e2⟩)
    · exact nomatch hl
theorem fol_names {rws : List Rw} {n1 n2 : List Str} (h : ∀ x ∈ n1, x ∈ n2) {s : Say} (f : Fol rws n1 s) : Fol rws n2 s := by
  induction f with
  | base hr e => exact .base hr e
  | one _ hl ho ih =>
    obtain ⟨r, g1, g2, g3⟩ := mem_worked.mp hl
    exact .one ih (mem_worked.mpr ⟨r, g1, leads_mono h g2, g3⟩) ho
  | two _ hl ho _ ih ih2 =>
    obtain ⟨r, g1, g2, g3⟩ := mem_worked.mp hl
    exact .two ih (mem_worked.mpr ⟨r, g1, leads_mono h g2, g3⟩) ho ih2
/-- the rows of a lot -/
def rowsOf (rs : List Rw) (L : List Nat) : List Rw := L.filterMap fun p => rs[p]?
theorem mem_rowsOf {rs : List Rw} {L : List Nat} {r : Rw} : r ∈ rowsOf rs L ↔ ∃ p ∈ L, rs[p]? = some r := List.mem_filterMap
def idxR (rs : List Rw) (p : Nat) : Nat := match rs[p]? with
  | some r => (dd rs).idxOf r
  | none => 0
def maskL (rs : List Rw) (L : List Nat) : Nat := L.foldr (fun p m => m ||| 2 ^ idxR rs p) 0
theorem mask_test {rs : List Rw} {i : Nat} : ∀ {L : List Nat}, (maskL rs L).testBit i = true ↔ ∃ p ∈ L, idxR rs p = i
  | [] => by
    show (0 : Nat).testBit i = true ↔ _
    rw [Nat.zero_testBit]
    exact ⟨fun h => (nomatch h), fun ⟨p, h, _⟩ => (nomatch h)⟩
  | p :: L => by
    show (maskL rs L ||| 2 ^ idxR rs p).testBit i = true ↔ _
    rw [Nat.testBit_or, Bool.or_eq_true, mask_test, bit_test, decide_eq_true_iff]
    constructor
    · rintro (⟨q, h1, h2⟩ | h)
      · exact ⟨q, List.mem_cons_of_mem _ h1, h2⟩
      · exact ⟨p, List.mem_cons_self .., h⟩
    · rintro ⟨q, h1, h2⟩
      rcases List.mem_cons.mp h1 with e | h1
      · subst e; exact .inr h2
      · exact .inl ⟨q, h1, h2⟩
theorem idx_row {rs : List Rw} {p : Nat} {r : Rw} (h : rs[p]? = some r) : (dd rs)[idxR rs p]? = some r := by
  unfold idxR
  rw [h]
  have hm : r ∈ dd rs := (dd_mem rs r).mpr (List.mem_of_getElem? h)
  have hl := List.idxOf_lt_length_of_mem hm
  show (dd rs)[(dd rs).idxOf r]? = some r
  rw [List.getElem?_eq_getElem hl, List.getElem_idxOf]
theorem dd_inj {rs : List Rw} {i j : Nat} {r : Rw} (h1 : (dd rs)[i]? = some r) (h2 : (dd rs)[j]? = some r) : i = j := by
  exact (List.getElem?_inj (get_lt h1) (dd_nodup rs)).mp (h1.trans h2.symm)
section
variable {rs : List Rw} {names : List Str}
/-- which rows a mask has -/
theorem mask_rows {L : List Nat} (hL : ∀ p ∈ L, p < rs.length) {i : Nat} {r : Rw} (hi : (dd rs)[i]? = some r) : (maskL rs L).testBit i = true ↔ r ∈ rowsOf rs L := by
  rw [mask_test, mem_rowsOf]
  constructor
  · rintro ⟨p, hp, e⟩
    have hr : rs[p]? = some (rs[p]'(hL p hp)) := List.getElem?_eq_getElem (hL p hp)
    have h2 := idx_row hr
    rw [e, hi] at h2
    exact ⟨p, hp, by rw [hr, ← Option.some.inj h2]⟩
  · rintro ⟨p, hp, e⟩
    exact ⟨p, hp, dd_inj (idx_row e) hi⟩
theorem der_fol {L : List Nat} (hL : ∀ p ∈ L, p < rs.length) {s : Say} {m : Nat} (d : Der (dd rs) names [] s m) : sub m (maskL rs L) → Fol (rowsOf rs L) names s := by
  induction d with
  | told h => exact nomatch h
  | base h1 h2 => exact fun hs => .base ((mask_rows hL h1).mp (bit_sub.mp hs)) h2
  | one _ hl ho ih =>
    intro hs
    obtain ⟨r, g1, g2, g3⟩ := mem_workedN.mp hl
    exact .one (ih (sub_trans (sub_l _ _) hs)) (mem_worked.mpr ⟨r, (mask_rows hL g1).mp (bit_sub.mp (sub_trans (sub_r _ _) hs)), g2, g3⟩) ho
  | two _ hl ho _ ih ih2 =>
    intro hs
    obtain ⟨r, g1, g2, g3⟩ := mem_workedN.mp hl
    exact .two (ih (sub_trans (sub_l _ _) (sub_trans (sub_l _ _) hs))) (mem_worked.mpr ⟨r, (mask_rows hL g1).mp (bit_sub.mp (sub_trans (sub_r _ _) (sub_trans (sub_l _ _) hs))), g2, g3⟩) ho (ih2 (sub_trans (sub_r _ _) hs))
theorem fol_der {L : List Nat} (hL : ∀ p ∈ L, p < rs.length) {s : Say} (f : Fol (rowsOf rs L) names s) : ∃ m, Der (dd rs) names [] s m ∧ sub m (maskL rs L) := by
  have row : ∀ r ∈ rowsOf rs L, ∃ i, (dd rs)[i]? = some r ∧ sub (2 ^ i) (maskL rs L) := fun r hr => by
    obtain ⟨p, hp, e⟩ := mem_rowsOf.mp hr
    exact ⟨_, idx_row e, bit_sub.mpr ((mask_rows hL (idx_row e)).mpr hr)⟩
  induction f with
  | base hr e =>
    obtain ⟨i, h1, h2⟩ := row _ hr
    exact ⟨_, .base h1 e, h2⟩
  | @one s l _ hl ho ih =>
    obtain ⟨m, d, h⟩ := ih
    obtain ⟨r, g1, g2, g3⟩ := mem_worked.mp hl
    obtain ⟨i, h1, h2⟩ := row r g1
    exact ⟨_, .one (l := (i, l)) d (mem_workedN.mpr ⟨r, h1, g2, g3⟩) ho, or_sub h h2⟩
  | @two s s2 l _ hl ho _ ih ih2 =>
    obtain ⟨m, d, h⟩ := ih
    obtain ⟨m2, d2, h3⟩ := ih2
    obtain ⟨r, g1, g2, g3⟩ := mem_worked.mp hl
    obtain ⟨i, h1, h2⟩ := row r g1
    exact ⟨_, .two (l := (i, l)) d (mem_workedN.mpr ⟨r, h1, g2, g3⟩) ho d2, or_sub (or_sub h h2) h3⟩
/-- a lot: places that rise -/
def LotOk (rs : List Rw) (L : List Nat) : Prop := L.Pairwise (· < ·) ∧ ∀ p ∈ L, p < rs.length
def LeastLot (rs : List Rw) (names : List Str) (s : Say) (L : List Nat) : Prop := LotOk rs L ∧ Fol (rowsOf rs L) names s ∧ ∀ L', LotOk rs L' → (∀ p ∈ L', p ∈ L) → Fol (rowsOf rs L') names s → L' = L
def Choice (rs : List Rw) (m : Nat) (L : List Nat) : Prop := LotOk rs L ∧ maskL rs L = m ∧ ∀ p ∈ L, ∀ q ∈ L, rs[p]? = rs[q]? → p = q
def LeastMk (rs : List Rw) (names : List Str) (s : Say) (m : Nat) : Prop := Der (dd rs) names [] s m ∧ ∀ m', Der (dd rs) names [] s m' → sub m' m → m' = m
theorem least_below : ∀ (n m : Nat), m ≤ n → ∀ {s : Say}, Der (dd rs) names [] s m → ∃ m', LeastMk rs names s m' ∧ sub m' m
  | 0, m, h, s, d => by
    have : m = 0 := by omega
    subst this
    exact ⟨0, ⟨d, fun m' _ hs => sub_zero hs⟩, sub_refl _⟩
  | n + 1, m, h, s, d => by
    by_cases c : ∃ m', Der (dd rs) names [] s m' ∧ sub m' m ∧ m' ≠ m
    · obtain ⟨m', d', hs, hne⟩ := c
      have hle : m' ≤ m := by
        rw [← (show m' &&& m = m' from hs)]
        exact Nat.and_le_right
      obtain ⟨m2, l2, s2⟩ := least_below n m' (by omega) d'
      exact ⟨m2, l2, sub_trans s2 hs⟩
    · refine ⟨m, ⟨d, fun m' d' hs => ?_⟩, sub_refl _⟩
      by_cases e : m' = m
      · exact e
      · exact absurd ⟨m', d', hs, e⟩ c
theorem asc_eq : ∀ {a b : List Nat}, a.Pairwise (· < ·) → b.Pairwise (· < ·) → (∀ x, x ∈ a ↔ x ∈ b) → a = b
  | [], [], _, _, _ => rfl
  | [], y :: b, _, _, h => nomatch (h y).mpr (List.mem_cons_self ..)
  | x :: a, [], _, _, h => nomatch (h x).mp (List.mem_cons_self ..)
  | x :: a, y :: b, ha, hb, h => by
    obtain ⟨a1, a2⟩ := List.pairwise_cons.mp ha
    obtain ⟨b1, b2⟩ := List.pairwise_cons.mp hb
    have e : x = y := by
      rcases List.mem_cons.mp ((h x).mp (List.mem_cons_self ..)) with e | hx
      · exact e
      · rcases List.mem_cons.mp ((h y).mpr (List.mem_cons_self ..)) with e | hy
        · exact e.symm
        · have := b1 x hx
          have := a1 y hy
          omega
    subst e
    congr 1
    refine asc_eq a2 b2 fun z => ?_
    constructor
    · intro hz
      rcases List.mem_cons.mp ((h z).mp (List.mem_cons_of_mem _ hz)) with e | q
      · have := a1 z hz
        omega
      · exact q
    · intro hz
      rcases List.mem_cons.mp ((h z).mpr (List.mem_cons_of_mem _ hz)) with e | q
      · have := b1 z hz
        omega
      · exact q
theorem least_lot {s : Say} {L : List Nat} : LeastLot rs names s L ↔ ∃ m, LeastMk rs names s m ∧ Choice rs m L := by
  constructor
  · rintro ⟨⟨h1, h2⟩, f, mn⟩
    obtain ⟨m0, d0, s0⟩ := fol_der h2 f
    obtain ⟨m, lm, sm⟩ := least_below m0 m0 (Nat.le_refl _) d0
    have sml := sub_trans sm s0
    -- the lot of the rows in m
    have part : ∀ f : Nat → Bool, sub m (maskL rs (L.filter f)) → L.filter f = L := fun g hg =>
      mn _ ⟨h1.sublist List.filter_sublist, fun p hp => h2 p (List.mem_filter.mp hp).1⟩ (fun p hp => (List.mem_filter.mp hp).1) (der_fol (fun p hp => h2 p (List.mem_filter.mp hp).1) lm.1 hg)
    refine ⟨m, lm, ⟨h1, h2⟩, sub_anti (sub_iff.mpr fun i hi => ?_) sml, fun p hp q hq e => ?_⟩
    · have e1 := part (fun p => m.testBit (idxR rs p)) (sub_iff.mpr fun j hj => by
        obtain ⟨p, hp, ep⟩ := mask_test.mp (sub_iff.mp sml j hj)
        exact mask_test.mpr ⟨p, List.mem_filter.mpr ⟨hp, by rw [ep]; exact hj⟩, ep⟩)
      obtain ⟨p, hp, ep⟩ := mask_test.mp hi
      rw [← e1] at hp
      have := (List.mem_filter.mp hp).2
      rw [ep] at this
      exact this
    · by_cases hpq : p = q
      · exact hpq
      · have e1 := part (fun x => !decide (x = q)) (sub_iff.mpr fun j hj => by
          obtain ⟨x, hx, ex⟩ := mask_test.mp (sub_iff.mp sml j hj)
          by_cases hxq : x = q
          · refine mask_test.mpr ⟨p, List.mem_filter.mpr ⟨hp, by simp [hpq]⟩, ?_⟩
            rw [← ex, hxq]
            unfold idxR
            rw [e]
          · exact mask_test.mpr ⟨x, List.mem_filter.mpr ⟨hx, by simp [hxq]⟩, ex⟩)
        rw [← e1] at hq
        have := (List.mem_filter.mp hq).2
        simp at this
  · rintro ⟨m, lm, ⟨h1, h2⟩, e, nd⟩
    refine ⟨⟨h1, h2⟩, der_fol h2 lm.1 (by rw [e]; exact sub_refl _), fun L' h' hs f' => ?_⟩
    obtain ⟨m', d', s'⟩ := fol_der h'.2 f'
    have hsub : sub (maskL rs L') (maskL rs L) := sub_iff.mpr fun i hi => by
      obtain ⟨p, hp, ep⟩ := mask_test.mp hi
      exact mask_test.mpr ⟨p, hs p hp, ep⟩
    have em : m' = m := lm.2 m' d' (by rw [← e]; exact sub_trans s' hsub)
    refine asc_eq h'.1 h1 fun p => ⟨hs p, fun hp => ?_⟩
    have hb : (maskL rs L').testBit (idxR rs p) = true := sub_iff.mp s' _ (by rw [em, ← e]; exact mask_test.mpr ⟨p, hp, rfl⟩)
    obtain ⟨q, hq, eq⟩ := mask_test.mp hb
    have r1 : rs[p]? = some (rs[p]'(h2 p hp)) := List.getElem?_eq_getElem (h2 p hp)
    have r2 : rs[q]? = some (rs[q]'(h'.2 q hq)) := List.getElem?_eq_getElem (h'.2 q hq)
    have i1 := idx_row r1
    have i2 := idx_row r2
    rw [eq, i1] at i2
    have : p = q := nd p hp q (hs q hq) (by rw [r1, r2, Option.some.inj i2])
    rw [this]
    exact hq
end
end Ah
end
section
set_option Elab.async false
set_option linter.all false
set_option maxRecDepth 100000
set_option maxHeartbeats 4000000
namespace Ah
open PySem PySem.Spec PyProof.Rows L2
theorem asc_nodup {L : List Nat} (h : L.Pairwise (· < ·)) : L.Nodup := h.imp fun h => Nat.ne_of_lt h
theorem sub_eq {L M : List Nat} (hL : L.Pairwise (· < ·)) (hM : M.Pairwise (· < ·)) (hs : ∀ p ∈ L, p ∈ M) (hl : M.length ≤ L.length) : L = M := by
  refine asc_eq hL hM fun p => ⟨hs p, fun hp => ?_⟩
  by_cases q : p ∈ L
  · exact q
  · have h := len_sub (p :: L) M (List.nodup_cons.mpr ⟨q, asc_nodup hL⟩) fun x hx => by
      rcases List.mem_cons.mp hx with e | e
      · rw [e]; exact hp
      · exact hs x e
    rw [List.length_cons] at h
    omega
end Ah
end
section
set_option Elab.async false
set_option linter.all false
namespace Ah
/-- lists that rise by the same order and have the same members are the same -/
theorem ord_eq {α : Type} {lt : α → α → Prop} (as : ∀ x y, lt x y → lt y x → False) : ∀ {a b : List α}, a.Pairwise lt → b.Pairwise lt → (∀ x, x ∈ a ↔ x ∈ b) → a = b
  | [], [], _, _, _ => rfl
  | [], y :: b, _, _, h => nomatch (h y).mpr (List.mem_cons_self ..)
  | x :: a, [], _, _, h => nomatch (h x).mp (List.mem_cons_self ..)
  | x :: a, y :: b, ha, hb, h => by
    obtain ⟨a1, a2⟩ := List.pairwise_cons.mp ha
    obtain ⟨b1, b2⟩ := List.pairwise_cons.mp hb
    have irr : ∀ z, ¬ lt z z := fun z q => as z z q q
    have e : x = y := by
      rcases List.mem_cons.mp ((h x).mp (List.mem_cons_self ..)) with e | hx
      · exact e
      · rcases List.mem_cons.mp ((h y).mpr (List.mem_cons_self ..)) with e | hy
        · exact e.symm
        · exact (as _ _ (b1 x hx) (a1 y hy)).elim
    subst e
    congr 1
    refine ord_eq as a2 b2 fun z => ?_
    constructor
    · intro hz
      rcases List.mem_cons.mp ((h z).mp (List.mem_cons_of_mem _ hz)) with e | q
      · exact absurd (e ▸ a1 z hz) (irr z)
      · exact q
    · intro hz
      rcases List.mem_cons.mp ((h z).mpr (List.mem_cons_of_mem _ hz)) with e | q
      · exact absurd (e ▸ b1 z hz) (irr z)
      · exact q
end Ah
end
section
set_option Elab.async false
set_option linter.all false
set_option maxRecDepth 100000
set_option maxHeartbeats 4000000
namespace Ah
open PySem PySem.Spec PyProof.Rows L2
/-! ### the lots of a mask -/
theorem nodup_flat {α β : Type} {f : α → List β} : ∀ {l : List α}, l.Nodup → (∀ a ∈ l, (f a).Nodup) → (∀ a ∈ l, ∀ b ∈ l, ∀ x, x ∈ f a → x ∈ f b → a = b) → (l.flatMap f).Nodup
  | [], _, _, _ => List.nodup_nil
  | a :: l, hl, h1, h2 => by
    rw [List.nodup_cons] at hl
    rw [List.flatMap_cons, List.nodup_append]
    refine ⟨h1 a (List.mem_cons_self ..), nodup_flat hl.2 (fun b hb => h1 b (List.mem_cons_of_mem _ hb)) (fun b hb c hc => h2 b (List.mem_cons_of_mem _ hb) c (List.mem_cons_of_mem _ hc)), ?_⟩
    intro x hx y hy e
    subst e
    obtain ⟨b, hb, hxb⟩ := List.mem_flatMap.mp hy
    have := h2 a (List.mem_cons_self ..) b (List.mem_cons_of_mem _ hb) x hx hxb
    subst this
    exact hl.1 hb
theorem nodup_mapOn {α β : Type} {f : α → β} : ∀ {l : List α}, l.Nodup → (∀ a ∈ l, ∀ b ∈ l, f a = f b → a = b) → (l.map f).Nodup
  | [], _, _ => List.nodup_nil
  | a :: l, hl, h => by
    rw [List.nodup_cons] at hl
    rw [List.map_cons, List.nodup_cons]
    refine ⟨fun hm => ?_, nodup_mapOn hl.2 fun b hb c hc => h b (List.mem_cons_of_mem _ hb) c (List.mem_cons_of_mem _ hc)⟩
    obtain ⟨b, hb, e⟩ := List.mem_map.mp hm
    have := h b (List.mem_cons_of_mem _ hb) a (List.mem_cons_self ..) e
    subst this
    exact hl.1 hb
def prodP (pls : List (List Nat)) (m : Nat) : Nat → List (List Nat)
  | 0 => [[]]
  | i + 1 => if m.testBit i = true then (prodP pls m i).flatMap fun L => (pls[i]?.getD []).map fun n => L ++ [n] else prodP pls m i
def plsOf (rs : List Rw) : List (List Nat) := (dd rs).map (posOf rs)
def bitsB (m i : Nat) : List Nat := (List.range i).filter fun j => m.testBit j
def sortN (L : List Nat) : List Nat := L.mergeSort fun a b => decide (a ≤ b)
theorem sortN_perm (L : List Nat) : (sortN L).Perm L := List.mergeSort_perm ..
theorem sortN_le (L : List Nat) : (sortN L).Pairwise (· ≤ ·) := by
  have h := List.pairwise_mergeSort (le := fun a b : Nat => decide (a ≤ b)) (fun a b c h1 h2 => decide_eq_true (Nat.le_trans (of_decide_eq_true h1) (of_decide_eq_true h2))) (fun a b => by
    rw [Bool.or_eq_true, decide_eq_true_iff, decide_eq_true_iff]
    exact Nat.le_total a b) L
  exact h.imp fun h => of_decide_eq_true h
theorem le_lt {L : List Nat} (h : L.Pairwise (· ≤ ·)) (n : L.Nodup) : L.Pairwise (· < ·) := (h.and n).imp fun {a b} ⟨h1, h2⟩ => Nat.lt_of_le_of_ne h1 h2
theorem sortN_lt {L : List Nat} (n : L.Nodup) : (sortN L).Pairwise (· < ·) := le_lt (sortN_le L) ((sortN_perm L).nodup_iff.mpr n)
theorem sortN_mem {L : List Nat} {p : Nat} : p ∈ sortN L ↔ p ∈ L := (sortN_perm L).mem_iff
theorem sortN_eq {L L' : List Nat} (n : L.Nodup) (h1 : L'.Perm L) (h2 : L'.Pairwise (· ≤ ·)) : L' = sortN L :=
  asc_eq (le_lt h2 (h1.nodup_iff.mpr n)) (sortN_lt n) fun x => by rw [sortN_mem, h1.mem_iff]
theorem map_same {f : Nat → Nat} : ∀ {a b : List Nat}, a.map f = b.map f → (a.map f).Nodup → (∀ x, x ∈ a ↔ x ∈ b) → a = b
  | [], [], _, _, _ => rfl
  | [], y :: b, h, _, _ => nomatch h
  | x :: a, [], h, _, _ => nomatch h
  | x :: a, y :: b, h, n, hm => by
    rw [List.map_cons, List.map_cons] at h
    injection h with h1 h2
    rw [List.map_cons, List.nodup_cons] at n
    have e : x = y := by
      rcases List.mem_cons.mp ((hm x).mp (List.mem_cons_self ..)) with e | hx
      · exact e
      · refine absurd (show f x ∈ b.map f from List.mem_map.mpr ⟨x, hx, rfl⟩) ?_
        rw [← h2]
        exact n.1
    subst e
    congr 1
    refine map_same h2 n.2 fun z => ?_
    have nx : ∀ c : List Nat, c.map f = a.map f → x ∉ c := fun c e hc => n.1 (by rw [← e]; exact List.mem_map.mpr ⟨x, hc, rfl⟩)
    constructor
    · intro hz
      rcases List.mem_cons.mp ((hm z).mp (List.mem_cons_of_mem _ hz)) with e | q
      · subst e
        exact absurd hz (nx a rfl)
      · exact q
    · intro hz
      rcases List.mem_cons.mp ((hm z).mpr (List.mem_cons_of_mem _ hz)) with e | q
      · subst e
        exact absurd hz (nx b h2.symm)
      · exact q
theorem bitsB_nodup (m i : Nat) : (bitsB m i).Nodup := List.nodup_range.filter _
theorem bitsB_succ (m i : Nat) : bitsB m (i + 1) = bitsB m i ++ if m.testBit i = true then [i] else [] := by
  unfold bitsB
  rw [List.range_succ, List.filter_append]
  congr 1
  rw [List.filter_cons, List.filter_nil]
theorem nodup_of_map {α β : Type} {f : α → β} : ∀ {l : List α}, (l.map f).Nodup → l.Nodup
  | [], _ => List.nodup_nil
  | a :: l, h => by
    rw [List.map_cons, List.nodup_cons] at h
    rw [List.nodup_cons]
    exact ⟨fun hm => h.1 (List.mem_map.mpr ⟨a, hm, rfl⟩), nodup_of_map h.2⟩
section
variable {rs : List Rw}
theorem pos_nodup (r : Rw) : (posOf rs r).Nodup := List.nodup_range.filter _
theorem mem_pos {i n : Nat} {r : Rw} (h : (dd rs)[i]? = some r) : n ∈ posOf rs r ↔ n < rs.length ∧ idxR rs n = i := by
  unfold posOf
  rw [List.mem_filter, List.mem_range, decide_eq_true_iff]
  constructor
  · rintro ⟨h1, h2⟩
    exact ⟨h1, dd_inj (idx_row h2) h⟩
  · rintro ⟨h1, h2⟩
    have hr : rs[n]? = some (rs[n]'h1) := List.getElem?_eq_getElem h1
    have h3 := idx_row hr
    rw [h2, h] at h3
    exact ⟨h1, by rw [hr, Option.some.inj h3]⟩
theorem pls_at {i : Nat} {r : Rw} (h : (dd rs)[i]? = some r) : (plsOf rs)[i]?.getD [] = posOf rs r := by
  unfold plsOf
  rw [List.getElem?_map, h]
  rfl
theorem mem_prod {m : Nat} : ∀ {i : Nat}, i ≤ (dd rs).length → ∀ {L : List Nat}, L ∈ prodP (plsOf rs) m i ↔ L.map (idxR rs) = bitsB m i ∧ ∀ p ∈ L, p < rs.length
  | 0, _, L => by
    show L ∈ [[]] ↔ L.map _ = [] ∧ _
    rw [List.mem_singleton, List.map_eq_nil_iff]
    constructor
    · intro h
      subst h
      exact ⟨rfl, fun p h => nomatch h⟩
    · exact fun h => h.1
  | i + 1, hi, L => by
    have ih := fun {L} => mem_prod (m := m) (i := i) (by omega) (L := L)
    have hr : (dd rs)[i]? = some ((dd rs)[i]'(by omega)) := List.getElem?_eq_getElem _
    rw [bitsB_succ]
    unfold prodP
    by_cases hb : m.testBit i = true
    · rw [if_pos hb, if_pos hb, List.mem_flatMap, pls_at hr]
      constructor
      · rintro ⟨L0, h0, h1⟩
        obtain ⟨n, hn, rfl⟩ := List.mem_map.mp h1
        obtain ⟨e1, e2⟩ := ih.mp h0
        obtain ⟨n1, n2⟩ := (mem_pos hr).mp hn
        refine ⟨by rw [List.map_append, e1, List.map_cons, n2]; rfl, fun p hp => ?_⟩
        rcases List.mem_append.mp hp with q | q
        · exact e2 p q
        · rw [List.mem_singleton.mp q]
          exact n1
      · rintro ⟨h1, h2⟩
        obtain ⟨L0, t, rfl, e1, e2⟩ := List.map_eq_append_iff.mp h1
        obtain ⟨n, rfl⟩ : ∃ n, t = [n] := by
          cases t with
          | nil => exact nomatch e2
          | cons n t =>
            cases t with
            | nil => exact ⟨n, rfl⟩
            | cons a t => rw [List.map_cons, List.map_cons] at e2; injection e2 with _ e2; exact nomatch e2
        refine ⟨L0, ih.mpr ⟨e1, fun p hp => h2 p (List.mem_append_left _ hp)⟩, List.mem_map.mpr ⟨n, (mem_pos hr).mpr ⟨h2 n (List.mem_append_right _ (List.mem_singleton.mpr rfl)), ?_⟩, rfl⟩⟩
        rw [List.map_cons] at e2
        injection e2
    · rw [if_neg hb, if_neg hb, List.append_nil]
      exact ih
theorem prod_nodup {m : Nat} : ∀ i, i ≤ (dd rs).length → (prodP (plsOf rs) m i).Nodup
  | 0, _ => by
    show [[]].Nodup
    simp
  | i + 1, hi => by
    have ih := prod_nodup (m := m) i (by omega)
    have hr : (dd rs)[i]? = some ((dd rs)[i]'(by omega)) := List.getElem?_eq_getElem _
    unfold prodP
    split
    · refine nodup_flat ih (fun L _ => ?_) (fun L _ L' _ x h1 h2 => ?_)
      · rw [pls_at hr]
        exact nodup_mapOn (pos_nodup _) fun a _ b _ e => by
          have := List.append_cancel_left e
          injection this
      · obtain ⟨a, _, e1⟩ := List.mem_map.mp h1
        obtain ⟨b, _, e2⟩ := List.mem_map.mp h2
        exact List.append_inj_left' (e1.trans e2.symm) rfl
    · exact ih
theorem prod_lot {m i : Nat} (hi : i ≤ (dd rs).length) {L : List Nat} (h : L ∈ prodP (plsOf rs) m i) : LotOk rs (sortN L) := by
  obtain ⟨h1, h2⟩ := (mem_prod hi).mp h
  have n : L.Nodup := nodup_of_map (f := idxR rs) (by rw [h1]; exact bitsB_nodup _ _)
  exact ⟨sortN_lt n, fun p hp => h2 p (sortN_mem.mp hp)⟩
theorem prod_sorts {m i : Nat} (hi : i ≤ (dd rs).length) : ((prodP (plsOf rs) m i).map sortN).Nodup := nodup_mapOn (prod_nodup i hi) fun a ha b hb e => by
  obtain ⟨a1, _⟩ := (mem_prod hi).mp ha
  obtain ⟨b1, _⟩ := (mem_prod hi).mp hb
  refine map_same (f := idxR rs) (a1.trans b1.symm) (by rw [a1]; exact bitsB_nodup _ _) fun x => ?_
  rw [← sortN_mem (L := a), e, sortN_mem]
/-- all lots of n numbers -/
def allL : Nat → List (List Nat)
  | 0 => [[]]
  | k + 1 => allL k ++ (allL k).map fun L => L ++ [k]
theorem allL_len : ∀ n, (allL n).length = 2 ^ n
  | 0 => rfl
  | k + 1 => by
    unfold allL
    rw [List.length_append, List.length_map, allL_len k, Nat.pow_succ]
    omega
theorem mem_allL : ∀ {n : Nat} {L : List Nat}, L ∈ allL n ↔ L.Pairwise (· < ·) ∧ ∀ p ∈ L, p < n
  | 0, L => by
    show L ∈ [[]] ↔ _
    rw [List.mem_singleton]
    constructor
    · intro h
      subst h
      exact ⟨.nil, fun p h => nomatch h⟩
    · rintro ⟨_, h⟩
      cases L with
      | nil => rfl
      | cons a L => exact absurd (h a (List.mem_cons_self ..)) (by omega)
  | k + 1, L => by
    unfold allL
    rw [List.mem_append, mem_allL]
    constructor
    · rintro (⟨h1, h2⟩ | h)
      · exact ⟨h1, fun p hp => by have := h2 p hp; omega⟩
      · obtain ⟨L0, h0, rfl⟩ := List.mem_map.mp h
        obtain ⟨h1, h2⟩ := mem_allL.mp h0
        refine ⟨List.pairwise_append.mpr ⟨h1, List.pairwise_singleton .., fun a ha b hb => ?_⟩, fun p hp => ?_⟩
        · rw [List.mem_singleton.mp hb]
          exact h2 a ha
        · rcases List.mem_append.mp hp with q | q
          · have := h2 p q; omega
          · rw [List.mem_singleton.mp q]; omega
    · rintro ⟨h1, h2⟩
      by_cases hk : k ∈ L
      · refine .inr ?_
        obtain ⟨a, b, rfl⟩ := List.append_of_mem hk
        obtain ⟨g1, g2, g3⟩ := List.pairwise_append.mp h1
        have hb : b = [] := by
          cases b with
          | nil => rfl
          | cons c b =>
            have c1 := (List.pairwise_cons.mp g2).1 c (List.mem_cons_self ..)
            have c2 := h2 c (by simp)
            omega
        subst hb
        refine List.mem_map.mpr ⟨a, mem_allL.mpr ⟨g1, fun p hp => ?_⟩, rfl⟩
        exact g3 p hp k (List.mem_cons_self ..)
      · refine .inl ⟨h1, fun p hp => ?_⟩
        have := h2 p hp
        have : p ≠ k := fun e => hk (e ▸ hp)
        omega
theorem allL_nodup : ∀ n, (allL n).Nodup
  | 0 => by
    show [[]].Nodup
    simp
  | k + 1 => by
    unfold allL
    rw [List.nodup_append]
    refine ⟨allL_nodup k, nodup_mapOn (allL_nodup k) fun a _ b _ e => List.append_inj_left' e rfl, fun x hx y hy e => ?_⟩
    subst e
    obtain ⟨L, hL, rfl⟩ := List.mem_map.mp hy
    have := (mem_allL.mp hx).2 k (by simp)
    omega
theorem lots_few {Ls : List (List Nat)} (n : Ls.Nodup) (h : ∀ L ∈ Ls, LotOk rs L) : Ls.length ≤ 2 ^ rs.length := by
  rw [← allL_len]
  exact n.length_le_of_subset fun L hL => mem_allL.mpr (h L hL)
theorem prod_few {m i : Nat} (hi : i ≤ (dd rs).length) : (prodP (plsOf rs) m i).length ≤ 2 ^ rs.length := by
  have h := lots_few (rs := rs) (prod_sorts (m := m) hi) fun L hL => by
    obtain ⟨L0, h0, rfl⟩ := List.mem_map.mp hL
    exact prod_lot hi h0
  rw [List.length_map] at h
  exact h
/-- the lots of a mask are its choices -/
def lotsM (rs : List Rw) (m : Nat) : List (List Nat) := (prodP (plsOf rs) m (dd rs).length).map sortN
theorem maskL_perm {a b : List Nat} (h : ∀ p, p ∈ a ↔ p ∈ b) : maskL rs a = maskL rs b := by
  apply Nat.eq_of_testBit_eq
  intro i
  have e : (maskL rs a).testBit i = true ↔ (maskL rs b).testBit i = true := by
    rw [mask_test, mask_test]
    constructor
    · rintro ⟨p, h1, h2⟩; exact ⟨p, (h p).mp h1, h2⟩
    · rintro ⟨p, h1, h2⟩; exact ⟨p, (h p).mpr h1, h2⟩
  cases c : (maskL rs a).testBit i with
  | true => exact (e.mp c).symm
  | false =>
    cases d : (maskL rs b).testBit i with
    | false => rfl
    | true => rw [e.mpr d] at c; cases c
theorem idxR_lt {p : Nat} (h : p < rs.length) : idxR rs p < (dd rs).length := get_lt (idx_row (List.getElem?_eq_getElem h))
theorem lots_choice {m : Nat} (hm : m < 2 ^ (dd rs).length) {L : List Nat} : L ∈ lotsM rs m ↔ Choice rs m L := by
  unfold lotsM
  rw [List.mem_map]
  constructor
  · rintro ⟨L0, h0, rfl⟩
    have ok := prod_lot (Nat.le_refl _) h0
    obtain ⟨h1, h2⟩ := (mem_prod (Nat.le_refl _)).mp h0
    have bn := bitsB_nodup m (dd rs).length
    rw [← h1] at bn
    have inj : ∀ p ∈ L0, ∀ q ∈ L0, idxR rs p = idxR rs q → p = q := fun p hp q hq e => nodup_inj bn hp hq e
    refine ⟨ok, ?_, fun p hp q hq e => inj p (sortN_mem.mp hp) q (sortN_mem.mp hq) (by unfold idxR; rw [e])⟩
    apply Nat.eq_of_testBit_eq
    intro i
    have e : (maskL rs (sortN L0)).testBit i = true ↔ m.testBit i = true := by
      rw [mask_test]
      constructor
      · rintro ⟨p, hp, e⟩
        have hi : i ∈ L0.map (idxR rs) := List.mem_map.mpr ⟨p, sortN_mem.mp hp, e⟩
        rw [h1] at hi
        exact (List.mem_filter.mp hi).2
      · intro hb
        have hi : i ∈ L0.map (idxR rs) := by
          rw [h1]
          refine List.mem_filter.mpr ⟨List.mem_range.mpr ?_, hb⟩
          by_cases z : i < (dd rs).length
          · exact z
          · rw [bit_hi hm (by omega)] at hb
            cases hb
        obtain ⟨p, hp, e⟩ := List.mem_map.mp hi
        exact ⟨p, sortN_mem.mpr hp, e⟩
    cases c : (maskL rs (sortN L0)).testBit i with
    | true => exact (e.mp c).symm
    | false =>
      cases d : m.testBit i with
      | false => rfl
      | true => rw [e.mpr d] at c; cases c
  · rintro ⟨⟨a1, a2⟩, e, nd⟩
    have inj : ∀ p ∈ L, ∀ q ∈ L, idxR rs p = idxR rs q → p = q := fun p hp q hq z => nd p hp q hq (by
      have h1 := idx_row (List.getElem?_eq_getElem (a2 p hp))
      have h2 := idx_row (List.getElem?_eq_getElem (a2 q hq))
      rw [z, h2] at h1
      rw [List.getElem?_eq_getElem (a2 p hp), List.getElem?_eq_getElem (a2 q hq), Option.some.inj h1])
    have nL : L.Nodup := a1.imp fun h => Nat.ne_of_lt h
    -- in the order of the rows
    let L0 := (bitsB m (dd rs).length).filterMap fun i => L.find? fun p => decide (idxR rs p = i)
    have at_ : ∀ i ∈ bitsB m (dd rs).length, ∃ p, L.find? (fun p => decide (idxR rs p = i)) = some p ∧ p ∈ L ∧ idxR rs p = i := fun i hi => by
      have hb := (List.mem_filter.mp hi).2
      rw [← e, mask_test] at hb
      obtain ⟨p, hp, ep⟩ := hb
      cases c : L.find? (fun p => decide (idxR rs p = i)) with
      | none => exact absurd (decide_eq_true ep) (List.find?_eq_none.mp c p hp)
      | some q => exact ⟨q, rfl, List.mem_of_find?_eq_some c, of_decide_eq_true (List.find?_some (p := fun p => decide (idxR rs p = i)) c)⟩
    have em : ∀ l : List Nat, (∀ i ∈ l, ∃ p, L.find? (fun p => decide (idxR rs p = i)) = some p ∧ p ∈ L ∧ idxR rs p = i) → (l.filterMap fun i => L.find? fun p => decide (idxR rs p = i)).map (idxR rs) = l := fun l => by
      induction l with
      | nil => intro _; rfl
      | cons i l ih =>
        intro h
        obtain ⟨p, h1, _, h2⟩ := h i (List.mem_cons_self ..)
        rw [List.filterMap_cons, h1]
        show idxR rs p :: _ = _
        rw [h2, ih fun j hj => h j (List.mem_cons_of_mem _ hj)]
    have h1 : L0.map (idxR rs) = bitsB m (dd rs).length := em _ at_
    have h2 : ∀ p, p ∈ L0 ↔ p ∈ L := fun p => by
      constructor
      · intro hp
        obtain ⟨i, _, e2⟩ := List.mem_filterMap.mp hp
        exact List.mem_of_find?_eq_some e2
      · intro hp
        have hi : idxR rs p ∈ bitsB m (dd rs).length := List.mem_filter.mpr ⟨List.mem_range.mpr (idxR_lt (a2 p hp)), by rw [← e]; exact mask_test.mpr ⟨p, hp, rfl⟩⟩
        obtain ⟨q, g1, g2, g3⟩ := at_ _ hi
        refine List.mem_filterMap.mpr ⟨_, hi, ?_⟩
        rw [g1, inj q g2 p hp g3]
    have n0 : L0.Nodup := nodup_of_map (f := idxR rs) (by rw [h1]; exact bitsB_nodup _ _)
    refine ⟨L0, (mem_prod (Nat.le_refl _)).mpr ⟨h1, fun p hp => a2 p ((h2 p).mp hp)⟩, ?_⟩
    exact asc_eq (sortN_lt n0) a1 fun x => by rw [sortN_mem, h2]
/-- all lots of some masks -/
theorem masks_lots {ms : List Nat} (hm : ∀ m ∈ ms, m < 2 ^ (dd rs).length) {L : List Nat} : L ∈ ms.flatMap (lotsM rs) ↔ ∃ m ∈ ms, Choice rs m L := by
  rw [List.mem_flatMap]
  constructor
  · rintro ⟨m, h1, h2⟩; exact ⟨m, h1, (lots_choice (hm m h1)).mp h2⟩
  · rintro ⟨m, h1, h2⟩; exact ⟨m, h1, (lots_choice (hm m h1)).mpr h2⟩
theorem masks_nodup {ms : List Nat} (hm : ∀ m ∈ ms, m < 2 ^ (dd rs).length) (n : ms.Nodup) : (ms.flatMap (lotsM rs)).Nodup :=
  nodup_flat n (fun m _ => prod_sorts (Nat.le_refl _)) fun a ha b hb L h1 h2 => by
    rw [← ((lots_choice (hm a ha)).mp h1).2.1, ← ((lots_choice (hm b hb)).mp h2).2.1]
theorem masks_few {ms : List Nat} (hm : ∀ m ∈ ms, m < 2 ^ (dd rs).length) (n : ms.Nodup) : (ms.flatMap (lotsM rs)).length ≤ 2 ^ rs.length :=
  lots_few (rs := rs) (masks_nodup hm n) fun L hL => by
    obtain ⟨m, _, h⟩ := (masks_lots hm).mp hL
    exact h.1
end
end Ah
end
section
set_option Elab.async false
set_option linter.all false
set_option maxRecDepth 100000
set_option maxHeartbeats 8000000
namespace Ah
open PySem PySem.Spec PyProof.Rows L2
/-! ### lots in the heap -/
def intsL (L : List Nat) : List V := L.map fun p : Nat => V.int (p : Int)
def dI (L : List Nat) : List PyData := L.map fun p : Nat => PyData.int (p : Int)
def LotAt (K : PySem.W.Frag) (H : Hp) (v : V) (L : List Nat) : Prop := ∃ a, v = .ref a ∧ SqT K H a (intsL L)
theorem LotAt.tk {K : PySem.W.Frag} {H H' : Hp} {v : V} {L : List Nat} (k : TK H H') (h : LotAt K H v L) : LotAt K H' v L := let ⟨a, e, q⟩ := h; ⟨a, e, sqT_tk k q⟩
theorem dpInts {K : PySem.W.Frag} {H : Hp} : ∀ L : List Nat, DpAll K H (intsL L) (dI L)
  | [] => .nil
  | p :: L => .cons (.int _) (dpInts L)
theorem layInts : ∀ L : List Nat, PyData.canLayAll0 (dI L) = true ∧ PyData.depthAll (dI L) = 0
  | [] => ⟨by simp [dI, PyData.canLayAll0], by simp [dI, PyData.depthAll]⟩
  | p :: L => by
    obtain ⟨h1, h2⟩ := layInts L
    unfold dI at h1 h2 ⊢
    rw [List.map_cons, PyData.canLayAll0, PyData.depthAll, h1, h2]
    exact ⟨by simp [PyData.canLay0], by simp [PyData.depth]⟩
theorem shapedI (L : List Nat) : SeqAt.shaped (.list (dI L)) = true := by
  obtain ⟨h1, h2⟩ := layInts L
  unfold SeqAt.shaped
  rw [PyData.canLay0, h1, PyData.depth, h2, Bool.true_and]
  exact decide_eq_true (by omega)
theorem layLots : ∀ Ls : List (List Nat), PyData.canLayAll0 (Ls.map fun L => PyData.tuple (dI L)) = true ∧ PyData.depthAll (Ls.map fun L => PyData.tuple (dI L)) ≤ 2
  | [] => ⟨by simp [PyData.canLayAll0], by simp [PyData.depthAll]⟩
  | L :: Ls => by
    obtain ⟨h1, h2⟩ := layLots Ls
    obtain ⟨h3, h4⟩ := layInts L
    rw [List.map_cons, PyData.canLayAll0, PyData.canLay0, h3, h1, PyData.depthAll, PyData.depth, h4]
    exact ⟨rfl, by omega⟩
theorem shapedL (Ls : List (List Nat)) : SeqAt.shaped (.list (Ls.map fun L => PyData.tuple (dI L))) = true := by
  obtain ⟨h1, h2⟩ := layLots Ls
  unfold SeqAt.shaped
  rw [PyData.canLay0, h1, PyData.depth, Bool.true_and]
  exact decide_eq_true (by omega)
theorem dpLots {K : PySem.W.Frag} {H : Hp} : ∀ {ws : List V} {Ls : List (List Nat)}, Paired (LotAt K H) ws Ls → DpAll K H ws (Ls.map fun L => PyData.tuple (dI L))
  | _, _, .nil => .nil
  | _, _, .cons ⟨a, e, h⟩ t => by
    rw [List.map_cons, e]
    exact .cons (.tup h (dpInts _)) (dpLots t)
/-- ints == [] -/
theorem rd_eqNilI {K : PySem.W.Frag} {H : Hp} {Q : VK} {a b : Addr} {L : List Nat} (h1 : SqL K H a (intsL L)) (h2 : SqL K H b []) (q : Q (.bl (decide (L = []))) H) : rEqD K (.ref a) (.ref b) H Q := by
  refine ⟨_, .list [], .lst h1 (dpInts L), .lst h2 .nil, shapedI L, rfl, ?_⟩
  have e : PyData.eqv (.list (dI L)) (.list []) = decide (L = []) := by
    rw [PyData.eqv]
    cases L <;> simp [dI, PyData.eqvAll]
  rw [e]
  exact q
/-- lots == [] -/
theorem rd_eqNilL {K : PySem.W.Frag} {H : Hp} {Q : VK} {a b : Addr} {ws : List V} {Ls : List (List Nat)} (h1 : SqL K H a ws) (hw : Paired (LotAt K H) ws Ls) (h2 : SqL K H b []) (q : Q (.bl (decide (Ls = []))) H) : rEqD K (.ref a) (.ref b) H Q := by
  refine ⟨_, .list [], .lst h1 (dpLots hw), .lst h2 .nil, shapedL Ls, rfl, ?_⟩
  have e : PyData.eqv (.list (Ls.map fun L => PyData.tuple (dI L))) (.list []) = decide (Ls = []) := by
    rw [PyData.eqv]
    cases Ls <;> simp [PyData.eqvAll]
  rw [e]
  exact q
theorem inV_ints (p : Nat) (L : List Nat) : inV (V.int (p : Int)) (intsL L) = decide (p ∈ L) := by
  unfold inV intsL
  rw [List.any_map]
  by_cases h : p ∈ L
  · rw [decide_eq_true h, List.any_eq_true]
    exact ⟨p, h, by simp [eqV]⟩
  · rw [decide_eq_false h, List.any_eq_false]
    intro x hx
    have hne : ¬ ((x : Int) = (p : Int)) := fun z => h (by rw [← Int.ofNat.inj z]; exact hx)
    simp [eqV]
    exact hne
theorem flat_ints (L : List Nat) : (intsL L).all flatV = true := by
  unfold intsL
  rw [List.all_map, List.all_eq_true]
  intro x _
  rfl
end Ah
end
section
set_option Elab.async false
set_option linter.all false
set_option maxRecDepth 100000
set_option maxHeartbeats 4000000
namespace Ah
open PySem PySem.Spec PyProof.Rows L2
/-! ### sorted(lots, key=lambda lot: (len(lot), lot)) -/
/-- a lot with its address -/
abbrev Lo := Addr × List Nat
def keyL (L : List Nat) : PyData := .tuple [.int (L.length : Int), .tuple (dI L)]
def leL : List Nat → List Nat → Bool := PySem.W.dataLe false keyL
def leB : Lo → Lo → Bool := PySem.W.dataLe false fun b => keyL b.2
theorem alike_ints : ∀ L M : List Nat, PySem.W.alikeAll (dI L) (dI M) = true
  | [], M => by simp [dI, PySem.W.alikeAll]
  | _ :: _, [] => by simp [dI, PySem.W.alikeAll]
  | x :: L, y :: M => by
    have h := alike_ints L M
    unfold dI at h ⊢
    rw [List.map_cons, List.map_cons, PySem.W.alikeAll, h]
    simp [PySem.W.alike]
theorem alike_key (L M : List Nat) : PySem.W.alike (keyL L) (keyL M) = true := by
  unfold keyL
  simp [PySem.W.alike, PySem.W.alikeAll, alike_ints]
theorem depth_key (L : List Nat) : (keyL L).depth ≤ 2 := by
  unfold keyL
  simp [PyData.depth, PyData.depthAll, (layInts L).2]
theorem reads_ints {h : Heap} : ∀ {L : List Nat} {us : List Value}, Vals (intsL L) us → ReadsAll h us (dI L) []
  | [], _, r => by
    cases r
    exact .nil
  | n :: L, _, r => by
    unfold intsL at r
    rw [List.map_cons] at r
    cases r with
    | cons r1 r2 =>
      obtain ⟨t, rfl⟩ := r1
      exact ReadsAll.cons (as := []) (bs := []) (.int _ t) (reads_ints r2)
theorem loVals : ∀ bs : List Lo, Vals (bs.map fun b => V.ref b.1) (bs.map fun b => Value.ref b.1)
  | [] => .nil
  | _ :: r => .cons rfl (loVals r)
theorem loRefs : ∀ bs : List Lo, PySem.W.EachIs (fun v (b : Lo) => v = Value.ref b.1) (bs.map fun b => Value.ref b.1) bs
  | [] => .nil
  | _ :: r => .cons rfl (loRefs r)
theorem loOf : ∀ {out : List Value} {bs : List Lo}, PySem.W.EachIs (fun v (b : Lo) => v = Value.ref b.1) out bs → out = bs.map fun b => Value.ref b.1
  | _, _, .nil => rfl
  | _, _, .cons h t => by rw [List.map_cons, h, loOf t]
/-- the lambda, one lot handed to it -/
structure LamL (scope : Scope) (x : Str) (body : Expr) : Prop where
  kind : scope.kind = .function
  co : scope.isCoroutine = false
  gen : scope.isGenerator = false
  own : scope.names.lookup x = some .local
  len : scope.names.lookup ("len" : Str) = some .globalImplicit
  nocell : ∀ y ∈ scope.names, y.2 ≠ .cell ∧ y.2 ≠ .free
  body : ∃ p1 p2 p3 p4 k p5, body = .Tuple [.Call (.Name "len" p1) [.Name x p2] [] p3, .Name x p4] k p5
  dbg : (x == ("__debug__" : Str)) = false
section
variable {X : Cx} {pins : List (Addr × Obj)} {σ : L2.St} {H : Hp} {s : Shared}
/-- a lambda is made: only the table at P is another one -/
theorem lam_mk {q : Str} {c P : Addr} {params : Arguments} {body : Expr} {scope : Scope} {pos : Pos} {E : Value → Shared → Prop} {Q : Value → Shared → Prop} (I : L2.Inv X pins σ H s) (TB : LamX.TabB X.base X.mg c P) (hc : X.env.code = .ref c)
    (hq : X.env.qual ++ "<lambda>" = q) (hT : LamX.TabS H P q) (hd : defaultsOf params X.env = ([], [])) (hf : ∀ y ∈ scope.names, y.2 = .free → ∃ c, X.env.cells.lookup y.1 = some c)
    (fin : ∀ (f c' : Addr) (pm ctv : Value) (H1 : Hp) (s' : Shared), L2.Inv X pins σ H1 s' → (∀ b o, H b = some o → b ≠ P → H1 b = some o) → LamX.TabS H1 P q →
      s'.heap.get? f = some (PySem.W.kla_obj "<lambda>" q params body scope (cloFrom X.env.cells scope.names []) pm c' ctv) → H1 c' = some (LamX.CodeO c' q) → Q (.ref f) s') :
    wpAny (model X.prog X.w) X.A (eval (.Lambda params body scope pos) X.env) Q E s := by
  subst hq
  obtain ⟨ps, e0, tri, all⟩ := hT
  have oP := I.hok P _ e0
  have here : s.heap.BuiltinsAt X.mg P := TB.bm.keeps I.bk
  refine PySem.W.kla_eval hd ?_
  rcases Option.eq_none_or_eq_some (codeAmong pos ps.toList) with no | ⟨cv, yes⟩
  · refine PySem.W.kla_makeFunction (mg := X.mg) (c := c) (P := P) (ps := ps) (closure_ok hf) I.ok.glob (I.mod.glob.keeps I.bk) hc (TB.code.keeps I.bk) oP tri no TB.gP here ?_
    intro c1 ctv h1 t1 ext ge lt rec tab
    obtain ⟨c2, oc, vs, t, e2, q1, q2, q3⟩ := rec
    cases e2
    have fresh : H c1 = none := I.hok.fresh ge
    have apart : P ≠ c1 := ne_of_none e0 fresh
    refine fin h1.objs.size c1 ((X.mg "__name__").getD .none) ctv _ _ (LamX.inv_table (t' := t1) (more := #[rawInt pos.line, rawInt pos.col, .ref c1]) (h' := h1.push (PySem.W.kla_obj "<lambda>" (X.env.qual ++ "<lambda>") params body scope (cloFrom X.env.cells scope.names []) ((X.mg "__name__").getD .none) c1 ctv)) I e0
      (fun b o hb e => Heap.get?_push_of_some _ (ext b o hb e)) (Heap.get?_push_of_some _ tab) ge ⟨oc, vs, t, Heap.get?_push_of_some _ q1, q2, q3⟩) (fun b o e nb => by rw [upd_ne (ne_of_none e fresh), upd_ne nb]; exact e) ?_ (Heap.get?_push_size _ rfl) upd_same
    refine ⟨ps ++ #[rawInt pos.line, rawInt pos.col, .ref c1], by rw [upd_ne apart, upd_same], ?_, fun p' cv h => ?_⟩
    · have e : (ps ++ #[rawInt pos.line, rawInt pos.col, .ref c1]).toList = ps.toList ++ [rawInt pos.line, rawInt pos.col, .ref c1] := by simp
      rw [e]
      exact PySem.TriplesOk_snoc _ _ _ _ tri
    · have e : (ps ++ #[rawInt pos.line, rawInt pos.col, .ref c1]).toList = ps.toList ++ [rawInt pos.line, rawInt pos.col, .ref c1] := by simp
      rw [e] at h
      rcases LamX.among_app _ tri h with z | z
      · obtain ⟨c0, w1, w2⟩ := all p' cv z
        refine ⟨c0, w1, ?_⟩
        have n0 : c0 ≠ P := fun z => LamX.codeO_ne ps (Option.some.inj ((z ▸ w2).symm.trans e0))
        rw [upd_ne (ne_of_none w2 fresh), upd_ne n0]
        exact w2
      · exact ⟨c1, z, upd_same⟩
  · obtain ⟨c1, e1, w1⟩ := all pos cv yes
    subst e1
    refine PySem.W.kla_makeFunctionHit (mg := X.mg) (c := c) (P := P) (ps := ps) (closure_ok hf) I.ok.glob (I.mod.glob.keeps I.bk) hc (TB.code.keeps I.bk) oP tri yes here fun ctv h1 t1 ext hz => ?_
    exact fin h1.objs.size c1 ((X.mg "__name__").getD .none) ctv H _ (I.kept fun b o e => Heap.get?_push_of_some _ (ext b o e)) (fun b o e _ => e) ⟨ps, e0, tri, all⟩ (Heap.get?_push_size _ rfl) w1
/-- the lambda called at a lot -/
theorem key_call {A : Around} {q x : Str} {f c' : Addr} {params : Arguments} {body : Expr} {scope : Scope} {cl : List (Str × Addr)} {pm ctv : Value} {L : List Nat} {a : Addr} {mg mb : Str → Option Value} (Z : LamL scope x body) (hdep : A.depth < recursionLimit) (hun : A.units + 64 < cLine)
    (hbind : bindArgs (PySem.W.kla_fn "<lambda>" q params body scope cl pm (.ref c') ctv) ⟨[.ref a], []⟩ = pure [(x, .ref a)])
    (ho : s.heap.get? f = some (PySem.W.kla_obj "<lambda>" q params body scope cl pm c' ctv)) (hcode : s.heap.CodeRec (.ref c') q) (hlim : s.heap.NoLimit) (hg : s.heap.Ns mainGlobals mg) (hno : mg "len" = none) (hb : s.heap.Ns builtinsNs mb) (hlen : mb "len" = some (.builtin "len"))
    {its : Array Value} (ht : IsTup s.heap a its) (hr : ReadsAll s.heap its.toList (dI L) []) (hz : L.length ≤ sizeLine) :
    wpAny (model X.prog X.w) A (call (.ref f) [.ref a]) (PySem.W.KeyPure (keyL L) s) (fun _ _ => False) s := by
  obtain ⟨p1, p2, p3, p4, k, p5, rfl⟩ := Z.body
  have big := line63
  have el : its.toList.length = L.length := by
    have h2 := readsAll_len _ hr
    rw [h2]
    unfold dI
    rw [List.length_map]
  rw [Array.length_toList] at el
  refine wpAny_call (PySem.W.kla_callFunE hdep ho rfl Z.co Z.gen rfl hcode ?_)
  rw [hbind]
  refine wpAny_pure (wpAny_newFunctionEnv (fun y hy => (Z.nocell y hy).1) (fun y hy => by rw [List.mem_singleton.mp hy]; exact Z.own) (fun h₁ hns hsb => ⟨hlim.fresh _ hsb, ?_⟩) Z.kind)
  have kp : ∀ b o, s.heap.get? b = some o → h₁.get? b = some o := fun b o e => hsb.extBut b o (Nat.ne_of_lt (Heap.lt_size e)) (Heap.get?_push_of_some _ e)
  refine PySem.W.kla_codeExpr ?_
  have lot : ∀ {A' : Around} {E' : Value → Shared → Prop} {Q : Value → Shared → Prop} {g : Heap} {tk : Nat} {p : Pos}, (∀ b o, h₁.get? b = some o → g.get? b = some o) → Q (.ref a) { s with heap := g, toks := tk } →
      wpAny (model X.prog X.w) A' (eval (.Name x p) (newEnv scope s.heap.objs.size mainGlobals cl (q ++ ".<locals>.") (some f) (.ref c') none builtinsNs)) Q E' { s with heap := g, toks := tk } := fun {A' E' Q g tk p} kg h =>
    wpAny_Name (wpAny_loadName_local Z.kind Z.own (hns.keeps kg) (by simp) h) Z.dbg
  refine wpAny_Tuple_spliced (Calls.spliced_cons ?_)
  refine wpAny_Call_Name_kw (Calls.Name_function_global Z.kind Z.len (Calls.loadGlobal_builtin (hg.keeps kp) hno (hb.keeps kp) hlen ?_))
  refine PyProof.Rows.callWith_builtin1 (Calls.spliced_cons (lot (fun _ _ e => e) (Calls.spliced_nil ?_)))
  refine len_tuple (ht.keeps kp) (by omega) ?_
  refine Calls.spliced_cons (lot (fun _ _ e => e) (Calls.spliced_nil ⟨by simp [sizeLine_eq], ?_⟩))
  refine ⟨_, _, rfl, fun b o e => Heap.get?_push_of_some _ (kp b o e), ?_⟩
  have kq : ∀ b o, s.heap.get? b = some o → (h₁.push { cls := .type "tuple", data := .seq #[Value.int (its.size : Int) (s.toks + 1 + 1), .ref a] }).get? b = some o := fun b o e => Heap.get?_push_of_some _ (kp b o e)
  obtain ⟨o, w1, w2, n, w3⟩ := ht
  refine .tuple (Heap.get?_push_size _ rfl) rfl rfl ?_
  refine ReadsAll.cons (as := []) (bs := []) ?_ (ReadsAll.cons (as := []) (bs := []) (.tuple (kq _ _ w1) w2 w3 (ReadsAll.keeps kq hr)) .nil)
  rw [el]
  exact .int _ _
/-- all but the table at P -/
def Kb (P : Addr) (H H' : Hp) : Prop := ∀ b o, H b = some o → b ≠ P → H' b = some o
theorem Kb.refl (P : Addr) (H : Hp) : Kb P H H := fun _ _ e _ => e
theorem Kb.obj {P : Addr} {H H' : Hp} {q : Str} {a : Addr} {o : HO} (k : Kb P H H') (t : LamX.TabS H P q) (e : H a = some o) (n : ∀ ps, o ≠ .tbl ps) : H' a = some o := k a o e fun z => by
  obtain ⟨ps, w, _⟩ := t
  rw [z, w] at e
  exact n ps (Option.some.inj e).symm
theorem Kb.sqL {P : Addr} {H H' : Hp} {q : Str} {K : PySem.W.Frag} {a : Addr} {xs : List V} (k : Kb P H H') (t : LamX.TabS H P q) (h : SqL K H a xs) : SqL K H' a xs := by
  rcases h with (h | ⟨o, h⟩) | h
  · exact .inl (.inl (k.obj t h fun _ z => nomatch z))
  · exact .inl (.inr ⟨o, k.obj t h fun _ z => nomatch z⟩)
  · exact .inr h
theorem Kb.sqT {P : Addr} {H H' : Hp} {q : Str} {K : PySem.W.Frag} {a : Addr} {xs : List V} (k : Kb P H H') (t : LamX.TabS H P q) (h : SqT K H a xs) : SqT K H' a xs := by
  rcases h with (h | ⟨o, h⟩) | h
  · exact .inl (.inl (k.obj t h fun _ z => nomatch z))
  · exact .inl (.inr ⟨o, k.obj t h fun _ z => nomatch z⟩)
  · exact .inr h
def tSortLam (K : PySem.W.Frag) (P : Addr) (q : Str) (ta : TA) : TE := fun σ H Q => ta σ H fun vs H1 => LamX.TabS H1 P q ∧ ∃ (a : Addr) (bs : List Lo), vs = [.ref a] ∧ SqL K H1 a (bs.map fun b => V.ref b.1) ∧ (∀ b ∈ bs, SqT K H1 b.1 (intsL b.2)) ∧
  ∀ (p : Addr) (H2 : Hp), Kb P H1 H2 → LamX.TabS H2 P q → H1 p = none → H2 p = some (.lst ((bs.mergeSort leB).map fun b => V.ref b.1)) → Q (.ref p) H2
theorem pe_sortLam {e : Expr} {ta : TA} {x q : Str} {c P : Addr} {params : Arguments} {body : Expr} {scope : Scope} {lpos kp p pos : Pos} {k : Nat} (ha : PA X [e] ta) (Z : LamL scope x body) (hr : Room k X.A) (TB : LamX.TabB X.base X.mg c P) (hcode : X.env.code = .ref c) (hq : X.env.qual ++ "<lambda>" = q) (hd : defaultsOf params X.env = ([], []))
    (hbind : ∀ (cl : List (Str × Addr)) (pm ctv v : Value) (c' : Addr), bindArgs (PySem.W.kla_fn "<lambda>" q params body scope cl pm (.ref c') ctv) ⟨[v], []⟩ = pure [(x, v)])
    (hg : Gl X "sorted") (hm : X.mg "sorted" = none) (hv : bootBuiltins "sorted" = some (.builtin "sorted")) (hml : X.mg "len" = none) (hvl : bootBuiltins "len" = some (.builtin "len"))
    (he : backTo pos (starEach [e] X.env) = (false, eval e X.env) :: backTo pos (starEach [] X.env) := by rfl) (hpl : (backTo pos (starEach [e] X.env)).any (·.1) = false := by rfl) :
    PE X (.Call (.Name "sorted" p) [e] [⟨some "key", .Lambda params body scope lpos, kp⟩] pos) (tSortLam X.K P q ta) := by
  refine ⟨fun pins s σ H Q I h => ?_⟩
  refine wpAny_Call_Name_kw (ld_blt I hg hm hv ?_)
  refine PyProof.Rows.callWith_kw (thn (ha.run pos pins s σ H _ I h) fun us s1 ⟨vs, H1, I1, r1, q1⟩ => PyProof.Rows.kws_cons ?_) he hpl (by rfl) (by rfl)
  obtain ⟨T1, a, bs, rfl, hl, hb, fin⟩ := q1
  obtain ⟨u, rfl, rx⟩ := vals1 r1
  cases rx
  refine lam_mk I1 TB hcode hq T1 hd (fun y hy z => absurd z (Z.nocell y hy).2) fun f c' pm ctv H2 s2 I2 kb T2 hf hco => PyProof.Rows.kws_nil ?_
  have hl2 := Kb.sqL kb T1 hl
  obtain ⟨its, rv, pl, hz⟩ := I2.list hl2
  have ei : its = bs.map fun b => Value.ref b.1 := by
    have e := refs_at (ps := bs.map (·.1)) (us := its) (by rw [List.map_map]; exact rv)
    rw [e, List.map_map]
    all_goals rfl
  subst ei
  rw [List.length_map] at hz
  have un := hr.un
  obtain ⟨⟨oc, vs, t, g1, g2, g3⟩, _, _⟩ := I2.hok c' _ hco
  obtain ⟨mb, b1, b2⟩ := I2.mod.blt
  refine PySem.W.sorted_key_data (b := false) (R := fun v (b : Lo) => v = Value.ref b.1) (bs := bs) (vs := bs.map fun b => Value.ref b.1) (fun b : Lo => keyL b.2) pl.isList (loRefs bs)
    (PySem.W.AllAlike.of fun _ _ => alike_key _ _) (PySem.W.Sortable.tuples fun _ => ⟨_, _, rfl⟩) hz (fun b _ => by have := depth_key b.2; omega) (PyProof.Rows.ksk_s1 _ _) (fun _ => PyProof.Rows.ksk_l1 _ _) (fun _ => PyProof.Rows.ksk_t1 _ _) (fun v b hR hx h tk kp => ?_) fun out c h' tk kp _ hD _ eo => ?_
  · subst hR
    obtain ⟨us, r2, it, z2⟩ := I2.tuple (Kb.sqT kb T1 (hb b hx))
    have ku : ∀ d o, X.base.get? d = some o → h.get? d = some o := fun d o e => kp _ _ (I2.bk d o e)
    refine key_call (X := X) (mg := X.mg) (mb := mb) Z hr.depth (by show X.A.units + 1 + 1 + 64 < _; omega) (hbind _ _ _ _ _) (kp _ _ hf) ⟨c', oc, vs, t, rfl, kp _ _ g1, g2, g3⟩ (I2.nolimit.keeps kp) (I2.mod.glob.keeps ku) hml (b1.keeps ku) ((b2 "len" (by decide)).trans hvl) (it.keeps kp) (by simpa using reads_ints r2) ?_
    unfold intsL at z2
    rw [List.length_map] at z2
    exact z2
  · have eo' := loOf eo
    subst eo'
    have hn : H2 (s2.heap.objs.size + 1) = none := I2.hok.fresh (Nat.le_succ _)
    have hn1 : H1 (s2.heap.objs.size + 1) = none := by
      cases e : H1 (s2.heap.objs.size + 1) with
      | none => rfl
      | some o =>
        by_cases z : s2.heap.objs.size + 1 = P
        · obtain ⟨ps, w, _⟩ := T2
          rw [← z, hn] at w
          cases w
        · rw [kb _ _ e z] at hn
          cases hn
    refine ⟨.ref (s2.heap.objs.size + 1), upd H2 (s2.heap.objs.size + 1) (.lst ((bs.mergeSort leB).map fun b => V.ref b.1)), I2.laid (t' := tk) kp (Nat.le_succ _) ?_, rfl, fin _ _ (fun b o e n => ?_) ?_ hn1 upd_same⟩
    · exact ⟨by rw [List.length_map, (List.mergeSort_perm bs leB).length_eq]; exact hz, _, c, loVals _, hD⟩
    · rw [upd_ne (ne_of_none (kb b o e n) hn)]
      exact kb b o e n
    · exact T2.ext fun b o e => by rw [upd_ne (ne_of_none e hn)]; exact e
end
/-! ### the order of lots -/
theorem leL_tot : PySem.W.TotalLe leL := by
  unfold leL PySem.W.dataLe
  exact PySem.W.sortLe_total _ _ _
theorem toks_key (L : List Nat) : PySem.W.keyToks (keyL L) = .inl 1 :: .inl (L.length : Int) :: .inl 1 :: (PySem.W.keyToksAll (dI L) ++ [.inl 0]) := by
  unfold keyL
  simp [PySem.W.keyToks, PySem.W.keyToksAll]
theorem leL_len {L M : List Nat} (h : leL L M = true) : L.length ≤ M.length := by
  unfold leL at h
  rw [PySem.W.dataLe_eq] at h
  have h2 : PySem.W.dataLt (keyL M) (keyL L) = false := by simpa using h
  unfold PySem.W.dataLt at h2
  rw [toks_key, toks_key, PyProof.Rows.lex_self] at h2
  obtain ⟨h3, _⟩ := PyProof.Rows.lex_false.mp h2
  have h4 : decide ((M.length : Int) < (L.length : Int)) = false := h3
  have h5 := of_decide_eq_false h4
  omega
theorem toks_ints : ∀ {L M : List Nat}, PySem.W.keyToksAll (dI L) = PySem.W.keyToksAll (dI M) → L = M
  | [], [], _ => rfl
  | [], y :: M, h => by simp [dI, PySem.W.keyToksAll] at h
  | x :: L, [], h => by simp [dI, PySem.W.keyToksAll] at h
  | x :: L, y :: M, h => by
    have e : ∀ (z : Nat) (N : List Nat), PySem.W.keyToksAll (dI (z :: N)) = .inl 1 :: .inl (z : Int) :: PySem.W.keyToksAll (dI N) := fun z N => by
      show PySem.W.keyToksAll (PyData.int (z : Int) :: dI N) = _
      simp [PySem.W.keyToks, PySem.W.keyToksAll]
    rw [e, e] at h
    injection h with _ h
    injection h with h1 h2
    injection h1 with h1
    have h1 : x = y := by omega
    rw [h1, toks_ints h2]
theorem leL_anti {L M : List Nat} (h1 : leL L M = true) (h2 : leL M L = true) : L = M := by
  unfold leL at h1 h2
  rw [PySem.W.dataLe_eq] at h1 h2
  have a : PySem.W.dataLt (keyL M) (keyL L) = false := by simpa using h1
  have b : PySem.W.dataLt (keyL L) (keyL M) = false := by simpa using h2
  have e := PyProof.Rows.lex_total _ _ b a
  rw [toks_key, toks_key] at e
  injection e with _ e
  injection e with _ e
  injection e with _ e
  exact toks_ints (List.append_inj_left' e rfl)
def ltL (L M : List Nat) : Prop := leL L M = true ∧ L ≠ M
theorem ltL_as (L M : List Nat) (h1 : ltL L M) (h2 : ltL M L) : False := h1.2 (leL_anti h1.1 h2.1)
theorem sortL_lt {Ls : List (List Nat)} (h : Ls.Nodup) : (Ls.mergeSort leL).Pairwise ltL := by
  have h1 := PySem.W.sort_pairwise leL_tot Ls
  have h2 : (Ls.mergeSort leL).Nodup := (List.mergeSort_perm Ls leL).nodup_iff.mpr h
  exact (h1.and h2).imp fun h => h
theorem sortB_snd (bs : List Lo) : (bs.mergeSort leB).map (·.2) = (bs.map (·.2)).mergeSort leL := PySem.W.sort_maps (r := leB) (s := leL) (fun b : Lo => b.2) fun a _ b _ => rfl
theorem ltL_len {L M : List Nat} (h : ltL L M) : L.length ≤ M.length := leL_len h.1
end Ah
end
section
set_option Elab.async false
set_option linter.all false
set_option maxRecDepth 100000
set_option maxHeartbeats 4000000
namespace Ah
open PySem PySem.Spec PyProof.Rows L2
/-! ### names don't matter -/
theorem lead_names {r : Rw} {s : Say} {n1 n2 : List Str} {l : Lead} (hs : ∀ z ∈ s.names, z ∈ n1) (hl : l ∈ leadsBy r s n2) (ho : other l s = none ∨ ∃ s2, other l s = some s2 ∧ ∀ z ∈ s2.names, z ∈ n1) : l ∈ leadsBy r s n1 := by
  rcases lead_cls hl with ⟨e1, e2, hn⟩ | ⟨n, k1, k2, gr, hk, e, es⟩ | ⟨x, t, n, b, c, gr, e, es⟩ | ⟨x, t, y, z, gr, e, es⟩
  · cases s with
    | clash => exact absurd hl (by simp [leadsBy])
    | is n k =>
      cases r <;> simp only [leadsBy, leadsKind] at hl ⊢ <;> try exact hl
      split at hl
      · obtain ⟨x, _, rfl⟩ := List.mem_map.mp hl
        cases e1
      · exact nomatch hl
    | has n t m =>
      cases r <;> simp only [leadsBy, leadsTie] at hl ⊢ <;> try exact hl
      exact absurd rfl (hn _)
  · rw [es, e]
    rcases gr with gr | gr
    · exact lead_no (.inl gr) hk
    · exact lead_no (.inr gr) hk
  · have hx : x ∈ n1 := by
      rcases es with es | es
      · exact hs x (by rw [es]; simp [Say.names])
      · have e3 : other l s = some (.has x t n) := by rw [e, es]; rfl
        rcases ho with ho | ⟨s2, ho, h2⟩
        · rw [e3] at ho; cases ho
        · rw [e3] at ho
          cases ho
          exact h2 x (by simp [Say.names])
    rw [e, gr]
    rcases es with es | es
    · rw [es]; exact lead_who1
    · rw [es]; exact lead_who2 hx
  · rcases es with es | es
    · have hz : z ∈ n1 := by
        have e3 : other l s = some (.has y t z) := by rw [e, es]; exact if_pos rfl
        rcases ho with ho | ⟨s2, ho, h2⟩
        · rw [e3] at ho; cases ho
        · rw [e3] at ho
          cases ho
          exact h2 z (by simp [Say.names])
      rw [e, gr, es]
      exact lead_on1 hz
    · have hx : x ∈ n1 := by
        by_cases q : Say.has x t y = s
        · exact hs x (by rw [← q]; simp [Say.names])
        · have e3 : other l s = some (.has x t y) := by rw [e]; exact if_neg q
          rcases ho with ho | ⟨s2, ho, h2⟩
          · rw [e3] at ho; cases ho
          · rw [e3] at ho
            cases ho
            exact h2 x (by simp [Say.names])
      rw [e, gr, es]
      exact lead_on2 hx
theorem fol_any {R : List Rw} {n1 n2 : List Str} (hf : ∀ r ∈ R, r.few) (hn : ∀ r ∈ R, ∀ z ∈ rowNames r, z ∈ n1) (hL : ∀ z ∈ n1, z ∈ namesL) {s : Say} (h : Fol R n2 s) : Fol R n1 s := by
  have ff := fol_few (names := n1) hf hn hL
  induction h with
  | base hr e => exact .base hr e
  | @one s l _ hl ho ih =>
    obtain ⟨r, g1, g2, g3⟩ := mem_worked.mp hl
    exact .one ih (mem_worked.mpr ⟨r, g1, lead_names (ff _ ih).2 g2 (.inl ho), g3⟩) ho
  | @two s s2 l _ hl ho _ ih ih2 =>
    obtain ⟨r, g1, g2, g3⟩ := mem_worked.mp hl
    exact .two ih (mem_worked.mpr ⟨r, g1, lead_names (ff _ ih).2 g2 (.inr ⟨_, ho, (ff _ ih2).2⟩), g3⟩) ho ih2
theorem fol_can {R : List Rw} {names : List Str} (hf : ∀ r ∈ R, r.few) (hn : ∀ r ∈ R, ∀ z ∈ rowNames r, z ∈ names) {s : Say} : Fol R names s ↔ Fol R namesL s := by
  constructor
  · exact fol_any hf (fun r hr => few_names (hf r hr)) (fun z hz => hz)
  · intro h
    have h1 : Fol R (R.flatMap rowNames) s := fol_any hf (fun r hr z hz => List.mem_flatMap.mpr ⟨r, hr, hz⟩) (fun z hz => by
      obtain ⟨r, h1, h2⟩ := List.mem_flatMap.mp hz
      exact few_names (hf r h1) z h2) h
    refine fol_names (fun x hx => ?_) h1
    obtain ⟨r, g1, g2⟩ := List.mem_flatMap.mp hx
    exact hn r g1 x g2
theorem rowsOf_sub {rs : List Rw} {L : List Nat} {r : Rw} (h : r ∈ rowsOf rs L) : r ∈ rs := by
  obtain ⟨p, _, e⟩ := mem_rowsOf.mp h
  exact List.mem_of_getElem? e
/-- the least lots, of whatever names -/
def LL (rs : List Rw) (s : Say) (L : List Nat) : Prop := LeastLot rs namesL s L
theorem ll_of {rs : List Rw} {names : List Str} (hf : ∀ r ∈ rs, r.few) (hn : ∀ r ∈ rs, ∀ z ∈ rowNames r, z ∈ names) {s : Say} {L : List Nat} : LeastLot rs names s L ↔ LL rs s L := by
  have e : ∀ L, Fol (rowsOf rs L) names s ↔ Fol (rowsOf rs L) namesL s := fun L => fol_can (fun r hr => hf r (rowsOf_sub hr)) fun r hr => hn r (rowsOf_sub hr)
  unfold LL LeastLot
  constructor
  · rintro ⟨h1, h2, h3⟩
    exact ⟨h1, (e L).mp h2, fun M a b c => h3 M a b ((e M).mpr c)⟩
  · rintro ⟨h1, h2, h3⟩
    exact ⟨h1, (e L).mpr h2, fun M a b c => h3 M a b ((e M).mp c)⟩
theorem rowsOf_app {rs ms : List Rw} {L : List Nat} (h : ∀ p ∈ L, p < rs.length) : rowsOf (rs ++ ms) L = rowsOf rs L := by
  unfold rowsOf
  induction L with
  | nil => rfl
  | cons p L ih =>
    have e : (rs ++ ms)[p]? = rs[p]? := List.getElem?_append_left (h p (List.mem_cons_self ..))
    rw [List.filterMap_cons, List.filterMap_cons, e, ih fun q hq => h q (List.mem_cons_of_mem _ hq)]
theorem ll_app {rs : List Rw} {r : Rw} {s : Say} {L : List Nat} : LL rs s L ↔ LL (rs ++ [r]) s L ∧ rs.length ∉ L := by
  have le : (rs ++ [r]).length = rs.length + 1 := by rw [List.length_append, List.length_singleton]
  unfold LL LeastLot LotOk
  rw [le]
  constructor
  · rintro ⟨⟨h1, h2⟩, h3, h4⟩
    refine ⟨⟨⟨h1, fun p hp => Nat.lt_succ_of_lt (h2 p hp)⟩, by rw [rowsOf_app h2]; exact h3, fun M ⟨m1, _⟩ hs hm => ?_⟩, fun z => Nat.lt_irrefl _ (h2 _ z)⟩
    have mb : ∀ p ∈ M, p < rs.length := fun p hp => h2 p (hs p hp)
    rw [rowsOf_app mb] at hm
    exact h4 M ⟨m1, mb⟩ hs hm
  · rintro ⟨⟨⟨h1, h2⟩, h3, h4⟩, hn⟩
    have h2' : ∀ p ∈ L, p < rs.length := fun p hp => by
      have := h2 p hp
      rcases Nat.lt_or_ge p rs.length with z | z
      · exact z
      · exact absurd ((show p = rs.length by omega) ▸ hp) hn
    rw [rowsOf_app h2'] at h3
    refine ⟨⟨h1, h2'⟩, h3, fun M ⟨m1, m2⟩ hs hm => h4 M ⟨m1, fun p hp => Nat.lt_succ_of_lt (m2 p hp)⟩ hs ?_⟩
    rw [rowsOf_app m2]
    exact hm
theorem fol_nil {names : List Str} {s : Say} (h : Fol [] names s) : False := by
  induction h with
  | base hr _ => exact nomatch hr
  | one _ _ _ ih => exact ih
  | two _ _ _ _ ih _ => exact ih
theorem ll_told {rs : List Rw} {rx : Rw} {x : Say} (hx : sayOf rx = some x) : LL (rs ++ [rx]) x [rs.length] := by
  have e : (rs ++ [rx])[rs.length]? = some rx := by simp
  have er : rowsOf (rs ++ [rx]) [rs.length] = [rx] := by
    unfold rowsOf
    rw [List.filterMap_cons, e]
    rfl
  refine ⟨⟨List.pairwise_singleton .., fun p hp => by rw [List.mem_singleton.mp hp, List.length_append, List.length_singleton]; omega⟩, by rw [er]; exact .base (List.mem_cons_self ..) hx, fun M ⟨m1, m2⟩ hs hm => ?_⟩
  cases M with
  | nil => exact (fol_nil hm).elim
  | cons p M =>
    have hp := List.mem_singleton.mp (hs p (List.mem_cons_self ..))
    cases M with
    | nil => rw [hp]
    | cons q M =>
      have hq := List.mem_singleton.mp (hs q (List.mem_cons_of_mem _ (List.mem_cons_self ..)))
      have := (List.pairwise_cons.mp m1).1 q (List.mem_cons_self ..)
      omega
/-- the lots without a row -/
def noN (n : Nat) (Ls : List (List Nat)) : List (List Nat) := Ls.filter fun L => !decide (n ∈ L)
theorem noN_eq {rs : List Rw} {r : Rw} {s : Say} {A B : List (List Nat)} (ha : A.Pairwise ltL) (hb : B.Pairwise ltL) (ma : ∀ L, L ∈ A ↔ LL rs s L) (mb : ∀ L, L ∈ B ↔ LL (rs ++ [r]) s L) : noN rs.length B = A := by
  refine ord_eq ltL_as (hb.sublist List.filter_sublist) ha fun L => ?_
  unfold noN
  rw [List.mem_filter, mb, ma, ll_app (rs := rs) (s := s) (r := r)]
  simp
/-! ### what follows, of whatever names -/
def LFol (rs : List Rw) (s : Say) : Prop := s ≠ .clash ∧ Fol rs namesL s
theorem lfol_ne {rs : List Rw} {s : Say} (h : LFol rs s) : s ≠ .clash := h.1
theorem lfol_few {rs : List Rw} (hf : ∀ r ∈ rs, r.few) {s : Say} (h : LFol rs s) : s.few := (fol_few (names := namesL) hf (fun r hr => few_names (hf r hr)) (fun z hz => hz) s h.2).1
theorem fol_same {r1 r2 : List Rw} (h : ∀ r, r ∈ r1 ↔ r ∈ r2) {names : List Str} {s : Say} : Fol r1 names s ↔ Fol r2 names s := ⟨fol_mono fun r hr => (h r).mp hr, fol_mono fun r hr => (h r).mpr hr⟩
theorem fol_eqN {rs rws : List Rw} {names : List Str} (hf : ∀ r ∈ rs, r.few) (hrw : ∀ r, r ∈ rws ↔ r ∈ rs) (hnm : ∀ z, z ∈ names ↔ ∃ r ∈ rs, z ∈ rowNames r) (s : Say) : Fol rws names s ↔ Fol rs namesL s := by
  rw [← fol_can (names := names) hf fun r hr z hz => (hnm z).mpr ⟨r, hr, hz⟩]
  exact fol_same hrw
theorem fol_eq {rs rws : List Rw} {names : List Str} (hf : ∀ r ∈ rs, r.few) (hrw : ∀ r, r ∈ rws ↔ r ∈ rs) (hnm : ∀ z, z ∈ names ↔ ∃ r ∈ rs, z ∈ rowNames r) (s : Say) : LFol rs s ↔ s ≠ .clash ∧ Fol rws names s := by
  unfold LFol
  rw [fol_eqN hf hrw hnm]
theorem lfol_same {r1 r2 : List Rw} (h : ∀ r, r ∈ r1 ↔ r ∈ r2) {s : Say} : LFol r1 s ↔ LFol r2 s := by
  unfold LFol
  rw [fol_same h]
end Ah
end
section
set_option Elab.async false
set_option linter.all false
set_option maxRecDepth 100000
set_option maxHeartbeats 4000000
namespace Ah
open PySem PySem.Spec PyProof.Rows L2
open GxR (TabB TabG Tabbed)
/-! ### slices and sums of texts -/
def cutL {α : Type} (xs : List α) (lo hi : Option Int) : List α := (xs.drop (HT.sIx xs.length 0 lo)).take (HT.sIx xs.length xs.length hi - HT.sIx xs.length 0 lo)
theorem cutV_map {α : Type} (f : α → V) (xs : List α) (lo hi : Option Int) : cutV (xs.map f) lo hi = (cutL xs lo hi).map f := by
  unfold cutV cutL
  rw [List.length_map, List.map_take, List.map_drop]
theorem cutL_take {α : Type} (xs : List α) (n : Nat) : cutL xs none (some (n : Int)) = xs.take n := by
  unfold cutL
  rw [HT.sIx_none, HT.sIx_nat, List.drop_zero, Nat.sub_zero]
  by_cases h : n ≤ xs.length
  · rw [Nat.min_eq_left h]
  · rw [Nat.min_eq_right (by omega), List.take_of_length_le (Nat.le_refl _), List.take_of_length_le (by omega)]
theorem cutL_drop {α : Type} (xs : List α) (n : Nat) : cutL xs (some (n : Int)) none = xs.drop n := by
  unfold cutL
  rw [HT.sIx_none, HT.sIx_nat]
  by_cases h : n ≤ xs.length
  · rw [Nat.min_eq_left h, List.take_of_length_le (by rw [List.length_drop]; exact Nat.le_refl _)]
  · rw [Nat.min_eq_right (by omega), List.drop_eq_nil_of_le (Nat.le_refl _), List.drop_eq_nil_of_le (by omega), List.take_nil]
theorem pd_take {α β : Type} {F : α → β → Prop} {l : List α} {m : List β} (h : Paired F l m) : ∀ n, Paired F (l.take n) (m.take n) := by
  induction h with
  | nil => intro n; rw [List.take_nil, List.take_nil]; exact .nil
  | cons h t ih =>
    intro n
    cases n with
    | zero => exact .nil
    | succ n => exact .cons h (ih n)
theorem pd_drop {α β : Type} {F : α → β → Prop} {l : List α} {m : List β} (h : Paired F l m) : ∀ n, Paired F (l.drop n) (m.drop n) := by
  induction h with
  | nil => intro n; rw [List.drop_nil, List.drop_nil]; exact .nil
  | cons h t ih =>
    intro n
    cases n with
    | zero => exact .cons h t
    | succ n => exact ih n
theorem pd_append {α β : Type} {F : α → β → Prop} {l l' : List α} {m m' : List β} (h : Paired F l m) (h' : Paired F l' m') : Paired F (l ++ l') (m ++ m') := by
  induction h with
  | nil => exact h'
  | cons h t ih => exact .cons h ih
theorem pd_cut {α β : Type} {F : α → β → Prop} {l : List α} {m : List β} (h : Paired F l m) (lo hi : Option Int) : Paired F (cutL l lo hi) (cutL m lo hi) := by
  unfold cutL
  rw [h.length]
  exact pd_take (pd_drop h _) _
theorem textAt_upd {H : Hp} {p : Addr} {o : HO} {ps : List Addr} {rs : List Rw} (np : H p = none) (h : Paired (fun a r => H a = some (.tup ((Rw.ws r).map V.str))) ps rs) : Paired (fun a r => (L2.upd H p o) a = some (.tup ((Rw.ws r).map V.str))) ps rs :=
  Paired.mapP h fun _ _ e => by rw [upd_ne (ne_of_none e np)]; exact e
theorem slA_text {K : PySem.W.Frag} {H : Hp} {q : Addr} {rs : List Rw} {lo hi : Option Int} {Q : VK} (tx : TextAt H q rs) (k : ∀ q' H', Kept [] H H' → TextAt H' q' (cutL rs lo hi) → Q (.ref q') H') : rSlA K (.ref q) lo hi H Q := by
  obtain ⟨ps, h1, h2⟩ := tx
  refine ⟨q, ps.map V.ref, rfl, .inl (.of h1), fun ⟨w1, w2⟩ => ?_, fun _ p np => ?_⟩
  · rw [List.length_map, h2.length] at w1 w2
    have e : cutL rs lo hi = rs := by
      unfold cutL
      rw [w1, w2, List.drop_zero, Nat.sub_zero, List.take_of_length_le (Nat.le_refl _)]
    refine k q H (Kept.refl H) ?_
    rw [e]
    exact ⟨ps, h1, h2⟩
  · rw [cutV_map]
    exact k p _ ((Kept.refl H).upd np) ⟨_, upd_same, textAt_upd np (pd_cut h2 lo hi)⟩
theorem catA_text {K : PySem.W.Frag} {H : Hp} {q1 q2 : Addr} {rs1 rs2 : List Rw} {Q : VK} (t1 : TextAt H q1 rs1) (t2 : TextAt H q2 rs2) (hl : rs1.length + rs2.length ≤ 1000) (k : ∀ q' H', Kept [] H H' → TextAt H' q' (rs1 ++ rs2) → Q (.ref q') H') : rCatA K (.ref q1) (.ref q2) H Q := by
  obtain ⟨ps1, h1, p1⟩ := id t1
  obtain ⟨ps2, h2, p2⟩ := id t2
  have l1 := p1.length
  have l2 := p2.length
  refine ⟨q1, q2, ps1.map V.ref, ps2.map V.ref, rfl, rfl, .inl (.of h1), .inl (.of h2), by rw [List.length_map, List.length_map]; exact Nat.le_trans (show _ ≤ 1000 by omega) (by decide), fun e => ?_, fun e1 e2 => ?_, fun e1 e2 p np => ?_⟩
  · have e' : rs1 = [] := List.eq_nil_of_length_eq_zero (by rw [← l1, List.map_eq_nil_iff.mp e]; rfl)
    refine k q2 H (Kept.refl H) ?_
    rw [e', List.nil_append]
    exact t2
  · have e' : rs2 = [] := List.eq_nil_of_length_eq_zero (by rw [← l2, List.map_eq_nil_iff.mp e2]; rfl)
    refine k q1 H (Kept.refl H) ?_
    rw [e', List.append_nil]
    exact t1
  · rw [← List.map_append]
    exact k p _ ((Kept.refl H).upd np) ⟨_, upd_same, textAt_upd np (pd_append p1 p2)⟩
/-! ### those of a list that are no keys of a dict -/
def rDicInK (K : PySem.W.Frag) (P : Program) (w : World) (neg : Bool) : R2 := fun y x H Q => ∃ (a b : Addr) (es : List Ent) (k : List Key), x = .ref a ∧ y = .ref b ∧ Rd H a (DicO P w a es) ∧ KeysIn K H es ∧ SqT K H b (k.map kV) ∧
  Q (.bl (if neg then !(valE es k).isSome else (valE es k).isSome)) H
def keepT (es : List Ent) (b : Tx) : Bool := !(valE es b.2).isSome
theorem rd_keep {J : It} {n : Nat} {G : Hp → Prop} {us : List V} (wk : Walk J n G (YAt us)) {bs : List Tx} (hus : us = bs.map fun b => V.ref b.1) (hn : n = bs.length) {K : PySem.W.Frag} {P : Program} {w : World} {σ : L2.St} {H : Hp} {Q : VK} {b c : Nat} {d2 : Addr} {es2 : List Ent}
    (hG : ∀ Ha, Kept [] H Ha → G Ha) (h2 : ∀ x : V, wipe ((wipe σ [c]).set c (some x)) [c] = wipe σ [c]) (h3 : ∀ x : V, ((wipe σ [c]).set c (some x))[c]? = some (some x)) (h4 : ∀ x : V, ((wipe σ [c]).set c (some x))[b]? = some (some (.ref d2)))
    (hd2 : H d2 = some (DicO P w d2 es2)) (k2 : KeysIn K H es2) (hb : ∀ b ∈ bs, SqT K H b.1 (b.2.map kV)) (lb : bs.length ≤ 1000)
    (q : ∀ D Ha, H D = none → Ha D = some (.lst ((bs.filter (keepT es2)).map fun b => V.ref b.1)) → Kept [] H Ha → Q (.ref D) Ha) :
    ∀ D, H D = none → ∃ W : Nat → Nat → Hp → Prop, (∃ m, W 0 m (L2.upd H D (.lst []))) ∧ ∀ i m Ha, W i m Ha →
      (J.stop i Ha ∧ Q (.ref D) Ha) ∨ (J.go i Ha ∧ ∃ Nx : Hp → Prop, (∀ H', Nx H' → ∃ m', m' < m ∧ W (i + 1) m' H') ∧ ∀ x H', J.yld i Ha x H' → gName c x (wipe σ [c]) H' fun σ2 H2 => wipe σ2 [c] = wipe σ [c] ∧ tTest (tOp (rDicInK K P w true) (tVar c) (tVar b)) σ2 H2 fun b H3 =>
        if b = true then tVar c σ2 H3 fun y H4 => ∃ acc, H4 D = some (.lst acc) ∧ acc.length < sizeLine ∧ Nx (L2.upd H4 D (.lst (acc ++ [y]))) else Nx H3) := by
  intro D nD
  refine lc_it wk (fun i Ha => Ha D = some (.lst (((bs.take i).filter (keepT es2)).map fun b => V.ref b.1)) ∧ Kept [] H Ha) ⟨by rw [List.take_zero]; exact upd_same, (Kept.refl H).upd nD⟩ (fun i Ha _ pv => hG Ha pv.2) ?_ ?_
  · rintro i v Ha0 Ha hi ⟨eD, kk⟩ ⟨rfl, ey⟩
    rw [hus, List.getElem?_map] at ey
    obtain ⟨e, ee, rfl⟩ := Option.map_eq_some_iff.mp ey
    have tk : TK H Ha := .of kk
    refine ⟨h2 _, ?_⟩
    refine ⟨_, h3 _, _, h4 _, d2, e.1, es2, e.2, rfl, rfl, .inl (kk _ _ hd2 (by simp)), fun x hx => sqT_tk tk (k2 x hx), sqT_tk tk (hb e (List.mem_of_getElem? ee)), ?_⟩
    have et : (bs.take (i + 1)).filter (keepT es2) = (bs.take i).filter (keepT es2) ++ if keepT es2 e = true then [e] else [] := by
      rw [List.take_add_one, ee, List.filter_append]
      congr 1
      show List.filter _ [e] = _
      rw [List.filter_cons, List.filter_nil]
    refine ⟨keepT es2 e, rfl, ?_⟩
    cases hk : keepT es2 e with
    | true =>
      refine iteT ⟨_, h3 _, _, eD, ?_, ?_, kD_far nD kk⟩
      · rw [List.length_map]
        refine Nat.lt_of_le_of_lt (Nat.le_trans (List.length_filter_le ..) ?_) (show 1000 < sizeLine by decide)
        rw [List.length_take]
        omega
      · rw [et, hk, if_pos rfl, List.map_append]
        exact upd_same
    | false =>
      refine iteF ⟨?_, kk⟩
      rw [et, hk, if_neg (by decide), List.append_nil]
      exact eD
  · rintro Ha ⟨eD, kk⟩
    rw [hn, List.take_of_length_le (Nat.le_refl _)] at eD
    exact q D Ha nD eD kk
/-! ### what follows from the one text and not from the other -/
structure OnlyT (K : PySem.W.Frag) (H : Hp) (rs rs2 : List Rw) (ts : List Tx) : Prop where
  at_ : ∀ b ∈ ts, ∃ s : Say, (LFol rs s ∧ ¬ LFol rs2 s) ∧ b.2 = keyW s.ws ∧ SqT K H b.1 (s.ws.map V.str)
  all_ : ∀ s, (LFol rs s ∧ ¬ LFol rs2 s) → ∃ b ∈ ts, b.2 = keyW s.ws
  nd : (ts.map (·.2)).Nodup
  srt : ts.mergeSort leT = ts
  len : ts.length ≤ 1000
theorem tot_t : PySem.W.TotalLe leT := by
  unfold leT PySem.W.dataLe
  exact PySem.W.sortLe_total _ _ _
theorem sorted_filter (bs : List Tx) (f : Tx → Bool) : ((bs.mergeSort leT).filter f).mergeSort leT = (bs.mergeSort leT).filter f :=
  List.mergeSort_of_pairwise ((PySem.W.sort_pairwise tot_t bs).filter f)
theorem keep_no {es : List Ent} {b : Tx} {s : Say} (e : b.2 = keyW s.ws) : keepT es b = true ↔ ¬ HasE es s := by
  unfold keepT
  rw [hasE_val, e]
  cases (valE es (keyW s.ws)).isSome <;> simp
/-- both lists, the program's and the law's, by one form -/
theorem onlyT_of {K : PySem.W.Frag} {H : Hp} {rs rs2 : List Rw} {bs : List Tx} {es2 : List Ent} {M N : Say → Prop} (h1 : ∀ b ∈ bs, ∃ s : Say, M s ∧ b.2 = keyW s.ws ∧ SqT K H b.1 (s.ws.map V.str)) (h2 : ∀ s, M s → ∃ b ∈ bs, b.2 = keyW s.ws) (h3 : (bs.map (·.2)).Nodup) (h4 : bs.length ≤ 1000)
    (hM : ∀ s, M s ↔ LFol rs s) (hN : ∀ s, HasE es2 s ↔ N s) (hN2 : ∀ s, LFol rs s → (N s ↔ LFol rs2 s)) : OnlyT K H rs rs2 ((bs.mergeSort leT).filter (keepT es2)) := by
  have mem : ∀ b, b ∈ bs.mergeSort leT ↔ b ∈ bs := fun b => (List.mergeSort_perm bs leT).mem_iff
  refine ⟨fun b hb => ?_, fun s hs => ?_, ?_, sorted_filter _ _, ?_⟩
  · obtain ⟨a1, a2⟩ := List.mem_filter.mp hb
    obtain ⟨s, m, e, r⟩ := h1 b ((mem b).mp a1)
    exact ⟨s, ⟨(hM s).mp m, fun z => (keep_no e).mp a2 ((hN s).mpr ((hN2 s ((hM s).mp m)).mpr z))⟩, e, r⟩
  · obtain ⟨b, hb, e⟩ := h2 s ((hM s).mpr hs.1)
    exact ⟨b, List.mem_filter.mpr ⟨(mem b).mpr hb, (keep_no e).mpr fun z => hs.2 ((hN2 s hs.1).mp ((hN s).mp z))⟩, e⟩
  · exact (List.Sublist.map _ List.filter_sublist).nodup (((List.mergeSort_perm bs leT).map (·.2)).nodup_iff.mpr h3)
  · exact Nat.le_trans (List.length_filter_le ..) (by rw [mergeT_len]; exact h4)
theorem onlyT_eq {K : PySem.W.Frag} {H H' : Hp} {rs rs2 : List Rw} {ts us : List Tx} (few : ∀ r ∈ rs, r.few) (h : OnlyT K H rs rs2 ts) (h' : OnlyT K H' rs rs2 us) : ts.map (·.2) = us.map (·.2) := by
  have e := told_eq (bs := ts) (ts := us) (M := fun s => LFol rs s ∧ ¬ LFol rs2 s) (fun s hs => mem_allSay (lfol_few few hs.1)) (fun b hb => let ⟨s, a, b, _⟩ := h.at_ b hb; ⟨s, a, b⟩) h.all_ h.nd (fun b hb => let ⟨s, a, b, _⟩ := h'.at_ b hb; ⟨s, a, b⟩) h'.all_ h'.nd
  rw [h.srt, h'.srt] at e
  exact e
theorem OnlyT.tk {K : PySem.W.Frag} {H H' : Hp} {rs rs2 : List Rw} {ts : List Tx} (k : TK H H') (h : OnlyT K H rs rs2 ts) : OnlyT K H' rs rs2 ts :=
  ⟨fun b hb => let ⟨s, a, b, c⟩ := h.at_ b hb; ⟨s, a, b, sqT_tk k c⟩, h.all_, h.nd, h.srt, h.len⟩
end Ah
end
section
set_option Elab.async false
set_option linter.all false
set_option maxRecDepth 100000
set_option maxHeartbeats 4000000
namespace Ah
open PySem PySem.Spec PyProof.Rows L2
open GxR (TabB TabG Tabbed)
theorem scRes : FnScope ["rows"] ["rows"] (defScope sResultsOf) := ⟨rfl, rfl, rfl, by decide +kernel, rfl, by decide +kernel, by decide +kernel⟩
theorem scLeft : FnScope ["rows", "number"] ["rows", "number"] (defScope sLeft) := ⟨rfl, rfl, rfl, by decide +kernel, rfl, by decide +kernel, by decide +kernel⟩
theorem scHang : FnScope ["rows", "number"] ["rows", "number"] (defScope sHanging) := ⟨rfl, rfl, rfl, by decide +kernel, rfl, by decide +kernel, by decide +kernel⟩
theorem scPart : FnScope ["rows", "other"] ["rows", "other"] (defScope sParted) := ⟨rfl, rfl, rfl, by decide +kernel, rfl, by decide +kernel, by decide +kernel⟩
theorem scOnly : FnScope ["rows", "other", "known", "saying"] ["rows", "other"] (defScope sOnlyFirst) := ⟨rfl, rfl, rfl, by decide +kernel, rfl, by decide +kernel, by decide +kernel⟩
theorem scNum : FnScope ["number", "many"] ["number", "many"] (defScope sIsNumber) := ⟨rfl, rfl, rfl, by decide +kernel, rfl, by decide +kernel, by decide +kernel⟩
theorem scChN : FnScope ["number", "many"] ["number", "many"] (defScope sCheckNumber) := ⟨rfl, rfl, rfl, by decide +kernel, rfl, by decide +kernel, by decide +kernel⟩
def spRes (K : PySem.W.Frag) (P : Program) (w : World) : Sp := fun vs H Q _ => ∃ (q : Addr) (rs : List Rw), vs = [.ref q] ∧ TextAt H q rs ∧ (∀ r ∈ rs, r.few) ∧ rs.length ≤ 20 ∧
  ∀ p H' es rws names, Kept [] H H' → H p = none → H' p = some (DicO P w p es) → (∀ r, r ∈ rws ↔ r ∈ rs) → (∀ z, z ∈ names ↔ ∃ r ∈ rs, z ∈ rowNames r) → SayE K H' rws names es → (∀ s, HasE es s ↔ Fol rws names s) → (es.map (·.1)).Nodup → es.length ≤ 1000 → (∀ e ∈ es, e.2.2 = V.bl true) → Q (.ref p) H'
def spLeft : Sp := fun vs H Q _ => ∃ (q : Addr) (rs : List Rw) (n : Nat), vs = [.ref q, .int n] ∧ TextAt H q rs ∧ rs.length ≤ 100 ∧ ∀ q' H', Kept [] H H' → TextAt H' q' (rs.take n ++ rs.drop (n + 1)) → Q (.ref q') H'
def spNum : Sp := fun vs H Q _ => ∃ (i m : Int), vs = [.int i, .int m] ∧ Q (.bl (decide (0 ≤ i) && decide (i < m))) H
def spChN : Sp := fun vs H Q _ => ∃ (i m : Int), vs = [.int i, .int m] ∧ 0 ≤ i ∧ i < m ∧ Q .non H
def spOnly (K : PySem.W.Frag) (T : List Addr) : Sp := fun vs H Q _ => ∃ (q q2 : Addr) (rs rs2 : List Rw), vs = [.ref q, .ref q2] ∧ TextAt H q rs ∧ TextAt H q2 rs2 ∧ (∀ r ∈ rs, r.few) ∧ (∀ r ∈ rs2, r.few) ∧ rs.length ≤ 20 ∧ rs2.length ≤ 20 ∧ (∀ P ∈ T, TabG H P) ∧
  ∀ p ts H', Kp T H H' → H p = none → H' p = some (.lst (ts.map fun b => V.ref b.1)) → OnlyT K H' rs rs2 ts → Q (.ref p) H'
def spParted (K : PySem.W.Frag) (T : List Addr) : Sp := fun vs H Q _ => ∃ (q q2 : Addr) (rs rs2 : List Rw), vs = [.ref q, .ref q2] ∧ TextAt H q rs ∧ TextAt H q2 rs2 ∧ (∀ r ∈ rs, r.few) ∧ (∀ r ∈ rs2, r.few) ∧ rs.length ≤ 20 ∧ rs2.length ≤ 20 ∧ (∀ P ∈ T, TabG H P) ∧
  ∀ p p1 p2 ts us H', Kp T H H' → H p1 = none → H' p = some (.tup [.ref p1, .ref p2]) → H' p1 = some (.lst (ts.map fun b => V.ref b.1)) → H' p2 = some (.lst (us.map fun b => V.ref b.1)) → OnlyT K H' rs rs2 ts → OnlyT K H' rs2 rs us → Q (.ref p) H'
def spHang (K : PySem.W.Frag) (T : List Addr) : Sp := fun vs H Q _ => ∃ (q : Addr) (rs : List Rw) (n : Nat), vs = [.ref q, .int n] ∧ TextAt H q rs ∧ (∀ r ∈ rs, r.few) ∧ rs.length ≤ 20 ∧ n < rs.length ∧ (∀ P ∈ T, TabG H P) ∧
  ∀ p ts H', Kp T H H' → H p = none → H' p = some (.lst (ts.map fun b => V.ref b.1)) → OnlyT K H' rs (rs.take n ++ rs.drop (n + 1)) ts → Q (.ref p) H'
/-- a text of few words is let by -/
theorem rows_v {K : PySem.W.Frag} {H : Hp} {q : Addr} {rs : List Rw} (tx : TextAt H q rs) (hf : ∀ r ∈ rs, r.few) (hl : rs.length ≤ 24) : ∃ vs, H q = some (.tup vs) ∧ vs.length ≤ 24 ∧ ∀ r ∈ vs, RowV K H r true := by
  obtain ⟨ps, hq, hps⟩ := id tx
  have lps : ps.length = rs.length := hps.length
  refine ⟨ps.map V.ref, hq, by rw [List.length_map]; omega, fun v hv => ?_⟩
  obtain ⟨a, ha, rfl⟩ := List.mem_map.mp hv
  obtain ⟨i, hi⟩ := List.mem_iff_getElem?.mp ha
  obtain ⟨r, er, hr1⟩ := paired_at hps hi
  have fr := hf r (List.mem_of_getElem? er)
  refine .inr ⟨a, _, rfl, .inl (.of hr1), ?_, fun x hx => ?_, (few_row fr).symm⟩
  · rw [List.length_map]
    exact Nat.le_trans (show r.ws.length ≤ 10 by cases r <;> simp [Rw.ws]) (by decide)
  · obtain ⟨z, hz, rfl⟩ := List.mem_map.mp hx
    exact .inl ⟨z, rfl, Nat.le_trans (few_len fr z hz) (by decide)⟩
section
variable {P : Program} {w : World} {K : PySem.W.Frag} {mg : Str → Option Value} {base : Heap} {f fT fC fA fN fI C cl : Addr} {fd fdT fdC fdA fdN fdI : FuncData} {T : List Addr}
theorem ok_results (F : FnP K "results_of" sResultsOf f fd) (CR : ClsR K C) (M : Mk K C fI) (gR : mg "Rules" = some (.ref C)) (FI : FnOk P w K mg base CX0 2 fI fdI ["self", "rows", "names"] (spInit K P w C)) (bI : Binds K fdI ["self", "rows", "names"] [])
    (c_all_results : Own P w K mg base "all_results" 6 fA fdA ["rules"] (spAll K P w C)) (c_names_of : Own P w K mg base "names_of" 2 fN fdN ["rows"] (spNames K)) : FnOk P w K mg base CX0 7 f fd ["rows"] (spRes K P w) := by
  refine F.ok scRes (fun vs H Q E h => ?_) (fun cdv A outer s H vs Q E hr h => ?_)
  · obtain ⟨q, rs, rfl, _⟩ := h
    rfl
  · obtain ⟨q, rs, rfl, tx, hf, hl, k⟩ := h
    refine ⟨_, PSs.nox (pss_one (ps_ret (pe_call c_all_results.ok hr (by rfl) c_all_results.g c_all_results.kp c_all_results.b .nil pass0 (pa_cons (pe_make M FI (hr.mono (by decide)) (by rfl) gR bI .nil pass0 (pa_cons (pv 0) (pa_cons (pe_call c_names_of.ok (hr.mono (by decide)) (by rfl) c_names_of.g c_names_of.kp c_names_of.b .nil pass0 (pa_cons (pv 0) pa_nil)) pa_nil))) pa_nil)))), ?_⟩
    refine ⟨_, rfl, _, rfl, q, rs, rfl, tx.w, by omega, fun na nb H2 k2 nna e2 hm2 hl2 _ => ?_⟩
    intro x dx nx ndx dxx
    have kx : Kept [] H2 (L2.upd (L2.upd H2 dx (.own x)) x (.ins C dx [])) := ((Kept.refl H2).upd ndx).upd (by rw [upd_ne (Ne.symm dxx)]; exact nx)
    refine ⟨x, q, na, dx, rs, nb, rfl, upd_same, (tx.kept (M := []) (TK.of k2)).kept (M := []) (TK.of kx), by omega, kx _ _ e2 (by simp), fun H3 o ho hC nkd k3 R3 => ⟨rfl, ?_⟩⟩
    have hrw : ∀ r, r ∈ dd rs ↔ r ∈ rs := dd_mem rs
    have hrl : (dd rs).length ≤ rs.length := dd_len rs
    generalize dd rs = rws at R3 hrw hrl
    have hnb : ∀ z ∈ nb, z ∈ namesL := fun z hz => by
      obtain ⟨r, h1, h2⟩ := (hm2 z).mp hz
      exact few_names (hf r h1) z h2
    have hrf : ∀ r ∈ rws, r.few := fun r hr => hf r ((hrw r).mp hr)
    have hff := fol_few (names := nb) hrf (fun r hr z hz => (hm2 z).mpr ⟨r, (hrw r).mp hr, hz⟩) hnb
    have okd : OkD rws nb := ⟨by omega, by omega, fun r hr => few_ok (hrf r hr), fun z hz => (w_name (hnb z hz)).1⟩
    subst ho
    refine ⟨o, rws, nb, [], allSay.filter (fun s => s.names.all fun z => decide (z ∈ nb)), rfl, hC, R3, okd, Nat.zero_le _, ?_, ?_, fun s hs => ?_, fun s hs => ?_, fun d H4 es k4 nd4 e4 se4 hes nd hle => ?_⟩
    · exact Nat.le_trans (List.length_filter_le ..) (by rw [allSay_len]; decide)
    · have h1 : (allSay.filter (fun s => s.names.all fun z => decide (z ∈ nb))).length ≤ 28 := by
        rw [← allSay_len]
        exact List.length_filter_le ..
      have h2 : rws.length * (2 * nb.length + 1) ≤ 20 * 121 := Nat.mul_le_mul (by omega) (by omega)
      exact Nat.le_trans (Nat.mul_le_mul (show _ ≤ 29 by omega) h2) (by decide)
    · obtain ⟨h1, h2⟩ := hff s hs
      exact List.mem_filter.mpr ⟨mem_allSay h1, List.all_eq_true.mpr fun z hz => decide_eq_true (h2 z hz)⟩
    · obtain ⟨h1, h2⟩ := List.mem_filter.mp hs
      exact ⟨allSay_ok s h1, fun z hz => of_decide_eq_true (List.all_eq_true.mp h2 z hz)⟩
    · have k14 : Kept [] H H4 := fun b u e hb => by
        have b2 := k2 b u e hb
        have b3 := kx b u b2 hb
        have b4 := k3 b u b3 (by rw [List.mem_singleton]; exact ne_of_none b2 nx)
        exact k4 b u b4 (by rw [List.mem_singleton]; exact ne_of_none b3 nkd)
      have nd0 : H d = none := by
        cases e : H d with
        | none => rfl
        | some u =>
          have b2 := k2 d u e (by simp)
          have b3 := kx d u b2 (by simp)
          have b4 := k3 d u b3 (by rw [List.mem_singleton]; exact ne_of_none b2 nx)
          rw [nd4] at b4
          cases b4
      exact k d H4 es rws nb k14 nd0 e4 hrw hm2 se4 hes nd hle
theorem ok_left (F : FnP K "left" sLeft f fd) : FnOk P w K mg base CX0 1 f fd ["rows", "number"] spLeft := by
  refine F.ok scLeft (fun vs H Q E h => ?_) (fun cdv A outer s H vs Q E hr h => ?_)
  · obtain ⟨q, rs, n, rfl, _⟩ := h
    rfl
  · obtain ⟨q, rs, n, rfl, tx, hl, k⟩ := h
    refine ⟨_, PSs.nox (pss_one (ps_ret (pe_op (show OpR _ _ (rCatA K) from op_catA) (pe_slice (show SlR _ (rSlA K) from sl_tupA) (pv 0) po_none (po_some (pv 1))) (pe_slice (show SlR _ (rSlA K) from sl_tupA) (pv 0) (po_some (pe_op op_add (pv 1) pe_int)) po_none)))), ?_⟩
    refine ⟨_, rfl, _, rfl, (n : Int), rfl, ?_⟩
    refine slA_text tx fun q1 H1 k1 tx1 => ?_
    refine ⟨_, rfl, _, rfl, _, _, rfl, rfl, ((n + 1 : Nat) : Int), rfl, ?_⟩
    dsimp only
    unfold tNoPart
    dsimp only
    refine slA_text (tx.kept (M := []) (TK.of k1)) fun q2 H2 k2 tx2 => ?_
    rw [cutL_take] at tx1
    rw [cutL_drop] at tx2
    refine catA_text (tx1.kept (M := []) (TK.of k2)) tx2 ?_ fun q3 H3 k3 tx3 => k q3 H3 ((k1.trans k2).trans k3) tx3
    rw [List.length_take, List.length_drop]
    omega
theorem ok_number (F : FnP K "is_number" sIsNumber f fd) (B : Bl mg) (zi : mg "int" = none) : FnOk P w K mg base CX0 1 f fd ["number", "many"] spNum := by
  refine F.ok scNum (fun vs H Q E h => ?_) (fun cdv A outer s H vs Q E hr h => ?_)
  · obtain ⟨i, m, rfl, _⟩ := h
    rfl
  · obtain ⟨i, m, rfl, k⟩ := h
    refine ⟨_, PSs.nox (pss_one (ps_ret (pe_and (pe_callB (show CallR _ _ (rIsi K) from call_isi) (by rfl) B.isinstance_ (by decide +kernel) (pa_cons (pv 0) (pa_cons (pe_bltn (v := .ty "int") (by rfl) zi (by decide +kernel) rfl) pa_nil))) (pe_and (pe_not (pe_callB (show CallR _ _ (rIsi K) from call_isi) (by rfl) B.isinstance_ (by decide +kernel) (pa_cons (pv 0) (pa_cons (pe_bltn (v := .ty "bool") (by rfl) B.bool_ (by decide +kernel) rfl) pa_nil)))) (pe_one (pe_chain op_le op_lt pe_int (pv 0) (pv 1))))))), ?_⟩
    refine rd_isi rfl (.int i) (b := true) (by decide +kernel) ⟨_, rfl, iteT ?_⟩
    refine rd_isi rfl (.int i) (b := false) (by decide +kernel) ⟨_, rfl, _, rfl, iteT ?_⟩
    refine ⟨_, rfl, _, _, rfl, rfl, _, rfl, ?_⟩
    by_cases h0 : 0 ≤ i
    · rw [decide_eq_true h0] at k ⊢
      exact iteT ⟨_, rfl, _, _, rfl, rfl, k⟩
    · rw [decide_eq_false h0] at k ⊢
      exact iteF k
theorem ok_checkN (F : FnP K "check_number" sCheckNumber f fd) (c_is_number : Own P w K mg base "is_number" 1 fT fdT ["number", "many"] spNum) : FnOk P w K mg base CX0 2 f fd ["number", "many"] spChN := by
  refine F.ok scChN (fun vs H Q E h => ?_) (fun cdv A outer s H vs Q E hr h => ?_)
  · obtain ⟨i, m, rfl, _⟩ := h
    rfl
  · obtain ⟨i, m, rfl, h0, h1, k⟩ := h
    refine ⟨_, PSs.nox (pss_one (ps_if (pt_not (pt_val (pe_call c_is_number.ok hr (by rfl) c_is_number.g c_is_number.kp c_is_number.b .nil pass0 (pa_cons (pv 0) (pa_cons (pv 1) pa_nil))))) (pss_one ps_never) pss_nil)), ?_⟩
    refine ⟨_, rfl, _, rfl, i, m, rfl, ⟨_, rfl, ?_⟩⟩
    rw [decide_eq_true h0, decide_eq_true h1]
    exact iteF k
theorem ok_only (F : FnP K "only_first" sOnlyFirst f fd) (c_results_of : Own P w K mg base "results_of" 7 fA fdA ["rows"] (spRes K P w)) (c_follows : Own P w K mg base "follows" 7 fT fdT ["rows"] (spFollows K T)) :
    FnOk P w K mg base CX0 8 f fd ["rows", "other"] (spOnly K T) := by
  refine F.ok scOnly (fun vs H Q E h => ?_) (fun cdv A outer s H vs Q E hr h => ?_)
  · obtain ⟨q, q2, rs, rs2, rfl, _⟩ := h
    rfl
  · obtain ⟨q, q2, rs, rs2, rfl, tx, tx2, hf, hf2, hl, hl2, ht, k⟩ := h
    have hu : A.units + 3 + 1 < cLine := by have := hr.units; exact (by have h2 : (A.deeper (envOfC "only_first" (defScope sOnlyFirst) s.heap.objs.size f cdv)).units = A.units + 3 := rfl; omega)
    refine ⟨_, PSs.nox (pss_cons (ps_set (i := 2) scOnly.nd rfl (.inr rfl) (pe_call c_results_of.ok hr (by rfl) c_results_of.g c_results_of.kp c_results_of.b .nil pass0 (pa_cons (pv 1) pa_nil)))
      (pss_one (ps_ret (pe_lc (own := [("saying", 3)]) rfl scOnly.nd (pi_list (pe_call c_follows.ok hr (by rfl) c_follows.g c_follows.kp c_follows.b .nil pass0 (pa_cons (pv 0) pa_nil))) (blkOk_by (N := ["rows", "other", "known", "saying"]) (sc := defScope sOnlyFirst) (by decide +kernel)) (fun _ _ _ _ _ => (pg_name (i := 3) scOnly.nd rfl (Or.inl rfl))) (fun _ _ _ _ _ => (pts_one (pt_cmpR (show OpR _ _ (rDicInK K P w true) from op_notIn_dic hu) (pv 3) (pv 2) (by rfl)))) (fun _ _ _ _ _ => (pv 3)))))), ?_⟩
    refine ⟨_, rfl, q2, rs2, rfl, tx2, hf2, hl2, fun d H1 es rws2 nb2 k1 nd1 e1 hrw2 hnb2 se2 hes2 nde2 le2 _ => ?_⟩
    have tx1 := tx.kept (M := []) (TK.of k1)
    have ht1 : ∀ P ∈ T, TabG H1 P := (Kp.of ht k1).tab
    refine ⟨_, rfl, q, rs, rfl, tx1, hf, hl, ht1, fun p bs rws nb H2 kp2 np2 ep hrw hnb hb hall ndb lb => ?_⟩
    have e2 : H2 d = some (DicO P w d es) := kp2.obj ht1 e1 (by intro ps q; unfold DicO at q; cases q)
    refine ⟨p, rfl, ⟨_, .inl (.of ep)⟩, ?_⟩
    have mem : ∀ b, b ∈ bs.mergeSort leT ↔ b ∈ bs := fun b => (List.mergeSort_perm bs leT).mem_iff
    refine rd_keep (walk_list (K := K) (a := p) (xs := (bs.mergeSort leT).map fun b => V.ref b.1)) rfl (by rw [List.length_map]) (es2 := es) (d2 := d) (b := 2) (c := 3) (fun Ha kk => .inl (.of (kk _ _ ep (by simp)))) (fun _ => rfl) (fun _ => rfl) (fun _ => rfl) e2 (fun e he => ?_) (fun b hb' => ?_) ?_ fun D Ha nD eD kk => ?_
    · obtain ⟨s', _, a2, a3⟩ := se2 e he
      rw [a2, keyW_kV]
      exact sqT_kp ht1 kp2 a3
    · obtain ⟨s', _, _, a2, a3⟩ := hb b ((mem b).mp hb')
      rw [a2, keyW_kV]
      exact a3
    · rw [mergeT_len]
      omega
    · have kpa := ((Kp.of ht k1).trans kp2).trans (Kp.of kp2.tab kk)
      refine k D _ Ha kpa ((Kp.of ht k1).fresh ht (kp2.fresh ht1 nD)) eD ?_
      refine OnlyT.tk (TK.of kk) (onlyT_of (M := fun s => s ≠ .clash ∧ Fol rws nb s) (N := fun s => Fol rws2 nb2 s) (fun b h => ?_) (fun s hs => hall s hs.1 hs.2) ndb (by omega) (fun s => (fol_eq hf hrw hnb s).symm) hes2 fun s hs => ?_)
      · obtain ⟨s, a1, a2, a3, a4⟩ := hb b h
        exact ⟨s, ⟨a1, a2⟩, a3, a4⟩
      · rw [fol_eq hf2 hrw2 hnb2 s]
        exact ⟨fun h => ⟨lfol_ne hs, h⟩, fun h => h.2⟩
theorem ok_parted (F : FnP K "parted" sParted f fd) (c_check_text : Own P w K mg base "check_text" 6 fC fdC ["rows"] (spCheck0 K T)) (c_only_first : Own P w K mg base "only_first" 8 fA fdA ["rows", "other"] (spOnly K T)) :
    FnOk P w K mg base CX0 9 f fd ["rows", "other"] (spParted K T) := by
  refine F.ok scPart (fun vs H Q E h => ?_) (fun cdv A outer s H vs Q E hr h => ?_)
  · obtain ⟨q, q2, rs, rs2, rfl, _⟩ := h
    rfl
  · obtain ⟨q, q2, rs, rs2, rfl, tx, tx2, hf, hf2, hl, hl2, ht, k⟩ := h
    refine ⟨_, PSs.nox (pss_cons (ps_expr (pe_call c_check_text.ok (hr.mono (by decide)) (by rfl) c_check_text.g c_check_text.kp c_check_text.b .nil pass0 (pa_cons (pv 0) pa_nil)))
      (pss_cons (ps_expr (pe_call c_check_text.ok (hr.mono (by decide)) (by rfl) c_check_text.g c_check_text.kp c_check_text.b .nil pass0 (pa_cons (pv 1) pa_nil)))
      (pss_one (ps_ret (pe_tup (pa_cons (pe_call c_only_first.ok hr (by rfl) c_only_first.g c_only_first.kp c_only_first.b .nil pass0 (pa_cons (pv 0) (pa_cons (pv 1) pa_nil))) (pa_cons (pe_call c_only_first.ok hr (by rfl) c_only_first.g c_only_first.kp c_only_first.b .nil pass0 (pa_cons (pv 1) (pa_cons (pv 0) pa_nil))) pa_nil))))))), ?_⟩
    obtain ⟨vs1, a1, a2, a3⟩ := rows_v tx hf (by omega)
    refine ⟨_, rfl, q, vs1, rfl, a1, a2, a3, ht, fun H1 kp1 => ?_⟩
    have tx1 := tx.kp ht kp1
    have tx21 := tx2.kp ht kp1
    obtain ⟨vs2, b1, b2, b3⟩ := rows_v tx21 hf2 (by omega)
    refine ⟨_, rfl, q2, vs2, rfl, b1, b2, b3, kp1.tab, fun H2 kp2 => ?_⟩
    have tx3 := tx1.kp kp1.tab kp2
    have tx23 := tx21.kp kp1.tab kp2
    refine ⟨_, rfl, _, rfl, q, q2, rs, rs2, rfl, tx3, tx23, hf, hf2, hl, hl2, kp2.tab, fun p1 ts H3 kp3 np1 ep1 ot => ?_⟩
    refine ⟨_, rfl, _, rfl, q2, q, rs2, rs, rfl, tx23.kp kp2.tab kp3, tx3.kp kp2.tab kp3, hf2, hf, hl2, hl, kp3.tab, fun p2 us H4 kp4 np2 ep2 ou => ?_⟩
    refine ⟨(by show 2 ≤ sizeLine; decide), fun p np => ?_⟩
    have k4 : Kp T H3 (L2.upd H4 p (.tup [V.ref p1, V.ref p2])) := kp4.upd np
    have e1 : (L2.upd H4 p (.tup [V.ref p1, V.ref p2])) p1 = some (.lst (ts.map fun b => V.ref b.1)) := k4.obj kp3.tab ep1
    refine k p p1 p2 ts us _ (((kp1.trans kp2).trans kp3).trans k4) ((kp1.trans kp2).fresh ht np1) upd_same e1 (by rw [upd_ne (ne_of_none ep2 np)]; exact ep2) ⟨fun b hb => ?_, ot.all_, ot.nd, ot.srt, ot.len⟩ (ou.tk ((TK.refl _).new np))
    obtain ⟨s, c1, c2, c3⟩ := ot.at_ b hb
    exact ⟨s, c1, c2, sqT_kp kp3.tab k4 c3⟩
theorem ok_hanging (F : FnP K "hanging" sHanging f fd) (B : Bl mg) (c_check_text : Own P w K mg base "check_text" 6 fC fdC ["rows"] (spCheck0 K T)) (c_check_number : Own P w K mg base "check_number" 2 fT fdT ["number", "many"] spChN)
    (c_only_first : Own P w K mg base "only_first" 8 fA fdA ["rows", "other"] (spOnly K T)) (c_left : Own P w K mg base "left" 1 fN fdN ["rows", "number"] spLeft) : FnOk P w K mg base CX0 9 f fd ["rows", "number"] (spHang K T) := by
  refine F.ok scHang (fun vs H Q E h => ?_) (fun cdv A outer s H vs Q E hr h => ?_)
  · obtain ⟨q, rs, n, rfl, _⟩ := h
    rfl
  · obtain ⟨q, rs, n, rfl, tx, hf, hl, hn, ht, k⟩ := h
    refine ⟨_, PSs.nox (pss_cons (ps_expr (pe_call c_check_text.ok (hr.mono (by decide)) (by rfl) c_check_text.g c_check_text.kp c_check_text.b .nil pass0 (pa_cons (pv 0) pa_nil)))
      (pss_cons (ps_expr (pe_call c_check_number.ok (hr.mono (by decide)) (by rfl) c_check_number.g c_check_number.kp c_check_number.b .nil pass0 (pa_cons (pv 1) (pa_cons (pe_callB call_len_seq (by rfl) B.len_ (by decide +kernel) (pa_cons (pv 0) pa_nil)) pa_nil))))
      (pss_one (ps_ret (pe_call c_only_first.ok hr (by rfl) c_only_first.g c_only_first.kp c_only_first.b .nil pass0 (pa_cons (pv 0) (pa_cons (pe_call c_left.ok (hr.mono (by decide)) (by rfl) c_left.g c_left.kp c_left.b .nil pass0 (pa_cons (pv 0) (pa_cons (pv 1) pa_nil))) pa_nil))))))), ?_⟩
    obtain ⟨vs1, a1, a2, a3⟩ := rows_v tx hf (by omega)
    refine ⟨_, rfl, q, vs1, rfl, a1, a2, a3, ht, fun H1 kp1 => ?_⟩
    have tx1 := tx.kp ht kp1
    obtain ⟨ps, hq, hps⟩ := id tx1
    refine ⟨_, rfl, _, rfl, q, _, rfl, .inr (.of hq), (n : Int), _, rfl, by omega, by rw [List.length_map, hps.length]; omega, ?_⟩
    refine ⟨_, rfl, _, rfl, _, rfl, q, rs, n, rfl, tx1, by omega, fun q2 H2 k2 tx2 => ?_⟩
    have hl2 : (rs.take n ++ rs.drop (n + 1)).length ≤ 20 := by
      rw [List.length_append, List.length_take, List.length_drop]
      omega
    have ht2 := (Kp.of kp1.tab k2).tab
    refine ⟨q, q2, rs, _, rfl, tx1.kept (M := []) (TK.of k2), tx2, hf, fun r hr => ?_, hl, hl2, ht2, fun p ts H3 kp3 np ep ot => ?_⟩
    · rcases List.mem_append.mp hr with z | z
      · exact hf r (List.mem_of_mem_take z)
      · exact hf r (List.mem_of_mem_drop z)
    · have kp12 := kp1.trans (Kp.of kp1.tab k2)
      exact k p ts H3 (kp12.trans kp3) (kp12.fresh ht np) ep ot
end
end Ah
end
section
set_option Elab.async false
set_option linter.all false
set_option maxRecDepth 100000
set_option maxHeartbeats 2000000
/-! Dicts keyed by tuples of texts compared, all values being True. -/
namespace PySem.W
open Lean Elab Tactic Meta PySem PySem.Calls PyProof.Rows PyProof.V PySem.Spec
section
variable {prog : Program} {w : World} {K : Type} [DecidableEq K] {knd : HeapKind prog w K} {A : Around} {E : Value → Shared → Prop} {s : Shared}
def AllIn (ys xs : List (K × Addr × Value)) : Bool := xs.all fun x => (atKey ys x.1).isSome
theorem keqH_samePairs {nm : String} {a b : Addr} {xs ys : List (K × Addr × Value)} {Q : Bool → Shared → Prop} (hu : knd.room A) (ha : (a == sysModules) = false) (hb : (b == sysModules) = false)
    (da : s.heap.DictOfH knd a xs) (db : s.heap.DictOfH knd b ys) (hv1 : ∀ x ∈ xs, x.2.2 = .bool true) (hv2 : ∀ y ∈ ys, y.2.2 = .bool true) (heq : SeqAt.EqAt A s (.bool true) (.bool true) true)
    (h : Q (xs.length == ys.length && AllIn ys xs) s) : wpAny (model prog w) A (Builtin.Dict.samePairs nm a b) Q E s := by
  obtain ⟨oa, es, ep, hoa, _, hda, hea, hia, hna⟩ := da
  obtain ⟨ob, es', ep', hob, _, hdb, heb, hib, hnb⟩ := db
  have hla : xs.length = es.size := (size_of_entries hea).symm
  have hlb : ys.length = es'.size := (size_of_entries heb).symm
  rw [hla, hlb] at h
  unfold Builtin.Dict.samePairs Builtin.Dict.showsAll
  rw [if_neg (show ¬ (a == sysModules) = true by rw [ha]; exact Bool.false_ne_true), if_neg (show ¬ (b == sysModules) = true by rw [hb]; exact Bool.false_ne_true)]
  refine wpAny_bind (wpAny_pure (wpAny_bind (wpAny_pure ?_)))
  refine wpAny_bind (wpAny_dictEntries hoa hda ?_)
  dsimp only
  refine wpAny_bind (wpAny_dictEntries hob hdb ?_)
  by_cases hsz : es.size = es'.size
  case neg =>
    rw [if_pos (by simpa using hsz)]
    have hbf : (es.size == es'.size) = false := by simpa using hsz
    rw [hbf, Bool.false_and] at h
    exact wpAny_bind (wpAny_rule (wpAny_pure h))
  case pos =>
    have h' : Q (AllIn ys xs) s := by simpa [hsz] using h
    rw [if_neg (by rw [hsz]; simp)]
    refine wpAny_bind (wpAny_dictEpoch hoa hda ?_)
    refine wpAny_bind ?_
    rw [Std.Legacy.Range.forIn_eq_forIn_range']
    simp only [Std.Legacy.Range.size, Nat.sub_zero, Nat.add_sub_cancel, Nat.div_one]
    refine wpAny_forIn_list _
      (fun rest q s' => s' = s ∧ q = (none, ()) ∧ ∃ i, rest = List.range' i (es.size - i) ∧ i ≤ es.size ∧ AllIn ys (xs.drop i) = AllIn ys xs)
      _ ?_ ?_ _ _ ⟨rfl, rfl, 0, by simp, Nat.zero_le _, rfl⟩
    · rintro x rest q s' ⟨rfl, rfl, i, hr, hi, hpre⟩
      have hlt : i < es.size := by
        rcases Nat.lt_or_ge i es.size with h | h
        · exact h
        · rw [Nat.sub_eq_zero_of_le h] at hr; simp at hr
      obtain ⟨rfl, hrest⟩ : x = i ∧ rest = List.range' (i + 1) (es.size - (i + 1)) := by
        have e : es.size - i = (es.size - (i + 1)) + 1 := by omega
        rw [e, List.range'_succ] at hr
        injection hr with h1 h2
        exact ⟨h1, h2⟩
      refine wpAny_bind (wpAny_dictEntries hoa hda ?_)
      have hlt' : x < xs.length := by rw [hla]; exact hlt
      obtain ⟨k, ka, v, hkv⟩ : ∃ k ka v, xs[x] = (k, ka, v) := ⟨_, _, _, rfl⟩
      have hx : xs[x]? = some (k, ka, v) := by rw [List.getElem?_eq_getElem hlt', hkv]
      have hdrop : xs.drop x = (k, ka, v) :: xs.drop (x + 1) := by rw [← hkv]; exact List.drop_eq_getElem_cons hlt'
      have hxm : (k, ka, v) ∈ xs := List.mem_of_getElem? hx
      have ev : v = .bool true := hv1 _ hxm
      have hkey := hia _ hxm
      have he : es[x]? = some ⟨knd.hash k, .ref ka, v⟩ := by rw [entry_at hea x, hx]; rfl
      rw [he]
      show wpAny _ _ (holding [Value.ref ka, v] _ >>= _) _ _ _
      have hdr : AllIn ys (xs.drop x) = ((atKey ys k).isSome && AllIn ys (xs.drop (x + 1))) := by
        rw [hdrop]
        rfl
      refine wpAny_bind (wpAny_holding (wpAny_bind (wpAny_dictFind_heap hu hkey hob hdb heb hib hnb ?_ ?_)))
      · intro hno
        have hn : atKey ys k = none := atKey_none_of_get hno
        rw [hn] at hdr
        have er : AllIn ys xs = false := by rw [← hpre, hdr]; rfl
        rw [er] at h'
        refine wpAny_pure ?_
        show wpAny _ _ (if (!false) = true then _ else _) _ _ _
        rw [if_pos (by decide)]
        exact wpAny_pure (wpAny_pure h')
      · intro j p hj
        have hn : atKey ys k = some p := atKey_of_get hnb hj
        rw [hn] at hdr
        refine wpAny_bind (wpAny_dictEntries hob hdb ?_)
        have he2 : es'[j]? = some ⟨knd.hash k, .ref p.1, p.2⟩ := by rw [entry_at heb j, hj]; rfl
        rw [he2]
        have ep2 : p.2 = .bool true := hv2 (k, p) (List.mem_of_getElem? hj)
        have heq2 := heq
        rw [← ep2] at heq2
        rw [ev]
        rw [ep2] at heq2 ⊢
        refine wpAny_holding (heq2 prog w _ _ ?_)
        show wpAny _ _ (if (!true) = true then _ else _) _ _ _
        rw [if_neg (by decide)]
        refine wpAny_bind (wpAny_dictEpoch hoa hda ?_)
        rw [if_neg (by simp)]
        exact wpAny_pure ⟨rfl, rfl, x + 1, hrest, hlt, by rw [← hpre, hdr]; rfl⟩
    · rintro q s' ⟨rfl, rfl, i, hr, hi, hpre⟩
      have hin : i = es.size := by
        rcases Nat.lt_or_ge i es.size with h | h
        · have e : es.size - i = (es.size - (i + 1)) + 1 := by omega
          rw [e, List.range'_succ] at hr; exact nomatch hr
        · exact Nat.le_antisymm hi h
      refine wpAny_pure ?_
      rw [hin, ← hla, List.drop_length] at hpre
      rw [← hpre] at h'
      exact h'
theorem keqH_eq {a b : Addr} {xs ys : List (K × Addr × Value)} {Q : Value → Shared → Prop} (hr : knd.room A.in1) (ha : (a == sysModules) = false) (hb : (b == sysModules) = false)
    (da : s.heap.DictOfH knd a xs) (db : s.heap.DictOfH knd b ys) (hu : A.units < cLine) (hv1 : ∀ x ∈ xs, x.2.2 = .bool true) (hv2 : ∀ y ∈ ys, y.2.2 = .bool true) (heq : SeqAt.EqAt A.in1 s (.bool true) (.bool true) true)
    (h : Q (.bool (xs.length == ys.length && AllIn ys xs)) s) : wpAny (model prog w) A (compareOp .Eq (.ref a) (.ref b)) Q E s := by
  refine wpAny_richCompare_same_room (op := .Eq) da.typeIs db.typeIs PySem.F.slot_dict_eq (wpAny_call_entry PySem.F.slot_dict_eq da.typeIs PySem.F.entry_dict_eq ?_ (PySem.F.args_dict_eq_2 _ _)) hu
  show wpAny _ _ (Builtin.Dict.dictSlotArgs "__eq__" ⟨[.ref a, .ref b], []⟩ >>= _) _ _ s
  refine wpAny_bind ?_
  unfold Builtin.Dict.dictSlotArgs
  refine wpAny_bind (wpAny_notOrdered_dict da.typeIs ?_)
  show wpAny _ _ (pure (Value.ref a, Value.ref b)) _ _ s
  refine wpAny_pure ?_
  refine wpAny_bind (wpAny_isInstance (T := "dict") db.typeIs PySem.F.sub_dict_dict ?_)
  simp only [Bool.not_true, Bool.false_eq_true, if_false]
  refine wpAny_bind (wpAny_pure (wpAny_bind (wpAny_pure ?_)))
  refine wpAny_bind (keqH_samePairs hr ha hb da db hv1 hv2 heq ?_)
  refine wpAny_pure ⟨_, rfl, ?_, ?_⟩
  · exact fun x => nomatch x
  · simpa using h
end
end PySem.W
namespace L2
open PySem PySem.Spec PyProof.Rows
section
variable {X : Cx}
def allE (fs es : List Ent) : Bool := es.all fun e => (valE fs e.1).isSome
def rEqDic (K : PySem.W.Frag) (P : Program) (w : World) : R2 := fun x y H Q => ∃ (a b : Addr) (es fs : List Ent), x = .ref a ∧ y = .ref b ∧ Rd H a (DicO P w a es) ∧ Rd H b (DicO P w b fs) ∧ KeysIn K H es ∧ KeysIn K H fs ∧
  (∀ e ∈ es, e.2.2 = .bl true) ∧ (∀ e ∈ fs, e.2.2 = .bl true) ∧ Q (.bl (es.length == fs.length && allE fs es)) H
theorem entR_true : ∀ {es : List Ent} {xs : List (List Key × Addr × Value)}, Paired EntR es xs → (∀ e ∈ es, e.2.2 = .bl true) → ∀ x ∈ xs, x.2.2 = .bool true
  | _, _, .nil, _ => fun x hx => nomatch hx
  | e :: _, _ :: _, .cons h t, hv => fun x hx => by
    rcases List.mem_cons.mp hx with q | hx
    · have h3 := h.2.2
      rw [hv e (List.mem_cons_self ..)] at h3
      rw [q]
      exact h3
    · exact entR_true t (fun z hz => hv z (List.mem_cons_of_mem _ hz)) x hx
theorem entR_all {fs : List Ent} {ys : List (List Key × Addr × Value)} (r : Paired EntR fs ys) : ∀ {es : List Ent} {xs : List (List Key × Addr × Value)}, Paired EntR es xs → PySem.W.AllIn ys xs = allE fs es
  | _, _, .nil => rfl
  | e :: es, x :: xs, .cons h t => by
    have q := (entR_val r e.1).isSome_eq
    rw [Option.isSome_map, h.1] at q
    show ((atKey ys x.1).isSome && PySem.W.AllIn ys xs) = ((valE fs e.1).isSome && allE fs es)
    rw [entR_all r t, h.1, q]
theorem op_eqDic (hu : X.A.units + 1 < cLine) : OpR X (compareOp .Eq) (rEqDic X.K X.prog X.w) := by
  intro pins s σ H x y v u Q I rx ry h
  obtain ⟨a, b, es, fs, rfl, rfl, ea, eb, ke, kf, ve, vf, q⟩ := h
  obtain rfl : v = Value.ref a := rx
  obtain rfl : u = Value.ref b := ry
  obtain ⟨_, ya, na, xs, ra, da⟩ := dic_at I ea ke
  obtain ⟨_, yb, nb, ys, rb, db⟩ := dic_at I eb kf
  have l1 := ra.length
  have l2 := rb.length
  refine PySem.W.keqH_eq (knd := tupleKind (mixKind X.prog X.w)) (tupleKind_room_in1 hu) ya yb da db (by omega) (entR_true ra ve) (entR_true rb vf) (eqAt_same (v := .bl true) rfl rfl rfl) (fin_bl I q ?_)
  rw [entR_all rb ra, l1, l2]
end
end L2
end
section
set_option Elab.async false
set_option linter.all false
set_option maxRecDepth 100000
set_option maxHeartbeats 4000000
namespace Ah
open PySem PySem.Spec PyProof.Rows L2
/-! ### sorted(lot), lot a tuple of numbers -/
def rSortedIT (K : PySem.W.Frag) : List V → Hp → VK → Prop := fun vs H Q => ∃ (a : Addr) (L : List Nat), vs = [V.ref a] ∧ SqT K H a (intsL L) ∧ ∀ p, H p = none → Q (.ref p) (upd H p (.lst (intsL (sortN L))))
section
variable {prog : Program} {w : World} {A : Around} {E : Value → Shared → Prop} {s : Shared}
theorem collect_tupI {l : Addr} {vs : List Value} {Q : List Value → Shared → Prop} (hl : IsTup s.heap l vs.toArray) (hz : vs.length ≤ sizeLine)
    (fin : Q vs { s with heap := (s.heap.push (seqObj "list" #[] 0)).update s.heap.objs.size (Obj.mapSeq (· ++ vs.toArray)) }) : wpAny (model prog w) A (collect (.ref l)) Q E s := by
  obtain ⟨o, g1, g2, n, g3⟩ := hl
  have later : (s.heap.push (seqObj "list" #[] 0)).get? l = some o := Heap.get?_push_of_some _ g1
  have own : (s.heap.push (seqObj "list" #[] 0)).get? s.heap.objs.size = some (seqObj "list" #[] 0) := Heap.get?_push_size _ rfl
  unfold collect
  refine wpAny_bind (wpAny_runValue (codeAny_builtin entry_proto_collect' (show wpAny _ _ (do again (.builtin "list.__iadd__" ⟨[← newList [], .ref l], []⟩)) _ _ s from
    wpAny_bind (wpAny_newList (wpAny_pure ⟨Code.quiet_builtin _ (by decide +kernel), codeAny_builtin entry_list_iadd' (show wpAny _ _ (Builtin.List.listExtendWith (.ref s.heap.objs.size) (.ref l) (.ref s.heap.objs.size)) _ _ { s with heap := s.heap.push (seqObj "list" #[] 0) } from ?_)⟩)))))
  unfold Builtin.List.listExtendWith
  refine wpAny_bind (wpAny_typeOf (T := "tuple") ⟨o, later, g2⟩ ?_)
  rw [if_pos (by simp)]
  refine wpAny_bind (listItems_at later g3 (wpAny_bind (listItems_at own rfl ?_)))
  rw [if_neg (by simp)]
  refine wpAny_bind (listUpdate_at own rfl (wpAny_pure ?_) (Nat.zero_le _) (by simp only [Array.size_append, List.size_toArray, List.length_nil]; omega))
  refine wpAny_bind (m := load _) (wpAny_load (get?_update_seq own _) ?_)
  show wpAny _ _ (pure ((#[] : Array Value) ++ vs.toArray).toList) Q E _
  rw [show ((#[] : Array Value) ++ vs.toArray).toList = vs by simp]
  exact wpAny_pure fin
end
theorem each_ints : ∀ {L : List Nat} {us : List Value}, Vals (intsL L) us → PySem.W.EachIs (fun v (n : Nat) => ∃ t, v = Value.int (n : Int) t) us L
  | [], _, r => by cases r; exact .nil
  | n :: L, _, r => by
    unfold intsL at r
    rw [List.map_cons] at r
    cases r with
    | cons r1 r2 =>
      obtain ⟨t, rfl⟩ := r1
      exact .cons ⟨t, rfl⟩ (each_ints r2)
theorem vals_each : ∀ {us : List Value} {L : List Nat}, PySem.W.EachIs (fun v (n : Nat) => ∃ t, v = Value.int (n : Int) t) us L → Vals (intsL L) us
  | _, _, .nil => .nil
  | _, _, .cons ⟨t, h⟩ r => .cons ⟨t, h⟩ (vals_each r)
section
variable {X : Cx}
theorem cr_sortedIT (hu : X.A.units + 64 < cLine) : CallR X (.builtin "sorted") (rSortedIT X.K) := by
  intro pins s σ H xs us Q I r h
  obtain ⟨a, L, rfl, ha, q⟩ := h
  obtain ⟨u, rfl, rx⟩ := vals1 r
  cases rx
  obtain ⟨its, rv, tp, hz⟩ := I.tuple ha
  have le := rv.length
  refine Calls.call_function_entry PyProof.Rows.kind_sorted PyProof.Rows.plain_sorted PyProof.Rows.entry_sorted (PyProof.Rows.args_sorted1 _) ?_
  unfold Builtin.«sorted»
  refine wpAny_bind (m := checkCount "sorted" 1 1 _) (wpAny_pure (wpAny_bind (collect_tupI tp (by omega) (wpAny_bind (wpAny_newList ?_ (by omega))))))
  generalize hg : (s.heap.push (seqObj "list" #[] 0)).update s.heap.objs.size (Obj.mapSeq (· ++ its.toArray)) = g
  have kg : ∀ b o, s.heap.get? b = some o → g.get? b = some o := fun b o e => by
    rw [← hg]
    exact ((Heap.SameBut.update _ _ _).2 b (Nat.ne_of_lt (Heap.lt_size e))).trans (Heap.get?_push_of_some _ e)
  have zg : g.objs.size = s.heap.objs.size + 1 := by rw [← hg, Heap.size_update, size_push']
  show wpAny _ _ _ _ _ { s with heap := g.push (seqObj "list" its.toArray 0) }
  have hoL : (g.push (seqObj "list" its.toArray 0)).get? g.objs.size = some (seqObj "list" its.toArray 0) := Heap.get?_push_size _ rfl
  have ee := each_ints rv
  have lL : L.length = its.length := by
    unfold intsL at le
    rw [List.length_map] at le
    exact le
  refine wpAny_bind (wpAny_holding (PySem.W.list_sort_data (s := { s with heap := g.push (seqObj "list" its.toArray 0) }) (R := fun v (n : Nat) => ∃ t, v = Value.int (n : Int) t) (enc := fun n : Nat => .int (n : Int)) (bs := L) (vs := its)
    hoL ee (ee.mono fun v n ⟨t, e⟩ => ⟨[], by rw [e]; exact .int _ _, fun z => nomatch z⟩) (fun d hd d' hd' => ?_) (.inr fun d hd => ?_) (by omega) (fun n _ => by show X.A.units + 1 + 1 + 0 < cLine; omega) fun out hl eo => ?_))
  · obtain ⟨n, _, rfl⟩ := List.mem_map.mp hd
    obtain ⟨n', _, rfl⟩ := List.mem_map.mp hd'
    simp [PySem.W.alike]
  · obtain ⟨n, _, rfl⟩ := List.mem_map.mp hd
    exact ⟨fun z => (nomatch z), fun _ z => (nomatch z)⟩
  · have es : L.mergeSort (PySem.W.dataLe false fun n : Nat => .int (n : Int)) = sortN L := by
      unfold sortN
      rw [PySem.W.dataLe_int]
      congr 1
      funext a b
      exact decide_eq_decide.mpr Int.ofNat_le
    rw [es] at eo
    obtain ⟨c, hc⟩ := PyProof.Rows.sortedHeap_at (vs := its) (out := out.toArray) hoL
    have hn : H g.objs.size = none := I.hok.fresh (by omega)
    refine wpAny_pure ⟨_, rfl, .ref g.objs.size, upd H g.objs.size (.lst (intsL (sortN L))), I.laid (t' := s.toks) (fun b u e => ?_) (by omega)
      (show ObjOk X.prog X.w _ _ _ (.lst (intsL (sortN L))) from ⟨?_, out, c, vals_each eo, hc⟩), rfl, q _ hn⟩
    · have hb : b < g.objs.size := Nat.lt_of_lt_of_le (Heap.lt_size e) (show s.heap.objs.size ≤ g.objs.size by omega)
      rw [PyProof.Rows.sortedHeap_old (Nat.ne_of_lt hb) (by rw [size_push']; exact Nat.lt_succ_of_lt hb)]
      exact Heap.get?_push_of_some _ (kg b u e)
    · unfold intsL
      rw [List.length_map, (sortN_perm L).length_eq]
      omega
end
end Ah
end
section
set_option Elab.async false
set_option linter.all false
set_option maxRecDepth 100000
set_option maxHeartbeats 4000000
namespace Ah
open PySem PySem.Spec PyProof.Rows L2
/-! ### the search in the heap -/
structure SO where
  so : Addr
  C : Addr
  dx : Addr
  o : RObj
  fd : Addr
  ll : Addr
  ls : List Addr
  r0 : Nat
def iV : Option Nat → V
  | none => .non
  | some i => .int i
def PsAt (K : PySem.W.Frag) (H : Hp) (v : V) (p : Ps) : Prop := ∃ q v1, v = .ref q ∧ H q = some (.tup [v1, .int p.m, iV p.i]) ∧ SayAt K H v1 p.s
def PartAt (H : Hp) (v : V) (p : Ps) : Prop := ∃ q, v = .ref q ∧ H q = some (.tup [.int p.m, iV p.i])
def LevAt (K : PySem.W.Frag) (H : Hp) (a : Addr) (ps : List Ps) : Prop := ∃ vs, H a = some (.lst vs) ∧ Paired (PsAt K H) vs ps
def PartsL (H : Hp) (a : Addr) (ps : List Ps) : Prop := ∃ vs, H a = some (.lst vs) ∧ Paired (PartAt H) vs ps
theorem PsAt.tk {K : PySem.W.Frag} {H H' : Hp} {v : V} {p : Ps} (k : TK H H') (h : PsAt K H v p) : PsAt K H' v p :=
  let ⟨q, v1, e, h1, h2⟩ := h; ⟨q, v1, e, k.tup _ _ h1, h2.tk k⟩
theorem PartAt.tk {H H' : Hp} {v : V} {p : Ps} (k : TK H H') (h : PartAt H v p) : PartAt H' v p :=
  let ⟨q, e, h1⟩ := h; ⟨q, e, k.tup _ _ h1⟩
def ofS (log : List Ps) (s : Say) : List Ps := log.filter fun e => decide (e.s = s)
structure SearchAt (K : PySem.W.Frag) (P : Program) (w : World) (B H : Hp) (x : SO) (rws : List Rw) (names : List Str) (esR : List Ent) (log : List Ps) (lev : List (List Ps)) (esF : List Ent) : Prop where
  ob : H x.so = some (.ins x.C x.dx [("rules", .ref x.o.ro), ("found", .ref x.fd), ("levels", .ref x.ll)])
  R : RulesAt K P w H x.o rws names esR
  fd : H x.fd = some (DicO P w x.fd esF)
  ll : H x.ll = some (.lst (x.ls.map V.ref))
  lv : Paired (LevAt K H) x.ls lev
  fe : ∀ e ∈ esF, ∃ s fl, e.1 = keyW s.ws ∧ SqT K H e.2.1 (s.ws.map V.str) ∧ e.2.2 = .ref fl ∧ PartsL H fl (ofS log s)
  fc : ∀ e ∈ log, HasE esF e.s
  er : esR.length ≤ x.r0 + log.length
  r1 : x.r0 ≤ 100000
  ef : esF.length ≤ log.length
  d1 : x.ls.Nodup
  d2 : x.fd ≠ x.o.kd
  dk : (esF.map (·.1)).Nodup
  d3 : (esF.map (·.2.2)).Nodup
  d4 : ∀ a ∈ x.ls, a ≠ x.ll ∧ a ≠ x.o.rl ∧ a ≠ x.o.na ∧ (∀ e ∈ esR, e.2.2 ≠ .ref a) ∧ (∀ e ∈ esF, e.2.2 ≠ .ref a)
  d5 : ∀ e ∈ esF, e.2.2 ≠ .ref x.ll ∧ e.2.2 ≠ .ref x.o.rl ∧ e.2.2 ≠ .ref x.o.na ∧ ∀ e' ∈ esR, e'.2.2 ≠ e.2.2
  kb : Kept [] B H
  nf : B x.fd = none
  nk : B x.o.kd = none
  nl : ∀ a ∈ x.ls, B a = none
  ne : ∀ e ∈ esF, ∀ l, e.2.2 = .ref l → B l = none
structure ClsS (K : PySem.W.Frag) (C : Addr) : Prop where
  c : Cls K C
  n1 : NoAttr K C "rules"
  n2 : NoAttr K C "found"
  n3 : NoAttr K C "levels"
section
variable {K : PySem.W.Frag} {P : Program} {w : World} {B H H' : Hp} {x : SO} {rws : List Rw} {names : List Str} {esR esF : List Ent} {log : List Ps} {lev : List (List Ps)}
theorem LevAt.kept (k : Kept [] H H') {a : Addr} {ps : List Ps} (h : LevAt K H a ps) : LevAt K H' a ps :=
  let ⟨vs, h1, h2⟩ := h; ⟨vs, k _ _ h1 (by simp), Paired.mapP h2 fun _ _ q => q.tk (.of k)⟩
theorem PartsL.kept (k : Kept [] H H') {a : Addr} {ps : List Ps} (h : PartsL H a ps) : PartsL H' a ps :=
  let ⟨vs, h1, h2⟩ := h; ⟨vs, k _ _ h1 (by simp), Paired.mapP h2 fun _ _ q => q.tk (.of k)⟩
theorem SearchAt.kept (k : Kept [] H H') (S : SearchAt K P w B H x rws names esR log lev esF) : SearchAt K P w B H' x rws names esR log lev esF :=
  { S with
    ob := k _ _ S.ob (by simp)
    R := S.R.kept k
    fd := k _ _ S.fd (by simp)
    ll := k _ _ S.ll (by simp)
    lv := Paired.mapP S.lv fun _ _ h => h.kept k
    fe := fun e he => let ⟨s, fl, h1, h2, h3, h4⟩ := S.fe e he; ⟨s, fl, h1, sqT_tk (.of k) h2, h3, h4.kept k⟩
    kb := S.kb.trans k }
theorem SearchAt.keys (S : SearchAt K P w B H x rws names esR log lev esF) : KeysIn K H esF := fun e he => by
  obtain ⟨s, fl, h1, h2, _⟩ := S.fe e he
  rw [h1, keyW_kV]
  exact h2
/-- what is found for a saying -/
theorem SearchAt.get (S : SearchAt K P w B H x rws names esR log lev esF) (s : Say) {p : Addr} (np : H p = none) : ∃ a, (valE esF (keyW s.ws)).getD (.ref p) = .ref a ∧ PartsL (L2.upd H p (.lst [])) a (ofS log s) ∧ a ∉ x.ls := by
  cases hv : valE esF (keyW s.ws) with
  | none =>
    refine ⟨p, rfl, ⟨[], upd_same, ?_⟩, fun hp => ?_⟩
    · have : ofS log s = [] := by
        unfold ofS
        rw [List.filter_eq_nil_iff]
        intro e he h
        have h1 := S.fc e he
        rw [of_decide_eq_true h, hasE_val, hv] at h1
        cases h1
      rw [this]
      exact .nil
    · obtain ⟨b, _, vs, h2, _⟩ := paired_left S.lv hp
      rw [np] at h2
      cases h2
  | some v =>
    obtain ⟨e, he, ek, ev⟩ := valE_at hv
    obtain ⟨s', fl, h1, h2, h3, h4⟩ := S.fe e he
    obtain rfl : v = V.ref fl := ev.symm.trans h3
    rw [Say.inj (keyW_inj (h1.symm.trans ek))] at h4
    exact ⟨fl, rfl, h4.kept ((Kept.refl H).upd np), fun hp => (S.d4 fl hp).2.2.2.2 e he h3⟩
end
/-! ### has_part -/
theorem if_eq {b c : Bool} {X Y : Prop} (e : b = c) (h : if c = true then X else Y) : if b = true then X else Y := e ▸ h
theorem b_and (a b : Nat) : Builtin.bitAnd (a : Int) (b : Int) = ((a &&& b : Nat) : Int) := by
  unfold Builtin.bitAnd
  rw [decide_eq_true (Int.natCast_nonneg a), decide_eq_true (Int.natCast_nonneg b)]
  rfl
theorem scHas : FnScope ["self", "saying", "mask", "part", "_"] ["self", "saying", "mask"] (defScope sSearchHasPart) := ⟨rfl, rfl, rfl, by decide +kernel, rfl, by decide +kernel, by decide +kernel⟩
def spHas (K : PySem.W.Frag) (P : Program) (w : World) (C : Addr) : Sp := fun vs H Q _ => ∃ (B : Hp) (x : SO) (sv : V) (rws : List Rw) (names : List Str) (esR : List Ent) (log : List Ps) (lev : List (List Ps)) (esF : List Ent) (s : Say) (m : Nat), vs = [.ref x.so, sv, .int m] ∧ x.C = C ∧
  SearchAt K P w B H x rws names esR log lev esF ∧ SayAt K H sv s ∧ ∀ H', Kept [] H H' → Q (.bl (hasB log s m)) H'
theorem hasB_of (log : List Ps) (s : Say) (m : Nat) : hasB log s m = (ofS log s).any fun e => decide (sub e.m m) := by
  unfold hasB ofS
  rw [List.any_filter]
section
variable {P : Program} {w : World} {K : PySem.W.Frag} {mg : Str → Option Value} {base : Heap} {f C : Addr} {fd : FuncData}
theorem ok_has (F : MethP K "has_part" "Search.has_part" sSearchHasPart f fd) (CS : ClsS K C) : FnOk P w K mg base CX0 1 f fd ["self", "saying", "mask"] (spHas K P w C) := by
  refine F.ok scHas (fun vs H Q E h => ?_) (fun cdv A outer s H vs Q E hr h => ?_)
  · obtain ⟨B, x, sv, rws, names, esR, log, lev, esF, sy, m, rfl, _⟩ := h
    rfl
  · obtain ⟨B, x, sv, rws, names, esR, log, lev, esF, sy, m, rfl, rfl, S, hsay, k⟩ := h
    have hu : A.units + 3 + 1 < cLine := by have := hr.units; exact (by have h2 : (A.deeper (envOfC "Search.has_part" (defScope sSearchHasPart) s.heap.objs.size f cdv)).units = A.units + 3 := rfl; omega)
    refine ⟨_, PSs.nox (pss_cons (ps_for PassesOwn.never rfl (pi_list (pe_dicM PySem.F.slot_dict_get PySem.F.type_dict_get (mt_dicGet hu) (pe_fld (pv 0) rfl) (pa_cons (pv 1) (pa_cons (pe_lst pa_nil) pa_nil)))) (pg_tup rfl (pgs_cons (pg_name (i := 3) scHas.nd rfl (Or.inl rfl)) (pgs_cons (pg_name (i := 4) scHas.nd rfl (Or.inl rfl)) pgs_nil)))
      (pss_one (ps_if (pt_cmpR op_eq (pe_op op_and (pv 3) (pv 2)) (pv 3) (nomark _)) (pss_one (ps_ret pe_bl)) pss_nil)))
      (pss_one (ps_ret pe_bl))), ?_⟩
    obtain ⟨sa, rfl, hsa⟩ := id hsay
    refine ⟨_, rfl, _, _, _, _, _, rfl, S.ob, CS.c, CS.n2, rfl, ⟨x.fd, esF, rfl, .inl S.fd⟩, _, rfl, Nat.zero_le _, fun ln nl => ?_⟩
    have kl : Kept [] H (L2.upd H ln (.lst [])) := (Kept.refl H).upd nl
    obtain ⟨a, ea, ⟨vs, hvs, rvs⟩, _⟩ := S.get sy nl
    have lvs := rvs.length
    refine ⟨x.fd, sa, esF, keyW sy.ws, .ref ln, rfl, rfl, .inl (kl _ _ S.fd (by simp)), (S.kept kl).keys, (by rw [keyW_kV]; exact sqT_tk (.of kl) hsa), ?_⟩
    rw [ea]
    refine ⟨a, rfl, ⟨vs, .inl (.of hvs)⟩, for_it (walk_list (K := K) (a := a) (xs := vs))
      (fun i σ Ha => (∃ v3 v4, σ = [some (.ref x.so), some (.ref sa), some (.int m), v3, v4]) ∧ Kept [] (L2.upd H ln (.lst [])) Ha ∧ ((ofS log sy).take i).any (fun e => decide (sub e.m m)) = false)
      ⟨⟨_, _, rfl⟩, Kept.refl _, rfl⟩ (fun i σ Ha _ pv => .inl (.of (pv.2.1 _ _ hvs (by simp)))) ?_ ?_⟩
    · rintro i y σ Ha0 Ha hi ⟨⟨v3, v4, rfl⟩, kk, hn⟩ ⟨rfl, ey⟩
      obtain ⟨e, he, q, rfl, hq⟩ := paired_at rvs ey
      refine ⟨q, _, rfl, .inl (.of (kk _ _ hq (by simp))), rfl, _, _, rfl, _, _, rfl, rfl, ?_⟩
      refine ⟨_, rfl, _, rfl, _, _, rfl, rfl, _, rfl, rfl, _, rfl, ?_⟩
      have ed : decide (V.int (Builtin.bitAnd (e.m : Int) (m : Int)) = V.int (e.m : Int)) = decide (sub e.m m) := by
        rw [b_and]
        by_cases h : sub e.m m
        · rw [decide_eq_true h, decide_eq_true]
          rw [show e.m &&& m = e.m from h]
        · rw [decide_eq_false h, decide_eq_false]
          intro z
          exact h (Int.ofNat.inj (V.int.inj z))
      refine if_eq ed (if_dec (fun h => ?_) (fun h => ?_))
      · show Q (V.bl true) Ha
        have := k Ha (kl.trans kk)
        rw [hasB_of, List.any_eq_true.mpr ⟨e, List.mem_of_getElem? he, decide_eq_true h⟩] at this
        exact this
      · refine ⟨⟨_, _, rfl⟩, kk, ?_⟩
        rw [List.take_add_one, he, List.any_append, hn]
        simp [h]
    · rintro σ Ha ⟨⟨v3, v4, rfl⟩, kk, hn⟩
      rw [lvs, List.take_of_length_le (Nat.le_refl _)] at hn
      show Q (V.bl false) Ha
      have := k Ha (kl.trans kk)
      rw [hasB_of, hn] at this
      exact this
end
end Ah
end
section
set_option Elab.async false
set_option linter.all false
set_option maxRecDepth 100000
set_option maxHeartbeats 4000000
namespace Ah
open PySem PySem.Spec PyProof.Rows L2
theorem paired_set {α β : Type} {F G : α → β → Prop} {a : α} {y' : β} : ∀ {l : List α} {m : List β} {k : Nat}, Paired F l m → l.Nodup → l[k]? = some a → (∀ b y, b ∈ l → b ≠ a → F b y → G b y) → G a y' → Paired G l (m.set k y')
  | _, _, k, .nil, _, h, _, _ => by cases h
  | b :: l, y :: m, 0, .cons h t, nd, e, k1, k2 => by
    have e' : b = a := Option.some.inj e
    subst e'
    obtain ⟨n1, n2⟩ := List.nodup_cons.mp nd
    refine .cons k2 (paired_mem t fun c z hc _ hf => k1 c z (List.mem_cons_of_mem _ hc) (fun q => n1 (q ▸ hc)) hf)
  | b :: l, y :: m, k + 1, .cons h t, nd, e, k1, k2 => by
    obtain ⟨n1, n2⟩ := List.nodup_cons.mp nd
    have e' : l[k]? = some a := e
    have ha : a ∈ l := List.mem_of_getElem? e'
    exact .cons (k1 b y (List.mem_cons_self ..) (fun q => n1 (q ▸ ha)) h) (paired_set t n2 e' (fun c z hc => k1 c z (List.mem_cons_of_mem _ hc)) k2)
theorem lv_get {lev : List (List Ps)} {k : Nat} {ps : List Ps} (h : lev[k]? = some ps) : lv lev k = ps := by
  unfold lv
  rw [List.getD_eq_getElem?_getD, h]
  rfl
section
variable {K : PySem.W.Frag} {P : Program} {w : World} {B H H' : Hp} {x : SO} {rws : List Rw} {names : List Str} {esR esF : List Ent} {log : List Ps} {lev : List (List Ps)}
theorem searchAt_append (S : SearchAt K P w B H x rws names esR log lev esF) {k : Nat} {a : Addr} (ha : x.ls[k]? = some a) {vs : List V} (hvs : H a = some (.lst vs)) {q : Addr} {v1 : V} {p : Ps} (hq : H q = some (.tup [v1, .int p.m, iV p.i])) (hs : SayAt K H v1 p.s) :
    SearchAt K P w B (L2.upd H a (.lst (vs ++ [.ref q]))) x rws names esR log (lev.set k (lv lev k ++ [p])) esF := by
  have ham := List.mem_of_getElem? ha
  obtain ⟨n1, n2, n3, n4, n5⟩ := S.d4 a ham
  have tk : TK H (L2.upd H a (.lst (vs ++ [.ref q]))) := (TK.refl H).updL hvs
  refine { S with
    ob := by rw [upd_ne (ne_of S.ob hvs (fun z => nomatch z))]; exact S.ob
    R := S.R.updL hvs (Ne.symm n2) (Ne.symm n3) n4
    fd := by rw [upd_ne (ne_of S.fd hvs (fun z => nomatch z))]; exact S.fd
    ll := by rw [upd_ne (Ne.symm n1)]; exact S.ll
    lv := ?_
    fe := fun e he => ?_
    kb := kD_far (S.nl a ham) S.kb }
  · obtain ⟨ps, e1, vs0, e2, e3⟩ := paired_at S.lv ha
    rw [lv_get e1]
    rw [hvs] at e2
    cases e2
    refine paired_set S.lv S.d1 ha (fun b y hb hne ⟨us, h1, h2⟩ => ⟨us, by rw [upd_ne hne]; exact h1, Paired.mapP h2 fun _ _ z => z.tk tk⟩) ⟨_, upd_same, paired_app (Paired.mapP e3 fun _ _ z => z.tk tk) (.cons ⟨q, v1, rfl, tk.tup _ _ hq, hs.tk tk⟩ .nil)⟩
  · obtain ⟨s, fl, h1, h2, h3, us, h4, h5⟩ := S.fe e he
    exact ⟨s, fl, h1, sqT_tk tk h2, h3, us, by rw [upd_ne (fun z => n5 e he (by rw [h3, z]))]; exact h4, Paired.mapP h5 fun _ _ z => z.tk tk⟩
end
/-! ### put -/
theorem scPut : FnScope ["self", "saying", "mask", "last"] ["self", "saying", "mask", "last"] (defScope sSearchPut) := ⟨rfl, rfl, rfl, by decide +kernel, rfl, by decide +kernel, by decide +kernel⟩
def spPut (K : PySem.W.Frag) (P : Program) (w : World) (C : Addr) : Sp := fun vs H Q _ => ∃ (B : Hp) (x : SO) (sv : V) (rws : List Rw) (names : List Str) (esR : List Ent) (log : List Ps) (lev : List (List Ps)) (esF : List Ent) (p : Ps), vs = [.ref x.so, sv, .int p.m, iV p.i] ∧ x.C = C ∧
  SearchAt K P w B H x rws names esR log lev esF ∧ SayAt K H sv p.s ∧ p.m < 1024 ∧ pc p.m < lev.length ∧ tot lev < sizeLine ∧
  ∀ H', Kept x.ls H H' → TK H H' → SearchAt K P w B H' x rws names esR log (putS log lev p) esF → Q .non H'
section
variable {P : Program} {w : World} {K : PySem.W.Frag} {mg : Str → Option Value} {base : Heap} {f fH fZ C : Addr} {fd fdH fdZ : FuncData}
theorem ok_put (F : MethP K "put" "Search.put" sSearchPut f fd) (CS : ClsS K C) (mH : Meth K C "has_part" fH) (FH : FnOk P w K mg base CX0 1 fH fdH ["self", "saying", "mask"] (spHas K P w C)) (bH : Binds K fdH ["self", "saying", "mask"] [])
    (c_size_of : Own P w K mg base "size_of" 1 fZ fdZ ["mask"] spSize) : FnOk P w K mg base CX0 2 f fd ["self", "saying", "mask", "last"] (spPut K P w C) := by
  refine F.ok scPut (fun vs H Q E h => ?_) (fun cdv A outer s H vs Q E hr h => ?_)
  · obtain ⟨B, x, sv, rws, names, esR, log, lev, esF, p, rfl, _⟩ := h
    rfl
  · obtain ⟨B, x, sv, rws, names, esR, log, lev, esF, p, rfl, rfl, S, hsay, hm, hpc, ht, k⟩ := h
    refine ⟨_, PSs.nox (pss_one (ps_if (pt_not (pt_val (pe_meth (pv 0) CS.c mH FH hr bH .nil pass0 (pa_cons (pv 1) (pa_cons (pv 2) pa_nil))))) (pss_one (ps_expr (pe_bm PySem.F.plainAttrs_list PySem.F.slot_list_append PySem.F.type_list_append mt_append
      (pe_ix ix_list (pe_fld (pv 0) rfl) (pe_call c_size_of.ok hr (by rfl) c_size_of.g c_size_of.kp c_size_of.b .nil pass0 (pa_cons (pv 2) pa_nil)) (fun _ _ => rfl)) (pa_cons (pe_tup (pa_cons (pv 1) (pa_cons (pv 2) (pa_cons (pv 3) pa_nil)))) pa_nil)))) pss_nil)), ?_⟩
    refine ⟨_, rfl, x.so, x.dx, _, rfl, S.ob, rfl, _, rfl, _, rfl, B, x, sv, rws, names, esR, log, lev, esF, p.s, p.m, rfl, rfl, S, hsay, fun H1 k1 => ?_⟩
    have S1 := S.kept k1
    cases hb : hasB log p.s p.m with
    | true =>
      refine ⟨true, rfl, iteF ?_⟩
      refine k H1 (fun b o e _ => k1 b o e (by simp)) (.of k1) ?_
      unfold putS
      rw [hb]
      exact S1
    | false =>
      refine ⟨false, rfl, iteT ?_⟩
      have hls : x.ls.length = lev.length := S.lv.length
      obtain ⟨a, ha⟩ : ∃ a, x.ls[pc p.m]? = some a := ⟨_, List.getElem?_eq_getElem (by omega)⟩
      obtain ⟨ps, e1, vs, hvs, rvs⟩ := paired_at S1.lv ha
      refine ⟨_, rfl, _, _, _, _, _, rfl, S1.ob, CS.c, CS.n3, rfl, _, rfl, p.m, rfl, hm, ?_⟩
      refine ⟨x.ll, _, ((pc p.m : Nat) : Int), V.ref a, rfl, rfl, .inl (.of S1.ll), at_of (j := pc p.m) rfl (by rw [List.getElem?_map, ha]; rfl), ?_⟩
      refine ⟨.inl ⟨rfl, vs, .inl (.of hvs)⟩, _, rfl, _, rfl, _, rfl, (by show 3 ≤ sizeLine; decide), fun T3 n3 => ?_⟩
      have k3 : Kept [] H1 (L2.upd H1 T3 (.tup [sv, V.int (p.m : Int), iV p.i])) := (Kept.refl H1).upd n3
      have S3 := S1.kept k3
      have aT : a ≠ T3 := ne_of_none hvs n3
      have lz : vs.length < sizeLine := by
        have h1 := rvs.length
        have h2 := lv_tot (lev := lev) (k := pc p.m)
        rw [lv_get e1] at h2
        omega
      have tk : TK H (L2.upd H1 T3 (.tup [sv, V.int (p.m : Int), iV p.i])) := (TK.of k1).trans (.of k3)
      have hv3 : (L2.upd H1 T3 (.tup [sv, V.int (p.m : Int), iV p.i])) a = some (.lst vs) := by rw [upd_ne aT]; exact hvs
      have S4 := searchAt_append S3 ha hv3 (q := T3) (v1 := sv) (p := p) upd_same (hsay.tk tk)
      refine ⟨a, vs, _, rfl, rfl, hv3, lz, ?_⟩
      refine k _ (fun b o e hb => ?_) (tk.updL hv3) ?_
      · rw [upd_ne (show b ≠ a from fun z => hb (by rw [z]; exact List.mem_of_getElem? ha))]
        exact k3 _ _ (k1 b o e (by simp)) (by simp)
      · unfold putS
        rw [hb]
        exact S4
end
end Ah
end
section
set_option Elab.async false
set_option linter.all false
set_option maxRecDepth 100000
set_option maxHeartbeats 4000000
namespace Ah
open PySem PySem.Spec PyProof.Rows L2
theorem b_not (a : Nat) : Builtin.bitNot (Builtin.bitNot (a : Int)) = (a : Int) := by
  unfold Builtin.bitNot
  omega
theorem b_or (a b : Nat) : Builtin.bitOr (a : Int) (b : Int) = ((a ||| b : Nat) : Int) := by
  unfold Builtin.bitOr Builtin.bitAnd
  have h : ∀ c : Nat, ¬ 0 ≤ Builtin.bitNot (c : Int) := fun c => by
    unfold Builtin.bitNot
    omega
  rw [decide_eq_false (h a), decide_eq_false (h b)]
  show Builtin.bitNot (Builtin.bitNot _) = _
  rw [b_not a, b_not b, b_not]
  rfl
theorem iV_ne (i : Option Nat) (n : Nat) : scal (iV i) (.int n) = true ∧ decide (iV i = V.int (n : Int)) = decide (i = some n) := by
  cases i with
  | none => exact ⟨rfl, by rw [decide_eq_false (fun z => nomatch z), decide_eq_false (fun z => nomatch z)]⟩
  | some j =>
    refine ⟨rfl, ?_⟩
    by_cases h : j = n
    · subst h
      exact (decide_eq_true (p := V.int (j : Int) = V.int (j : Int)) rfl).trans (decide_eq_true rfl).symm
    · exact (decide_eq_false (p := V.int (j : Int) = V.int (n : Int)) (fun z => h (Int.ofNat.inj (V.int.inj z)))).trans (decide_eq_false (fun z => h (Option.some.inj z))).symm
theorem putsS_snoc {log cs : List Ps} {lev : List (List Ps)} {c : Ps} : putsS log lev (cs ++ [c]) = putS log (putsS log lev cs) c := by
  unfold putsS
  rw [List.foldl_append]
  rfl
theorem putsS_app {log cs ds : List Ps} {lev : List (List Ps)} : putsS log lev (cs ++ ds) = putsS log (putsS log lev cs) ds := by
  unfold putsS
  rw [List.foldl_append]
theorem Kept.weak {M : List Addr} {H H' : Hp} (k : Kept [] H H') : Kept M H H' := fun b o e _ => k b o e (by simp)
theorem scJ2 : FnScope ["self", "number", "mask", "last", "second", "result", "other", "_"] ["self", "number", "mask", "last", "second", "result"] (defScope sSearchJoinSecond) := ⟨rfl, rfl, rfl, by decide +kernel, rfl, by decide +kernel, by decide +kernel⟩
def j2C (log : List Ps) (n m : Nat) (i : Option Nat) (s2 z : Say) : List Ps := if i = some n then [] else (ofS log s2).map fun o => ⟨z, m ||| o.m, some n⟩
def j1C (log : List Ps) (n m : Nat) (s1 z : Say) : List Ps := ((ofS log s1).filter fun o => !decide (o.i = some n)).map fun o => ⟨z, m ||| o.m, some n⟩
def spJ2 (K : PySem.W.Frag) (P : Program) (w : World) (C : Addr) : Sp := fun vs H Q _ => ∃ (B : Hp) (x : SO) (v2 vz : V) (rws : List Rw) (names : List Str) (esR : List Ent) (log : List Ps) (lev : List (List Ps)) (esF : List Ent) (n m : Nat) (i : Option Nat) (s2 z : Say), vs = [.ref x.so, .int n, .int m, iV i, v2, vz] ∧ x.C = C ∧
  SearchAt K P w B H x rws names esR log lev esF ∧ SayAt K H v2 s2 ∧ SayAt K H vz z ∧ (∀ o ∈ log, m ||| o.m < 1024 ∧ pc (m ||| o.m) < lev.length) ∧ tot lev + (ofS log s2).length < sizeLine ∧
  ∀ H', Kept x.ls H H' → TK H H' → SearchAt K P w B H' x rws names esR log (putsS log lev (j2C log n m i s2 z)) esF → Q .non H'
section
variable {P : Program} {w : World} {K : PySem.W.Frag} {mg : Str → Option Value} {base : Heap} {f fP C : Addr} {fd fdP : FuncData}
theorem ok_j2 (F : MethP K "join_second" "Search.join_second" sSearchJoinSecond f fd) (CS : ClsS K C) (mP : Meth K C "put" fP) (FP : FnOk P w K mg base CX0 2 fP fdP ["self", "saying", "mask", "last"] (spPut K P w C)) (bP : Binds K fdP ["self", "saying", "mask", "last"] []) :
    FnOk P w K mg base CX0 3 f fd ["self", "number", "mask", "last", "second", "result"] (spJ2 K P w C) := by
  refine F.ok scJ2 (fun vs H Q E h => ?_) (fun cdv A outer s H vs Q E hr h => ?_)
  · obtain ⟨B, x, v2, vz, rws, names, esR, log, lev, esF, n, m, i, s2, z, rfl, _⟩ := h
    rfl
  · obtain ⟨B, x, v2, vz, rws, names, esR, log, lev, esF, n, m, i, s2, z, rfl, rfl, S, hs2, hz, hm, ht, k⟩ := h
    have hu : A.units + 3 + 1 < cLine := by have := hr.units; exact (by have h2 : (A.deeper (envOfC "Search.join_second" (defScope sSearchJoinSecond) s.heap.objs.size f cdv)).units = A.units + 3 := rfl; omega)
    refine ⟨_, PSs.nox (pss_one (ps_if (pt_cmpR op_ne (pv 3) (pv 1) (nomark _)) (pss_one (ps_for PassesOwn.never rfl (pi_list (pe_dicM PySem.F.slot_dict_get PySem.F.type_dict_get (mt_dicGet hu) (pe_fld (pv 0) rfl) (pa_cons (pv 4) (pa_cons (pe_lst pa_nil) pa_nil)))) (pg_tup rfl (pgs_cons (pg_name (i := 6) scJ2.nd rfl (Or.inl rfl)) (pgs_cons (pg_name (i := 7) scJ2.nd rfl (Or.inl rfl)) pgs_nil)))
      (pss_one (ps_expr (pe_meth (pv 0) CS.c mP FP hr bP .nil pass0 (pa_cons (pv 5) (pa_cons (pe_op op_or (pv 2) (pv 6)) (pa_cons (pv 1) pa_nil)))))))) pss_nil)), ?_⟩
    obtain ⟨e1, e2⟩ := iV_ne i n
    refine ⟨_, rfl, _, rfl, e1, _, rfl, ?_⟩
    rw [e2]
    refine if_nd (fun hi => ?_) (fun hi => ?_)
    · obtain ⟨sa, rfl, hsa⟩ := id hs2
      refine ⟨_, rfl, _, _, _, _, _, rfl, S.ob, CS.c, CS.n2, rfl, ⟨x.fd, esF, rfl, .inl S.fd⟩, _, rfl, Nat.zero_le _, fun ln nl => ?_⟩
      have kl : Kept [] H (L2.upd H ln (.lst [])) := (Kept.refl H).upd nl
      obtain ⟨a, ea, ⟨vs, hvs, rvs⟩, an⟩ := S.get s2 nl
      have lvs := rvs.length
      have Sl := S.kept kl
      refine ⟨x.fd, sa, esF, keyW s2.ws, .ref ln, rfl, rfl, .inl Sl.fd, Sl.keys, (by rw [keyW_kV]; exact sqT_tk (.of kl) hsa), ?_⟩
      rw [ea]
      refine ⟨a, rfl, ⟨vs, .inl (.of hvs)⟩, for_it (walk_list (K := K) (a := a) (xs := vs))
        (fun j σ Ha => (∃ v6 v7, σ = [some (.ref x.so), some (.int n), some (.int m), some (iV i), some (.ref sa), some vz, v6, v7]) ∧ Kept x.ls (L2.upd H ln (.lst [])) Ha ∧ TK (L2.upd H ln (.lst [])) Ha ∧ SearchAt K P w B Ha x rws names esR log (putsS log lev (((ofS log s2).take j).map fun o => ⟨z, m ||| o.m, some n⟩)) esF)
        ⟨⟨_, _, rfl⟩, Kept.refl _, TK.refl _, Sl⟩ (fun i σ Ha _ pv => .inl (.of (pv.2.1 _ _ hvs an))) ?_ ?_⟩
      · rintro j y σ Ha0 Ha hj ⟨⟨v6, v7, rfl⟩, kk, tk, Sa⟩ ⟨rfl, ey⟩
        obtain ⟨e, he, q, rfl, hq⟩ := paired_at rvs ey
        have hem : e ∈ ofS log s2 := List.mem_of_getElem? he
        obtain ⟨hm1, hm2⟩ := hm e (List.mem_filter.mp hem).1
        have hcs : ∀ c ∈ ((ofS log s2).take j).map (fun o => (⟨z, m ||| o.m, some n⟩ : Ps)), pc c.m < lev.length := fun c hc => by
          obtain ⟨o, ho, rfl⟩ := List.mem_map.mp hc
          exact (hm o (List.mem_filter.mp (List.mem_of_mem_take ho)).1).2
        refine ⟨q, _, rfl, .inl (.of (tk.tup _ _ hq)), rfl, _, _, rfl, _, _, rfl, rfl, ?_⟩
        refine ⟨_, rfl, x.so, x.dx, _, rfl, Sa.ob, rfl, _, rfl, _, rfl, _, rfl, _, _, rfl, rfl, _, rfl, ?_⟩
        refine ⟨B, x, vz, rws, names, esR, log, _, esF, ⟨z, m ||| e.m, some n⟩, ?_, rfl, Sa, (hz.tk (.of kl)).tk tk, hm1, ?_, ?_, fun H' k' t' S' => ?_⟩
        · show [V.ref x.so, vz, V.int (Builtin.bitOr (m : Int) (e.m : Int)), V.int n] = _
          rw [b_or]
          rfl
        · rw [putsS_len]; exact hm2
        · have h1 := putsS_tot (log := log) hcs
          rw [List.length_map] at h1
          have h2 : ((ofS log s2).take j).length ≤ (ofS log s2).length := by rw [List.length_take]; omega
          omega
        · refine ⟨⟨_, _, rfl⟩, kk.trans k', tk.trans t', ?_⟩
          rw [List.take_add_one, he, List.map_append]
          show SearchAt K P w B H' x rws names esR log (putsS log lev (_ ++ [_])) esF
          rw [putsS_snoc]
          exact S'
      · rintro σ Ha ⟨⟨v6, v7, rfl⟩, kk, tk, Sa⟩
        rw [lvs, List.take_of_length_le (Nat.le_refl _)] at Sa
        refine k Ha (kl.weak.trans kk) ((TK.of kl).trans tk) ?_
        unfold j2C
        rw [if_neg hi]
        exact Sa
    · refine k H (Kept.refl _) (TK.refl _) ?_
      unfold j2C
      rw [if_pos hi]
      exact S
end
end Ah
end
section
set_option Elab.async false
set_option linter.all false
set_option maxRecDepth 100000
set_option maxHeartbeats 4000000
namespace Ah
open PySem PySem.Spec PyProof.Rows L2
theorem scJ1 : FnScope ["self", "number", "mask", "first", "result", "other", "last"] ["self", "number", "mask", "first", "result"] (defScope sSearchJoinFirst) := ⟨rfl, rfl, rfl, by decide +kernel, rfl, by decide +kernel, by decide +kernel⟩
def spJ1 (K : PySem.W.Frag) (P : Program) (w : World) (C : Addr) : Sp := fun vs H Q _ => ∃ (B : Hp) (x : SO) (v1 vz : V) (rws : List Rw) (names : List Str) (esR : List Ent) (log : List Ps) (lev : List (List Ps)) (esF : List Ent) (n m : Nat) (s1 z : Say), vs = [.ref x.so, .int n, .int m, v1, vz] ∧ x.C = C ∧
  SearchAt K P w B H x rws names esR log lev esF ∧ SayAt K H v1 s1 ∧ SayAt K H vz z ∧ (∀ o ∈ log, m ||| o.m < 1024 ∧ pc (m ||| o.m) < lev.length) ∧ tot lev + (ofS log s1).length < sizeLine ∧
  ∀ H', Kept x.ls H H' → TK H H' → SearchAt K P w B H' x rws names esR log (putsS log lev (j1C log n m s1 z)) esF → Q .non H'
section
variable {P : Program} {w : World} {K : PySem.W.Frag} {mg : Str → Option Value} {base : Heap} {f fP C : Addr} {fd fdP : FuncData}
theorem ok_j1 (F : MethP K "join_first" "Search.join_first" sSearchJoinFirst f fd) (CS : ClsS K C) (mP : Meth K C "put" fP) (FP : FnOk P w K mg base CX0 2 fP fdP ["self", "saying", "mask", "last"] (spPut K P w C)) (bP : Binds K fdP ["self", "saying", "mask", "last"] []) :
    FnOk P w K mg base CX0 3 f fd ["self", "number", "mask", "first", "result"] (spJ1 K P w C) := by
  refine F.ok scJ1 (fun vs H Q E h => ?_) (fun cdv A outer s H vs Q E hr h => ?_)
  · obtain ⟨B, x, v1, vz, rws, names, esR, log, lev, esF, n, m, s1, z, rfl, _⟩ := h
    rfl
  · obtain ⟨B, x, v1, vz, rws, names, esR, log, lev, esF, n, m, s1, z, rfl, rfl, S, hs1, hz, hm, ht, k⟩ := h
    have hu : A.units + 3 + 1 < cLine := by have := hr.units; exact (by have h2 : (A.deeper (envOfC "Search.join_first" (defScope sSearchJoinFirst) s.heap.objs.size f cdv)).units = A.units + 3 := rfl; omega)
    refine ⟨_, PSs.nox (pss_one (ps_for PassesOwn.never rfl (pi_list (pe_dicM PySem.F.slot_dict_get PySem.F.type_dict_get (mt_dicGet hu) (pe_fld (pv 0) rfl) (pa_cons (pv 3) (pa_cons (pe_lst pa_nil) pa_nil)))) (pg_tup rfl (pgs_cons (pg_name (i := 5) scJ1.nd rfl (Or.inl rfl)) (pgs_cons (pg_name (i := 6) scJ1.nd rfl (Or.inl rfl)) pgs_nil)))
      (pss_one (ps_if (pt_cmpR op_ne (pv 6) (pv 1) (nomark _)) (pss_one (ps_expr (pe_meth (pv 0) CS.c mP FP hr bP .nil pass0 (pa_cons (pv 4) (pa_cons (pe_op op_or (pv 2) (pv 5)) (pa_cons (pv 1) pa_nil)))))) pss_nil)))), ?_⟩
    obtain ⟨sa, rfl, hsa⟩ := id hs1
    refine ⟨_, rfl, _, _, _, _, _, rfl, S.ob, CS.c, CS.n2, rfl, ⟨x.fd, esF, rfl, .inl S.fd⟩, _, rfl, Nat.zero_le _, fun ln nl => ?_⟩
    have kl : Kept [] H (L2.upd H ln (.lst [])) := (Kept.refl H).upd nl
    obtain ⟨a, ea, ⟨vs, hvs, rvs⟩, an⟩ := S.get s1 nl
    have lvs := rvs.length
    have Sl := S.kept kl
    refine ⟨x.fd, sa, esF, keyW s1.ws, .ref ln, rfl, rfl, .inl Sl.fd, Sl.keys, (by rw [keyW_kV]; exact sqT_tk (.of kl) hsa), ?_⟩
    rw [ea]
    refine ⟨a, rfl, ⟨vs, .inl (.of hvs)⟩, for_it (walk_list (K := K) (a := a) (xs := vs))
      (fun j σ Ha => (∃ v5 v6, σ = [some (.ref x.so), some (.int n), some (.int m), some (.ref sa), some vz, v5, v6]) ∧ Kept x.ls (L2.upd H ln (.lst [])) Ha ∧ TK (L2.upd H ln (.lst [])) Ha ∧ SearchAt K P w B Ha x rws names esR log (putsS log lev ((((ofS log s1).take j).filter fun o => !decide (o.i = some n)).map fun o => ⟨z, m ||| o.m, some n⟩)) esF)
      ⟨⟨_, _, rfl⟩, Kept.refl _, TK.refl _, Sl⟩ (fun i σ Ha _ pv => .inl (.of (pv.2.1 _ _ hvs an))) ?_ ?_⟩
    · rintro j y σ Ha0 Ha hj ⟨⟨v5, v6, rfl⟩, kk, tk, Sa⟩ ⟨rfl, ey⟩
      obtain ⟨e, he, q, rfl, hq⟩ := paired_at rvs ey
      have hem : e ∈ ofS log s1 := List.mem_of_getElem? he
      obtain ⟨hm1, hm2⟩ := hm e (List.mem_filter.mp hem).1
      have hcs : ∀ c ∈ (((ofS log s1).take j).filter fun o => !decide (o.i = some n)).map (fun o => (⟨z, m ||| o.m, some n⟩ : Ps)), pc c.m < lev.length := fun c hc => by
        obtain ⟨o, ho, rfl⟩ := List.mem_map.mp hc
        exact (hm o (List.mem_filter.mp (List.mem_of_mem_take (List.mem_filter.mp ho).1)).1).2
      refine ⟨q, _, rfl, .inl (.of (tk.tup _ _ hq)), rfl, _, _, rfl, _, _, rfl, rfl, ?_⟩
      obtain ⟨e1, e2⟩ := iV_ne e.i n
      refine ⟨_, rfl, _, rfl, e1, _, rfl, ?_⟩
      rw [e2]
      refine if_nd (fun hi => ?_) (fun hi => ?_)
      · refine ⟨_, rfl, x.so, x.dx, _, rfl, Sa.ob, rfl, _, rfl, _, rfl, _, rfl, _, _, rfl, rfl, _, rfl, ?_⟩
        refine ⟨B, x, vz, rws, names, esR, log, _, esF, ⟨z, m ||| e.m, some n⟩, ?_, rfl, Sa, (hz.tk (.of kl)).tk tk, hm1, ?_, ?_, fun H' k' t' S' => ?_⟩
        · show [V.ref x.so, vz, V.int (Builtin.bitOr (m : Int) (e.m : Int)), V.int n] = _
          rw [b_or]
          rfl
        · rw [putsS_len]; exact hm2
        · have h1 := putsS_tot (log := log) hcs
          rw [List.length_map] at h1
          have h2 : ((ofS log s1).take j).length ≤ (ofS log s1).length := by rw [List.length_take]; omega
          have h3 := List.length_filter_le (fun o : Ps => !decide (o.i = some n)) ((ofS log s1).take j)
          omega
        · refine ⟨⟨_, _, rfl⟩, kk.trans k', tk.trans t', ?_⟩
          rw [List.take_add_one, he, List.filter_append, List.map_append]
          have ef : (Option.toList (some e)).filter (fun o => !decide (o.i = some n)) = [e] := by
            show List.filter _ [e] = _
            rw [List.filter_cons, decide_eq_false hi]
            rfl
          rw [ef]
          show SearchAt K P w B H' x rws names esR log (putsS log lev (_ ++ [_])) esF
          rw [putsS_snoc]
          exact S'
      · refine ⟨⟨_, _, rfl⟩, kk, tk, ?_⟩
        rw [List.take_add_one, he, List.filter_append, List.map_append]
        have ef : (Option.toList (some e)).filter (fun o => !decide (o.i = some n)) = [] := by
          show List.filter _ [e] = _
          rw [List.filter_cons, decide_eq_true hi]
          rfl
        rw [ef, List.map_nil, List.append_nil]
        exact Sa
    · rintro σ Ha ⟨⟨v5, v6, rfl⟩, kk, tk, Sa⟩
      rw [lvs, List.take_of_length_le (Nat.le_refl _)] at Sa
      exact k Ha (kl.weak.trans kk) ((TK.of kl).trans tk) Sa
end
end Ah
end
section
set_option Elab.async false
set_option linter.all false
set_option maxRecDepth 100000
set_option maxHeartbeats 4000000
namespace Ah
open PySem PySem.Spec PyProof.Rows L2
theorem ofS_snoc {log : List Ps} {p : Ps} {s : Say} : ofS (log ++ [p]) s = ofS log s ++ if p.s = s then [p] else [] := by
  unfold ofS
  rw [List.filter_append]
  congr 1
  rw [List.filter_cons, List.filter_nil]
  by_cases h : p.s = s
  · rw [if_pos h, decide_eq_true h]; rfl
  · rw [if_neg h, decide_eq_false h]; rfl
section
variable {K : PySem.W.Frag} {P : Program} {w : World} {B H H' : Hp} {x : SO} {rws : List Rw} {names : List Str} {esR esF : List Ent} {log : List Ps} {lev : List (List Ps)}
theorem searchAt_found (S : SearchAt K P w B H x rws names esR log lev esF) {p : Ps} {fl sa : Addr} {esF' : List Ent}
    (h1 : ∀ b o, H b = some o → b ≠ x.fd → b ≠ fl → H' b = some o) (hfd : H' x.fd = some (DicO P w x.fd esF')) (hfl : PartsL H' fl (ofS (log ++ [p]) p.s))
    (hF : (esF' = esF ∧ ∃ e ∈ esF, e.1 = keyW p.s.ws ∧ e.2.2 = .ref fl) ∨ (esF' = esF ++ [(keyW p.s.ws, sa, .ref fl)] ∧ H fl = none ∧ valE esF (keyW p.s.ws) = none ∧ SqT K H sa (p.s.ws.map V.str))) :
    SearchAt K P w B H' x rws names esR (log ++ [p]) lev esF' := by
  have hlst : H fl = none ∨ ∃ ys, H fl = some (.lst ys) := by
    rcases hF with ⟨_, e, he, _, ev⟩ | ⟨_, hn, _⟩
    · obtain ⟨s, fl', _, _, h3, us, h4, _⟩ := S.fe e he
      rw [ev] at h3
      rw [← V.ref.inj h3] at h4
      exact .inr ⟨_, h4⟩
    · exact .inl hn
  have hnl : ∀ {b o}, H b = some o → (∀ ys, o ≠ .lst ys) → b ≠ fl := fun {b o} hb ho e => by
    rw [e] at hb
    rcases hlst with hn | ⟨ys, hn⟩
    · rw [hn] at hb; cases hb
    · rw [hn] at hb; exact ho _ (Option.some.inj hb).symm
  have hl : ∀ {b ys}, H b = some (.lst ys) → (∀ e ∈ esF, e.2.2 ≠ .ref b) → b ≠ fl := fun {b ys} hb hq e => by
    subst e
    rcases hF with ⟨_, e, he, _, ev⟩ | ⟨_, hn, _⟩
    · exact hq e he ev
    · rw [hn] at hb; cases hb
  have keepL : ∀ {b ys}, H b = some (.lst ys) → (∀ e ∈ esF, e.2.2 ≠ .ref b) → H' b = some (.lst ys) := fun {b ys} hb hq => h1 _ _ hb (ne_of hb S.fd (fun z => nomatch z)) (hl hb hq)
  have tk : TK H H' := ⟨fun b ys e => h1 _ _ e (ne_of e S.fd (fun z => nomatch z)) (hnl e (fun _ z => nomatch z)), fun b o u e => h1 _ _ e (ne_of e S.fd (fun z => nomatch z)) (hnl e (fun _ z => nomatch z))⟩
  have sub' : ∀ e ∈ esF', e ∈ esF ∨ (e = (keyW p.s.ws, sa, .ref fl) ∧ H fl = none ∧ SqT K H sa (p.s.ws.map V.str)) := fun e he => by
    rcases hF with ⟨rfl, _⟩ | ⟨rfl, hn, _, hq⟩
    · exact .inl he
    · rcases List.mem_append.mp he with q | q
      · exact .inl q
      · exact .inr ⟨List.mem_singleton.mp q, hn, hq⟩
  refine { S with ob := ?_, R := ?_, fd := hfd, ll := ?_, lv := ?_, fe := fun e he => ?_, fc := fun e he => ?_, er := ?_, ef := ?_, dk := ?_, d3 := ?_, d4 := fun a ha => ?_, d5 := fun e he => ?_, kb := ?_, ne := fun e he l el => ?_ }
  · exact h1 _ _ S.ob (ne_of S.ob S.fd (fun z => nomatch z)) (hnl S.ob (fun _ z => nomatch z))
  · obtain ⟨vs, r1, r2⟩ := S.R.rows
    refine ⟨h1 _ _ S.R.ob (ne_of S.R.ob S.fd (fun z => nomatch z)) (hnl S.R.ob (fun _ z => nomatch z)), ⟨vs, keepL r1 (fun e he => (S.d5 e he).2.1), r2.tk tk⟩, keepL S.R.ns (fun e he => (S.d5 e he).2.2.1), h1 _ _ S.R.kn (Ne.symm S.d2) (hnl S.R.kn (fun _ z => nomatch z)), fun e he => ?_⟩
    obtain ⟨s, f2, g1, g2, g3, us, g4, g5⟩ := S.R.ents e he
    exact ⟨s, f2, g1, sqT_tk tk g2, g3, us, keepL g4 (fun e' he' z => (S.d5 e' he').2.2.2 e he (by rw [g3, z])), Paired.mapP g5 fun _ _ q => q.tk tk⟩
  · exact keepL S.ll (fun e he => (S.d5 e he).1)
  · refine paired_mem S.lv fun a ps ha _ ⟨us, g1, g2⟩ => ⟨us, keepL g1 ((S.d4 a ha).2.2.2.2), Paired.mapP g2 fun _ _ q => q.tk tk⟩
  · rcases sub' e he with he | ⟨rfl, hn, hq⟩
    · obtain ⟨s, f2, g1, g2, g3, us, g4, g5⟩ := S.fe e he
      by_cases hs : p.s = s
      · subst hs
        rcases hF with ⟨_, e2, he2, k1, k2⟩ | ⟨_, _, hv, _⟩
        · have ee : e = e2 := nodup_inj S.dk he he2 (by rw [g1, k1])
          rw [← ee, g3] at k2
          rw [V.ref.inj k2] at g3
          exact ⟨p.s, fl, g1, sqT_tk tk g2, g3, hfl⟩
        · exact absurd (List.mem_map.mpr ⟨e, he, g1⟩) ((valE_none _ _).mp hv)
      · have hne : f2 ≠ fl := fun z => by
          rcases hF with ⟨_, e2, he2, k1, k2⟩ | ⟨_, hn, _⟩
          · have ee : e = e2 := nodup_inj S.d3 he he2 (by rw [g3, k2, z])
            rw [ee, k1] at g1
            exact hs (Say.inj (keyW_inj g1))
          · rw [z, hn] at g4; cases g4
        refine ⟨s, f2, g1, sqT_tk tk g2, g3, us, h1 _ _ g4 (ne_of g4 S.fd (fun z => nomatch z)) hne, ?_⟩
        rw [ofS_snoc, if_neg hs, List.append_nil]
        exact Paired.mapP g5 fun _ _ q => q.tk tk
    · exact ⟨p.s, fl, rfl, sqT_tk tk hq, rfl, hfl⟩
  · have up : ∀ s, HasE esF s → HasE esF' s := fun s ⟨e', h', k'⟩ => by
      rcases hF with ⟨rfl, _⟩ | ⟨rfl, _⟩
      · exact ⟨e', h', k'⟩
      · exact ⟨e', List.mem_append_left _ h', k'⟩
    rcases List.mem_append.mp he with q | q
    · exact up _ (S.fc e q)
    · rw [List.mem_singleton.mp q]
      rcases hF with ⟨rfl, e2, he2, k1, _⟩ | ⟨rfl, _⟩
      · exact ⟨e2, he2, k1⟩
      · exact ⟨_, List.mem_append_right _ (List.mem_singleton.mpr rfl), rfl⟩
  · have := S.er
    rw [List.length_append, List.length_singleton]
    omega
  · have := S.ef
    rw [List.length_append, List.length_singleton]
    rcases hF with ⟨rfl, _⟩ | ⟨rfl, _⟩
    · omega
    · rw [List.length_append, List.length_singleton]
      omega
  · rcases hF with ⟨rfl, _⟩ | ⟨rfl, _, hv, _⟩
    · exact S.dk
    · rw [List.map_append]
      refine List.nodup_append.mpr ⟨S.dk, by simp, fun a ha b hb => ?_⟩
      rw [List.map_cons, List.map_nil, List.mem_singleton] at hb
      rw [hb]
      exact fun z => (valE_none _ _).mp hv (by rw [z] at ha; exact ha)
  · rcases hF with ⟨rfl, _⟩ | ⟨rfl, hn, _, _⟩
    · exact S.d3
    · rw [List.map_append]
      refine List.nodup_append.mpr ⟨S.d3, by simp, fun a ha b hb => ?_⟩
      rw [List.map_cons, List.map_nil, List.mem_singleton] at hb
      rw [hb]
      obtain ⟨e, he, rfl⟩ := List.mem_map.mp ha
      obtain ⟨s, f2, g1, g2, g3, us, g4, g5⟩ := S.fe e he
      intro z
      rw [g3] at z
      rw [V.ref.inj z, hn] at g4
      cases g4
  · obtain ⟨q1, q2, q3, q4, q5⟩ := S.d4 a ha
    refine ⟨q1, q2, q3, q4, fun e he => ?_⟩
    rcases sub' e he with he | ⟨rfl, hn, _⟩
    · exact q5 e he
    · obtain ⟨_, _, us, g1, _⟩ := paired_left S.lv ha
      intro z
      rw [← V.ref.inj z, hn] at g1
      cases g1
  · rcases sub' e he with he | ⟨rfl, hn, _⟩
    · exact S.d5 e he
    · obtain ⟨vs, r1, _⟩ := S.R.rows
      refine ⟨fun z => ?_, fun z => ?_, fun z => ?_, fun e' he' z => ?_⟩
      · have := S.ll
        rw [← V.ref.inj z, hn] at this
        cases this
      · rw [← V.ref.inj z, hn] at r1
        cases r1
      · have := S.R.ns
        rw [← V.ref.inj z, hn] at this
        cases this
      · obtain ⟨s, f2, g1, g2, g3, us, g4, g5⟩ := S.R.ents e' he'
        rw [g3] at z
        rw [V.ref.inj z, hn] at g4
        cases g4
  · intro b o hb _
    refine h1 b o (S.kb b o hb (by simp)) (fun z => ?_) (fun z => ?_)
    · rw [z, S.nf] at hb; cases hb
    · rcases hF with ⟨_, e, he, _, ev⟩ | ⟨_, hn, _⟩
      · rw [z, S.ne e he fl ev] at hb; cases hb
      · have := S.kb b o hb (by simp)
        rw [z, hn] at this; cases this
  · rcases sub' e he with he | ⟨rfl, hn, _⟩
    · exact S.ne e he l el
    · rw [← V.ref.inj el]
      exact none_of S.kb hn
theorem searchAt_leads (S : SearchAt K P w B H x rws names esR log lev esF) {esR' : List Ent} (k : Kept [x.o.kd] H H') (R' : RulesAt K P w H' x.o rws names esR') (hl : esR'.length ≤ x.r0 + log.length)
    (hd : ∀ W, H W ≠ none → (∀ e ∈ esR, e.2.2 ≠ V.ref W) → ∀ e ∈ esR', e.2.2 ≠ V.ref W) : SearchAt K P w B H' x rws names esR' log lev esF := by
  have hk : ∀ {b o}, H b = some o → b ≠ x.o.kd → H' b = some o := fun hb hn => k _ _ hb (by rw [List.mem_singleton]; exact hn)
  have tk : TK H H' := ⟨fun b ys e => hk e (ne_of e S.R.kn (fun z => nomatch z)), fun b o u e => hk e (ne_of e S.R.kn (fun z => nomatch z))⟩
  have kl : ∀ {b ys}, H b = some (.lst ys) → H' b = some (.lst ys) := fun h => hk h (ne_of h S.R.kn (fun z => nomatch z))
  refine { S with ob := ?_, R := R', fd := hk S.fd S.d2, ll := kl S.ll, lv := ?_, fe := fun e he => ?_, er := hl, d4 := fun a ha => ?_, d5 := fun e he => ?_, kb := fun b o hb _ => ?_ }
  · exact hk S.ob (ne_of S.ob S.R.kn (fun z => nomatch z))
  · exact Paired.mapP S.lv fun a ps ⟨us, g1, g2⟩ => ⟨us, kl g1, Paired.mapP g2 fun _ _ q => q.tk tk⟩
  · obtain ⟨s, f2, g1, g2, g3, us, g4, g5⟩ := S.fe e he
    exact ⟨s, f2, g1, sqT_tk tk g2, g3, us, kl g4, Paired.mapP g5 fun _ _ q => q.tk tk⟩
  · obtain ⟨q1, q2, q3, q4, q5⟩ := S.d4 a ha
    obtain ⟨_, _, us, g1, _⟩ := paired_left S.lv ha
    exact ⟨q1, q2, q3, hd a (by rw [g1]; exact fun z => nomatch z) q4, q5⟩
  · obtain ⟨q1, q2, q3, q4⟩ := S.d5 e he
    obtain ⟨s, f2, g1, g2, g3, us, g4, g5⟩ := S.fe e he
    refine ⟨q1, q2, q3, fun e' he' => ?_⟩
    rw [g3]
    exact hd f2 (by rw [g4]; exact fun z => nomatch z) (fun e2 he2 => by rw [← g3]; exact q4 e2 he2) e' he'
  · refine hk (S.kb b o hb (by simp)) (fun z => ?_)
    rw [z, S.nk] at hb
    cases hb
end
end Ah
end
section
set_option Elab.async false
set_option linter.all false
set_option maxRecDepth 100000
set_option maxHeartbeats 4000000
namespace Ah
open PySem PySem.Spec PyProof.Rows L2
theorem cand_eq (log : List Ps) (x : Ps) (l : LeadN) : cand log x l = match l.2.2.1 with
    | none => [⟨l.2.2.2, x.m ||| 2 ^ l.1, some l.1⟩]
    | some s2 => if l.2.1 = x.s then j2C log l.1 (x.m ||| 2 ^ l.1) x.i s2 l.2.2.2 else j1C log l.1 (x.m ||| 2 ^ l.1) l.2.1 l.2.2.2 := rfl
theorem cand_lt {n : Nat} {log : List Ps} {x : Ps} {l : LeadN} (h : ∀ e ∈ log, e.m < 2 ^ n) (hx : x ∈ log) (hl : l.1 < n) {c : Ps} (hc : c ∈ cand log x l) : c.m < 2 ^ n := by
  have h1 : x.m ||| 2 ^ l.1 < 2 ^ n := or_lt (h x hx) (bit_lt hl)
  unfold cand at hc
  split at hc
  · rw [List.mem_singleton.mp hc]
    exact h1
  · split at hc
    · split at hc
      · exact nomatch hc
      · obtain ⟨o, ho, rfl⟩ := List.mem_map.mp hc
        exact or_lt h1 (h o (List.mem_filter.mp ho).1)
    · obtain ⟨o, ho, rfl⟩ := List.mem_map.mp hc
      exact or_lt h1 (h o (List.mem_filter.mp (List.mem_filter.mp ho).1).1)
theorem take_flat_len {α β : Type} (f : α → List β) (xs : List α) (j : Nat) : ((xs.take j).flatMap f).length ≤ (xs.flatMap f).length := by
  have h : xs.flatMap f = (xs.take j).flatMap f ++ (xs.drop j).flatMap f := by
    rw [← List.flatMap_append, List.take_append_drop]
  rw [h, List.length_append]
  omega
theorem scTake : FnScope ["self", "saying", "mask", "last", "number", "first", "second", "result", "more"] ["self", "saying", "mask", "last"] (defScope sSearchTake) := ⟨rfl, rfl, rfl, by decide +kernel, rfl, by decide +kernel, by decide +kernel⟩
def spTake (K : PySem.W.Frag) (P : Program) (w : World) (C CR : Addr) : Sp := fun vs H Q _ => ∃ (B : Hp) (x : SO) (sv : V) (rws : List Rw) (names : List Str) (esR : List Ent) (log : List Ps) (lev : List (List Ps)) (esF : List Ent) (p : Ps), vs = [.ref x.so, sv, .int p.m, iV p.i] ∧ x.C = C ∧ x.o.C = CR ∧
  SearchAt K P w B H x rws names esR log lev esF ∧ SayAt K H sv p.s ∧ okW p.s.ws ∧ OkD rws names ∧ rws.length ≤ 10 ∧ lev.length = rws.length + 1 ∧ (∀ e ∈ log ++ [p], e.m < 2 ^ rws.length) ∧ log.length ≤ 100000 ∧ tot lev + (cands rws names (log ++ [p]) p).length + (log.length + 1) < sizeLine ∧
  ∀ H' esR' esF', TK H H' → SearchAt K P w B H' x rws names esR' (log ++ [p]) (putsS (log ++ [p]) lev (cands rws names (log ++ [p]) p)) esF' → Q .non H'
section
variable {P : Program} {w : World} {K : PySem.W.Frag} {mg : Str → Option Value} {base : Heap} {f fP fL f1 f2 C CR' : Addr} {fd fdP fdL fd1 fd2 : FuncData}
theorem ok_take (F : MethP K "take" "Search.take" sSearchTake f fd) (CS : ClsS K C) (CR : ClsR K CR')
    (mP : Meth K C "put" fP) (FP : FnOk P w K mg base CX0 2 fP fdP ["self", "saying", "mask", "last"] (spPut K P w C)) (bP : Binds K fdP ["self", "saying", "mask", "last"] [])
    (mL : Meth K CR' "leads" fL) (FL : FnOk P w K mg base CX0 5 fL fdL ["self", "saying"] (spLeads K P w CR')) (bL : Binds K fdL ["self", "saying"] [])
    (m2 : Meth K C "join_second" f2) (F2 : FnOk P w K mg base CX0 3 f2 fd2 ["self", "number", "mask", "last", "second", "result"] (spJ2 K P w C)) (b2 : Binds K fd2 ["self", "number", "mask", "last", "second", "result"] [])
    (m1 : Meth K C "join_first" f1) (F1 : FnOk P w K mg base CX0 3 f1 fd1 ["self", "number", "mask", "first", "result"] (spJ1 K P w C)) (b1 : Binds K fd1 ["self", "number", "mask", "first", "result"] []) :
    FnOk P w K mg base CX0 6 f fd ["self", "saying", "mask", "last"] (spTake K P w C CR') := by
  refine F.ok scTake (fun vs H Q E h => ?_) (fun cdv A outer s H vs Q E hr h => ?_)
  · obtain ⟨B, x, sv, rws, names, esR, log, lev, esF, p, rfl, _⟩ := h
    rfl
  · obtain ⟨B, x, sv, rws, names, esR, log, lev, esF, p, rfl, rfl, rfl, S, hsay, oks, D, hn8, hlev, hlt, hll, ht, k⟩ := h
    have hu : A.units + 3 + 1 < cLine := by have := hr.units; exact (by have h2 : (A.deeper (envOfC "Search.take" (defScope sSearchTake) s.heap.objs.size f cdv)).units = A.units + 3 := rfl; omega)
    refine ⟨_, PSs.nox (Evl.pss_cut (ps_expr (pe_bm PySem.F.plainAttrs_list PySem.F.slot_list_append PySem.F.type_list_append mt_append (pe_dicM PySem.F.slot_dict_setdefault PySem.F.type_dict_setdefault (mt_dicSetd hu) (pe_fld (pv 0) rfl) (pa_cons (pv 1) (pa_cons (pe_lst pa_nil) pa_nil))) (pa_cons (pe_tup (pa_cons (pv 2) (pa_cons (pv 3) pa_nil))) pa_nil)))
      (pss_one (ps_for PassesOwn.never rfl (pi_list (pe_meth (pe_fld (pv 0) rfl) CR.c mL FL hr bL .nil pass0 (pa_cons (pv 1) pa_nil))) (pg_tup rfl (pgs_cons (pg_name (i := 4) scTake.nd rfl (Or.inl rfl)) (pgs_cons (pg_name (i := 5) scTake.nd rfl (Or.inl rfl)) (pgs_cons (pg_name (i := 6) scTake.nd rfl (Or.inl rfl)) (pgs_cons (pg_name (i := 7) scTake.nd rfl (Or.inl rfl)) pgs_nil)))))
      (pss_cons (ps_set (i := 8) scTake.nd rfl (.inl rfl) (pe_op op_or (pv 2) (pe_op op_shl pe_int (pv 4))))
      (pss_one (ps_if (pt_cmpR op_isN (pv 6) pe_non (nomark _)) (pss_one (ps_expr (pe_meth (pv 0) CS.c mP FP (hr.mono (by decide)) bP .nil pass0 (pa_cons (pv 7) (pa_cons (pv 8) (pa_cons (pv 4) pa_nil))))))
        (pss_one (ps_if (pt_cmpR (op_eqD hr.units) (pv 5) (pv 1) (nomark _)) (pss_one (ps_expr (pe_meth (pv 0) CS.c m2 F2 (hr.mono (by decide)) b2 .nil pass0 (pa_cons (pv 4) (pa_cons (pv 8) (pa_cons (pv 3) (pa_cons (pv 6) (pa_cons (pv 7) pa_nil))))))))
          (pss_one (ps_expr (pe_meth (pv 0) CS.c m1 F1 (hr.mono (by decide)) b1 .nil pass0 (pa_cons (pv 4) (pa_cons (pv 8) (pa_cons (pv 5) (pa_cons (pv 7) pa_nil))))))))))))))), ?_⟩
    obtain ⟨sa, rfl, hsa⟩ := id hsay
    refine ⟨fun σ' H' => σ' = [some (.ref x.so), some (.ref sa), some (.int p.m), some (iV p.i), none, none, none, none, none] ∧ TK H H' ∧ ∃ esF', SearchAt K P w B H' x rws names esR (log ++ [p]) lev esF', ?_, ?_⟩
    · refine ⟨_, rfl, _, _, _, _, _, rfl, S.ob, CS.c, CS.n2, rfl, ⟨x.fd, esF, rfl, .inl S.fd⟩, _, rfl, Nat.zero_le _, fun ln nl => ?_⟩
      have kl : Kept [] H (L2.upd H ln (.lst [])) := (Kept.refl H).upd nl
      have Sl := S.kept kl
      have hkey : SqT K (L2.upd H ln (.lst [])) sa ((keyW p.s.ws).map kV) := by rw [keyW_kV]; exact sqT_tk (.of kl) hsa
      have hef : esF.length < sizeLine := Nat.lt_of_le_of_lt (Nat.le_trans S.ef hll) (by decide)
      refine ⟨x.fd, sa, esF, keyW p.s.ws, .ref ln, rfl, rfl, Sl.fd, Sl.keys, hkey, hef, fun y hy => ?_, fun hn => ?_⟩
      · obtain ⟨e, he, ek, ev⟩ := valE_at hy
        obtain ⟨s', fl, g1, g2, g3, us, g4, g5⟩ := Sl.fe e he
        obtain rfl : y = V.ref fl := ev.symm.trans g3
        have es1 : s' = p.s := Say.inj (keyW_inj (g1.symm.trans ek))
        subst es1
        refine ⟨.inl ⟨rfl, us, .inl (.of g4)⟩, _, rfl, _, rfl, (by show 2 ≤ sizeLine; decide), fun Tp nT => ?_⟩
        have kT : Kept [] (L2.upd H ln (.lst [])) (L2.upd (L2.upd H ln (.lst [])) Tp (.tup [V.int (p.m : Int), iV p.i])) := (Kept.refl _).upd nT
        have ST := Sl.kept kT
        have fT : fl ≠ Tp := ne_of_none g4 nT
        have gT : (L2.upd (L2.upd H ln (.lst [])) Tp (.tup [V.int (p.m : Int), iV p.i])) fl = some (.lst us) := kT _ _ g4 (by simp)
        have hlu : us.length < sizeLine := by
          have h1 := g5.length
          have h2 : (ofS log p.s).length ≤ log.length := List.length_filter_le ..
          exact Nat.lt_of_le_of_lt (show us.length ≤ 100000 by omega) (by decide)
        have tk : TK H (L2.upd (L2.upd H ln (.lst [])) Tp (.tup [V.int (p.m : Int), iV p.i])) := (TK.of kl).trans (.of kT)
        have tk2 := tk.updL (o := .lst (us ++ [V.ref Tp])) gT
        have tk3 := (TK.refl (L2.upd (L2.upd H ln (.lst [])) Tp (.tup [V.int (p.m : Int), iV p.i]))).updL (o := .lst (us ++ [V.ref Tp])) gT
        refine ⟨fl, us, _, rfl, rfl, gT, hlu, rfl, tk2, esF, searchAt_found (fl := fl) (sa := sa) ST (fun b o hb _ hne => by rw [upd_ne hne]; exact hb) ?_ ⟨us ++ [V.ref Tp], upd_same, ?_⟩ (.inl ⟨rfl, e, he, ek, g3⟩)⟩
        · rw [upd_ne (ne_of ST.fd gT (fun z => nomatch z))]
          exact ST.fd
        · rw [ofS_snoc, if_pos rfl]
          refine paired_app (Paired.mapP g5 fun _ _ q => (q.tk (.of kT)).tk tk3) (.cons ⟨Tp, rfl, tk3.tup _ _ upd_same⟩ .nil)
      · have fl : x.fd ≠ ln := ne_of_none S.fd nl
        have lnil : (L2.upd H ln (.lst [])) ln = some (.lst []) := upd_same
        rw [putE_new hn]
        have l2 : (L2.upd (L2.upd H ln (.lst [])) x.fd (DicO P w x.fd (esF ++ [(keyW p.s.ws, sa, V.ref ln)]))) ln = some (.lst []) := by rw [upd_ne (Ne.symm fl)]; exact lnil
        refine ⟨.inl ⟨rfl, [], .inl (.of l2)⟩, _, rfl, _, rfl, (by show 2 ≤ sizeLine; decide), fun Tp nT => ?_⟩
        have nTH : H Tp = none := by
          have h1 : Tp ≠ x.fd := fun z => by rw [z, upd_same] at nT; cases nT
          rw [upd_ne h1] at nT
          exact none_of kl nT
        have Tl : ln ≠ Tp := ne_of_none l2 nT
        have Tf : x.fd ≠ Tp := ne_of_none S.fd nTH
        refine ⟨ln, [], _, rfl, rfl, by rw [upd_ne Tl]; exact l2, by decide, rfl, ?_, esF ++ [(keyW p.s.ws, sa, V.ref ln)], searchAt_found (fl := ln) (sa := sa) S (fun b o hb h1 h2 => ?_) ?_ ⟨[] ++ [V.ref Tp], upd_same, ?_⟩ (.inr ⟨rfl, nl, hn, hsa⟩)⟩
        · have h0 : ∀ b o, H b = some o → b ≠ x.fd → (L2.upd (L2.upd (L2.upd (L2.upd H ln (.lst [])) x.fd (DicO P w x.fd (esF ++ [(keyW p.s.ws, sa, V.ref ln)]))) Tp (.tup [V.int (p.m : Int), iV p.i])) ln (.lst ([] ++ [V.ref Tp]))) b = some o := fun b o hb h1 => by
            rw [upd_ne (ne_of_none hb nl), upd_ne (ne_of_none hb nTH), upd_ne h1, upd_ne (ne_of_none hb nl)]
            exact hb
          exact ⟨fun b ys e => h0 _ _ e (ne_of e S.fd (fun z => nomatch z)), fun b o u e => h0 _ _ e (ne_of e S.fd (fun z => nomatch z))⟩
        · rw [upd_ne h2, upd_ne (ne_of_none hb nTH), upd_ne h1, upd_ne h2]
          exact hb
        · rw [upd_ne fl, upd_ne Tf]
          exact upd_same
        · have : ofS log p.s = [] := by
            unfold ofS
            rw [List.filter_eq_nil_iff]
            intro e he h
            have h1 := S.fc e he
            rw [of_decide_eq_true h, hasE_val, hn] at h1
            cases h1
          rw [ofS_snoc, if_pos rfl, this]
          exact .cons ⟨Tp, rfl, by rw [upd_ne (Ne.symm Tl)]; exact upd_same⟩ .nil
    · rintro σ' H4 ⟨rfl, tk4, esF', S4⟩
      have hp : p ∈ log ++ [p] := List.mem_append_right _ (List.mem_singleton.mpr rfl)
      have hle : (2 : Nat) ^ rws.length ≤ 1024 := Nat.pow_le_pow_right (n := 2) (by decide) hn8
      have h12 : rws.length ≤ 12 := by omega
      have hcs : ∀ c ∈ cands rws names (log ++ [p]) p, pc c.m < lev.length := fun c hc => by
        obtain ⟨l, hl, hc⟩ := List.mem_flatMap.mp hc
        obtain ⟨r, g1, _⟩ := mem_workedN.mp hl
        have := pc_le (cand_lt hlt hp (get_lt g1) hc) h12
        omega
      have hlen1 : (log ++ [p]).length = log.length + 1 := by rw [List.length_append, List.length_singleton]
      have her := S.er
      have hr1 := S.r1
      refine ⟨_, rfl, _, _, _, _, _, rfl, S4.ob, CS.c, CS.n1, rfl, x.o.ro, x.o.dx, _, rfl, S4.R.ob, rfl, _, rfl, x.o, .ref sa, rws, names, esR, p.s, rfl, rfl, S4.R, hsay.tk tk4, oks, D, by omega, fun fl H5 esR' k5 R5 l5 fa dist => ?_⟩
      have S5 := searchAt_leads S4 k5 R5 (by omega) (fun W h1 h2 => (dist W h1 h2).2)
      have fls : fl ∉ x.ls := fun h => by
        obtain ⟨_, _, us, g1, _⟩ := paired_left S4.lv h
        exact (dist fl (by rw [g1]; exact fun z => nomatch z) (S4.d4 fl h).2.2.2.1).1 rfl
      have tk5 : TK H H5 := tk4.trans ⟨fun b ys e => k5 _ _ e (by rw [List.mem_singleton]; exact ne_of e S4.R.kn (fun z => nomatch z)), fun b o u e => k5 _ _ e (by rw [List.mem_singleton]; exact ne_of e S4.R.kn (fun z => nomatch z))⟩
      obtain ⟨us, eu, ru⟩ := fa
      have lus := ru.length
      refine ⟨fl, rfl, ⟨us, .inl (.of eu)⟩, for_it (walk_list (K := K) (a := fl) (xs := us))
        (fun j σ Ha => (∃ v4 v5 v6 v7 v8, σ = [some (.ref x.so), some (.ref sa), some (.int p.m), some (iV p.i), v4, v5, v6, v7, v8]) ∧ Kept x.ls H5 Ha ∧ TK H5 Ha ∧ SearchAt K P w B Ha x rws names esR' (log ++ [p]) (putsS (log ++ [p]) lev (((workedN rws p.s names).take j).flatMap (cand (log ++ [p]) p))) esF')
        ⟨⟨_, _, _, _, _, rfl⟩, Kept.refl _, TK.refl _, S5⟩ (fun j σ Ha _ pv => .inl (.of (pv.2.1 _ _ eu fls))) ?_ ?_⟩
      · rintro j y σ Ha0 Ha hj ⟨⟨v4, v5, v6, v7, v8, rfl⟩, kk, tk, Sa⟩ ⟨rfl, ey⟩
        obtain ⟨l, hl, hla⟩ := paired_at ru ey
        obtain ⟨qa, w1, w2, w3, rfl, t1, s1, s2, s3⟩ := hla.tk tk
        have hlm : l ∈ workedN rws p.s names := List.mem_of_getElem? hl
        obtain ⟨r, g1, g2, _⟩ := mem_workedN.mp hlm
        have hln : l.1 < rws.length := get_lt g1
        have ol := okL_by (D.rok r (List.mem_of_getElem? g1)) oks D.nok l.2 g2
        have hmm : p.m ||| 2 ^ l.1 < 2 ^ rws.length := or_lt (hlt p hp) (bit_lt hln)
        have em : Builtin.bitOr (p.m : Int) (1 * 2 ^ ((l.1 : Nat) : Int).toNat) = ((p.m ||| 2 ^ l.1 : Nat) : Int) := by
          rw [Int.toNat_natCast, Int.one_mul, show ((2 : Int) ^ l.1) = ((2 ^ l.1 : Nat) : Int) from (Int.natCast_pow 2 l.1).symm, b_or]
        have hpre : tot (putsS (log ++ [p]) lev (((workedN rws p.s names).take j).flatMap (cand (log ++ [p]) p))) ≤ tot lev + (cands rws names (log ++ [p]) p).length := by
          have h1 := putsS_tot (log := log ++ [p]) (lev := lev) (cs := ((workedN rws p.s names).take j).flatMap (cand (log ++ [p]) p)) (fun c hc => by
            obtain ⟨l', hl', hc⟩ := List.mem_flatMap.mp hc
            exact hcs c (List.mem_flatMap.mpr ⟨l', List.mem_of_mem_take hl', hc⟩))
          have h2 := take_flat_len (cand (log ++ [p]) p) (workedN rws p.s names) j
          unfold cands
          omega
        have hall : ∀ o ∈ log ++ [p], (p.m ||| 2 ^ l.1) ||| o.m < 1024 ∧ pc ((p.m ||| 2 ^ l.1) ||| o.m) < (putsS (log ++ [p]) lev (((workedN rws p.s names).take j).flatMap (cand (log ++ [p]) p))).length := fun o ho => by
          have h1 := or_lt hmm (hlt o ho)
          rw [putsS_len]
          have := pc_le h1 h12
          exact ⟨by omega, by omega⟩
        have hof : ∀ s, (ofS (log ++ [p]) s).length ≤ log.length + 1 := fun s => by
          rw [← hlen1]
          exact List.length_filter_le ..
        have et : ((workedN rws p.s names).take (j + 1)).flatMap (cand (log ++ [p]) p) = ((workedN rws p.s names).take j).flatMap (cand (log ++ [p]) p) ++ cand (log ++ [p]) p l := by
          rw [take_succ_get hl, List.flatMap_append]
          congr 1
          rw [List.flatMap_cons, List.flatMap_nil, List.append_nil]
        have fin : ∀ H', Kept x.ls Ha H' → TK Ha H' → SearchAt K P w B H' x rws names esR' (log ++ [p]) (putsS (log ++ [p]) (putsS (log ++ [p]) lev (((workedN rws p.s names).take j).flatMap (cand (log ++ [p]) p))) (cand (log ++ [p]) p l)) esF' →
            Kept x.ls H5 H' ∧ TK H5 H' ∧ SearchAt K P w B H' x rws names esR' (log ++ [p]) (putsS (log ++ [p]) lev (((workedN rws p.s names).take (j + 1)).flatMap (cand (log ++ [p]) p))) esF' := fun H' k' t' S' => by
          rw [et, putsS_app]
          exact ⟨kk.trans k', tk.trans t', S'⟩
        rw [cand_eq] at fin
        refine ⟨qa, _, rfl, .inl (.of t1), rfl, _, _, rfl, _, _, rfl, _, _, rfl, _, _, rfl, rfl, ?_⟩
        refine ⟨_, rfl, _, rfl, _, _, rfl, rfl, ⟨Int.natCast_nonneg _, by omega, by decide⟩, _, _, rfl, rfl, ?_⟩
        refine ⟨_, rfl, rfl, _, rfl, ?_⟩
        cases h2 : l.2.2.1 with
        | none =>
          rw [h2] at s2 fin
          obtain rfl : w2 = V.non := s2
          refine iteT ?_
          refine ⟨_, rfl, x.so, x.dx, _, rfl, Sa.ob, rfl, _, rfl, _, rfl, _, rfl, B, x, w3, rws, names, esR', log ++ [p], _, esF', ⟨l.2.2.2, p.m ||| 2 ^ l.1, some l.1⟩, ?_, rfl, Sa, s3, by show p.m ||| 2 ^ l.1 < 1024; omega, ?_, by omega, fun H' k' t' S' => ⟨⟨_, _, _, _, _, rfl⟩, fin H' k' t' S'⟩⟩
          · show [V.ref x.so, w3, V.int (Builtin.bitOr (p.m : Int) (1 * 2 ^ ((l.1 : Nat) : Int).toNat)), V.int l.1] = _
            rw [em]
            rfl
          · rw [putsS_len]
            have := pc_le hmm h12
            show pc (p.m ||| 2 ^ l.1) < lev.length
            omega
        | some sc =>
          rw [h2] at s2 fin
          have hw2 : decide (w2 = V.non) = false := by
            obtain ⟨a2, e2, _⟩ := (show SayAt K Ha w2 sc from s2)
            rw [e2]
            rfl
          refine if_eq hw2 (iteF ?_)
          dsimp only at fin
          refine ⟨_, rfl, _, rfl, rd_eqS s1 ((hsay.tk tk5).tk tk) ol.1 oks ⟨_, rfl, if_dec (fun hf => ?_) (fun hf => ?_)⟩⟩
          · rw [if_pos hf] at fin
            refine ⟨_, rfl, x.so, x.dx, _, rfl, Sa.ob, rfl, _, rfl, _, rfl, _, rfl, _, rfl, _, rfl, B, x, w2, w3, rws, names, esR', log ++ [p], _, esF', l.1, p.m ||| 2 ^ l.1, p.i, sc, l.2.2.2, ?_, rfl, Sa, s2, s3, hall, ?_, fun H' k' t' S' => ⟨⟨_, _, _, _, _, rfl⟩, fin H' k' t' S'⟩⟩
            · show [V.ref x.so, V.int l.1, V.int (Builtin.bitOr (p.m : Int) (1 * 2 ^ ((l.1 : Nat) : Int).toNat)), iV p.i, w2, w3] = _
              rw [em]
            · have := hof sc
              omega
          · rw [if_neg hf] at fin
            refine ⟨_, rfl, x.so, x.dx, _, rfl, Sa.ob, rfl, _, rfl, _, rfl, _, rfl, _, rfl, B, x, w1, w3, rws, names, esR', log ++ [p], _, esF', l.1, p.m ||| 2 ^ l.1, l.2.1, l.2.2.2, ?_, rfl, Sa, s1, s3, hall, ?_, fun H' k' t' S' => ⟨⟨_, _, _, _, _, rfl⟩, fin H' k' t' S'⟩⟩
            · show [V.ref x.so, V.int l.1, V.int (Builtin.bitOr (p.m : Int) (1 * 2 ^ ((l.1 : Nat) : Int).toNat)), w1, w3] = _
              rw [em]
            · have := hof l.2.1
              omega
      · rintro σ Ha ⟨⟨v4, v5, v6, v7, v8, rfl⟩, kk, tk, Sa⟩
        rw [lus, List.take_of_length_le (Nat.le_refl _)] at Sa
        exact k Ha esR' esF' (tk5.trans tk) Sa
end
end Ah
end
section
set_option Elab.async false
set_option linter.all false
set_option maxRecDepth 100000
set_option maxHeartbeats 4000000
namespace Ah
open PySem PySem.Spec PyProof.Rows L2
/-! ### how much is put: each pair of sayings found is joined once by each row -/
def pairsR : Rw → List (Say × Say)
  | .on t => namesL.flatMap fun a => namesL.flatMap fun b => if a = b then [] else (namesL.filter fun c => !decide (c = b)).map fun c => (.has a t b, .has b t c)
  | .who t k _ => namesL.flatMap fun x => namesL.map fun n => (.has x t n, .is n k)
  | .no k l => namesL.flatMap fun n => [(.is n k, .is n l), (.is n l, .is n k)]
  | _ => []
theorem pairsR_len (r : Rw) : (pairsR r).length ≤ 12 := by
  cases r <;> exact Nat.le_of_ble_eq_true rfl
def cnt (log : List Ps) (s : Say) : Nat := (log.filter fun e => decide (e.s = s)).length
def pairW (log : List Ps) (q : Say × Say) : Nat := cnt log q.1 * cnt log q.2
def PotR (log : List Ps) (r : Rw) : Nat := ((pairsR r).map (pairW log)).sum
def Pot (rws : List Rw) (log : List Ps) : Nat := rws.length * log.length + (rws.map (PotR log)).sum
def PotB (n A : Nat) : Nat := n * (28 * A) + n * (12 * (A * A))
theorem cnt_app (log : List Ps) (x : Ps) (s : Say) : cnt (log ++ [x]) s = cnt log s + if x.s = s then 1 else 0 := by
  unfold cnt
  rw [List.filter_append, List.length_append]
  by_cases h : x.s = s
  · rw [if_pos h]; simp [h]
  · rw [if_neg h]; simp [h]
def gain (log : List Ps) (s : Say) (q : Say × Say) : Nat := if q.1 = s then (if q.2 = s then 0 else cnt log q.2) else if q.2 = s then cnt log q.1 else 0
theorem pairW_step (log : List Ps) (x : Ps) (q : Say × Say) : pairW log q + gain log x.s q ≤ pairW (log ++ [x]) q := by
  unfold pairW gain
  rw [cnt_app, cnt_app]
  generalize cnt log q.1 = a
  generalize cnt log q.2 = b
  by_cases h1 : q.1 = x.s
  · have e1 : (if x.s = q.1 then 1 else 0) = 1 := if_pos h1.symm
    rw [e1, if_pos h1]
    by_cases h2 : q.2 = x.s
    · have e2 : (if x.s = q.2 then 1 else 0) = 1 := if_pos h2.symm
      rw [e2, if_pos h2, Nat.add_zero]
      exact Nat.mul_le_mul (Nat.le_add_right ..) (Nat.le_add_right ..)
    · have e2 : (if x.s = q.2 then 1 else 0) = 0 := if_neg fun z => h2 z.symm
      rw [e2, if_neg h2, Nat.add_zero, Nat.add_mul, Nat.one_mul]
      exact Nat.le_refl _
  · have e1 : (if x.s = q.1 then 1 else 0) = 0 := if_neg fun z => h1 z.symm
    rw [e1, if_neg h1, Nat.add_zero]
    by_cases h2 : q.2 = x.s
    · have e2 : (if x.s = q.2 then 1 else 0) = 1 := if_pos h2.symm
      rw [e2, if_pos h2, Nat.mul_add, Nat.mul_one]
      exact Nat.le_refl _
    · have e2 : (if x.s = q.2 then 1 else 0) = 0 := if_neg fun z => h2 z.symm
      rw [e2, if_neg h2, Nat.add_zero]
      exact Nat.le_refl _
theorem sum_map_add {α : Type} (f g h : α → Nat) (hh : ∀ a, f a + g a ≤ h a) : ∀ l : List α, (l.map f).sum + (l.map g).sum ≤ (l.map h).sum
  | [] => Nat.le_refl _
  | a :: l => by
    have := sum_map_add f g h hh l
    have := hh a
    simp only [List.map_cons, List.sum_cons]
    omega
theorem potR_step (log : List Ps) (x : Ps) (r : Rw) : PotR log r + ((pairsR r).map (gain log x.s)).sum ≤ PotR (log ++ [x]) r := sum_map_add _ _ _ (pairW_step log x) _
theorem sum_sub {α : Type} (f : α → Nat) : ∀ (p L : List α), p.Nodup → (∀ x ∈ p, x ∈ L) → (p.map f).sum ≤ (L.map f).sum
  | [], L, _, _ => Nat.zero_le _
  | x :: t, L, hn, hs => by
    obtain ⟨a, b, rfl⟩ := List.append_of_mem (hs x (List.mem_cons_self ..))
    obtain ⟨h1, h2⟩ := List.nodup_cons.mp hn
    have := sum_sub f t (a ++ b) h2 fun y hy => by
      have h3 := hs y (List.mem_cons_of_mem _ hy)
      rw [List.mem_append, List.mem_cons] at h3
      rw [List.mem_append]
      rcases h3 with q | q | q
      · exact .inl q
      · exact absurd (q ▸ hy) h1
      · exact .inr q
    rw [List.map_append, List.sum_append] at this ⊢
    simp only [List.map_cons, List.sum_cons]
    omega
def pairOf (l : Lead) : Option (Say × Say) := l.2.1.map fun s => (l.1, s)
theorem nodup_one {α : Type} : ∀ {l : List α}, l.length ≤ 1 → l.Nodup
  | [], _ => .nil
  | [a], _ => by simp
  | _ :: _ :: l, h => by simp at h
theorem one_fm {l : List Lead} (h : l.length ≤ 1) : ((l.filter useful).filterMap pairOf).Nodup :=
  nodup_one (Nat.le_trans (List.length_filterMap_le ..) (Nat.le_trans (List.length_filter_le ..) h))
theorem ite_one {c : Prop} [Decidable c] {l : Lead} : (if c then [l] else []).length ≤ 1 := by
  split
  · exact Nat.le_refl _
  · exact Nat.zero_le _
theorem mem_fm {L : List Lead} {q : Say × Say} (h : q ∈ (L.filter useful).filterMap pairOf) : ∃ l ∈ L, useful l = true ∧ l.1 = q.1 ∧ l.2.1 = some q.2 := by
  obtain ⟨l, h1, h2⟩ := List.mem_filterMap.mp h
  obtain ⟨h3, h4⟩ := List.mem_filter.mp h1
  unfold pairOf at h2
  obtain ⟨s, h5, rfl⟩ := Option.map_eq_some_iff.mp h2
  exact ⟨l, h3, h4, rfl, h5⟩
theorem useful_iff {l : Lead} : useful l = true ↔ l.1 ≠ l.2.2 ∧ l.2.1 ≠ some l.2.2 := by
  unfold useful
  simp only [Bool.and_eq_true, Bool.not_eq_true', decide_eq_false_iff_not]
theorem nodup_mapI {α β : Type} {f : α → β} (hf : ∀ a b, f a = f b → a = b) : ∀ {l : List α}, l.Nodup → (l.map f).Nodup
  | [], _ => .nil
  | a :: l, h => by
    obtain ⟨h1, h2⟩ := List.nodup_cons.mp h
    rw [List.map_cons, List.nodup_cons]
    refine ⟨fun z => ?_, nodup_mapI hf h2⟩
    obtain ⟨b, hb, e⟩ := List.mem_map.mp z
    exact h1 (hf b a e ▸ hb)
theorem fm_map {f : Str → Lead} {g : Str → Say × Say} (hg : ∀ x, pairOf (f x) = some (g x)) (hi : ∀ a b, g a = g b → a = b) {names : List Str} (hn : names.Nodup) : (((names.map f).filter useful).filterMap pairOf).Nodup := by
  refine List.Nodup.sublist (List.Sublist.filterMap pairOf (List.filter_sublist (p := useful))) ?_
  rw [List.filterMap_map, show (pairOf ∘ f) = (some ∘ g) from funext hg, List.filterMap_eq_map]
  exact nodup_mapI hi hn
theorem fm_nodup {r : Rw} {s : Say} {names : List Str} (hn : names.Nodup) : (((leadsBy r s names).filter useful).filterMap pairOf).Nodup := by
  cases s with
  | clash => exact .nil
  | is n k =>
    cases r <;> simp only [leadsBy, leadsKind] <;> first
      | exact .nil
      | exact one_fm ite_one
      | skip
    rename_i a b c
    split
    · exact fm_map (g := fun x => (Say.has x a n, Say.is n k)) (fun x => rfl) (fun x y e => by cases e; rfl) hn
    · exact .nil
  | has n t m =>
    cases r <;> simp only [leadsBy, leadsTie] <;> first
      | exact .nil
      | exact one_fm ite_one
      | skip
    rename_i a
    split
    · unfold leadsOn
      rw [List.filter_append, List.filterMap_append, List.nodup_append]
      refine ⟨fm_map (g := fun x => (Say.has n t m, Say.has m t x)) (fun x => rfl) (fun x y e => by cases e; rfl) hn, fm_map (g := fun x => (Say.has x t n, Say.has n t m)) (fun x => rfl) (fun x y e => by cases e; rfl) hn, fun p hp q hq e => ?_⟩
      subst e
      obtain ⟨l, h1, h2, h3, h4⟩ := mem_fm hp
      obtain ⟨l', h1', h2', h3', h4'⟩ := mem_fm hq
      obtain ⟨z, _, rfl⟩ := List.mem_map.mp h1
      obtain ⟨z', _, rfl⟩ := List.mem_map.mp h1'
      obtain ⟨u1, u2⟩ := useful_iff.mp h2
      obtain ⟨p1, p2⟩ := p
      dsimp only at h3 h4 h3' h4' u1 u2
      rw [← h3] at h3'
      rw [← h4] at h4'
      cases h3'
      exact u2 rfl
    · exact .nil
theorem none_one {r : Rw} {s : Say} {names : List Str} : (((leadsBy r s names).filter useful).filter fun l => decide (l.2.1 = none)).length ≤ 1 := by
  rw [List.filter_filter]
  have one : ∀ {l : List Lead}, l.length ≤ 1 → (l.filter fun a => decide (a.2.1 = none) && useful a).length ≤ 1 := fun h => Nat.le_trans (List.length_filter_le ..) h
  have nn : ∀ {l : List Lead}, (∀ a ∈ l, a.2.1 ≠ none) → (l.filter fun a => decide (a.2.1 = none) && useful a).length ≤ 1 := fun h => by
    rw [List.filter_eq_nil_iff.mpr]
    · exact Nat.zero_le _
    · intro a ha z
      rw [Bool.and_eq_true, decide_eq_true_eq] at z
      exact h a ha z.1
  cases s with
  | clash => exact Nat.zero_le _
  | is n k =>
    cases r <;> simp only [leadsBy, leadsKind] <;> first
      | exact Nat.zero_le _
      | exact one ite_one
      | skip
    refine nn fun a ha => ?_
    split at ha
    · obtain ⟨x, _, rfl⟩ := List.mem_map.mp ha
      exact fun z => nomatch z
    · exact nomatch ha
  | has n t m =>
    cases r <;> simp only [leadsBy, leadsTie] <;> first
      | exact Nat.zero_le _
      | exact one ite_one
      | skip
    refine nn fun a ha => ?_
    split at ha
    · unfold leadsOn at ha
      rcases List.mem_append.mp ha with ha | ha
      · obtain ⟨x, _, rfl⟩ := List.mem_map.mp ha
        exact fun z => nomatch z
      · obtain ⟨x, _, rfl⟩ := List.mem_map.mp ha
        exact fun z => nomatch z
    · exact nomatch ha
theorem fm_sub {r : Rw} {s : Say} {names : List Str} (hs : s.few) (hl : ∀ z ∈ names, z ∈ namesL) {q : Say × Say} (hq : q ∈ ((leadsBy r s names).filter useful).filterMap pairOf) : q ∈ pairsR r ∧ q.1 ≠ q.2 ∧ (q.1 = s ∨ q.2 = s) := by
  obtain ⟨l, h1, h2, h3, h4⟩ := mem_fm hq
  obtain ⟨q1, q2⟩ := q
  dsimp only at h3 h4 ⊢
  have u := useful_iff.mp h2
  rcases lead_cls h1 with ⟨e, _⟩ | ⟨n, k1, k2, gr, hk, e, es⟩ | ⟨x, a, n, b, c, gr, e, es⟩ | ⟨x, t, y, z, gr, e, es⟩
  · rw [e] at h4; cases h4
  · rw [e] at h3 h4
    cases h4
    subst h3
    rw [es] at hs
    refine ⟨?_, fun z => hk (by cases z; rfl), .inl es.symm⟩
    rcases gr with rfl | rfl
    · exact List.mem_flatMap.mpr ⟨n, hs.1, List.mem_cons_self ..⟩
    · exact List.mem_flatMap.mpr ⟨n, hs.1, List.mem_cons_of_mem _ (List.mem_cons_self ..)⟩
  · have hx : x ∈ namesL := by
      rcases es with es | es
      · rw [es] at hs; exact hs.1
      · rw [es, gr] at h1
        simp only [leadsBy, leadsKind] at h1
        rw [if_pos trivial] at h1
        obtain ⟨x', hx', e'⟩ := List.mem_map.mp h1
        rw [e] at e'
        cases e'
        exact hl _ hx'
    have hnn : n ∈ namesL := by
      rcases es with es | es
      · rw [es] at hs; exact hs.2.2
      · rw [es] at hs; exact hs.1
    rw [e] at h3 h4
    cases h4
    subst h3
    refine ⟨?_, (fun z => nomatch z), ?_⟩
    · rw [gr]
      exact List.mem_flatMap.mpr ⟨x, hx, List.mem_map.mpr ⟨n, hnn, rfl⟩⟩
    · rcases es with es | es
      · exact .inl es.symm
      · exact .inr es.symm
  · have key : x ∈ namesL ∧ y ∈ namesL ∧ z ∈ namesL := by
      have h5 := h1
      rw [gr] at h5
      rcases es with es | es
      · rw [es] at hs h5
        simp only [leadsBy, leadsTie, leadsOn] at h5
        rw [if_pos trivial] at h5
        refine ⟨hs.1, hs.2.2, ?_⟩
        rcases List.mem_append.mp h5 with h5 | h5
        · obtain ⟨w, hw, e'⟩ := List.mem_map.mp h5
          rw [e] at e'
          cases e'
          exact hl _ hw
        · obtain ⟨w, hw, e'⟩ := List.mem_map.mp h5
          rw [e] at e'
          cases e'
          exact hs.2.2
      · rw [es] at hs h5
        simp only [leadsBy, leadsTie, leadsOn] at h5
        rw [if_pos trivial] at h5
        refine ⟨?_, hs.1, hs.2.2⟩
        rcases List.mem_append.mp h5 with h5 | h5
        · obtain ⟨w, hw, e'⟩ := List.mem_map.mp h5
          rw [e] at e'
          cases e'
          exact hs.1
        · obtain ⟨w, hw, e'⟩ := List.mem_map.mp h5
          rw [e] at e'
          cases e'
          exact hl _ hw
    obtain ⟨hx, hy, hz⟩ := key
    rw [e] at h3 h4 u
    cases h4
    subst h3
    dsimp only at u
    have n1 : x ≠ y := fun e => u.2 (by rw [e])
    have n2 : z ≠ y := fun e => u.1 (by rw [e])
    refine ⟨?_, fun e => n1 (by cases e; rfl), ?_⟩
    · rw [gr]
      refine List.mem_flatMap.mpr ⟨x, hx, List.mem_flatMap.mpr ⟨y, hy, ?_⟩⟩
      rw [if_neg n1]
      exact List.mem_map.mpr ⟨z, List.mem_filter.mpr ⟨hz, by rw [decide_eq_false n2]; rfl⟩, rfl⟩
    · rcases es with es | es
      · exact .inl es.symm
      · exact .inr es.symm
theorem sum_parts {log : List Ps} {s : Say} : ∀ L : List Lead, (L.map fun l => match l.2.1 with | none => 1 | some s2 => gain log s (l.1, s2)).sum = (L.filter fun l => decide (l.2.1 = none)).length + ((L.filterMap pairOf).map (gain log s)).sum
  | [] => rfl
  | l :: L => by
    have ih := sum_parts (log := log) (s := s) L
    rw [List.map_cons, List.sum_cons, ih]
    cases e : l.2.1 with
    | none =>
      rw [List.filter_cons_of_pos (by rw [e]; rfl), List.filterMap_cons_none (by unfold pairOf; rw [e]; rfl), List.length_cons]
      dsimp only
      omega
    | some s2 =>
      rw [List.filter_cons_of_neg (by rw [e]; simp), List.filterMap_cons_some (b := (l.1, s2)) (by unfold pairOf; rw [e]; rfl), List.map_cons, List.sum_cons]
      dsimp only
      omega
theorem cand_le {log : List Ps} {x : Ps} {i : Nat} {l : Lead} (h : ∀ s2, l.2.1 = some s2 → l.1 ≠ s2 ∧ (l.1 = x.s ∨ s2 = x.s)) :
    (cand (log ++ [x]) x (i, l)).length ≤ match l.2.1 with | none => 1 | some s2 => gain log x.s (l.1, s2) := by
  have far : ∀ s, x.s ≠ s → ((log ++ [x]).filter fun e => decide (e.s = s)).length = cnt log s := fun s hs => by
    have := cnt_app log x s
    rw [if_neg hs] at this
    exact this
  unfold cand
  cases e : l.2.1 with
  | none => exact Nat.le_refl _
  | some s2 =>
    obtain ⟨h1, h2⟩ := h s2 e
    dsimp only
    unfold gain
    dsimp only
    by_cases h3 : l.1 = x.s
    · have h4 : ¬ s2 = x.s := fun z => h1 (h3.trans z.symm)
      rw [if_pos h3, if_pos h3, if_neg h4]
      split
      · exact Nat.zero_le _
      · rw [List.length_map, far s2 (fun z => h4 z.symm)]
        exact Nat.le_refl _
    · have h4 : s2 = x.s := h2.resolve_left h3
      rw [if_neg h3, if_neg h3, if_pos h4, List.length_map]
      refine Nat.le_trans (List.length_filter_le ..) ?_
      rw [far l.1 (fun z => h3 z.symm)]
      exact Nat.le_refl _
theorem flat_len {α β : Type} (f : α → List β) : ∀ l : List α, (l.flatMap f).length = (l.map fun a => (f a).length).sum
  | [] => rfl
  | a :: l => by rw [List.flatMap_cons, List.length_append, List.map_cons, List.sum_cons, flat_len f l]
theorem sum_le {α : Type} {f g : α → Nat} : ∀ {l : List α}, (∀ a ∈ l, f a ≤ g a) → (l.map f).sum ≤ (l.map g).sum
  | [], _ => Nat.le_refl _
  | a :: l, h => by
    have h1 := h a (List.mem_cons_self ..)
    have h2 := sum_le (l := l) fun b hb => h b (List.mem_cons_of_mem _ hb)
    rw [List.map_cons, List.map_cons, List.sum_cons, List.sum_cons]
    omega
theorem row_step {log : List Ps} {x : Ps} {names : List Str} (hs : x.s.few) (hn : names.Nodup) (hl : ∀ z ∈ names, z ∈ namesL) (r : Rw) (i : Nat) :
    ((((leadsBy r x.s names).filter useful).map fun l => (i, l)).flatMap (cand (log ++ [x]) x)).length + PotR log r ≤ 1 + PotR (log ++ [x]) r := by
  have h1 := potR_step log x r
  have h2 : ((((leadsBy r x.s names).filter useful).map fun l => (i, l)).flatMap (cand (log ++ [x]) x)).length ≤ (((leadsBy r x.s names).filter useful).map fun l => match l.2.1 with | none => 1 | some s2 => gain log x.s (l.1, s2)).sum := by
    rw [flat_len, List.map_map]
    refine sum_le fun l hm => ?_
    refine cand_le fun s2 e => ?_
    obtain ⟨_, g2, g3⟩ := fm_sub (q := (l.1, s2)) hs hl (List.mem_filterMap.mpr ⟨l, hm, by unfold pairOf; rw [e]; rfl⟩)
    exact ⟨g2, g3⟩
  rw [sum_parts] at h2
  have h3 := none_one (r := r) (s := x.s) (names := names)
  have h4 := sum_sub (gain log x.s) _ _ (fm_nodup (r := r) (s := x.s) hn) fun q hq => (fm_sub hs hl hq).1
  omega
theorem pot_step {rws : List Rw} {log : List Ps} {x : Ps} {names : List Str} (hs : x.s.few) (hn : names.Nodup) (hl : ∀ z ∈ names, z ∈ namesL) :
    Pot rws log + (cands rws names (log ++ [x]) x).length ≤ Pot rws (log ++ [x]) := by
  have go : ∀ (rs : List Rw) (k : Nat), (((rs.zipIdx k).flatMap fun q => ((leadsBy q.1 x.s names).filter useful).map fun l => (q.2, l)).flatMap (cand (log ++ [x]) x)).length + (rs.map (PotR log)).sum ≤ rs.length + (rs.map (PotR (log ++ [x]))).sum := by
    intro rs
    induction rs with
    | nil => intro k; exact Nat.le_refl _
    | cons r rs ih =>
      intro k
      have h1 := ih (k + 1)
      have h2 := row_step (log := log) hs hn hl r k
      rw [List.zipIdx_cons, List.flatMap_cons, List.flatMap_append, List.length_append, List.map_cons, List.map_cons, List.sum_cons, List.sum_cons, List.length_cons]
      dsimp only at h1 h2 ⊢
      omega
  have h := go rws 0
  unfold Pot cands workedN
  rw [List.length_append, List.length_singleton, Nat.mul_add, Nat.mul_one]
  omega
theorem pot_le {rws : List Rw} {names : List Str} {told : List Say} (W : WfR rws names told) {log : List Ps} (ho : log.Pairwise fun e f => pc e.m ≤ pc f.m ∧ (e.s = f.s → ¬ sub e.m f.m)) (hd : ∀ e ∈ log, Der rws names told e.s e.m) :
    Pot rws log ≤ PotB rws.length (chains rws.length).length := by
  have h1 := log_len W ho hd
  have h2 : ∀ s, cnt log s ≤ (chains rws.length).length := fun s => by
    have := masks_len W ho hd s
    unfold masksL at this
    rwa [List.length_map] at this
  have h3 : ∀ r, PotR log r ≤ 12 * ((chains rws.length).length * (chains rws.length).length) := fun r => by
    have : ∀ l : List (Say × Say), (l.map (pairW log)).sum ≤ l.length * ((chains rws.length).length * (chains rws.length).length) := by
      intro l
      induction l with
      | nil => exact Nat.zero_le _
      | cons q l ih =>
        have := Nat.mul_le_mul (h2 q.1) (h2 q.2)
        rw [List.map_cons, List.sum_cons, List.length_cons, Nat.succ_mul]
        have e : pairW log q = cnt log q.1 * cnt log q.2 := rfl
        omega
    exact Nat.le_trans (this _) (Nat.mul_le_mul_right _ (pairsR_len r))
  have h4 : ∀ rs : List Rw, (rs.map (PotR log)).sum ≤ rs.length * (12 * ((chains rws.length).length * (chains rws.length).length)) := by
    intro rs
    induction rs with
    | nil => exact Nat.zero_le _
    | cons r rs ih =>
      have := h3 r
      rw [List.map_cons, List.sum_cons, List.length_cons, Nat.succ_mul]
      omega
  unfold Pot PotB
  exact Nat.add_le_add (Nat.mul_le_mul_left _ h1) (h4 rws)
theorem chains_10 : ∀ n, n ≤ 10 → (chains n).length ≤ 252 := by
  intro n h
  have : n = 0 ∨ n = 1 ∨ n = 2 ∨ n = 3 ∨ n = 4 ∨ n = 5 ∨ n = 6 ∨ n = 7 ∨ n = 8 ∨ n = 9 ∨ n = 10 := by omega
  rcases this with e | e | e | e | e | e | e | e | e | e | e <;> rw [e] <;> decide +kernel
theorem potB_le {n A : Nat} (h1 : n ≤ 10) (h2 : A ≤ 252) : PotB n A ≤ 7700000 := by
  unfold PotB
  have := Nat.mul_le_mul h1 (Nat.mul_le_mul_left 28 h2)
  have := Nat.mul_le_mul h1 (Nat.mul_le_mul_left 12 (Nat.mul_le_mul h2 h2))
  omega
end Ah
end
section
set_option Elab.async false
set_option linter.all false
set_option maxRecDepth 100000
set_option maxHeartbeats 4000000
namespace Ah
open PySem PySem.Spec PyProof.Rows L2
def nA (rws : List Rw) : Nat := (chains rws.length).length
structure SB (rws : List Rw) (names : List Str) (told : List Say) (T0 : Nat) : Prop where
  W : WfR rws names told
  D : OkD rws names
  n8 : rws.length ≤ 10
  nn : names.Nodup
  a1 : 28 * nA rws ≤ 100000
  b1 : T0 + PotB rws.length (nA rws) + (28 * nA rws + 2) < sizeLine
theorem scLevel : FnScope ["self", "size", "at", "saying", "mask", "last"] ["self", "size"] (defScope sSearchRunLevel) := ⟨rfl, rfl, rfl, by decide +kernel, rfl, by decide +kernel, by decide +kernel⟩
theorem scRun : FnScope ["self", "size"] ["self"] (defScope sSearchRun) := ⟨rfl, rfl, rfl, by decide +kernel, rfl, by decide +kernel, by decide +kernel⟩
def spLevel (K : PySem.W.Frag) (P : Program) (w : World) (C CR : Addr) : Sp := fun vs H Q _ => ∃ (B : Hp) (x : SO) (rws : List Rw) (names : List Str) (told : List Say) (esR : List Ent) (log : List Ps) (lev : List (List Ps)) (esF : List Ent) (k T0 : Nat), vs = [.ref x.so, .int k] ∧ x.C = C ∧ x.o.C = CR ∧
  SearchAt K P w B H x rws names esR log lev esF ∧ Inv rws names told log lev k 0 ∧ k ≤ rws.length ∧ SB rws names told T0 ∧ tot lev ≤ T0 + Pot rws log ∧
  ∀ H' esR' log' lev' esF', TK H H' → SearchAt K P w B H' x rws names esR' log' lev' esF' → Inv rws names told log' lev' (k + 1) 0 → tot lev' ≤ T0 + Pot rws log' → Q .non H'
section
variable {P : Program} {w : World} {K : PySem.W.Frag} {mg : Str → Option Value} {base : Heap} {f fH fT C CR' : Addr} {fd fdH fdT : FuncData}
theorem ok_level (F : MethP K "run_level" "Search.run_level" sSearchRunLevel f fd) (CS : ClsS K C) (B0 : Bl mg)
    (mH : Meth K C "has_part" fH) (FH : FnOk P w K mg base CX0 1 fH fdH ["self", "saying", "mask"] (spHas K P w C)) (bH : Binds K fdH ["self", "saying", "mask"] [])
    (mT : Meth K C "take" fT) (FT : FnOk P w K mg base CX0 6 fT fdT ["self", "saying", "mask", "last"] (spTake K P w C CR')) (bT : Binds K fdT ["self", "saying", "mask", "last"] []) :
    FnOk P w K mg base CX0 7 f fd ["self", "size"] (spLevel K P w C CR') := by
  refine F.ok scLevel (fun vs H Q E h => ?_) (fun cdv A outer s H vs Q E hr h => ?_)
  · obtain ⟨B, x, rws, names, told, esR, log, lev, esF, k, T0, rfl, _⟩ := h
    rfl
  · obtain ⟨B, x, rws, names, told, esR0, log0, lev0, esF0, kk, T0, rfl, rfl, rfl, S0, V0, hk, b, ht0, q⟩ := h
    refine ⟨_, PSs.nox (pss_cons (ps_set (i := 2) scLevel.nd rfl (.inl rfl) pe_int)
      (pss_one (ps_while PassesOwn.never (pt_cmpR op_lt (pv 2) (pe_callB call_len_seq (by rfl) B0.len_ (by decide +kernel) (pa_cons (pe_ix ix_list (pe_fld (pv 0) rfl) (pv 1) (fun _ _ => rfl)) pa_nil)) (nomark _))
        (pss_cons (ps_asg (pe_ix ix_list (pe_ix ix_list (pe_fld (pv 0) rfl) (pv 1) (fun _ _ => rfl)) (pv 2) (fun _ _ => rfl)) (pg_tup rfl (pgs_cons (pg_name (i := 3) scLevel.nd rfl (Or.inl rfl)) (pgs_cons (pg_name (i := 4) scLevel.nd rfl (Or.inl rfl)) (pgs_cons (pg_name (i := 5) scLevel.nd rfl (Or.inl rfl)) pgs_nil)))))
        (pss_cons (ps_if (pt_not (pt_val (pe_meth (pv 0) CS.c mH FH (hr.mono (by decide)) bH .nil pass0 (pa_cons (pv 3) (pa_cons (pv 4) pa_nil))))) (pss_one (ps_expr (pe_meth (pv 0) CS.c mT FT hr bT .nil pass0 (pa_cons (pv 3) (pa_cons (pv 4) (pa_cons (pv 5) pa_nil)))))) pss_nil)
        (pss_one (ps_aug (i := 2) scLevel.nd rfl (.inl rfl) pe_int ip_add))))))), ?_⟩
    refine ⟨fun m σ Ha => ∃ i esR log lev esF, (∃ v3 v4 v5, σ = [some (.ref x.so), some (.int kk), some (.int (i : Nat)), v3, v4, v5]) ∧ TK H Ha ∧ SearchAt K P w B Ha x rws names esR log lev esF ∧ Inv rws names told log lev kk i ∧ tot lev ≤ T0 + Pot rws log ∧ m = sizeLine - i,
      ⟨_, 0, esR0, log0, lev0, esF0, ⟨_, _, _, rfl⟩, TK.refl _, S0, V0, ht0, rfl⟩, ?_⟩
    rintro m σ Ha ⟨i, esR, log, lev, esF, ⟨v3, v4, v5, rfl⟩, tk, S, J, ht, rfl⟩
    have hls : x.ls.length = lev.length := S.lv.length
    have hlen := J.len
    obtain ⟨a, ha⟩ : ∃ a, x.ls[kk]? = some a := ⟨_, List.getElem?_eq_getElem (by omega)⟩
    obtain ⟨ps, e1, vs, hvs, rvs⟩ := paired_at S.lv ha
    have elv := lv_get e1
    have lvs := rvs.length
    have hll : (x.ls.map V.ref)[kk]? = some (V.ref a) := by rw [List.getElem?_map, ha]; rfl
    have hd : ∀ e ∈ log, Der rws names told e.s e.m := fun e he => (J.lg e he).2
    have hlog := log_len b.W J.ord hd
    have hb := b.b1
    have ha1 := b.a1
    have hpot : Pot rws log ≤ PotB rws.length (nA rws) := pot_le b.W J.ord hd
    have hvt : vs.length ≤ tot lev := by
      have := lv_tot (lev := lev) (k := kk)
      rw [elv] at this
      omega
    have hA : log.length ≤ 28 * nA rws := hlog
    refine ⟨_, rfl, _, rfl, _, _, _, _, _, rfl, S.ob, CS.c, CS.n3, rfl, _, rfl, x.ll, _, ((kk : Nat) : Int), V.ref a, rfl, rfl, .inl (.of S.ll), at_of (j := kk) rfl hll, a, vs, rfl, .inl (.inl (.of hvs)), _, _, rfl, rfl, _, rfl, ?_⟩
    by_cases hi : i < vs.length
    · refine if_eq (decide_eq_true (Int.ofNat_lt.mpr hi)) (iteT ?_)
      refine ⟨fun σ' H' => ∃ m', m' < sizeLine - i ∧ ∃ i esR log lev esF, (∃ v3 v4 v5, σ' = [some (.ref x.so), some (.int kk), some (.int (i : Nat)), v3, v4, v5]) ∧ TK H H' ∧ SearchAt K P w B H' x rws names esR log lev esF ∧ Inv rws names told log lev kk i ∧ tot lev ≤ T0 + Pot rws log ∧ m' = sizeLine - i, fun σ' H' h => h, ?_⟩
      obtain ⟨v, ev⟩ : ∃ v, vs[i]? = some v := ⟨_, List.getElem?_eq_getElem hi⟩
      obtain ⟨p, ep, qa, v1, rfl, hq, hs⟩ := paired_at rvs ev
      have hx : (lv lev kk)[i]? = some p := by rw [elv]; exact ep
      obtain ⟨hpk, dp, _⟩ := J.lvl kk p (List.mem_of_getElem? hx)
      have okp : okW p.s.ws := allSay_ok _ (mem_allSay (der_few b.W dp).1)
      have lm : sizeLine - (i + 1) < sizeLine - i := by omega
      refine ⟨_, rfl, _, _, _, _, _, rfl, S.ob, CS.c, CS.n3, rfl, _, rfl, x.ll, _, ((kk : Nat) : Int), V.ref a, rfl, rfl, .inl (.of S.ll), at_of (j := kk) rfl hll, _, rfl, a, vs, ((i : Nat) : Int), V.ref qa, rfl, rfl, .inl (.of hvs), at_of (j := i) rfl ev, ?_⟩
      refine ⟨qa, _, rfl, .inl (.of hq), rfl, _, _, rfl, _, _, rfl, _, _, rfl, rfl, ?_⟩
      refine ⟨_, rfl, x.so, x.dx, _, rfl, S.ob, rfl, _, rfl, _, rfl, B, x, v1, rws, names, esR, log, lev, esF, p.s, p.m, rfl, rfl, S, hs, fun H1 k1 => ?_⟩
      have S1 := S.kept k1
      cases hb : hasB log p.s p.m with
      | true =>
        refine ⟨true, rfl, iteF ?_⟩
        exact ⟨_, rfl, _, _, rfl, rfl, _, lm, i + 1, esR, log, lev, esF, ⟨_, _, _, rfl⟩, tk.trans (.of k1), S1, J.skip hx (hasB_iff.mp hb), ht, rfl⟩
      | false =>
        refine ⟨false, rfl, iteT ?_⟩
        have hn : ¬ hasP log p.s p.m := fun z => by
          rw [hasB_iff.mpr z] at hb
          cases hb
        have V2 := J.take b.W hx hn
        have hd2 : ∀ e ∈ log ++ [p], Der rws names told e.s e.m := fun e he => (V2.lg e he).2
        have hcl : Pot rws log + (cands rws names (log ++ [p]) p).length ≤ Pot rws (log ++ [p]) := pot_step (der_few b.W dp).1 b.nn b.W.nl
        have hpot2 : Pot rws (log ++ [p]) ≤ PotB rws.length (nA rws) := pot_le b.W V2.ord hd2
        have hpm : p ∈ log ++ [p] := List.mem_append_right _ (List.mem_singleton.mpr rfl)
        have htt := putsS_tot (log := log ++ [p]) (lev := lev) (cs := cands rws names (log ++ [p]) p) (fun c hc => pc_in b.W J.len (cands_ok hd2 hpm c hc).1)
        refine ⟨_, rfl, x.so, x.dx, _, rfl, S1.ob, rfl, _, rfl, _, rfl, _, rfl, B, x, v1, rws, names, esR, log, lev, esF, p, rfl, rfl, rfl, S1, hs.tk (.of k1), okp, b.D, b.n8, J.len, fun e he => der_lt (hd2 e he), by omega, by omega, fun H2 esR' esF' t2 S2 => ?_⟩
        refine ⟨_, rfl, _, _, rfl, rfl, _, lm, i + 1, esR', log ++ [p], _, esF', ⟨_, _, _, rfl⟩, (tk.trans (.of k1)).trans t2, S2, V2, ?_, rfl⟩
        omega
    · refine if_eq (decide_eq_false (fun z => hi (Int.ofNat_lt.mp z))) (iteF ?_)
      exact q Ha esR log lev esF tk S (J.level (by rw [elv]; omega)) ht
end
end Ah
end
section
set_option Elab.async false
set_option linter.all false
set_option maxRecDepth 100000
set_option maxHeartbeats 4000000
namespace Ah
open PySem PySem.Spec PyProof.Rows L2
def spRun (K : PySem.W.Frag) (P : Program) (w : World) (C CR : Addr) : Sp := fun vs H Q _ => ∃ (B : Hp) (x : SO) (rws : List Rw) (names : List Str) (told : List Say) (esR : List Ent) (log : List Ps) (lev : List (List Ps)) (esF : List Ent) (T0 : Nat), vs = [.ref x.so] ∧ x.C = C ∧ x.o.C = CR ∧
  SearchAt K P w B H x rws names esR log lev esF ∧ Inv rws names told log lev 0 0 ∧ SB rws names told T0 ∧ tot lev ≤ T0 + Pot rws log ∧
  ∀ H' esR' log' lev' esF', TK H H' → SearchAt K P w B H' x rws names esR' log' lev' esF' → Inv rws names told log' lev' (rws.length + 1) 0 → Q .non H'
section
variable {P : Program} {w : World} {K : PySem.W.Frag} {mg : Str → Option Value} {base : Heap} {f fV C CR' : Addr} {fd fdV : FuncData}
theorem ok_run (F : MethP K "run" "Search.run" sSearchRun f fd) (CS : ClsS K C) (B0 : Bl mg)
    (mV : Meth K C "run_level" fV) (FV : FnOk P w K mg base CX0 7 fV fdV ["self", "size"] (spLevel K P w C CR')) (bV : Binds K fdV ["self", "size"] []) :
    FnOk P w K mg base CX0 8 f fd ["self"] (spRun K P w C CR') := by
  refine F.ok scRun (fun vs H Q E h => ?_) (fun cdv A outer s H vs Q E hr h => ?_)
  · obtain ⟨B, x, rws, names, told, esR, log, lev, esF, T0, rfl, _⟩ := h
    rfl
  · obtain ⟨B, x, rws, names, told, esR0, log0, lev0, esF0, T0, rfl, rfl, rfl, S0, V0, b, ht0, q⟩ := h
    refine ⟨_, PSs.nox (pss_one (ps_for PassesOwn.never rfl (pi_range1 (by rfl) B0.range_ (pa_cons (pe_callB call_len_seq (by rfl) B0.len_ (by decide +kernel) (pa_cons (pe_fld (pv 0) rfl) pa_nil)) pa_nil)) (pg_name (i := 1) scRun.nd rfl (Or.inl rfl))
      (pss_one (ps_expr (pe_meth (pv 0) CS.c mV FV hr bV .nil pass0 (pa_cons (pv 1) pa_nil)))))), ?_⟩
    have hn8 := b.n8
    have hll : (x.ls.map V.ref).length = rws.length + 1 := by rw [List.length_map, S0.lv.length, V0.len]
    refine ⟨_, rfl, _, _, _, _, _, rfl, S0.ob, CS.c, CS.n3, rfl, x.ll, _, rfl, .inl (.inl (.of S0.ll)), ?_⟩
    rw [hll]
    refine ⟨rws.length + 1, rfl, by omega, by omega, for_it (walk_range (lo := 0) (n := rws.length + 1))
      (fun k σ Ha => ∃ esR log lev esF, (∃ v1, σ = [some (.ref x.so), v1]) ∧ TK H Ha ∧ SearchAt K P w B Ha x rws names esR log lev esF ∧ Inv rws names told log lev k 0 ∧ tot lev ≤ T0 + Pot rws log)
      ⟨esR0, log0, lev0, esF0, ⟨_, rfl⟩, TK.refl _, S0, V0, ht0⟩ (fun _ _ _ _ _ => trivial) ?_ ?_⟩
    · rintro k y σ Ha0 Ha hk ⟨esR, log, lev, esF, ⟨v1, rfl⟩, tk, S, J, ht⟩ ⟨rfl, ex⟩
      have ex2 : y = V.int (k : Int) := by
        rw [ex]
        show V.int (0 + (k : Int)) = _
        rw [Int.zero_add]
      clear ex
      subst ex2
      refine ⟨_, rfl, x.so, x.dx, _, rfl, S.ob, rfl, _, rfl, B, x, rws, names, told, esR, log, lev, esF, k, T0, rfl, rfl, rfl, S, J, by omega, b, ht, fun H' esR' log' lev' esF' t' S' J' ht' => ?_⟩
      exact ⟨esR', log', lev', esF', ⟨_, rfl⟩, tk.trans t', S', J', ht'⟩
    · rintro σ Ha ⟨esR, log, lev, esF, ⟨v1, rfl⟩, tk, S, J, ht⟩
      exact q Ha esR log lev esF tk S J
end
/-! ### masks -/
theorem scMasks : FnScope ["self", "result", "mask", "_"] ["self", "result"] (defScope sSearchMasks) := ⟨rfl, rfl, rfl, by decide +kernel, rfl, by decide +kernel, by decide +kernel⟩
def intsM (ms : List Nat) : List V := ms.map fun m : Nat => V.int (m : Int)
def spMasks (K : PySem.W.Frag) (P : Program) (w : World) (C : Addr) : Sp := fun vs H Q _ => ∃ (B : Hp) (x : SO) (sv : V) (rws : List Rw) (names : List Str) (esR : List Ent) (log : List Ps) (lev : List (List Ps)) (esF : List Ent) (s : Say), vs = [.ref x.so, sv] ∧ x.C = C ∧
  SearchAt K P w B H x rws names esR log lev esF ∧ log.length ≤ 100000 ∧ SayAt K H sv s ∧
  ∀ p ms H', Kept [] H H' → H p = none → H' p = some (.lst (intsM ms)) → List.Perm ms (masksL log s) → ms.Pairwise (· ≤ ·) → Q (.ref p) H'
section
variable {P : Program} {w : World} {K : PySem.W.Frag} {mg : Str → Option Value} {base : Heap} {f C : Addr} {fd : FuncData}
theorem ok_masks (F : MethP K "masks" "Search.masks" sSearchMasks f fd) (CS : ClsS K C) (B0 : Bl mg) : FnOk P w K mg base CX0 1 f fd ["self", "result"] (spMasks K P w C) := by
  refine F.ok scMasks (fun vs H Q E h => ?_) (fun cdv A outer s H vs Q E hr h => ?_)
  · obtain ⟨B, x, sv, rws, names, esR, log, lev, esF, sy, rfl, _⟩ := h
    rfl
  · obtain ⟨B, x, sv, rws, names, esR, log, lev, esF, sy, rfl, rfl, S, hll, hsay, k⟩ := h
    have hu : A.units + 3 + 1 < cLine := by have := hr.units; exact (by have h2 : (A.deeper (envOfC "Search.masks" (defScope sSearchMasks) s.heap.objs.size f cdv)).units = A.units + 3 := rfl; omega)
    refine ⟨_, PSs.nox (pss_one (ps_ret (pe_callB (show CallR _ _ (rSortedI K) from cr_sortedI) (by rfl) B0.sorted_ (by decide +kernel) (pa_cons (pe_lc (own := [("mask", 2), ("_", 3)]) (g := gTup K 2 (gCons (gName 2) (gCons (gName 3) gNil))) (tt := tYes) rfl scMasks.nd (pi_list (pe_dicM PySem.F.slot_dict_get PySem.F.type_dict_get (mt_dicGet hu) (pe_fld (pv 0) rfl) (pa_cons (pv 1) (pa_cons (pe_lst pa_nil) pa_nil))))
      (blkOk_by (N := ["self", "result", "mask", "_"]) (sc := defScope sSearchMasks) (by decide +kernel)) (fun _ _ _ _ _ => (pg_tup rfl (pgs_cons (pg_name (i := 2) scMasks.nd rfl (Or.inl rfl)) (pgs_cons (pg_name (i := 3) scMasks.nd rfl (Or.inl rfl)) pgs_nil)))) (fun _ _ _ _ _ => pts_nil) (fun _ _ _ _ _ => (pv 2))) pa_nil)))), ?_⟩
    obtain ⟨sa, rfl, hsa⟩ := id hsay
    refine ⟨_, rfl, _, _, _, _, _, rfl, S.ob, CS.c, CS.n2, rfl, ⟨x.fd, esF, rfl, .inl S.fd⟩, _, rfl, Nat.zero_le _, fun ln nl => ?_⟩
    have kl : Kept [] H (L2.upd H ln (.lst [])) := (Kept.refl H).upd nl
    obtain ⟨a, ea, ⟨vs, hvs, rvs⟩, an⟩ := S.get sy nl
    have lvs := rvs.length
    have Sl := S.kept kl
    refine ⟨x.fd, sa, esF, keyW sy.ws, .ref ln, rfl, rfl, .inl Sl.fd, Sl.keys, (by rw [keyW_kV]; exact sqT_tk (.of kl) hsa), ?_⟩
    rw [ea]
    refine ⟨a, rfl, ⟨vs, .inl (.of hvs)⟩, fun D nD => ?_⟩
    refine lc_it (walk_list (K := K) (a := a) (xs := vs)) (fun i Ha => Ha D = some (.lst (intsM (((ofS log sy).take i).map (·.m)))) ∧ Kept [] (L2.upd H ln (.lst [])) Ha) ⟨upd_same, (Kept.refl _).upd nD⟩ (fun i Ha _ pv => .inl (.of (pv.2 _ _ hvs (by simp)))) ?_ ?_
    · rintro i y Ha0 Ha hi ⟨e1, kk⟩ ⟨rfl, ey⟩
      obtain ⟨e, he, q, rfl, hq⟩ := paired_at rvs ey
      refine ⟨q, _, rfl, .inl (.of (kk _ _ hq (by simp))), rfl, _, _, rfl, _, _, rfl, rfl, ?_⟩
      refine ⟨rfl, yes_if ⟨_, rfl, _, e1, ?_, ?_, ?_⟩⟩
      · unfold intsM
        rw [List.length_map, List.length_map, List.length_take]
        have h2 : (ofS log sy).length ≤ log.length := List.length_filter_le ..
        exact Nat.lt_of_le_of_lt (show min i (ofS log sy).length ≤ 100000 by omega) (by decide)
      · rw [List.take_add_one, he]
        unfold intsM
        rw [List.map_append, List.map_append]
        exact upd_same
      · exact kD_far nD kk
    · rintro Ha ⟨e1, kk⟩
      rw [lvs, List.take_of_length_le (Nat.le_refl _)] at e1
      have em : intsM ((ofS log sy).map (·.m)) = (((masksL log sy).map fun m : Nat => (m : Int)).map V.int) := by
        unfold intsM masksL ofS
        rw [List.map_map, List.map_map, List.map_map]
        rfl
      rw [em] at e1
      refine ⟨D, _, rfl, .inl (.of e1), fun ns' p hp hw np => ?_⟩
      have hnn : ∀ z ∈ ns', 0 ≤ z := fun z hz => by
        obtain ⟨m, _, rfl⟩ := List.mem_map.mp (hp.mem_iff.mp hz)
        exact Int.natCast_nonneg m
      have kD : Kept [] H Ha := kl.trans kk
      refine k p (ns'.map Int.toNat) _ (kD.upd np) (none_of kD np) ?_ ?_ ?_
      · have : ns'.map V.int = intsM (ns'.map Int.toNat) := by
          unfold intsM
          rw [List.map_map]
          refine List.map_congr_left fun z hz => ?_
          show V.int z = V.int ((z.toNat : Nat) : Int)
          rw [Int.toNat_of_nonneg (hnn z hz)]
        rw [this]
        exact upd_same
      · have h2 := hp.map Int.toNat
        rw [List.map_map] at h2
        have h3 : (masksL log sy).map (Int.toNat ∘ fun m : Nat => (m : Int)) = masksL log sy := by
          rw [show (Int.toNat ∘ fun m : Nat => (m : Int)) = id from funext fun m => Int.toNat_natCast m, List.map_id]
        rw [h3] at h2
        exact h2
      · rw [List.pairwise_map]
        exact hw.imp fun {a b} h => Int.toNat_le_toNat h
end
end Ah
end
section
set_option Elab.async false
set_option linter.all false
set_option maxRecDepth 100000
set_option maxHeartbeats 8000000
namespace Ah
open PySem PySem.Spec PyProof.Rows L2
/-! ### lots_of_mask -/
theorem scLM : FnScope ["mask", "places", "lots", "at", "numbers", "lot", "number"] ["mask", "places"] (defScope sLotsOfMask) := ⟨rfl, rfl, rfl, by decide +kernel, rfl, by decide +kernel, by decide +kernel⟩
def PlsAt (H : Hp) (v : V) (l : List Nat) : Prop := ∃ a, v = .ref a ∧ H a = some (.lst (intsL l))
def spLM (K : PySem.W.Frag) : Sp := fun vs H Q _ => ∃ (m : Nat) (q : Addr) (pv : List V) (pls : List (List Nat)), vs = [.int (m : Int), .ref q] ∧ H q = some (.lst pv) ∧ Paired (PlsAt H) pv pls ∧ pls.length ≤ 1000 ∧ (∀ i, i ≤ pls.length → (prodP pls m i).length ≤ 10000) ∧ (∀ L ∈ prodP pls m pls.length, L.Nodup) ∧
  ∀ p ws H', Kept [] H H' → H p = none → H' p = some (.lst ws) → Paired (LotAt K H') ws ((prodP pls m pls.length).map sortN) → Q (.ref p) H'
theorem prodP_len {pls : List (List Nat)} {m : Nat} : ∀ {i : Nat} {L : List Nat}, L ∈ prodP pls m i → L.length ≤ i
  | 0, L, h => by
    rw [List.mem_singleton.mp (show L ∈ [[]] from h)]
    exact Nat.le_refl _
  | i + 1, L, h => by
    unfold prodP at h
    split at h
    · obtain ⟨L0, h0, h1⟩ := List.mem_flatMap.mp h
      obtain ⟨n, _, rfl⟩ := List.mem_map.mp h1
      have := prodP_len h0
      rw [List.length_append, List.length_singleton]
      omega
    · have := prodP_len h
      omega
theorem shr_bit (m i : Nat) : (Builtin.bitAnd ((m : Int) / 2 ^ ((i : Nat) : Int).toNat) 1 != 0) = m.testBit i := by
  have e : (m : Int) / 2 ^ ((i : Nat) : Int).toNat = ((m / 2 ^ i : Nat) : Int) := by
    rw [Int.toNat_natCast]
    norm_cast
  rw [e, show (1 : Int) = ((1 : Nat) : Int) from rfl, b_and]
  have e2 : m.testBit i = decide ((m / 2 ^ i) % 2 = 1) := Nat.testBit_eq_decide_div_mod_eq
  rw [e2, Nat.and_one_is_mod]
  have h : (m / 2 ^ i) % 2 = 0 ∨ (m / 2 ^ i) % 2 = 1 := by omega
  rcases h with h | h <;> rw [h] <;> rfl
theorem nat_ints {ns : List Int} {L : List Nat} (h : ns.Perm (L.map fun n : Nat => (n : Int))) (hw : ns.Pairwise (· ≤ ·)) (n : L.Nodup) : ns.map V.int = intsL (sortN L) := by
  have hnn : ∀ z ∈ ns, 0 ≤ z := fun z hz => by
    obtain ⟨m, _, rfl⟩ := List.mem_map.mp (h.mem_iff.mp hz)
    exact Int.natCast_nonneg m
  have e1 : ns.map V.int = intsL (ns.map Int.toNat) := by
    unfold intsL
    rw [List.map_map]
    refine List.map_congr_left fun z hz => ?_
    show V.int z = V.int ((z.toNat : Nat) : Int)
    rw [Int.toNat_of_nonneg (hnn z hz)]
  have h2 := h.map Int.toNat
  rw [List.map_map] at h2
  have h3 : L.map (Int.toNat ∘ fun m : Nat => (m : Int)) = L := by
    rw [show (Int.toNat ∘ fun m : Nat => (m : Int)) = id from funext fun m => Int.toNat_natCast m, List.map_id]
  rw [h3] at h2
  rw [e1, sortN_eq n h2 (by rw [List.pairwise_map]; exact hw.imp fun {a b} h => Int.toNat_le_toNat h)]
theorem if_bl {b : Bool} {X Y : Prop} (h1 : b = true → X) (h2 : b = false → Y) : if b = true then X else Y := by
  cases b with
  | true => exact h1 rfl
  | false => exact h2 rfl
section
variable {P : Program} {w : World} {K : PySem.W.Frag} {mg : Str → Option Value} {base : Heap} {f : Addr} {fd : FuncData}
theorem ok_lotsofmask (F : FnP K "lots_of_mask" sLotsOfMask f fd) (B : Bl mg) : FnOk P w K mg base CX0 1 f fd ["mask", "places"] (spLM K) := by
  refine F.ok scLM (fun vs H Q E h => ?_) (fun cdv A outer s H vs Q E hr h => ?_)
  · obtain ⟨m, q, pv, pls, rfl, _⟩ := h
    rfl
  · obtain ⟨m, q, pv, pls, rfl, hq, hpv, hpl, hfew, hnd, k⟩ := h
    refine ⟨_, PSs.nox (pss_cons (ps_set (i := 2) scLM.nd rfl (.inl rfl) (pe_lst (pa_cons (pe_tup pa_nil) pa_nil)))
      (pss_cons (ps_for PassesOwn.never rfl (pi_enum (by rfl) B.enumerate_ (pa_cons (L2.pv 1) pa_nil)) (pg_tup rfl (pgs_cons (pg_name (i := 3) scLM.nd rfl (.inl rfl)) (pgs_cons (pg_name (i := 4) scLM.nd rfl (.inr rfl)) pgs_nil)))
        (pss_one (ps_if (pt_truth (pe_op op_and (pe_op op_shr (L2.pv 0) (L2.pv 3)) pe_int) (by intro _; rfl))
          (pss_one (ps_setLc2 (i := 2) (own := [("lot", 5), ("number", 6)]) (vs1 := [6]) (tt := tYes) (tt1 := tYes) rfl scLM.nd rfl rfl (sw_true rfl rfl rfl (by decide +kernel)) (pi_list (L2.pv 2)) (blkOk_by (N := ["mask", "places", "lots", "at", "numbers", "lot", "number"]) (sc := defScope sLotsOfMask) (by decide +kernel)) (by decide)
            (fun _ _ _ _ _ => pg_name (i := 5) scLM.nd rfl (Or.inl rfl)) (fun _ _ _ _ _ => pts_nil)
            (fun _ _ _ _ _ => show PI _ _ _ (iList K _) from pi_list (L2.pv 4))
            (fun _ _ _ _ _ => pg_name (i := 6) scLM.nd rfl (Or.inl rfl)) (fun _ _ _ _ _ => pts_nil)
            (fun _ _ _ _ _ => pe_tup (show PA _ _ (StX.tStar K _ _) from StX.pa_star (L2.pv 5) (pa_cons (L2.pv 6) pa_nil))))) pss_nil)))
      (pss_one (ps_ret (pe_lc (own := [("lot", 5)]) (g := gName 5) (tt := tYes) rfl scLM.nd (pi_list (L2.pv 2)) (blkOk_by (N := ["mask", "places", "lots", "at", "numbers", "lot", "number"]) (sc := defScope sLotsOfMask) (by decide +kernel))
        (fun _ _ _ _ _ => pg_name (i := 5) scLM.nd rfl (Or.inl rfl)) (fun _ _ _ _ _ => pts_nil)
        (fun _ _ _ _ _ => pe_callTy (show CallR _ _ (fun xs H Q => ∃ p ys, xs = [.ref p] ∧ ((SqL K H p ys ∧ ∀ l, H l = none → Q (.ref l) (upd H l (.tup ys))) ∨ (SqT K H p ys ∧ Q (.ref p) H))) from call_tuple_of) (by rfl) B.tuple_ (by decide +kernel)
          (pa_cons (pe_callB (show CallR _ _ (rSortedIT K) from cr_sortedIT hr.units) (by rfl) B.sorted_ (by decide +kernel) (pa_cons (L2.pv 5) pa_nil)) pa_nil))))))), ?_⟩
    refine ⟨Nat.zero_le _, fun e0 ne0 => ⟨by show 1 ≤ sizeLine; rw [sizeLine_eq]; decide, fun D0 nD0 => ?_⟩⟩
    have k0 : Kept [] H (L2.upd (L2.upd H e0 (.tup [])) D0 (.lst [V.ref e0])) := ((Kept.refl H).upd ne0).upd nD0
    refine ⟨_, rfl, q, pv, rfl, .inl (.of (k0 _ _ hq (by simp))), for_it (walk_enum (K := K) (a := q) (xs := pv))
      (fun i σ Ha => (∃ D v3 v4 v5 v6, σ = [some (.int (m : Int)), some (.ref q), some (.ref D), v3, v4, v5, v6] ∧ ∃ ws, Ha D = some (.lst ws) ∧ Paired (LotAt K Ha) ws (prodP pls m i)) ∧ Kept [] H Ha)
      ⟨⟨D0, _, _, _, _, rfl, [V.ref e0], upd_same, .cons ⟨e0, rfl, .inl (.of (by rw [upd_ne (fun z => by rw [z, upd_same] at nD0; cases nD0)]; exact upd_same))⟩ .nil⟩, k0⟩ (fun i σ Ha _ pv => .inl (.of (pv.2 _ _ hq (by simp)))) ?_ ?_⟩
    · rintro i x σ Ha Hb hi ⟨⟨D, v3, v4, v5, v6, rfl, ws, eD, rw_⟩, kk⟩ ⟨Tp, x1, x2, rfl, nT, rfl, g1, g2⟩
      cases g1
      dsimp only at g2
      obtain ⟨ps, eps, nb, rfl, hnb⟩ := paired_at hpv g2
      have lpv := hpv.length
      have kT : Kept [] Ha (L2.upd Ha Tp (.tup [.int (i : Nat), .ref nb])) := (Kept.refl Ha).upd nT
      refine ⟨Tp, _, rfl, .inl (.of upd_same), rfl, _, _, rfl, _, _, rfl, rfl, ?_⟩
      refine ⟨_, rfl, _, rfl, _, _, rfl, rfl, Int.natCast_nonneg i, _, _, rfl, rfl, _, rfl, if_eq (shr_bit m i) (if_bl (fun h => ?_) (fun h => ?_))⟩
      · have eDT := kT _ _ eD (by simp)
        have lws := rw_.length
        have few1 := hfew i (by omega)
        have few2 := hfew (i + 1) (by omega)
        have ep : prodP pls m (i + 1) = (prodP pls m i).flatMap fun L => ps.map fun n => L ++ [n] := by
          rw [prodP, if_pos h, eps]
          rfl
        rw [ep] at few2
        refine ⟨_, rfl, D, rfl, ⟨ws, .inl (.of eDT)⟩, fun D2 nD2 => ?_⟩
        have k2 : Kept [] Ha (L2.upd (L2.upd Ha Tp (.tup [.int (i : Nat), .ref nb])) D2 (.lst [])) := kT.upd nD2
        refine walk_W (walk_list (K := K) (a := D) (xs := ws)) (fun j Hc => ∃ us, Hc D2 = some (.lst us) ∧ Paired (LotAt K Hc) us (((prodP pls m i).take j).flatMap fun L => ps.map fun n => L ++ [n]) ∧ Kept [] (L2.upd Ha Tp (.tup [.int (i : Nat), .ref nb])) Hc)
          ⟨[], upd_same, .nil, (Kept.refl _).upd nD2⟩ (fun j Hc _ pv => .inl (.of (pv.choose_spec.2.2 _ _ eDT (by simp)))) ?_ ?_
        · rintro j y Hc0 Hc hj ⟨us, e1, r1, kc⟩ ⟨rfl, ey⟩
          obtain ⟨L, eL, b, rfl, hL0⟩ := paired_at rw_ ey
          have lL := prodP_len (List.mem_of_getElem? eL)
          have kA := kT.trans kc
          have hLb : SqT K Hc b (intsL L) := sqT_tk (.of kA) hL0
          have hnc : Hc nb = some (.lst (intsL ps)) := kA _ _ (kk _ _ hnb (by simp)) (by simp)
          have room : us.length + ps.length ≤ 10000 := by
            have h1 := r1.length
            have h2 : (((prodP pls m i).take j ++ [L]).flatMap fun L => ps.map fun n => L ++ [n]).length ≤ ((prodP pls m i).flatMap fun L => ps.map fun n => L ++ [n]).length := by
              have e := congrArg (fun l : List (List Nat) => (l.flatMap fun L => ps.map fun n => L ++ [n]).length) (List.take_append_drop (j + 1) (prodP pls m i))
              rw [List.flatMap_append, List.length_append, take_succ_get eL] at e
              omega
            rw [List.flatMap_append, List.length_append, ← h1] at h2
            simp only [List.flatMap_cons, List.flatMap_nil, List.append_nil, List.length_map] at h2
            omega
          refine ⟨rfl, yes_if ?_⟩
          refine ⟨_, rfl, nb, rfl, ⟨_, .inl (.of hnc)⟩, ?_⟩
          refine walk_W (walk_list (K := K) (a := nb) (xs := intsL ps)) (fun l Hd => ∃ us', Hd D2 = some (.lst us') ∧ Paired (LotAt K Hd) us' ((((prodP pls m i).take j).flatMap fun L => ps.map fun n => L ++ [n]) ++ (ps.take l).map fun n => L ++ [n]) ∧ Kept [] (L2.upd Ha Tp (.tup [.int (i : Nat), .ref nb])) Hd)
            ⟨us, e1, by rw [List.take_zero, List.map_nil, List.append_nil]; exact r1, kc⟩ (fun l Hd _ pv => .inl (.of (pv.choose_spec.2.2 _ _ (kT _ _ (kk _ _ hnb (by simp)) (by simp)) (by simp)))) ?_ ?_
          · rintro l z Hd0 Hd hl ⟨us', e2, r2, kd⟩ ⟨rfl, ez⟩
            unfold intsL at ez
            rw [List.getElem?_map] at ez
            obtain ⟨n, en, rfl⟩ := Option.map_eq_some_iff.mp ez
            have hLd : SqT K Hd b (intsL L) := sqT_tk (.of (kT.trans kd)) hL0
            refine ⟨rfl, yes_if ?_⟩
            refine ⟨_, rfl, b, _, rfl, .inl hLd, _, rfl, ?_, fun t nt => ?_⟩
            · have : (intsL L ++ [V.int (n : Int)]).length ≤ 2000 := by
                rw [List.length_append]
                unfold intsL
                rw [List.length_map, List.length_singleton]
                omega
              exact Nat.le_of_lt (Nat.lt_of_le_of_lt this (by decide))
            · have kt : Kept [] Hd (L2.upd Hd t (.tup (intsL L ++ [V.int (n : Int)]))) := (Kept.refl Hd).upd nt
              have e3 := kt _ _ e2 (by simp)
              have r3 := r2.length
              have ln : l < ps.length := get_lt en
              have tk := (TK.refl (L2.upd Hd t (.tup (intsL L ++ [V.int (n : Int)])))).updL (o := .lst (us' ++ [V.ref t])) e3
              have h1 := r1.length
              refine ⟨us', e3, ?_, us' ++ [V.ref t], upd_same, ?_, kD_far nD2 (kd.trans kt)⟩
              · rw [List.length_append, List.length_map, List.length_take, ← h1] at r3
                exact Nat.lt_of_le_of_lt (show us'.length ≤ 10000 by omega) (by decide)
              · rw [take_succ_get en, List.map_append, ← List.append_assoc]
                refine paired_app (Paired.mapP r2 fun _ _ z => (z.tk (.of kt)).tk tk) (.cons ⟨t, rfl, sqT_tk tk (.inl (.of ?_))⟩ .nil)
                unfold intsL
                rw [List.map_append]
                exact upd_same
          · rintro Hd ⟨us', e2, r2, kd⟩
            have hlI : (intsL ps).length = ps.length := List.length_map ..
            rw [hlI, List.take_of_length_le (Nat.le_refl _)] at r2
            refine ⟨us', e2, ?_, kd⟩
            rw [take_succ_get eL, List.flatMap_append]
            simp only [List.flatMap_cons, List.flatMap_nil, List.append_nil]
            exact r2
        · rintro Hc ⟨us, e1, r1, kc⟩
          rw [lws, List.take_of_length_le (Nat.le_refl _), ← ep] at r1
          exact ⟨⟨D2, _, _, _, _, rfl, us, e1, r1⟩, kk.trans (kT.trans kc)⟩
      · have ep : prodP pls m (i + 1) = prodP pls m i := by
          rw [prodP, if_neg (by rw [h]; decide)]
        refine ⟨⟨D, _, _, _, _, rfl, ws, kT _ _ eD (by simp), ?_⟩, kk.trans kT⟩
        rw [ep]
        exact Paired.mapP rw_ fun _ _ z => z.tk (.of kT)
    · rintro σ Ha ⟨⟨D, v3, v4, v5, v6, rfl, ws, eD, rw_⟩, kk⟩
      have lpv := hpv.length
      rw [lpv] at rw_
      have few1 := hfew pls.length (Nat.le_refl _)
      have lws := rw_.length
      refine ⟨_, rfl, D, rfl, ⟨ws, .inl (.of eD)⟩, fun D2 nD2 => ?_⟩
      refine lc_it (walk_list (K := K) (a := D) (xs := ws)) (fun j Hc => ∃ us, Hc D2 = some (.lst us) ∧ Paired (LotAt K Hc) us (((prodP pls m pls.length).take j).map sortN) ∧ Kept [] Ha Hc)
        ⟨[], upd_same, .nil, (Kept.refl Ha).upd nD2⟩ (fun j Hc _ pv => .inl (.of (pv.choose_spec.2.2 _ _ eD (by simp)))) ?_ ?_
      · rintro j y Hc0 Hc hj ⟨us, e1, r1, kc⟩ ⟨rfl, ey⟩
        obtain ⟨L, eL, b, rfl, hL0⟩ := paired_at rw_ ey
        refine ⟨rfl, yes_if ?_⟩
        refine ⟨_, rfl, b, L, rfl, sqT_tk (.of kc) hL0, fun s1 ns1 => ⟨s1, _, rfl, .inl ⟨.inl (.of upd_same), fun t nt => ?_⟩⟩⟩
        have kt : Kept [] Hc (L2.upd (L2.upd Hc s1 (.lst (intsL (sortN L)))) t (.tup (intsL (sortN L)))) := ((Kept.refl Hc).upd ns1).upd nt
        have e3 := kt _ _ e1 (by simp)
        have tk := (TK.refl (L2.upd (L2.upd Hc s1 (.lst (intsL (sortN L)))) t (.tup (intsL (sortN L))))).updL (o := .lst (us ++ [V.ref t])) e3
        refine ⟨us, e3, ?_, us ++ [V.ref t], upd_same, ?_, kD_far nD2 (kc.trans kt)⟩
        · have h1 := r1.length
          rw [List.length_map, List.length_take] at h1
          exact Nat.lt_of_le_of_lt (show us.length ≤ 10000 by omega) (by decide)
        · rw [take_succ_get eL, List.map_append]
          exact paired_app (Paired.mapP r1 fun _ _ z => (z.tk (.of kt)).tk tk) (.cons ⟨t, rfl, sqT_tk tk (.inl (.of upd_same))⟩ .nil)
      · rintro Hc ⟨us, e1, r1, kc⟩
        rw [lws, List.take_of_length_le (Nat.le_refl _)] at r1
        exact k D2 us Hc (kk.trans kc) (none_of kk nD2) e1 r1
end
end Ah
end
section
set_option Elab.async false
set_option linter.all false
set_option maxRecDepth 100000
set_option maxHeartbeats 8000000
namespace Ah
open PySem PySem.Spec PyProof.Rows L2
/-! ### as_lots -/
theorem scAL : FnScope ["masks", "rows", "places", "lots", "mask", "lot"] ["masks", "rows"] (defScope sAsLots) := ⟨rfl, rfl, rfl, by decide +kernel, rfl, by decide +kernel, by decide +kernel⟩
def qAL : Str := "as_lots.<locals>.<lambda>"
def spAL (K : PySem.W.Frag) (P1 : Addr) : Sp := fun vs H Q _ => ∃ (q mp : Addr) (rs : List Rw) (ms : List Nat), vs = [.ref mp, .ref q] ∧ H mp = some (.lst (intsM ms)) ∧ TextAt H q rs ∧ rs.length ≤ 12 ∧ (∀ m ∈ ms, m < 2 ^ (dd rs).length) ∧ ms.Nodup ∧ LamX.TabS H P1 qAL ∧
  ∀ p ws H', Kb P1 H H' → LamX.TabS H' P1 qAL → H p = none → H' p = some (.lst ws) → Paired (LotAt K H') ws ((ms.flatMap (lotsM rs)).mergeSort leL) → Q (.ref p) H'
theorem Kb.of {P1 : Addr} {H H' : Hp} (k : Kept [] H H') : Kb P1 H H' := fun b o e _ => k b o e (by simp)
theorem Kb.trans {P1 : Addr} {H H1 H2 : Hp} (a : Kb P1 H H1) (b : Kb P1 H1 H2) : Kb P1 H H2 := fun c o e n => b c o (a c o e n) n
theorem plsOf_at {K : PySem.W.Frag} {H0 H : Hp} {es : List Ent} {rs : List Rw} (h : PlacesE K H0 H es rs) : Paired (PlsAt H) (entVs es) (plsOf rs) := by
  have go : ∀ {a : List Ent} {b : List Rw}, Paired (PlE K H rs) a b → Paired (PlsAt H) (entVs a) (b.map (posOf rs)) := by
    intro a b h
    induction h with
    | nil => exact .nil
    | cons h t ih =>
      obtain ⟨_, _, l, e1, e2⟩ := h
      exact .cons ⟨l, e1, e2⟩ ih
  exact go h.at_
theorem lots_bs {K : PySem.W.Frag} {H : Hp} : ∀ {ws : List V} {Ls : List (List Nat)}, Paired (LotAt K H) ws Ls → ∃ bs : List Lo, ws = bs.map (fun b => V.ref b.1) ∧ Ls = bs.map (·.2) ∧ ∀ b ∈ bs, SqT K H b.1 (intsL b.2)
  | _, _, .nil => ⟨[], rfl, rfl, fun b h => nomatch h⟩
  | _, _, .cons ⟨a, e, h⟩ t => by
    obtain ⟨bs, e1, e2, h2⟩ := lots_bs t
    refine ⟨(a, _) :: bs, by rw [e1, e]; rfl, by rw [e2]; rfl, fun b hb => ?_⟩
    rcases List.mem_cons.mp hb with e | hb
    · rw [e]; exact h
    · exact h2 b hb
theorem bs_lots {K : PySem.W.Frag} {H : Hp} : ∀ {bs : List Lo}, (∀ b ∈ bs, SqT K H b.1 (intsL b.2)) → Paired (LotAt K H) (bs.map fun b => V.ref b.1) (bs.map (·.2))
  | [], _ => .nil
  | b :: bs, h => .cons ⟨b.1, rfl, h b (List.mem_cons_self ..)⟩ (bs_lots fun c hc => h c (List.mem_cons_of_mem _ hc))
section
variable {P : Program} {w : World} {K : PySem.W.Frag} {mg : Str → Option Value} {base : Heap} {f c P1 fM fP : Addr} {fd fdM fdP : FuncData}
theorem ok_aslots (F : FnP K "as_lots" sAsLots f fd) (hc : fd.code = .ref c) (TB : LamX.TabB base mg c P1) (B : Bl mg) (cM : Own P w K mg base "lots_of_mask" 1 fM fdM ["mask", "places"] (spLM K)) (cP : Own P w K mg base "places_of" 1 fP fdP ["rows"] (spPlaces K P w)) :
    FnOk P w K mg base CX0 2 f fd ["masks", "rows"] (spAL K P1) := by
  refine okC F hc scAL (fun vs H Q E h => ?_) (fun A outer s H vs Q E hr h => ?_)
  · obtain ⟨q, mp, rs, ms, rfl, _⟩ := h
    rfl
  · obtain ⟨q, mp, rs, ms, rfl, hmp, tx, hl, hms, hmn, hT, k⟩ := h
    refine ⟨_, PSs.nox (pss_cons (ps_set (i := 2) scAL.nd rfl (.inr rfl) (pe_listVals rfl (pe_call cP.ok hr (by rfl) cP.g cP.kp cP.b .nil pass0 (pa_cons (pv 1) pa_nil)) (by rfl) B.list_ (by decide +kernel)))
      (pss_cons (ps_setLc2 (i := 3) (own := [("mask", 4), ("lot", 5)]) (vs1 := [5]) (tt := tYes) (tt1 := tYes) rfl scAL.nd rfl rfl (sw_true rfl rfl rfl (by decide +kernel)) (pi_list (pv 0)) (blkOk_by (N := ["masks", "rows", "places", "lots", "mask", "lot"]) (sc := defScope sAsLots) (by decide +kernel)) (by decide)
            (fun _ _ _ _ _ => pg_name (i := 4) scAL.nd rfl (Or.inl rfl)) (fun _ _ _ _ _ => pts_nil)
            (fun _ _ _ _ _ => show PI _ _ _ (iList K _) from pi_list (pe_call cM.ok hr (by rfl) cM.g cM.kp cM.b .nil pass0 (pa_cons (pv 4) (pa_cons (pv 2) pa_nil))))
            (fun _ _ _ _ _ => pg_name (i := 5) scAL.nd rfl (Or.inl rfl)) (fun _ _ _ _ _ => pts_nil)
            (fun _ _ _ _ _ => pv 5))
      (pss_one (ps_ret (pe_sortLam (x := "lot") (q := qAL) (pa_cons (pv 3) pa_nil) ⟨rfl, rfl, rfl, rfl, rfl, by decide +kernel, ⟨_, _, _, _, _, _, rfl⟩, rfl⟩ hr TB rfl rfl rfl (fun _ _ _ _ _ => rfl) (by rfl) B.sorted_ (by decide +kernel) B.len_ (by decide +kernel)))))), ?_⟩
    obtain ⟨ps, hq, hps⟩ := id tx
    refine ⟨_, rfl, q, rs, rfl, tx, by omega, fun pd H1 es k1 npd e1 re => ⟨pd, es, rfl, .inl e1, fun pl npl => ?_⟩⟩
    have kl : Kept [] H (L2.upd H1 pl (.lst (entVs es))) := k1.upd npl
    have re2 : PlacesE K H (L2.upd H1 pl (.lst (entVs es))) es rs := re.kept ((Kept.refl H1).upd npl)
    have hpls := plsOf_at re2
    have lpls : (plsOf rs).length = (dd rs).length := List.length_map ..
    have ld := dd_len rs
    have pw : 2 ^ rs.length ≤ 4096 := Nat.le_trans (Nat.pow_le_pow_right (by decide) hl) (by decide)
    refine ⟨_, rfl, mp, rfl, ⟨_, .inl (.of (kl _ _ hmp (by simp)))⟩, fun D nD => ?_⟩
    refine walk_W (walk_list (K := K) (a := mp) (xs := intsM ms)) (fun j Hc => ∃ us, Hc D = some (.lst us) ∧ Paired (LotAt K Hc) us ((ms.take j).flatMap (lotsM rs)) ∧ Kept [] (L2.upd H1 pl (.lst (entVs es))) Hc)
      ⟨[], upd_same, .nil, (Kept.refl _).upd nD⟩ (fun j Hc _ pv => .inl (.of (pv.choose_spec.2.2 _ _ (kl _ _ hmp (by simp)) (by simp)))) ?_ ?_
    · rintro j y Hc0 Hc hj ⟨us, e2, r1, kc⟩ ⟨rfl, ey⟩
      unfold intsM at ey
      rw [List.getElem?_map] at ey
      obtain ⟨m, em, rfl⟩ := Option.map_eq_some_iff.mp ey
      have few : ∀ l, l ≤ ms.length → ((ms.take l).flatMap (lotsM rs)).length ≤ 4096 := fun l _ =>
        Nat.le_trans (masks_few (fun m hm => hms m (List.mem_of_mem_take hm)) (hmn.sublist (List.take_sublist ..))) pw
      refine ⟨rfl, yes_if ?_⟩
      refine ⟨_, rfl, _, rfl, m, pl, entVs es, plsOf rs, rfl, kc _ _ upd_same (by simp), Paired.mapP hpls fun _ _ ⟨a, z1, z2⟩ => ⟨a, z1, kc _ _ z2 (by simp)⟩, by omega, fun i hi => Nat.le_trans (prod_few (by omega)) (by omega), fun L hL => ?_, fun p ws H2 k2 np e3 r2 => ?_⟩
      · rw [lpls] at hL
        exact nodup_of_map (f := idxR rs) (by rw [((mem_prod (Nat.le_refl _)).mp hL).1]; exact bitsB_nodup _ _)
      · rw [lpls] at r2
        have r2 : Paired (LotAt K H2) ws (lotsM rs m) := r2
        refine ⟨p, rfl, ⟨ws, .inl (.of e3)⟩, ?_⟩
        have f1 := few (j + 1) (get_lt em)
        rw [take_succ_get em, List.flatMap_append] at f1
        simp only [List.flatMap_cons, List.flatMap_nil, List.append_nil] at f1
        rw [List.length_append] at f1
        have l1 := r1.length
        have l2 := r2.length
        refine walk_W (walk_list (K := K) (a := p) (xs := ws)) (fun l Hd => ∃ us', Hd D = some (.lst us') ∧ Paired (LotAt K Hd) us' (((ms.take j).flatMap (lotsM rs)) ++ (lotsM rs m).take l) ∧ Kept [] (L2.upd H1 pl (.lst (entVs es))) Hd ∧ Hd p = some (.lst ws) ∧ TK H2 Hd)
          ⟨us, k2 _ _ e2 (by simp), by rw [List.take_zero, List.append_nil]; exact Paired.mapP r1 fun _ _ z => z.tk (.of k2), kc.trans k2, e3, TK.refl _⟩ (fun l Hd _ pv => .inl (.of pv.choose_spec.2.2.2.1)) ?_ ?_
        · rintro l z Hd0 Hd hl2 ⟨us', e4, r3, kd, e5, tk3⟩ ⟨rfl, ez⟩
          obtain ⟨L, eL, b, rfl, hLb⟩ := paired_at r2 ez
          refine ⟨rfl, yes_if ⟨_, rfl, us', e4, ?_, us' ++ [V.ref b], upd_same, ?_, kD_far nD kd, ?_, tk3.updL e4⟩⟩
          · have l3 := r3.length
            rw [List.length_append, List.length_take] at l3
            exact Nat.lt_of_le_of_lt (show us'.length ≤ 4096 by omega) (by decide)
          · have tk := (TK.refl Hd).updL (o := .lst (us' ++ [V.ref b])) e4
            rw [take_succ_get eL, ← List.append_assoc]
            exact paired_app (Paired.mapP r3 fun _ _ z => z.tk tk) (.cons ⟨b, rfl, sqT_tk tk (sqT_tk tk3 hLb)⟩ .nil)
          · have : p ≠ D := fun z => by
              rw [z] at np
              rw [e2] at np
              cases np
            rw [upd_ne this]
            exact e5
        · rintro Hd ⟨us', e4, r3, kd, e5, tk3⟩
          rw [l2, List.take_of_length_le (Nat.le_refl _)] at r3
          refine ⟨us', e4, ?_, kd⟩
          rw [take_succ_get em, List.flatMap_append]
          simp only [List.flatMap_cons, List.flatMap_nil, List.append_nil]
          exact r3
    · rintro Hc ⟨us, e2, r1, kc⟩
      have lm : (intsM ms).length = ms.length := List.length_map ..
      rw [lm, List.take_of_length_le (Nat.le_refl _)] at r1
      obtain ⟨bs, rfl, eb, hb⟩ := lots_bs r1
      have kA := kl.trans kc
      have T2 : LamX.TabS Hc P1 qAL := hT.ext fun b o e => kA b o e (by simp)
      refine ⟨_, rfl, T2, D, bs, rfl, .inl (.of e2), hb, fun p H2 kb T3 np e3 => ?_⟩
      refine k p _ H2 ((Kb.of kA).trans kb) T3 (none_of kA np) e3 ?_
      rw [eb, ← sortB_snd]
      exact bs_lots fun b hb2 => Kb.sqT kb T2 (hb b ((List.mergeSort_perm bs leB).mem_iff.mp hb2))
end
end Ah
end
section
set_option Elab.async false
set_option linter.all false
set_option maxRecDepth 100000
set_option maxHeartbeats 4000000
namespace Ah
open PySem PySem.Spec PyProof.Rows L2
theorem scSI : FnScope ["self", "rules", "told", "_", "saying", "number", "row"] ["self", "rules", "told"] (defScope sSearchInit) := ⟨rfl, rfl, rfl, by decide +kernel, rfl, by decide +kernel, by decide +kernel⟩
def toldC (told : List Say) : List Ps := told.map fun s => ⟨s, 0, none⟩
def baseC (rws : List Rw) : List Ps := rws.zipIdx.filterMap fun q => (sayOf q.1).map fun s => ⟨s, 2 ^ q.2, none⟩
def lev0 (rws : List Rw) : List (List Ps) := List.replicate (rws.length + 1) []
theorem rules_keptX {K : PySem.W.Frag} {P : Program} {w : World} {H H' : Hp} {o : RObj} {rws : List Rw} {names : List Str} {es : List Ent} {x C dx : Addr} (R : RulesAt K P w H o rws names es) (hx : H x = some (.ins C dx [])) (h : ∀ b u, H b = some u → b ≠ x → H' b = some u) : RulesAt K P w H' o rws names es := by
  have nx : ∀ {b u}, H b = some u → (∀ q1 q2, u ≠ .ins q1 q2 []) → H' b = some u := fun {b u} hb hu => h b u hb (fun z => by
    rw [z, hx] at hb
    exact hu _ _ (Option.some.inj hb).symm)
  have tk : TK H H' := ⟨fun b ys e => nx e (fun _ _ z => nomatch z), fun b q u e => nx e (fun _ _ z => nomatch z)⟩
  obtain ⟨vs, r1, r2⟩ := R.rows
  refine ⟨nx R.ob (fun _ _ z => nomatch z), ⟨vs, nx r1 (fun _ _ z => nomatch z), r2.tk tk⟩, nx R.ns (fun _ _ z => nomatch z), nx R.kn (fun _ _ z => nomatch z), fun e he => ?_⟩
  obtain ⟨s, f2, g1, g2, g3, us, g4, g5⟩ := R.ents e he
  exact ⟨s, f2, g1, sqT_tk tk g2, g3, us, nx g4 (fun _ _ z => nomatch z), Paired.mapP g5 fun _ _ q => q.tk tk⟩
def spSInit (K : PySem.W.Frag) (P : Program) (w : World) (C CR : Addr) : Sp := fun vs H Q _ => ∃ (B : Hp) (x dx tq : Addr) (o : RObj) (rws : List Rw) (names : List Str) (told : List Say) (tv : List V) (esR : List Ent), vs = [.ref x, .ref o.ro, .ref tq] ∧ H x = some (.ins C dx []) ∧ o.C = CR ∧ RulesAt K P w H o rws names esR ∧ esR.length ≤ 100000 ∧
  SqT K H tq tv ∧ Paired (SayAt K H) tv told ∧ told.length ≤ 1 ∧ WfR rws names told ∧ rws.length ≤ 10 ∧ Kept [] B H ∧ B x = none ∧ B o.kd = none ∧
  ∀ H' (xo : SO), xo.so = x → xo.C = C → xo.o = o → xo.r0 = esR.length → Kept [x] H H' → SearchAt K P w B H' xo rws names esR [] (putsS [] (lev0 rws) (toldC told ++ baseC rws)) [] → Q .non H'
section
variable {P : Program} {w : World} {K : PySem.W.Frag} {mg : Str → Option Value} {base : Heap} {f fP C CR' : Addr} {fd fdP : FuncData}
theorem ok_sinit (F : MethP K "__init__" "Search.__init__" sSearchInit f fd) (CS : ClsS K C) (CR : ClsR K CR') (B0 : Bl mg)
    (mP : Meth K C "put" fP) (FP : FnOk P w K mg base CX0 2 fP fdP ["self", "saying", "mask", "last"] (spPut K P w C)) (bP : Binds K fdP ["self", "saying", "mask", "last"] []) :
    FnOk P w K mg base CX0 3 f fd ["self", "rules", "told"] (spSInit K P w C CR') := by
  refine F.ok scSI (fun vs H Q E h => ?_) (fun cdv A outer s H vs Q E hr h => ?_)
  · obtain ⟨B, x, dx, tq, o, rws, names, told, tv, esR, rfl, _⟩ := h
    rfl
  · obtain ⟨B, x, dx, tq, o, rws, names, told, tv, esR, rfl, hx, rfl, R, hesR, htq, htv, htl, W, hn8, kb, nx, nkd, k⟩ := h
    refine ⟨_, PSs.nox (pss_cons (ps_fld (pv 0) (pv 1) rfl)
      (pss_cons (ps_fld (pv 0) pe_dicNew rfl)
      (Evl.pss_cut (ps_fld (pv 0) (pe_lc (own := [("_", 3)]) (g := gName 3) (tt := tYes) rfl scSI.nd (pi_range1 (by rfl) B0.range_ (pa_cons (pe_op op_add pe_int (pe_callB call_len_seq (by rfl) B0.len_ (by decide +kernel) (pa_cons (pe_fld (pv 1) rfl) pa_nil))) pa_nil))
        (blkOk_by (N := ["self", "rules", "told", "_", "saying", "number", "row"]) (sc := defScope sSearchInit) (by decide +kernel)) (fun _ _ _ _ _ => pg_name (i := 3) scSI.nd rfl (Or.inl rfl)) (fun _ _ _ _ _ => pts_nil) (fun _ _ _ _ _ => pe_lst pa_nil)) rfl)
      (pss_cons (ps_for PassesOwn.never rfl (pi_tup (pv 2)) (pg_name (i := 4) scSI.nd rfl (Or.inl rfl)) (pss_one (ps_expr (pe_meth (pv 0) CS.c mP FP hr bP .nil pass0 (pa_cons (pv 4) (pa_cons pe_int (pa_cons pe_non pa_nil)))))))
      (pss_one (ps_for PassesOwn.never rfl (pi_enum (by rfl) B0.enumerate_ (pa_cons (pe_fld (pv 1) rfl) pa_nil)) (pg_tup rfl (pgs_cons (pg_name (i := 5) scSI.nd rfl (Or.inl rfl)) (pgs_cons (pg_name (i := 6) scSI.nd rfl (Or.inl rfl)) pgs_nil)))
        (pss_one (ps_if (pt_cmpR (show OpR _ _ (rIn K false) from op_in_seq) (pe_ix (show IxR _ (rIxT K) from ix_tup) (pv 6) pe_int (fun _ _ => rfl)) (pe_tup (pa_cons pe_str (pa_cons pe_str pa_nil))) (by rfl))
          (pss_one (ps_expr (pe_meth (pv 0) CS.c mP FP hr bP .nil pass0 (pa_cons (pv 6) (pa_cons (pe_op op_shl pe_int (pv 5)) (pa_cons pe_non pa_nil)))))) pss_nil)))))))), ?_⟩
    have hput1 : putF "rules" (V.ref o.ro) [] = ([("rules", V.ref o.ro)] : List (Str × V)) := rfl
    refine ⟨_, rfl, _, rfl, x, C, dx, [], rfl, hx, CS.c, CS.n1, by decide, ?_⟩
    rw [hput1]
    intro fd nfd
    have kx1 : ∀ {b u}, H b = some u → b ≠ x → (L2.upd H x (.ins C dx [("rules", .ref o.ro)])) b = some u := fun h hb => by rw [upd_ne hb]; exact h
    have fx : fd ≠ x := fun z => by
      rw [z, upd_same] at nfd
      cases nfd
    have hput2 : putF "found" (V.ref fd) [("rules", V.ref o.ro)] = ([("rules", V.ref o.ro), ("found", V.ref fd)] : List (Str × V)) := rfl
    refine ⟨_, rfl, x, C, dx, _, rfl, by rw [upd_ne (Ne.symm fx)]; exact upd_same, CS.c, CS.n2, lt1, ?_⟩
    rw [hput2]
    have nfH : H fd = none := by rw [upd_ne fx] at nfd; exact nfd
    have h3x : (L2.upd (L2.upd (L2.upd H x (.ins C dx [("rules", .ref o.ro)])) fd (DicO P w fd [])) x (.ins C dx [("rules", .ref o.ro), ("found", .ref fd)])) x = some (.ins C dx [("rules", .ref o.ro), ("found", .ref fd)]) := upd_same
    have h3f : (L2.upd (L2.upd (L2.upd H x (.ins C dx [("rules", .ref o.ro)])) fd (DicO P w fd [])) x (.ins C dx [("rules", .ref o.ro), ("found", .ref fd)])) fd = some (DicO P w fd []) := by rw [upd_ne fx]; exact upd_same
    have h3o : ∀ b u, H b = some u → b ≠ x → (L2.upd (L2.upd (L2.upd H x (.ins C dx [("rules", .ref o.ro)])) fd (DicO P w fd [])) x (.ins C dx [("rules", .ref o.ro), ("found", .ref fd)])) b = some u := fun b u hb hne => by
      rw [upd_ne hne, upd_ne (ne_of_none hb nfH), upd_ne hne]
      exact hb
    refine (?key : ∀ Hz : Hp, Hz x = some (.ins C dx [("rules", .ref o.ro), ("found", .ref fd)]) → Hz fd = some (DicO P w fd []) → (∀ b u, H b = some u → b ≠ x → Hz b = some u) → Evl.tCut _ _ _ _ Hz) _ h3x h3f h3o
    clear h3x h3f h3o
    intro H3 h3x h3f h3o
    have R3 := rules_keptX R hx h3o
    have n3 : ∀ b, H3 b = none → H b = none := fun b hb => by
      cases e : H b with
      | none => rfl
      | some u =>
        have hne : b ≠ x := fun z => by rw [z, h3x] at hb; cases hb
        rw [h3o b u e hne] at hb
        cases hb
    obtain ⟨vs, hvs, rvs⟩ := R3.rows
    have lvs : vs.length = rws.length := rvs.length
    refine ⟨fun σ' H' => σ' = [some (.ref x), some (.ref o.ro), some (.ref tq), none, none, none, none] ∧ Kept [x] H H' ∧ ∃ xo : SO, xo.so = x ∧ xo.C = C ∧ xo.o = o ∧ xo.r0 = esR.length ∧ (∀ a ∈ xo.ls, H a = none) ∧ SearchAt K P w B H' xo rws names esR [] (lev0 rws) [], ?_, ?_⟩
    · refine ⟨_, rfl, _, _, _, _, _, rfl, R3.ob, CR.c, CR.n1, rfl, o.rl, vs, rfl, .inl (.inl (.of hvs)), _, _, rfl, rfl, rws.length + 1, ?_, by omega, by omega, fun D nD => ?_⟩
      · show [V.int (1 + (vs.length : Int))] = [V.int ((rws.length : Int) + 1)]
        rw [lvs, Int.add_comm]
      · refine lc_it (walk_range (lo := 0) (n := rws.length + 1)) (fun i Ha => ∃ ls : List Addr, Ha D = some (.lst (ls.map V.ref)) ∧ ls.length = i ∧ ls.Nodup ∧ (∀ a ∈ ls, Ha a = some (.lst []) ∧ H3 a = none ∧ a ≠ D) ∧ Kept [] H3 Ha) ⟨[], upd_same, rfl, List.nodup_nil, fun a ha => (nomatch ha), (Kept.refl _).upd nD⟩ (fun _ _ _ _ => trivial) ?_ ?_
        · rintro i y Ha0 Ha hi ⟨ls, e1, e2, e3, e4, kk⟩ ⟨rfl, ex⟩
          refine ⟨rfl, yes_if ⟨Nat.zero_le _, fun p np => ⟨ls.map V.ref, ?_, ?_, ls ++ [p], ?_, ?_, ?_, fun a ha => ?_, ?_⟩⟩⟩
          · rw [upd_ne (ne_of_none e1 np)]
            exact e1
          · rw [List.length_map, e2]
            exact Nat.lt_of_lt_of_le (show i < 20 by omega) (by decide)
          · rw [List.map_append]
            exact upd_same
          · rw [List.length_append, List.length_singleton, e2]
          · refine List.nodup_append.mpr ⟨e3, by simp, fun a ha b hb => ?_⟩
            rw [List.mem_singleton.mp hb]
            exact ne_of_none (e4 a ha).1 np
          · rcases List.mem_append.mp ha with q | q
            · obtain ⟨g1, g2, g3⟩ := e4 a q
              exact ⟨by rw [upd_ne g3, upd_ne (ne_of_none g1 np)]; exact g1, g2, g3⟩
            · rw [List.mem_singleton.mp q]
              have pD : p ≠ D := Ne.symm (ne_of_none e1 np)
              exact ⟨by rw [upd_ne pD]; exact upd_same, none_of kk np, pD⟩
          · exact kD_far nD (kk.upd np)
        · rintro Ha ⟨ls, e1, e2, e3, e4, kk⟩
          have hput3 : putF "levels" (V.ref D) [("rules", V.ref o.ro), ("found", V.ref fd)] = ([("rules", V.ref o.ro), ("found", V.ref fd), ("levels", V.ref D)] : List (Str × V)) := rfl
          refine ⟨_, rfl, x, C, dx, _, rfl, kk _ _ h3x (by simp), CS.c, CS.n3, lt2, rfl, ?_⟩
          rw [hput3]
          have h5o : ∀ b u, H b = some u → b ≠ x → (L2.upd Ha x (.ins C dx [("rules", V.ref o.ro), ("found", V.ref fd), ("levels", V.ref D)])) b = some u := fun b u hb hne => by
            rw [upd_ne hne]
            exact kk _ _ (h3o b u hb hne) (by simp)
          have Dx : D ≠ x := Ne.symm (ne_of_none h3x nD)
          have R5 := rules_keptX R hx h5o
          refine ⟨fun b u hb hne => h5o b u hb (by simpa using hne), ⟨x, C, dx, o, fd, D, ls, esR.length⟩, rfl, rfl, rfl, rfl, fun a ha => n3 a (e4 a ha).2.1, ?_⟩
          have ax : ∀ a ∈ ls, a ≠ x := fun a ha => Ne.symm (ne_of_none h3x (e4 a ha).2.1)
          refine { ob := upd_same, R := R5, fd := ?_, ll := ?_, lv := ?_, fe := fun e he => (nomatch he), fc := fun e he => (nomatch he), er := Nat.le_refl _, r1 := hesR, ef := Nat.le_refl _, d1 := e3, d2 := ?_, dk := List.nodup_nil, d3 := List.nodup_nil, d4 := fun a ha => ?_, d5 := fun e he => (nomatch he), kb := ?_, nf := none_of kb nfH, nk := nkd, nl := fun a ha => none_of kb (n3 a (e4 a ha).2.1), ne := fun e he => (nomatch he) }
          · show (L2.upd Ha x _) fd = _
            rw [upd_ne fx]
            exact kk _ _ h3f (by simp)
          · show (L2.upd Ha x _) D = _
            rw [upd_ne Dx]
            exact e1
          · show Paired _ ls (lev0 rws)
            unfold lev0
            rw [← e2]
            have : ∀ l : List Addr, (∀ a ∈ l, a ∈ ls) → Paired (LevAt K (L2.upd Ha x (.ins C dx [("rules", V.ref o.ro), ("found", V.ref fd), ("levels", V.ref D)]))) l (List.replicate l.length []) := by
              intro l
              induction l with
              | nil => intro _; exact .nil
              | cons a l ih =>
                intro hl
                refine .cons ⟨[], ?_, .nil⟩ (ih fun b hb => hl b (List.mem_cons_of_mem _ hb))
                have ha := hl a (List.mem_cons_self ..)
                rw [upd_ne (ax a ha)]
                exact (e4 a ha).1
            exact this ls fun _ h => h
          · exact Ne.symm (ne_of_none R.kn nfH)
          · obtain ⟨g1, g2, g3⟩ := e4 a ha
            have gH := n3 a g2
            obtain ⟨vs', r1, _⟩ := R.rows
            refine ⟨g3, Ne.symm (ne_of_none r1 gH), Ne.symm (ne_of_none R.ns gH), fun e he z => ?_, fun e he => (nomatch he)⟩
            obtain ⟨s, f2, q1, q2, q3, us, q4, q5⟩ := R.ents e he
            rw [q3] at z
            rw [V.ref.inj z, gH] at q4
            cases q4
          · exact fun b u hb _ => h5o b u (kb b u hb (by simp)) (fun z => by rw [z, nx] at hb; cases hb)
    · clear R3 n3 hvs rvs lvs vs h3x h3f h3o H3
      rintro σ' H5 ⟨rfl, k5, xo, rfl, rfl, rfl, er0, nls, S5⟩
      have tk5 : TK H H5 := ⟨fun b ys e => k5 _ _ e (by rw [List.mem_singleton]; exact ne_of e hx (fun z => nomatch z)), fun b q u e => k5 _ _ e (by rw [List.mem_singleton]; exact ne_of e hx (fun z => nomatch z))⟩
      have hT := sqT_tk tk5 htq
      have ltv := htv.length
      have hl0 : (lev0 rws).length = rws.length + 1 := List.length_replicate ..
      have h12 := W.n12
      have htot : ∀ cs : List Ps, (∀ c ∈ cs, c.m < 2 ^ rws.length) → cs.length ≤ 100 → tot (putsS [] (lev0 rws) cs) < sizeLine := fun cs hc hl => by
        have h1 := putsS_tot (log := []) (lev := lev0 rws) (cs := cs) (fun c h => by have := pc_le (hc c h) h12; omega)
        have h2 : tot (lev0 rws) = 0 := by
          unfold tot lev0
          rw [List.map_replicate, List.sum_replicate_nat]
          rfl
        exact Nat.lt_of_le_of_lt (show _ ≤ 100 by omega) (by decide)
      have htold : ∀ c ∈ toldC told, c.m < 2 ^ rws.length := fun c hc => by
        obtain ⟨s, _, rfl⟩ := List.mem_map.mp hc
        exact Nat.pow_pos (by decide)
      have hg : ∀ q : Rw × Nat, q ∈ rws.zipIdx → ∀ c ∈ (sayOf q.1).map (fun s => (⟨s, 2 ^ q.2, none⟩ : Ps)), c.m < 2 ^ rws.length := fun q hq c hc => by
        obtain ⟨s, _, rfl⟩ := Option.map_eq_some_iff.mp hc
        exact bit_lt (get_lt (List.mem_zipIdx_iff_getElem?.mp hq))
      have h1k : (2 : Nat) ^ rws.length ≤ 1024 := Nat.pow_le_pow_right (n := 2) (by decide) hn8
      refine ⟨_, rfl, tq, rfl, ⟨_, hT⟩, for_it (walk_tup (K := K) (a := tq) (xs := tv))
        (fun i σ Ha => (∃ v4, σ = [some (.ref xo.so), some (.ref xo.o.ro), some (.ref tq), none, v4, none, none]) ∧ Kept xo.ls H5 Ha ∧ TK H5 Ha ∧ SearchAt K P w B Ha xo rws names esR [] (putsS [] (lev0 rws) ((toldC told).take i)) [])
        ⟨⟨_, rfl⟩, Kept.refl _, TK.refl _, S5⟩ (fun i σ Ha _ pv => sqT_tk pv.2.2.1 hT) ?_ ?_⟩
      · rintro i y σ Ha0 Ha hi ⟨⟨v4, rfl⟩, kk, tk, Sa⟩ ⟨rfl, ey⟩
        obtain ⟨s1, es1, hs1⟩ := paired_at htv ey
        have hs2 := (hs1.tk tk5).tk tk
        refine ⟨_, rfl, xo.so, xo.dx, _, rfl, Sa.ob, rfl, _, rfl, B, xo, y, rws, names, esR, [], _, [], ⟨s1, 0, none⟩, rfl, rfl, Sa, hs2, (by show 0 < 1024; decide), ?_, ?_, fun H' k' t' S' => ⟨⟨_, rfl⟩, kk.trans k', tk.trans t', ?_⟩⟩
        · rw [putsS_len, hl0]
          have := pc_le (show 0 < 2 ^ rws.length from Nat.pow_pos (by decide)) h12
          show pc 0 < _
          omega
        · refine htot _ (fun c hc => htold c (List.mem_of_mem_take hc)) ?_
          unfold toldC
          rw [List.length_take, List.length_map]
          omega
        · have hc : (toldC told)[i]? = some ⟨s1, 0, none⟩ := by
            unfold toldC
            rw [List.getElem?_map, es1]
            rfl
          rw [take_succ_get hc, putsS_snoc]
          exact S'
      · rintro σ H6 ⟨⟨v4, rfl⟩, k6, tk6, S6⟩
        have lt : tv.length = (toldC told).length := by unfold toldC; rw [List.length_map, ltv]
        rw [lt, List.take_of_length_le (Nat.le_refl _)] at S6
        obtain ⟨vs, hvs, rvs⟩ := S6.R.rows
        have lvs : vs.length = rws.length := rvs.length
        have orl : xo.o.rl ∉ xo.ls := fun h => (S6.d4 _ h).2.1 rfl
        refine ⟨_, rfl, _, _, _, _, _, rfl, S6.R.ob, CR.c, CR.n1, rfl, xo.o.rl, vs, rfl, .inl (.of hvs), for_it (walk_enum (K := K) (a := xo.o.rl) (xs := vs))
          (fun i σ Ha => (∃ v4 v5 v6, σ = [some (.ref xo.so), some (.ref xo.o.ro), some (.ref tq), none, v4, v5, v6]) ∧ Kept xo.ls H6 Ha ∧ TK H6 Ha ∧ SearchAt K P w B Ha xo rws names esR [] (putsS [] (lev0 rws) (toldC told ++ (rws.zipIdx.take i).filterMap fun q => (sayOf q.1).map fun s => ⟨s, 2 ^ q.2, none⟩)) [])
          ⟨⟨_, _, _, rfl⟩, Kept.refl _, TK.refl _, by rw [List.take_zero, List.filterMap_nil, List.append_nil]; exact S6⟩ (fun i σ Ha _ pv => .inl (.of (pv.2.1 _ _ hvs orl))) ?_ ?_⟩
        · rintro i y σ Ha Hb hi ⟨⟨v4, v5, v6, rfl⟩, kk, tk, Sa⟩ ⟨Tp, x1, x2, rfl, nT, rfl, g1, g2⟩
          cases g1
          dsimp only at g2
          obtain ⟨r, er, pr, rfl, hrow0⟩ := paired_at rvs g2
          have kT : Kept [] Ha (L2.upd Ha Tp (.tup [V.int (i : Nat), V.ref pr])) := (Kept.refl Ha).upd nT
          have ST := Sa.kept kT
          have hrow : RowAt K (L2.upd Ha Tp (.tup [V.int (i : Nat), V.ref pr])) pr r := sqT_tk (.of kT) (sqT_tk tk hrow0)
          obtain ⟨hd, rest, ew, ei⟩ := row_test r
          have hrow2 : SqT K (L2.upd Ha Tp (.tup [V.int (i : Nat), V.ref pr])) pr (V.str hd :: rest.map V.str) := by
            unfold RowAt at hrow
            rw [ew] at hrow
            exact hrow
          have hq : rws.zipIdx[i]? = some (r, i) := by
            rw [List.getElem?_zipIdx, er]
            simp
          have et : (rws.zipIdx.take (i + 1)).filterMap (fun q => (sayOf q.1).map fun s => (⟨s, 2 ^ q.2, none⟩ : Ps)) = (rws.zipIdx.take i).filterMap (fun q => (sayOf q.1).map fun s => (⟨s, 2 ^ q.2, none⟩ : Ps)) ++ ((sayOf r).map fun s => (⟨s, 2 ^ i, none⟩ : Ps)).toList := by
            rw [take_succ_get hq, List.filterMap_append]
            congr 1
          refine ⟨Tp, _, rfl, .inl (.of upd_same), rfl, _, _, rfl, _, _, rfl, rfl, ?_⟩
          refine ⟨_, rfl, pr, _, 0, _, rfl, rfl, hrow2, at_of (j := 0) rfl rfl, (by show 2 ≤ sizeLine; decide), fun T2 n2 => ⟨T2, _, rfl, .inr (.inl (.of upd_same)), rfl, rfl, ?_⟩⟩
          have k2 : Kept [] (L2.upd Ha Tp (.tup [V.int (i : Nat), V.ref pr])) (L2.upd (L2.upd Ha Tp (.tup [V.int (i : Nat), V.ref pr])) T2 (.tup [V.str "is", V.str "has"])) := (Kept.refl _).upd n2
          have S2 := ST.kept k2
          have kA := kT.trans k2
          simp only [Bool.false_eq_true, if_false]
          rw [ei]
          cases hs : sayOf r with
          | none =>
            refine ⟨false, rfl, iteF ⟨⟨_, _, _, rfl⟩, kk.trans kA.weak, tk.trans (.of kA), ?_⟩⟩
            rw [et, hs]
            simp only [Option.map_none, Option.toList, List.append_nil]
            exact S2
          | some sy =>
            have hi8 : i < rws.length := by omega
            refine ⟨true, rfl, iteT ?_⟩
            refine ⟨_, rfl, xo.so, xo.dx, _, rfl, S2.ob, rfl, _, rfl, _, rfl, _, _, rfl, rfl, ⟨Int.natCast_nonneg _, by omega, by decide⟩, B, xo, V.ref pr, rws, names, esR, [], _, [], ⟨sy, 2 ^ i, none⟩, ?_, rfl, S2, ⟨pr, rfl, ?_⟩, ?_, ?_, ?_, fun H' k' t' S' => ⟨⟨_, _, _, rfl⟩, (kk.trans kA.weak).trans k', (tk.trans (.of kA)).trans t', ?_⟩⟩
            · show [V.ref xo.so, V.ref pr, V.int (1 * 2 ^ ((i : Nat) : Int).toNat), V.non] = [V.ref xo.so, V.ref pr, V.int ((2 ^ i : Nat) : Int), V.non]
              rw [Int.toNat_natCast, Int.one_mul, show ((2 : Int) ^ i) = ((2 ^ i : Nat) : Int) from (Int.natCast_pow 2 i).symm]
            · have h1 := sqT_tk (.of k2) hrow
              rw [say_ws hs] at h1
              exact h1
            · have := bit_lt hi8
              show 2 ^ i < 1024
              omega
            · rw [putsS_len, hl0]
              have := pc_le (bit_lt hi8) h12
              show pc (2 ^ i) < _
              omega
            · refine htot _ (fun c hc => ?_) ?_
              · rcases List.mem_append.mp hc with q | q
                · exact htold c q
                · obtain ⟨q0, h1, h2⟩ := List.mem_filterMap.mp q
                  exact hg q0 (List.mem_of_mem_take h1) c h2
              · have h1 := List.length_filterMap_le (fun q : Rw × Nat => (sayOf q.1).map fun s => (⟨s, 2 ^ q.2, none⟩ : Ps)) (rws.zipIdx.take i)
                rw [List.length_take, List.length_zipIdx] at h1
                unfold toldC
                rw [List.length_append, List.length_map]
                omega
            · rw [et, hs, ← List.append_assoc]
              show SearchAt K P w B H' xo rws names esR [] (putsS [] (lev0 rws) (_ ++ [_])) []
              rw [putsS_snoc]
              exact S'
        · rintro σ Ha ⟨⟨v4, v5, v6, rfl⟩, kk, tk, Sa⟩
          rw [lvs, ← List.length_zipIdx, List.take_of_length_le (Nat.le_refl _)] at Sa
          refine k Ha xo rfl rfl rfl er0 (fun b u hb hne => ?_) Sa
          have nb : b ∉ xo.ls := fun h => by
            rw [nls b h] at hb
            cases hb
          exact kk _ _ (k6 _ _ (k5 _ _ hb hne) nb) nb
end
end Ah
end
section
set_option Elab.async false
set_option linter.all false
set_option maxRecDepth 100000
set_option maxHeartbeats 4000000
namespace Ah
open PySem PySem.Spec PyProof.Rows L2
theorem inv_start {rws : List Rw} {names : List Str} {told : List Say} (W : WfR rws names told) : Inv rws names told [] (putsS [] (lev0 rws) (toldC told ++ baseC rws)) 0 0 := by
  refine Inv.start W (fun c hc => ?_) (fun s hs => ?_) (fun i r s h1 h2 => ?_)
  · rcases List.mem_append.mp hc with q | q
    · obtain ⟨s, hs, rfl⟩ := List.mem_map.mp q
      exact .inl ⟨rfl, hs, rfl⟩
    · obtain ⟨⟨r, i⟩, h1, h2⟩ := List.mem_filterMap.mp q
      obtain ⟨s, h3, rfl⟩ := Option.map_eq_some_iff.mp h2
      exact .inr ⟨i, r, List.mem_zipIdx_iff_getElem?.mp h1, h3, rfl, rfl⟩
  · exact List.mem_append_left _ (List.mem_map.mpr ⟨s, hs, rfl⟩)
  · exact List.mem_append_right _ (List.mem_filterMap.mpr ⟨(r, i), List.mem_zipIdx_iff_getElem?.mpr h1, by rw [h2]; rfl⟩)
theorem start_tot {rws : List Rw} {names : List Str} {told : List Say} (W : WfR rws names told) : tot (putsS [] (lev0 rws) (toldC told ++ baseC rws)) ≤ told.length + rws.length := by
  have hl0 : (lev0 rws).length = rws.length + 1 := List.length_replicate ..
  have h12 := W.n12
  have h1 := putsS_tot (log := []) (lev := lev0 rws) (cs := toldC told ++ baseC rws) (fun c hc => by
    have hm : c.m < 2 ^ rws.length := by
      rcases List.mem_append.mp hc with q | q
      · obtain ⟨s, hs, rfl⟩ := List.mem_map.mp q
        exact Nat.pow_pos (by decide)
      · obtain ⟨⟨r, i⟩, h1, h2⟩ := List.mem_filterMap.mp q
        obtain ⟨s, h3, rfl⟩ := Option.map_eq_some_iff.mp h2
        exact bit_lt (get_lt (List.mem_zipIdx_iff_getElem?.mp h1))
    have := pc_le hm h12
    omega)
  have h2 : tot (lev0 rws) = 0 := by
    unfold tot lev0
    rw [List.map_replicate, List.sum_replicate_nat]
    rfl
  have h3 : (toldC told).length = told.length := by unfold toldC; rw [List.length_map]
  have h4 : (baseC rws).length ≤ rws.length := by
    have := List.length_filterMap_le (fun q : Rw × Nat => (sayOf q.1).map fun s => (⟨s, 2 ^ q.2, none⟩ : Ps)) rws.zipIdx
    rw [List.length_zipIdx] at this
    exact this
  rw [List.length_append] at h1
  omega
/-- the least masks from which a saying comes -/
def LeastM (rws : List Rw) (names : List Str) (told : List Say) (s : Say) (m : Nat) : Prop := Der rws names told s m ∧ ∀ m', Der rws names told s m' → sub m' m → m' = m
theorem scMO : FnScope ["rules", "told", "result", "search"] ["rules", "told", "result"] (defScope sMasksOf) := ⟨rfl, rfl, rfl, by decide +kernel, rfl, by decide +kernel, by decide +kernel⟩
def spMO (K : PySem.W.Frag) (P : Program) (w : World) (CR : Addr) : Sp := fun vs H Q _ => ∃ (B : Hp) (tq : Addr) (rv : V) (o : RObj) (rws : List Rw) (names : List Str) (told : List Say) (tv : List V) (esR : List Ent) (s : Say), vs = [.ref o.ro, .ref tq, rv] ∧ o.C = CR ∧ RulesAt K P w H o rws names esR ∧ esR.length ≤ 100000 ∧
  SqT K H tq tv ∧ Paired (SayAt K H) tv told ∧ told.length ≤ 1 ∧ SB rws names told (told.length + rws.length) ∧ SayAt K H rv s ∧ Kept [] B H ∧ B o.kd = none ∧
  ∀ p ms H' esR', TK H H' → Kept [] B H' → RulesAt K P w H' o rws names esR' → esR'.length ≤ esR.length + 28 * nA rws → B p = none → H' p = some (.lst (intsM ms)) → ms.Nodup → ms.Pairwise (· ≤ ·) → (∀ m, m ∈ ms ↔ LeastM rws names told s m) → Q (.ref p) H'
section
variable {P : Program} {w : World} {K : PySem.W.Frag} {mg : Str → Option Value} {base : Heap} {f fI fR fM C CR' : Addr} {fd fdI fdR fdM : FuncData}
theorem ok_masksof (F : FnP K "masks_of" sMasksOf f fd) (CS : ClsS K C) (M : Mk K C fI) (gS : mg "Search" = some (.ref C))
    (FI : FnOk P w K mg base CX0 3 fI fdI ["self", "rules", "told"] (spSInit K P w C CR')) (bI : Binds K fdI ["self", "rules", "told"] [])
    (mR : Meth K C "run" fR) (FR : FnOk P w K mg base CX0 8 fR fdR ["self"] (spRun K P w C CR')) (bR : Binds K fdR ["self"] [])
    (mM : Meth K C "masks" fM) (FM : FnOk P w K mg base CX0 1 fM fdM ["self", "result"] (spMasks K P w C)) (bM : Binds K fdM ["self", "result"] []) :
    FnOk P w K mg base CX0 9 f fd ["rules", "told", "result"] (spMO K P w CR') := by
  refine F.ok scMO (fun vs H Q E h => ?_) (fun cdv A outer s H vs Q E hr h => ?_)
  · obtain ⟨B, tq, rv, o, rws, names, told, tv, esR, sy, rfl, _⟩ := h
    rfl
  · obtain ⟨B, tq, rv, o, rws, names, told, tv, esR, sy, rfl, rfl, R, hesR, htq, htv, htl, b, hrv, kb, nkd, k⟩ := h
    refine ⟨_, PSs.nox (pss_cons (ps_set (i := 3) scMO.nd rfl (.inl rfl) (pe_make M FI (hr.mono (by decide)) (by rfl) gS bI .nil pass0 (pa_cons (pv 0) (pa_cons (pv 1) pa_nil))))
      (pss_cons (ps_expr (pe_meth0 (pv 3) CS.c mR FR hr bR .nil pass0))
      (pss_one (ps_ret (pe_meth (pv 3) CS.c mM FM (hr.mono (by decide)) bM .nil pass0 (pa_cons (pv 2) pa_nil)))))), ?_⟩
    refine ⟨_, rfl, _, rfl, ?_⟩
    intro x dx nx ndx dxx
    have kx : Kept [] H (L2.upd (L2.upd H dx (.own x)) x (.ins C dx [])) := ((Kept.refl H).upd ndx).upd (by rw [upd_ne (Ne.symm dxx)]; exact nx)
    have bx := none_of kb nx
    refine ⟨B, x, dx, tq, o, rws, names, told, tv, esR, rfl, upd_same, rfl, R.kept kx, hesR, sqT_tk (.of kx) htq, Paired.mapP htv fun _ _ z => z.tk (.of kx), htl, b.W, b.n8, kb.trans kx, bx, nkd, fun H1 xo e1 e2 e3 er0 k1 S1 => ⟨rfl, ?_⟩⟩
    subst e1 e2 e3
    have tk1 : TK H H1 := (TK.of kx).trans ⟨fun b ys e => k1 _ _ e (by rw [List.mem_singleton]; exact ne_of e (show _ = some (HO.ins xo.C dx []) from upd_same) (fun z => nomatch z)), fun b q u e => k1 _ _ e (by rw [List.mem_singleton]; exact ne_of e (show _ = some (HO.ins xo.C dx []) from upd_same) (fun z => nomatch z))⟩
    refine ⟨_, rfl, xo.so, xo.dx, _, rfl, S1.ob, rfl, B, xo, rws, names, told, esR, [], _, [], told.length + rws.length, rfl, rfl, rfl, S1, inv_start b.W, b, ?_, fun H2 esR2 log lev esF tk2 S2 J2 => ?_⟩
    · have := start_tot b.W
      omega
    · have hd : ∀ e ∈ log, Der rws names told e.s e.m := fun e he => (J2.lg e he).2
      have hlog := log_len b.W J2.ord hd
      have ha1 := b.a1
      have hnA : 28 * (chains rws.length).length = 28 * nA rws := rfl
      refine ⟨_, rfl, xo.so, xo.dx, _, rfl, S2.ob, rfl, _, rfl, B, xo, rv, rws, names, esR2, log, lev, esF, sy, rfl, rfl, S2, by omega, (hrv.tk tk1).tk tk2, fun p ms H3 k3 np e3 hp hw => ?_⟩
      have S3 := S2.kept k3
      refine k p ms H3 esR2 ((tk1.trans tk2).trans (.of k3)) S3.kb S3.R ?_ (none_of S2.kb np) e3 (hp.nodup_iff.mpr (masks_anti b.W J2.ord hd sy).1) hw (fun m => ?_)
      · have h1 := S3.er
        rw [er0] at h1
        omega
      · rw [hp.mem_iff]
        exact masks_iff b.W J2 sy m
end
end Ah
end
section
set_option Elab.async false
set_option linter.all false
set_option maxRecDepth 100000
set_option maxHeartbeats 8000000
namespace Ah
open PySem PySem.Spec PyProof.Rows L2
open GxR (TabB TabG Tabbed)
/-! ### tables of two kinds -/
structure TWd (T : List Addr) (P1 : Addr) (H : Hp) : Prop where
  tg : ∀ P ∈ T, TabG H P
  ts : LamX.TabS H P1 qAL
structure Ko (T : List Addr) (P1 : Addr) (H H' : Hp) : Prop where
  keep : ∀ b o, H b = some o → (∀ ps, o ≠ .tbl ps) → H' b = some o
  fresh : ∀ b, H' b = none → H b = none
  oth : ∀ b ps, H b = some (.tbl ps) → b ∉ T → b ≠ P1 → H' b = some (.tbl ps)
  tw : TWd T P1 H'
section
variable {T : List Addr} {P1 : Addr} {H H1 H' : Hp} {K : PySem.W.Frag}
theorem Ko.trans (a : Ko T P1 H H1) (b : Ko T P1 H1 H') : Ko T P1 H H' := ⟨fun c o e n => b.keep c o (a.keep c o e n) n, fun c e => a.fresh c (b.fresh c e), fun c ps e n1 n2 => b.oth c ps (a.oth c ps e n1 n2) n1 n2, b.tw⟩
theorem Ko.tup (k : Ko T P1 H H') {a : Addr} {xs : List V} (h : H a = some (.tup xs)) : H' a = some (.tup xs) := k.keep _ _ h fun _ z => nomatch z
theorem Ko.lst (k : Ko T P1 H H') {a : Addr} {xs : List V} (h : H a = some (.lst xs)) : H' a = some (.lst xs) := k.keep _ _ h fun _ z => nomatch z
theorem Ko.tk (k : Ko T P1 H H') : TK H H' := ⟨fun _ _ h => k.keep _ _ h (fun _ z => nomatch z), fun _ _ _ h => k.keep _ _ h (fun _ z => nomatch z)⟩
theorem Ko.refl (w : TWd T P1 H) : Ko T P1 H H := ⟨fun _ _ e _ => e, fun _ e => e, fun _ _ e _ _ => e, w⟩
theorem Ko.of (w : TWd T P1 H) (k : Kept [] H H') : Ko T P1 H H' := ⟨fun b o e _ => k b o e (by simp), fun b e => none_of k e, fun b ps e _ _ => k b _ e (by simp), fun P hP => by
  obtain ⟨ps, h1, h2⟩ := w.tg P hP
  exact ⟨ps, k _ _ h1 (by simp), h2⟩, w.ts.ext fun b o e => k b o e (by simp)⟩
theorem Ko.kp (w : TWd T P1 H) (nP : P1 ∉ T) (k : Kp T H H') : Ko T P1 H H' := by
  have keep : ∀ b o, H b = some o → (∀ ps, o ≠ .tbl ps) → H' b = some o := fun b o e n => k.obj w.tg e n
  refine ⟨keep, fun b e => Kp.fresh w.tg k e, fun b ps e n1 _ => k.keep _ _ e n1, k.tab, ?_⟩
  obtain ⟨ps, h1, h2, h3⟩ := w.ts
  refine ⟨ps, k.keep _ _ h1 nP, h2, fun pos cv hc => ?_⟩
  obtain ⟨c, e1, e2⟩ := h3 pos cv hc
  exact ⟨c, e1, keep _ _ e2 LamX.codeO_ne⟩
theorem Ko.kb (w : TWd T P1 H) (nP : P1 ∉ T) (k : Kb P1 H H') (t : LamX.TabS H' P1 qAL) : Ko T P1 H H' := by
  refine ⟨fun b o e n => Kb.obj k w.ts e n, fun b e => ?_, fun b ps e _ n2 => k b _ e n2, fun P hP => ?_, t⟩
  · cases h : H b with
    | none => rfl
    | some o =>
      by_cases z : b = P1
      · obtain ⟨ps, h1, _⟩ := t
        rw [← z, e] at h1
        cases h1
      · rw [k b o h z] at e
        cases e
  · obtain ⟨ps, h1, h2⟩ := w.tg P hP
    exact ⟨ps, k _ _ h1 fun z => nP (z ▸ hP), h2⟩
end
section
variable {T : List Addr} {P1 P2 : Addr} {H H' : Hp} {q2 : Str}
theorem Ko.tabS (k : Ko T P1 H H') (n1 : P2 ∉ T) (n2 : P2 ≠ P1) (t : LamX.TabS H P2 q2) : LamX.TabS H' P2 q2 := by
  obtain ⟨ps, h1, h2, h3⟩ := t
  refine ⟨ps, k.oth _ _ h1 n1 n2, h2, fun pos cv hc => ?_⟩
  obtain ⟨c, e1, e2⟩ := h3 pos cv hc
  exact ⟨c, e1, k.keep _ _ e2 LamX.codeO_ne⟩
end
/-! ### lots_of, bearers -/
theorem sb_of {rs : List Rw} {names : List Str} (hf : ∀ r ∈ rs, r.few) (hl : rs.length ≤ 10) (hm : ∀ z, z ∈ names ↔ ∃ r ∈ rs, z ∈ rowNames r) (hn : names.length ≤ 3 * rs.length) (nn : names.Nodup) : SB (dd rs) names [] (0 + (dd rs).length) := by
  have ld := dd_len rs
  have hrf : ∀ r ∈ dd rs, r.few := fun r hr => hf r ((dd_mem rs r).mp hr)
  have hnb : ∀ z ∈ names, z ∈ namesL := fun z hz => by
    obtain ⟨r, h1, h2⟩ := (hm z).mp hz
    exact few_names (hf r h1) z h2
  have a1 : nA (dd rs) ≤ 252 := chains_10 _ (by omega)
  refine ⟨⟨hrf, fun r hr x hx => (hm x).mpr ⟨r, (dd_mem rs r).mp hr, hx⟩, hnb, fun s hs => (nomatch hs), by omega⟩, ⟨by omega, by omega, fun r hr => few_ok (hrf r hr), fun z hz => (w_name (hnb z hz)).1⟩, by omega, nn, by omega, ?_⟩
  have := potB_le (n := (dd rs).length) (A := nA (dd rs)) (by omega) a1
  rw [sizeLine_eq]
  omega
theorem scLotsOf : FnScope ["rows", "result"] ["rows", "result"] (defScope sLotsOf) := ⟨rfl, rfl, rfl, by decide +kernel, rfl, by decide +kernel, by decide +kernel⟩
def spLots (K : PySem.W.Frag) (P1 : Addr) : Sp := fun vs H Q _ => ∃ (q : Addr) (rv : V) (rs : List Rw) (s : Say), vs = [.ref q, rv] ∧ TextAt H q rs ∧ (∀ r ∈ rs, r.few) ∧ rs.length ≤ 10 ∧ SayAt K H rv s ∧ LamX.TabS H P1 qAL ∧
  ∀ p ws H' names Ls, Kb P1 H H' → LamX.TabS H' P1 qAL → H p = none → H' p = some (.lst ws) → Paired (LotAt K H') ws Ls → Ls.Pairwise ltL → (∀ r ∈ rs, ∀ z ∈ rowNames r, z ∈ names) → (∀ L, L ∈ Ls ↔ LeastLot rs names s L) → Q (.ref p) H'
section
variable {P : Program} {w : World} {K : PySem.W.Frag} {mg : Str → Option Value} {base : Heap} {f fM fA fN fI C P1 fC fS fL : Addr} {fd fdM fdA fdN fdI fdC fdS fdL : FuncData} {T : List Addr}
theorem ok_lotsof (F : FnP K "lots_of" sLotsOf f fd) (M : Mk K C fI) (gR : mg "Rules" = some (.ref C)) (FI : FnOk P w K mg base CX0 2 fI fdI ["self", "rows", "names"] (spInit K P w C)) (bI : Binds K fdI ["self", "rows", "names"] [])
    (cN : Own P w K mg base "names_of" 2 fN fdN ["rows"] (spNames K)) (cM : Own P w K mg base "masks_of" 9 fM fdM ["rules", "told", "result"] (spMO K P w C)) (cA : Own P w K mg base "as_lots" 2 fA fdA ["masks", "rows"] (spAL K P1)) :
    FnOk P w K mg base CX0 10 f fd ["rows", "result"] (spLots K P1) := by
  refine F.ok scLotsOf (fun vs H Q E h => ?_) (fun cdv A outer s H vs Q E hr h => ?_)
  · obtain ⟨q, rv, rs, s, rfl, _⟩ := h
    rfl
  · obtain ⟨q, rv, rs, sy, rfl, tx, hf, hl, hsy, hT, k⟩ := h
    refine ⟨_, PSs.nox (pss_one (ps_ret (pe_call cA.ok (hr.mono (by decide)) (by rfl) cA.g cA.kp cA.b .nil pass0 (pa_cons
      (pe_call cM.ok hr (by rfl) cM.g cM.kp cM.b .nil pass0 (pa_cons (pe_make M FI (hr.mono (by decide)) (by rfl) gR bI .nil pass0 (pa_cons (pv 0) (pa_cons (pe_call cN.ok (hr.mono (by decide)) (by rfl) cN.g cN.kp cN.b .nil pass0 (pa_cons (pv 0) pa_nil)) pa_nil)))
        (pa_cons (pe_tup pa_nil) (pa_cons (pv 1) pa_nil)))) (pa_cons (pv 0) pa_nil))))), ?_⟩
    refine ⟨_, rfl, _, rfl, q, rs, rfl, tx.w, by omega, fun na nb H2 k2 nna e2 hm2 hl2 nn2 => ?_⟩
    intro x dx nx ndx dxx
    have kx : Kept [] H2 (L2.upd (L2.upd H2 dx (.own x)) x (.ins C dx [])) := ((Kept.refl H2).upd ndx).upd (by rw [upd_ne (Ne.symm dxx)]; exact nx)
    have txx := (tx.kept (M := []) (TK.of k2)).kept (M := []) (TK.of kx)
    refine ⟨x, q, na, dx, rs, nb, rfl, upd_same, txx, by omega, kx _ _ e2 (by simp), fun H3 o ho hC nkd k3 R3 => ⟨rfl, ?_⟩⟩
    have k13 : Kept [] H H3 := fun b u e hb => k3 b u (kx b u (k2 b u e hb) hb) (by rw [List.mem_singleton]; exact ne_of_none (k2 b u e hb) nx)
    refine ⟨Nat.zero_le _, fun e0 ne0 => ?_⟩
    have k14 : Kept [] H (L2.upd H3 e0 (.tup [])) := k13.upd ne0
    have nkd2 : H o.kd = none := by
      cases e : H o.kd with
      | none => rfl
      | some u =>
        rw [kx _ _ (k2 _ _ e (by simp)) (by simp)] at nkd
        cases nkd
    subst ho
    refine ⟨_, rfl, H, e0, rv, o, dd rs, nb, [], [], [], sy, rfl, hC, R3.kept ((Kept.refl H3).upd ne0), Nat.zero_le _, .inl (.of upd_same), .nil, Nat.zero_le _, sb_of hf hl hm2 hl2 nn2, hsy.tk (.of k14), k14, nkd2, fun p ms H5 er5 tk5 k5 R5 _ np5 e5 hn5 _ hm5 => ?_⟩
    have T5 := hT.ext fun b o e => k5 b o e (by simp)
    have few : ∀ m ∈ ms, m < 2 ^ (dd rs).length := fun m hm => der_lt ((hm5 m).mp hm).1
    refine ⟨_, rfl, q, p, rs, ms, rfl, e5, tx.kept (M := []) (TK.of k5), by omega, few, hn5, T5, fun p6 ws H6 kb6 T6 np6 e6 r6 => ?_⟩
    refine k p6 ws H6 nb _ ((Kb.of k5).trans kb6) T6 (none_of k5 np6) e6 r6 (sortL_lt (masks_nodup few hn5)) (fun r hr z hz => (hm2 z).mpr ⟨r, hr, hz⟩) fun L => ?_
    rw [(List.mergeSort_perm _ leL).mem_iff, masks_lots few, least_lot]
    constructor
    · rintro ⟨m, h1, h2⟩; exact ⟨m, (hm5 m).mp h1, h2⟩
    · rintro ⟨m, h1, h2⟩; exact ⟨m, (hm5 m).mpr h1, h2⟩
theorem text_rows {H : Hp} {q : Addr} {rs : List Rw} {ps : List Addr} (hps : Paired (fun a r => H a = some (.tup ((Rw.ws r).map V.str))) ps rs) (hf : ∀ r ∈ rs, r.few) : ∀ v ∈ ps.map V.ref, RowV K H v true := by
  intro v hv
  obtain ⟨a, ha, rfl⟩ := List.mem_map.mp hv
  obtain ⟨i, hi⟩ := List.mem_iff_getElem?.mp ha
  obtain ⟨r, er, hr1⟩ := paired_at hps hi
  have fr := hf r (List.mem_of_getElem? er)
  refine .inr ⟨a, _, rfl, .inl (.of hr1), ?_, fun x hx => ?_, (few_row fr).symm⟩
  · rw [List.length_map]
    exact Nat.le_trans (show r.ws.length ≤ 10 by cases r <;> simp [Rw.ws]) (by decide)
  · obtain ⟨z, hz, rfl⟩ := List.mem_map.mp hx
    exact .inl ⟨z, rfl, Nat.le_trans (few_len fr z hz) (by decide)⟩
end
end Ah
end
section
set_option Elab.async false
set_option linter.all false
set_option maxRecDepth 100000
set_option maxHeartbeats 4000000
namespace Ah
open PySem PySem.Spec PyProof.Rows L2
open GxR (TabB TabG Tabbed)
/-! ### needless -/
def cutR (rs : List Rw) (n : Nat) : List Rw := rs.take n ++ rs.drop (n + 1)
def Ndl (rs : List Rw) (n : Nat) : Prop := ∀ s, Fol (cutR rs n) namesL s ↔ Fol rs namesL s
open Classical in
noncomputable def ndlB (rs : List Rw) (n : Nat) : Bool := decide (Ndl rs n)
theorem ndlB_iff {rs : List Rw} {n : Nat} : ndlB rs n = true ↔ Ndl rs n := by
  unfold ndlB
  exact @decide_eq_true_iff _ (Classical.propDecidable _)
theorem cutR_sub {rs : List Rw} {n : Nat} {r : Rw} (h : r ∈ cutR rs n) : r ∈ rs := by
  unfold cutR at h
  rcases List.mem_append.mp h with q | q
  · exact List.mem_of_mem_take q
  · exact List.mem_of_mem_drop q
theorem cutR_len (rs : List Rw) (n : Nat) : (cutR rs n).length ≤ rs.length := by
  unfold cutR
  rw [List.length_append, List.length_take, List.length_drop]
  omega
theorem keysL {es : List Ent} {k : List Key} : k ∈ es.map (·.1) ↔ (valE es k).isSome = true := valE_mem.symm
theorem dic_same {es fs : List Ent} (ne : (es.map (·.1)).Nodup) (nf : (fs.map (·.1)).Nodup) (he : ∀ e ∈ es, ∃ s : Say, e.1 = keyW s.ws) (hf : ∀ e ∈ fs, ∃ s : Say, e.1 = keyW s.ws) :
    (es.length == fs.length && allE fs es) = true ↔ ∀ s, HasE es s ↔ HasE fs s := by
  have sub : ∀ {xs ys : List Ent}, (∀ e ∈ xs, ∃ s : Say, e.1 = keyW s.ws) → (∀ s, HasE xs s → HasE ys s) → ∀ k ∈ xs.map (·.1), k ∈ ys.map (·.1) := fun {xs ys} h1 h2 k hk => by
    obtain ⟨e, he, rfl⟩ := List.mem_map.mp hk
    obtain ⟨s, hs⟩ := h1 e he
    obtain ⟨e', g1, g2⟩ := h2 s ⟨e, he, hs⟩
    exact List.mem_map.mpr ⟨e', g1, g2.trans hs.symm⟩
  constructor
  · intro h
    obtain ⟨h1, h2⟩ := Bool.and_eq_true_iff.mp h
    have hl : es.length = fs.length := by simpa using h1
    have s1 : ∀ k ∈ es.map (·.1), k ∈ fs.map (·.1) := fun k hk => by
      obtain ⟨e, he, rfl⟩ := List.mem_map.mp hk
      exact keysL.mpr (List.all_eq_true.mp h2 e he)
    have s2 : ∀ k ∈ fs.map (·.1), k ∈ es.map (·.1) := fun k hk => by
      refine Classical.byContradiction fun z => ?_
      have n2 : (k :: es.map (·.1)).Nodup := List.nodup_cons.mpr ⟨z, ne⟩
      have := n2.length_le_of_subset (l₂ := fs.map (·.1)) fun x hx => by
        rcases List.mem_cons.mp hx with q | q
        · rw [q]; exact hk
        · exact s1 x q
      rw [List.length_cons, List.length_map, List.length_map] at this
      omega
    intro s
    constructor
    · rintro ⟨e, h3, h4⟩
      obtain ⟨e', g1, g2⟩ := List.mem_map.mp (s1 e.1 (List.mem_map_of_mem h3))
      exact ⟨e', g1, g2.trans h4⟩
    · rintro ⟨e, h3, h4⟩
      obtain ⟨e', g1, g2⟩ := List.mem_map.mp (s2 e.1 (List.mem_map_of_mem h3))
      exact ⟨e', g1, g2.trans h4⟩
  · intro h
    have s1 := sub (xs := es) (ys := fs) he fun s => (h s).mp
    have s2 := sub (xs := fs) (ys := es) hf fun s => (h s).mpr
    have l1 := ne.length_le_of_subset s1
    have l2 := nf.length_le_of_subset s2
    rw [List.length_map, List.length_map] at l1 l2
    refine Bool.and_eq_true_iff.mpr ⟨by simpa using (show es.length = fs.length by omega), List.all_eq_true.mpr fun e he => ?_⟩
    exact keysL.mp (s1 e.1 (List.mem_map_of_mem he))
theorem scNdl : FnScope ["rows", "whole", "number"] ["rows"] (defScope sNeedless) := ⟨rfl, rfl, rfl, by decide +kernel, rfl, by decide +kernel, by decide +kernel⟩
def spNdl (T : List Addr) : Sp := fun vs H Q _ => ∃ (q : Addr) (rs : List Rw), vs = [.ref q] ∧ TextAt H q rs ∧ (∀ r ∈ rs, r.few) ∧ rs.length ≤ 20 ∧ (∀ P ∈ T, TabG H P) ∧
  ∀ (p : Addr) (Ns : List Nat) (H' : Hp), Kp T H H' → H p = none → H' p = some (.lst (intsL Ns)) → Ns.Pairwise (· < ·) → (∀ n, n ∈ Ns ↔ n < rs.length ∧ Ndl rs n) → Q (.ref p) H'
section
variable {P : Program} {w : World} {K : PySem.W.Frag} {mg : Str → Option Value} {base : Heap} {f fC fA fN : Addr} {fd fdC fdA fdN : FuncData} {T : List Addr}
theorem ok_needless (F : FnP K "needless" sNeedless f fd) (B : Bl mg) (c_check_text : Own P w K mg base "check_text" 6 fC fdC ["rows"] (spCheck0 K T)) (c_results_of : Own P w K mg base "results_of" 7 fA fdA ["rows"] (spRes K P w))
    (c_left : Own P w K mg base "left" 1 fN fdN ["rows", "number"] spLeft) : FnOk P w K mg base CX0 8 f fd ["rows"] (spNdl T) := by
  refine F.ok scNdl (fun vs H Q E h => ?_) (fun cdv A outer s H vs Q E hr h => ?_)
  · obtain ⟨q, rs, rfl, _⟩ := h
    rfl
  · obtain ⟨q, rs, rfl, tx, hf, hl, ht, k⟩ := h
    have hu : A.units + 3 + 1 < cLine := by have := hr.units; exact (by have h2 : (A.deeper (envOfC "needless" (defScope sNeedless) s.heap.objs.size f cdv)).units = A.units + 3 := rfl; omega)
    refine ⟨_, PSs.nox (pss_cons (ps_expr (pe_call c_check_text.ok (hr.mono (by decide)) (by rfl) c_check_text.g c_check_text.kp c_check_text.b .nil pass0 (pa_cons (pv 0) pa_nil)))
      (pss_cons (ps_set (i := 1) scNdl.nd rfl (.inr rfl) (pe_call c_results_of.ok hr (by rfl) c_results_of.g c_results_of.kp c_results_of.b .nil pass0 (pa_cons (pv 0) pa_nil)))
      (pss_one (ps_ret (pe_lc (own := [("number", 2)]) rfl scNdl.nd (pi_range1 (by rfl) B.range_ (pa_cons (pe_callB call_len_seq (by rfl) B.len_ (by decide +kernel) (pa_cons (pv 0) pa_nil)) pa_nil)) (blkOk_by (N := ["rows", "whole", "number"]) (sc := defScope sNeedless) (by decide +kernel)) (fun _ _ _ _ _ => (pg_name (i := 2) scNdl.nd rfl (Or.inl rfl))) (fun _ _ _ _ _ => (pts_one (pt_cmpR (show OpR _ _ (rEqDic K P w) from op_eqDic hu) (pe_call c_results_of.ok hr (by rfl) c_results_of.g c_results_of.kp c_results_of.b .nil pass0 (pa_cons (pe_call c_left.ok (hr.mono (by decide)) (by rfl) c_left.g c_left.kp c_left.b .nil pass0 (pa_cons (pv 0) (pa_cons (pv 2) pa_nil))) pa_nil)) (pv 1) (nomark _)))) (fun _ _ _ _ _ => (pv 2))))))), ?_⟩
    obtain ⟨vs, hv, lv, rv⟩ := rows_v (K := K) tx hf (by omega)
    refine ⟨_, rfl, q, vs, rfl, hv, lv, rv, ht, fun H1 kp1 => ?_⟩
    have tx1 := tx.kp ht kp1
    refine ⟨_, rfl, q, rs, rfl, tx1, hf, hl, fun d H2 es rws nm k2 nd2 e2 hrw hnm se hes nde le tv => ?_⟩
    have kp2 := kp1.trans (Kp.of kp1.tab k2)
    have tx2 := tx1.kept (M := []) (TK.of k2)
    obtain ⟨ps, hq, hps⟩ := id tx2
    have lps : ps.length = rs.length := hps.length
    refine ⟨_, rfl, q, ps.map V.ref, rfl, .inr (.inl (.of hq)), rs.length, ?_, by omega, by omega, fun D nD => ?_⟩
    · rw [List.length_map, lps]
    refine lc_it (walk_range (lo := 0) (n := rs.length)) (fun i Ha => Ha D = some (.lst (intsL ((List.range i).filter (ndlB rs)))) ∧ Kept [] H2 Ha) ⟨upd_same, (Kept.refl H2).upd nD⟩ (fun _ _ _ _ => trivial) ?_ ?_
    · rintro i y Ha0 Ha hi ⟨eD, kk⟩ ⟨rfl, ex⟩
      have ey : y = V.int (i : Nat) := by
        rw [ex]
        show V.int (0 + (i : Int)) = _
        rw [Int.zero_add]
      clear ex
      subst ey
      refine ⟨rfl, ?_⟩
      refine ⟨_, rfl, _, rfl, q, rs, i, rfl, tx2.kept (M := []) (TK.of kk), by omega, fun q' H3 k3 tx3 => ?_⟩
      have fewc : ∀ r ∈ cutR rs i, r.few := fun r hr => hf r (cutR_sub hr)
      have lc := cutR_len rs i
      refine ⟨q', cutR rs i, rfl, tx3, fewc, by omega, fun p' H4 es2 rw2 nm2 k4 np4 e4 hrw2 hnm2 se2 hes2 nde2 le2 tv2 => ?_⟩
      have k34 := (kk.trans k3).trans k4
      have sed : SayE K H4 rws nm es := se.tk (.of k34)
      refine ⟨_, rfl, p', d, es2, es, rfl, rfl, .inl e4, .inl (k34 _ _ e2 (by simp)), se2.keys, sed.keys, tv2, tv, ?_⟩
      have eb : (es2.length == es.length && allE es es2) = ndlB rs i := by
        rw [Bool.eq_iff_iff, ndlB_iff, dic_same nde2 nde (fun e he => let ⟨s, _, h, _⟩ := se2 e he; ⟨s, h⟩) (fun e he => let ⟨s, _, h, _⟩ := se e he; ⟨s, h⟩)]
        unfold Ndl
        constructor
        · intro h s
          rw [← fol_eqN fewc hrw2 hnm2, ← fol_eqN hf hrw hnm, ← hes2, ← hes]
          exact h s
        · intro h s
          rw [hes2, hes, fol_eqN fewc hrw2 hnm2, fol_eqN hf hrw hnm]
          exact h s
      have er : (List.range (i + 1)).filter (ndlB rs) = (List.range i).filter (ndlB rs) ++ if ndlB rs i = true then [i] else [] := by
        rw [List.range_succ, List.filter_append, List.filter_cons, List.filter_nil]
      rw [eb]
      have kf := k3.trans k4
      have eD4 := kf _ _ eD (by simp)
      have kD := kk.trans kf
      refine ⟨_, rfl, ?_⟩
      cases hb : ndlB rs i with
      | true =>
        rw [hb, if_pos rfl] at er
        refine iteT ⟨_, rfl, _, eD4, ?_, ?_, kD_far nD kD⟩
        · unfold intsL
          rw [List.length_map]
          have h1 := List.length_filter_le (ndlB rs) (List.range i)
          rw [List.length_range] at h1
          exact Nat.lt_of_le_of_lt (show _ ≤ 20 by omega) (by decide)
        · rw [er]
          unfold intsL
          rw [List.map_append]
          exact upd_same
      | false =>
        rw [hb, if_neg (by decide), List.append_nil] at er
        refine iteF ⟨?_, kD⟩
        rw [er]
        exact eD4
    · rintro Ha ⟨eD, kk⟩
      refine k D _ Ha (kp2.trans (Kp.of kp2.tab kk)) (Kp.fresh ht kp2 nD) eD (List.pairwise_lt_range.sublist List.filter_sublist) fun n => ?_
      rw [List.mem_filter, List.mem_range, ndlB_iff]
end
end Ah
end
section
set_option Elab.async false
set_option linter.all false
set_option maxRecDepth 100000
set_option maxHeartbeats 4000000
namespace Ah
open PySem PySem.Spec PyProof.Rows L2
/-! ### what clashes -/
def ClashRow (F : Say → Prop) : Rw → Prop
  | .isnt n k => F (.is n k)
  | .hasnt n t m => F (.has n t m)
  | .no k l => ∃ y, F (.is y k) ∧ F (.is y l)
  | _ => False
def ClashR (rs : List Rw) (F : Say → Prop) : Prop := ∃ r ∈ rs, ClashRow F r
theorem ClashRow.mono {F G : Say → Prop} (h : ∀ s, s ≠ .clash → F s → G s) {r : Rw} (c : ClashRow F r) : ClashRow G r := by
  cases r <;> first
    | exact h _ (fun z => nomatch z) c
    | exact c.elim
    | (obtain ⟨y, h1, h2⟩ := c; exact ⟨y, h _ (fun z => nomatch z) h1, h _ (fun z => nomatch z) h2⟩)
/-- a lead to a clash, of one saying or of two -/
theorem lead_clash {r : Rw} {s : Say} {names : List Str} {l : Lead} (hl : l ∈ leadsBy r s names) (hc : l.2.2 = .clash) :
    (other l s = none ∧ ∀ F : Say → Prop, F s → ClashRow F r) ∨ ∃ s2, other l s = some s2 ∧ ∀ F : Say → Prop, F s → F s2 → ClashRow F r := by
  cases s with
  | clash => exact absurd hl (by simp [leadsBy])
  | is n k =>
    cases r with
    | isnt n' k' =>
      simp only [leadsBy, leadsKind] at hl
      split at hl
      · rename_i e
        rw [List.mem_singleton.mp hl]
        injection e with e1 e
        injection e with e2 _
        subst e1; subst e2
        exact .inl ⟨by simp [other], fun F h => h⟩
      · exact nomatch hl
    | no k1 k2 =>
      simp only [leadsBy, leadsKind] at hl
      split at hl
      · rename_i e
        have hk : k = k1 ∨ k = k2 := by simpa using e
        rw [List.mem_singleton.mp hl]
        by_cases h1 : k1 = k
        · by_cases h2 : k2 = k
          · subst h1; subst h2
            exact .inl ⟨by simp [other], fun F h => ⟨n, h, h⟩⟩
          · subst h1
            exact .inr ⟨.is n k2, by simp [other, h2], fun F a b => ⟨n, a, b⟩⟩
        · have h2 : k = k2 := hk.resolve_left fun z => h1 z.symm
          subst h2
          exact .inr ⟨.is n k1, by simp [other, h1], fun F a b => ⟨n, b, a⟩⟩
      · exact nomatch hl
    | all k1 k2 =>
      simp only [leadsBy, leadsKind] at hl
      split at hl
      · rw [List.mem_singleton.mp hl] at hc; cases hc
      · exact nomatch hl
    | each k1 t m =>
      simp only [leadsBy, leadsKind] at hl
      split at hl
      · rw [List.mem_singleton.mp hl] at hc; cases hc
      · exact nomatch hl
    | who t k1 k2 =>
      simp only [leadsBy, leadsKind] at hl
      split at hl
      · obtain ⟨x, _, e⟩ := List.mem_map.mp hl
        rw [← e] at hc; cases hc
      · exact nomatch hl
    | _ => exact nomatch hl
  | has n t m =>
    cases r with
    | hasnt a b c =>
      simp only [leadsBy, leadsTie] at hl
      split at hl
      · rename_i e
        rw [List.mem_singleton.mp hl]
        injection e with e1 e
        injection e with e2 e
        injection e with e3 _
        subst e1; subst e2; subst e3
        exact .inl ⟨by simp [other], fun F h => h⟩
      · exact nomatch hl
    | on a =>
      simp only [leadsBy, leadsTie] at hl
      split at hl
      · unfold leadsOn at hl
        rcases List.mem_append.mp hl with q | q
        · obtain ⟨x, _, e⟩ := List.mem_map.mp q
          rw [← e] at hc; cases hc
        · obtain ⟨x, _, e⟩ := List.mem_map.mp q
          rw [← e] at hc; cases hc
      · exact nomatch hl
    | who a b c =>
      simp only [leadsBy, leadsTie] at hl
      split at hl
      · rw [List.mem_singleton.mp hl] at hc; cases hc
      · exact nomatch hl
    | turned a b =>
      simp only [leadsBy, leadsTie] at hl
      split at hl
      · rw [List.mem_singleton.mp hl] at hc; cases hc
      · exact nomatch hl
    | under a b =>
      simp only [leadsBy, leadsTie] at hl
      split at hl
      · rw [List.mem_singleton.mp hl] at hc; cases hc
      · exact nomatch hl
    | fr a b =>
      simp only [leadsBy, leadsTie] at hl
      split at hl
      · rw [List.mem_singleton.mp hl] at hc; cases hc
      · exact nomatch hl
    | to a b =>
      simp only [leadsBy, leadsTie] at hl
      split at hl
      · rw [List.mem_singleton.mp hl] at hc; cases hc
      · exact nomatch hl
    | _ => exact nomatch hl
theorem clash_iff {rws : List Rw} {names : List Str} : Fol rws names .clash ↔ ClashR rws (Fol rws names) := by
  constructor
  · intro h
    generalize e : Say.clash = s at h
    cases h with
    | base hr hs =>
      rename_i r
      rw [← e] at hs
      cases r <;> cases hs
    | one hs hl ho =>
      obtain ⟨r, hr, h1, _⟩ := mem_worked.mp hl
      rcases lead_clash h1 e.symm with ⟨_, h⟩ | ⟨s2, h2, _⟩
      · exact ⟨r, hr, h _ hs⟩
      · rw [ho] at h2; cases h2
    | two hs hl ho hs2 =>
      obtain ⟨r, hr, h1, _⟩ := mem_worked.mp hl
      rcases lead_clash h1 e.symm with ⟨h2, _⟩ | ⟨s2, h2, h⟩
      · rw [ho] at h2; cases h2
      · rw [ho] at h2
        cases h2
        exact ⟨r, hr, h _ hs hs2⟩
  · rintro ⟨r, hr, h⟩
    cases r with
    | isnt n k =>
      exact .one (l := (.is n k, none, .clash)) h (mem_worked.mpr ⟨_, hr, by simp [leadsBy, leadsKind], by simp [useful]⟩) (by simp [other])
    | hasnt n t m =>
      exact .one (l := (.has n t m, none, .clash)) h (mem_worked.mpr ⟨_, hr, by simp [leadsBy, leadsTie], by simp [useful]⟩) (by simp [other])
    | no k l =>
      obtain ⟨y, h1, h2⟩ := h
      by_cases e : l = k
      · subst e
        exact .one (l := (.is y l, none, .clash)) h1 (mem_worked.mpr ⟨_, hr, by simp [leadsBy, leadsKind], by simp [useful]⟩) (by simp [other])
      · exact .two (l := (.is y k, some (.is y l), .clash)) h1 (mem_worked.mpr ⟨_, hr, by simp [leadsBy, leadsKind, e], by simp [useful]⟩) (by simp [other]) h2
    | _ => exact h.elim
end Ah
end
section
set_option Elab.async false
set_option linter.all false
set_option maxRecDepth 100000
set_option maxHeartbeats 4000000
namespace Ah
open PySem PySem.Spec PyProof.Rows L2
/-! ### least lots of anything that comes of masks -/
section
variable {rs : List Rw} {names : List Str} {D : Nat → Prop} {G : List Nat → Prop}
def LeastG (rs : List Rw) (G : List Nat → Prop) (L : List Nat) : Prop := LotOk rs L ∧ G L ∧ ∀ L', LotOk rs L' → (∀ p ∈ L', p ∈ L) → G L' → L' = L
def LeastD (D : Nat → Prop) (m : Nat) : Prop := D m ∧ ∀ m', D m' → sub m' m → m' = m
theorem leastD_below : ∀ (n m : Nat), m ≤ n → D m → ∃ m', LeastD D m' ∧ sub m' m
  | 0, m, h, d => by
    have : m = 0 := by omega
    subst this
    exact ⟨0, ⟨d, fun m' _ hs => sub_zero hs⟩, sub_refl _⟩
  | n + 1, m, h, d => by
    by_cases c : ∃ m', D m' ∧ sub m' m ∧ m' ≠ m
    · obtain ⟨m', d', hs, hne⟩ := c
      have hle : m' ≤ m := by
        rw [← (show m' &&& m = m' from hs)]
        exact Nat.and_le_right
      obtain ⟨m2, l2, s2⟩ := leastD_below n m' (by omega) d'
      exact ⟨m2, l2, sub_trans s2 hs⟩
    · refine ⟨m, ⟨d, fun m' d' hs => ?_⟩, sub_refl _⟩
      by_cases e : m' = m
      · exact e
      · exact absurd ⟨m', d', hs, e⟩ c
theorem least_gen (gd : ∀ L, (∀ p ∈ L, p < rs.length) → G L → ∃ m, D m ∧ sub m (maskL rs L)) (dg : ∀ L, (∀ p ∈ L, p < rs.length) → ∀ m, D m → sub m (maskL rs L) → G L) {L : List Nat} : LeastG rs G L ↔ ∃ m, LeastD D m ∧ Choice rs m L := by
  constructor
  · rintro ⟨⟨h1, h2⟩, f, mn⟩
    obtain ⟨m0, d0, s0⟩ := gd L h2 f
    obtain ⟨m, lm, sm⟩ := leastD_below m0 m0 (Nat.le_refl _) d0
    have sml := sub_trans sm s0
    have part : ∀ g : Nat → Bool, sub m (maskL rs (L.filter g)) → L.filter g = L := fun g hg =>
      mn _ ⟨h1.sublist List.filter_sublist, fun p hp => h2 p (List.mem_filter.mp hp).1⟩ (fun p hp => (List.mem_filter.mp hp).1) (dg _ (fun p hp => h2 p (List.mem_filter.mp hp).1) m lm.1 hg)
    refine ⟨m, lm, ⟨h1, h2⟩, sub_anti (sub_iff.mpr fun i hi => ?_) sml, fun p hp q hq e => ?_⟩
    · have e1 := part (fun p => m.testBit (idxR rs p)) (sub_iff.mpr fun j hj => by
        obtain ⟨p, hp, ep⟩ := mask_test.mp (sub_iff.mp sml j hj)
        exact mask_test.mpr ⟨p, List.mem_filter.mpr ⟨hp, by rw [ep]; exact hj⟩, ep⟩)
      obtain ⟨p, hp, ep⟩ := mask_test.mp hi
      rw [← e1] at hp
      have := (List.mem_filter.mp hp).2
      rw [ep] at this
      exact this
    · by_cases hpq : p = q
      · exact hpq
      · have e1 := part (fun x => !decide (x = q)) (sub_iff.mpr fun j hj => by
          obtain ⟨x, hx, ex⟩ := mask_test.mp (sub_iff.mp sml j hj)
          by_cases hxq : x = q
          · refine mask_test.mpr ⟨p, List.mem_filter.mpr ⟨hp, by simp [hpq]⟩, ?_⟩
            rw [← ex, hxq]
            unfold idxR
            rw [e]
          · exact mask_test.mpr ⟨x, List.mem_filter.mpr ⟨hx, by simp [hxq]⟩, ex⟩)
        rw [← e1] at hq
        have := (List.mem_filter.mp hq).2
        simp at this
  · rintro ⟨m, lm, ⟨h1, h2⟩, e, nd⟩
    refine ⟨⟨h1, h2⟩, dg _ h2 m lm.1 (by rw [e]; exact sub_refl _), fun L' h' hs f' => ?_⟩
    obtain ⟨m', d', s'⟩ := gd L' h'.2 f'
    have hsub : sub (maskL rs L') (maskL rs L) := sub_iff.mpr fun i hi => by
      obtain ⟨p, hp, ep⟩ := mask_test.mp hi
      exact mask_test.mpr ⟨p, hs p hp, ep⟩
    have em : m' = m := lm.2 m' d' (by rw [← e]; exact sub_trans s' hsub)
    refine asc_eq h'.1 h1 fun p => ⟨hs p, fun hp => ?_⟩
    have hb : (maskL rs L').testBit (idxR rs p) = true := sub_iff.mp s' _ (by rw [em, ← e]; exact mask_test.mpr ⟨p, hp, rfl⟩)
    obtain ⟨q, hq, eq⟩ := mask_test.mp hb
    have r1 : rs[p]? = some (rs[p]'(h2 p hp)) := List.getElem?_eq_getElem (h2 p hp)
    have r2 : rs[q]? = some (rs[q]'(h'.2 q hq)) := List.getElem?_eq_getElem (h'.2 q hq)
    have i1 := idx_row r1
    have i2 := idx_row r2
    rw [eq, i1] at i2
    have : p = q := nd p hp q (hs q hq) (by rw [r1, r2, Option.some.inj i2])
    rw [this]
    exact hq
/-! ### a saying told -/
theorem told_leads {r : Rw} {x s : Say} (h : sayOf r = some x) : leadsBy r s names = [] := by
  cases r <;> first
    | (cases h; done)
    | (cases s <;> rfl)
theorem der_folT {rx : Rw} {x : Say} (hx : sayOf rx = some x) {L : List Nat} (hL : ∀ p ∈ L, p < rs.length) {s : Say} {m : Nat} (d : Der (dd rs) names [x] s m) : sub m (maskL rs L) → Fol (rowsOf rs L ++ [rx]) names s := by
  induction d with
  | told h => exact fun _ => .base (List.mem_append_right _ (List.mem_singleton.mpr rfl)) (by rw [hx, List.mem_singleton.mp h])
  | base h1 h2 => exact fun hs => .base (List.mem_append_left _ ((mask_rows hL h1).mp (bit_sub.mp hs))) h2
  | one _ hl ho ih =>
    intro hs
    obtain ⟨r, g1, g2, g3⟩ := mem_workedN.mp hl
    exact .one (ih (sub_trans (sub_l _ _) hs)) (mem_worked.mpr ⟨r, List.mem_append_left _ ((mask_rows hL g1).mp (bit_sub.mp (sub_trans (sub_r _ _) hs))), g2, g3⟩) ho
  | two _ hl ho _ ih ih2 =>
    intro hs
    obtain ⟨r, g1, g2, g3⟩ := mem_workedN.mp hl
    exact .two (ih (sub_trans (sub_l _ _) (sub_trans (sub_l _ _) hs))) (mem_worked.mpr ⟨r, List.mem_append_left _ ((mask_rows hL g1).mp (bit_sub.mp (sub_trans (sub_r _ _) (sub_trans (sub_l _ _) hs)))), g2, g3⟩) ho (ih2 (sub_trans (sub_r _ _) hs))
theorem fol_derT {rx : Rw} {x : Say} (hx : sayOf rx = some x) {L : List Nat} (hL : ∀ p ∈ L, p < rs.length) {s : Say} (f : Fol (rowsOf rs L ++ [rx]) names s) : ∃ m, Der (dd rs) names [x] s m ∧ sub m (maskL rs L) := by
  have row : ∀ r ∈ rowsOf rs L, ∃ i, (dd rs)[i]? = some r ∧ sub (2 ^ i) (maskL rs L) := fun r hr => by
    obtain ⟨p, hp, e⟩ := mem_rowsOf.mp hr
    exact ⟨_, idx_row e, bit_sub.mpr ((mask_rows hL (idx_row e)).mpr hr)⟩
  have left : ∀ r ∈ rowsOf rs L ++ [rx], ∀ s l, l ∈ leadsBy r s names → r ∈ rowsOf rs L := fun r hr s l hl => by
    rcases List.mem_append.mp hr with z | z
    · exact z
    · rw [List.mem_singleton.mp z, told_leads hx] at hl
      exact nomatch hl
  induction f with
  | base hr e =>
    rcases List.mem_append.mp hr with z | z
    · obtain ⟨i, h1, h2⟩ := row _ z
      exact ⟨_, .base h1 e, h2⟩
    · rw [List.mem_singleton.mp z, hx] at e
      exact ⟨0, .told (List.mem_singleton.mpr (Option.some.inj e).symm), zero_sub _⟩
  | @one s l _ hl ho ih =>
    obtain ⟨m, d, h⟩ := ih
    obtain ⟨r, g1, g2, g3⟩ := mem_worked.mp hl
    obtain ⟨i, h1, h2⟩ := row r (left r g1 _ _ g2)
    exact ⟨_, .one (l := (i, l)) d (mem_workedN.mpr ⟨r, h1, g2, g3⟩) ho, or_sub h h2⟩
  | @two s s2 l _ hl ho _ ih ih2 =>
    obtain ⟨m, d, h⟩ := ih
    obtain ⟨m2, d2, h3⟩ := ih2
    obtain ⟨r, g1, g2, g3⟩ := mem_worked.mp hl
    obtain ⟨i, h1, h2⟩ := row r (left r g1 _ _ g2)
    exact ⟨_, .two (l := (i, l)) d (mem_workedN.mpr ⟨r, h1, g2, g3⟩) ho d2, or_sub (or_sub h h2) h3⟩
theorem der_more {rws : List Rw} {t1 t2 : List Say} (h : ∀ x ∈ t1, x ∈ t2) {s : Say} {m : Nat} (d : Der rws names t1 s m) : Der rws names t2 s m := by
  induction d with
  | told h1 => exact .told (h _ h1)
  | base h1 h2 => exact .base h1 h2
  | one _ hl ho ih => exact .one ih hl ho
  | two _ hl ho _ ih ih2 => exact .two ih hl ho ih2
/-- the lots against: of the masks that are least beside a saying, and not alone -/
theorem against_lots {rx : Rw} {x : Say} (hx : sayOf rx = some x) {L : List Nat} :
    (∃ m, (LeastD (Der (dd rs) names [x] .clash) m ∧ ¬ LeastD (Der (dd rs) names [] .clash) m) ∧ Choice rs m L) ↔
      LeastG rs (fun L => Fol (rowsOf rs L ++ [rx]) names .clash) L ∧ ¬ ∃ A, LeastG rs (fun L => Fol (rowsOf rs L) names .clash) A ∧ ∀ p ∈ A, p ∈ L := by
  have g1 : ∀ {L}, LeastG rs (fun L => Fol (rowsOf rs L ++ [rx]) names .clash) L ↔ _ := fun {L} => least_gen (rs := rs) (D := Der (dd rs) names [x] .clash) (G := fun L => Fol (rowsOf rs L ++ [rx]) names .clash) (fun L hL h => fol_derT hx hL h) (fun L hL m d hs => der_folT hx hL d hs) (L := L)
  have g0 : ∀ {L}, LeastG rs (fun L => Fol (rowsOf rs L) names .clash) L ↔ _ := fun {L} => least_gen (rs := rs) (D := Der (dd rs) names [] .clash) (G := fun L => Fol (rowsOf rs L) names .clash) (fun L hL h => fol_der hL h) (fun L hL m d hs => der_fol hL d hs) (L := L)
  constructor
  · rintro ⟨m, ⟨h1, h2⟩, c⟩
    refine ⟨g1.mpr ⟨m, h1, c⟩, ?_⟩
    rintro ⟨A, hA, hs⟩
    obtain ⟨a, la, ca⟩ := g0.mp hA
    have hsub : sub a m := by
      rw [← ca.2.1, ← c.2.1]
      exact sub_iff.mpr fun i hi => by
        obtain ⟨p, hp, ep⟩ := mask_test.mp hi
        exact mask_test.mpr ⟨p, hs p hp, ep⟩
    have e := h1.2 a (der_more (t1 := []) (fun _ h => absurd h (by simp)) la.1) hsub
    rw [e] at la
    exact h2 la
  · rintro ⟨h1, h2⟩
    obtain ⟨m, lm, c⟩ := g1.mp h1
    exact ⟨m, ⟨lm, fun l0 => h2 ⟨L, g0.mpr ⟨m, l0, c⟩, fun _ h => h⟩⟩, c⟩
end
end Ah
end
section
set_option Elab.async false
set_option linter.all false
set_option maxRecDepth 100000
set_option maxHeartbeats 4000000
namespace Ah
open PySem PySem.Spec PyProof.Rows L2
/-! ### lists of sayings by what stands in them -/
open Classical in
noncomputable def pickS (M : Say → Prop) : List Say := (allSay.filter fun s => decide (M s)).mergeSort leSay
theorem pickS_congr {M N : Say → Prop} (h : ∀ s, M s ↔ N s) : pickS M = pickS N := by
  have : M = N := funext fun s => propext (h s)
  rw [this]
theorem pickS_mem {M : Say → Prop} (hM : ∀ s, M s → s ∈ allSay) {s : Say} : s ∈ pickS M ↔ M s := by
  unfold pickS
  rw [(List.mergeSort_perm _ leSay).mem_iff, List.mem_filter]
  constructor
  · rintro ⟨_, h⟩
    exact (@decide_eq_true_iff _ (Classical.propDecidable _)).mp h
  · intro h
    exact ⟨hM s h, (@decide_eq_true_iff _ (Classical.propDecidable _)).mpr h⟩
theorem allSay_nodup : allSay.Nodup := by decide +kernel
theorem pickS_len (M : Say → Prop) : (pickS M).length ≤ 28 := by
  unfold pickS
  rw [(List.mergeSort_perm _ leSay).length_eq, ← allSay_len]
  exact List.length_filter_le ..
theorem paired_says {K : PySem.W.Frag} {H : Hp} : ∀ {l : List Tx} {m : List Say}, l.map (·.2) = m.map (fun s => keyW s.ws) → (∀ b ∈ l, ∃ s : Say, b.2 = keyW s.ws ∧ SqT K H b.1 (s.ws.map V.str)) → Paired (SayAt K H) (l.map fun b => V.ref b.1) m
  | [], [], _, _ => .nil
  | [], _ :: _, h, _ => nomatch h
  | _ :: _, [], h, _ => nomatch h
  | b :: l, s :: m, h, hb => by
    rw [List.map_cons, List.map_cons] at h
    injection h with h1 h2
    obtain ⟨s', e, q⟩ := hb b (List.mem_cons_self ..)
    have es : s' = s := Say.inj (keyW_inj (e.symm.trans h1))
    rw [es] at q
    exact .cons ⟨b.1, rfl, q⟩ (paired_says h2 fun c hc => hb c (List.mem_cons_of_mem _ hc))
theorem pick_of {K : PySem.W.Frag} {H : Hp} {bs : List Tx} {M : Say → Prop} (hM : ∀ s, M s → s ∈ allSay) (b1 : ∀ b ∈ bs, ∃ s : Say, M s ∧ b.2 = keyW s.ws ∧ SqT K H b.1 (s.ws.map V.str)) (b2 : ∀ s, M s → ∃ b ∈ bs, b.2 = keyW s.ws) (nd : (bs.map (·.2)).Nodup) :
    Paired (SayAt K H) ((bs.mergeSort leT).map fun b => V.ref b.1) (pickS M) := by
  obtain ⟨ss, e1, h1⟩ := says_of (bs := bs) (M := M) fun b hb => let ⟨s, a, c, _⟩ := b1 b hb; ⟨s, a, c⟩
  have ns : ss.Nodup := by
    rw [e1] at nd
    exact nodup_of_map nd
  have nn : ∀ s, s ∈ ss ↔ M s := fun s => by
    refine ⟨h1 s, fun h => ?_⟩
    obtain ⟨b, hb, e⟩ := b2 s h
    have : keyW s.ws ∈ bs.map (·.2) := List.mem_map.mpr ⟨b, hb, e⟩
    rw [e1] at this
    obtain ⟨s', h3, h4⟩ := List.mem_map.mp this
    rw [← Say.inj (keyW_inj h4)]
    exact h3
  have e2 := sort_tx e1
  have e3 : ss.mergeSort leSay = pickS M := by
    unfold pickS
    refine sort_says_eq ns (allSay_nodup.sublist List.filter_sublist) (fun s => ?_) fun s hs => hM s (h1 s hs)
    rw [nn, List.mem_filter]
    exact ⟨fun h => ⟨hM s h, (@decide_eq_true_iff _ (Classical.propDecidable _)).mpr h⟩, fun h => (@decide_eq_true_iff _ (Classical.propDecidable _)).mp h.2⟩
  rw [e3] at e2
  exact paired_says e2 fun b hb => let ⟨s, _, c, d⟩ := b1 b ((List.mergeSort_perm bs leT).mem_iff.mp hb); ⟨s, c, d⟩
/-- all that follows, rising -/
noncomputable def folL (rs : List Rw) : List Say := pickS (LFol rs)
noncomputable def onlyL (rs rs2 : List Rw) : List Say := pickS fun s => LFol rs s ∧ ¬ LFol rs2 s
theorem folL_same {r1 r2 : List Rw} (h : ∀ r, r ∈ r1 ↔ r ∈ r2) : folL r1 = folL r2 := pickS_congr fun s => lfol_same h
theorem onlyL_same {r1 r2 s1 s2 : List Rw} (h : ∀ r, r ∈ r1 ↔ r ∈ r2) (h2 : ∀ r, r ∈ s1 ↔ r ∈ s2) : onlyL r1 s1 = onlyL r2 s2 := pickS_congr fun s => by rw [lfol_same h, lfol_same h2]
theorem onlyL_nil {r1 r2 : List Rw} (hf : ∀ r ∈ r1, r.few) (h : ∀ r, r ∈ r1 ↔ r ∈ r2) : onlyL r1 r2 = [] := by
  refine List.eq_nil_iff_forall_not_mem.mpr fun s hs => ?_
  have := (pickS_mem (fun s hs => mem_allSay (lfol_few hf hs.1))).mp hs
  exact this.2 ((lfol_same h).mp this.1)
theorem folL_mem {rs : List Rw} (hf : ∀ r ∈ rs, r.few) {s : Say} : s ∈ folL rs ↔ LFol rs s := pickS_mem fun s hs => mem_allSay (lfol_few hf hs)
theorem fol_data {K : PySem.W.Frag} {H' : Hp} {rs rws : List Rw} {names : List Str} {bs : List Tx} (hf : ∀ r ∈ rs, r.few) (hrw : ∀ r, r ∈ rws ↔ r ∈ rs) (hnm : ∀ z, z ∈ names ↔ ∃ r ∈ rs, z ∈ rowNames r)
    (hb : ∀ b ∈ bs, ∃ s, s ≠ .clash ∧ Fol rws names s ∧ b.2 = keyW s.ws ∧ SqT K H' b.1 (s.ws.map V.str)) (hall : ∀ s, s ≠ .clash → Fol rws names s → ∃ b ∈ bs, b.2 = keyW s.ws) (nd : (bs.map (·.2)).Nodup) :
    Paired (SayAt K H') ((bs.mergeSort leT).map fun b => V.ref b.1) (folL rs) :=
  pick_of (fun s hs => mem_allSay (lfol_few hf hs)) (fun b h => let ⟨s, a1, a2, a3, a4⟩ := hb b h; ⟨s, (fol_eq hf hrw hnm s).mpr ⟨a1, a2⟩, a3, a4⟩) (fun s hs => let ⟨a, b⟩ := (fol_eq hf hrw hnm s).mp hs; hall s a b) nd
theorem only_data {K : PySem.W.Frag} {H' : Hp} {rs rs2 : List Rw} {ts : List Tx} (hf : ∀ r ∈ rs, r.few) (h : OnlyT K H' rs rs2 ts) : Paired (SayAt K H') (ts.map fun b => V.ref b.1) (onlyL rs rs2) := by
  have := pick_of (K := K) (H := H') (bs := ts) (M := fun s => LFol rs s ∧ ¬ LFol rs2 s) (fun s hs => mem_allSay (lfol_few hf hs.1)) h.at_ h.all_ h.nd
  rwa [h.srt] at this
end Ah
end
section
set_option Elab.async false
set_option linter.all false
set_option maxRecDepth 100000
set_option maxHeartbeats 8000000
namespace Ah
open PySem PySem.Spec PyProof.Rows L2
open GxR (TabB TabG Tabbed)
/-! ### clashes -/
theorem scClashes : FnScope ["rows"] ["rows"] (defScope sClashes) := ⟨rfl, rfl, rfl, by decide +kernel, rfl, by decide +kernel, by decide +kernel⟩
def spClashes (K : PySem.W.Frag) (T : List Addr) (P1 : Addr) : Sp := fun vs H Q _ => ∃ (q : Addr) (rs : List Rw), vs = [.ref q] ∧ TextAt H q rs ∧ (∀ r ∈ rs, r.few) ∧ rs.length ≤ 10 ∧ TWd T P1 H ∧
  ∀ p ws H' names Ls, Ko T P1 H H' → H p = none → H' p = some (.lst ws) → Paired (LotAt K H') ws Ls → Ls.Pairwise ltL → (∀ r ∈ rs, ∀ z ∈ rowNames r, z ∈ names) → (∀ L, L ∈ Ls ↔ LeastLot rs names .clash L) → Q (.ref p) H'
section
variable {P : Program} {w : World} {K : PySem.W.Frag} {mg : Str → Option Value} {base : Heap} {f P1 fC fL cl : Addr} {fd fdC fdL : FuncData} {T : List Addr}
theorem ok_clashes (F : FnP K "clashes" sClashes f fd) (Cc : TClash K mg cl) (nP : P1 ∉ T) (cC : Own P w K mg base "check_text" 6 fC fdC ["rows"] (spCheck0 K T))
    (cL : Own P w K mg base "lots_of" 10 fL fdL ["rows", "result"] (spLots K P1)) : FnOk P w K mg base CX0 11 f fd ["rows"] (spClashes K T P1) := by
  refine F.ok scClashes (fun vs H Q E h => ?_) (fun cdv A outer s H vs Q E hr h => ?_)
  · obtain ⟨q, rs, rfl, _⟩ := h
    rfl
  · obtain ⟨q, rs, rfl, tx, hf, hl, W, k⟩ := h
    have gCl := Cc.g
    refine ⟨_, PSs.nox (pss_cons (ps_expr (pe_call cC.ok (hr.mono (by decide)) (by rfl) cC.g cC.kp cC.b .nil pass0 (pa_cons (pv 0) pa_nil)))
      (pss_one (ps_ret (pe_call cL.ok hr (by rfl) cL.g cL.kp cL.b .nil pass0 (pa_cons (pv 0) (pa_cons (pe_glob (v := .ref cl) (by rfl) gCl rfl) pa_nil)))))), ?_⟩
    obtain ⟨ps, hq, hps⟩ := id tx
    have lps : ps.length = rs.length := hps.length
    refine ⟨_, rfl, q, ps.map V.ref, rfl, hq, by rw [List.length_map]; omega, text_rows (q := q) hps hf, W.tg, fun H1 kp1 => ?_⟩
    have o1 := Ko.kp W nP kp1
    refine ⟨_, rfl, q, _, rs, .clash, rfl, tx.kept (M := []) o1.tk, hf, hl, ⟨cl, rfl, Cc.val _⟩, o1.tw.ts, fun p ws H3 names Ls kb T3 np e3 r3 hs hn hm => ?_⟩
    exact k p ws H3 names Ls (o1.trans (Ko.kb o1.tw nP kb T3)) (o1.fresh _ np) e3 r3 hs hn hm
end
end Ah
end
section
set_option Elab.async false
set_option linter.all false
set_option maxRecDepth 100000
set_option maxHeartbeats 2000000
/-! {k: v for tg in iter if .. for tg1 in iter1 if ..}, k an int or a text. -/
namespace L2
open PySem PySem.Spec PyProof.Rows PpSet
section
variable {prog : Program} {w : World} {A : Around} {R : Result → Shared → Prop} {s : Shared} {kx vx t0 i0 t1 i1 : Expr} {f0 f1 : List Expr} {scope : Scope} {pos : Pos} {it : Value} {D : Addr} {env : Env}
abbrev Dc2 (kx vx t0 i0 t1 i1 : Expr) (f0 f1 : List Expr) (scope : Scope) (pos : Pos) : Expr := .DictComp kx vx [⟨t0, i0, f0, 0⟩, ⟨t1, i1, f1, 0⟩] scope pos
theorem dc2_turn0 : compTurn (Dc2 kx vx t0 i0 t1 i1 f0 f1 scope pos) 0 it (.ref D) env = (do
      standAt i0.pos
      match ← pyNext it with
      | none => pure (.done .next)
      | some v =>
        letOwnedTupleGo t0 it v
        assign t0 env v
        let mut ok := true
        for c in f0 do
          if ok then ok ← isTrue c env (eval c env)
        if ok then
          let x ← eval i1 env
          standAt i1.pos
          let x ← foldedSetIterable i1 env x
          let _ ← runOwn (.compStart (Dc2 kx vx t0 i0 t1 i1 f0 f1 scope pos) 1 (← holding [x] (pyIter x)) (.ref D) env) env
        again (.compLoop (Dc2 kx vx t0 i0 t1 i1 f0 f1 scope pos) 0 it (.ref D) env)) := by rfl
theorem dc2_turn1 : compTurn (Dc2 kx vx t0 i0 t1 i1 f0 f1 scope pos) 1 it (.ref D) env = (do
      standAt i1.pos
      match ← pyNext it with
      | none => pure (.done .next)
      | some v =>
        letOwnedTupleGo t1 it v
        assign t1 env v
        let mut ok := true
        for c in f1 do
          if ok then ok ← isTrue c env (eval c env)
        if ok then
          (do
            let kv ← eval kx env
            let vv ← holding [kv] (eval vx env)
            standAt { kx.pos with endLine := vx.pos.endLine, endCol := vx.pos.endCol }
            holding [kv, vv] (dictSet D kv vv))
        again (.compLoop (Dc2 kx vx t0 i0 t1 i1 f0 f1 scope pos) 1 it (.ref D) env)) := by rfl
/-- the outer loop -/
theorem dc2_out (hs : ∀ x, foldedSetIterable i1 env x = pure x) (I : Nat → Shared → Prop)
    (turn : ∀ n s, I n s → wpAny (model prog w) A (pyNext it) (fun r s₁ => match r with
      | none => R (.ok .next) s₁
      | some v => wpAny (model prog w) A (letOwnedTupleGo t0 it v) (fun _ s₁' => wpAny (model prog w) A (assign t0 env v) (fun _ s₂ =>
          wpAny (model prog w) A (forIn f0 true fun c r => if r = true then do let ok ← isTrue c env (eval c env); pure (ForInStep.yield ok) else pure (ForInStep.yield r)) (fun ok s₃ =>
            if ok = true then wpAny (model prog w) A (eval i1 env) (fun x s₄ => wpAny (model prog w) A (pyIter x) (fun it1 s₅ =>
              codeAny (model prog w) A (.compStart (Dc2 kx vx t0 i0 t1 i1 f0 f1 scope pos) 1 it1 (.ref D) env) (fun r s' => match r with
                | .ok _ => ∃ m, m < n ∧ I m s'
                | .error _ => False) s₅) (notedBy (model prog w) A env fun e s' => R (.error e) s') s₄) (notedBy (model prog w) A env fun e s' => R (.error e) s') s₃
            else ∃ m, m < n ∧ I m s₃) (notedBy (model prog w) A env fun e s' => R (.error e) s') s₂) (notedBy (model prog w) A env fun e s' => R (.error e) s') s₁') (notedBy (model prog w) A env fun e s' => R (.error e) s') s₁) (notedBy (model prog w) A env fun e s' => R (.error e) s') s)
    (n : Nat) (h : I n s) : codeAny (model prog w) A (.compLoop (Dc2 kx vx t0 i0 t1 i1 f0 f1 scope pos) 0 it (.ref D) env) R s := by
  refine codeAny_loop rfl I (fun n s hI => ?_) n h
  show wpAny _ A ((compTurn (Dc2 kx vx t0 i0 t1 i1 f0 f1 scope pos) 0 it (.ref D) env).onRaise (fun x => do noteFrame x env; theTreesLotGoes x)) _ _ s
  refine wpAny_noted ?_
  rw [dc2_turn0]
  refine wpAny_bind (wpAny_standAt (wpAny_bind (wpAny_mono (turn n s hI) (fun r s₁ h₁ => ?_) fun _ _ h' => h')))
  cases r with
  | none => exact wpAny_pure h₁
  | some v =>
    refine wpAny_bind (wpAny_mono h₁ (fun _ s₁' h₁' => ?_) fun _ _ h' => h')
    refine wpAny_bind (wpAny_mono h₁' (fun _ s₂ h₂ => wpAny_bind (wpAny_mono h₂ (fun ok s₃ h₃ => ?_) fun _ _ h' => h')) fun _ _ h' => h')
    cases ok with
    | false => exact wpAny_pure ⟨rfl, h₃⟩
    | true =>
      refine wpAny_bind (wpAny_mono h₃ (fun x s₄ h₄ => ?_) fun _ _ h' => h')
      refine wpAny_bind (wpAny_standAt (wpAny_bind (wpAny_of_eq (hs x) (wpAny_bind (wpAny_holding (wpAny_mono h₄ (fun it1 s₅ h₅ => ?_) fun _ _ h' => h'))))))
      refine wpAny_bind (wpAny_runOwn ?_)
      rw [Around.mark_none]
      refine codeAny_mono h₅ fun r s' hr => ?_
      cases r with
      | ok f =>
        first
          | exact wpAny_pure ⟨rfl, hr⟩
          | exact wpAny_bind (wpAny_pure (wpAny_pure ⟨rfl, hr⟩))
      | error e => exact hr.elim
/-- the inner one -/
theorem dc2_in (I : Nat → Shared → Prop)
    (turn : ∀ n s, I n s → wpAny (model prog w) A (pyNext it) (fun r s₁ => match r with
      | none => R (.ok .next) s₁
      | some v => wpAny (model prog w) A (letOwnedTupleGo t1 it v) (fun _ s₁' => wpAny (model prog w) A (assign t1 env v) (fun _ s₂ =>
          wpAny (model prog w) A (forIn f1 true fun c r => if r = true then do let ok ← isTrue c env (eval c env); pure (ForInStep.yield ok) else pure (ForInStep.yield r)) (fun ok s₃ =>
            if ok = true then wpAny (model prog w) A (eval kx env) (fun kv s₄ => wpAny (model prog w) A (eval vx env) (fun vv s₅ =>
              wpAny (model prog w) A (dictSet D kv vv) (fun _ s₆ => ∃ m, m < n ∧ I m s₆) (notedBy (model prog w) A env fun e s' => R (.error e) s') s₅) (notedBy (model prog w) A env fun e s' => R (.error e) s') s₄) (notedBy (model prog w) A env fun e s' => R (.error e) s') s₃
            else ∃ m, m < n ∧ I m s₃) (notedBy (model prog w) A env fun e s' => R (.error e) s') s₂) (notedBy (model prog w) A env fun e s' => R (.error e) s') s₁') (notedBy (model prog w) A env fun e s' => R (.error e) s') s₁) (notedBy (model prog w) A env fun e s' => R (.error e) s') s)
    (n : Nat) (h : I n s) : codeAny (model prog w) A (.compLoop (Dc2 kx vx t0 i0 t1 i1 f0 f1 scope pos) 1 it (.ref D) env) R s := by
  refine codeAny_loop rfl I (fun n s hI => ?_) n h
  show wpAny _ A ((compTurn (Dc2 kx vx t0 i0 t1 i1 f0 f1 scope pos) 1 it (.ref D) env).onRaise (fun x => do noteFrame x env; theTreesLotGoes x)) _ _ s
  refine wpAny_noted ?_
  rw [dc2_turn1]
  refine wpAny_bind (wpAny_standAt (wpAny_bind (wpAny_mono (turn n s hI) (fun r s₁ h₁ => ?_) fun _ _ h' => h')))
  cases r with
  | none => exact wpAny_pure h₁
  | some v =>
    refine wpAny_bind (wpAny_mono h₁ (fun _ s₁' h₁' => ?_) fun _ _ h' => h')
    refine wpAny_bind (wpAny_mono h₁' (fun _ s₂ h₂ => wpAny_bind (wpAny_mono h₂ (fun ok s₃ h₃ => ?_) fun _ _ h' => h')) fun _ _ h' => h')
    cases ok with
    | false => exact wpAny_pure ⟨rfl, h₃⟩
    | true =>
      exact wpAny_bind (wpAny_bind (wpAny_mono h₃ (fun kv s₄ h₄ => wpAny_bind (wpAny_holding (wpAny_mono h₄ (fun vv s₅ h₅ => wpAny_bind (wpAny_standAt (wpAny_holding (wpAny_mono h₅ (fun _ s₆ h₆ => wpAny_pure ⟨rfl, h₆⟩) fun _ _ h' => h')))) fun _ _ h' => h'))) fun _ _ h' => h'))
theorem dc2_start (h0 : codeAny (model prog w) A (.compLoop (Dc2 kx vx t0 i0 t1 i1 f0 f1 scope pos) 1 it (.ref D) env) R s)
    (h : wpAny (model prog w) A (pyIter it) (fun it' s' => codeAny (model prog w) A (.compLoop (Dc2 kx vx t0 i0 t1 i1 f0 f1 scope pos) 1 it' (.ref D) env) R s')
      (notedBy (model prog w) A env fun x s' => R (.error x) s') s) :
    codeAny (model prog w) A (.compStart (Dc2 kx vx t0 i0 t1 i1 f0 f1 scope pos) 1 it (.ref D) env) R s := by
  refine codeAny_of_tree ?_
  show wpAny _ _ ((compStart (Dc2 kx vx t0 i0 t1 i1 f0 f1 scope pos) 1 it (.ref D) env).onRaise (fun x => do noteFrame x env; standAt theWindowsPlace)) _ _ s
  refine wpAny_notedAt ?_
  unfold compStart
  show wpAny _ _ (ask >>= _) _ _ s
  refine wpAny_bind (wpAny_askSetting (wpAny_ite ?_))
  split
  · first
      | exact wpAny_bind (wpAny_pure (wpAny_pure (And.intro rfl h0)))
      | exact wpAny_pure (And.intro rfl h0)
  · first
      | exact wpAny_bind (wpAny_rule (wpAny_bind (wpAny_standAt (wpAny_bind (wpAny_mono h (fun it' s' h' => wpAny_pure (And.intro rfl h')) fun _ _ x => x)))))
      | (refine wpAny_bind (wpAny_rule ?_); show wpAny _ _ (standAt i1.pos >>= _) _ _ s; exact wpAny_bind (wpAny_standAt (wpAny_bind (wpAny_mono h (fun it' s' h' => wpAny_pure (And.intro rfl h')) fun _ _ x => x))))
end
section
variable {X : Cx}
/-- D: the new set; vs: the block's names; vs1: those of the second target -/
def tDc2 (wi : TI) (g : TG) (tt : TT) (wi1 : TI) (g1 : TG) (tt1 : TT) (tk tv : TE) (vs vs1 : List Nat) : TE := fun σ H Q => wi σ H fun J H1 => ∀ D, H1 D = none → ∃ W : Nat → Nat → Hp → Prop, (∃ m, W 0 m (upd H1 D (.dK []))) ∧ ∀ i m H, W i m H →
  (J.stop i H ∧ Q (.ref D) H) ∨ (J.go i H ∧ ∃ Nx : Hp → Prop, (∀ H', Nx H' → ∃ m', m' < m ∧ W (i + 1) m' H') ∧ ∀ x H', J.yld i H x H' → g x (wipe σ vs) H' fun σ2 H2 => wipe σ2 vs = wipe σ vs ∧ tt σ2 H2 fun b H3 =>
    if b = true then wi1 σ2 H3 fun J1 H4 => ∃ W1 : Nat → Nat → Hp → Prop, (∃ m, W1 0 m H4) ∧ ∀ j k H, W1 j k H →
      (J1.stop j H ∧ Nx H) ∨ (J1.go j H ∧ ∃ Nx1 : Hp → Prop, (∀ H', Nx1 H' → ∃ k', k' < k ∧ W1 (j + 1) k' H') ∧ ∀ x H', J1.yld j H x H' → g1 x (wipe σ2 vs1) H' fun σ3 H5 => wipe σ3 vs1 = wipe σ2 vs1 ∧ tt1 σ3 H5 fun b H6 =>
        if b = true then tk σ3 H6 fun y H7 => tv σ3 H7 fun z H8 => ∃ kvs k, y = kV k ∧ H8 D = some (.dK kvs) ∧ kvs.length < sizeLine ∧ Nx1 (upd H8 D (.dK (putK kvs k z))) else Nx1 H6)
    else Nx H3)
theorem dc2_core {pins : List (Addr × Obj)} {s : Shared} {σ : St} {H : Hp} {Q : VK} {kx vx tg iter tg1 iter1 : Expr} {ifs ifs1 : List Expr} {scope : Scope} {own : List (Str × Nat)} {vs1 : List Nat} {pos pos' : Pos} {wi wi1 : TI} {g g1 : TG} {tt tt1 : TT} {tk tv : TE} {use : Option (Value → Sem Unit)} {Qf : Value → Shared → Prop}
    (hc : X.calm = true) (hN : X.N.Nodup) (I : Inv X pins σ H s) (hi : PI X tg iter wi) (ok : BlkOk X.N X.env.scope scope own) (hv : ∀ i ∈ vs1, i ∈ own.map (·.2))
    (hg : ∀ (s : Shared) (H : Hp) (C : Addr) (cl : List (Str × Addr)) (fp : List Addr), PG (X.blk s H scope (compEnvC scope cl C X.env) fp) tg g) (ht : ∀ (s : Shared) (H : Hp) (C : Addr) (cl : List (Str × Addr)) (fp : List Addr), PTs (X.blk s H scope (compEnvC scope cl C X.env) fp) ifs tt)
    (hk : ∀ (s : Shared) (H : Hp) (C : Addr) (cl : List (Str × Addr)) (fp : List Addr), PE (X.blk s H scope (compEnvC scope cl C X.env) fp) kx tk) (he : ∀ (s : Shared) (H : Hp) (C : Addr) (cl : List (Str × Addr)) (fp : List Addr), PE (X.blk s H scope (compEnvC scope cl C X.env) fp) vx tv) (hs : ∀ x, foldedSetIterable iter X.env x = pure x)
    (hi1 : ∀ (s : Shared) (H : Hp) (C : Addr) (cl : List (Str × Addr)) (fp : List Addr), PI (X.blk s H scope (compEnvC scope cl C X.env) fp) tg1 iter1 wi1)
    (hg1 : ∀ (s : Shared) (H : Hp) (C : Addr) (cl : List (Str × Addr)) (fp : List Addr), PG (X.blk s H scope (compEnvC scope cl C X.env) fp) tg1 g1)
    (ht1 : ∀ (s : Shared) (H : Hp) (C : Addr) (cl : List (Str × Addr)) (fp : List Addr), PTs (X.blk s H scope (compEnvC scope cl C X.env) fp) ifs1 tt1)
    (hs1 : ∀ env x, foldedSetIterable iter1 env x = pure x)
    (h : tDc2 wi g tt wi1 g1 tt1 tk tv (own.map (·.2)) vs1 σ H Q)
    (hRR : ∀ D C s' m H', Inv X pins σ H' s' → Q (.ref D) H' → s'.heap.Ns C m → FpOk X pins H' C → compPost (model X.prog X.w) X.A X.xe use Qf (.ref D) C (.ok .next) s') :
    wpAny (model X.prog X.w) X.A (comprehension (Dc2 kx vx tg iter tg1 iter1 ifs ifs1 scope pos) scope X.env pos' newDict false (eval iter X.env) use) Qf X.xe s := by
  have hfree : ∀ y ∈ scope.names, y.2 = .free → ∃ c, X.env.cells.lookup y.1 = some c := fun y hy e => by
    rcases ok.free y hy e with k | k
    · exact I.ok.has _ (.inl k)
    · exact I.ok.has _ (.inr k)
  refine wpAny_comprehension_free (use := use) rfl hs (closure_ok hfree) ok.kind (fun y hy e => by rw [ok.uniq y hy, e])
    (thn (hi.run pins s σ H _ I h) fun xv s1 hx => thn hx fun itv s2 h2 => ?_)
  obtain ⟨it, fp, tn, J, H2, e, I2, T, st2, f2, q⟩ := h2
  subst e
  refine wpAny_newObj_type (newEnv_comp ?_)
  generalize hD : s2.heap.objs.size = D
  have hDn : H2 D = none := I2.hok.fresh (Nat.le_of_eq hD)
  obtain ⟨W, ⟨m0, w0⟩, turn⟩ := q D hDn
  generalize hs3 : ({ s2 with heap := s2.heap.push { cls := .type "dict", data := .dict #[] } } : Shared) = s3
  generalize hO : HO.dK [] = O at w0
  have I3 : Inv X pins σ (upd H2 D O) s3 := by
    rw [← hs3, ← hO]
    refine I2.laid (t' := s2.toks) (fun b o e => Heap.get?_push_of_some _ e) (Nat.le_of_eq hD) ?_
    rw [← hD]
    exact dk_empty s2.heap I2.big
  have h3 : s3.heap = s2.heap.push { cls := .type "dict", data := .dict #[] } := by rw [← hs3]
  have sz : ∀ b ∈ fp, b < s2.heap.objs.size := fun b hb => by
    obtain ⟨o, e, _⟩ := T.obj _ _ st2 b hb
    exact Heap.lt_size e
  have f3 : ∀ b ∈ fp, FpOk X pins (upd H2 D O) b ∧ b < s3.heap.objs.size := fun b hb => by
    have hlt := sz b hb
    refine ⟨⟨?_, (f2 b hb).2⟩, by rw [h3, Heap.size_push]; exact Nat.lt_succ_of_lt hlt⟩
    rw [upd_ne (by rw [← hD]; exact Nat.ne_of_lt hlt)]
    exact (f2 b hb).1
  have st3 : tn 0 s3.heap := T.keep _ _ _ st2 fun b _ o e => by rw [h3]; exact Heap.get?_push_of_some _ e
  have I4 := block_start I3 ok hN f3
  generalize hcl : cellsFrom (s3.heap.objs.size + 1) scope.names (cloFrom X.env.cells scope.names []) = cl at I4
  have pg := hg s3 (upd H2 D O) s3.heap.objs.size cl fp
  have pt := ht s3 (upd H2 D O) s3.heap.objs.size cl fp
  have pe := he s3 (upd H2 D O) s3.heap.objs.size cl fp
  have pk := hk s3 (upd H2 D O) s3.heap.objs.size cl fp
  have pi1 := hi1 s3 (upd H2 D O) s3.heap.objs.size cl fp
  have pg1 := hg1 s3 (upd H2 D O) s3.heap.objs.size cl fp
  have pt1 := ht1 s3 (upd H2 D O) s3.heap.objs.size cl fp
  show codeAny _ _ (.compStart (Dc2 kx vx tg iter tg1 iter1 ifs ifs1 scope pos) 0 (.ref it) (.ref D) (compEnvC scope cl s3.heap.objs.size X.env)) (compPost (model X.prog X.w) X.A X.xe use Qf (.ref D) s3.heap.objs.size) { s3 with heap := pushCells (s3.heap.push { cls := .type "dict", data := .dict #[] }) scope.names }
  have nfp : ∀ b ∈ fp, (upd H2 D O) b = none := fun b hb => (f3 b hb).1.1
  generalize hce : compEnvC scope cl s3.heap.objs.size X.env = ce at I4 pg pt pe pk pi1 pg1 pt1 ⊢
  have cL : ce.locals = s3.heap.objs.size := by subst hce; rfl
  generalize hH3 : upd H2 D O = H3 at I3 I4 pg pt pe pk pi1 pg1 pt1 w0 nfp f3
  generalize hs4 : ({ s3 with heap := pushCells (s3.heap.push { cls := .type "dict", data := .dict #[] }) scope.names } : Shared) = s4 at I4 ⊢
  have st4 : tn 0 s4.heap := T.keep _ _ _ st3 fun b _ o e => by rw [← hs4]; exact pushCells_keeps _ _ _ _ (Heap.get?_push_of_some _ e)
  have stat : ∀ {σ' : St} {H' : Hp} {s' : Shared}, Inv (X.blk s3 H3 scope ce fp) [] σ' H' s' → (∀ b ∈ fp, H' b = none) → ∀ b ∈ fp, FpOk (X.blk s3 H3 scope ce fp) [] H' b := fun {σ' H' s'} I' hn b hb =>
    ⟨hn b hb, (I'.ok.exf b hb).1, I'.ok.exfs b hb, .inl hb, fun x c e => (I'.ok.exf b hb).2 x c e, fun p hp => absurd (show p ∈ ([] : List (Addr × Obj)) ++ [] from hp) (by simp)⟩
  have loop : codeAny (model X.prog X.w) X.A (.compLoop (Dc2 kx vx tg iter tg1 iter1 ifs ifs1 scope pos) 0 (.ref it) (.ref D) ce) (compPost (model X.prog X.w) X.A X.xe use Qf (.ref D) s3.heap.objs.size) s4 := by
    refine dc2_out (hs1 ce) (fun n s' => ∃ i H', Inv (X.blk s3 H3 scope ce fp) [] (wipe σ (own.map (·.2))) H' s' ∧ tn i s'.heap ∧ (∀ b ∈ fp, H' b = none) ∧ W i n H') ?_ m0 ⟨0, H3, I4, st4, nfp, w0⟩
    rintro n s5 ⟨i, H5, I5, st5, n5, w5⟩
    rcases turn i n H5 w5 with ⟨stop, qq⟩ | ⟨go, Nx, hNx, step⟩
    · refine thnF (T.done (X.blk s3 H3 scope ce fp) rfl rfl rfl hc i [] s5 _ H5 (fun _ _ => False) I5 (stat I5 n5) st5 stop) fun r s6 ⟨hr, I6⟩ => ?_
      subst hr
      have I7 : Inv X pins σ H5 s6 := I3.call' (ch := fp) I6.os I6.base I6.hok I6.bare fun b hb => ⟨(f3 b hb).1.2.2.2.1, (f3 b hb).1.2.1, (f3 b hb).1.2.2.2.2.1, (f3 b hb).1.2.2.2.2.2⟩
      have nC : H5 s3.heap.objs.size = none := by
        have z : H5 ce.locals = none := I6.free
        rw [cL] at z
        exact z
      obtain ⟨m, hn, _⟩ := I6.loc
      have hn : s6.heap.Ns ce.locals m := hn
      rw [cL] at hn
      exact hRR D s3.heap.objs.size s6 m H5 I7 qq hn (I3.fpOk (Nat.le_refl _) nC)
    · refine thnF (T.item (X.blk s3 H3 scope ce fp) rfl rfl rfl hc i [] s5 _ H5 (fun _ _ => False) I5 (stat I5 n5) st5 go) fun r s6 ⟨u, hr, h6⟩ => ?_
      subst hr
      refine thnF h6 fun _ s7 ⟨x, H7, I7, r7, y7, st7, n7⟩ => ?_
      have I7' := I7.pinned (stat I7 n7) (T.obj _ _ st7)
      refine thnF (pg.run _ s7 _ H7 x u _ I7' r7 (step x H7 y7)) fun _ s8 ⟨σ8, H8, I8, hw8, q8⟩ => ?_
      refine thnF (pt.run _ s8 σ8 H8 _ I8 q8) fun b s9 ⟨H9, I9, q9⟩ => ?_
      have fin : ∀ {σ9 : St} {s' : Shared} {H' : Hp}, Inv (X.blk s3 H3 scope ce fp) ([] ++ pinsAt fp s7.heap) σ9 H' s' → (wipe σ (own.map (·.2))).length = σ9.length → (∀ (j : Nat) v, (wipe σ (own.map (·.2)))[j]? = some (some v) → σ9[j]? = some (some v)) → Nx H' →
          ∃ m, m < n ∧ ∃ i H', Inv (X.blk s3 H3 scope ce fp) [] (wipe σ (own.map (·.2))) H' s' ∧ tn i s'.heap ∧ (∀ b ∈ fp, H' b = none) ∧ W i m H' := fun {σ9 s' H'} I' hl hk nx => by
        obtain ⟨m', hm, w'⟩ := hNx H' nx
        have pin' : ∀ b ∈ fp, ∀ o, s7.heap.get? b = some o → s'.heap.get? b = some o ∧ H' b = none := fun b hb o e =>
          let z := I'.pin (b, o) (List.mem_append_right _ (List.mem_append_right _ (mem_pinsAt hb e)))
          ⟨z.1, z.2.1⟩
        refine ⟨m', hm, i + 1, H', (I'.unpinned (pins := [])).weak hl hk, T.keep _ _ _ st7 fun b hb o e => (pin' b hb o e).1, fun b hb => ?_, w'⟩
        obtain ⟨o, e, _⟩ := T.obj _ _ st7 b hb
        exact (pin' b hb o e).2
      have hl8 : (wipe σ (own.map (·.2))).length = σ8.length := by rw [← hw8, wipe_length]
      have hk8 : ∀ (j : Nat) v, (wipe σ (own.map (·.2)))[j]? = some (some v) → σ8[j]? = some (some v) := fun j v e => by
        rw [← hw8] at e
        exact (wipe_some e).1
      have hk9 : ∀ (j : Nat) v, (wipe σ (own.map (·.2)))[j]? = some (some v) → (wipe σ8 vs1)[j]? = some (some v) := fun j v e => by
        rw [← hw8] at e
        obtain ⟨e1, e2⟩ := wipe_some e
        rw [wipe_out fun z => e2 (hv j z)]
        exact e1
      cases b with
      | false =>
        simp only [Bool.false_eq_true, if_false] at q9 ⊢
        exact fin I9 hl8 hk8 q9
      | true =>
        simp only [if_true] at q9 ⊢
        refine thnF (pi1.run _ s9 σ8 H9 _ I9 q9) fun xv s10 hx => thnF hx fun itv s11 h11 => ?_
        obtain ⟨it1, fp1, tn1, J1, H11, e1, I11, T1, st11, f11, W1, ⟨m1, w1⟩, turn1⟩ := h11
        subst e1
        have stat1 : ∀ {H' : Hp}, (∀ b ∈ fp1, H' b = none) → ∀ b ∈ fp1, FpOk (X.blk s3 H3 scope ce fp) ([] ++ pinsAt fp s7.heap) H' b := fun hn b hb => ⟨hn b hb, (f11 b hb).2⟩
        have loop1 : codeAny (model X.prog X.w) X.A (.compLoop (Dc2 kx vx tg iter tg1 iter1 ifs ifs1 scope pos) 1 (.ref it1) (.ref D) ce)
            (fun r s' => match r with
              | .ok _ => ∃ m, m < n ∧ ∃ i H', Inv (X.blk s3 H3 scope ce fp) [] (wipe σ (own.map (·.2))) H' s' ∧ tn i s'.heap ∧ (∀ b ∈ fp, H' b = none) ∧ W i m H'
              | .error _ => False) s11 := by
          refine dc2_in (fun k s' => ∃ j H', Inv (X.blk s3 H3 scope ce fp) ([] ++ pinsAt fp s7.heap) (wipe σ8 vs1) H' s' ∧ tn1 j s'.heap ∧ (∀ b ∈ fp1, H' b = none) ∧ W1 j k H') ?_ m1 ⟨0, H11, I11.weak (wipe_length _ _) (fun j v e => (wipe_some e).1), st11, fun b hb => (f11 b hb).1, w1⟩
          rintro k s12 ⟨j, H12, I12, st12, n12, w12⟩
          rcases turn1 j k H12 w12 with ⟨stop1, nx1⟩ | ⟨go1, Nx1, hNx1, step1⟩
          · refine thnF (T1.done (X.blk s3 H3 scope ce fp) rfl rfl rfl hc j _ s12 (wipe σ8 vs1) H12 (fun _ _ => False) I12 (stat1 n12) st12 stop1) fun r s13 ⟨hr, I13⟩ => ?_
            subst hr
            exact fin I13 (hl8.trans (wipe_length σ8 vs1).symm) hk9 nx1
          · refine thnF (T1.item (X.blk s3 H3 scope ce fp) rfl rfl rfl hc j _ s12 (wipe σ8 vs1) H12 (fun _ _ => False) I12 (stat1 n12) st12 go1) fun r s13 ⟨u1, hr, h13⟩ => ?_
            subst hr
            refine thnF h13 fun _ s14 ⟨x1, H14, I14, r14, y14, st14, n14⟩ => ?_
            have I14' := I14.pinned (stat1 n14) (T1.obj _ _ st14)
            refine thnF (pg1.run _ s14 (wipe σ8 vs1) H14 x1 u1 _ I14' r14 (step1 x1 H14 y14)) fun _ s15 ⟨σ15, H15, I15, hw15, q15⟩ => ?_
            refine thnF (pt1.run _ s15 σ15 H15 _ I15 q15) fun b1 s16 ⟨H16, I16, q16⟩ => ?_
            have fin1 : ∀ {s' : Shared} {H' : Hp}, Inv (X.blk s3 H3 scope ce fp) (([] ++ pinsAt fp s7.heap) ++ pinsAt fp1 s14.heap) σ15 H' s' → Nx1 H' → ∃ m, m < k ∧ ∃ j H', Inv (X.blk s3 H3 scope ce fp) ([] ++ pinsAt fp s7.heap) (wipe σ8 vs1) H' s' ∧ tn1 j s'.heap ∧ (∀ b ∈ fp1, H' b = none) ∧ W1 j m H' := fun {s' H'} I' nx => by
              obtain ⟨m', hm, w'⟩ := hNx1 H' nx
              have pin' : ∀ b ∈ fp1, ∀ o, s14.heap.get? b = some o → s'.heap.get? b = some o ∧ H' b = none := fun b hb o e =>
                let z := I'.pin (b, o) (List.mem_append_right _ (List.mem_append_right _ (mem_pinsAt hb e)))
                ⟨z.1, z.2.1⟩
              refine ⟨m', hm, j + 1, H', I'.unpinned.weak (by rw [← hw15, wipe_length]) (fun j v e => by rw [← hw15] at e; exact (wipe_some e).1), T1.keep _ _ _ st14 fun b hb o e => (pin' b hb o e).1, fun b hb => ?_, w'⟩
              obtain ⟨o, e, _⟩ := T1.obj _ _ st14 b hb
              exact (pin' b hb o e).2
            cases b1 with
            | false =>
              simp only [Bool.false_eq_true, if_false] at q16 ⊢
              exact fin1 I16 q16
            | true =>
              simp only [if_true] at q16 ⊢
              refine thnF (pk.run _ s16 σ15 H16 _ I16 q16) fun z s17 ⟨yk, H17, I17, r17, q17⟩ => ?_
              refine thnF (pe.run _ s17 σ15 H17 _ I17 q17) fun z2 s18 ⟨yv, H18, I18, r18, kvs, k, ek, hD18, hz18, nx⟩ => ?_
              subst ek
              exact d_dictSet (X := X.blk s3 H3 scope ce fp) I18 hD18 hz18 r17 r18 fun s19 I19 => fin1 I19 nx
        exact dc2_start loop1 (T1.self X.A 0 _ _ _ st11 loop1)
  exact codeAny_compStart_dict loop (T.self X.A 0 _ _ _ st4 loop)
theorem pe_dc2 {kx vx tg iter tg1 iter1 : Expr} {ifs ifs1 : List Expr} {scope : Scope} {own : List (Str × Nat)} {vs1 : List Nat} {pos : Pos} {wi wi1 : TI} {g g1 : TG} {tt tt1 : TT} {tk tv : TE} (hc : X.calm = true) (hN : X.N.Nodup) (hi : PI X tg iter wi) (ok : BlkOk X.N X.env.scope scope own) (hv : ∀ i ∈ vs1, i ∈ own.map (·.2))
    (hg : ∀ (s : Shared) (H : Hp) (C : Addr) (cl : List (Str × Addr)) (fp : List Addr), PG (X.blk s H scope (compEnvC scope cl C X.env) fp) tg g) (ht : ∀ (s : Shared) (H : Hp) (C : Addr) (cl : List (Str × Addr)) (fp : List Addr), PTs (X.blk s H scope (compEnvC scope cl C X.env) fp) ifs tt)
    (hi1 : ∀ (s : Shared) (H : Hp) (C : Addr) (cl : List (Str × Addr)) (fp : List Addr), PI (X.blk s H scope (compEnvC scope cl C X.env) fp) tg1 iter1 wi1)
    (hg1 : ∀ (s : Shared) (H : Hp) (C : Addr) (cl : List (Str × Addr)) (fp : List Addr), PG (X.blk s H scope (compEnvC scope cl C X.env) fp) tg1 g1) (ht1 : ∀ (s : Shared) (H : Hp) (C : Addr) (cl : List (Str × Addr)) (fp : List Addr), PTs (X.blk s H scope (compEnvC scope cl C X.env) fp) ifs1 tt1)
    (hk : ∀ (s : Shared) (H : Hp) (C : Addr) (cl : List (Str × Addr)) (fp : List Addr), PE (X.blk s H scope (compEnvC scope cl C X.env) fp) kx tk) (he : ∀ (s : Shared) (H : Hp) (C : Addr) (cl : List (Str × Addr)) (fp : List Addr), PE (X.blk s H scope (compEnvC scope cl C X.env) fp) vx tv) (hs : ∀ x, foldedSetIterable iter X.env x = pure x := by intro _; rfl) (hs1 : ∀ env x, foldedSetIterable iter1 env x = pure x := by intro _ _; rfl) :
    PE X (Dc2 kx vx tg iter tg1 iter1 ifs ifs1 scope pos) (tDc2 wi g tt wi1 g1 tt1 tk tv (own.map (·.2)) vs1) := by
  refine ⟨fun pins s σ H Q I h => ?_⟩
  rw [arm_eval_DictComp]
  refine dc2_core hc hN I hi ok hv hg ht hk he hs hi1 hg1 ht1 hs1 h fun D C s' m H' I' q hn f => ⟨m, hn, fun h'' sb => ?_⟩
  obtain ⟨f0, f1, f2, f3, f4, f5⟩ := f
  exact ⟨.ref D, H', I'.turned (t' := s'.toks) (fun b o hb e => (sb.2 b hb).trans e) f0 f1 f3 f4 f5, rfl, q⟩
end
end L2
end
section
set_option Elab.async false
set_option linter.all false
set_option maxRecDepth 100000
set_option maxHeartbeats 4000000
namespace Ah
open PySem PySem.Spec PyProof.Rows L2
open GxR (TabB TabG Tabbed)
/-! ### trusted -/
theorem scTru : FnScope ["rows", "clashing", "lot", "number", "row"] ["rows"] (defScope sTrusted) := ⟨rfl, rfl, rfl, by decide +kernel, rfl, by decide +kernel, by decide +kernel⟩
/-- the rows that are in no least lot that clashes -/
def TruR (rs ts : List Rw) : Prop := ∀ r, r ∈ ts ↔ ∃ n, rs[n]? = some r ∧ ¬ ∃ L, LL rs .clash L ∧ n ∈ L
def spTru (K : PySem.W.Frag) (T : List Addr) (P1 : Addr) : Sp := fun vs H Q _ => ∃ (q : Addr) (rs : List Rw), vs = [.ref q] ∧ TextAt H q rs ∧ (∀ r ∈ rs, r.few) ∧ rs.length ≤ 10 ∧ TWd T P1 H ∧
  ∀ (p : Addr) (us : List V) (ts : List Rw) (H' : Hp), Ko T P1 H H' → H p = none → H' p = some (.lst us) → TruR rs ts → Paired (SayAt K H') us (folL ts) → Q (.ref p) H'
section
variable {P : Program} {w : World} {K : PySem.W.Frag} {mg : Str → Option Value} {base : Heap} {f fC fA P1 : Addr} {fd fdC fdA : FuncData} {T : List Addr}
theorem ok_trusted (F : FnP K "trusted" sTrusted f fd) (B : Bl mg) (nP : P1 ∉ T) (c_clashes : Own P w K mg base "clashes" 11 fC fdC ["rows"] (spClashes K T P1)) (c_follows : Own P w K mg base "follows" 7 fA fdA ["rows"] (spFollows K T)) :
    FnOk P w K mg base CX0 12 f fd ["rows"] (spTru K T P1) := by
  refine F.ok scTru (fun vs H Q E h => ?_) (fun cdv A outer s H vs Q E hr h => ?_)
  · obtain ⟨q, rs, rfl, _⟩ := h
    rfl
  · obtain ⟨q, rs, rfl, tx, hf, hl, W, k⟩ := h
    have hu : A.units + 3 + 1 < cLine := by have := hr.units; exact (by have h2 : (A.deeper (envOfC "trusted" (defScope sTrusted) s.heap.objs.size f cdv)).units = A.units + 3 := rfl; omega)
    refine ⟨_, PSs.nox (pss_cons (ps_set (i := 1) scTru.nd rfl (.inr rfl) (pe_dc2 (own := [("lot", 2), ("number", 3)]) (vs1 := [3]) (tt := tYes) (tt1 := tYes) rfl scTru.nd (pi_list (pe_call c_clashes.ok hr (by rfl) c_clashes.g c_clashes.kp c_clashes.b .nil pass0 (pa_cons (pv 0) pa_nil))) (blkOk_by (N := ["rows", "clashing", "lot", "number", "row"]) (sc := defScope sTrusted) (by decide +kernel)) (by decide)
        (fun _ _ _ _ _ => pg_name (i := 2) scTru.nd rfl (Or.inl rfl)) (fun _ _ _ _ _ => pts_nil) (fun _ _ _ _ _ => show PI _ _ _ (iTup K _) from pi_tup (pv 2)) (fun _ _ _ _ _ => pg_name (i := 3) scTru.nd rfl (Or.inl rfl)) (fun _ _ _ _ _ => pts_nil) (fun _ _ _ _ _ => pv 3) (fun _ _ _ _ _ => pe_bl)))
      (pss_one (ps_ret (pe_call c_follows.ok (hr.mono (by decide)) (by rfl) c_follows.g c_follows.kp c_follows.b .nil pass0 (pa_cons (pe_callTy call_tuple_of (by rfl) B.tuple_ (by decide +kernel) (pa_cons
        (pe_lc (own := [("number", 3), ("row", 4)]) (g := gTup K 2 (gCons (gName 3) (gCons (gName 4) gNil))) rfl scTru.nd (EnT.pi_enumT (by rfl) B.enumerate_ (pa_cons (pv 0) pa_nil)) (blkOk_by (N := ["rows", "clashing", "lot", "number", "row"]) (sc := defScope sTrusted) (by decide +kernel))
          (fun _ _ _ _ _ => pg_tup rfl (pgs_cons (pg_name (i := 3) scTru.nd rfl (Or.inl rfl)) (pgs_cons (pg_name (i := 4) scTru.nd rfl (Or.inl rfl)) pgs_nil))) (fun _ _ _ _ _ => pts_one (pt_cmp (pc_dnotin hu (pv 3) (pv 1)) (by rfl))) (fun _ _ _ _ _ => pv 4)) pa_nil)) pa_nil))))), ?_⟩
    refine ⟨_, rfl, q, rs, rfl, tx, hf, hl, W, fun p ws H1 nm Ls o1 np e1 r1 s1 hn1 m1 => ⟨p, rfl, ⟨ws, .inl (.of e1)⟩, fun D nD => ?_⟩⟩
    have mL : ∀ L, L ∈ Ls ↔ LL rs .clash L := fun L => (m1 L).trans (ll_of hf hn1)
    have lL : Ls.length ≤ 1024 := by
      have h1 := lots_few (rs := rs) (Ls := Ls) (s1.imp fun h => h.2) fun L hL => ((mL L).mp hL).1
      exact Nat.le_trans h1 (Nat.le_trans (Nat.pow_le_pow_right (by decide) hl) (by decide))
    have lws := r1.length
    obtain ⟨ps, hq, hps⟩ := id (tx.kept (M := []) o1.tk)
    have lps : ps.length = rs.length := hps.length
    refine walk_W (walk_list (K := K) (a := p) (xs := ws)) (fun i Ha => ∃ kvs, Ha D = some (.dK kvs) ∧ (∀ k, (valV kvs k).isSome = true ↔ ∃ n : Nat, k = .inl (n : Int) ∧ ∃ L ∈ Ls.take i, n ∈ L) ∧ kvs.length ≤ i * 10 ∧ Kept [] H1 Ha)
      ⟨[], upd_same, fun k => ⟨fun h => (nomatch h), fun ⟨n, _, L, hL, _⟩ => absurd hL (by simp)⟩, Nat.zero_le _, (Kept.refl H1).upd nD⟩ (fun i Ha _ pv => .inl (.of (pv.choose_spec.2.2.2 _ _ e1 (by simp)))) ?_ ?_
    · rintro i y Ha0 Ha hi ⟨kvs, eD, hk, hlk, kk⟩ ⟨rfl, ey⟩
      obtain ⟨L, eL, b, rfl, hL⟩ := paired_at r1 ey
      have okL := ((mL L).mp (List.mem_of_getElem? eL)).1
      have lLn : L.length ≤ 10 := by
        have := (asc_nodup okL.1).length_le_of_subset (l₂ := List.range rs.length) fun x hx => List.mem_range.mpr (okL.2 x hx)
        rw [List.length_range] at this
        omega
      have hLa : SqT K Ha b (intsL L) := sqT_tk (.of kk) hL
      refine ⟨rfl, yes_if ?_⟩
      refine ⟨_, rfl, b, rfl, ⟨_, hLa⟩, ?_⟩
      refine walk_W (walk_tup (K := K) (a := b) (xs := intsL L)) (fun j Hc => ∃ kvs2, Hc D = some (.dK kvs2) ∧ (∀ k, (valV kvs2 k).isSome = true ↔ ∃ n : Nat, k = .inl (n : Int) ∧ ((∃ M ∈ Ls.take i, n ∈ M) ∨ n ∈ L.take j)) ∧ kvs2.length ≤ i * 10 + j ∧ Kept [] H1 Hc)
        ⟨kvs, eD, fun k => by simpa using hk k, hlk, kk⟩ (fun j Hc _ pv => sqT_tk (.of pv.choose_spec.2.2.2) hL) ?_ ?_
      · rintro j z Hc0 Hc hj ⟨kvs2, eD2, hk2, hl2, kk2⟩ ⟨rfl, ez⟩
        unfold intsL at ez
        rw [List.getElem?_map] at ez
        obtain ⟨n, en, rfl⟩ := Option.map_eq_some_iff.mp ez
        have hj2 : j < 10 := by
          have : j < L.length := get_lt en
          omega
        have hi2 : i < 1024 := by
          have := get_lt eL
          omega
        refine ⟨rfl, yes_if ⟨_, rfl, kvs2, .inl (n : Int), rfl, eD2, Nat.lt_of_le_of_lt (show kvs2.length ≤ 20000 by omega) (by decide), _, upd_same, fun k' => ?_, ?_, kD_far nD kk2⟩⟩
        · rw [valV_put]
          by_cases e : k' = .inl (n : Int)
          · rw [if_pos e]
            refine ⟨fun _ => ⟨n, e, .inr ?_⟩, fun _ => rfl⟩
            rw [take_succ_get en]
            exact List.mem_append_right _ (List.mem_singleton.mpr rfl)
          · rw [if_neg e, hk2]
            constructor
            · rintro ⟨n', e1', h⟩
              exact ⟨n', e1', h.imp id fun h => by rw [take_succ_get en]; exact List.mem_append_left _ h⟩
            · rintro ⟨n', e1', h⟩
              refine ⟨n', e1', h.imp id fun h => ?_⟩
              rw [take_succ_get en] at h
              rcases List.mem_append.mp h with h | h
              · exact h
              · rw [List.mem_singleton.mp h] at e1'
                exact absurd e1' e
        · have := length_putK kvs2 (.inl (n : Int) : Key) (V.bl true)
          omega
      · rintro Hc ⟨kvs2, eD2, hk2, hl2, kk2⟩
        have lI : (intsL L).length = L.length := List.length_map ..
        rw [lI] at hk2 hl2
        refine ⟨kvs2, eD2, fun k' => ?_, by omega, kk2⟩
        rw [hk2, List.take_of_length_le (Nat.le_refl _), take_succ_get eL]
        constructor
        · rintro ⟨n, e, h | h⟩
          · obtain ⟨M, h1, h2⟩ := h
            exact ⟨n, e, M, List.mem_append_left _ h1, h2⟩
          · exact ⟨n, e, L, List.mem_append_right _ (List.mem_singleton.mpr rfl), h⟩
        · rintro ⟨n, e, M, h1, h2⟩
          rcases List.mem_append.mp h1 with h1 | h1
          · exact ⟨n, e, .inl ⟨M, h1, h2⟩⟩
          · rw [List.mem_singleton.mp h1] at h2
            exact ⟨n, e, .inr h2⟩
    rintro H2 ⟨kvs, eD, hk, _, k2⟩
    rw [lws, List.take_of_length_le (Nat.le_refl _)] at hk
    -- the rows that are kept
    have hq2 := k2 _ _ hq (by simp)
    have hps2 := Paired.mapP hps fun _ _ e => k2 _ _ e (by simp)
    refine ⟨_, rfl, q, ps.map V.ref, rfl, .inl (.of hq2), fun D2 nD2 => ?_⟩
    refine lc_it (EnT.walk_enumT (K := K) (a := q) (xs := ps.map V.ref)) (fun i Ha => ∃ (qs : List Addr) (ts : List Rw), Ha D2 = some (.lst (qs.map V.ref)) ∧ Paired (fun a r => H2 a = some (.tup ((Rw.ws r).map V.str))) qs ts ∧ (∀ r, r ∈ ts ↔ ∃ n, n < i ∧ rs[n]? = some r ∧ (valV kvs (.inl (n : Int))).isSome = false) ∧ qs.length ≤ i ∧ Kept [] H2 Ha)
      ⟨[], [], upd_same, .nil, fun r => ⟨fun h => absurd h (by simp), fun ⟨n, h, _⟩ => absurd h (Nat.not_lt_zero _)⟩, Nat.le_refl _, (Kept.refl H2).upd nD2⟩ (fun i Ha _ pv => .inl (.of (pv.choose_spec.choose_spec.2.2.2.2 _ _ hq2 (by simp)))) ?_ ?_
    · rintro i y Hc Hc' hi ⟨qs, ts, eD2, rq, hts, lq, kk⟩ ⟨Tp, x1, x2, rfl, nT, rfl, g1, g2⟩
      dsimp only at g1 g2
      cases g1
      rw [List.getElem?_map] at g2
      obtain ⟨pr, epr, rfl⟩ := Option.map_eq_some_iff.mp g2
      obtain ⟨r, er, hr1⟩ := paired_at hps2 epr
      have kT : Kept [] Hc (L2.upd Hc Tp (.tup [V.int (i : Nat), V.ref pr])) := (Kept.refl Hc).upd nT
      have kD := kk.trans kT
      refine ⟨Tp, _, rfl, .inl (.of upd_same), rfl, _, _, rfl, _, _, rfl, rfl, rfl, ?_⟩
      refine ⟨_, rfl, _, rfl, D, _, rfl, DGet.k (k := (.inl (i : Int) : Key)) (kD _ _ eD (by simp)), _, rfl, ?_⟩
      have eT := kT _ _ eD2 (by simp)
      have step : ∀ r', (∃ n, n < i + 1 ∧ rs[n]? = some r' ∧ (valV kvs (.inl (n : Int))).isSome = false) ↔ (∃ n, n < i ∧ rs[n]? = some r' ∧ (valV kvs (.inl (n : Int))).isSome = false) ∨ (r' = r ∧ (valV kvs (.inl (i : Int))).isSome = false) := fun r' => by
        constructor
        · rintro ⟨n, h1, h2, h3⟩
          by_cases e : n = i
          · subst e
            rw [er] at h2
            exact .inr ⟨(Option.some.inj h2).symm, h3⟩
          · exact .inl ⟨n, by omega, h2, h3⟩
        · rintro (⟨n, h1, h2, h3⟩ | ⟨e, h3⟩)
          · exact ⟨n, by omega, h2, h3⟩
          · exact ⟨i, by omega, by rw [e]; exact er, h3⟩
      cases hv : (valV kvs (.inl (i : Int))).isSome with
      | true =>
        refine iteF ⟨qs, ts, eT, rq, fun r' => ?_, by omega, kD⟩
        rw [hts, step]
        exact ⟨.inl, fun h => h.elim id fun h => by rw [hv] at h; exact nomatch h.2⟩
      | false =>
        have li : i < 10 := by
          have := get_lt er
          omega
        refine iteT ⟨_, rfl, _, eT, ?_, qs ++ [pr], ts ++ [r], by rw [List.map_append]; exact upd_same, paired_app rq (.cons hr1 .nil), fun r' => ?_, by rw [List.length_append, List.length_singleton]; omega, kD_far nD2 kD⟩
        · rw [List.length_map]
          exact Nat.lt_of_le_of_lt (show qs.length ≤ 20 by omega) (by decide)
        · rw [List.mem_append, hts, step, List.mem_singleton]
          exact ⟨fun h => h.imp id fun h => ⟨h, hv⟩, fun h => h.imp id fun h => h.1⟩
    rintro Hc ⟨qs, ts, eD2, rq, hts, lq, kk⟩
    rw [List.length_map, lps] at hts lq
    have tru : TruR rs ts := fun r => by
      rw [hts]
      constructor
      · rintro ⟨n, h1, h2, h3⟩
        refine ⟨n, h2, fun ⟨L, hL, hn⟩ => ?_⟩
        have := (hk (.inl (n : Int))).mpr ⟨n, rfl, L, (mL L).mpr hL, hn⟩
        rw [h3] at this
        cases this
      · rintro ⟨n, h2, h3⟩
        refine ⟨n, get_lt h2, h2, ?_⟩
        cases hv : (valV kvs (.inl (n : Int))).isSome with
        | false => rfl
        | true =>
          obtain ⟨n', e, L, h5, h6⟩ := (hk _).mp hv
          have en : n = n' := by
            have := Sum.inl.inj e
            omega
          rw [← en] at h6
          exact absurd ⟨L, (mL L).mp h5, h6⟩ h3
    have few : ∀ r ∈ ts, r.few := fun r hr => by
      obtain ⟨n, h, _⟩ := (tru r).mp hr
      exact hf r (List.mem_of_getElem? h)
    refine ⟨D2, _, rfl, .inl ⟨.inl (.of eD2), fun tq ntq => ?_⟩⟩
    have kt : Kept [] H2 (L2.upd Hc tq (.tup (qs.map V.ref))) := kk.upd ntq
    have ltq := rq.length
    have o2 := (o1.trans (Ko.of o1.tw k2)).trans (Ko.of (Ko.of o1.tw k2).tw kt)
    refine ⟨tq, ts, rfl, ⟨qs, upd_same, Paired.mapP rq fun _ _ e => kt _ _ e (by simp)⟩, few, by omega, o2.tw.tg, fun pf bs rw nm2 H5 kp np5 e5 hrw hnm hb hall nd5 _ => ?_⟩
    exact k pf _ ts H5 (o2.trans (Ko.kp o2.tw nP kp)) (o2.fresh _ np5) e5 tru (fol_data few hrw hnm hb hall nd5)
end
end Ah
end
section
set_option Elab.async false
set_option linter.all false
set_option maxRecDepth 100000
set_option maxHeartbeats 8000000
namespace Ah
open PySem PySem.Spec PyProof.Rows L2
open GxR (TabB TabG Tabbed)
/-! ### is_saying, check_saying: of few words -/
theorem scIS : FnScope ["row"] ["row"] (defScope sIsSaying) := ⟨rfl, rfl, rfl, by decide +kernel, rfl, by decide +kernel, by decide +kernel⟩
theorem scCS : FnScope ["saying"] ["saying"] (defScope sCheckSaying) := ⟨rfl, rfl, rfl, by decide +kernel, rfl, by decide +kernel, by decide +kernel⟩
def spIsSay (K : PySem.W.Frag) (T : List Addr) : Sp := fun vs H Q _ => ∃ (v : V) (s : Say), vs = [v] ∧ SayAt K H v s ∧ s.few ∧ s ≠ .clash ∧ (∀ P ∈ T, TabG H P) ∧ ∀ H', Kp T H H' → Q (.bl true) H'
def spChSay (K : PySem.W.Frag) (T : List Addr) : Sp := fun vs H Q _ => ∃ (v : V) (s : Say), vs = [v] ∧ SayAt K H v s ∧ s.few ∧ s ≠ .clash ∧ (∀ P ∈ T, TabG H P) ∧ ∀ H', Kp T H H' → Q .non H'
theorem say_row {s : Say} (h : s.few) (hc : s ≠ .clash) : ∃ r : Rw, r.few ∧ r.ws = s.ws ∧ sayOf r = some s := by
  cases s with
  | clash => exact absurd rfl hc
  | is n k => exact ⟨.is n k, h, rfl, rfl⟩
  | has n t m => exact ⟨.has n t m, h, rfl, rfl⟩
section
variable {P : Program} {w : World} {K : PySem.W.Frag} {mg : Str → Option Value} {base : Heap} {f fR : Addr} {fd fdR : FuncData} {T : List Addr}
theorem ok_issay (F : FnP K "is_saying" sIsSaying f fd) (c_is_row : Own P w K mg base "is_row" 5 fR fdR ["row"] (spRow K T)) : FnOk P w K mg base CX0 6 f fd ["row"] (spIsSay K T) := by
  refine F.ok scIS (fun vs H Q E h => ?_) (fun cdv A outer s H vs Q E hr h => ?_)
  · obtain ⟨v, s, rfl, _⟩ := h
    rfl
  · obtain ⟨v, sy, rfl, ⟨a, rfl, ha⟩, hf, hc, ht, k⟩ := h
    refine ⟨_, PSs.nox (pss_one (ps_ret (pe_and (pe_call c_is_row.ok hr (by rfl) c_is_row.g c_is_row.kp c_is_row.b .nil pass0 (pa_cons (pv 0) pa_nil)) (pe_one (pe_cmpR (show OpR _ _ (rIn K false) from op_in_seq) (pe_ix (show IxR _ (rIxT K) from ix_tup) (pv 0) pe_int (fun _ _ => rfl)) (pe_tup (pa_cons pe_str (pa_cons pe_str pa_nil))) (by rfl)))))), ?_⟩
    obtain ⟨r, rf, ew, es⟩ := say_row hf hc
    have rv : RowV K H (.ref a) true := .inr ⟨a, _, rfl, ha, by
      rw [List.length_map]
      exact Nat.le_trans (show sy.ws.length ≤ 10 by cases sy <;> simp [Say.ws]) (by decide), fun x hx => by
      obtain ⟨z, hz, rfl⟩ := List.mem_map.mp hx
      exact .inl ⟨z, rfl, Nat.le_trans (few_len rf z (ew ▸ hz)) (by decide)⟩, by rw [← ew]; exact (few_row rf).symm⟩
    refine ⟨_, rfl, _, true, rfl, rv, ht, fun H1 k1 => ?_⟩
    have ha1 := Kp.sqT ht k1 ha
    obtain ⟨hd, rest, ew2, ei⟩ := row_test r
    have hrow2 : SqT K H1 a (V.str hd :: rest.map V.str) := by
      rw [← ew, ew2] at ha1
      exact ha1
    refine ⟨true, rfl, iteT ?_⟩
    refine ⟨_, rfl, a, _, 0, _, rfl, rfl, hrow2, at_of (j := 0) rfl rfl, (by show 2 ≤ sizeLine; decide), fun Tp nT => ⟨Tp, _, rfl, .inr (.inl (.of upd_same)), rfl, rfl, ?_⟩⟩
    simp only [Bool.false_eq_true, if_false]
    rw [ei, es]
    exact k _ (k1.upd nT)
theorem ok_chsay (F : FnP K "check_saying" sCheckSaying f fd) (c_is_saying : Own P w K mg base "is_saying" 6 fR fdR ["row"] (spIsSay K T)) : FnOk P w K mg base CX0 7 f fd ["saying"] (spChSay K T) := by
  refine F.ok scCS (fun vs H Q E h => ?_) (fun cdv A outer s H vs Q E hr h => ?_)
  · obtain ⟨v, s, rfl, _⟩ := h
    rfl
  · obtain ⟨v, sy, rfl, st, hf, hc, ht, k⟩ := h
    refine ⟨_, PSs.nox (pss_one (ps_if (pt_not (pt_val (pe_call c_is_saying.ok hr (by rfl) c_is_saying.g c_is_saying.kp c_is_saying.b .nil pass0 (pa_cons (pv 0) pa_nil)))) (pss_one ps_never) pss_nil)), ?_⟩
    exact ⟨_, rfl, v, sy, rfl, st, hf, hc, ht, fun H1 k1 => ⟨true, rfl, iteF (k H1 k1)⟩⟩
end
end Ah
end
section
set_option Elab.async false
set_option linter.all false
set_option maxRecDepth 100000
set_option maxHeartbeats 8000000
namespace Ah
open PySem PySem.Spec PyProof.Rows L2
open GxR (TabB TabG Tabbed)
/-! ### bearers -/
theorem scBear : FnScope ["rows", "saying"] ["rows", "saying"] (defScope sBearers) := ⟨rfl, rfl, rfl, by decide +kernel, rfl, by decide +kernel, by decide +kernel⟩
def spBear (K : PySem.W.Frag) (T : List Addr) (P1 : Addr) : Sp := fun vs H Q _ => ∃ (q : Addr) (rv : V) (rs : List Rw) (s : Say), vs = [.ref q, rv] ∧ TextAt H q rs ∧ (∀ r ∈ rs, r.few) ∧ rs.length ≤ 10 ∧ SayAt K H rv s ∧ s.few ∧ s ≠ .clash ∧ TWd T P1 H ∧
  ∀ p ws H' names Ls, Ko T P1 H H' → H p = none → H' p = some (.lst ws) → Paired (LotAt K H') ws Ls → Ls.Pairwise ltL → (∀ r ∈ rs, ∀ z ∈ rowNames r, z ∈ names) → (∀ L, L ∈ Ls ↔ LeastLot rs names s L) → Q (.ref p) H'
section
variable {P : Program} {w : World} {K : PySem.W.Frag} {mg : Str → Option Value} {base : Heap} {f P1 fC fS fL : Addr} {fd fdC fdS fdL : FuncData} {T : List Addr}
theorem ok_bearers (F : FnP K "bearers" sBearers f fd) (nP : P1 ∉ T) (cC : Own P w K mg base "check_text" 6 fC fdC ["rows"] (spCheck0 K T)) (cS : Own P w K mg base "check_saying" 7 fS fdS ["saying"] (spChSay K T))
    (cL : Own P w K mg base "lots_of" 10 fL fdL ["rows", "result"] (spLots K P1)) : FnOk P w K mg base CX0 11 f fd ["rows", "saying"] (spBear K T P1) := by
  refine F.ok scBear (fun vs H Q E h => ?_) (fun cdv A outer s H vs Q E hr h => ?_)
  · obtain ⟨q, rv, rs, s, rfl, _⟩ := h
    rfl
  · obtain ⟨q, rv, rs, sy, rfl, tx, hf, hl, hsy, hsf, hsc, W, k⟩ := h
    refine ⟨_, PSs.nox (pss_cons (ps_expr (pe_call cC.ok (hr.mono (by decide)) (by rfl) cC.g cC.kp cC.b .nil pass0 (pa_cons (pv 0) pa_nil)))
      (pss_cons (ps_expr (pe_call cS.ok (hr.mono (by decide)) (by rfl) cS.g cS.kp cS.b .nil pass0 (pa_cons (pv 1) pa_nil)))
      (pss_one (ps_ret (pe_call cL.ok hr (by rfl) cL.g cL.kp cL.b .nil pass0 (pa_cons (pv 0) (pa_cons (pv 1) pa_nil))))))), ?_⟩
    obtain ⟨ps, hq, hps⟩ := id tx
    have lps : ps.length = rs.length := hps.length
    refine ⟨_, rfl, q, ps.map V.ref, rfl, hq, by rw [List.length_map]; omega, text_rows (q := q) hps hf, W.tg, fun H1 kp1 => ?_⟩
    have o1 := Ko.kp W nP kp1
    refine ⟨_, rfl, rv, sy, rfl, hsy.tk o1.tk, hsf, hsc, o1.tw.tg, fun H2 kp2 => ?_⟩
    have o2 := o1.trans (Ko.kp o1.tw nP kp2)
    refine ⟨_, rfl, _, rfl, q, rv, rs, sy, rfl, tx.kept (M := []) o2.tk, hf, hl, hsy.tk o2.tk, o2.tw.ts, fun p ws H3 names Ls kb T3 np e3 r3 hs hn hm => ?_⟩
    exact k p ws H3 names Ls (o2.trans (Ko.kb o2.tw nP kb T3)) (o2.fresh _ np) e3 r3 hs hn hm
end
end Ah
end
section
set_option Elab.async false
set_option linter.all false
set_option maxRecDepth 100000
set_option maxHeartbeats 4000000
namespace Ah
open PySem PySem.Spec PyProof.Rows L2
open GxR (TabB TabG Tabbed)
section
variable {K : PySem.W.Frag} {H H' : Hp}
theorem Ko.far {T : List Addr} {P1 D : Addr} {o : HO} {xs : List V} (n : H D = none) (e : H' D = some (.lst xs)) (k : Ko T P1 H H') : Ko T P1 H (L2.upd H' D o) := by
  refine ⟨fun b u h ne => by rw [upd_ne (ne_of_none h n)]; exact k.keep b u h ne, fun b h => ?_, fun b ps h n1 n2 => by rw [upd_ne (ne_of (k.oth b ps h n1 n2) e (fun z => nomatch z))]; exact k.oth b ps h n1 n2, fun Q hQ => ?_, ?_⟩
  · by_cases z : b = D
    · rw [z]; exact n
    · rw [upd_ne z] at h
      exact k.fresh b h
  · obtain ⟨ps, h1, h2⟩ := k.tw.tg Q hQ
    exact ⟨ps, by rw [upd_ne (ne_of h1 e (fun z => nomatch z))]; exact h1, h2⟩
  · obtain ⟨ps, h1, h2, h3⟩ := k.tw.ts
    refine ⟨ps, by rw [upd_ne (ne_of h1 e (fun z => nomatch z))]; exact h1, h2, fun pos cv hc => ?_⟩
    obtain ⟨c, e1, e2⟩ := h3 pos cv hc
    refine ⟨c, e1, ?_⟩
    rw [upd_ne (ne_of e2 e (fun z => by unfold LamX.CodeO at z; cases z))]
    exact e2
theorem tabS_keptM {M : List Addr} {P1 : Addr} {qn : Str} (k : Kept M H H') (hM : ∀ b ∈ M, ∃ xs, H b = some (.lst xs)) (t : LamX.TabS H P1 qn) : LamX.TabS H' P1 qn := by
  obtain ⟨ps, h1, h2, h3⟩ := t
  have out : ∀ b o, H b = some o → (∀ xs, o ≠ .lst xs) → H' b = some o := fun b o e n => k b o e fun hm => by
    obtain ⟨xs, h⟩ := hM b hm
    rw [e] at h
    exact n xs (Option.some.inj h)
  refine ⟨ps, out _ _ h1 (fun _ z => nomatch z), h2, fun pos cv hc => ?_⟩
  obtain ⟨c, e1, e2⟩ := h3 pos cv hc
  exact ⟨c, e1, out _ _ e2 fun _ z => by unfold LamX.CodeO at z; cases z⟩
theorem TWd.keptM {M : List Addr} {T : List Addr} {P1 : Addr} (k : Kept M H H') (hM : ∀ b ∈ M, ∃ xs, H b = some (.lst xs)) (t : TWd T P1 H) : TWd T P1 H' := ⟨TabG.keptM k hM t.tg, tabS_keptM k hM t.ts⟩
theorem stAt_tk {p a : Addr} {ns : List Int} (kl : ∀ xs, H p = some (.lst xs) → H' p = some (.lst xs)) (ks : ∀ xs, SqL K H a xs → SqL K H' a xs) (S : StAt K H p a ns) : StAt K H' p a ns := by
  obtain ⟨i, r, m, h, h1, h2, h3⟩ := S
  exact ⟨i, r, m, kl _ h, h1, h2, ks _ h3⟩
theorem tabS_kb {P1 P2 : Addr} {q1 q2 : Str} (k : Kb P2 H H') (t2 : LamX.TabS H P2 q2) (t1 : LamX.TabS H P1 q1) (ne : P1 ≠ P2) : LamX.TabS H' P1 q1 := by
  obtain ⟨ps, h1, h2, h3⟩ := t1
  refine ⟨ps, k _ _ h1 ne, h2, fun pos cv hc => ?_⟩
  obtain ⟨c, e1, e2⟩ := h3 pos cv hc
  exact ⟨c, e1, Kb.obj k t2 e2 LamX.codeO_ne⟩
theorem TWd.kb2 {T : List Addr} {P1 P2 : Addr} {q2 : Str} (k : Kb P2 H H') (t2 : LamX.TabS H P2 q2) (ne : P1 ≠ P2) (nT : P2 ∉ T) (t : TWd T P1 H) : TWd T P1 H' := ⟨fun Q hQ => by
  obtain ⟨ps, h1, h2⟩ := t.tg Q hQ
  exact ⟨ps, k _ _ h1 fun z => nT (z ▸ hQ), h2⟩, tabS_kb k t2 t.ts ne⟩
theorem Kb.tk {P2 : Addr} {q2 : Str} (k : Kb P2 H H') (t2 : LamX.TabS H P2 q2) : TK H H' := ⟨fun _ _ h => Kb.obj k t2 h (fun _ z => nomatch z), fun _ _ _ h => Kb.obj k t2 h (fun _ z => nomatch z)⟩
theorem Ko.stAt {K : PySem.W.Frag} {T : List Addr} {P1 : Addr} {H H' : Hp} {p a : Addr} {ns : List Int} (k : Ko T P1 H H') (S : StAt K H p a ns) : StAt K H' p a ns := by
  refine stAt_tk (fun xs e => k.lst e) (fun xs h => ?_) S
  rcases h with (h | ⟨o, h⟩) | h
  · exact .inl (.inl (k.lst h))
  · exact .inl (.inr ⟨o, k.keep _ _ h fun _ z => nomatch z⟩)
  · exact .inr h
end
section
variable {K : PySem.W.Frag} {T : List Addr} {P1 p a q : Addr} {ns : List Int} {rs : List Rw} {H H' : Hp}
theorem tk_keptM {M : List Addr} (k : Kept M H H') (hM : ∀ b ∈ M, ∃ xs, H b = some (.lst xs)) : TK H H' := by
  have out : ∀ b o, H b = some o → (∀ xs, o ≠ .lst xs) → H' b = some o := fun b o e n => k b o e fun hm => by
    obtain ⟨xs, h⟩ := hM b hm
    rw [e] at h
    exact n xs (Option.some.inj h)
  exact ⟨fun b ys e => out b _ e (fun _ z => nomatch z), fun b o u e => out b _ e (fun _ z => nomatch z)⟩
theorem StAt.inM (S : StAt K H p a ns) : ∀ b ∈ [p], ∃ xs, H b = some (.lst xs) := fun b hb => by rw [List.mem_singleton.mp hb]; exact S.ob
end
/-! ### data -/
def dS (s : Say) : PyData := .tuple (s.ws.map PyData.str)
theorem dp_say {K : PySem.W.Frag} {H : Hp} {v : V} {s : Say} (h : SayAt K H v s) : Dp K H v (dS s) := by
  obtain ⟨a, rfl, h⟩ := h
  exact .tup h (dpStrs _)
theorem dp_says {K : PySem.W.Frag} {H : Hp} : ∀ {vs : List V} {ss : List Say}, Paired (SayAt K H) vs ss → DpAll K H vs (ss.map dS)
  | _, _, .nil => .nil
  | _, _, .cons h t => .cons (dp_say h) (dp_says t)
theorem shape_says {ss : List Say} (h : ∀ s ∈ ss, okW s.ws) : SeqAt.shaped (.list (ss.map dS)) = true := by
  have h1 : ∀ l : List Say, (∀ r ∈ l, okW r.ws) → PyData.canLayAll0 (l.map dS) = true ∧ PyData.depthAll (l.map dS) ≤ 2 := by
    intro l
    induction l with
    | nil => intro _; exact ⟨by simp [PyData.canLayAll0], by simp [PyData.depthAll]⟩
    | cons s l ih =>
      intro h
      obtain ⟨i1, i2⟩ := ih fun x hx => h x (List.mem_cons_of_mem _ hx)
      have s2 := SeqAt.canLay_of_shaped (shapedStrs (h s (List.mem_cons_self ..)))
      have d0 : ∀ l : List Str, PyData.depthAll (l.map PyData.str) = 0 := by
        intro l
        induction l with
        | nil => simp [PyData.depthAll]
        | cons w l ih => simp [PyData.depthAll, PyData.depth, ih]
      refine ⟨by rw [List.map_cons, PyData.canLayAll0, show (dS s).canLay0 = true from s2, i1]; rfl, ?_⟩
      rw [List.map_cons, PyData.depthAll]
      unfold dS at i2 ⊢
      rw [PyData.depth, d0]
      omega
  obtain ⟨i1, i2⟩ := h1 ss h
  unfold SeqAt.shaped
  rw [PyData.canLay0, i1, PyData.depth, Bool.true_and]
  exact decide_eq_true (by omega)
theorem eqv_self {d : PyData} (h : SeqAt.shaped d = true) : PyData.eqv d d = true   := PySem.SeqAt.eqv_refl d (SeqAt.canLay_of_shaped h)
theorem any_self {d : PyData} {ds : List PyData} (h : SeqAt.shaped d = true) (hm : d ∈ ds) : (ds.any fun z => PyData.eqv z d) = true := List.any_eq_true.mpr ⟨d, hm, eqv_self h⟩
def dLt (L : List Nat) : PyData := .tuple (dI L)
theorem shape_lot (L : List Nat) : SeqAt.shaped (dLt L) = true := by
  obtain ⟨h3, h4⟩ := layInts L
  unfold dLt SeqAt.shaped
  rw [PyData.canLay0, h3, PyData.depth, h4, Bool.true_and]
  exact decide_eq_true (by omega)
/-! ### a text in another order -/
structure Prm (rs os : List Rw) (φ ψ : Nat → Nat) : Prop where
  len : os.length = rs.length
  f : ∀ i, i < rs.length → φ i < rs.length
  g : ∀ k, k < rs.length → ψ k < rs.length
  fg : ∀ k, k < rs.length → φ (ψ k) = k
  gf : ∀ i, i < rs.length → ψ (φ i) = i
  row : ∀ i, i < rs.length → os[i]? = rs[φ i]?
section
variable {rs os : List Rw} {φ ψ : Nat → Nat}
theorem Prm.symm (h : Prm rs os φ ψ) : Prm os rs ψ φ := by
  refine ⟨h.len.symm, fun i hi => ?_, fun i hi => ?_, fun i hi => ?_, fun i hi => ?_, fun i hi => ?_⟩
  all_goals rw [h.len] at *
  · exact h.g i hi
  · exact h.f i hi
  · exact h.gf i hi
  · exact h.fg i hi
  · rw [h.row _ (h.g i hi), h.fg i hi]
theorem Prm.mem1 (h : Prm rs os φ ψ) {r : Rw} (hr : r ∈ os) : r ∈ rs := by
  obtain ⟨i, hi⟩ := List.mem_iff_getElem?.mp hr
  have li := get_lt hi
  rw [h.len] at li
  rw [h.row i li] at hi
  exact List.mem_of_getElem? hi
theorem Prm.mem (h : Prm rs os φ ψ) (r : Rw) : r ∈ os ↔ r ∈ rs := ⟨h.mem1, h.symm.mem1⟩
theorem mapS_mem {M : List Nat} {p : Nat} : p ∈ sortN (M.map φ) ↔ ∃ m ∈ M, φ m = p := by
  rw [sortN_mem, List.mem_map]
theorem mapS_ok (h : Prm rs os φ ψ) {M : List Nat} (hM : LotOk os M) : LotOk rs (sortN (M.map φ)) := by
  have hb : ∀ m ∈ M, m < rs.length := fun m hm => by rw [← h.len]; exact hM.2 m hm
  refine ⟨sortN_lt (nodup_mapOn (asc_nodup hM.1) fun a ha b hb' e => ?_), fun p hp => ?_⟩
  · rw [← h.gf a (hb a ha), ← h.gf b (hb b hb'), e]
  · obtain ⟨m, hm, rfl⟩ := mapS_mem.mp hp
    exact h.f m (hb m hm)
theorem mapS_fol (h : Prm rs os φ ψ) {M : List Nat} (hM : ∀ m ∈ M, m < rs.length) {s : Say} : Fol (rowsOf os M) namesL s ↔ Fol (rowsOf rs (sortN (M.map φ))) namesL s := by
  refine fol_same fun r => ?_
  rw [mem_rowsOf, mem_rowsOf]
  constructor
  · rintro ⟨m, hm, e⟩
    exact ⟨φ m, mapS_mem.mpr ⟨m, hm, rfl⟩, by rw [← h.row m (hM m hm)]; exact e⟩
  · rintro ⟨p, hp, e⟩
    obtain ⟨m, hm, rfl⟩ := mapS_mem.mp hp
    exact ⟨m, hm, by rw [h.row m (hM m hm)]; exact e⟩
theorem mapS_back (h : Prm rs os φ ψ) {M : List Nat} (hM : LotOk os M) : sortN ((sortN (M.map φ)).map ψ) = M := by
  have hb : ∀ m ∈ M, m < rs.length := fun m hm => by rw [← h.len]; exact hM.2 m hm
  refine asc_eq (mapS_ok h.symm (mapS_ok h hM)).1 hM.1 fun x => ?_
  rw [mapS_mem]
  constructor
  · rintro ⟨p, hp, rfl⟩
    obtain ⟨m, hm, rfl⟩ := mapS_mem.mp hp
    rw [h.gf m (hb m hm)]
    exact hm
  · intro hx
    exact ⟨φ x, mapS_mem.mpr ⟨x, hx, rfl⟩, h.gf x (hb x hx)⟩
theorem ll_to (h : Prm rs os φ ψ) {s : Say} {M : List Nat} (hl : LL os s M) : LL rs s (sortN (M.map φ)) := by
  obtain ⟨h1, h2, h3⟩ := hl
  have hb : ∀ m ∈ M, m < rs.length := fun m hm => by rw [← h.len]; exact h1.2 m hm
  refine ⟨mapS_ok h h1, (mapS_fol h hb).mp h2, fun L g1 g2 g3 => ?_⟩
  have k1 := mapS_ok h.symm g1
  have k2 : ∀ p ∈ sortN (L.map ψ), p ∈ M := fun p hp => by
    obtain ⟨l, hl, rfl⟩ := mapS_mem.mp hp
    obtain ⟨m, hm, e⟩ := mapS_mem.mp (g2 l hl)
    rw [← e, h.gf m (hb m hm)]
    exact hm
  have k3 := h3 _ k1 k2 ((mapS_fol h.symm (fun m hm => by rw [h.len]; exact g1.2 m hm)).mp g3)
  rw [← k3]
  exact (mapS_back h.symm g1).symm
theorem lots_prm (h : Prm rs os φ ψ) {s : Say} {A B : List (List Nat)} (sa : A.Pairwise ltL) (sb : B.Pairwise ltL) (ma : ∀ L, L ∈ A ↔ LL rs s L) (mb : ∀ L, L ∈ B ↔ LL os s L) : (A.map fun L => sortN (L.map ψ)).mergeSort leL = B := by
  have nd : (A.map fun L => sortN (L.map ψ)).Nodup := nodup_mapOn (sa.imp fun h => h.2) fun a ha b hb e => by
    rw [← mapS_back h.symm ((ma a).mp ha).1, ← mapS_back h.symm ((ma b).mp hb).1]
    exact congrArg (fun x => sortN (x.map φ)) e
  refine ord_eq ltL_as (sortL_lt nd) sb fun M => ?_
  rw [(List.mergeSort_perm _ leL).mem_iff, List.mem_map, mb]
  constructor
  · rintro ⟨L, hL, rfl⟩
    exact ll_to h.symm ((ma L).mp hL)
  · intro hM
    exact ⟨_, (ma _).mpr (ll_to h hM), mapS_back h hM.1⟩
theorem mem_cut {rs : List Rw} {n : Nat} {r : Rw} : r ∈ cutR rs n ↔ ∃ j, j ≠ n ∧ rs[j]? = some r := by
  unfold cutR
  rw [List.mem_append]
  constructor
  · rintro (h | h)
    · obtain ⟨i, hi⟩ := List.mem_iff_getElem?.mp h
      have li := get_lt hi
      rw [List.length_take] at li
      rw [List.getElem?_take] at hi
      split at hi
      · exact ⟨i, by omega, hi⟩
      · cases hi
    · obtain ⟨i, hi⟩ := List.mem_iff_getElem?.mp h
      rw [List.getElem?_drop] at hi
      exact ⟨_, by omega, hi⟩
  · rintro ⟨j, hj, e⟩
    by_cases q : j < n
    · exact .inl (List.mem_iff_getElem?.mpr ⟨j, by rw [List.getElem?_take, if_pos q]; exact e⟩)
    · refine .inr (List.mem_iff_getElem?.mpr ⟨j - (n + 1), ?_⟩)
      rw [List.getElem?_drop, show n + 1 + (j - (n + 1)) = j by omega]
      exact e
theorem cut_prm1 (h : Prm rs os φ ψ) {i : Nat} (hi : i < rs.length) {r : Rw} (hr : r ∈ cutR os i) : r ∈ cutR rs (φ i) := by
  obtain ⟨j, hj, e⟩ := mem_cut.mp hr
  have lj := get_lt e
  rw [h.len] at lj
  rw [h.row j lj] at e
  exact mem_cut.mpr ⟨φ j, fun z => hj (by rw [← h.gf j lj, ← h.gf i hi, z]), e⟩
theorem cut_prm (h : Prm rs os φ ψ) {i : Nat} (hi : i < rs.length) (r : Rw) : r ∈ cutR os i ↔ r ∈ cutR rs (φ i) := by
  refine ⟨cut_prm1 h hi, fun hr => ?_⟩
  have := cut_prm1 h.symm (by rw [h.len]; exact h.f i hi) hr
  rwa [h.gf i hi] at this
theorem ndl_prm (h : Prm rs os φ ψ) {i : Nat} (hi : i < rs.length) : Ndl os i ↔ Ndl rs (φ i) := by
  unfold Ndl
  constructor
  · intro g s
    rw [← fol_same (cut_prm h hi), ← fol_same h.mem]
    exact g s
  · intro g s
    rw [fol_same (cut_prm h hi), fol_same h.mem]
    exact g s
theorem needless_prm (h : Prm rs os φ ψ) {A B : List Nat} (sa : A.Pairwise (· < ·)) (sb : B.Pairwise (· < ·)) (ma : ∀ n, n ∈ A ↔ n < rs.length ∧ Ndl rs n) (mb : ∀ n, n ∈ B ↔ n < os.length ∧ Ndl os n) : sortN (A.map ψ) = B := by
  have oa : LotOk rs A := ⟨sa, fun p hp => ((ma p).mp hp).1⟩
  refine asc_eq (mapS_ok h.symm oa).1 sb fun x => ?_
  rw [mapS_mem, mb]
  constructor
  · rintro ⟨k, hk, rfl⟩
    obtain ⟨h1, h2⟩ := (ma k).mp hk
    exact ⟨by rw [h.len]; exact h.g k h1, (ndl_prm h (h.g k h1)).mpr (by rw [h.fg k h1]; exact h2)⟩
  · rintro ⟨h1, h2⟩
    rw [h.len] at h1
    exact ⟨φ x, (ma _).mpr ⟨h.f x h1, (ndl_prm h h1).mp h2⟩, h.gf x h1⟩
theorem tru_prm1 (h : Prm rs os φ ψ) {ts us : List Rw} (t1 : TruR rs ts) (t2 : TruR os us) {r : Rw} (hr : r ∈ us) : r ∈ ts := by
  obtain ⟨i, e, hn⟩ := (t2 r).mp hr
  have li := get_lt e
  rw [h.len] at li
  refine (t1 r).mpr ⟨φ i, by rw [← h.row i li]; exact e, fun ⟨L, hL, hi⟩ => hn ⟨_, ll_to h.symm hL, mapS_mem.mpr ⟨φ i, hi, h.gf i li⟩⟩⟩
theorem tru_prm (h : Prm rs os φ ψ) {ts us : List Rw} (t1 : TruR rs ts) (t2 : TruR os us) (r : Rw) : r ∈ us ↔ r ∈ ts := ⟨tru_prm1 h t1 t2, tru_prm1 h.symm t2 t1⟩
theorem onlyL_prm (h : Prm rs os φ ψ) {k : Nat} (hk : k < rs.length) : onlyL os (cutR os (ψ k)) = onlyL rs (cutR rs k) := by
  refine onlyL_same h.mem fun r => ?_
  rw [cut_prm h (h.g k hk), h.fg k hk]
/-- from the places in the new order -/
theorem prm_of {pl : List Nat} (hn : pl.Nodup) (hm : ∀ k, k ∈ pl ↔ k < rs.length) (ho : os = pl.filterMap fun k => rs[k]?) : Prm rs os (fun i => pl.getD i 0) (fun k => pl.idxOf k) := by
  have lp : pl.length = rs.length := by
    have l1 := hn.length_le_of_subset (l₂ := List.range rs.length) fun x hx => List.mem_range.mpr ((hm x).mp hx)
    have l2 := (List.nodup_range (n := rs.length)).length_le_of_subset (l₂ := pl) fun x hx => (hm x).mpr (List.mem_range.mp hx)
    rw [List.length_range] at l1 l2
    omega
  have eo : ∀ l : List Nat, (∀ k ∈ l, k < rs.length) → (l.filterMap fun k => rs[k]?).length = l.length ∧ ∀ i : Nat, (l.filterMap fun k => rs[k]?)[i]? = (l[i]?).bind fun k => rs[k]? := by
    intro l
    induction l with
    | nil => intro _; exact ⟨rfl, fun i => rfl⟩
    | cons x l ih =>
      intro h
      obtain ⟨i1, i2⟩ := ih fun k hk => h k (List.mem_cons_of_mem _ hk)
      have hx : rs[x]? = some (rs[x]'(h x (List.mem_cons_self ..))) := List.getElem?_eq_getElem _
      rw [List.filterMap_cons, hx]
      refine ⟨by simp [i1], fun i => ?_⟩
      cases i with
      | zero => exact hx.symm
      | succ i => exact i2 i
  obtain ⟨o1, o2⟩ := eo pl fun k hk => (hm k).mp hk
  have gd : ∀ i, i < rs.length → pl[i]? = some (pl.getD i 0) := fun i hi => by
    rw [List.getD_eq_getElem?_getD, List.getElem?_eq_getElem (by omega)]
    rfl
  refine ⟨by rw [ho, o1, lp], fun i hi => (hm _).mp (List.mem_of_getElem? (gd i hi)), fun k hk => ?_, fun k hk => ?_, fun i hi => ?_, fun i hi => ?_⟩
  · rw [← lp]
    exact List.idxOf_lt_length_of_mem ((hm k).mpr hk)
  · have h1 := List.idxOf_lt_length_of_mem ((hm k).mpr hk)
    show pl.getD (pl.idxOf k) 0 = k
    rw [List.getD_eq_getElem?_getD, List.getElem?_eq_getElem h1]
    exact List.getElem_idxOf h1
  · have h1 : i < pl.length := by omega
    show pl.idxOf (pl.getD i 0) = i
    rw [List.getD_eq_getElem?_getD, List.getElem?_eq_getElem h1]
    exact hn.idxOf_getElem i h1
  · rw [ho, o2, gd i hi]
    rfl
end
end Ah
end
section
set_option Elab.async false
set_option linter.all false
set_option maxRecDepth 100000
set_option maxHeartbeats 4000000
namespace Ah
open PySem PySem.Spec PyProof.Rows L2
open GxR (TabB TabG Tabbed)
theorem rT {b : Bool} {X Y : Prop} (e : b = true) (h : X) : if b = true then X else Y := by rw [if_pos e]; exact h
theorem rF {b : Bool} {X Y : Prop} (e : b = false) (h : Y) : if b = true then X else Y := by rw [if_neg (by rw [e]; decide)]; exact h
theorem if_eqL {b c : Bool} {X Y : Prop} (e : b = c) (h : if c = true then X else Y) : if b = true then X else Y := e ▸ h
theorem erase_map {α β : Type} (f : α → β) : ∀ (l : List α) (i : Nat), (l.map f).eraseIdx i = (l.eraseIdx i).map f
  | [], _ => rfl
  | _ :: _, 0 => rfl
  | a :: l, i + 1 => by
    show f a :: (l.map f).eraseIdx i = f a :: (l.eraseIdx i).map f
    rw [erase_map f l i]
theorem erase_perm {α : Type} : ∀ (l : List α) (i : Nat) (x : α), l[i]? = some x → (x :: l.eraseIdx i).Perm l
  | [], _, _, h => nomatch h
  | a :: l, 0, x, h => by
    cases h
    exact List.Perm.refl _
  | a :: l, i + 1, x, h => by
    have := erase_perm l i x h
    exact (List.Perm.swap a x _).trans (this.cons a)
/-- another list is written -/
theorem stAt_far {K : PySem.W.Frag} {H : Hp} {p a D : Addr} {o : HO} {ns : List Int} (n1 : D ≠ p) (n2 : a ≠ D ∨ ∀ Hx, SqL K Hx a (ns.map V.int)) (S : StAt K H p a ns) : StAt K (L2.upd H D o) p a ns := by
  obtain ⟨i, r, m, h, h1, h2, h3⟩ := S
  refine ⟨i, r, m, (upd_ne (Ne.symm n1)).trans h, h1, h2, ?_⟩
  rcases n2 with n2 | n2
  · rcases h3 with (h3 | ⟨o', h3⟩) | h3
    · exact .inl (.inl ((upd_ne n2).trans h3))
    · exact .inl (.inr ⟨o', (upd_ne n2).trans h3⟩)
    · exact .inr h3
  · exact n2 _
theorem ok_folL {rs : List Rw} (hf : ∀ r ∈ rs, r.few) : ∀ s ∈ folL rs, okW s.ws := fun s hs => allSay_ok s (mem_allSay (lfol_few hf ((folL_mem hf).mp hs)))
theorem dp_listS {K : PySem.W.Frag} {H : Hp} {p : Addr} {us : List V} {ss : List Say} (e : H p = some (.lst us)) (r : Paired (SayAt K H) us ss) : Dp K H (.ref p) (.list (ss.map dS)) := .lst (.inl (.of e)) (dp_says r)
theorem ints_sorted {ns' : List Int} {L : List Nat} (hn : L.Nodup) (hp : ns'.Perm (L.map fun n : Nat => (n : Int))) (hw : ns'.Pairwise (· ≤ ·)) : ns'.map V.int = intsL (sortN L) := by
  have hnn : ∀ z ∈ ns', 0 ≤ z := fun z hz => by
    obtain ⟨m, _, rfl⟩ := List.mem_map.mp (hp.mem_iff.mp hz)
    exact Int.natCast_nonneg m
  have h1 : ns'.map V.int = intsL (ns'.map Int.toNat) := by
    unfold intsL
    rw [List.map_map]
    refine List.map_congr_left fun z hz => ?_
    show V.int z = V.int ((z.toNat : Nat) : Int)
    rw [Int.toNat_of_nonneg (hnn z hz)]
  have h2 := hp.map Int.toNat
  rw [List.map_map, show (Int.toNat ∘ fun m : Nat => (m : Int)) = id from funext fun m => Int.toNat_natCast m, List.map_id] at h2
  have h3 : (ns'.map Int.toNat).Pairwise (· ≤ ·) := by
    rw [List.pairwise_map]
    exact hw.imp fun {a b} h => Int.toNat_le_toNat h
  rw [h1, sortN_eq hn h2 h3]
theorem dp_lists {K : PySem.W.Frag} {H : Hp} {D : Addr} : ∀ {us : List V} {sss : List (List Say)}, Paired (fun v ss => ∃ p ws, v = V.ref p ∧ p ≠ D ∧ H p = some (.lst ws) ∧ Paired (SayAt K H) ws ss) us sss → DpAll K H us (sss.map fun ss => PyData.list (ss.map dS))
  | _, _, .nil => .nil
  | _, _, .cons ⟨p, ws, e, _, h1, h2⟩ t => by
    rw [e]
    exact .cons (dp_listS h1 h2) (dp_lists t)
theorem shape_lists {sss : List (List Say)} (h : ∀ ss ∈ sss, ∀ s ∈ ss, okW s.ws) : SeqAt.shaped (.list (sss.map fun ss => PyData.list (ss.map dS))) = true := by
  have h1 : ∀ l : List Say, (∀ r ∈ l, okW r.ws) → PyData.canLayAll0 (l.map dS) = true ∧ PyData.depthAll (l.map dS) ≤ 2 := by
    intro l
    induction l with
    | nil => intro _; exact ⟨by simp [PyData.canLayAll0], by simp [PyData.depthAll]⟩
    | cons s l ih =>
      intro h
      obtain ⟨i1, i2⟩ := ih fun x hx => h x (List.mem_cons_of_mem _ hx)
      have s2 := SeqAt.canLay_of_shaped (shapedStrs (h s (List.mem_cons_self ..)))
      have d0 : ∀ l : List Str, PyData.depthAll (l.map PyData.str) = 0 := by
        intro l
        induction l with
        | nil => simp [PyData.depthAll]
        | cons w l ih => simp [PyData.depthAll, PyData.depth, ih]
      refine ⟨by rw [List.map_cons, PyData.canLayAll0, show (dS s).canLay0 = true from s2, i1]; rfl, ?_⟩
      rw [List.map_cons, PyData.depthAll]
      unfold dS at i2 ⊢
      rw [PyData.depth, d0]
      omega
  have h2 : PyData.canLayAll0 (sss.map fun ss => PyData.list (ss.map dS)) = true ∧ PyData.depthAll (sss.map fun ss => PyData.list (ss.map dS)) ≤ 3 := by
    induction sss with
    | nil => exact ⟨by simp [PyData.canLayAll0], by simp [PyData.depthAll]⟩
    | cons ss l ih =>
      obtain ⟨i1, i2⟩ := ih fun x hx => h x (List.mem_cons_of_mem _ hx)
      obtain ⟨j1, j2⟩ := h1 ss (h ss (List.mem_cons_self ..))
      refine ⟨by rw [List.map_cons, PyData.canLayAll0, PyData.canLay0, j1, i1]; rfl, ?_⟩
      rw [List.map_cons, PyData.depthAll, PyData.depth]
      omega
  unfold SeqAt.shaped
  rw [PyData.canLay0, h2.1, PyData.depth, Bool.true_and]
  exact decide_eq_true (by omega)
/-- len(x) inside a block -/
def rLenK (K : PySem.W.Frag) : List V → Hp → VK → Prop := fun xs H Q => ∃ p ys, xs = [V.ref p] ∧ (SqL K H p ys ∨ SqT K H p ys) ∧ Q (V.int ys.length) H
def rTupK (K : PySem.W.Frag) : List V → Hp → VK → Prop := fun xs H Q => ∃ p ys, xs = [.ref p] ∧ ((SqL K H p ys ∧ ∀ l, H l = none → Q (.ref l) (L2.upd H l (.tup ys))) ∨ (SqT K H p ys ∧ Q (.ref p) H))
/-! ### the law -/
abbrev lawN : List Str := ["_law_script", "_law_row_here", "_law_rows", "_law_left", "_law_places", "_law_k", "_law_other", "_law_back", "_law_saying", "_law_due", "_law_lot"]
def qLaw : Str := "law.<locals>.<lambda>"
def scIn : Scope := { kind := .function, names := [(".0", .local), ("_law_lot", .local), ("tuple", .globalImplicit), ("sorted", .globalImplicit), ("_law_back", .cell)], isGenerator := false, isCoroutine := false }
theorem scLaw : FnScope lawN ["_law_script"] (defScope lLaw) := ⟨rfl, rfl, rfl, by decide +kernel, rfl, by decide +kernel, by decide +kernel⟩
def spLaw (K : PySem.W.Frag) (T : List Addr) (P1 P2 : Addr) : Sp := fun vs H Q _ => ∃ (a : Addr) (ns : List Int), vs = [.ref a] ∧ SqL K H a (ns.map V.int) ∧ ns.length ≤ 63 ∧ TWd T P1 H ∧ LamX.TabS H P2 qLaw ∧ ∀ H', Q (.bl true) H'
/-- what stands between the law's steps: the state, the tables, the text -/
structure WS (K : PySem.W.Frag) (T : List Addr) (P1 P2 p a : Addr) (ns : List Int) (q : Addr) (rs : List Rw) (H : Hp) : Prop where
  S : StAt K H p a ns
  W : TWd T P1 H
  T2 : LamX.TabS H P2 qLaw
  tx : TextAt H q rs
section
variable {K : PySem.W.Frag} {T : List Addr} {P1 P2 p a q : Addr} {ns : List Int} {rs : List Rw} {H H' : Hp}
theorem WS.keptM {M : List Addr} (h : WS K T P1 P2 p a ns q rs H) (k : Kept M H H') (hM : ∀ b ∈ M, ∃ xs, H b = some (.lst xs)) (S : StAt K H' p a ns) : WS K T P1 P2 p a ns q rs H' :=
  ⟨S, h.W.keptM k hM, tabS_keptM k hM h.T2, h.tx.kept (M := []) (tk_keptM k hM)⟩
theorem WS.kept (h : WS K T P1 P2 p a ns q rs H) (k : Kept [] H H') : WS K T P1 P2 p a ns q rs H' :=
  h.keptM k (fun b hb => absurd hb (by simp)) (stAt_tk (fun xs e => k _ _ e (by simp)) (fun xs e => sqL_kept k e) h.S)
theorem WS.draw (h : WS K T P1 P2 p a ns q rs H) (k : Kept [p] H H') (S : StAt K H' p a ns) : WS K T P1 P2 p a ns q rs H' := h.keptM k h.S.inM S
theorem WS.ko (h : WS K T P1 P2 p a ns q rs H) (nT : P2 ∉ T) (n12 : P2 ≠ P1) (k : Ko T P1 H H') : WS K T P1 P2 p a ns q rs H' := ⟨k.stAt h.S, k.tw, k.tabS nT n12 h.T2, h.tx.kept (M := []) k.tk⟩
theorem WS.kb (h : WS K T P1 P2 p a ns q rs H) (nT : P2 ∉ T) (n12 : P2 ≠ P1) (k : Kb P2 H H') (t : LamX.TabS H' P2 qLaw) : WS K T P1 P2 p a ns q rs H' :=
  ⟨stAt_tk (fun xs e => Kb.obj k h.T2 e (fun _ z => nomatch z)) (fun xs e => Kb.sqL k h.T2 e) h.S, h.W.kb2 k h.T2 (Ne.symm n12) nT, t, h.tx.kept (M := []) (k.tk h.T2)⟩
end
/-- with the other text and the places back -/
structure LS (K : PySem.W.Frag) (T : List Addr) (P1 P2 p a : Addr) (ns : List Int) (q : Addr) (rs : List Rw) (qo ab : Addr) (os : List Rw) (bk : List Nat) (H : Hp) : Prop where
  ws : WS K T P1 P2 p a ns q rs H
  to : TextAt H qo os
  bk : H ab = some (.lst (intsL bk))
section
variable {K : PySem.W.Frag} {T : List Addr} {P1 P2 p a q qo ab : Addr} {ns : List Int} {rs os : List Rw} {bk : List Nat} {H H' : Hp}
theorem LS.kept (h : LS K T P1 P2 p a ns q rs qo ab os bk H) (k : Kept [] H H') : LS K T P1 P2 p a ns q rs qo ab os bk H' := ⟨h.ws.kept k, h.to.kept (M := []) (TK.of k), k _ _ h.bk (by simp)⟩
theorem LS.ko (h : LS K T P1 P2 p a ns q rs qo ab os bk H) (nT : P2 ∉ T) (n12 : P2 ≠ P1) (k : Ko T P1 H H') : LS K T P1 P2 p a ns q rs qo ab os bk H' := ⟨h.ws.ko nT n12 k, h.to.kept (M := []) k.tk, k.lst h.bk⟩
theorem LS.kb (h : LS K T P1 P2 p a ns q rs qo ab os bk H) (nT : P2 ∉ T) (n12 : P2 ≠ P1) (k : Kb P2 H H') (t : LamX.TabS H' P2 qLaw) : LS K T P1 P2 p a ns q rs qo ab os bk H' :=
  ⟨h.ws.kb nT n12 k t, h.to.kept (M := []) (k.tk h.ws.T2), Kb.obj k h.ws.T2 h.bk (fun _ z => nomatch z)⟩
end
section
variable {P : Program} {w : World} {K : PySem.W.Frag} {mg : Str → Option Value} {base : Heap} {f c f1 f2 f3 f4 f5 f6 f7 f8 f9 f10 P1 P2 : Addr} {fd fd1 fd2 fd3 fd4 fd5 fd6 fd7 fd8 fd9 fd10 : FuncData} {T : List Addr}
theorem ok_law (F : FnP K "law" lLaw f fd) (hc : fd.code = .ref c) (TB : LamX.TabB base mg c P2) (B : Bl mg) (nP : P1 ∉ T) (nT : P2 ∉ T) (n12 : P2 ≠ P1)
    (c__law_row : Own P w K mg base "_law_row" 1 f1 fd1 ["_law_script"] (spLRow K))
    (c__law_text : Own P w K mg base "_law_text" 3 f2 fd2 ["_law_row_here", "_law_many"] (spText K))
    (c__law_taken : Own P w K mg base "_law_taken" 1 f3 fd3 ["_law_row_here", "_law_many"] (spTaken K))
    (c_follows : Own P w K mg base "follows" 7 f4 fd4 ["rows"] (spFollows K T))
    (c_trusted : Own P w K mg base "trusted" 12 f5 fd5 ["rows"] (spTru K T P1))
    (c_parted : Own P w K mg base "parted" 9 f6 fd6 ["rows", "other"] (spParted K T))
    (c_bearers : Own P w K mg base "bearers" 11 f7 fd7 ["rows", "saying"] (spBear K T P1))
    (c_clashes : Own P w K mg base "clashes" 11 f8 fd8 ["rows"] (spClashes K T P1))
    (c_needless : Own P w K mg base "needless" 8 f9 fd9 ["rows"] (spNdl T))
    (c_hanging : Own P w K mg base "hanging" 9 f10 fd10 ["rows", "number"] (spHang K T)) :
    FnOk P w K mg base CX0 13 f fd ["_law_script"] (spLaw K T P1 P2) := by
  refine okC F hc scLaw (fun vs H Q E h => ?_) (fun A outer s H vs Q E hr h => ?_)
  · obtain ⟨a, ns, rfl, _⟩ := h
    rfl
  · obtain ⟨a, ns, rfl, hs, hl, W0, T0, k⟩ := h
    refine ⟨_, PSs.nox (pss_cons (ps_set (i := 1) scLaw.nd rfl (.inl rfl) (pe_call c__law_row.ok (hr.mono (by decide)) (by rfl) c__law_row.g c__law_row.kp c__law_row.b .nil pass0 (pa_cons (pv 0) pa_nil)))
      (pss_cons (ps_set (i := 2) scLaw.nd rfl (.inr rfl) (pe_call c__law_text.ok (hr.mono (by decide)) (by rfl) c__law_text.g c__law_text.kp c__law_text.b .nil pass0 (pa_cons (pv 1) (pa_cons pe_int pa_nil))))
      (pss_cons (ps_asg (pe_tup (pa_cons (pe_listRg rfl (by rfl) B.list_ (prg_1 (by rfl) B.range_ (pe_callB (show CallR _ (.builtin "len") (rLenK K) from call_len_seq) (by rfl) B.len_ (by decide +kernel) (pa_cons (pv 2) pa_nil)))) (pa_cons (pe_lst pa_nil) pa_nil))) (pg_tup rfl (pgs_cons (pg_name (i := 3) scLaw.nd rfl (Or.inl rfl)) (pgs_cons (pg_name (i := 4) scLaw.nd rfl (Or.inr rfl)) pgs_nil))))
      (pss_cons (ps_while PassesOwn.never (pt_cmpR (show OpR _ _ (rNeD K) from op_neD hr.units) (pv 3) (pe_lst pa_nil) (nomark _))
      (pss_one (ps_expr (pe_bm PySem.F.plainAttrs_list PySem.F.slot_list_append PySem.F.type_list_append mt_append (pv 4) (pa_cons (pe_bm PySem.F.plainAttrs_list PySem.F.slot_list_pop PySem.F.type_list_pop mt_popAt (pv 3) (pa_cons (pe_call c__law_taken.ok (hr.mono (by decide)) (by rfl) c__law_taken.g c__law_taken.kp c__law_taken.b .nil pass0 (pa_cons (pv 1) (pa_cons (pe_callB (show CallR _ (.builtin "len") (rLenK K) from call_len_seq) (by rfl) B.len_ (by decide +kernel) (pa_cons (pv 3) pa_nil)) pa_nil))) pa_nil)) pa_nil)))))
      (pss_cons (ps_set (i := 6) scLaw.nd rfl (.inr rfl) (pe_callTy (show CallR _ (.type "tuple") (rTupK K) from call_tuple_of) (by rfl) B.tuple_ (by decide +kernel) (pa_cons (pe_lc (own := [("_law_k", 5)]) (g := gName 5) (tt := tYes) rfl scLaw.nd (pi_list (pv 4)) (blkOk_by (N := lawN) (sc := defScope lLaw) (by decide +kernel)) (fun _ _ _ _ _ => pg_name (i := 5) scLaw.nd rfl (Or.inl rfl)) (fun _ _ _ _ _ => pts_nil) (fun _ _ _ _ _ => (pe_ix (show IxR _ (rIxT K) from ix_tup) (pv 2) (pv 5) (fun _ _ => rfl)))) pa_nil)))
      (pss_cons (ps_if (PW.pt (pw_or (pt_cmpR (show OpR _ _ (rNeD K) from op_neD hr.units) (pe_call c_follows.ok (hr.mono (by decide)) (by rfl) c_follows.g c_follows.kp c_follows.b .nil pass0 (pa_cons (pv 6) pa_nil)) (pe_call c_follows.ok (hr.mono (by decide)) (by rfl) c_follows.g c_follows.kp c_follows.b .nil pass0 (pa_cons (pv 2) pa_nil)) (nomark _)) (pw_or (pt_cmpR (show OpR _ _ (rNeD K) from op_neD hr.units) (pe_call c_trusted.ok hr (by rfl) c_trusted.g c_trusted.kp c_trusted.b .nil pass0 (pa_cons (pv 6) pa_nil)) (pe_call c_trusted.ok hr (by rfl) c_trusted.g c_trusted.kp c_trusted.b .nil pass0 (pa_cons (pv 2) pa_nil)) (nomark _)) (pw_or1 (pt_cmpR (show OpR _ _ (rNeD K) from op_neD hr.units) (pe_call c_parted.ok (hr.mono (by decide)) (by rfl) c_parted.g c_parted.kp c_parted.b .nil pass0 (pa_cons (pv 2) (pa_cons (pv 6) pa_nil))) (pe_tup (pa_cons (pe_lst pa_nil) (pa_cons (pe_lst pa_nil) pa_nil))) (nomark _)))))) (pss_one (ps_ret pe_bl)) pss_nil)
      (pss_cons (ps_asg (pe_lc (own := [("_law_k", 5)]) (g := gName 5) (tt := tYes) rfl scLaw.nd (pi_range1 (by rfl) B.range_ (pa_cons (pe_callB (show CallR _ (.builtin "len") (rLenK K) from call_len_seq) (by rfl) B.len_ (by decide +kernel) (pa_cons (pv 2) pa_nil)) pa_nil)) (blkOk_by (N := lawN) (sc := defScope lLaw) (by decide +kernel)) (fun _ _ _ _ _ => pg_name (i := 5) scLaw.nd rfl (Or.inl rfl)) (fun _ _ _ _ _ => pts_nil) (fun _ _ _ _ _ => (show PE _ _ (tBM K "list" (rIndex K) (tVar 4) (tCons (tVar 5) tNil)) from pe_bm PySem.F.plainAttrs_list PySem.F.slot_list_index PySem.F.type_list_index (show MtR _ "list.index" (rIndex K) from mt_index) (pv 4) (pa_cons (pv 5) pa_nil)))) (pg_name (i := 7) scLaw.nd rfl (Or.inr rfl)))
      (pss_cons (ps_for PassesOwn.never rfl (pi_list (pe_slice sl_list (pe_call c_follows.ok (hr.mono (by decide)) (by rfl) c_follows.g c_follows.kp c_follows.b .nil pass0 (pa_cons (pv 2) pa_nil)) po_none (po_some pe_int))) (pg_name (i := 8) scLaw.nd rfl (Or.inl rfl))
      (pss_cons (ps_setLc (i := 9) (own := [("_law_lot", 10)]) (g := gName 10) (tt := tYes) rfl scLaw.nd rfl rfl (sw_true rfl rfl rfl (by decide +kernel)) (pi_list (pe_call c_bearers.ok (hr.mono (by decide)) (by rfl) c_bearers.g c_bearers.kp c_bearers.b .nil pass0 (pa_cons (pv 2) (pa_cons (pv 8) pa_nil)))) (blkOk_by (N := lawN) (sc := defScope lLaw) (by decide +kernel)) (fun _ _ _ _ _ => pg_name (i := 10) scLaw.nd rfl (Or.inl rfl)) (fun _ _ _ _ _ => pts_nil) (fun _ _ _ _ _ => (pe_callTy (show CallR _ (.type "tuple") (rTupK K) from call_tuple_of) (by rfl) B.tuple_ (by decide +kernel) (pa_cons (pe_callB (show CallR _ _ (rSortedI K) from cr_sortedI) (by rfl) B.sorted_ (by decide +kernel) (pa_cons (pe_lc (own := [("_law_k", 5)]) (g := gName 5) (tt := tYes) rfl scLaw.nd (show PI _ _ _ (iTup K _) from pi_tup (pv 10)) (blkOk_by (N := lawN) (sc := scIn) (by decide +kernel)) (fun _ _ _ _ _ => pg_name (i := 5) scLaw.nd rfl (Or.inl rfl)) (fun _ _ _ _ _ => pts_nil) (fun _ _ _ _ _ => (pe_ix (show IxR _ (rIxL K) from ix_list) (pv 7) (pv 5) (fun _ _ => rfl)))) pa_nil)) pa_nil))))
      (pss_one (ps_if (pt_cmpR (show OpR _ _ (rNeD K) from op_neD hr.units) (pe_call c_bearers.ok (hr.mono (by decide)) (by rfl) c_bearers.g c_bearers.kp c_bearers.b .nil pass0 (pa_cons (pv 6) (pa_cons (pv 8) pa_nil))) (pe_sortLam (x := "_law_lot") (q := qLaw) (pa_cons (pv 9) pa_nil) ⟨rfl, rfl, rfl, rfl, rfl, by decide +kernel, ⟨_, _, _, _, _, _, rfl⟩, rfl⟩ hr TB rfl rfl rfl (fun _ _ _ _ _ => rfl) (by rfl) B.sorted_ (by decide +kernel) B.len_ (by decide +kernel)) (nomark _)) (pss_one (ps_ret pe_bl)) pss_nil))))
      (pss_cons (ps_setLc (i := 9) (own := [("_law_lot", 10)]) (g := gName 10) (tt := tYes) rfl scLaw.nd rfl rfl (sw_true rfl rfl rfl (by decide +kernel)) (pi_list (pe_call c_clashes.ok (hr.mono (by decide)) (by rfl) c_clashes.g c_clashes.kp c_clashes.b .nil pass0 (pa_cons (pv 2) pa_nil))) (blkOk_by (N := lawN) (sc := defScope lLaw) (by decide +kernel)) (fun _ _ _ _ _ => pg_name (i := 10) scLaw.nd rfl (Or.inl rfl)) (fun _ _ _ _ _ => pts_nil) (fun _ _ _ _ _ => (pe_callTy (show CallR _ (.type "tuple") (rTupK K) from call_tuple_of) (by rfl) B.tuple_ (by decide +kernel) (pa_cons (pe_callB (show CallR _ _ (rSortedI K) from cr_sortedI) (by rfl) B.sorted_ (by decide +kernel) (pa_cons (pe_lc (own := [("_law_k", 5)]) (g := gName 5) (tt := tYes) rfl scLaw.nd (show PI _ _ _ (iTup K _) from pi_tup (pv 10)) (blkOk_by (N := lawN) (sc := scIn) (by decide +kernel)) (fun _ _ _ _ _ => pg_name (i := 5) scLaw.nd rfl (Or.inl rfl)) (fun _ _ _ _ _ => pts_nil) (fun _ _ _ _ _ => (pe_ix (show IxR _ (rIxL K) from ix_list) (pv 7) (pv 5) (fun _ _ => rfl)))) pa_nil)) pa_nil))))
      (pss_cons (ps_if (pt_cmpR (show OpR _ _ (rNeD K) from op_neD hr.units) (pe_call c_clashes.ok (hr.mono (by decide)) (by rfl) c_clashes.g c_clashes.kp c_clashes.b .nil pass0 (pa_cons (pv 6) pa_nil)) (pe_sortLam (x := "_law_lot") (q := qLaw) (pa_cons (pv 9) pa_nil) ⟨rfl, rfl, rfl, rfl, rfl, by decide +kernel, ⟨_, _, _, _, _, _, rfl⟩, rfl⟩ hr TB rfl rfl rfl (fun _ _ _ _ _ => rfl) (by rfl) B.sorted_ (by decide +kernel) B.len_ (by decide +kernel)) (nomark _)) (pss_one (ps_ret pe_bl)) pss_nil)
      (pss_cons (ps_if (pt_cmpR (show OpR _ _ (rNeD K) from op_neD hr.units) (pe_call c_needless.ok (hr.mono (by decide)) (by rfl) c_needless.g c_needless.kp c_needless.b .nil pass0 (pa_cons (pv 6) pa_nil)) (pe_callB (show CallR _ _ (rSortedI K) from cr_sortedI) (by rfl) B.sorted_ (by decide +kernel) (pa_cons (pe_lc (own := [("_law_k", 5)]) (g := gName 5) (tt := tYes) rfl scLaw.nd (pi_list (pe_call c_needless.ok (hr.mono (by decide)) (by rfl) c_needless.g c_needless.kp c_needless.b .nil pass0 (pa_cons (pv 2) pa_nil))) (blkOk_by (N := lawN) (sc := defScope lLaw) (by decide +kernel)) (fun _ _ _ _ _ => pg_name (i := 5) scLaw.nd rfl (Or.inl rfl)) (fun _ _ _ _ _ => pts_nil) (fun _ _ _ _ _ => (pe_ix (show IxR _ (rIxL K) from ix_list) (pv 7) (pv 5) (fun _ _ => rfl)))) pa_nil)) (nomark _)) (pss_one (ps_ret pe_bl)) pss_nil)
      (pss_one (ps_ret (pe_cmpR (show OpR _ _ (rEqD K) from op_eqD hr.units) (pe_lc (own := [("_law_k", 5)]) (g := gName 5) (tt := tYes) rfl scLaw.nd (pi_range1 (by rfl) B.range_ (pa_cons (pe_callB (show CallR _ (.builtin "len") (rLenK K) from call_len_seq) (by rfl) B.len_ (by decide +kernel) (pa_cons (pv 2) pa_nil)) pa_nil)) (blkOk_by (N := lawN) (sc := defScope lLaw) (by decide +kernel)) (fun _ _ _ _ _ => pg_name (i := 5) scLaw.nd rfl (Or.inl rfl)) (fun _ _ _ _ _ => pts_nil) (fun _ _ _ _ _ => (pe_call c_hanging.ok (hr.mono (by decide)) (by rfl) c_hanging.g c_hanging.kp c_hanging.b .nil pass0 (pa_cons (pv 6) (pa_cons (pe_ix (show IxR _ (rIxL K) from ix_list) (pv 7) (pv 5) (fun _ _ => rfl)) pa_nil))))) (pe_lc (own := [("_law_k", 5)]) (g := gName 5) (tt := tYes) rfl scLaw.nd (pi_range1 (by rfl) B.range_ (pa_cons (pe_callB (show CallR _ (.builtin "len") (rLenK K) from call_len_seq) (by rfl) B.len_ (by decide +kernel) (pa_cons (pv 2) pa_nil)) pa_nil)) (blkOk_by (N := lawN) (sc := defScope lLaw) (by decide +kernel)) (fun _ _ _ _ _ => pg_name (i := 5) scLaw.nd rfl (Or.inl rfl)) (fun _ _ _ _ _ => pts_nil) (fun _ _ _ _ _ => (pe_call c_hanging.ok (hr.mono (by decide)) (by rfl) c_hanging.g c_hanging.kp c_hanging.b .nil pass0 (pa_cons (pv 2) (pa_cons (pv 5) pa_nil))))) (nomark _))))))))))))))), ?_⟩
    refine ⟨_, rfl, a, ns, rfl, hs, hl, fun p m np => ?_⟩
    have kA : Kept [] H (L2.upd H p (.lst [.ref a, .int 0, .int 0, .int m])) := (Kept.refl H).upd np
    have S0 : StAt K (L2.upd H p (.lst [.ref a, .int 0, .int 0, .int m])) p a ns := by
      refine ⟨0, 0, m, upd_same, Int.le_refl _, Int.le_refl _, ?_⟩
      rcases hs with (h | ⟨o, h⟩) | h
      · exact .inl (.inl (by rw [upd_ne (ne_of_none h np)]; exact h))
      · exact .inl (.inr ⟨o, by rw [upd_ne (ne_of_none h np)]; exact h⟩)
      · exact .inr h
    have noM : ∀ {H1 : Hp}, ∀ b ∈ ([] : List Addr), ∃ xs, H1 b = some (.lst xs) := fun b hb => absurd hb (by simp)
    refine ⟨_, rfl, p, a, ns, 10, rfl, S0, by omega, by omega, fun q rs H1 few len S1 k1 tx1 => ?_⟩
    have W1 := (W0.keptM kA noM).keptM k1 S0.inM
    have T1 := tabS_keptM k1 S0.inM (tabS_keptM kA noM T0)
    have lrs : rs.length ≤ 10 := by omega
    have ws1 : WS K T P1 P2 p a ns q rs H1 := ⟨S1, W1, T1, tx1⟩
    clear S0 W0 T0 kA k1 np hs S1 W1 T1 tx1
    obtain ⟨ps, hq, hps⟩ := id ws1.tx
    have lps : ps.length = rs.length := hps.length
    -- the places, and the list that is to be drawn from
    refine ⟨_, rfl, q, ps.map V.ref, rfl, .inr (.inl (.of hq)), ?_⟩
    refine ⟨_, rfl, RgOk.of_le (by omega) (by rw [List.length_map]; omega) (by omega) (by omega), fun pl npl => ⟨Nat.zero_le _, fun pp npp => ⟨by show 2 ≤ sizeLine; decide, fun t nt => ?_⟩⟩⟩
    have kl : Kept [] H1 (L2.upd H1 pl (.lst (rgV 0 (((ps.map V.ref).length : Nat) : Int)))) := (Kept.refl H1).upd npl
    have kpp := kl.upd (o := .lst []) npp
    have ktt := kpp.upd (o := .tup [.ref pl, .ref pp]) nt
    have ws2 := ws1.kept ktt
    have sqa : (a ≠ pl ∧ a ≠ pp) ∨ ∀ Hx, SqL K Hx a (ns.map V.int) := by
      obtain ⟨_, _, _, _, _, _, h3⟩ := ws1.S
      rcases h3 with (h3 | ⟨o', h3⟩) | h3
      · exact .inl ⟨ne_of_none h3 npl, ne_of_none (kl _ _ h3 (by simp)) npp⟩
      · exact .inl ⟨ne_of_none h3 npl, ne_of_none (kl _ _ h3 (by simp)) npp⟩
      · exact .inr fun Hx => .inr h3
    have er : rgV 0 (((ps.map V.ref).length : Nat) : Int) = intsL (List.range rs.length) := by
      unfold rgV intsL
      rw [List.length_map, lps]
      have : ((rs.length : Int) - 0).toNat = rs.length := by omega
      rw [this]
      exact List.map_congr_left fun i _ => by rw [Int.zero_add]
    have plp : pl ≠ p := fun z => by
      obtain ⟨xs, hx⟩ := ws1.S.ob
      rw [z, hx] at npl
      cases npl
    have ppp : pp ≠ p := fun z => by
      obtain ⟨xs, hx⟩ := ws1.S.ob
      have := kl _ _ hx (by simp)
      rw [z, this] at npp
      cases npp
    have plpp : pl ≠ pp := fun z => by
      rw [← z, upd_same] at npp
      cases npp
    have e2l : (L2.upd (L2.upd (L2.upd H1 pl (.lst (rgV 0 (((ps.map V.ref).length : Nat) : Int)))) pp (.lst [])) t (.tup [.ref pl, .ref pp])) pl = some (.lst (intsL (List.range rs.length))) := by
      rw [← er]
      exact ((Kept.refl (M := []) _).upd nt) _ _ (((Kept.refl (M := []) _).upd npp) _ _ upd_same (by simp)) (by simp)
    have e2p : (L2.upd (L2.upd (L2.upd H1 pl (.lst (rgV 0 (((ps.map V.ref).length : Nat) : Int)))) pp (.lst [])) t (.tup [.ref pl, .ref pp])) pp = some (.lst (intsL [])) := ((Kept.refl (M := []) _).upd nt) _ _ upd_same (by simp)
    refine ⟨t, _, rfl, .inl (.of upd_same), rfl, _, _, rfl, _, _, rfl, rfl, ?_⟩
    generalize L2.upd (L2.upd (L2.upd H1 pl (.lst (rgV 0 (((ps.map V.ref).length : Nat) : Int)))) pp (.lst [])) t (.tup [.ref pl, .ref pp]) = H2 at ws2 e2l e2p ⊢
    clear ktt kpp kl nt npp npl er hq hps ws1
    refine ⟨fun m σ Ha => ∃ xs ys : List Nat, (∃ v5 v6 v7 v8 v9 v10, σ = [some (.ref a), some (.ref p), some (.ref q), some (.ref pl), some (.ref pp), v5, v6, v7, v8, v9, v10]) ∧ WS K T P1 P2 p a ns q rs Ha ∧ Ha pl = some (.lst (intsL xs)) ∧ Ha pp = some (.lst (intsL ys)) ∧ (ys ++ xs).Nodup ∧ (∀ k, k ∈ ys ++ xs ↔ k < rs.length) ∧ m = xs.length,
      ⟨_, List.range rs.length, [], ⟨_, _, _, _, _, _, rfl⟩, ws2, e2l, e2p, List.nodup_range, fun k => List.mem_range, rfl⟩, ?_⟩
    rintro m σ Ha ⟨xs, ys, ⟨v5, v6, v7, v8, v9, v10, rfl⟩, wsa, el, ep, nd, mm, rfl⟩
    refine ⟨_, rfl, Nat.zero_le _, fun e0 ne0 => ?_⟩
    have k0 : Kept [] Ha (L2.upd Ha e0 (.lst [])) := (Kept.refl Ha).upd ne0
    have eqn : PyData.eqv (.list (dI xs)) (.list []) = decide (xs = []) := by
      rw [PyData.eqv]
      cases xs <;> simp [dI, PyData.eqvAll]
    refine ⟨.list (dI xs), .list [], .lst (.inl (.of (k0 _ _ el (by simp)))) (dpInts xs), .lst (.inl (.of upd_same)) .nil, shapedI xs, rfl, _, rfl, ?_⟩
    rw [eqn]
    have ws0 := wsa.kept k0
    have el0 := k0 _ _ el (by simp)
    have ep0 := k0 _ _ ep (by simp)
    generalize L2.upd Ha e0 (.lst []) = Hb at ws0 el0 ep0 ⊢
    clear wsa el ep k0 ne0
    by_cases hx : xs = []
    · rw [decide_eq_true hx]
      refine rF rfl ?_
      subst hx
      rw [List.append_nil] at nd
      simp only [List.append_nil] at mm
      clear el0 eqn
      -- the text in the new order
      obtain ⟨ps, hq, hps⟩ := id ws0.tx
      have lps : ps.length = rs.length := hps.length
      have lys : ys.length ≤ 10 := by
        have := nd.length_le_of_subset (l₂ := List.range rs.length) fun k hk => List.mem_range.mpr ((mm k).mp hk)
        rw [List.length_range] at this
        omega
      have lyI : (intsL ys).length = ys.length := List.length_map ..
      refine ⟨_, rfl, pp, rfl, ⟨_, .inl (.of ep0)⟩, fun D nD => ?_⟩
      refine lc_it (walk_list (K := K) (a := pp) (xs := intsL ys)) (fun j Ha => ∃ qs : List Addr, Ha D = some (.lst (qs.map V.ref)) ∧ Paired (fun a r => Hb a = some (.tup ((Rw.ws r).map V.str))) qs ((ys.take j).filterMap fun k => rs[k]?) ∧ qs.length ≤ j ∧ Kept [] Hb Ha)
        ⟨[], upd_same, .nil, Nat.le_refl _, (Kept.refl Hb).upd nD⟩ (fun j Ha _ pv => .inl (.of (pv.choose_spec.2.2.2 _ _ ep0 (by simp)))) ?_ ?_
      · rintro j z Ha0 Ha hj ⟨qs, eD, rq, lq, kk⟩ ⟨rfl, ez⟩
        unfold intsL at ez
        rw [List.getElem?_map] at ez
        obtain ⟨kx, ek, rfl⟩ := Option.map_eq_some_iff.mp ez
        have lk := (mm kx).mp (List.mem_of_getElem? ek)
        obtain ⟨pr, epr⟩ : ∃ pr, ps[kx]? = some pr := ⟨_, List.getElem?_eq_getElem (by omega)⟩
        obtain ⟨r, er, hr1⟩ := paired_at hps epr
        refine ⟨rfl, yes_if ⟨_, rfl, _, rfl, q, ps.map V.ref, _, V.ref pr, rfl, rfl, .inl (.of (kk _ _ hq (by simp))), at_of (j := kx) rfl (by rw [List.getElem?_map, epr]; rfl), qs.map V.ref, eD, ?_, qs ++ [pr], by rw [List.map_append]; exact upd_same, ?_, by rw [List.length_append, List.length_singleton]; omega, kD_far nD kk⟩⟩
        · rw [List.length_map]
          have := get_lt ek
          exact Nat.lt_of_le_of_lt (show qs.length ≤ 10 by omega) (by decide)
        · rw [take_succ_get ek, List.filterMap_append]
          refine paired_app rq ?_
          rw [List.filterMap_cons, er]
          exact .cons hr1 .nil
      rintro Ha ⟨qs, eD, rq, lq, kk⟩
      rw [lyI, List.take_of_length_le (Nat.le_refl _)] at rq
      obtain ⟨os, hos⟩ : ∃ os, os = ys.filterMap fun k => rs[k]? := ⟨_, rfl⟩
      rw [← hos] at rq
      have prm := prm_of nd mm hos
      have los : os.length ≤ 10 := by rw [prm.len]; exact lrs
      have fewo : ∀ r ∈ os, r.few := fun r hr => few r (prm.mem1 hr)
      refine ⟨D, _, rfl, .inl ⟨.inl (.of eD), fun qo nqo => ?_⟩⟩
      have k1 : Kept [] Hb (L2.upd Ha qo (.tup (qs.map V.ref))) := kk.upd nqo
      have ws1 := ws0.kept k1
      have to1 : TextAt (L2.upd Ha qo (.tup (qs.map V.ref))) qo os := ⟨qs, upd_same, Paired.mapP rq fun _ _ e => k1 _ _ e (by simp)⟩
      have ep1 := k1 _ _ ep0 (by simp)
      generalize L2.upd Ha qo (.tup (qs.map V.ref)) = H1 at ws1 to1 ep1 ⊢
      clear k1 nqo rq eD kk ws0 ep0 nD hq hps
      -- the same follows
      refine ⟨_, rfl, qo, os, rfl, to1, fewo, by omega, ws1.W.tg, fun p1 bs1 rw1 nm1 H2 kp1 np1 e1 hrw1 hnm1 hb1 hall1 nd1 _ => ?_⟩
      have r1 := fol_data fewo hrw1 hnm1 hb1 hall1 nd1
      have o1 := Ko.kp ws1.W nP kp1
      generalize (bs1.mergeSort leT).map (fun b => V.ref b.1) = us1 at e1 r1
      clear hrw1 hnm1 hb1 hall1 nd1 kp1
      rw [folL_same prm.mem] at r1
      have ws2 := ws1.ko nT n12 o1
      have to2 := to1.kept (M := []) o1.tk
      have ep2 := o1.lst ep1
      refine ⟨_, rfl, q, rs, rfl, ws2.tx, few, by omega, ws2.W.tg, fun p3 bs3 rw3 nm3 H3 kp3 np3 e3 hrw3 hnm3 hb3 hall3 nd3 _ => ?_⟩
      have r3 := fol_data few hrw3 hnm3 hb3 hall3 nd3
      have o3 := Ko.kp ws2.W nP kp3
      generalize (bs3.mergeSort leT).map (fun b => V.ref b.1) = us3 at e3 r3
      clear hrw3 hnm3 hb3 hall3 nd3 kp3
      have ws3 := ws2.ko nT n12 o3
      have to3 := to2.kept (M := []) o3.tk
      have ep3 := o3.lst ep2
      have shF : SeqAt.shaped (.list ((folL rs).map dS)) = true := shape_says (ok_folL few)
      refine ⟨.list ((folL rs).map dS), .list ((folL rs).map dS), dp_listS (o3.lst e1) (Paired.mapP r1 fun _ _ z => z.tk o3.tk), dp_listS e3 r3, shF, shF, _, rfl, rF (by rw [eqv_self shF]; rfl) ?_⟩
      clear r1 r3 e1 e3 ws1 ws2 to1 to2 ep1 ep2 o1 o3 np1 np3
      -- the same is trusted
      refine ⟨_, rfl, qo, os, rfl, to3, fewo, los, ws3.W, fun p4 us4 ts4 H4 o4 np4 e4 tr4 r4 => ?_⟩
      have ws4 := ws3.ko nT n12 o4
      have to4 := to3.kept (M := []) o4.tk
      have ep4 := o4.lst ep3
      refine ⟨_, rfl, q, rs, rfl, ws4.tx, few, lrs, ws4.W, fun p5 us5 ts5 H5 o5 np5 e5 tr5 r5 => ?_⟩
      have ws5 := ws4.ko nT n12 o5
      have to5 := to4.kept (M := []) o5.tk
      have ep5 := o5.lst ep4
      rw [folL_same (tru_prm prm tr5 tr4)] at r4
      have fewt : ∀ r ∈ ts5, r.few := fun r hr => by
        obtain ⟨n, h, _⟩ := (tr5 r).mp hr
        exact few r (List.mem_of_getElem? h)
      have shT : SeqAt.shaped (.list ((folL ts5).map dS)) = true := shape_says (ok_folL fewt)
      refine ⟨.list ((folL ts5).map dS), .list ((folL ts5).map dS), dp_listS (o5.lst e4) (Paired.mapP r4 fun _ _ z => z.tk o5.tk), dp_listS e5 r5, shT, shT, _, rfl, rF (by rw [eqv_self shT]; rfl) ?_⟩
      clear r4 r5 e4 e5 ws3 ws4 to3 to4 ep3 ep4 o4 o5 np4 np5 shT fewt tr4 tr5
      -- nothing parts them
      refine ⟨_, rfl, _, rfl, q, qo, rs, os, rfl, ws5.tx, to5, few, fewo, by omega, by omega, ws5.W.tg, fun p6 pa pb ts6 us6 H6 kp6 np6 e6 ea6 eb6 ot6 ou6 => ?_⟩
      have o6 := Ko.kp ws5.W nP kp6
      have ws6 := ws5.ko nT n12 o6
      have to6 := to5.kept (M := []) o6.tk
      have ep6 := o6.lst ep5
      have ra := only_data few ot6
      have rb := only_data fewo ou6
      rw [onlyL_nil few fun r => (prm.mem r).symm] at ra
      rw [onlyL_nil fewo prm.mem] at rb
      generalize ts6.map (fun b => V.ref b.1) = va at ea6 ra
      generalize us6.map (fun b => V.ref b.1) = vb at eb6 rb
      cases ra
      cases rb
      refine ⟨Nat.zero_le _, fun x1 nx1 => ⟨Nat.zero_le _, fun x2 nx2 => ⟨by show 2 ≤ sizeLine; decide, fun x3 nx3 => ?_⟩⟩⟩
      have kx1 : Kept [] H6 (L2.upd H6 x1 (.lst [])) := (Kept.refl H6).upd nx1
      have kx2 := kx1.upd (o := .lst []) nx2
      have kx3 := kx2.upd (o := .tup [.ref x1, .ref x2]) nx3
      refine ⟨.tuple [.list [], .list []], .tuple [.list [], .list []], .tup (.inl (.of (kx3 _ _ e6 (by simp)))) (.cons (.lst (.inl (.of (kx3 _ _ ea6 (by simp)))) .nil) (.cons (.lst (.inl (.of (kx3 _ _ eb6 (by simp)))) .nil) .nil)),
        .tup (.inl (.of upd_same)) (.cons (.lst (.inl (.of (((Kept.refl (M := []) _).upd nx3) _ _ (((Kept.refl (M := []) _).upd nx2) _ _ upd_same (by simp)) (by simp)))) .nil) (.cons (.lst (.inl (.of (((Kept.refl (M := []) _).upd nx3) _ _ upd_same (by simp)))) .nil) .nil)), by decide +kernel, by decide +kernel, _, rfl, rF (by decide +kernel) ?_⟩
      have ws7 := ws6.kept kx3
      have to7 := to6.kept (M := []) (TK.of kx3)
      have ep7 := kx3 _ _ ep6 (by simp)
      generalize L2.upd (L2.upd (L2.upd H6 x1 (.lst [])) x2 (.lst [])) x3 (.tup [.ref x1, .ref x2]) = H7 at ws7 to7 ep7 ⊢
      clear kx1 kx2 kx3 nx1 nx2 nx3 ws5 ws6 to5 to6 ep5 ep6 o6 kp6 np6 e6 ea6 eb6 ot6 ou6
      -- the places back
      obtain ⟨ps, hq, hps⟩ := id ws7.tx
      have lps : ps.length = rs.length := hps.length
      refine ⟨_, rfl, q, ps.map V.ref, rfl, .inr (.inl (.of hq)), rs.length, by rw [List.length_map, lps], by omega, by omega, fun ab nab => ?_⟩
      refine lc_it (walk_range (lo := 0) (n := rs.length)) (fun i Ha => Ha ab = some (.lst (intsL ((List.range i).map fun k => ys.idxOf k))) ∧ Kept [] H7 Ha) ⟨upd_same, (Kept.refl H7).upd nab⟩ (fun _ _ _ _ => trivial) ?_ ?_
      · rintro i y Ha0 Ha hi ⟨eD, kk⟩ ⟨rfl, ex⟩
        have ey : y = V.int (i : Nat) := by
          rw [ex]
          show V.int (0 + (i : Int)) = _
          rw [Int.zero_add]
        clear ex
        subst ey
        have him : i ∈ ys := (mm i).mpr hi
        have hix := List.idxOf_lt_length_of_mem him
        have epa := kk _ _ ep7 (by simp)
        refine ⟨rfl, yes_if ?_⟩
        refine ⟨_, rfl, .inl ⟨rfl, intsL ys, .inl (.of epa)⟩, _, rfl, pp, intsL ys, V.int (i : Nat), ys.idxOf i, V.int (i : Nat), rfl, rfl, .inl (.of epa), rfl, flat_ints ys, ?_, by simp [eqV], ?_, ?_⟩
        · unfold intsL
          rw [List.getElem?_map, List.getElem?_eq_getElem hix, List.getElem_idxOf hix]
          rfl
        · intro m z' hm hz
          unfold intsL at hz
          rw [List.getElem?_map] at hz
          obtain ⟨x, ex, rfl⟩ := Option.map_eq_some_iff.mp hz
          have hne : ¬ x = i := fun z => by
            rw [z] at ex
            have h1 := get_lt ex
            have h2 : ys[m] = i := by
              have := List.getElem?_eq_getElem h1
              rw [ex] at this
              exact (Option.some.inj this).symm
            have h3 := nd.idxOf_getElem m h1
            rw [h2] at h3
            omega
          simp only [eqV, beq_eq_false_iff_ne, ne_eq]
          omega
        · refine ⟨_, eD, ?_, ?_, kD_far nab kk⟩
          · unfold intsL
            rw [List.length_map, List.length_map, List.length_range]
            exact Nat.lt_of_le_of_lt (show i ≤ 10 by omega) (by decide)
          · rw [List.range_succ, List.map_append]
            unfold intsL
            rw [List.map_append]
            exact upd_same
      rintro H8 ⟨eab, k8⟩
      obtain ⟨bk, hbk⟩ : ∃ bk, bk = (List.range rs.length).map fun k => ys.idxOf k := ⟨_, rfl⟩
      rw [← hbk] at eab
      have bka : ∀ k, k < rs.length → bk[k]? = some (ys.idxOf k) := fun k hk => by
        rw [hbk, List.getElem?_map, List.getElem?_range hk]
        rfl
      have ls8 : LS K T P1 P2 p a ns q rs qo ab os bk H8 := ⟨ws7.kept k8, to7.kept (M := []) (TK.of k8), eab⟩
      generalize hψ : (fun k => ys.idxOf k) = ψ at prm
      have bkp : ∀ k, k < rs.length → bk[k]? = some (ψ k) := fun k hk => by rw [bka k hk, ← hψ]
      clear eab k8 ws7 to7 ep7 hbk bka hq hps nab
      -- each saying
      refine ⟨_, rfl, q, rs, rfl, ls8.ws.tx, few, by omega, ls8.ws.W.tg, fun p9 bs9 rw9 nm9 H9 kp9 np9 e9 hrw9 hnm9 hb9 hall9 nd9 _ => ?_⟩
      have r9 := fol_data few hrw9 hnm9 hb9 hall9 nd9
      have o9 := Ko.kp ls8.ws.W nP kp9
      generalize (bs9.mergeSort leT).map (fun b => V.ref b.1) = us9 at e9 r9
      clear hrw9 hnm9 hb9 hall9 nd9 kp9
      have ls9 := ls8.ko nT n12 o9
      refine ⟨_, rfl, p9, us9, rfl, .inl (.of e9), fun p10 np10 => ?_⟩
      have c8 : cutV us9 none (some 8) = us9.take 8 := cutL_take us9 8
      rw [c8] at *
      have k10 : Kept [] H9 (L2.upd H9 p10 (.lst (us9.take 8))) := (Kept.refl H9).upd np10
      have ls10 := ls9.kept k10
      have e10 : (L2.upd H9 p10 (.lst (us9.take 8))) p10 = some (.lst (us9.take 8)) := upd_same
      have r10 : Paired (SayAt K (L2.upd H9 p10 (.lst (us9.take 8)))) (us9.take 8) ((folL rs).take 8) := Paired.mapP (pd_take r9 8) fun _ _ z => z.tk (.of k10)
      generalize L2.upd H9 p10 (.lst (us9.take 8)) = H10 at ls10 e10 r10 ⊢
      clear k10 np10 np9 e9 r9 o9 ls8 ls9 c8
      generalize us9.take 8 = us at e10 r10 ⊢
      refine ⟨p10, rfl, ⟨_, .inl (.of e10)⟩, for_it (walk_list (K := K) (a := p10) (xs := us)) (fun i σ Hb => (∃ v5 v8 v9 v10, σ = [some (.ref a), some (.ref p), some (.ref q), some (.ref pl), some (.ref pp), v5, some (.ref qo), some (.ref ab), v8, v9, v10]) ∧ LS K T P1 P2 p a ns q rs qo ab os bk Hb ∧ Hb p10 = some (.lst us) ∧ TK H10 Hb)
        ⟨⟨_, _, _, _, rfl⟩, ls10, e10, TK.refl _⟩ (fun i σ Hb _ pv => .inl (.of pv.2.2.1)) ?_ ?_⟩
      · rintro i y σ Hb0 Hb' hi ⟨⟨v5', v8', v9', v10', rfl⟩, lsb, ep10, tkb⟩ ⟨rfl, ey⟩
        obtain ⟨x, exx, hx9⟩ := paired_at r10 ey
        have lfx := (folL_mem few).mp (List.mem_of_mem_take (List.mem_of_getElem? exx))
        have fx := lfol_few few lfx
        have cx := lfx.1
        have hxb := hx9.tk tkb
        refine ⟨_, rfl, _, rfl, q, y, rs, x, rfl, lsb.ws.tx, few, lrs, hxb, fx, cx, lsb.ws.W, fun pa as HA na As oa npa ea ra sa hna ma => ⟨pa, rfl, ⟨as, .inl (.of ea)⟩, fun D nD => ?_⟩⟩
        have lsA := lsb.ko nT n12 oa
        have mA : ∀ L, L ∈ As ↔ LL rs x L := fun L => (ma L).trans (ll_of few hna)
        have okA : ∀ L ∈ As, LotOk rs L := fun L hL => ((mA L).mp hL).1
        have lA : As.length ≤ 1024 := by
          have h1 := lots_few (rs := rs) (Ls := As) (sa.imp fun h => h.2) okA
          exact Nat.le_trans h1 (Nat.le_trans (Nat.pow_le_pow_right (by decide) lrs) (by decide))
        refine lc_it (walk_list (K := K) (a := pa) (xs := as)) (fun i Ha => ∃ us, Ha D = some (.lst us) ∧ Paired (LotAt K Ha) us ((As.take i).map fun L => sortN (L.map ψ)) ∧ Kept [] HA Ha) ⟨[], upd_same, .nil, (Kept.refl HA).upd nD⟩ (fun i Ha _ pv => .inl (.of (pv.choose_spec.2.2 _ _ ea (by simp)))) ?_ ?_
        · rintro i z Ha0 Ha hi ⟨us, eD, ru, kk⟩ ⟨rfl, ez⟩
          obtain ⟨L, eL, b, rfl, hL⟩ := paired_at ra ez
          have okL := okA L (List.mem_of_getElem? eL)
          have ndL : (L.map ψ).Nodup := nodup_mapOn (asc_nodup okL.1) fun x hx y hy e => by
            have e1 := prm.fg x (okL.2 x hx)
            have e2 := prm.fg y (okL.2 y hy)
            rw [← e1, ← e2]
            exact congrArg (fun z => ys.getD z 0) e
          have eab := kk _ _ lsA.bk (by simp)
          have lI : (intsL L).length = L.length := List.length_map ..
          refine ⟨rfl, yes_if ?_⟩
          refine ⟨_, rfl, b, rfl, ⟨_, sqT_tk (.of kk) hL⟩, fun D3 nD3 => ?_⟩
          refine lc_it (walk_tup (K := K) (a := b) (xs := intsL L)) (fun j Hc => Hc D3 = some (.lst (intsL ((L.take j).map ψ))) ∧ Kept [] Ha Hc) ⟨upd_same, (Kept.refl Ha).upd nD3⟩ (fun j Hc _ pv => sqT_tk (.of (kk.trans pv.2)) hL) ?_ ?_
          · rintro j y Hc0 Hc hj ⟨e3, k3⟩ ⟨rfl, ey⟩
            unfold intsL at ey
            rw [List.getElem?_map] at ey
            obtain ⟨k', ek, rfl⟩ := Option.map_eq_some_iff.mp ey
            have lk := okL.2 k' (List.mem_of_getElem? ek)
            refine ⟨rfl, yes_if ⟨_, rfl, _, rfl, ab, intsL bk, _, V.int (ψ k' : Nat), rfl, rfl, .inl (.of (k3 _ _ eab (by simp))), at_of (j := k') rfl (by unfold intsL; rw [List.getElem?_map, bkp k' lk]; rfl), _, e3, ?_, ?_, kD_far nD3 k3⟩⟩
            · unfold intsL
              rw [List.length_map, List.length_map, List.length_take]
              have := (asc_nodup okL.1).length_le_of_subset (l₂ := List.range rs.length) fun x hx => List.mem_range.mpr (okL.2 x hx)
              rw [List.length_range] at this
              exact Nat.lt_of_le_of_lt (show min j L.length ≤ 10 by omega) (by decide)
            · rw [take_succ_get ek, List.map_append]
              unfold intsL
              rw [List.map_append]
              exact upd_same
          rintro Hc ⟨e3, k3⟩
          rw [lI, List.take_of_length_le (Nat.le_refl _)] at e3
          have e3' : Hc D3 = some (.lst (((L.map ψ).map fun n : Nat => (n : Int)).map V.int)) := by
            rw [e3]
            unfold intsL
            rw [List.map_map (f := fun n : Nat => (n : Int))]
            rfl
          refine ⟨D3, _, rfl, .inl (.of e3'), fun ns' p3 hp3 hw3 np3 => ?_⟩
          have es := ints_sorted ndL hp3 hw3
          rw [es]
          refine ⟨p3, _, rfl, .inl ⟨.inl (.of upd_same), fun t nt => ?_⟩⟩
          have kt : Kept [] Ha (L2.upd (L2.upd Hc p3 (.lst (intsL (sortN (L.map ψ))))) t (.tup (intsL (sortN (L.map ψ))))) := (k3.upd np3).upd nt
          have eDt := kt _ _ eD (by simp)
          have tk := (TK.refl (L2.upd (L2.upd Hc p3 (.lst (intsL (sortN (L.map ψ))))) t (.tup (intsL (sortN (L.map ψ)))))).updL (o := .lst (us ++ [V.ref t])) eDt
          have lu := ru.length
          rw [List.length_map, List.length_take] at lu
          refine ⟨us, eDt, Nat.lt_of_le_of_lt (show us.length ≤ 1024 by omega) (by decide), us ++ [V.ref t], upd_same, ?_, kD_far nD (kk.trans kt)⟩
          rw [take_succ_get eL, List.map_append]
          exact paired_app (Paired.mapP ru fun _ _ z => (LotAt.tk (.of kt) z).tk tk) (.cons ⟨t, rfl, sqT_tk tk (.inl (.of upd_same))⟩ .nil)
        rintro HD1 ⟨usD1, eDD1, ruD1, kD1⟩
        rw [ra.length, List.take_of_length_le (Nat.le_refl _)] at ruD1
        have lsD1 := lsA.kept kD1
        obtain ⟨blo, eus, eAs, hblo⟩ := lots_bs ruD1
        rw [eus] at eDD1
        clear ruD1 eus
        have hxD := (hxb.tk oa.tk).tk (.of kD1)
        refine ⟨_, rfl, _, rfl, qo, y, os, x, rfl, lsD1.to, fewo, los, hxD, fx, cx, lsD1.ws.W, fun pb bs HB nb Bs ob npb eb rb sb hnb mb => ?_⟩
        have lsB := lsD1.ko nT n12 ob
        have mB : ∀ L, L ∈ Bs ↔ LL os x L := fun L => (mb L).trans (ll_of fewo hnb)
        have hblo2 : ∀ b ∈ blo, SqT K HB b.1 (intsL b.2) := fun b hb => sqT_tk ob.tk (hblo b hb)
        refine ⟨_, rfl, lsB.ws.T2, D, blo, rfl, .inl (.of (ob.lst eDD1)), hblo2, fun pz Hz kb Tz npz ez => ?_⟩
        have tkz := kb.tk lsB.ws.T2
        have rz : Paired (LotAt K Hz) ((blo.mergeSort leB).map fun b => V.ref b.1) Bs := by
          have h1 := bs_lots (K := K) (H := Hz) (bs := blo.mergeSort leB) fun b hb => sqT_tk tkz (hblo2 b ((List.mergeSort_perm blo leB).mem_iff.mp hb))
          rw [sortB_snd, ← eAs] at h1
          rw [← lots_prm prm sa sb mA mB]
          exact h1
        have rb2 := Paired.mapP rb fun _ _ z => LotAt.tk tkz z
        have eb2 := Kb.obj kb lsB.ws.T2 eb (fun _ z => nomatch z)
        have lsz := lsB.kb nT n12 kb Tz
        refine ⟨.list (Bs.map dLt), .list (Bs.map dLt), .lst (.inl (.of eb2)) (dpLots rb2), .lst (.inl (.of ez)) (dpLots rz), shapedL Bs, shapedL Bs, _, rfl, rF (by rw [eqv_self (d := .list (Bs.map dLt)) (shapedL Bs)]; rfl) ?_⟩
        exact ⟨⟨_, _, _, _, rfl⟩, lsz, Kb.obj kb lsB.ws.T2 (ob.lst (kD1 _ _ (oa.lst ep10) (by simp))) (fun _ z => nomatch z), (((tkb.trans oa.tk).trans (.of kD1)).trans ob.tk).trans tkz⟩
      · rintro σ Hb' ⟨⟨v5', v8', v9', v10', rfl⟩, lsb, ep10, tkb⟩
        clear e10 r10 ls10 tkb ep10
        -- what clashes
        refine ⟨_, rfl, q, rs, rfl, lsb.ws.tx, few, lrs, lsb.ws.W, fun pa as HA na As oa npa ea ra sa hna ma => ⟨pa, rfl, ⟨as, .inl (.of ea)⟩, fun D nD => ?_⟩⟩
        have lsA := lsb.ko nT n12 oa
        have mA : ∀ L, L ∈ As ↔ LL rs .clash L := fun L => (ma L).trans (ll_of few hna)
        have okA : ∀ L ∈ As, LotOk rs L := fun L hL => ((mA L).mp hL).1
        have lA : As.length ≤ 1024 := by
          have h1 := lots_few (rs := rs) (Ls := As) (sa.imp fun h => h.2) okA
          exact Nat.le_trans h1 (Nat.le_trans (Nat.pow_le_pow_right (by decide) lrs) (by decide))
        refine lc_it (walk_list (K := K) (a := pa) (xs := as)) (fun i Ha => ∃ us, Ha D = some (.lst us) ∧ Paired (LotAt K Ha) us ((As.take i).map fun L => sortN (L.map ψ)) ∧ Kept [] HA Ha) ⟨[], upd_same, .nil, (Kept.refl HA).upd nD⟩ (fun i Ha _ pv => .inl (.of (pv.choose_spec.2.2 _ _ ea (by simp)))) ?_ ?_
        · rintro i z Ha0 Ha hi ⟨us, eD, ru, kk⟩ ⟨rfl, ez⟩
          obtain ⟨L, eL, b, rfl, hL⟩ := paired_at ra ez
          have okL := okA L (List.mem_of_getElem? eL)
          have ndL : (L.map ψ).Nodup := nodup_mapOn (asc_nodup okL.1) fun x hx y hy e => by
            have e1 := prm.fg x (okL.2 x hx)
            have e2 := prm.fg y (okL.2 y hy)
            rw [← e1, ← e2]
            exact congrArg (fun z => ys.getD z 0) e
          have eab := kk _ _ lsA.bk (by simp)
          have lI : (intsL L).length = L.length := List.length_map ..
          refine ⟨rfl, yes_if ?_⟩
          refine ⟨_, rfl, b, rfl, ⟨_, sqT_tk (.of kk) hL⟩, fun D3 nD3 => ?_⟩
          refine lc_it (walk_tup (K := K) (a := b) (xs := intsL L)) (fun j Hc => Hc D3 = some (.lst (intsL ((L.take j).map ψ))) ∧ Kept [] Ha Hc) ⟨upd_same, (Kept.refl Ha).upd nD3⟩ (fun j Hc _ pv => sqT_tk (.of (kk.trans pv.2)) hL) ?_ ?_
          · rintro j y Hc0 Hc hj ⟨e3, k3⟩ ⟨rfl, ey⟩
            unfold intsL at ey
            rw [List.getElem?_map] at ey
            obtain ⟨k', ek, rfl⟩ := Option.map_eq_some_iff.mp ey
            have lk := okL.2 k' (List.mem_of_getElem? ek)
            refine ⟨rfl, yes_if ⟨_, rfl, _, rfl, ab, intsL bk, _, V.int (ψ k' : Nat), rfl, rfl, .inl (.of (k3 _ _ eab (by simp))), at_of (j := k') rfl (by unfold intsL; rw [List.getElem?_map, bkp k' lk]; rfl), _, e3, ?_, ?_, kD_far nD3 k3⟩⟩
            · unfold intsL
              rw [List.length_map, List.length_map, List.length_take]
              have := (asc_nodup okL.1).length_le_of_subset (l₂ := List.range rs.length) fun x hx => List.mem_range.mpr (okL.2 x hx)
              rw [List.length_range] at this
              exact Nat.lt_of_le_of_lt (show min j L.length ≤ 10 by omega) (by decide)
            · rw [take_succ_get ek, List.map_append]
              unfold intsL
              rw [List.map_append]
              exact upd_same
          rintro Hc ⟨e3, k3⟩
          rw [lI, List.take_of_length_le (Nat.le_refl _)] at e3
          have e3' : Hc D3 = some (.lst (((L.map ψ).map fun n : Nat => (n : Int)).map V.int)) := by
            rw [e3]
            unfold intsL
            rw [List.map_map (f := fun n : Nat => (n : Int))]
            rfl
          refine ⟨D3, _, rfl, .inl (.of e3'), fun ns' p3 hp3 hw3 np3 => ?_⟩
          have es := ints_sorted ndL hp3 hw3
          rw [es]
          refine ⟨p3, _, rfl, .inl ⟨.inl (.of upd_same), fun t nt => ?_⟩⟩
          have kt : Kept [] Ha (L2.upd (L2.upd Hc p3 (.lst (intsL (sortN (L.map ψ))))) t (.tup (intsL (sortN (L.map ψ))))) := (k3.upd np3).upd nt
          have eDt := kt _ _ eD (by simp)
          have tk := (TK.refl (L2.upd (L2.upd Hc p3 (.lst (intsL (sortN (L.map ψ))))) t (.tup (intsL (sortN (L.map ψ)))))).updL (o := .lst (us ++ [V.ref t])) eDt
          have lu := ru.length
          rw [List.length_map, List.length_take] at lu
          refine ⟨us, eDt, Nat.lt_of_le_of_lt (show us.length ≤ 1024 by omega) (by decide), us ++ [V.ref t], upd_same, ?_, kD_far nD (kk.trans kt)⟩
          rw [take_succ_get eL, List.map_append]
          exact paired_app (Paired.mapP ru fun _ _ z => (LotAt.tk (.of kt) z).tk tk) (.cons ⟨t, rfl, sqT_tk tk (.inl (.of upd_same))⟩ .nil)
        rintro HD1 ⟨usD1, eDD1, ruD1, kD1⟩
        rw [ra.length, List.take_of_length_le (Nat.le_refl _)] at ruD1
        have lsD1 := lsA.kept kD1
        obtain ⟨blo, eus, eAs, hblo⟩ := lots_bs ruD1
        rw [eus] at eDD1
        clear ruD1 eus
        refine ⟨_, rfl, qo, os, rfl, lsD1.to, fewo, los, lsD1.ws.W, fun pb bs HB nb Bs ob npb eb rb sb hnb mb => ?_⟩
        have lsB := lsD1.ko nT n12 ob
        have mB : ∀ L, L ∈ Bs ↔ LL os .clash L := fun L => (mb L).trans (ll_of fewo hnb)
        have hblo2 : ∀ b ∈ blo, SqT K HB b.1 (intsL b.2) := fun b hb => sqT_tk ob.tk (hblo b hb)
        refine ⟨_, rfl, lsB.ws.T2, D, blo, rfl, .inl (.of (ob.lst eDD1)), hblo2, fun pz Hz kb Tz npz ez => ?_⟩
        have tkz := kb.tk lsB.ws.T2
        have rz : Paired (LotAt K Hz) ((blo.mergeSort leB).map fun b => V.ref b.1) Bs := by
          have h1 := bs_lots (K := K) (H := Hz) (bs := blo.mergeSort leB) fun b hb => sqT_tk tkz (hblo2 b ((List.mergeSort_perm blo leB).mem_iff.mp hb))
          rw [sortB_snd, ← eAs] at h1
          rw [← lots_prm prm sa sb mA mB]
          exact h1
        have rb2 := Paired.mapP rb fun _ _ z => LotAt.tk tkz z
        have eb2 := Kb.obj kb lsB.ws.T2 eb (fun _ z => nomatch z)
        have lsz := lsB.kb nT n12 kb Tz
        refine ⟨.list (Bs.map dLt), .list (Bs.map dLt), .lst (.inl (.of eb2)) (dpLots rb2), .lst (.inl (.of ez)) (dpLots rz), shapedL Bs, shapedL Bs, _, rfl, rF (by rw [eqv_self (d := .list (Bs.map dLt)) (shapedL Bs)]; rfl) ?_⟩
        clear ez rz rb2 eb2 eb rb eDD1 hblo hblo2 lsB lsD1 lsA
        -- what is needless
        refine ⟨_, rfl, qo, os, rfl, lsz.to, fewo, by omega, lsz.ws.W.tg, fun pn Ns2 Hn kpn npn en sn mn => ?_⟩
        have on := Ko.kp lsz.ws.W nP kpn
        have lsn := lsz.ko nT n12 on
        refine ⟨_, rfl, q, rs, rfl, lsn.ws.tx, few, by omega, lsn.ws.W.tg, fun pm Ns Hm kpm npm em sm mmn => ⟨pm, rfl, ⟨_, .inl (.of em)⟩, fun D4 nD4 => ?_⟩⟩
        have om := Ko.kp lsn.ws.W nP kpm
        have lsm := lsn.ko nT n12 om
        have lNI : (intsL Ns).length = Ns.length := List.length_map ..
        have lNs : Ns.length ≤ 10 := by
          have := (asc_nodup sm).length_le_of_subset (l₂ := List.range rs.length) fun x hx => List.mem_range.mpr ((mmn x).mp hx).1
          rw [List.length_range] at this
          omega
        refine lc_it (walk_list (K := K) (a := pm) (xs := intsL Ns)) (fun j Hc => Hc D4 = some (.lst (intsL ((Ns.take j).map ψ))) ∧ Kept [] Hm Hc) ⟨upd_same, (Kept.refl Hm).upd nD4⟩ (fun j Hc _ pv => .inl (.of (pv.2 _ _ em (by simp)))) ?_ ?_
        · rintro j y Hc0 Hc hj ⟨e3, k3⟩ ⟨rfl, ey⟩
          unfold intsL at ey
          rw [List.getElem?_map] at ey
          obtain ⟨k', ek, rfl⟩ := Option.map_eq_some_iff.mp ey
          have lk := ((mmn k').mp (List.mem_of_getElem? ek)).1
          refine ⟨rfl, yes_if ⟨_, rfl, _, rfl, ab, intsL bk, _, V.int (ψ k' : Nat), rfl, rfl, .inl (.of (k3 _ _ lsm.bk (by simp))), at_of (j := k') rfl (by unfold intsL; rw [List.getElem?_map, bkp k' lk]; rfl), _, e3, ?_, ?_, kD_far nD4 k3⟩⟩
          · unfold intsL
            rw [List.length_map, List.length_map, List.length_take]
            exact Nat.lt_of_le_of_lt (show min j Ns.length ≤ 10 by omega) (by decide)
          · rw [take_succ_get ek, List.map_append]
            unfold intsL
            rw [List.map_append]
            exact upd_same
        rintro Hc ⟨e3, k3⟩
        rw [lNI, List.take_of_length_le (Nat.le_refl _)] at e3
        have e3' : Hc D4 = some (.lst (((Ns.map ψ).map fun n : Nat => (n : Int)).map V.int)) := by
          rw [e3]
          unfold intsL
          rw [List.map_map (f := fun n : Nat => (n : Int))]
          rfl
        have ndN : (Ns.map ψ).Nodup := nodup_mapOn (asc_nodup sm) fun x hx y hy e => by
          have e1 := prm.fg x ((mmn x).mp hx).1
          have e2 := prm.fg y ((mmn y).mp hy).1
          rw [← e1, ← e2]
          exact congrArg (fun z => ys.getD z 0) e
        refine ⟨D4, _, rfl, .inl (.of e3'), fun ns' p3 hp3 hw3 np3 => ?_⟩
        have es := ints_sorted ndN hp3 hw3
        rw [needless_prm prm sm sn mmn mn] at es
        rw [es]
        have kp3 : Kept [] Hm (L2.upd Hc p3 (.lst (intsL Ns2))) := k3.upd np3
        have ls0 := lsm.kept kp3
        refine ⟨.list (dI Ns2), .list (dI Ns2), .lst (.inl (.of (kp3 _ _ (om.lst en) (by simp)))) (dpInts Ns2), .lst (.inl (.of upd_same)) (dpInts Ns2), shapedI Ns2, shapedI Ns2, _, rfl, rF (by rw [eqv_self (shapedI Ns2)]; rfl) ?_⟩
        generalize L2.upd Hc p3 (.lst (intsL Ns2)) = H0 at ls0 ⊢
        clear kp3 np3 hp3 hw3 e3 e3' k3 es lsm lsn lsz om on em en nD4 nD
        -- what hangs on each row
        obtain ⟨psL, hqL, hpsL⟩ := id ls0.ws.tx
        have lpsL : psL.length = rs.length := hpsL.length
        refine ⟨_, rfl, q, psL.map V.ref, rfl, .inr (.inl (.of hqL)), rs.length, by rw [List.length_map, lpsL], by omega, by omega, fun DL nDL => ?_⟩
        refine lc_it (walk_range (lo := 0) (n := rs.length)) (fun i Ha => ∃ us, Ha DL = some (.lst us) ∧ Paired (fun v ss => ∃ p ws, v = V.ref p ∧ p ≠ DL ∧ Ha p = some (.lst ws) ∧ Paired (SayAt K Ha) ws ss) us ((List.range i).map fun k => onlyL rs (cutR rs k)) ∧ Ko T P1 H0 Ha)
          ⟨[], upd_same, .nil, Ko.of ls0.ws.W ((Kept.refl H0).upd nDL)⟩ (fun _ _ _ _ => trivial) ?_ ?_
        · rintro i y Ha0 Ha hi ⟨us, eD, ru, ko⟩ ⟨rfl, ex⟩
          have ey : y = V.int (i : Nat) := by
            rw [ex]
            show V.int (0 + (i : Int)) = _
            rw [Int.zero_add]
          clear ex
          subst ey
          have lsa := ls0.ko nT n12 ko
          refine ⟨rfl, yes_if ?_⟩
          refine ⟨_, rfl, _, rfl, _, rfl, ab, intsL bk, _, V.int (ψ i : Nat), rfl, rfl, .inl (.of lsa.bk), at_of (j := i) rfl (by unfold intsL; rw [List.getElem?_map, bkp i hi]; rfl), qo, os, ψ i, rfl, lsa.to, fewo, by omega, by rw [prm.len]; exact prm.g i hi, lsa.ws.W.tg, fun ph ts Hh kph nph eh ot => ?_⟩
          have oh := Ko.kp lsa.ws.W nP kph
          have rh := only_data fewo ot
          rw [show os.take (ψ i) ++ os.drop (ψ i + 1) = cutR os (ψ i) from rfl, onlyL_prm prm hi] at rh
          have eD2 := oh.lst eD
          have phD : ph ≠ DL := fun z => by
            rw [z, eD] at nph
            cases nph
          have tk := (TK.refl Hh).updL (o := .lst (us ++ [V.ref ph])) eD2
          have lu := ru.length
          rw [List.length_map, List.length_range] at lu
          refine ⟨us, eD2, Nat.lt_of_le_of_lt (show us.length ≤ 10 by omega) (by decide), us ++ [V.ref ph], upd_same, ?_, Ko.far nDL eD2 (ko.trans oh)⟩
          rw [List.range_succ, List.map_append]
          refine paired_app (Paired.mapP ru fun v ss h => ?_) (.cons ⟨ph, _, rfl, phD, (upd_ne phD).trans eh, Paired.mapP rh fun _ _ z => z.tk tk⟩ .nil)
          obtain ⟨p', ws', e1, e2, e3, e4⟩ := h
          exact ⟨p', ws', e1, e2, (upd_ne e2).trans (oh.lst e3), Paired.mapP e4 fun _ _ z => (z.tk oh.tk).tk tk⟩
        rintro HL ⟨usL, eDL, ruL, koL⟩
        have lsL := ls0.ko nT n12 koL
        obtain ⟨psR, hqR, hpsR⟩ := id lsL.ws.tx
        have lpsR : psR.length = rs.length := hpsR.length
        refine ⟨_, rfl, q, psR.map V.ref, rfl, .inr (.inl (.of hqR)), rs.length, by rw [List.length_map, lpsR], by omega, by omega, fun DR nDR => ?_⟩
        refine lc_it (walk_range (lo := 0) (n := rs.length)) (fun i Ha => ∃ us, Ha DR = some (.lst us) ∧ Paired (fun v ss => ∃ p ws, v = V.ref p ∧ p ≠ DR ∧ Ha p = some (.lst ws) ∧ Paired (SayAt K Ha) ws ss) us ((List.range i).map fun k => onlyL rs (cutR rs k)) ∧ Ko T P1 HL Ha)
          ⟨[], upd_same, .nil, Ko.of lsL.ws.W ((Kept.refl HL).upd nDR)⟩ (fun _ _ _ _ => trivial) ?_ ?_
        · rintro i y Ha0 Ha hi ⟨us, eD, ru, ko⟩ ⟨rfl, ex⟩
          have ey : y = V.int (i : Nat) := by
            rw [ex]
            show V.int (0 + (i : Int)) = _
            rw [Int.zero_add]
          clear ex
          subst ey
          have lsa := lsL.ko nT n12 ko
          refine ⟨rfl, yes_if ?_⟩
          refine ⟨_, rfl, _, rfl, q, rs, i, rfl, lsa.ws.tx, few, by omega, hi, lsa.ws.W.tg, fun ph ts Hh kph nph eh ot => ?_⟩
          have oh := Ko.kp lsa.ws.W nP kph
          have rh := only_data few ot
          rw [show rs.take (i) ++ rs.drop (i + 1) = cutR rs (i) from rfl] at rh
          have eD2 := oh.lst eD
          have phD : ph ≠ DR := fun z => by
            rw [z, eD] at nph
            cases nph
          have tk := (TK.refl Hh).updL (o := .lst (us ++ [V.ref ph])) eD2
          have lu := ru.length
          rw [List.length_map, List.length_range] at lu
          refine ⟨us, eD2, Nat.lt_of_le_of_lt (show us.length ≤ 10 by omega) (by decide), us ++ [V.ref ph], upd_same, ?_, Ko.far nDR eD2 (ko.trans oh)⟩
          rw [List.range_succ, List.map_append]
          refine paired_app (Paired.mapP ru fun v ss h => ?_) (.cons ⟨ph, _, rfl, phD, (upd_ne phD).trans eh, Paired.mapP rh fun _ _ z => z.tk tk⟩ .nil)
          obtain ⟨p', ws', e1, e2, e3, e4⟩ := h
          exact ⟨p', ws', e1, e2, (upd_ne e2).trans (oh.lst e3), Paired.mapP e4 fun _ _ z => (z.tk oh.tk).tk tk⟩
        rintro HR ⟨usR, eDR, ruR, koR⟩
        have nDL : ∀ ss ∈ ((List.range rs.length).map fun k => onlyL rs (cutR rs k)), ∀ s ∈ ss, okW s.ws := fun ss hs s h => by
          obtain ⟨k', _, rfl⟩ := List.mem_map.mp hs
          exact allSay_ok s (mem_allSay (lfol_few few ((pickS_mem (fun s hs => mem_allSay (lfol_few few hs.1))).mp h).1))
        have sh := shape_lists nDL
        have ruL2 : Paired (fun v ss => ∃ p ws, v = V.ref p ∧ p ≠ DL ∧ HR p = some (.lst ws) ∧ Paired (SayAt K HR) ws ss) usL ((List.range rs.length).map fun k => onlyL rs (cutR rs k)) := Paired.mapP ruL fun v ss h => by
          obtain ⟨p', ws', e1, e2, e3, e4⟩ := h
          exact ⟨p', ws', e1, e2, koR.lst e3, Paired.mapP e4 fun _ _ z => z.tk koR.tk⟩
        refine ⟨_, _, .lst (.inl (.of (koR.lst eDL))) (dp_lists ruL2), .lst (.inl (.of eDR)) (dp_lists ruR), sh, sh, ?_⟩
        rw [eqv_self sh]
        exact k _
    · rw [decide_eq_false hx]
      refine rT rfl ?_
      refine ⟨fun σ' H' => ∃ m', m' < xs.length ∧ ∃ xs ys : List Nat, (∃ v5 v6 v7 v8 v9 v10, σ' = [some (.ref a), some (.ref p), some (.ref q), some (.ref pl), some (.ref pp), v5, v6, v7, v8, v9, v10]) ∧ WS K T P1 P2 p a ns q rs H' ∧ H' pl = some (.lst (intsL xs)) ∧ H' pp = some (.lst (intsL ys)) ∧ (ys ++ xs).Nodup ∧ (∀ k, k ∈ ys ++ xs ↔ k < rs.length) ∧ m' = xs.length, fun σ' H' h => h, ?_⟩
      have lx : 0 < xs.length := List.length_pos_iff.mpr hx
      have lxn : xs.length ≤ rs.length := by
        have h1 := (List.nodup_append.mp nd).2.1
        have := h1.length_le_of_subset (l₂ := List.range rs.length) fun k hk => List.mem_range.mpr ((mm k).mp (List.mem_append_right _ hk))
        rw [List.length_range] at this
        exact this
      have lyn : ys.length ≤ rs.length := by
        have h1 := (List.nodup_append.mp nd).1
        have := h1.length_le_of_subset (l₂ := List.range rs.length) fun k hk => List.mem_range.mpr ((mm k).mp (List.mem_append_left _ hk))
        rw [List.length_range] at this
        exact this
      have lI : (intsL xs).length = xs.length := List.length_map ..
      refine ⟨_, rfl, .inl ⟨rfl, intsL ys, .inl (.of ep0)⟩, ?_⟩
      refine ⟨_, rfl, .inl ⟨rfl, intsL xs, .inl (.of el0)⟩, ?_⟩
      refine ⟨_, rfl, _, rfl, pl, intsL xs, rfl, .inl (.inl (.of el0)), p, a, ns, _, rfl, ws0.S, by rw [lI]; omega, by rw [lI]; omega, fun j H3 hj0 hj1 S3 k3 => ?_⟩
      have ws3 := ws0.draw k3 S3
      have el3 := k3 _ _ el0 (by simpa using plp)
      have ep3 := k3 _ _ ep0 (by simpa using ppp)
      have hjn : j.toNat < xs.length := by rw [lI] at hj1; omega
      obtain ⟨x, ex⟩ : ∃ x, xs[j.toNat]? = some x := ⟨_, List.getElem?_eq_getElem hjn⟩
      have exv : (intsL xs)[j.toNat]? = some (V.int (x : Nat)) := by
        unfold intsL
        rw [List.getElem?_map, ex]
        rfl
      refine ⟨pl, intsL xs, j, j.toNat, _, rfl, rfl, el3, by omega, by omega, ?_, exv, ?_⟩
      · unfold seqIndex?
        have h0 : ¬ j < 0 := by omega
        simp only [if_neg h0]
        rw [if_pos (by simp; exact ⟨hj0, hj1⟩)]
      have ee : (intsL xs).eraseIdx j.toNat = intsL (xs.eraseIdx j.toNat) := by
        unfold intsL
        rw [erase_map]
      rw [ee]
      have kp1 : Kept [pl] H3 (L2.upd H3 pl (.lst (intsL (xs.eraseIdx j.toNat)))) := fun b o e hb => (upd_ne (by simpa using hb)).trans e
      have ws4 := ws3.keptM kp1 (fun b hb => by rw [List.mem_singleton.mp hb]; exact ⟨_, el3⟩) (stAt_far plp (sqa.imp (fun h => h.1) id) ws3.S)
      have ep4 : (L2.upd H3 pl (.lst (intsL (xs.eraseIdx j.toNat)))) pp = some (.lst (intsL ys)) := (upd_ne (Ne.symm plpp)).trans ep3
      refine ⟨pp, intsL ys, _, rfl, rfl, ep4, ?_, ?_⟩
      · unfold intsL
        rw [List.length_map]
        exact Nat.lt_of_le_of_lt (show ys.length ≤ 10 by omega) (by decide)
      have e5 : intsL ys ++ [V.int (x : Nat)] = intsL (ys ++ [x]) := by
        unfold intsL
        rw [List.map_append]
        rfl
      rw [e5]
      have kp2 : Kept [pp] (L2.upd H3 pl (.lst (intsL (xs.eraseIdx j.toNat)))) (L2.upd (L2.upd H3 pl (.lst (intsL (xs.eraseIdx j.toNat)))) pp (.lst (intsL (ys ++ [x])))) := fun b o e hb => (upd_ne (by simpa using hb)).trans e
      have ws5 := ws4.keptM kp2 (fun b hb => by rw [List.mem_singleton.mp hb]; exact ⟨_, ep4⟩) (stAt_far ppp (sqa.imp (fun h => h.2) id) ws4.S)
      have pm : ((ys ++ [x]) ++ xs.eraseIdx j.toNat).Perm (ys ++ xs) := by
        rw [List.append_assoc]
        refine List.Perm.append_left ys ?_
        exact erase_perm xs j.toNat x ex
      refine ⟨(xs.eraseIdx j.toNat).length, by rw [List.length_eraseIdx, if_pos hjn]; omega, _, _, ⟨_, _, _, _, _, _, rfl⟩, ws5, (upd_ne plpp).trans upd_same, upd_same, pm.nodup_iff.mpr nd, fun k => (pm.mem_iff).trans (mm k), rfl⟩
end
end Ah
end
section
set_option Elab.async false
set_option linter.all false
set_option maxRecDepth 100000
set_option maxHeartbeats 2000000
/-! the head's run in two halves, so that each takes less of the kernel's memory -/
namespace Ah
open PySem PySem.W PySem.Calls PyProof.Rows HandSHeadRun
theorem map_pair {α β γ δ : Type} {x : Option α} {f : α → β} {g : α → γ} {h : α → δ} {b : β} {c : γ} {d : δ} (h1 : x.map (fun s => (f s, g s)) = some (b, c)) (h2 : x.map h = some d) : x.map (fun s => (f s, g s, h s)) = some (b, c, d) := by
  cases x with
  | none => cases h1
  | some s =>
    have e1 : (f s, g s) = (b, c) := Option.some.inj h1
    have e2 : h s = d := Option.some.inj h2
    have e3 := Prod.mk.inj e1
    show some (f s, g s, h s) = some (b, c, d)
    rw [e3.1, e3.2, e2]
/-- what the library looks at -/
def RunA (r : OpenRow) (q : Program) (M : Nat) (loose : List PySem.Str) (w : World) : Prop :=
  ∀ os : OsState, (endF (stepQ (denQ tabQ) r.prog w) M r.prog w os).map (fun s => (looksF r.prog (boot_heap w.params) s.abs, seenQ q loose (importedModules r.prog.main.body) (fun s => xlAt q [] s && recOk r.toRowW.records s) s.abs)) = some (true, openGood q loose)
/-- what our own hook looks at -/
def RunC (r : OpenRow) {α : Type} (ob : SharedT → α) (val : α) (M : Nat) (w : World) : Prop :=
  ∀ os : OsState, (endF (stepQ (denQ tabQ) r.prog w) M r.prog w os).map ob = some val
theorem run_of {r : OpenRow} {q : Program} {H : Hook} {ob : SharedT → H.α} {M : Nat} {loose : List PySem.Str} {w : World} (a : RunA r q M loose w) (c : RunC r ob (H.val w) M w) : RunEq r q H ob M loose w := fun os => map_pair (a os) (c os)
end Ah
end
section
set_option Elab.async false
set_option linter.all false
set_option maxRecDepth 100000
set_option maxHeartbeats 0
namespace Ah
open PySem PySem.Spec PyProof.Rows L2
/-! ### the head -/
def dF (x : Str) (st : Stmt) : He.DefD := ⟨(x, none), x, x, defArgs st, defBody st, defScope st, [], []⟩
def dM (c x q : Str) (st : Stmt) : He.DefD := ⟨(c, some x), x, q, defArgs st, defBody st, defScope st, [], []⟩
def fn0 : List He.DefD := [dF "places_of" sPlaces, dF "leads_from_kind" sLKind, dF "leads_on" sLOn, dF "leads_from_tie" sLTie, dF "leads_by" sLBy, dM "Rules" "__init__" "Rules.__init__" sRInit, dM "Rules" "leads" "Rules.leads" sRLeads, dM "Rules" "worked_out" "Rules.worked_out" sRWork, dF "all_results" sAll, dF "size_of" sSizeOf, dM "Search" "__init__" "Search.__init__" sSearchInit, dM "Search" "run" "Search.run" sSearchRun, dM "Search" "run_level" "Search.run_level" sSearchRunLevel, dM "Search" "has_part" "Search.has_part" sSearchHasPart, dM "Search" "put" "Search.put" sSearchPut, dM "Search" "take" "Search.take" sSearchTake, dM "Search" "join_second" "Search.join_second" sSearchJoinSecond, dM "Search" "join_first" "Search.join_first" sSearchJoinFirst, dM "Search" "masks" "Search.masks" sSearchMasks, dF "masks_of" sMasksOf]
def fn1 : List He.DefD := [dF "lots_of_mask" sLotsOfMask, dF "as_lots" sAsLots, dF "is_word" sIsWord, dF "is_row" sIsRow, dF "is_saying" sIsSaying, dF "is_number" sIsNumber, dF "check_text" sCheck, dF "check_saying" sCheckSaying, dF "check_number" sCheckNumber, dF "told_of" sToldOf, dF "names_of" sNamesOf, dF "follows" sFollows, dF "bearers" sBearers, dF "clashes" sClashes, dF "lots_of" sLotsOf, dF "trusted" sTrusted, dF "needless" sNeedless, dF "results_of" sResultsOf, dF "left" sLeft, dF "hanging" sHanging]
def fn2 : List He.DefD := [dF "parted" sParted, dF "only_first" sOnlyFirst, dF "_law_row" lRow, dF "_law_taken" lTaken, dF "_law_one" lOne, dF "_law_text" lText, dF "law" lLaw]
def fn : List He.DefD := fn0 ++ fn1 ++ fn2
def fa0 : List He.Fa := [.glo "places_of", .glo "leads_from_kind", .glo "leads_on", .glo "leads_from_tie", .glo "leads_by", .glo "all_results", .glo "size_of", .glo "masks_of", .glo "lots_of_mask", .glo "as_lots", .glo "is_word", .glo "is_row", .glo "is_saying", .glo "is_number", .glo "check_text", .glo "check_saying", .glo "check_number", .glo "told_of", .glo "names_of", .glo "follows", .glo "bearers", .glo "clashes", .glo "lots_of", .glo "trusted", .glo "needless"]
def fa1 : List He.Fa := [.glo "results_of", .glo "left", .glo "hanging", .glo "parted", .glo "only_first", .glo "_law_row", .glo "_law_taken", .glo "_law_one", .glo "_law_text", .glo "law", .free "isinstance", .free "len", .free "tuple", .free "list", .free "str", .free "bool", .free "range", .free "enumerate", .free "sorted", .free "zip", .free "dict", .free "all", .free "int", .glo "FORMS", .glo "BARRED"]
def fa2 : List He.Fa := [.glo "CLASH", .glo "Rules", .glo "Search", .int "LONGEST_WORD" 6, .int "MOST_ROWS" 24, .str "LETTERS" letters, .cls "Rules", .noat "Rules" "rows", .noat "Rules" "names", .noat "Rules" "known", .meth "Rules" "leads", .meth "Rules" "worked_out", .mkr "Rules", .cls "Search", .noat "Search" "rules", .noat "Search" "found", .noat "Search" "levels", .meth "Search" "has_part", .meth "Search" "put", .meth "Search" "take", .meth "Search" "join_second", .meth "Search" "join_first", .meth "Search" "run_level", .meth "Search" "run", .meth "Search" "masks"]
def fa3 : List He.Fa := [.mkr "Search"]
def fa : List He.Fa := fa0 ++ fa1 ++ fa2 ++ fa3
abbrev R : PySem.W.OpenRow := PySem.W.OpenLaw.row PySem.Challenge.rw_answerhouse_k22_whole_in_any_order
def ts : List He.Tab := [(fun K => He.ga K "FORMS", formsL.map (·.1))]
def tf : List He.Defn := [("is_word", none), ("is_row", none), ("as_lots", none), ("law", none)]
def tupK (K : PySem.W.Frag) (a : Addr) (ws : List Str) : Bool := match K.lookup a with
  | some ⟨.type c, _, .seq its _, _⟩ => decide (c = "tuple") && (decide (its.size ≤ 1000) && He.relAll (ws.map V.str) its.toList)
  | _ => false
def formsB (K : PySem.W.Frag) : Bool := formsL.all fun q => match PySem.W.nsIn K (He.ga K "FORMS") q.1 with
  | some (some (.ref a)) => tupK K a q.2
  | _ => false
def neT (a b : Addr) : Bool := !decide (a = b)
def tabsB (K : PySem.W.Frag) : Bool := neT (He.cT K ("as_lots", none)).2 (He.cT K ("is_word", none)).2 && (neT (He.cT K ("as_lots", none)).2 (He.cT K ("is_row", none)).2 && (neT (He.cT K ("law", none)).2 (He.cT K ("is_word", none)).2 && (neT (He.cT K ("law", none)).2 (He.cT K ("is_row", none)).2 && neT (He.cT K ("as_lots", none)).2 (He.cT K ("law", none)).2)))
def exB (K : PySem.W.Frag) : Bool := formsB K && (tupK K (He.ga K "BARRED") barred && (tupK K (He.ga K "CLASH") (Say.clash).ws && tabsB K))
abbrev hk : PySem.W.Hook := He.hookX 5 fa fn ts tf exB
def ob (s : PySem.W.SharedT) : He.AlX := He.obsX 5 fa fn ts tf exB (HandSHeadRun.getT s)
theorem ob_eq (s : PySem.W.SharedT) : ob s = hk.obs s.abs := He.obsX_eq (HandSHeadRun.getT_eq s)
def loose0 : List Str := ["_wall", "CLASH", "places_of", "leads_from_kind", "leads_on", "leads_from_tie", "leads_by", "Rules", "all_results", "size_of", "Search", "masks_of", "lots_of_mask", "as_lots", "AnswerError", "BadRow", "BadSaying", "NoRow", "MOST_ROWS", "LONGEST_WORD", "LETTERS", "BARRED", "FORMS", "is_word", "is_row", "is_saying", "is_number", "check_text", "check_saying", "check_number"]
def loose1 : List Str := ["told_of", "names_of", "follows", "bearers", "clashes", "lots_of", "trusted", "needless", "results_of", "left", "hanging", "parted", "only_first", "_law_row", "_law_taken", "_law_one", "_law_text"]
def loose : List Str := loose0 ++ loose1
theorem runA0 (w : World) : RunA R (PySem.W.view R.prog [54]) 7000 loose (w.withFollow "special-get-raises" false) := by
  intro os
  kernel_rfl
theorem runA1 (w : World) : RunA R (PySem.W.view R.prog [54]) 7000 loose (w.withFollow "special-get-raises" true) := by
  intro os
  kernel_rfl
theorem runC0 (w : World) : RunC R ob (hk.val (w.withFollow "special-get-raises" false)) 7000 (w.withFollow "special-get-raises" false) := by
  intro os
  kernel_rfl
theorem runC1 (w : World) : RunC R ob (hk.val (w.withFollow "special-get-raises" true)) 7000 (w.withFollow "special-get-raises" true) := by
  intro os
  kernel_rfl
theorem run2 (b : Bool) (w : World) : HandSHeadRun.RunEq R (PySem.W.view R.prog [54]) hk ob 7000 loose (w.withFollow "special-get-raises" b) := by
  cases b
  · exact run_of (runA0 w) (runC0 w)
  · exact run_of (runA1 w) (runC1 w)
theorem run (w : World) : HandSHeadRun.RunEq R (PySem.W.view R.prog [54]) hk ob 7000 loose w := by
  have h := run2 (w.params.followText "special-get-raises") w
  rwa [World.withFollow_self] at h
end Ah
end
section
set_option Elab.async false
set_option linter.all false
set_option maxRecDepth 100000
set_option maxHeartbeats 4000000
namespace Ah
open PySem PySem.Spec PyProof.Rows L2
open GxR (TabB TabG Tabbed)
/-! ### what the head tells, for the defs -/
theorem tupK_ok {K : PySem.W.Frag} {a : Addr} {ws : List Str} (h : tupK K a ws = true) (H : Hp) : SqT K H a (ws.map V.str) := by
  unfold tupK at h
  cases q : K.lookup a with
  | none =>
    rw [q] at h
    cases h
  | some o =>
    obtain ⟨oc, od, dt, osl⟩ := o
    rw [q] at h
    cases oc with
    | type c =>
      cases dt with
      | seq its n =>
        obtain ⟨h1, h2⟩ := He.ba h
        obtain ⟨h3, h4⟩ := He.ba h2
        have e : c = "tuple" := of_decide_eq_true h1
        have l : its.size ≤ 1000 := of_decide_eq_true h3
        exact .inr ⟨_, its, n, q, by rw [e], rfl, Nat.le_trans l (by decide), He.relAll_ok h4⟩
      | _ => cases h
    | _ => cases dt <;> cases h
theorem out_of {K : PySem.W.Frag} {P : Params} {a : Addr} {ks : List Str} (h : He.dicW K a = some (He.keysIn P ks)) {z : Str} (hz : z ∉ ks) : PySem.W.nsIn K a z = some none := by
  unfold He.dicW at h
  cases q : K.lookup a with
  | none =>
    rw [q] at h
    cases h
  | some o =>
    obtain ⟨oc, od, dt, osl⟩ := o
    rw [q] at h
    cases oc with
    | type c =>
      cases od with
      | none =>
        cases dt with
        | dict es n =>
          have h1 : (match decide (c = "dict") && (osl.isEmpty && !(a == sysModules)) with
            | true => some (es.toList.map He.keyOf)
            | false => none) = some (He.keysIn P ks) := h
          have h2 : es.toList.map He.keyOf = He.keysIn P ks := by
            cases y : decide (c = "dict") && (osl.isEmpty && !(a == sysModules)) with
            | false =>
              rw [y] at h1
              cases h1
            | true =>
              rw [y] at h1
              exact Option.some.inj h1
          have key : ∀ e ∈ es.toList, e.key.isStr z = false ∧ e.refKey = false := by
            intro e he
            have m : He.keyOf e ∈ He.keysIn P ks := by
              rw [← h2]
              exact List.mem_map_of_mem he
            obtain ⟨k, hk, ek⟩ := List.mem_map.mp m
            unfold He.keyOf at ek
            cases qk : e.key with
            | str x t =>
              rw [qk] at ek
              have ex : k = x := (Prod.mk.inj (Option.some.inj ek)).1
              refine ⟨?_, ?_⟩
              · rw [PySem.W.isStr_of]
                unfold Value.isStrOf
                cases y : (x == z) with
                | false => simpa using y
                | true =>
                  rw [ex, beq_iff_eq.mp y] at hk
                  exact absurd hk hz
              · unfold DictEntry.refKey
                rw [qk]
            | _ =>
              rw [qk] at ek
              cases ek
          unfold PySem.W.nsIn
          rw [q]
          show (match es.toList.find? (·.key.isStr z) with | some e => some (some e.val) | none => if es.toList.any (·.refKey) then none else some none) = some none
          rw [List.find?_eq_none.mpr fun e he => by rw [(key e he).1]; decide]
          show (if es.toList.any (·.refKey) then none else some none) = some none
          rw [if_neg]
          intro y
          obtain ⟨e, he, hr⟩ := List.any_eq_true.mp y
          rw [(key e he).2] at hr
          cases hr
        | _ => cases h
      | some d => cases dt <;> cases h
    | _ => cases od <;> cases dt <;> cases h
theorem lookup_none {β : Type} {z : Str} : ∀ {l : List (Str × β)}, l.lookup z = none → z ∉ l.map (·.1)
  | [], _ => by simp
  | (k, v) :: r, h => by
    have h2 : (match z == k with | true => some v | false => r.lookup z) = none := h
    cases q : (z == k) with
    | true =>
      rw [q] at h2
      cases h2
    | false =>
      rw [q] at h2
      have ne : z ≠ k := fun e => by rw [e, beq_self_eq_true] at q; cases q
      intro m
      rcases List.mem_cons.mp (show z ∈ k :: r.map (·.1) from m) with e | e
      · exact ne e
      · exact lookup_none h2 e
theorem lookup_in {β : Type} {z : Str} {b : β} : ∀ {l : List (Str × β)}, l.lookup z = some b → (z, b) ∈ l
  | [], h => by cases h
  | (k, v) :: r, h => by
    have h2 : (match z == k with | true => some v | false => r.lookup z) = some b := h
    cases q : (z == k) with
    | true =>
      rw [q] at h2
      rw [beq_iff_eq.mp q, Option.some.inj h2]
      exact List.mem_cons_self
    | false =>
      rw [q] at h2
      exact List.mem_cons_of_mem _ (lookup_in h2)
end Ah
end
section
set_option Elab.async false
set_option linter.all false
set_option maxRecDepth 100000
set_option maxHeartbeats 4000000
namespace Ah
open PySem PySem.Spec PyProof.Rows L2
open GxR (TabB TabG Tabbed)
theorem forms_ok {K : PySem.W.Frag} (h : formsB K = true) {z : Str} {ps : List Str} (e : formsL.lookup z = some ps) : ∃ a, PySem.W.nsIn K (He.ga K "FORMS") z = some (some (.ref a)) ∧ ∀ H, SqT K H a (ps.map V.str) := by
  have m := lookup_in e
  have h2 := List.all_eq_true.mp h _ m
  have h3 : (match PySem.W.nsIn K (He.ga K "FORMS") z with
    | some (some (.ref a)) => tupK K a ps
    | _ => false) = true := h2
  cases q : PySem.W.nsIn K (He.ga K "FORMS") z with
  | none =>
    rw [q] at h3
    cases h3
  | some r =>
    rw [q] at h3
    cases r with
    | none => cases h3
    | some u =>
      cases u with
      | ref a => exact ⟨a, rfl, tupK_ok h3⟩
      | _ => cases h3
theorem mapK_len {α β : Type} {f : α → β} {l : List α} {m : List β} (h : l.map f = m) (i : Nat) {a : α} (ha : l[i]? = some a) : m[i]? = some (f a) := by
  rw [← h, List.getElem?_map, ha] <;> rfl
theorem facts {w : World} {K : PySem.W.Frag} {h : Heap} {mg : Str → Option Value} {f : Addr} (X : K.In h) (G : h.Ns mainGlobals mg) (hfa : mg ("law" : Str) = some (.ref f)) (c : He.SaysX fa fn ts tf exB w h K) :
    LamX.LawAtS PySem.Challenge.rw_answerhouse_k22_whole_in_any_order w K CX0 13 63 "_law_script" mg f h := by
  have d := c.t.d
  obtain ⟨fd0, F0⟩ : ∃ fd, FnP K "places_of" sPlaces (He.ga K "places_of") fd := d.def_ 0 (d := dF "places_of" sPlaces) rfl
  obtain ⟨fd1, F1⟩ : ∃ fd, FnP K "leads_from_kind" sLKind (He.ga K "leads_from_kind") fd := d.def_ 1 (d := dF "leads_from_kind" sLKind) rfl
  obtain ⟨fd2, F2⟩ : ∃ fd, FnP K "leads_on" sLOn (He.ga K "leads_on") fd := d.def_ 2 (d := dF "leads_on" sLOn) rfl
  obtain ⟨fd3, F3⟩ : ∃ fd, FnP K "leads_from_tie" sLTie (He.ga K "leads_from_tie") fd := d.def_ 3 (d := dF "leads_from_tie" sLTie) rfl
  obtain ⟨fd4, F4⟩ : ∃ fd, FnP K "leads_by" sLBy (He.ga K "leads_by") fd := d.def_ 4 (d := dF "leads_by" sLBy) rfl
  obtain ⟨fd5, F5⟩ : ∃ fd, MethP K "__init__" "Rules.__init__" sRInit (He.ma K (He.ga K "Rules") "__init__") fd := d.def_ 5 (d := dM "Rules" "__init__" "Rules.__init__" sRInit) rfl
  obtain ⟨fd6, F6⟩ : ∃ fd, MethP K "leads" "Rules.leads" sRLeads (He.ma K (He.ga K "Rules") "leads") fd := d.def_ 6 (d := dM "Rules" "leads" "Rules.leads" sRLeads) rfl
  obtain ⟨fd7, F7⟩ : ∃ fd, MethP K "worked_out" "Rules.worked_out" sRWork (He.ma K (He.ga K "Rules") "worked_out") fd := d.def_ 7 (d := dM "Rules" "worked_out" "Rules.worked_out" sRWork) rfl
  obtain ⟨fd8, F8⟩ : ∃ fd, FnP K "all_results" sAll (He.ga K "all_results") fd := d.def_ 8 (d := dF "all_results" sAll) rfl
  obtain ⟨fd9, F9⟩ : ∃ fd, FnP K "size_of" sSizeOf (He.ga K "size_of") fd := d.def_ 9 (d := dF "size_of" sSizeOf) rfl
  obtain ⟨fd10, F10⟩ : ∃ fd, MethP K "__init__" "Search.__init__" sSearchInit (He.ma K (He.ga K "Search") "__init__") fd := d.def_ 10 (d := dM "Search" "__init__" "Search.__init__" sSearchInit) rfl
  obtain ⟨fd11, F11⟩ : ∃ fd, MethP K "run" "Search.run" sSearchRun (He.ma K (He.ga K "Search") "run") fd := d.def_ 11 (d := dM "Search" "run" "Search.run" sSearchRun) rfl
  obtain ⟨fd12, F12⟩ : ∃ fd, MethP K "run_level" "Search.run_level" sSearchRunLevel (He.ma K (He.ga K "Search") "run_level") fd := d.def_ 12 (d := dM "Search" "run_level" "Search.run_level" sSearchRunLevel) rfl
  obtain ⟨fd13, F13⟩ : ∃ fd, MethP K "has_part" "Search.has_part" sSearchHasPart (He.ma K (He.ga K "Search") "has_part") fd := d.def_ 13 (d := dM "Search" "has_part" "Search.has_part" sSearchHasPart) rfl
  obtain ⟨fd14, F14⟩ : ∃ fd, MethP K "put" "Search.put" sSearchPut (He.ma K (He.ga K "Search") "put") fd := d.def_ 14 (d := dM "Search" "put" "Search.put" sSearchPut) rfl
  obtain ⟨fd15, F15⟩ : ∃ fd, MethP K "take" "Search.take" sSearchTake (He.ma K (He.ga K "Search") "take") fd := d.def_ 15 (d := dM "Search" "take" "Search.take" sSearchTake) rfl
  obtain ⟨fd16, F16⟩ : ∃ fd, MethP K "join_second" "Search.join_second" sSearchJoinSecond (He.ma K (He.ga K "Search") "join_second") fd := d.def_ 16 (d := dM "Search" "join_second" "Search.join_second" sSearchJoinSecond) rfl
  obtain ⟨fd17, F17⟩ : ∃ fd, MethP K "join_first" "Search.join_first" sSearchJoinFirst (He.ma K (He.ga K "Search") "join_first") fd := d.def_ 17 (d := dM "Search" "join_first" "Search.join_first" sSearchJoinFirst) rfl
  obtain ⟨fd18, F18⟩ : ∃ fd, MethP K "masks" "Search.masks" sSearchMasks (He.ma K (He.ga K "Search") "masks") fd := d.def_ 18 (d := dM "Search" "masks" "Search.masks" sSearchMasks) rfl
  obtain ⟨fd19, F19⟩ : ∃ fd, FnP K "masks_of" sMasksOf (He.ga K "masks_of") fd := d.def_ 19 (d := dF "masks_of" sMasksOf) rfl
  obtain ⟨fd20, F20⟩ : ∃ fd, FnP K "lots_of_mask" sLotsOfMask (He.ga K "lots_of_mask") fd := d.def_ 20 (d := dF "lots_of_mask" sLotsOfMask) rfl
  obtain ⟨fd21, F21⟩ : ∃ fd, FnP K "as_lots" sAsLots (He.ga K "as_lots") fd := d.def_ 21 (d := dF "as_lots" sAsLots) rfl
  obtain ⟨fd22, F22⟩ : ∃ fd, FnP K "is_word" sIsWord (He.ga K "is_word") fd := d.def_ 22 (d := dF "is_word" sIsWord) rfl
  obtain ⟨fd23, F23⟩ : ∃ fd, FnP K "is_row" sIsRow (He.ga K "is_row") fd := d.def_ 23 (d := dF "is_row" sIsRow) rfl
  obtain ⟨fd24, F24⟩ : ∃ fd, FnP K "is_saying" sIsSaying (He.ga K "is_saying") fd := d.def_ 24 (d := dF "is_saying" sIsSaying) rfl
  obtain ⟨fd25, F25⟩ : ∃ fd, FnP K "is_number" sIsNumber (He.ga K "is_number") fd := d.def_ 25 (d := dF "is_number" sIsNumber) rfl
  obtain ⟨fd26, F26⟩ : ∃ fd, FnP K "check_text" sCheck (He.ga K "check_text") fd := d.def_ 26 (d := dF "check_text" sCheck) rfl
  obtain ⟨fd27, F27⟩ : ∃ fd, FnP K "check_saying" sCheckSaying (He.ga K "check_saying") fd := d.def_ 27 (d := dF "check_saying" sCheckSaying) rfl
  obtain ⟨fd28, F28⟩ : ∃ fd, FnP K "check_number" sCheckNumber (He.ga K "check_number") fd := d.def_ 28 (d := dF "check_number" sCheckNumber) rfl
  obtain ⟨fd29, F29⟩ : ∃ fd, FnP K "told_of" sToldOf (He.ga K "told_of") fd := d.def_ 29 (d := dF "told_of" sToldOf) rfl
  obtain ⟨fd30, F30⟩ : ∃ fd, FnP K "names_of" sNamesOf (He.ga K "names_of") fd := d.def_ 30 (d := dF "names_of" sNamesOf) rfl
  obtain ⟨fd31, F31⟩ : ∃ fd, FnP K "follows" sFollows (He.ga K "follows") fd := d.def_ 31 (d := dF "follows" sFollows) rfl
  obtain ⟨fd32, F32⟩ : ∃ fd, FnP K "bearers" sBearers (He.ga K "bearers") fd := d.def_ 32 (d := dF "bearers" sBearers) rfl
  obtain ⟨fd33, F33⟩ : ∃ fd, FnP K "clashes" sClashes (He.ga K "clashes") fd := d.def_ 33 (d := dF "clashes" sClashes) rfl
  obtain ⟨fd34, F34⟩ : ∃ fd, FnP K "lots_of" sLotsOf (He.ga K "lots_of") fd := d.def_ 34 (d := dF "lots_of" sLotsOf) rfl
  obtain ⟨fd35, F35⟩ : ∃ fd, FnP K "trusted" sTrusted (He.ga K "trusted") fd := d.def_ 35 (d := dF "trusted" sTrusted) rfl
  obtain ⟨fd36, F36⟩ : ∃ fd, FnP K "needless" sNeedless (He.ga K "needless") fd := d.def_ 36 (d := dF "needless" sNeedless) rfl
  obtain ⟨fd37, F37⟩ : ∃ fd, FnP K "results_of" sResultsOf (He.ga K "results_of") fd := d.def_ 37 (d := dF "results_of" sResultsOf) rfl
  obtain ⟨fd38, F38⟩ : ∃ fd, FnP K "left" sLeft (He.ga K "left") fd := d.def_ 38 (d := dF "left" sLeft) rfl
  obtain ⟨fd39, F39⟩ : ∃ fd, FnP K "hanging" sHanging (He.ga K "hanging") fd := d.def_ 39 (d := dF "hanging" sHanging) rfl
  obtain ⟨fd40, F40⟩ : ∃ fd, FnP K "parted" sParted (He.ga K "parted") fd := d.def_ 40 (d := dF "parted" sParted) rfl
  obtain ⟨fd41, F41⟩ : ∃ fd, FnP K "only_first" sOnlyFirst (He.ga K "only_first") fd := d.def_ 41 (d := dF "only_first" sOnlyFirst) rfl
  obtain ⟨fd42, F42⟩ : ∃ fd, FnP K "_law_row" lRow (He.ga K "_law_row") fd := d.def_ 42 (d := dF "_law_row" lRow) rfl
  obtain ⟨fd43, F43⟩ : ∃ fd, FnP K "_law_taken" lTaken (He.ga K "_law_taken") fd := d.def_ 43 (d := dF "_law_taken" lTaken) rfl
  obtain ⟨fd44, F44⟩ : ∃ fd, FnP K "_law_one" lOne (He.ga K "_law_one") fd := d.def_ 44 (d := dF "_law_one" lOne) rfl
  obtain ⟨fd45, F45⟩ : ∃ fd, FnP K "_law_text" lText (He.ga K "_law_text") fd := d.def_ 45 (d := dF "_law_text" lText) rfl
  obtain ⟨fd46, F46⟩ : ∃ fd, FnP K "law" lLaw (He.ga K "law") fd := d.def_ 46 (d := dF "law" lLaw) rfl
  have e := hfa.symm.trans (He.glo_ok X G (d.fact 34 (f := .glo "law") rfl))
  cases e
  have gl : ∀ (i : Nat) (x : Str), fa[i]? = some (.glo x) → mg x = some (.ref (He.ga K x)) := fun i x q => He.glo_ok X G (d.fact i q)
  have fr : ∀ (i : Nat) (x : Str), fa[i]? = some (.free x) → mg x = none := fun i x q => He.free_ok X G (d.fact i q)
  have z_isinstance := fr 35 "isinstance" rfl
  have z_len := fr 36 "len" rfl
  have z_tuple := fr 37 "tuple" rfl
  have z_list := fr 38 "list" rfl
  have z_str := fr 39 "str" rfl
  have z_bool := fr 40 "bool" rfl
  have z_range := fr 41 "range" rfl
  have z_enumerate := fr 42 "enumerate" rfl
  have z_sorted := fr 43 "sorted" rfl
  have z_zip := fr 44 "zip" rfl
  have z_dict := fr 45 "dict" rfl
  have z_all := fr 46 "all" rfl
  have z_int := fr 47 "int" rfl
  have g_FORMS := gl 48 "FORMS" rfl
  have g_BARRED := gl 49 "BARRED" rfl
  have g_CLASH := gl 50 "CLASH" rfl
  have g_Rules := gl 51 "Rules" rfl
  have g_Search := gl 52 "Search" rfl
  obtain ⟨hex, hex2⟩ := He.ba (show (formsB K && (tupK K (He.ga K "BARRED") barred && (tupK K (He.ga K "CLASH") (Say.clash).ws && tabsB K))) = true from c.more)
  obtain ⟨hbar, hcl0⟩ := He.ba hex2
  obtain ⟨hcl, htb⟩ := He.ba hcl0
  obtain ⟨n1, htb⟩ := He.ba htb
  obtain ⟨n2, htb⟩ := He.ba htb
  obtain ⟨n3, htb⟩ := He.ba htb
  obtain ⟨n4, n5⟩ := He.ba htb
  have neq : ∀ {a b : Addr}, neT a b = true → a ≠ b := fun {a b} h z => by
    unfold neT at h
    rw [decide_eq_true z] at h
    cases h
  have B : Bl mg := ⟨z_isinstance, z_len, z_tuple, z_list, z_str, z_bool, z_range, z_enumerate, z_sorted, z_zip, z_dict, z_all⟩
  have W : TW K mg := ⟨z_isinstance, z_len, z_all, z_str, z_tuple, z_enumerate, He.int_ok X G (d.fact 53 (f := .int "LONGEST_WORD" 6) rfl), He.str_ok X G (d.fact 55 (f := .str "LETTERS" letters) rfl), He.ga K "BARRED", g_BARRED, tupK_ok hbar⟩
  have hdic : He.dicW K (He.ga K "FORMS") = some (He.keysIn w.params (formsL.map (·.1))) := by
    have e2 : ts.map (fun t => He.dicW K (t.1 K)) = ts.map fun t => some (He.keysIn w.params t.2) := congrArg (fun z : He.AlT => z.2) c.t
    have e3 := List.cons.inj (show He.dicW K (He.ga K "FORMS") :: _ = some (He.keysIn w.params (formsL.map (·.1))) :: _ from e2)
    exact e3.1
  have D : TF K w mg (He.ga K "FORMS") := ⟨g_FORMS, He.dicW_ok hdic, fun z ps hz => forms_ok hex hz, fun z hz => out_of hdic (lookup_none hz)⟩
  have C : TClash K mg (He.ga K "CLASH") := ⟨g_CLASH, tupK_ok hcl⟩
  have CR : ClsR K (He.ga K "Rules") := ⟨He.cls_ok (d.fact 56 (f := .cls "Rules") rfl), He.noat_ok (d.fact 57 (f := .noat "Rules" "rows") rfl), He.noat_ok (d.fact 58 (f := .noat "Rules" "names") rfl), He.noat_ok (d.fact 59 (f := .noat "Rules" "known") rfl)⟩
  have mL := He.meth_ok (d.fact 60 (f := .meth "Rules" "leads") rfl)
  have mW := He.meth_ok (d.fact 61 (f := .meth "Rules" "worked_out") rfl)
  have M := He.mkr_ok (d.fact 62 (f := .mkr "Rules") rfl)
  have hMost := He.int_ok X G (d.fact 54 (f := .int "MOST_ROWS" 24) rfl)
  have CS : ClsS K (He.ga K "Search") := ⟨He.cls_ok (d.fact 63 (f := .cls "Search") rfl), He.noat_ok (d.fact 64 (f := .noat "Search" "rules") rfl), He.noat_ok (d.fact 65 (f := .noat "Search" "found") rfl), He.noat_ok (d.fact 66 (f := .noat "Search" "levels") rfl)⟩
  have mHas := He.meth_ok (d.fact 67 (f := .meth "Search" "has_part") rfl)
  have mPut := He.meth_ok (d.fact 68 (f := .meth "Search" "put") rfl)
  have mTake := He.meth_ok (d.fact 69 (f := .meth "Search" "take") rfl)
  have mJ2 := He.meth_ok (d.fact 70 (f := .meth "Search" "join_second") rfl)
  have mJ1 := He.meth_ok (d.fact 71 (f := .meth "Search" "join_first") rfl)
  have mLevel := He.meth_ok (d.fact 72 (f := .meth "Search" "run_level") rfl)
  have mRun := He.meth_ok (d.fact 73 (f := .meth "Search" "run") rfl)
  have mMasks := He.meth_ok (d.fact 74 (f := .meth "Search" "masks") rfl)
  have MS := He.mkr_ok (d.fact 75 (f := .mkr "Search") rfl)
  have bLaw := FunD.bindsA (ps := ["_law_script"]) F46 fun _ _ _ _ _ _ us hl => match us, hl with | [_], _ => rfl
  have code : ∀ {p : He.Defn} {x q : Str} {st : Stmt} {fd : FuncData}, FunD K x q (defArgs st) (defBody st) (defScope st) [] [] (He.fAd K p) fd → fd.code = .ref (He.cT K p).1 := by
    intro p x q st fd F
    obtain ⟨oc, od, dV, kV, doc, pm, an, cdv, ct, osl, rfl, lk, hcd, _, _⟩ := F.ex
    obtain ⟨c0, e0⟩ := He.codeIn_ref hcd
    have e1 := He.codeOf_eq (p := p) lk (show (PySem.W.fnOf x q (defArgs st) (defBody st) (defScope st) dV kV doc pm an cdv ct).code = .ref c0 from e0)
    show cdv = .ref (He.codeOf K p)
    rw [e1, e0]
  refine ⟨fd46, tf.map (He.cT K), spLaw K [(He.cT K ("is_word", none)).2, (He.cT K ("is_row", none)).2] (He.cT K ("as_lots", none)).2 (He.cT K ("law", none)).2, fun p hp => ?_, fun p hp => ?_, fun p hp => ?_, fun s u => bLaw s [u] rfl, fun H a ns hl _ hT hS => ⟨a, ns, rfl, hS, hl, ⟨fun P hP => ?_, ?_⟩, ?_, fun _ => rfl⟩, fun base hK hN hTB => ?_⟩
  · obtain ⟨q, hq, rfl⟩ := List.mem_map.mp hp
    exact c.empty q hq
  · obtain ⟨q, hq, rfl⟩ := List.mem_map.mp hp
    exact c.out q hq
  · obtain ⟨q, hq, rfl⟩ := List.mem_map.mp hp
    exact PySem.W.codeHd_of_K X (c.hd q hq)
  · rcases List.mem_cons.mp hP with e | hP
    · exact ⟨#[], e ▸ (hT _ (List.mem_map_of_mem (f := He.cT K) (show (("is_word", none) : He.Defn) ∈ tf from (List.mem_cons_self)))), trivial⟩
    · exact ⟨#[], (List.mem_singleton.mp hP) ▸ (hT _ (List.mem_map_of_mem (f := He.cT K) (show (("is_row", none) : He.Defn) ∈ tf from (List.mem_cons_of_mem _ (List.mem_cons_self))))), trivial⟩
  · exact LamX.TabS.nil (hT _ (List.mem_map_of_mem (f := He.cT K) (show (("as_lots", none) : He.Defn) ∈ tf from (List.mem_cons_of_mem _ (List.mem_cons_of_mem _ (List.mem_cons_self))))))
  · exact LamX.TabS.nil (hT _ (List.mem_map_of_mem (f := He.cT K) (show (("law", none) : He.Defn) ∈ tf from (List.mem_cons_of_mem _ (List.mem_cons_of_mem _ (List.mem_cons_of_mem _ (List.mem_cons_self)))))))
  · have tb : ∀ q ∈ tf, TabB base mg (He.cT K q).1 (He.cT K q).2 := fun q hq => by
      have z := hTB _ (List.mem_map_of_mem (f := He.cT K) hq)
      exact ⟨z.code, z.bm, z.gP⟩
    have inT : ∀ q ∈ tf, (He.cT K q).2 ∈ (tf.map (He.cT K)).map (·.2) := fun q hq => List.mem_map_of_mem (List.mem_map_of_mem hq)
    have m0 : (("is_word", none) : He.Defn) ∈ tf := (List.mem_cons_self)
    have m1 : (("is_row", none) : He.Defn) ∈ tf := (List.mem_cons_of_mem _ (List.mem_cons_self))
    have m2 : (("as_lots", none) : He.Defn) ∈ tf := (List.mem_cons_of_mem _ (List.mem_cons_of_mem _ (List.mem_cons_self)))
    have m3 : (("law", none) : He.Defn) ∈ tf := (List.mem_cons_of_mem _ (List.mem_cons_of_mem _ (List.mem_cons_of_mem _ (List.mem_cons_self))))
    have tbL : ∀ q ∈ tf, LamX.TabB base mg (He.cT K q).1 (He.cT K q).2 := fun q hq => ⟨(tb q hq).code, (tb q hq).bm, (tb q hq).gP⟩
    have i9 : (He.cT K ("is_word", none)).2 ∈ [(He.cT K ("is_word", none)).2, (He.cT K ("is_row", none)).2] := List.mem_cons_self
    have i10 : (He.cT K ("is_row", none)).2 ∈ [(He.cT K ("is_word", none)).2, (He.cT K ("is_row", none)).2] := List.mem_cons_of_mem _ List.mem_cons_self
    have nPT : (He.cT K ("as_lots", none)).2 ∉ [(He.cT K ("is_word", none)).2, (He.cT K ("is_row", none)).2] := fun z => by
      rcases List.mem_cons.mp z with z | z
      · exact neq n1 z
      · exact neq n2 (List.mem_singleton.mp z)
    have nLT : (He.cT K ("law", none)).2 ∉ [(He.cT K ("is_word", none)).2, (He.cT K ("is_row", none)).2] := fun z => by
      rcases List.mem_cons.mp z with z | z
      · exact neq n3 z
      · exact neq n4 (List.mem_singleton.mp z)
    have nAL := neq n5
    generalize [(He.cT K ("is_word", none)).2, (He.cT K ("is_row", none)).2] = T at i9 i10 nPT nLT ⊢
    have c9 := code (p := ("is_word", none)) F22
    have c10 := code (p := ("is_row", none)) F23
    have cA := code (p := ("as_lots", none)) F21
    have cL := code (p := ("law", none)) F46
    have t9 := tb _ m0
    have t10 := tb _ m1
    have tA := tbL _ m2
    have tL := tbL _ m3
    have b_22 : Binds K fd22 ["word"] [] := F22.bindsN fun _ _ _ _ _ _ us hl => match us, hl with | [_], _ => rfl
    have o_is_word : Own (PySem.Challenge.rw_answerhouse_k22_whole_in_any_order).prog w K mg base "is_word" 3 _ fd22 ["word"] (spWord T) := ⟨ok_word F22 c9 t9 i9 W, gl 10 "is_word" rfl, F22.kp, b_22⟩
    have b_23 : Binds K fd23 ["row"] [] := F23.bindsN fun _ _ _ _ _ _ us hl => match us, hl with | [_], _ => rfl
    have o_is_row : Own (PySem.Challenge.rw_answerhouse_k22_whole_in_any_order).prog w K mg base "is_row" 5 _ fd23 ["row"] (spRow K T) := ⟨ok_row F23 c10 t10 i10 W D o_is_word.g o_is_word.ok o_is_word.kp o_is_word.b, gl 11 "is_row" rfl, F23.kp, b_23⟩
    have b_26 : Binds K fd26 ["rows"] [] := F26.bindsN fun _ _ _ _ _ _ us hl => match us, hl with | [_], _ => rfl
    have o_check : Own (PySem.Challenge.rw_answerhouse_k22_whole_in_any_order).prog w K mg base "check_text" 6 _ fd26 ["rows"] (spCheck0 K T) := ⟨ok_check F26 W hMost o_is_row.g o_is_row.ok o_is_row.kp o_is_row.b, gl 14 "check_text" rfl, F26.kp, b_26⟩
    have b_24 : Binds K fd24 ["row"] [] := F24.bindsN fun _ _ _ _ _ _ us hl => match us, hl with | [_], _ => rfl
    have o_issay : Own (PySem.Challenge.rw_answerhouse_k22_whole_in_any_order).prog w K mg base "is_saying" 6 _ fd24 ["row"] (spIsSay K T) := ⟨ok_issay F24 o_is_row, gl 12 "is_saying" rfl, F24.kp, b_24⟩
    have b_27 : Binds K fd27 ["saying"] [] := F27.bindsN fun _ _ _ _ _ _ us hl => match us, hl with | [_], _ => rfl
    have o_chsay : Own (PySem.Challenge.rw_answerhouse_k22_whole_in_any_order).prog w K mg base "check_saying" 7 _ fd27 ["saying"] (spChSay K T) := ⟨ok_chsay F27 o_issay, gl 15 "check_saying" rfl, F27.kp, b_27⟩
    have b_0 : Binds K fd0 ["rows"] [] := F0.bindsN fun _ _ _ _ _ _ us hl => match us, hl with | [_], _ => rfl
    have o_places : Own (PySem.Challenge.rw_answerhouse_k22_whole_in_any_order).prog w K mg base "places_of" 1 _ fd0 ["rows"] (spPlaces K (PySem.Challenge.rw_answerhouse_k22_whole_in_any_order).prog w) := ⟨ok_places F0 B, gl 0 "places_of" rfl, F0.kp, b_0⟩
    have b_2 : Binds K fd2 ["saying", "names"] [] := F2.bindsN fun _ _ _ _ _ _ us hl => match us, hl with | [_, _], _ => rfl
    have o_lon : Own (PySem.Challenge.rw_answerhouse_k22_whole_in_any_order).prog w K mg base "leads_on" 1 _ fd2 ["saying", "names"] (spOn K) := ⟨ok_lon F2, gl 2 "leads_on" rfl, F2.kp, b_2⟩
    have b_1 : Binds K fd1 ["row", "saying", "names"] [] := F1.bindsN fun _ _ _ _ _ _ us hl => match us, hl with | [_, _, _], _ => rfl
    have o_lkind : Own (PySem.Challenge.rw_answerhouse_k22_whole_in_any_order).prog w K mg base "leads_from_kind" 1 _ fd1 ["row", "saying", "names"] (spLK K) := ⟨ok_lkind F1 C, gl 1 "leads_from_kind" rfl, F1.kp, b_1⟩
    have b_3 : Binds K fd3 ["row", "saying", "names"] [] := F3.bindsN fun _ _ _ _ _ _ us hl => match us, hl with | [_, _, _], _ => rfl
    have o_ltie : Own (PySem.Challenge.rw_answerhouse_k22_whole_in_any_order).prog w K mg base "leads_from_tie" 2 _ fd3 ["row", "saying", "names"] (spLT K) := ⟨ok_ltie F3 C o_lon, gl 3 "leads_from_tie" rfl, F3.kp, b_3⟩
    have b_4 : Binds K fd4 ["row", "saying", "names"] [] := F4.bindsN fun _ _ _ _ _ _ us hl => match us, hl with | [_, _, _], _ => rfl
    have o_lby : Own (PySem.Challenge.rw_answerhouse_k22_whole_in_any_order).prog w K mg base "leads_by" 3 _ fd4 ["row", "saying", "names"] (spBy K) := ⟨ok_lby F4 o_lkind o_ltie, gl 4 "leads_by" rfl, F4.kp, b_4⟩
    have b_7 : Binds K fd7 ["self", "saying"] [] := F7.bindsN fun _ _ _ _ _ _ us hl => match us, hl with | [_, _], _ => rfl
    have k_work : FnOk (PySem.Challenge.rw_answerhouse_k22_whole_in_any_order).prog w K mg base CX0 4 _ fd7 ["self", "saying"] (spWork K (PySem.Challenge.rw_answerhouse_k22_whole_in_any_order).prog w) := ok_work F7 B o_lby
    have b_6 : Binds K fd6 ["self", "saying"] [] := F6.bindsN fun _ _ _ _ _ _ us hl => match us, hl with | [_, _], _ => rfl
    have k_leads : FnOk (PySem.Challenge.rw_answerhouse_k22_whole_in_any_order).prog w K mg base CX0 5 _ fd6 ["self", "saying"] (spLeads K (PySem.Challenge.rw_answerhouse_k22_whole_in_any_order).prog w (He.ga K "Rules")) := ok_leads F6 CR mW k_work b_7
    have b_5 : Binds K fd5 ["self", "rows", "names"] [] := F5.bindsN fun _ _ _ _ _ _ us hl => match us, hl with | [_, _, _], _ => rfl
    have k_init : FnOk (PySem.Challenge.rw_answerhouse_k22_whole_in_any_order).prog w K mg base CX0 2 _ fd5 ["self", "rows", "names"] (spInit K (PySem.Challenge.rw_answerhouse_k22_whole_in_any_order).prog w (He.ga K "Rules")) := ok_init F5 CR B o_places
    have b_29 : Binds K fd29 ["rows", "place"] [] := F29.bindsN fun _ _ _ _ _ _ us hl => match us, hl with | [_, _], _ => rfl
    have o_told : Own (PySem.Challenge.rw_answerhouse_k22_whole_in_any_order).prog w K mg base "told_of" 1 _ fd29 ["rows", "place"] (spTold K) := ⟨ok_told F29 D B, gl 17 "told_of" rfl, F29.kp, b_29⟩
    have b_30 : Binds K fd30 ["rows"] [] := F30.bindsN fun _ _ _ _ _ _ us hl => match us, hl with | [_], _ => rfl
    have o_names : Own (PySem.Challenge.rw_answerhouse_k22_whole_in_any_order).prog w K mg base "names_of" 2 _ fd30 ["rows"] (spNames K) := ⟨ok_names F30 o_told, gl 18 "names_of" rfl, F30.kp, b_30⟩
    have b_8 : Binds K fd8 ["rules"] [] := F8.bindsN fun _ _ _ _ _ _ us hl => match us, hl with | [_], _ => rfl
    have o_all : Own (PySem.Challenge.rw_answerhouse_k22_whole_in_any_order).prog w K mg base "all_results" 6 _ fd8 ["rules"] (spAll K (PySem.Challenge.rw_answerhouse_k22_whole_in_any_order).prog w (He.ga K "Rules")) := ⟨ok_all F8 CR mL k_leads b_6, gl 5 "all_results" rfl, F8.kp, b_8⟩
    have b_31 : Binds K fd31 ["rows"] [] := F31.bindsN fun _ _ _ _ _ _ us hl => match us, hl with | [_], _ => rfl
    have o_follows : Own (PySem.Challenge.rw_answerhouse_k22_whole_in_any_order).prog w K mg base "follows" 7 _ fd31 ["rows"] (spFollows K T) := ⟨ok_follows F31 B C CR M g_Rules k_init b_5 o_check o_all o_names, gl 19 "follows" rfl, F31.kp, b_31⟩
    have b_9 : Binds K fd9 ["mask"] [] := F9.bindsN fun _ _ _ _ _ _ us hl => match us, hl with | [_], _ => rfl
    have o_size : Own (PySem.Challenge.rw_answerhouse_k22_whole_in_any_order).prog w K mg base "size_of" 1 _ fd9 ["mask"] spSize := ⟨ok_size F9, gl 6 "size_of" rfl, F9.kp, b_9⟩
    have b_13 : Binds K fd13 ["self", "saying", "mask"] [] := F13.bindsN fun _ _ _ _ _ _ us hl => match us, hl with | [_, _, _], _ => rfl
    have k_has : FnOk (PySem.Challenge.rw_answerhouse_k22_whole_in_any_order).prog w K mg base CX0 1 _ fd13 ["self", "saying", "mask"] (spHas K (PySem.Challenge.rw_answerhouse_k22_whole_in_any_order).prog w (He.ga K "Search")) := ok_has F13 CS
    have b_14 : Binds K fd14 ["self", "saying", "mask", "last"] [] := F14.bindsN fun _ _ _ _ _ _ us hl => match us, hl with | [_, _, _, _], _ => rfl
    have k_put : FnOk (PySem.Challenge.rw_answerhouse_k22_whole_in_any_order).prog w K mg base CX0 2 _ fd14 ["self", "saying", "mask", "last"] (spPut K (PySem.Challenge.rw_answerhouse_k22_whole_in_any_order).prog w (He.ga K "Search")) := ok_put F14 CS mHas k_has b_13 o_size
    have b_16 : Binds K fd16 ["self", "number", "mask", "last", "second", "result"] [] := F16.bindsN fun _ _ _ _ _ _ us hl => match us, hl with | [_, _, _, _, _, _], _ => rfl
    have k_j2 : FnOk (PySem.Challenge.rw_answerhouse_k22_whole_in_any_order).prog w K mg base CX0 3 _ fd16 ["self", "number", "mask", "last", "second", "result"] (spJ2 K (PySem.Challenge.rw_answerhouse_k22_whole_in_any_order).prog w (He.ga K "Search")) := ok_j2 F16 CS mPut k_put b_14
    have b_17 : Binds K fd17 ["self", "number", "mask", "first", "result"] [] := F17.bindsN fun _ _ _ _ _ _ us hl => match us, hl with | [_, _, _, _, _], _ => rfl
    have k_j1 : FnOk (PySem.Challenge.rw_answerhouse_k22_whole_in_any_order).prog w K mg base CX0 3 _ fd17 ["self", "number", "mask", "first", "result"] (spJ1 K (PySem.Challenge.rw_answerhouse_k22_whole_in_any_order).prog w (He.ga K "Search")) := ok_j1 F17 CS mPut k_put b_14
    have b_15 : Binds K fd15 ["self", "saying", "mask", "last"] [] := F15.bindsN fun _ _ _ _ _ _ us hl => match us, hl with | [_, _, _, _], _ => rfl
    have k_take : FnOk (PySem.Challenge.rw_answerhouse_k22_whole_in_any_order).prog w K mg base CX0 6 _ fd15 ["self", "saying", "mask", "last"] (spTake K (PySem.Challenge.rw_answerhouse_k22_whole_in_any_order).prog w (He.ga K "Search") (He.ga K "Rules")) := ok_take F15 CS CR mPut k_put b_14 mL k_leads b_6 mJ2 k_j2 b_16 mJ1 k_j1 b_17
    have b_12 : Binds K fd12 ["self", "size"] [] := F12.bindsN fun _ _ _ _ _ _ us hl => match us, hl with | [_, _], _ => rfl
    have k_level : FnOk (PySem.Challenge.rw_answerhouse_k22_whole_in_any_order).prog w K mg base CX0 7 _ fd12 ["self", "size"] (spLevel K (PySem.Challenge.rw_answerhouse_k22_whole_in_any_order).prog w (He.ga K "Search") (He.ga K "Rules")) := ok_level F12 CS B mHas k_has b_13 mTake k_take b_15
    have b_11 : Binds K fd11 ["self"] [] := F11.bindsN fun _ _ _ _ _ _ us hl => match us, hl with | [_], _ => rfl
    have k_run : FnOk (PySem.Challenge.rw_answerhouse_k22_whole_in_any_order).prog w K mg base CX0 8 _ fd11 ["self"] (spRun K (PySem.Challenge.rw_answerhouse_k22_whole_in_any_order).prog w (He.ga K "Search") (He.ga K "Rules")) := ok_run F11 CS B mLevel k_level b_12
    have b_18 : Binds K fd18 ["self", "result"] [] := F18.bindsN fun _ _ _ _ _ _ us hl => match us, hl with | [_, _], _ => rfl
    have k_masks : FnOk (PySem.Challenge.rw_answerhouse_k22_whole_in_any_order).prog w K mg base CX0 1 _ fd18 ["self", "result"] (spMasks K (PySem.Challenge.rw_answerhouse_k22_whole_in_any_order).prog w (He.ga K "Search")) := ok_masks F18 CS B
    have b_10 : Binds K fd10 ["self", "rules", "told"] [] := F10.bindsN fun _ _ _ _ _ _ us hl => match us, hl with | [_, _, _], _ => rfl
    have k_sinit : FnOk (PySem.Challenge.rw_answerhouse_k22_whole_in_any_order).prog w K mg base CX0 3 _ fd10 ["self", "rules", "told"] (spSInit K (PySem.Challenge.rw_answerhouse_k22_whole_in_any_order).prog w (He.ga K "Search") (He.ga K "Rules")) := ok_sinit F10 CS CR B mPut k_put b_14
    have b_19 : Binds K fd19 ["rules", "told", "result"] [] := F19.bindsN fun _ _ _ _ _ _ us hl => match us, hl with | [_, _, _], _ => rfl
    have o_masksof : Own (PySem.Challenge.rw_answerhouse_k22_whole_in_any_order).prog w K mg base "masks_of" 9 _ fd19 ["rules", "told", "result"] (spMO K (PySem.Challenge.rw_answerhouse_k22_whole_in_any_order).prog w (He.ga K "Rules")) := ⟨ok_masksof F19 CS MS g_Search k_sinit b_10 mRun k_run b_11 mMasks k_masks b_18, gl 7 "masks_of" rfl, F19.kp, b_19⟩
    have b_20 : Binds K fd20 ["mask", "places"] [] := F20.bindsN fun _ _ _ _ _ _ us hl => match us, hl with | [_, _], _ => rfl
    have o_lotsofmask : Own (PySem.Challenge.rw_answerhouse_k22_whole_in_any_order).prog w K mg base "lots_of_mask" 1 _ fd20 ["mask", "places"] (spLM K) := ⟨ok_lotsofmask F20 B, gl 8 "lots_of_mask" rfl, F20.kp, b_20⟩
    have b_21 : Binds K fd21 ["masks", "rows"] [] := F21.bindsN fun _ _ _ _ _ _ us hl => match us, hl with | [_, _], _ => rfl
    have o_aslots : Own (PySem.Challenge.rw_answerhouse_k22_whole_in_any_order).prog w K mg base "as_lots" 2 _ fd21 ["masks", "rows"] (spAL K ((He.cT K ("as_lots", none)).2)) := ⟨ok_aslots F21 cA tA B o_lotsofmask o_places, gl 9 "as_lots" rfl, F21.kp, b_21⟩
    have b_34 : Binds K fd34 ["rows", "result"] [] := F34.bindsN fun _ _ _ _ _ _ us hl => match us, hl with | [_, _], _ => rfl
    have o_lotsof : Own (PySem.Challenge.rw_answerhouse_k22_whole_in_any_order).prog w K mg base "lots_of" 10 _ fd34 ["rows", "result"] (spLots K ((He.cT K ("as_lots", none)).2)) := ⟨ok_lotsof F34 M g_Rules k_init b_5 o_names o_masksof o_aslots, gl 22 "lots_of" rfl, F34.kp, b_34⟩
    have b_32 : Binds K fd32 ["rows", "saying"] [] := F32.bindsN fun _ _ _ _ _ _ us hl => match us, hl with | [_, _], _ => rfl
    have o_bear : Own (PySem.Challenge.rw_answerhouse_k22_whole_in_any_order).prog w K mg base "bearers" 11 _ fd32 ["rows", "saying"] (spBear K T ((He.cT K ("as_lots", none)).2)) := ⟨ok_bearers F32 nPT o_check o_chsay o_lotsof, gl 20 "bearers" rfl, F32.kp, b_32⟩
    have b_33 : Binds K fd33 ["rows"] [] := F33.bindsN fun _ _ _ _ _ _ us hl => match us, hl with | [_], _ => rfl
    have o_clashes : Own (PySem.Challenge.rw_answerhouse_k22_whole_in_any_order).prog w K mg base "clashes" 11 _ fd33 ["rows"] (spClashes K T ((He.cT K ("as_lots", none)).2)) := ⟨ok_clashes F33 C nPT o_check o_lotsof, gl 21 "clashes" rfl, F33.kp, b_33⟩
    have b_37 : Binds K fd37 ["rows"] [] := F37.bindsN fun _ _ _ _ _ _ us hl => match us, hl with | [_], _ => rfl
    have o_results : Own (PySem.Challenge.rw_answerhouse_k22_whole_in_any_order).prog w K mg base "results_of" 7 _ fd37 ["rows"] (spRes K (PySem.Challenge.rw_answerhouse_k22_whole_in_any_order).prog w) := ⟨ok_results F37 CR M g_Rules k_init b_5 o_all o_names, gl 25 "results_of" rfl, F37.kp, b_37⟩
    have b_38 : Binds K fd38 ["rows", "number"] [] := F38.bindsN fun _ _ _ _ _ _ us hl => match us, hl with | [_, _], _ => rfl
    have o_left : Own (PySem.Challenge.rw_answerhouse_k22_whole_in_any_order).prog w K mg base "left" 1 _ fd38 ["rows", "number"] spLeft := ⟨ok_left F38, gl 26 "left" rfl, F38.kp, b_38⟩
    have b_25 : Binds K fd25 ["number", "many"] [] := F25.bindsN fun _ _ _ _ _ _ us hl => match us, hl with | [_, _], _ => rfl
    have o_number : Own (PySem.Challenge.rw_answerhouse_k22_whole_in_any_order).prog w K mg base "is_number" 1 _ fd25 ["number", "many"] spNum := ⟨ok_number F25 B z_int, gl 13 "is_number" rfl, F25.kp, b_25⟩
    have b_28 : Binds K fd28 ["number", "many"] [] := F28.bindsN fun _ _ _ _ _ _ us hl => match us, hl with | [_, _], _ => rfl
    have o_chnum : Own (PySem.Challenge.rw_answerhouse_k22_whole_in_any_order).prog w K mg base "check_number" 2 _ fd28 ["number", "many"] spChN := ⟨ok_checkN F28 o_number, gl 16 "check_number" rfl, F28.kp, b_28⟩
    have b_41 : Binds K fd41 ["rows", "other"] [] := F41.bindsN fun _ _ _ _ _ _ us hl => match us, hl with | [_, _], _ => rfl
    have o_only : Own (PySem.Challenge.rw_answerhouse_k22_whole_in_any_order).prog w K mg base "only_first" 8 _ fd41 ["rows", "other"] (spOnly K T) := ⟨ok_only F41 o_results o_follows, gl 29 "only_first" rfl, F41.kp, b_41⟩
    have b_40 : Binds K fd40 ["rows", "other"] [] := F40.bindsN fun _ _ _ _ _ _ us hl => match us, hl with | [_, _], _ => rfl
    have o_parted : Own (PySem.Challenge.rw_answerhouse_k22_whole_in_any_order).prog w K mg base "parted" 9 _ fd40 ["rows", "other"] (spParted K T) := ⟨ok_parted F40 o_check o_only, gl 28 "parted" rfl, F40.kp, b_40⟩
    have b_39 : Binds K fd39 ["rows", "number"] [] := F39.bindsN fun _ _ _ _ _ _ us hl => match us, hl with | [_, _], _ => rfl
    have o_hanging : Own (PySem.Challenge.rw_answerhouse_k22_whole_in_any_order).prog w K mg base "hanging" 9 _ fd39 ["rows", "number"] (spHang K T) := ⟨ok_hanging F39 B o_check o_chnum o_only o_left, gl 27 "hanging" rfl, F39.kp, b_39⟩
    have b_36 : Binds K fd36 ["rows"] [] := F36.bindsN fun _ _ _ _ _ _ us hl => match us, hl with | [_], _ => rfl
    have o_needless : Own (PySem.Challenge.rw_answerhouse_k22_whole_in_any_order).prog w K mg base "needless" 8 _ fd36 ["rows"] (spNdl T) := ⟨ok_needless F36 B o_check o_results o_left, gl 24 "needless" rfl, F36.kp, b_36⟩
    have b_35 : Binds K fd35 ["rows"] [] := F35.bindsN fun _ _ _ _ _ _ us hl => match us, hl with | [_], _ => rfl
    have o_trusted : Own (PySem.Challenge.rw_answerhouse_k22_whole_in_any_order).prog w K mg base "trusted" 12 _ fd35 ["rows"] (spTru K T ((He.cT K ("as_lots", none)).2)) := ⟨ok_trusted F35 B nPT o_clashes o_follows, gl 23 "trusted" rfl, F35.kp, b_35⟩
    have b_42 : Binds K fd42 ["_law_script"] [] := F42.bindsN fun _ _ _ _ _ _ us hl => match us, hl with | [_], _ => rfl
    have o_lrow : Own (PySem.Challenge.rw_answerhouse_k22_whole_in_any_order).prog w K mg base "_law_row" 1 _ fd42 ["_law_script"] (spLRow K) := ⟨ok_lrow F42, gl 30 "_law_row" rfl, F42.kp, b_42⟩
    have b_43 : Binds K fd43 ["_law_row_here", "_law_many"] [] := F43.bindsN fun _ _ _ _ _ _ us hl => match us, hl with | [_, _], _ => rfl
    have o_ltaken : Own (PySem.Challenge.rw_answerhouse_k22_whole_in_any_order).prog w K mg base "_law_taken" 1 _ fd43 ["_law_row_here", "_law_many"] (spTaken K) := ⟨ok_ltaken F43 z_len, gl 31 "_law_taken" rfl, F43.kp, b_43⟩
    have b_44 : Binds K fd44 ["_law_row_here"] [] := F44.bindsN fun _ _ _ _ _ _ us hl => match us, hl with | [_], _ => rfl
    have o_lone : Own (PySem.Challenge.rw_answerhouse_k22_whole_in_any_order).prog w K mg base "_law_one" 2 _ fd44 ["_law_row_here"] (spOne K) := ⟨ok_lone F44 o_ltaken.g o_ltaken.ok o_ltaken.kp o_ltaken.b, gl 32 "_law_one" rfl, F44.kp, b_44⟩
    have b_45 : Binds K fd45 ["_law_row_here", "_law_many"] [] := F45.bindsN fun _ _ _ _ _ _ us hl => match us, hl with | [_, _], _ => rfl
    have o_ltext : Own (PySem.Challenge.rw_answerhouse_k22_whole_in_any_order).prog w K mg base "_law_text" 3 _ fd45 ["_law_row_here", "_law_many"] (spText K) := ⟨ok_ltext F45 o_ltaken.g o_ltaken.ok o_ltaken.kp o_ltaken.b o_lone.g o_lone.ok o_lone.kp o_lone.b z_tuple z_range, gl 33 "_law_text" rfl, F45.kp, b_45⟩
    exact ok_law F46 cL tL B nPT nLT (Ne.symm nAL) o_lrow o_ltext o_ltaken o_follows o_trusted o_parted o_bear o_clashes o_needless o_hanging
end Ah
end
section
open PySem PySem.W PySem.Calls PyProof.Rows
set_option Elab.async false
set_option maxRecDepth 100000
set_option maxHeartbeats 0
theorem PySem.Challenge.cw_answerhouse_k22_whole_in_any_order_holds : PySem.Challenge.rw_answerhouse_k22_whole_in_any_order.Holds := by
  w_on; o_law
  refine HandSHeadRun.head_any (r := OpenLaw.row PySem.Challenge.rw_answerhouse_k22_whole_in_any_order) (q := view (OpenLaw.row PySem.Challenge.rw_answerhouse_k22_whole_in_any_order).prog [54]) (H := Ah.hk) (ob := Ah.ob) (M := 7000) (loose := Ah.loose) (d := HandSHeadRun.topDef (OpenLaw.row PySem.Challenge.rw_answerhouse_k22_whole_in_any_order).prog 54) (kwd := []) Ah.ob_eq
    (by kernel_rfl) (fun s => by kernel_rfl) Ah.run (by kernel_rfl) (by kernel_rfl) (by kernel_rfl) (by rfl) (by first | assumption | decide +kernel) (by decide +kernel) ⟨rfl, rfl, rfl, rfl, rfl, by decide +kernel⟩ ?hw ?hc
  case hw => w_witness2
  case hc =>
    refine LamX.walk_ofTsE (l := PySem.Challenge.rw_answerhouse_k22_whole_in_any_order) (n := 63) (k := 13) (x := "_law_script") (CX := fun _ => L2.CX0) rfl (by decide) (by kernel_rfl) ⟨rfl, by decide, by decide⟩ ?F (fun _ _ _ _ _ z => z)
    intro w mg fa h Y G hmg0
    obtain ⟨K, KX, c⟩ := Y
    have hmg : mg ("law" : PySem.Str) = some (.ref fa) := by
      have e : (HandSHeadRun.topDef (OpenLaw.row PySem.Challenge.rw_answerhouse_k22_whole_in_any_order).prog 54).name = ("law" : PySem.Str) := by kernel_rfl
      rw [← e]
      exact hmg0
    exact ⟨K, KX, Ah.facts KX G hmg c⟩
end
