import PyProof.Rows.All
import Wide.All
import OpenK.AllK
import Wide.FinOn
import HandS.ForMost
import HandS.GenList
import HandS.AnyAll
import HandS.JoinGen
import PyProof.CollectWalk
import PyProof.TupleOfGen
import HandS.TupSets
import HandS.Deep
import KE.SortData
import PyProof.WalksMore
import PyProof.FactsAll.subtypes_4
import HandS.SortKw
import KE.DatumOrd
import HandS.Wide
import HandS.IsInst
import HandS.Lambda
import HandS.Flow
import HandS.ForExc
import PySem.Challenge.RW_layerprint_k06_papers_judged
import HandS.ExcIs
import HandS.DictComp
import KE.KDictKeyed
import KE.KDictPairs
import HandS.Walk
import HandS.Iter
import HandS.TupLen
import HandS.Head0
import HandS.Head1
import HandS.Head2
import HandS.HeadEnd
import HandS.HeadHook1
import HandS.HeadHook2
import HandS.HeadHook3
import HandS.HeadHook4
import HandS.HeadWalk
import HandS.EndTab
section
set_option Elab.async false
set_option linter.all false
set_option maxRecDepth 100000
set_option maxHeartbeats 2000000
/-! Generator expressions whose element is any expression of the layer: all(..), tuple(..), sep.join(..) of them. -/
namespace GX
open PySem PySem.Spec PyProof.Rows L2 GenW

/-- the names of a generator expression: its own x (and the walked thing), or captured ones of the def -/
structure GOk (N : List Str) (sc scope : Scope) (x : Str) : Prop where
  kind : scope.kind = .function
  co : scope.isCoroutine = false
  nocell : ∀ y ∈ scope.names, y.2 ≠ .cell
  dot : scope.names.lookup (".0" : Str) = some NameKind.local
  loc : scope.names.lookup x = some .local
  uniq : ∀ y ∈ scope.names, scope.names.lookup y.1 = some y.2
  free : ∀ y ∈ scope.names, y.2 = .free → sc.names.lookup y.1 = some .cell ∨ sc.names.lookup y.1 = some .free
  own : ∀ y ∈ scope.names, y.2 = .local → y.1 ∉ N
  xd : x ≠ ".0"

/-- the context of a generator expression's frame -/
def gcx (X : Cx) (scope : Scope) (x : Str) (A : Around) (s : Shared) (H : Hp) (C : Addr) (code : Value) (fp : List Addr) : Cx where
  prog := X.prog
  w := X.w
  K := X.K
  mg := X.mg
  base := X.base
  A := A.deeper (genEnv scope (cloFrom X.env.cells scope.names []) C code builtinsNs X.env)
  N := X.N ++ [x]
  s_0 := s
  H_0 := H
  env := genEnv scope (cloFrom X.env.cells scope.names []) C code builtinsNs X.env
  outer := X.stack
  stack := genEnv scope (cloFrom X.env.cells scope.names []) C code builtinsNs X.env :: X.stack
  ex := fp
  fn := fun _ => false
  calm := true
  pn := []
  xe := fun _ _ => False

theorem over_loop_gen {A : Around} {elt : Expr} {gs : List Comprehension} {scope : Scope} {pos : Pos} {it acc : Value} {env : Env} : A.over (.compLoop (.GeneratorExp elt gs scope pos) 0 it acc env) [] = A.deeper env := by
  first
    | rfl
    | (obtain ⟨hd, d, fr, gs, u⟩ := A; simp [Around.over, Around.deeper, marksOver, frameCount, unitsOf, envsOf, guardsOf, pushEnvs, pushGuards, Code.envs, Code.env?, Code.isFrame, Code.guards, Code.isGuard, Code.weight, Code.frames, Code.isCreation, Code.isCaller, Code.cUnits])
theorem over_start_gen {A : Around} {elt : Expr} {gs : List Comprehension} {scope : Scope} {pos : Pos} {it acc : Value} {env : Env} : A.over (.compStart (.GeneratorExp elt gs scope pos) 0 it acc env) [] = A.deeper env := by
  first
    | rfl
    | (obtain ⟨hd, d, fr, gs, u⟩ := A; simp [Around.over, Around.deeper, marksOver, frameCount, unitsOf, envsOf, guardsOf, pushEnvs, pushGuards, Code.envs, Code.env?, Code.isFrame, Code.guards, Code.isGuard, Code.weight, Code.frames, Code.isCreation, Code.isCaller, Code.cUnits])

section
variable {X : Cx} {pins : List (Addr × Obj)} {σ : L2.St} {H : Hp} {s : Shared}
theorem gen_start {scope : Scope} {x : Str} {A : Around} {code : Value} {fp : List Addr} {s' : Shared} {it : Value} (I : Inv X pins σ H s) (ok : GOk X.N X.env.scope scope x) (hfp : ∀ b ∈ fp, FpOk X pins H b ∧ b < s.heap.objs.size)
    (hh : A.handled = none) (hfr : A.frames = some X.stack) (hos : s'.os = s.os) (hb : AllBare s'.gens) (kp : ∀ b o, s.heap.get? b = some o → s'.heap.get? b = some o)
    (hn : s'.heap.Ns s.heap.objs.size (fun y => if y = ".0" then some it else none)) :
    Inv (gcx X scope x A s H s.heap.objs.size code fp) [] (σ ++ [none]) H s' := by
  have hfree : ∀ y ∈ scope.names, y.2 = .free → ∃ c, X.env.cells.lookup y.1 = some c := fun y hy e => by
    rcases ok.free y hy e with k | k
    · exact I.ok.has _ (.inl k)
    · exact I.ok.has _ (.inr k)
  have cm : ∀ {y c}, (y, c) ∈ cloFrom X.env.cells scope.names [] → X.env.cells.lookup y = some c ∧ c < s.heap.objs.size := fun {y c} hm => by
    rcases cloFrom_mem hm with hm | ⟨h1, rfl⟩
    · cases hm
    · obtain ⟨c, hc⟩ := hfree _ h1 rfl
      rw [hc]
      obtain ⟨w, z⟩ := I.cell _ _ hc
      exact ⟨rfl, z.lt⟩
  have cl : ∀ {y c}, (cloFrom X.env.cells scope.names []).lookup y = some c → X.env.cells.lookup y = some c ∧ c < s.heap.objs.size := fun {y c} e => cm (PySem.mem_of_lookup e)
  have look : ∀ {y}, scope.names.lookup y = some .free → ∃ c, (cloFrom X.env.cells scope.names []).lookup y = some c ∧ X.env.cells.lookup y = some c := fun {y} hl => by
    have hy : (y, NameKind.free) ∈ scope.names := PySem.mem_of_lookup hl
    obtain ⟨c', e'⟩ := mem_lookup (cloFrom_has (cells := X.env.cells) (acc := []) hy)
    exact ⟨c', e', (cl e').1⟩
  have okB : (gcx X scope x A s H s.heap.objs.size code fp).Ok := by
    refine ⟨I.ok.mod, ok.kind, I.ok.glob, rfl, Nat.le_refl _, fun y z c e1 e2 => I.ok.inj y z c (cl e1).1 (cl e2).1, fun y hy => ?_, fun y c z _ => ?_, fun _ => hh, Around.frames_deeper hfr, .inr ⟨rfl, rfl⟩,
      fun b hb => ⟨Nat.ne_of_lt (hfp b hb).2, fun y c e => (hfp b hb).1.2.2.2.2.1 y c (cl e).1⟩, I.bs, Nat.le_trans I.ok.bsz I.sz, fun b o e hb => ?_, fun b hb z => ?_, I.stack, I.stkFree⟩
    · have hy : scope.names.lookup y = some .cell ∨ scope.names.lookup y = some .free := hy
      rcases hy with hy | hy
      · exact absurd rfl (ok.nocell _ (PySem.mem_of_lookup hy))
      · obtain ⟨c, h1, _⟩ := look hy
        exact ⟨c, h1⟩
    · exact absurd (show (false : Bool) = true from z) Bool.false_ne_true
    · rcases (hfp b hb).1.2.2.2.1 with z | z
      · exact I.ok.noex b o e z
      · exact absurd (Nat.lt_of_lt_of_le (Heap.lt_size e) (Nat.le_trans I.ok.bsz z)) (Nat.lt_irrefl _)
    · rcases List.mem_cons.mp (I.stkSub b z) with z | z
      · exact (hfp b hb).1.2.1 z
      · exact (hfp b hb).1.2.2.1 z
  refine ⟨okB, hos, hb, Un.kept kp, ⟨_, hn, fun i y v e1 e2 e3 => ?_⟩, fun y c e => ?_, I.hok.fresh (Nat.le_refl _), fun y c e => I.freeC y c (cl e).1, fun p hp => absurd (show p ∈ ([] : List (Addr × Obj)) ++ [] from hp) (by simp), I.hok.kept kp, ?_⟩
  · have e1 : (X.N ++ [x])[i]? = some y := e1
    have hl : σ.length = X.N.length := I.len
    have hi : i < σ.length := by
      rcases Nat.lt_or_ge i σ.length with h | h
      · exact h
      · rw [List.getElem?_append_right h] at e2
        rcases Nat.eq_zero_or_pos (i - σ.length) with z | z
        · rw [z] at e2; cases e2
        · rw [List.getElem?_eq_none (by simp; omega)] at e2; cases e2
    rw [List.getElem?_append_left (by omega)] at e1
    rw [List.getElem?_append_left hi] at e2
    have hyN : y ∈ X.N := List.mem_of_getElem? e1
    have hf : scope.names.lookup y = some .free := by
      have e3 : Vis scope y := e3
      rcases e3 with e3 | e3 | e3
      · exact absurd hyN (ok.own _ (PySem.mem_of_lookup e3) rfl)
      · exact absurd rfl (ok.nocell _ (PySem.mem_of_lookup e3))
      · exact e3
    obtain ⟨m, hn', hl'⟩ := I.loc
    have hsc := ok.free _ (PySem.mem_of_lookup hf) rfl
    have hvis : Vis X.env.scope y := hsc.elim (fun k => .inr (.inl k)) (fun k => .inr (.inr k))
    obtain ⟨w, r, q⟩ := hl' i y v e1 e2 hvis
    refine ⟨w, r, .inr ⟨.inr hf, ?_⟩⟩
    obtain ⟨c, h1, h2⟩ := look hf
    rcases q with ⟨k, _⟩ | ⟨_, c', e', z⟩
    · have k : X.env.scope.names.lookup y = some .local := k
      rcases hsc with k' | k' <;> rw [show X.env.scope.names.lookup y = _ from k'] at k <;> cases k
    · rw [h2] at e'; cases e'
      exact ⟨c, h1, z.keeps kp⟩
  · obtain ⟨w, z⟩ := I.cell y c (cl e).1
    exact ⟨w, z.keeps kp⟩
  · show (σ ++ [none]).length = (X.N ++ [x]).length
    have hl : σ.length = X.N.length := I.len
    simp [hl]
end

/-- while the generator sleeps: what stands at S may change, all else is kept -/
structure Slept (S : List Addr) (s s' : Shared) : Prop where
  os : s'.os = s.os
  bare : AllBare s'.gens
  keep : ∀ b o, b ∉ S → s.heap.get? b = some o → s'.heap.get? b = some o
  there : ∀ b ∈ S, ∃ o, s'.heap.get? b = some o ∧ ∀ v, o.data ≠ .cell v

/-- what the generator's run leans on: X' its context, a its object, fp its iterator's objects -/
structure GX1 (X' : Cx) (S : List Addr) (a : Addr) (fp : List Addr) : Prop where
  apart : ∀ b ∈ S, X'.s_0.heap.objs.size ≤ b ∧ b ≠ X'.env.locals ∧ (∀ x c, X'.env.cells.lookup x = some c → c ≠ b) ∧ b ≠ a ∧ b ∉ fp ∧ b ∉ X'.fs
  pn : X'.pn = []
section
variable {X' : Cx} {S : List Addr} {a : Addr} {go : Obj} {fp : List Addr} {σ : L2.St} {H : Hp} {s s' s₀ : Shared}
theorem woken (g : GX1 X' S a fp) (I : Inv X' ((a, go) :: pinsAt S s₀.heap) σ H s) (hS0 : ∀ b ∈ S, ∃ o, s₀.heap.get? b = some o) (z : Slept S s s') :
    Inv X' ((a, go) :: pinsAt S s'.heap) σ H s' := by
  have hSH : ∀ b ∈ S, H b = none := fun b hb => by
    obtain ⟨o, e⟩ := hS0 b hb
    exact (I.pin (b, o) (List.mem_append_right _ (List.mem_cons_of_mem _ (mem_pinsAt hb e)))).2.1
  have ha := I.pin (a, go) (List.mem_append_right _ List.mem_cons_self)
  have I0 : Inv X' [(a, go)] σ H s := I.pins_of fun p hp => by
    rw [List.mem_singleton.mp hp]
    exact ha
  have nt : ∀ b u, H b = some u → b ∉ S := fun b u q hb => by rw [hSH b hb] at q; cases q
  have nc : ∀ x c, X'.env.cells.lookup x = some c → c ∉ S := fun x c e hc => (g.apart c hc).2.2.1 x c e rfl
  have J : Inv X' [(a, go)] σ H s' := by
    obtain ⟨hh, gg, d, t, o⟩ := s'
    have ho : o = s.os := z.os
    subst ho
    refine I0.step (g' := gg) (t' := t) (d' := d) (ch := S) (fun b hb => ⟨.inr (g.apart b hb).1, (g.apart b hb).2.1, (g.apart b hb).2.2.1, fun p hp => ?_⟩)
      (fun b ob _ _ hc q _ => z.keep b ob hc q) (fun b ob _ _ hc q _ => ⟨ob.slots, z.keep b ob hc q⟩) (fun _ _ _ _ n => n) (fun b ob hc q => ⟨ob, z.keep b ob hc q⟩)
      (fun _ _ q => q) (fun _ _ _ q => q) (fun b ps q => ⟨#[], by rw [q]; simp⟩) (fun m hm => ?_) (fun b u q => ?_) z.bare
    · rw [g.pn] at hp
      rw [List.mem_singleton.mp hp]
      exact Ne.symm (g.apart b hb).2.2.2.1
    · obtain ⟨ob, es, ep, ho, r⟩ := hm
      exact ⟨ob, es, ep, z.keep _ ob (fun hb => (g.apart _ hb).2.1 rfl) ho, r⟩
    · refine (I0.hok b u q).stay (fun c v hc y => z.keep c v ?_ y) (fun _ y => y) fun _ _ y => y
      rcases hc with y | y
      · rw [y]; exact nt b u q
      · exact nt c _ y
  refine J.pins_of fun p hp => ?_
  rcases List.mem_cons.mp hp with hp | hp
  · rw [hp]
    exact J.pin (a, go) (List.mem_append_right _ List.mem_cons_self)
  · obtain ⟨hb, e⟩ := of_pinsAt hp
    obtain ⟨o, e', d⟩ := z.there _ hb
    rw [e] at e'; cases e'
    exact ⟨e, hSH _ hb, (g.apart _ hb).2.1, (g.apart _ hb).2.2.2.2.2, d⟩
end
end GX
end

section
set_option Elab.async false
set_option linter.all false
set_option maxRecDepth 100000
set_option maxHeartbeats 2000000
namespace GX
open PySem PySem.Spec PyProof.Rows L2 GenW

/-- an item is handed out: its number i, its value y; N items in all; W: what holds ahead of the turn i; Yv: what holds of the item -/
def YG (X' : Cx) (S : List Addr) (a : Addr) (go : Obj) (fp : List Addr) (tn : Nat → Heap → Prop) (σ : L2.St) (N : Nat) (W : Nat → Hp → Prop) (Yv : Nat → V → Hp → Prop) : Protocol := fun n s₀ v s kap =>
  ∃ i y o H, i + (n + 1) = N ∧ RelV y v ∧ Inv X' ((a, go) :: pinsAt S s₀.heap) (σ ++ [o]) H s ∧ Yv i y H ∧ (∀ s'', Slept S s s'' → W (i + 1) H → kap (.send .none) s'')
def RG (X' : Cx) (S : List Addr) (a : Addr) (go : Obj) (σ : L2.St) (N : Nat) (W : Nat → Hp → Prop) (Qe : Hp → Prop) : GenEnd := fun n s₀ r s =>
  r = .ok .next ∧ (n = 0 ∧ ∃ o H, Inv X' ((a, go) :: pinsAt S s₀.heap) (σ ++ [o]) H s ∧ Qe H)
/-- the reading: by the turn -/
def GTurn (J : It) (te : TE) (σ : L2.St) (N : Nat) (W : Nat → Hp → Prop) (Yv : Nat → V → Hp → Prop) (Qe : Hp → Prop) : Prop :=
  ∀ i H, W i H → (i = N ∧ J.stop i H ∧ Qe H) ∨ (i < N ∧ J.go i H ∧ ∀ x H', J.yld i H x H' → te (σ ++ [some x]) H' fun y H3 => Yv i y H3)

section
variable {X' : Cx} {S : List Addr} {a it : Addr} {go : Obj} {fp : List Addr} {tn : Nat → Heap → Prop} {σ : L2.St} {N : Nat} {W : Nat → Hp → Prop} {Yv : Nat → V → Hp → Prop} {Qe : Hp → Prop} {J : It} {te : TE}
  {elt iter : Expr} {x : Str} {px gpos : Pos} {scope : Scope} {A : Around}
theorem loop_gen (g : GX1 X' S a fp) (hA : X'.A = A.deeper X'.env) (hcalm : X'.calm = true) (hN : X'.N.Nodup) (hlen : X'.N.length = σ.length + 1) (hx : X'.N[σ.length]? = some x) (hloc : X'.env.scope.names.lookup x = some .local) (hco : X'.env.scope.isCoroutine = false)
    (T : Turn X'.prog X'.w X'.K (.Name x px) J fp it tn) (hel : PE X' elt te) (hxe : X'.xe = fun _ _ => False) (hex : X'.ex = fp) (hafp : a ∉ fp)
    (R : GTurn J te σ N W Yv Qe) :
    ∀ (n i : Nat) (s₀ s : Shared) (o : Option V) (H : Hp), i + n = N → Inv X' ((a, go) :: pinsAt S s₀.heap) (σ ++ [o]) H s → tn i s.heap → (∀ b ∈ fp, H b = none) → (∀ b ∈ S, ∃ o, s₀.heap.get? b = some o) → W i H →
      Seg (model X'.prog X'.w) A (RG X' S a go σ N W Qe) (YG X' S a go fp tn σ N W Yv) n s₀ (.compLoop (.GeneratorExp elt [⟨.Name x px, iter, [], 0⟩] scope gpos) 0 (.ref it) .none X'.env)
        ((model X'.prog X'.w).den (.compLoop (.GeneratorExp elt [⟨.Name x px, iter, [], 0⟩] scope gpos) 0 (.ref it) .none X'.env)) [] s := by
  have stat : ∀ {pl : List (Addr × Obj)} {σ' : L2.St} {H' : Hp} {s' : Shared}, Inv X' pl σ' H' s' → (∀ p ∈ pl, p.1 ∉ fp) → (∀ b ∈ fp, H' b = none) → ∀ b ∈ fp, FpOk X' pl H' b := fun {pl σ' H' s'} I' hpl hn b hb =>
    ⟨hn b hb, (I'.ok.exf b (by rw [hex]; exact hb)).1, I'.ok.exfs b (by rw [hex]; exact hb), .inl (by rw [hex]; exact hb), fun y c e => (I'.ok.exf b (by rw [hex]; exact hb)).2 y c e, fun p hp z => by
      rw [g.pn] at hp
      exact hpl p hp (by rw [z]; exact hb)⟩
  have plo : ∀ {h : Heap}, ∀ p ∈ (a, go) :: pinsAt S h, p.1 ∉ fp := fun {h} p hp => by
    rcases List.mem_cons.mp hp with hp | hp
    · rw [hp]; exact hafp
    · exact (g.apart _ (of_pinsAt hp).1).2.2.2.2.1
  have xeF : ∀ {α : Type} {m : Sem α} {Q Q' : α → Shared → Prop} {E : Value → Shared → Prop} {s : Shared}, wpAny (model X'.prog X'.w) X'.A m Q X'.xe s → (∀ b s, Q b s → Q' b s) → wpAny (model X'.prog X'.w) X'.A m Q' E s := fun h hQ => by
    rw [hxe] at h
    exact thnF h hQ
  intro n
  induction n with
  | zero =>
    intro i s₀ s o H hi I st nfp hS w
    show Seg _ A _ _ _ s₀ _ ((compTurn (.GeneratorExp elt [⟨.Name x px, iter, [], 0⟩] scope gpos) 0 (.ref it) .none X'.env).onRaise (leaving X'.env)) [] s
    rw [compTurn_gen, Sem.onRaise_eq_wrap]
    refine seg_bind_wrap (wpAny_standAt ?_)
    rcases R i H w with ⟨ei, stop, hq⟩ | ⟨lt, _⟩
    · refine seg_bind_wrap ?_
      rw [over_loop_gen, ← hA]
      refine thnF (T.done X' rfl rfl rfl hcalm i _ s _ H (fun _ _ => False) I (stat I plo nfp) st stop) fun r s1 ⟨hr, I1⟩ => ?_
      subst hr
      exact seg_end (.ok .next) ⟨rfl, rfl, o, H, I1, hq⟩
    · omega
  | succ n ih =>
    intro i s₀ s o H hi I st nfp hS w
    show Seg _ A _ _ _ s₀ _ ((compTurn (.GeneratorExp elt [⟨.Name x px, iter, [], 0⟩] scope gpos) 0 (.ref it) .none X'.env).onRaise (leaving X'.env)) [] s
    rw [compTurn_gen, Sem.onRaise_eq_wrap]
    refine seg_bind_wrap (wpAny_standAt ?_)
    rcases R i H w with ⟨ei, stop, hq⟩ | ⟨lt, hgo, step⟩
    · omega
    · refine seg_bind_wrap ?_
      rw [over_loop_gen, ← hA]
      refine thnF (T.item X' rfl rfl rfl hcalm i _ s _ H (fun _ _ => False) I (stat I plo nfp) st hgo) fun r s1 ⟨u, hr, h1⟩ => ?_
      subst hr
      refine seg_bind_wrap ?_
      rw [over_loop_gen, ← hA]
      refine thnF h1 fun _ s2 ⟨v, H2, I2, r2, y2, st2, nfp2⟩ => ?_
      have I2' : Inv X' (((a, go) :: pinsAt S s₀.heap) ++ pinsAt fp s2.heap) (σ ++ [o]) H2 s2 := I2.pinned (stat I2 plo nfp2) (T.obj _ _ st2)
      refine seg_bind_wrap ?_
      rw [over_loop_gen, ← hA]
      have pg : PG X' (.Name x px) (gName σ.length) := pg_name hN hx (.inl hloc) (.inr hloc)
      have eset : (σ ++ [o]).set σ.length (some v) = σ ++ [some v] := by
        rw [List.set_append_right _ _ (Nat.le_refl _)]
        simp
      refine xeF (pg.run _ s2 _ H2 v u (fun σ' H' => σ' = σ ++ [some v] ∧ H' = H2) I2' r2 ⟨eset, rfl⟩) fun _ s3 ⟨σ3, H3, I3, e3, e3'⟩ => ?_
      subst e3
      subst e3'
      refine seg_bind_wrap ?_
      simp only [List.forIn_nil]
      refine wpAny_pure ?_
      simp only [if_true]
      have hy : ∀ v, yieldOut X'.env v = yieldValue v := fun v => by simp only [yieldOut, hco, Bool.false_eq_true, if_false]
      simp only [hy]
      rw [Sem.bind_eq_wrap', Sem.bind_eq_wrap', Sem.wrap_wrap, Sem.wrap_wrap]
      refine seg_wrap ?_
      rw [over_loop_gen, ← hA]
      refine xeF (hel.run _ s3 _ H3 _ I3 (step v H3 y2)) fun yv s4 ⟨y, H4, I4, r4, q4⟩ => ?_
      have pin4 : ∀ b ∈ fp, ∀ o, s2.heap.get? b = some o → s4.heap.get? b = some o ∧ H4 b = none := fun b hb o e =>
        let z := I4.pin (b, o) (List.mem_append_right _ (List.mem_append_right _ (mem_pinsAt hb e)))
        ⟨z.1, z.2.1⟩
      have I5 : Inv X' ((a, go) :: pinsAt S s₀.heap) (σ ++ [some v]) H4 s4 := I4.unpinned
      have st5 : tn (i + 1) s4.heap := T.keep _ _ _ st2 fun b hb o e => (pin4 b hb o e).1
      have nfp5 : ∀ b ∈ fp, H4 b = none := fun b hb => by
        obtain ⟨o, e, _⟩ := T.obj _ _ st2 b hb
        exact (pin4 b hb o e).2
      refine seg_at (seg_yield rfl rfl rfl ⟨i, y, some v, H4, hi, r4, I5, q4, fun s'' z w' => ?_⟩)
      have I6 := woken g I5 hS z
      refine seg_again rfl (ih (i + 1) s'' s'' (some v) H4 (by omega) I6 ?_ nfp5 (fun b hb => ?_) w')
      · refine T.keep _ _ _ st5 fun b hb o e => z.keep b o (fun hb' => (g.apart b hb').2.2.2.2.1 hb) e
      · obtain ⟨o, e, _⟩ := z.there b hb
        exact ⟨o, e⟩
theorem begin_gen (g : GX1 X' S a fp) (hA : X'.A = A.deeper X'.env) (hcalm : X'.calm = true) (hN : X'.N.Nodup) (hlen : X'.N.length = σ.length + 1) (hx : X'.N[σ.length]? = some x) (hloc : X'.env.scope.names.lookup x = some .local) (hco : X'.env.scope.isCoroutine = false)
    (T : Turn X'.prog X'.w X'.K (.Name x px) J fp it tn) (hel : PE X' elt te) (hxe : X'.xe = fun _ _ => False) (hex : X'.ex = fp) (hafp : a ∉ fp)
    (R : GTurn J te σ N W Yv Qe) (s₀ s : Shared) (o : Option V) (H : Hp) (I : Inv X' ((a, go) :: pinsAt S s₀.heap) (σ ++ [o]) H s) (st : tn 0 s.heap) (nfp : ∀ b ∈ fp, H b = none) (hS : ∀ b ∈ S, ∃ o, s₀.heap.get? b = some o) (w : W 0 H) :
    Seg (model X'.prog X'.w) A (RG X' S a go σ N W Qe) (YG X' S a go fp tn σ N W Yv) N s₀ (.compStart (.GeneratorExp elt [⟨.Name x px, iter, [], 0⟩] scope gpos) 0 (.ref it) .none X'.env)
      ((model X'.prog X'.w).den (.compStart (.GeneratorExp elt [⟨.Name x px, iter, [], 0⟩] scope gpos) 0 (.ref it) .none X'.env)) [] s := by
  have loop := loop_gen (A := A) (iter := iter) (scope := scope) (gpos := gpos) (go := go) g hA hcalm hN hlen hx hloc hco T hel hxe hex hafp R N 0 s₀ s o H (Nat.zero_add _) I st nfp hS w
  show Seg _ A _ _ _ s₀ _ ((compStart (.GeneratorExp elt [⟨.Name x px, iter, [], 0⟩] scope gpos) 0 (.ref it) .none X'.env).onRaise (leaving X'.env)) [] s
  unfold compStart
  rw [Sem.onRaise_eq_wrap]
  show Seg _ A _ _ _ s₀ _ ((ask >>= _).wrap _ _ _ _) [] s
  refine seg_bind_wrap (wpAny_askSetting ?_)
  split
  · exact seg_again rfl loop
  · first
      | exact seg_bind_wrap (wpAny_rule (seg_bind_wrap (wpAny_standAt (seg_bind_wrap (T.self _ 0 s _ _ st (seg_again rfl loop))))))
      | (refine seg_bind_wrap (wpAny_rule ?_); show Seg _ A _ _ _ s₀ _ ((standAt iter.pos >>= _).wrap _ _ _ _) [] s; exact seg_bind_wrap (wpAny_standAt (seg_bind_wrap (T.self _ 0 s _ _ st (seg_again rfl loop)))))
end
end GX
end

section
set_option Elab.async false
set_option linter.all false
set_option maxRecDepth 100000
set_option maxHeartbeats 2000000
namespace GX
open PySem PySem.Spec PyProof.Rows L2 GenW

/-- a generator that has been made and not begun: its object a (obj go), its number g; s4: the state behind the making of its code, s5: now -/
structure Made (X : Cx) (pins : List (Addr × Obj)) (σ : L2.St) (scope : Scope) (x : Str) (elt iter : Expr) (px gpos : Pos) (H : Hp) (J : It) (s4 s5 : Shared) (a it : Addr) (g : Nat) (go : Obj) (code : Value) (fp : List Addr) (tn : Nat → Heap → Prop) : Prop where
  inv : Inv X pins σ H s4
  gen : s5.heap.IsGen a g
  lim : s5.heap.NoLimit
  sz : s4.heap.objs.size < a
  sz5 : s5.heap.objs.size = a + 1
  fresh : s5.gens[g]? = some (.fresh (.compStart (.GeneratorExp elt [⟨.Name x px, iter, [], 0⟩] scope gpos) 0 (.ref it) .none (genEnv scope (cloFrom X.env.cells scope.names []) s4.heap.objs.size code builtinsNs X.env)))
  bare : AllBare s5.gens
  os : s5.os = s4.os
  keep : ∀ b o, s4.heap.get? b = some o → s5.heap.get? b = some o
  ns : s5.heap.Ns s4.heap.objs.size (fun y => if y = ".0" then some (.ref it) else none)
  fpo : ∀ b ∈ fp, FpOk X pins H b ∧ b < s4.heap.objs.size
  turn : Turn X.prog X.w X.K (.Name x px) J fp it tn
  st : tn 0 s4.heap
  obj : s5.heap.get? a = some go
  objd : ∀ v, go.data ≠ .cell v

section
variable {X : Cx} {pins : List (Addr × Obj)} {σ : L2.St} {H : Hp} {s : Shared}
theorem make_gen {c P : Addr} {elt iter : Expr} {x : Str} {px gpos : Pos} {scope : Scope} {wi : TI} {Q' : Value → Shared → Prop} {R : It → Hp → Prop}
    (hh : X.A.handled = none) (hd : X.A.depth < recursionLimit) (TB : GxR.TabB X.base X.mg c P) (hcode : X.env.code = .ref c) (ok : GOk X.N X.env.scope scope x) (hi : PI X (.Name x px) iter wi)
    (hs : ∀ v, genFold iter X.env v = pure v) (I : Inv X pins σ H s) (h : wi σ H fun J H1 => GxR.TabG H1 P ∧ R J H1)
    (hQ : ∀ J H1 H2 s4 s5 a it g go code fp tn, R J H1 → GxR.Tabbed P H1 H2 → Made X pins σ scope x elt iter px gpos H2 J s4 s5 a it g go code fp tn → Q' (.ref a) s5) :
    wpAny (model X.prog X.w) X.A (eval (.GeneratorExp elt [⟨.Name x px, iter, [], 0⟩] scope gpos) X.env) Q' X.xe s := by
  have hfree : ∀ y ∈ scope.names, y.2 = .free → ∃ c, X.env.cells.lookup y.1 = some c := fun y hy e => by
    rcases ok.free y hy e with k | k
    · exact I.ok.has _ (.inl k)
    · exact I.ok.has _ (.inr k)
  refine wpAny_GeneratorExp_make ok.co (closure_ok hfree) ok.nocell ok.dot ok.kind hd ?_ hs
  refine thn (hi.run pins s σ H _ I h) fun xv s1 hx => thn hx fun itv s2 h2 => ?_
  obtain ⟨it, fp, tn, J, H1, e, I1, T, st2, f2, ⟨ps, hP, ht⟩, q1⟩ := h2
  subst e
  have hPs : s2.heap.get? P = some { cls := .none, data := .fields ps } := I1.hok P _ hP
  have cd : PySem.W.CodeHd s2.heap c P := TB.code.keeps fun b u e => I1.bk b u e
  have sz : ∀ b ∈ fp, b < s2.heap.objs.size := fun b hb => by
    obtain ⟨o, e, _⟩ := T.obj _ _ st2 b hb
    exact Heap.lt_size e
  refine ⟨I1.nolimit, ?_⟩
  have cont : ∀ (code : Value) (h3 : Heap) (tk : Nat) (ps' : Array Value), Heap.ExtBut P s2.heap h3 → h3.get? P = some { cls := .none, data := .fields ps' } → (∃ more, ps' = ps ++ more) → TriplesOk ps'.toList →
      wpAny (model X.prog X.w) X.A (builtinsFor X.env.globals X.env.builtins) (fun bi s₄ =>
        ∀ h', h'.Ns s₄.heap.objs.size (fun y => if y = ".0" then some (.ref it) else none) → Heap.SameBut s₄.heap.objs.size (s₄.heap.push { cls := .type "frame", data := .dict #[] }) h' →
          Q' (.ref h'.objs.size) { s₄ with
            gens := s₄.gens.push (.fresh (.compStart (.GeneratorExp elt [⟨.Name x px, iter, [], 0⟩] scope gpos) 0 (.ref it) .none (genEnv scope (cloFrom X.env.cells scope.names []) s₄.heap.objs.size code bi X.env))),
            toks := s₄.toks + 1 + 1 + 1,
            heap := h'.push { cls := .type "generator", data := .fields #[.int s₄.gens.size 0, .str "<genexpr>" (s₄.toks + 1), .str (X.env.qual ++ "<genexpr>") (s₄.toks + 1 + 1)] } }) X.xe { s2 with heap := h3, toks := tk } := by
    intro code h3 tk ps' hx hP3 hmore ht3
    obtain ⟨more, em⟩ := hmore
    obtain ⟨bm, ob, e1, e2, e3, e4, e5, e6, e7, e8⟩ := TB.bm
    have keep3 : ∀ b u, b ≠ P → s2.heap.get? b = some u → h3.get? b = some u := fun b u hb e => hx b u hb e
    have I3 := GxR.inv_tab (more := more) (h' := h3) (g' := s2.gens) (d' := s2.drawn) (t' := tk) I1 hP keep3 (by rw [← em]; exact hP3) I1.bare
    have I3' : Inv X pins σ (upd H1 P (.tbl (ps ++ more))) { s2 with heap := h3, toks := tk } := I3
    refine wpAny_builtinsFor (m := X.mg) (by rw [I1.ok.glob]; exact (I1.mod.glob.keeps I1.bk).extBut hx TB.gP) e1 e2 (keep3 _ _ e4 (I1.bk _ _ e5)) e6 e7 e8 ?_
    intro h' hn' hs'
    generalize hs4 : ({ s2 with heap := h3, toks := tk } : Shared) = s4 at I3' hn' hs' ⊢
    have h4 : s4.heap = h3 := by rw [← hs4]
    have hsz : h'.objs.size = s4.heap.objs.size + 1 := by rw [hs'.1, Heap.size_push]
    have keep' : ∀ b o, s4.heap.get? b = some o → h'.get? b = some o := fun b o e => hs'.extBut b o (Nat.ne_of_lt (Heap.lt_size e)) (Heap.get?_push_of_some _ e)
    have stay : ∀ b ∈ fp, ∀ o, s2.heap.get? b = some o → s4.heap.get? b = some o := fun b hb o e => by
      rw [h4]
      refine keep3 b o (fun z => ?_) e
      have := (f2 b hb).1
      rw [z, hP] at this
      cases this
    refine hQ J H1 (upd H1 P (.tbl (ps ++ more))) s4 _ h'.objs.size it s4.gens.size _ code fp tn q1 ⟨⟨ps ++ more, upd_same, by rw [← em]; exact ht3⟩, fun b hb => upd_ne hb⟩
      ⟨I3', ⟨_, _, _, Heap.get?_push_size _ rfl, rfl, rfl, rfl⟩, I3'.nolimit.keeps fun b o e => Heap.get?_push_of_some _ (keep' b o e), by omega, by rw [Heap.size_push], Array.getElem?_push_size .., AllBare.push (by rw [← hs4]; exact I1.bare) rfl, rfl,
        fun b o e => Heap.get?_push_of_some _ (keep' b o e), hn'.push _, fun b hb => ⟨⟨?_, (f2 b hb).2⟩, ?_⟩, T, T.keep _ _ _ st2 stay, Heap.get?_push_size _ rfl, fun v q => by cases q⟩
    · rw [upd_ne (fun z => by have := (f2 b hb).1; rw [z, hP] at this; cases this)]
      exact (f2 b hb).1
    · obtain ⟨o, e, _⟩ := T.obj _ _ st2 b hb
      exact Heap.lt_size (stay b hb o e)
  cases hf : codeAmong gpos ps.toList with
  | none =>
    refine wpAny_genexprCodeX hcode (cd.code hPs ht) (cd.tab hPs) hf fun c' h' tk hx hge hlt hco' _ htab' _ => ?_
    obtain ⟨o1, vs, f1, tf, fl, tg, inF, tx, tt, op, _, _, _, _, _, _, _, _, _, htr, _⟩ := hco'
    exact cont _ h' tk _ hx htab'.2 ⟨_, rfl⟩ htr
  | some cv =>
    refine wpAny_genexprCode_hit hcode (cd.code hPs ht) hf ?_
    exact cont cv s2.heap s2.toks ps (Heap.ExtBut.refl _ _) hPs ⟨#[], by simp⟩ ht

variable {scope : Scope} {x : Str} {elt iter : Expr} {px gpos : Pos} {J : It} {s4 s5 : Shared} {a it : Addr} {g : Nat} {go : Obj} {code : Value} {fp : List Addr} {tn : Nat → Heap → Prop} {te : TE} {N : Nat} {W : Nat → Hp → Prop} {Yv : Nat → V → Hp → Prop} {Qe : Hp → Prop}
theorem Made.ap (m : Made X pins σ scope x elt iter px gpos H J s4 s5 a it g go code fp tn) {A : Around} {S : List Addr} (hS : ∀ b ∈ S, a < b) :
    GX1 (gcx X scope x A s4 H s4.heap.objs.size code fp) S a fp := by
  have hsz := m.sz
  refine ⟨fun b hb => ?_, rfl⟩
  have hab := hS b hb
  have hb4 : s4.heap.objs.size < b := Nat.lt_trans hsz hab
  refine ⟨Nat.le_of_lt hb4, Nat.ne_of_gt hb4, fun y c e z => ?_, Nat.ne_of_gt hab, fun hm => ?_, fun hm => ?_⟩
  · rcases cloFrom_mem (PySem.mem_of_lookup e) with hm | ⟨h1, h2⟩
    · cases hm
    · cases hc : X.env.cells.lookup y with
      | none =>
        rw [hc] at h2
        have h2 : c = 0 := h2
        rw [← z, h2] at hb4
        exact absurd hb4 (Nat.not_lt_zero _)
      | some c0 =>
        rw [hc] at h2
        have h2 : c = c0 := h2
        obtain ⟨w, zz⟩ := m.inv.cell _ _ hc
        have := zz.lt
        rw [← h2, z] at this
        exact absurd (Nat.lt_trans this hb4) (Nat.lt_irrefl _)
  · exact absurd (Nat.lt_trans (m.fpo b hm).2 hb4) (Nat.lt_irrefl _)
  · have hm : b ∈ frs X.stack := hm
    obtain ⟨_, o, ho, _⟩ := m.inv.stack.mem hm
    exact absurd (Nat.lt_trans (Heap.lt_size ho) hb4) (Nat.lt_irrefl _)
/-- the first wake -/
theorem Made.seg (m : Made X pins σ scope x elt iter px gpos H J s4 s5 a it g go code fp tn) (ok : GOk X.N X.env.scope scope x) (hN : X.N.Nodup) (hxN : x ∉ X.N) {A : Around} (hh : A.handled = none) (hfr : A.frames = some X.stack)
    (hel : PE (gcx X scope x A s4 H s4.heap.objs.size code fp) elt te) {S : List Addr} (hS : ∀ b ∈ S, a < b) (R : GTurn J te σ N W Yv Qe) (w : W 0 H) (s6 : Shared) (hos : s6.os = s5.os) (hb : AllBare s6.gens)
    (kp : ∀ b o, s5.heap.get? b = some o → s6.heap.get? b = some o) (hSo : ∀ b ∈ S, ∃ o, s6.heap.get? b = some o ∧ ∀ v, o.data ≠ .cell v) :
    Seg (model X.prog X.w) A (RG (gcx X scope x A s4 H s4.heap.objs.size code fp) S a go σ N W Qe) (YG (gcx X scope x A s4 H s4.heap.objs.size code fp) S a go fp tn σ N W Yv) N s6
      (.compStart (.GeneratorExp elt [⟨.Name x px, iter, [], 0⟩] scope gpos) 0 (.ref it) .none (genEnv scope (cloFrom X.env.cells scope.names []) s4.heap.objs.size code builtinsNs X.env))
      ((model X.prog X.w).den (.compStart (.GeneratorExp elt [⟨.Name x px, iter, [], 0⟩] scope gpos) 0 (.ref it) .none (genEnv scope (cloFrom X.env.cells scope.names []) s4.heap.objs.size code builtinsNs X.env))) [] s6 := by
  have kp4 : ∀ b o, s4.heap.get? b = some o → s6.heap.get? b = some o := fun b o e => kp b o (m.keep b o e)
  have I0 : Inv (gcx X scope x A s4 H s4.heap.objs.size code fp) [] (σ ++ [none]) H s6 := gen_start m.inv ok m.fpo hh hfr (hos.trans m.os) hb kp4 (m.ns.keeps kp)
  have hsz := m.sz
  have ap := m.ap (A := A) hS
  have fre : ∀ b, s4.heap.objs.size ≤ b → H b = none := fun b hb => m.inv.hok.fresh hb
  have anf : a ∉ (gcx X scope x A s4 H s4.heap.objs.size code fp).fs := fun hm => by
    have hm : a ∈ frs X.stack := hm
    obtain ⟨_, o, ho, _⟩ := m.inv.stack.mem hm
    exact absurd (Nat.lt_trans (Heap.lt_size ho) hsz) (Nat.lt_irrefl _)
  have I : Inv (gcx X scope x A s4 H s4.heap.objs.size code fp) ((a, go) :: pinsAt S s6.heap) (σ ++ [none]) H s6 := I0.pins_of fun p hp => by
    rcases List.mem_cons.mp hp with hp | hp
    · rw [hp]
      exact ⟨kp _ _ m.obj, fre a (Nat.le_of_lt hsz), Nat.ne_of_gt hsz, anf, m.objd⟩
    · obtain ⟨hbS, e⟩ := of_pinsAt hp
      obtain ⟨o, e', d⟩ := hSo _ hbS
      rw [e] at e'; cases e'
      exact ⟨e, fre _ (ap.apart _ hbS).1, (ap.apart _ hbS).2.1, (ap.apart _ hbS).2.2.2.2.2, d⟩
  have hlen : X.N.length = σ.length := m.inv.len.symm
  refine begin_gen (X' := gcx X scope x A s4 H s4.heap.objs.size code fp) (go := go) (N := N) (W := W) (Yv := Yv) (Qe := Qe) ap rfl rfl ?_ ?_ ?_ ok.loc ok.co m.turn hel rfl rfl (fun hm => ?_) R s6 s6 none H I ?_ (fun b hb => (m.fpo b hb).1.1) (fun b hb => ?_) w
  · show (X.N ++ [x]).Nodup
    rw [List.nodup_append]
    exact ⟨hN, by simp, fun y hy z hz e => hxN (by rw [List.mem_singleton.mp hz] at e; rw [← e]; exact hy)⟩
  · show (X.N ++ [x]).length = _
    simp [hlen]
  · show (X.N ++ [x])[σ.length]? = some x
    rw [List.getElem?_append_right (by omega)]
    simp [hlen]
  · exact absurd (Nat.lt_trans (m.fpo a hm).2 hsz) (Nat.lt_irrefl _)
  · exact m.turn.keep _ _ _ m.st fun b _ o e => kp4 b o e
  · obtain ⟨o, e, _⟩ := hSo b hb
    exact ⟨o, e⟩
/-- back in the def -/
theorem Made.back (m : Made X pins σ scope x elt iter px gpos H J s4 s5 a it g go code fp tn) {A : Around} {pl : List (Addr × Obj)} {σ' : L2.St} {H' : Hp} {s6 s7 : Shared} (I : Inv (gcx X scope x A s4 H s4.heap.objs.size code fp) pl σ' H' s6)
    (hos : s7.os = s6.os) (hb : AllBare s7.gens) (kp : ∀ b o, s6.heap.get? b = some o → s7.heap.get? b = some o) : Inv X pins σ H' s7 :=
  m.inv.call' (ch := fp) (hos.trans I.os) (I.base.trans (Un.kept kp)) (I.hok.kept kp) hb fun b hb => ⟨(m.fpo b hb).1.2.2.2.1, (m.fpo b hb).1.2.1, (m.fpo b hb).1.2.2.2.2.1, (m.fpo b hb).1.2.2.2.2.2⟩
end
end GX
end

section
set_option Elab.async false
set_option linter.all false
set_option maxRecDepth 100000
set_option maxHeartbeats 2000000
namespace GX
open PySem PySem.Spec PyProof.Rows L2 GenW

section
variable {X : Cx} {pins : List (Addr × Obj)} {σ : L2.St} {H : Hp}
  {scope : Scope} {x : Str} {elt iter : Expr} {px gpos : Pos} {J : It} {s4 s5 : Shared} {a it : Addr} {g : Nat} {go : Obj} {code : Value} {fp : List Addr} {tn : Nat → Heap → Prop} {te : TE} {N : Nat} {W : Nat → Hp → Prop}

theorem entry_all : entryFor table "all" = some Builtin.«all» := PySem.F.entry_all

/-- one turn of all(..) -/
theorem all_turn (m : Made X pins σ scope x elt iter px gpos H J s4 s5 a it g go code fp tn) {A : Around} {Q : VK} {Rr : Result → Shared → Prop} (hh : A.handled = none) (hd : A.depth < recursionLimit)
    (hR : ∀ b s', EP X pins σ Q (.bool b) s' → Rr (.ok (.ret (.bool b))) s') (n : Nat) (s : Shared) (hg : s.heap.IsGen a g) (hl : s.heap.NoLimit)
    (h : ∃ gs, s.gens[g]? = some gs ∧ gs.Goes (model X.prog X.w) A.in1.in1 (RG (gcx X scope x A.in1.in1 s4 H s4.heap.objs.size code fp) [] a go σ N W (fun H3 => Q (.bl true) H3))
        (YG (gcx X scope x A.in1.in1 s4 H s4.heap.objs.size code fp) [] a go fp tn σ N W (fun i y H3 => ∃ b, y = .bl b ∧ if b = true then W (i + 1) H3 else Q (.bl false) H3)) n (.send .none) (s.setGen g .running))
    (again : ∀ (m : Nat) (s1 : Shared) (gs' : GenState), n = m + 1 → s1.heap.IsGen a g → s1.heap.NoLimit → g < s1.gens.size →
        gs'.Goes (model X.prog X.w) A.in1.in1 (RG (gcx X scope x A.in1.in1 s4 H s4.heap.objs.size code fp) [] a go σ N W (fun H3 => Q (.bl true) H3))
          (YG (gcx X scope x A.in1.in1 s4 H s4.heap.objs.size code fp) [] a go fp tn σ N W (fun i y H3 => ∃ b, y = .bl b ∧ if b = true then W (i + 1) H3 else Q (.bl false) H3)) m (.send .none) ((s1.setGen g gs').setGen g .running) →
        codeAny (model X.prog X.w) A (.builtin "all.loop" ⟨[.ref a], []⟩) Rr (s1.setGen g gs')) :
    codeAny (model X.prog X.w) A (.builtin "all.loop" ⟨[.ref a], []⟩) Rr s := by
  obtain ⟨gs, hgs, hgo⟩ := h
  have hgl : g < s.gens.size := (Array.getElem?_eq_some_iff.mp hgs).1
  refine codeAny_builtin PySem.F.entry_all_loop ?_
  rw [Around.under_plainId PySem.F.plain_all_loop _]
  show wpAny _ A.in1 (pyNext (.ref a) >>= _) _ _ s
  refine wpAny_bind (wpAny_gsz (n := g + 1) hgl (wpAny_pyNext_genexpQ (A := A.in1) hh hl hd hg hgs hgo (fun v s1 gs' hb hv => ?_) (fun s1 hp h' hk => ?_)))
  · intro hsz
    have hsz1 : g < s1.gens.size := by
      have q : (s1.setGen g gs').gens.size = s1.gens.size := setGen_size _ _ _
      have hsz' : g + 1 ≤ (s1.setGen g gs').gens.size := hsz
      omega
    obtain ⟨i, y, o, H3, hi, rv, I, ⟨b, ey, hy⟩, hkap⟩ := hv
    subst ey
    obtain rfl : v = Value.bool b := rv
    refine wpAny_bind (wpAny_holding (wpAny_truthy_bool ?_))
    refine wpAny_bind (wpAny_letGo ?_)
    have hp := I.pin (a, go) (List.mem_append_right _ List.mem_cons_self)
    have hg1 : s1.heap.IsGen a g := by
      obtain ⟨o5, nm5, qn5, ho5, r5⟩ := m.gen
      rw [m.obj] at ho5
      cases ho5
      exact ⟨go, nm5, qn5, hp.1, r5⟩
    have hb1 : AllBare (s1.setGen g gs').gens := allBare_setGen I.bare hb
    cases b with
    | true =>
      simp only [if_true] at hy ⊢
      have hz : Slept [] s1 ((s1.setGen g gs').setGen g .running) := ⟨rfl, allBare_setGen hb1 rfl, fun _ _ _ e => e, fun b z => by cases z⟩
      have k := hkap _ hz hy
      refine wpAny_pure ⟨plainId_quiet PySem.F.plain_all_loop _, ?_⟩
      cases n with
      | zero => exact False.elim k
      | succ m' => exact again m' s1 gs' rfl hg1 I.nolimit hsz1 k
    | false =>
      simp only [Bool.false_eq_true, if_false] at hy ⊢
      refine wpAny_bind (wpAny_rule (wpAny_pure (hR _ _ ?_)))
      exact ⟨.bl false, H3, m.back I rfl hb1 fun _ _ e => e, rfl, hy⟩
  · intro _
    obtain ⟨hn, o, H3, I, q⟩ := hp
    refine wpAny_bind (wpAny_rule (wpAny_pure (hR _ _ ?_)))
    exact ⟨.bl true, H3, m.back I rfl (allBare_setGen I.bare rfl) hk, rfl, q⟩
theorem all_loop (m : Made X pins σ scope x elt iter px gpos H J s4 s5 a it g go code fp tn) {A : Around} {Q : VK} {Rr : Result → Shared → Prop} (hh : A.handled = none) (hd : A.depth < recursionLimit)
    (hR : ∀ b s', EP X pins σ Q (.bool b) s' → Rr (.ok (.ret (.bool b))) s') :
    ∀ (n : Nat) (s : Shared), s.heap.IsGen a g → s.heap.NoLimit →
      (∃ gs, s.gens[g]? = some gs ∧ gs.Goes (model X.prog X.w) A.in1.in1 (RG (gcx X scope x A.in1.in1 s4 H s4.heap.objs.size code fp) [] a go σ N W (fun H3 => Q (.bl true) H3))
        (YG (gcx X scope x A.in1.in1 s4 H s4.heap.objs.size code fp) [] a go fp tn σ N W (fun i y H3 => ∃ b, y = .bl b ∧ if b = true then W (i + 1) H3 else Q (.bl false) H3)) n (.send .none) (s.setGen g .running)) →
      codeAny (model X.prog X.w) A (.builtin "all.loop" ⟨[.ref a], []⟩) Rr s := by
  intro n
  induction n with
  | zero => exact fun s hg hl h => all_turn m hh hd hR 0 s hg hl h fun m' _ _ e => by omega
  | succ n ih =>
    intro s hg hl h
    refine all_turn m hh hd hR (n + 1) s hg hl h fun m' s1 gs' e hg1 hl1 hsz hgo => ?_
    obtain rfl : n = m' := by omega
    exact ih (s1.setGen g gs') hg1 hl1 ⟨gs', setGen_at hsz, hgo⟩
end

/-! ### all(elt for x in iter) -/
section
variable {X : Cx}
def tAllG (P : Addr) (wi : TI) (te : TE) : TE := fun σ H Q => wi σ H fun J H1 => GxR.TabG H1 P ∧ ∀ H2, GxR.Tabbed P H1 H2 → ∃ (N : Nat) (W : Nat → Hp → Prop), W 0 H2 ∧
  GTurn J te σ N W (fun i y H3 => ∃ b, y = .bl b ∧ if b = true then W (i + 1) H3 else Q (.bl false) H3) (fun H3 => Q (.bl true) H3)
theorem pe_allG {c P : Addr} {elt iter : Expr} {x : Str} {px p pos gpos : Pos} {scope : Scope} {wi : TI} {te : TE} {k : Nat}
    (hr : Room (k + 2) X.A) (hg : Gl X "all") (hm : X.mg "all" = none) (TB : GxR.TabB X.base X.mg c P) (hcode : X.env.code = .ref c) (hN : X.N.Nodup) (hfr : X.A.frames = some X.stack) (ok : GOk X.N X.env.scope scope x) (hxN : x ∉ X.N) (hi : PI X (.Name x px) iter wi)
    (hel : ∀ (A : Around) (s : Shared) (H : Hp) (C : Addr) (code : Value) (fp : List Addr), Room k (gcx X scope x A s H C code fp).A → PE (gcx X scope x A s H C code fp) elt te)
    (hs : ∀ v, genFold iter X.env v = pure v := by intro _; rfl)
    (he : starEach [.GeneratorExp elt [⟨.Name x px, iter, [], 0⟩] scope gpos] X.env = (false, eval (.GeneratorExp elt [⟨.Name x px, iter, [], 0⟩] scope gpos) X.env) :: starEach [] X.env := by rfl) :
    PE X (.Call (.Name "all" p) [.GeneratorExp elt [⟨.Name x px, iter, [], 0⟩] scope gpos] [] pos) (tAllG P wi te) := by
  refine ⟨fun pins s σ H Q I h => ?_⟩
  refine wpAny_Call_Name_kw (ld_blt I hg hm (show bootBuiltins "all" = some (.builtin "all") by decide +kernel) ?_)
  refine PyProof.Rows.callWith_builtin1 ?_ he (by rfl)
  rw [he]
  show wpAny _ _ (spliced ((false, eval (.GeneratorExp elt [⟨.Name x px, iter, [], 0⟩] scope gpos) X.env) :: backTo pos (starEach [] X.env))) _ _ s
  refine Calls.spliced_cons (make_gen hr.hd hr.depth TB hcode ok hi hs I h fun J H1 H2 s4 s5 a it g go code fp tn hR hT m => ?_)
  refine Calls.spliced_nil ?_
  obtain ⟨N, W, w0, R⟩ := hR H2 hT
  refine call_function_tree PySem.F.kind_all PySem.F.plain_all PySem.F.entry_all (PySem.F.args_all1 _) ?_
  unfold Builtin.«all»
  refine wpAny_bind (m := oneArg "all" _) (wpAny_pure ?_)
  refine wpAny_bind (wpAny_pyIter_gen m.gen ?_)
  refine wpAny_pure ⟨plainId_quiet PySem.F.plain_all_loop _, ?_⟩
  refine all_loop (N := N) (W := W) (Q := Q) (Rr := fun r s' => match r with | .ok (.ret v) => EP X pins σ Q v s' | .ok _ => False | .error e => X.xe e s') m hr.hd hr.depth (fun b s' h => h) N s5 m.gen m.lim ⟨_, m.fresh, rfl, ?_⟩
  refine m.seg ok hN hxN (A := X.A.in1.in1) hr.hd hfr (hel _ _ _ _ _ _ ?_) (S := []) (fun b z => by cases z) R w0 (s5.setGen g .running) rfl (allBare_setGen m.bare rfl) (fun _ _ e => e) (fun b z => by cases z)
  refine ⟨hr.hd, ?_, ?_⟩
  · have := hr.dp
    show X.A.depth + 1 + 3 * k + 5 < _
    omega
  · have := hr.un
    show X.A.units + 1 + 1 + 3 + 16 * k + 200 < _
    omega
end
end GX
end

section
set_option Elab.async false
set_option linter.all false
set_option maxRecDepth 100000
set_option maxHeartbeats 2000000
namespace GX
open PySem PySem.Spec PyProof.Rows L2 GenW

section
variable {X : Cx} {pins : List (Addr × Obj)} {σ : L2.St} {H : Hp}
  {scope : Scope} {x : Str} {elt iter : Expr} {px gpos : Pos} {J : It} {s4 s5 : Shared} {a it : Addr} {g : Nat} {go : Obj} {code : Value} {fp : List Addr} {tn : Nat → Heap → Prop} {te : TE} {W : Nat → Hp → Prop} {ys : List V} {Qe : Hp → Prop}

/-- one turn of filling the consumer's list at S -/
theorem ext_turn (m : Made X pins σ scope x elt iter px gpos H J s4 s5 a it g go code fp tn) {A : Around} {S : Addr} {res : Value} {Rr : Result → Shared → Prop} (hh : A.handled = none) (hd : A.depth < recursionLimit) (hz : ys.length ≤ sizeLine) (hSa : S ≠ a)
    (hR : ∀ s' acc c H', Inv X pins σ H' s' → s'.heap.get? S = some (lstObj acc c) → Vals ys acc.toList → Qe H' → Rr (.ok (.ret res)) s') (n : Nat) (s : Shared) (acc : Array Value) (c : Nat) (hg : s.heap.IsGen a g) (hl : s.heap.NoLimit)
    (eS : s.heap.get? S = some (lstObj acc c)) (hacc : Vals (ys.take (ys.length - n)) acc.toList) (hn : n ≤ ys.length)
    (h : ∃ gs, s.gens[g]? = some gs ∧ gs.Goes (model X.prog X.w) A.in1.in1 (RG (gcx X scope x A.in1.in1 s4 H s4.heap.objs.size code fp) [S] a go σ ys.length W Qe)
        (YG (gcx X scope x A.in1.in1 s4 H s4.heap.objs.size code fp) [S] a go fp tn σ ys.length W (fun i y H3 => ys[i]? = some y ∧ W (i + 1) H3)) n (.send .none) (s.setGen g .running))
    (again : ∀ (m : Nat) (s2 : Shared) (acc : Array Value) (c : Nat), n = m + 1 → s2.heap.IsGen a g → s2.heap.NoLimit → s2.heap.get? S = some (lstObj acc c) → Vals (ys.take (ys.length - m)) acc.toList →
        (∃ gs, s2.gens[g]? = some gs ∧ gs.Goes (model X.prog X.w) A.in1.in1 (RG (gcx X scope x A.in1.in1 s4 H s4.heap.objs.size code fp) [S] a go σ ys.length W Qe)
          (YG (gcx X scope x A.in1.in1 s4 H s4.heap.objs.size code fp) [S] a go fp tn σ ys.length W (fun i y H3 => ys[i]? = some y ∧ W (i + 1) H3)) m (.send .none) (s2.setGen g .running)) →
        codeAny (model X.prog X.w) A (.builtin "list.extend.loop" ⟨[.ref S, .ref a, res], []⟩) Rr s2) :
    codeAny (model X.prog X.w) A (.builtin "list.extend.loop" ⟨[.ref S, .ref a, res], []⟩) Rr s := by
  obtain ⟨gs, hgs, hgo⟩ := h
  have hgl : g < s.gens.size := (Array.getElem?_eq_some_iff.mp hgs).1
  have hasz : acc.size = ys.length - n := by
    have e1 := hacc.length
    have e2 : acc.toList.length = acc.size := by simp
    rw [List.length_take] at e1
    omega
  refine codeAny_builtin PySem.F.entry_extend_loop ?_
  rw [Around.under_plainId PySem.F.plain_extend_loop _]
  show wpAny _ A.in1 (pyNext (.ref a) >>= _) _ _ s
  refine wpAny_bind (wpAny_gsz (n := g + 1) hgl (wpAny_pyNext_genexpQ (A := A.in1) hh hl hd hg hgs hgo (fun v s1 gs' hb hv => ?_) (fun s1 hp h' hk => ?_)))
  · intro hsz
    have hsz1 : g < s1.gens.size := by
      have q : (s1.setGen g gs').gens.size = s1.gens.size := setGen_size _ _ _
      have hsz' : g + 1 ≤ (s1.setGen g gs').gens.size := hsz
      omega
    obtain ⟨i, y, o, H3, hi, rv, I, ⟨hy, hw⟩, hkap⟩ := hv
    have hlt : i < ys.length := (List.getElem?_eq_some_iff.mp hy).1
    have hp := I.pin (a, go) (List.mem_append_right _ List.mem_cons_self)
    have pS := I.pin (S, lstObj acc c) (List.mem_append_right _ (List.mem_cons_of_mem _ (mem_pinsAt List.mem_cons_self eS)))
    have eS1 : s1.heap.get? S = some (lstObj acc c) := pS.1
    have hg1 : s1.heap.IsGen a g := by
      obtain ⟨o5, nm5, qn5, ho5, r5⟩ := m.gen
      rw [m.obj] at ho5
      cases ho5
      exact ⟨go, nm5, qn5, hp.1, r5⟩
    have hb1 : AllBare (s1.setGen g gs').gens := allBare_setGen I.bare hb
    have hSn : ∀ b ∈ ([S] : List Addr), b = S := fun b z => List.mem_singleton.mp z
    have keep3 : ∀ b o, b ≠ S → s1.heap.get? b = some o → (s1.heap.update S (Obj.mapSeq (·.push v))).get? b = some o := fun b o hbS e => (Heap.get?_update_other _ _ (Ne.symm hbS)).trans e
    have eS2 := Heap.get?_update_self (Obj.mapSeq (·.push v)) eS1 rfl
    have hz2 : Slept [S] s1 (({ s1.setGen g gs' with heap := s1.heap.update S (Obj.mapSeq (·.push v)) } : Shared).setGen g .running) := ⟨rfl, allBare_setGen (s := { s1.setGen g gs' with heap := _ }) hb1 rfl, fun b o hb e => keep3 b o (fun z => hb (by rw [z]; exact List.mem_cons_self)) e, fun b hb => by
      rw [hSn b hb]
      exact ⟨_, eS2, fun v q => by cases q⟩⟩
    have k := hkap _ hz2 hw
    cases n with
    | zero => exact False.elim k
    | succ m' =>
      have hi2 : i = ys.length - (m' + 1) := by omega
      show wpAny _ A.in1 (updateSeq S (·.push v) >>= _) _ _ _
      refine wpAny_bind ?_
      refine wpAny_updateSeq eS1 rfl (wpAny_pure ⟨plainId_quiet PySem.F.plain_extend_loop _, ?_⟩) (by omega) (by show (acc.push v).size ≤ sizeLine + 1; rw [Array.size_push]; omega)
      refine again m' { s1.setGen g gs' with heap := s1.heap.update S (Obj.mapSeq (·.push v)) } (acc.push v) _ rfl ?_ ?_ eS2 ?_ ⟨gs', setGen_at hsz1, k⟩
      · obtain ⟨o', nm, qn, ho, r⟩ := hg1
        exact ⟨o', nm, qn, keep3 a o' (Ne.symm hSa) ho, r⟩
      · have hl1 := I.nolimit
        obtain ⟨mc, hns, hnn⟩ := hl1
        refine ⟨mc, hns.at' fun o e => keep3 _ o (fun z => ?_) e, hnn⟩
        obtain ⟨o2, es, ep, ho2, hd2, _⟩ := hns
        rw [z, eS1] at ho2
        cases ho2
        cases hd2
      · have e1 : ys.take (ys.length - m') = ys.take (ys.length - (m' + 1)) ++ [y] := by
          rw [show ys.length - m' = (ys.length - (m' + 1)) + 1 by omega, List.take_add_one, ← hi2, hy]
          rfl
        rw [e1, Array.toList_push]
        exact hacc.append (.cons rv .nil)
  · intro _
    obtain ⟨hn0, o, H3, I, q⟩ := hp
    have pS := I.pin (S, lstObj acc c) (List.mem_append_right _ (List.mem_cons_of_mem _ (mem_pinsAt List.mem_cons_self eS)))
    refine wpAny_pure (hR _ acc c H3 (m.back I rfl (allBare_setGen I.bare rfl) hk) (hk _ _ pS.1) ?_ q)
    subst hn0
    rw [Nat.sub_zero, List.take_length] at hacc
    exact hacc
theorem ext_loop (m : Made X pins σ scope x elt iter px gpos H J s4 s5 a it g go code fp tn) {A : Around} {S : Addr} {res : Value} {Rr : Result → Shared → Prop} (hh : A.handled = none) (hd : A.depth < recursionLimit) (hz : ys.length ≤ sizeLine) (hSa : S ≠ a)
    (hR : ∀ s' acc c H', Inv X pins σ H' s' → s'.heap.get? S = some (lstObj acc c) → Vals ys acc.toList → Qe H' → Rr (.ok (.ret res)) s') :
    ∀ (n : Nat) (s : Shared) (acc : Array Value) (c : Nat), s.heap.IsGen a g → s.heap.NoLimit → s.heap.get? S = some (lstObj acc c) → Vals (ys.take (ys.length - n)) acc.toList → n ≤ ys.length →
      (∃ gs, s.gens[g]? = some gs ∧ gs.Goes (model X.prog X.w) A.in1.in1 (RG (gcx X scope x A.in1.in1 s4 H s4.heap.objs.size code fp) [S] a go σ ys.length W Qe)
        (YG (gcx X scope x A.in1.in1 s4 H s4.heap.objs.size code fp) [S] a go fp tn σ ys.length W (fun i y H3 => ys[i]? = some y ∧ W (i + 1) H3)) n (.send .none) (s.setGen g .running)) →
      codeAny (model X.prog X.w) A (.builtin "list.extend.loop" ⟨[.ref S, .ref a, res], []⟩) Rr s := by
  intro n
  induction n with
  | zero => exact fun s acc c hg hl eS hacc hn h => ext_turn m hh hd hz hSa hR 0 s acc c hg hl eS hacc hn h fun m' _ _ _ e => absurd e (by omega)
  | succ n ih =>
    intro s acc c hg hl eS hacc hn h
    refine ext_turn m hh hd hz hSa hR (n + 1) s acc c hg hl eS hacc hn h fun m' s2 acc2 c2 e hg2 hl2 eS2 hacc2 h2 => ?_
    obtain rfl : n = m' := by omega
    exact ih s2 acc2 c2 hg2 hl2 eS2 hacc2 (by omega) h2

/-- all items collected -/
theorem collect_gen (m : Made X pins σ scope x elt iter px gpos H J s4 s5 a it g go code fp tn) {A : Around} {E : Value → Shared → Prop} {Q : List Value → Shared → Prop} {k : Nat} (hr : Room (k + 1) A.in1.in1) (hfr : A.frames = some X.stack) (hz : ys.length ≤ sizeLine)
    (ok : GOk X.N X.env.scope scope x) (hN : X.N.Nodup) (hxN : x ∉ X.N) (hel : ∀ (A : Around), Room k (gcx X scope x A s4 H s4.heap.objs.size code fp).A → PE (gcx X scope x A s4 H s4.heap.objs.size code fp) elt te)
    (R : GTurn J te σ ys.length W (fun i y H3 => ys[i]? = some y ∧ W (i + 1) H3) Qe) (w : W 0 H)
    (hQ : ∀ s' us H', Inv X pins σ H' s' → Vals ys us → Qe H' → Q us s') :
    wpAny (model X.prog X.w) A (collect (.ref a)) Q E s5 := by
  have ha : a < s5.heap.objs.size := Nat.lt_of_lt_of_eq (Nat.lt_succ_self a) m.sz5.symm
  have hSa : s5.heap.objs.size ≠ a := Nat.ne_of_gt ha
  have hT : ∀ {h : Heap}, (∀ b o, s5.heap.get? b = some o → h.get? b = some o) → h.IsGen a g := fun q => m.gen.keeps q
  unfold collect
  refine wpAny_bind (wpAny_runValue (codeAny_builtin PySem.F.entry_proto_collect ?_))
  rw [Around.under_plainId PySem.F.plain_proto_collect _]
  show wpAny _ A.in1 (newList [] >>= fun l => again (.builtin "list.__iadd__" ⟨[l, .ref a], []⟩)) _ _ s5
  refine wpAny_bind (wpAny_newObj_type ?_ (by show 0 ≤ sizeLine; decide))
  refine wpAny_pure ⟨plainId_quiet PySem.F.plain_list_iadd _, codeAny_builtin PySem.F.entry_list_iadd ?_⟩
  rw [Around.under_plainId PySem.F.plain_list_iadd _]
  show wpAny _ A.in1 (Builtin.List.listExtendWith (.ref s5.heap.objs.size) (.ref a) (.ref s5.heap.objs.size)) _ _ _
  unfold Builtin.List.listExtendWith
  have k1 : ∀ b o, s5.heap.get? b = some o → (s5.heap.push { cls := .type "list", data := .seq ([] : List Value).toArray }).get? b = some o := fun b o e => Heap.get?_push_of_some _ e
  refine wpAny_bind (wpAny_typeOf (Heap.IsGen.typeIs (s := { s5 with heap := _ }) (hT k1)) ?_)
  have h1 : Builtin.List.listSameRef (.ref s5.heap.objs.size) (.ref a) = false := by simp [Builtin.List.listSameRef, hSa]
  have h2 : (Value.type "generator" == Value.type "list") = false := by decide
  have h3 : (Value.type "generator" == Value.type "tuple") = false := by decide
  simp only [h1, h2, h3, Bool.or_false, Bool.false_eq_true, if_false]
  refine wpAny_bind (wpAny_pyIter_gen (s := { s5 with heap := _ }) (hT k1) ?_)
  refine wpAny_bind (wpAny_holding ?_)
  unfold Builtin.List.listLengthHint
  refine wpAny_bind (wpAny_specialOf (Heap.IsGen.typeIs (s := { s5 with heap := _ }) (hT k1)) PySem.F.gen_no_len ?_)
  show wpAny _ A.in1 (specialOf (Value.ref a) (Str.ofString "__length_hint__") >>= _) _ _ _
  refine wpAny_bind (wpAny_specialOf (Heap.IsGen.typeIs (s := { s5 with heap := _ }) (hT k1)) PySem.F.gen_no_hint ?_)
  refine wpAny_pure ?_
  show wpAny _ A.in1 (rule "list.extend.makes-room" >>= fun _ => Builtin.List.listTouch (.ref s5.heap.objs.size) >>= fun _ =>
    again (.builtin "list.extend.loop" ⟨[.ref s5.heap.objs.size, .ref a, .ref s5.heap.objs.size], []⟩)) _ _ _
  refine wpAny_bind (wpAny_rule ?_)
  have hS1 : (s5.heap.push { cls := .type "list", data := .seq ([] : List Value).toArray }).get? s5.heap.objs.size = some { cls := .type "list", data := .seq ([] : List Value).toArray } := Heap.get?_push_size _ rfl
  refine wpAny_bind ?_
  show wpAny _ A.in1 (updateSeq s5.heap.objs.size (·.push .none) >>= fun _ => updateSeq s5.heap.objs.size (·.pop)) _ _ _
  refine wpAny_bind (wpAny_updateSeq hS1 rfl ?_)
  have hS2 := Heap.get?_update_self (Obj.mapSeq (·.push Value.none)) hS1 rfl
  refine wpAny_updateSeq hS2 rfl ?_
  have hS3 := Heap.get?_update_self (Obj.mapSeq (·.pop)) hS2 rfl
  have up : ∀ (h : Heap) (f : Obj → Obj), (∀ b o, s5.heap.get? b = some o → h.get? b = some o) → ∀ b o, s5.heap.get? b = some o → (h.update s5.heap.objs.size f).get? b = some o := fun h f q b o e =>
    (Heap.get?_update_other _ _ (Ne.symm (Nat.ne_of_lt (Heap.lt_size e)))).trans (q b o e)
  have k3 := up _ (Obj.mapSeq (·.pop)) (up _ (Obj.mapSeq (·.push Value.none)) k1)
  refine wpAny_pure ⟨plainId_quiet PySem.F.plain_extend_loop _, ext_loop (ys := ys) (W := W) (Qe := Qe) m (A := A) hr.hd (by have h : A.depth + 3 * (k + 1) + 5 < recursionLimit := hr.dp; omega) hz hSa (fun s' acc c H' I eS hv q => ?_) ys.length _ #[] _ (hT k3) (m.lim.keeps k3) hS3 (by rw [Nat.sub_self]; exact .nil) (Nat.le_refl _) ⟨_, m.fresh, rfl, ?_⟩⟩
  · show wpAny _ A (load s5.heap.objs.size >>= _) _ _ s'
    refine wpAny_bind (wpAny_load eS ?_)
    exact wpAny_pure (hQ s' _ H' I hv q)
  · refine m.seg ok hN hxN (A := A.in1.in1) hr.hd hfr (hel _ ?_) (S := [s5.heap.objs.size]) (fun b z => by rw [List.mem_singleton.mp z]; exact ha) R w _ rfl (allBare_setGen (s := { s5 with heap := _ }) m.bare rfl) k3 (fun b z => by rw [List.mem_singleton.mp z]; exact ⟨_, hS3, fun v q => by cases q⟩)
    exact hr.deeper _
end
end GX
end

section
set_option Elab.async false
set_option linter.all false
set_option maxRecDepth 100000
set_option maxHeartbeats 2000000
namespace GX
open PySem PySem.Spec PyProof.Rows L2 GenW
open AutoSeq1 (wpAny_loadPart')
section
variable {X : Cx}
theorem room4 {k : Nat} {A : Around} (r : Room (k + 2) A) : Room (k + 1) A.in1.in1.in1.in1 :=
  ⟨r.hd, by have h : A.depth + 3 * (k + 2) + 5 < recursionLimit := r.dp; show A.depth + 3 * (k + 1) + 5 < _; omega, by have h : A.units + 16 * (k + 2) + 200 < cLine := r.un; show A.units + 1 + 1 + 1 + 1 + 16 * (k + 1) + 200 < _; omega⟩
theorem room3 {k : Nat} {A : Around} (r : Room (k + 2) A) : Room (k + 1) A.in1.in1.in1 :=
  ⟨r.hd, by have h : A.depth + 3 * (k + 2) + 5 < recursionLimit := r.dp; show A.depth + 3 * (k + 1) + 5 < _; omega, by have h : A.units + 16 * (k + 2) + 200 < cLine := r.un; show A.units + 1 + 1 + 1 + 16 * (k + 1) + 200 < _; omega⟩
/-- what is handed out, in order, is ys; then Qe -/
def tSeqG (P : Addr) (wi : TI) (te : TE) (Qf : List V → Hp → Prop) : L2.St → Hp → Prop := fun σ H => wi σ H fun J H1 => GxR.TabG H1 P ∧ ∀ H2, GxR.Tabbed P H1 H2 → ∃ (ys : List V) (W : Nat → Hp → Prop), ys.length ≤ sizeLine ∧ W 0 H2 ∧
  GTurn J te σ ys.length W (fun i y H3 => ys[i]? = some y ∧ W (i + 1) H3) (Qf ys)
def tTupG (P : Addr) (wi : TI) (te : TE) : TE := fun σ H Q => tSeqG P wi te (fun ys H3 => ∀ p, H3 p = none → Q (.ref p) (upd H3 p (.tup ys))) σ H
/-- tuple(elt for x in iter) -/
theorem pe_tupG {c P : Addr} {elt iter : Expr} {x : Str} {px p pos gpos : Pos} {scope : Scope} {wi : TI} {te : TE} {k : Nat}
    (hr : Room (k + 2) X.A) (hg : Gl X "tuple") (hm : X.mg "tuple" = none) (TB : GxR.TabB X.base X.mg c P) (hcode : X.env.code = .ref c) (hN : X.N.Nodup) (hfr : X.A.frames = some X.stack) (ok : GOk X.N X.env.scope scope x) (hxN : x ∉ X.N) (hi : PI X (.Name x px) iter wi)
    (hel : ∀ (A : Around) (s : Shared) (H : Hp) (C : Addr) (code : Value) (fp : List Addr), Room k (gcx X scope x A s H C code fp).A → PE (gcx X scope x A s H C code fp) elt te)
    (hs : ∀ v, genFold iter X.env v = pure v := by intro _; rfl)
    (he : starEach [.GeneratorExp elt [⟨.Name x px, iter, [], 0⟩] scope gpos] X.env = (false, eval (.GeneratorExp elt [⟨.Name x px, iter, [], 0⟩] scope gpos) X.env) :: starEach [] X.env := by rfl) :
    PE X (.Call (.Name "tuple" p) [.GeneratorExp elt [⟨.Name x px, iter, [], 0⟩] scope gpos] [] pos) (tTupG P wi te) := by
  refine ⟨fun pins s σ H Q I h => ?_⟩
  refine wpAny_Call_Name_kw (ld_blt I hg hm (show bootBuiltins "tuple" = some (.type "tuple") by decide +kernel) ?_)
  refine PyProof.Rows.callWith_type1 ?_ he rfl
  rw [he]
  show wpAny _ _ (spliced ((false, eval (.GeneratorExp elt [⟨.Name x px, iter, [], 0⟩] scope gpos) X.env) :: backTo pos (starEach [] X.env))) _ _ s
  refine Calls.spliced_cons (make_gen hr.hd hr.depth TB hcode ok hi hs I h fun J H1 H2 s4 s5 a it g go code fp tn hR hT m => ?_)
  refine Calls.spliced_nil ?_
  obtain ⟨ys, W, hz, w0, R⟩ := hR H2 hT
  refine callType_codes (Q₁ := fun obj s₁ => s₁.TypeIs obj "tuple" ∧ EP X pins σ Q obj s₁) PySem.F.called_tuple (PySem.F.typeCall_tuple_1 _) PySem.F.entry_object_init ?_ fun obj s₁ h₁ =>
    ⟨h₁.1, PySem.F.args_object_init_2 obj _, object_init_meets PySem.F.called_tuple.init.lookup PySem.F.called_tuple.made (by decide) X.prog X.w X.A.in1 _ s₁ ⟨h₁.1, rfl, h₁.2⟩⟩
  refine codeAny_of_tree ?_
  show wpAny _ X.A.in1.in1 (do checkBuiltinCall "tuple.__new__" ⟨[.type "tuple", .ref a], []⟩; again (.builtin "tuple.__new__" ⟨[.type "tuple", .ref a], []⟩)) _ _ s5
  refine wpAny_bind (wpAny_of_eq (PySem.F.newCall_tuple_1 _) (wpAny_pure ⟨plainId_quiet PySem.F.plain_tuple_new _, codeAny_builtin PySem.F.entry_tuple_new ?_⟩))
  rw [Around.under_plainId PySem.F.plain_tuple_new _]
  have hsub := sub_tuple_self
  have hinit := init_tuple_lookup
  have hmh := madeHere_tuple
  have hTI : s5.TypeIs (.ref a) "generator" := Heap.IsGen.typeIs (s := s5) m.gen
  wp_walk using wpAny_typeOf hTI, collect_gen (ys := ys) (W := W) (k := k) m (A := X.A.in1.in1) (room4 hr) hfr hz ok hN hxN (fun A hA => hel A s4 H2 s4.heap.objs.size code fp hA) R w0
  intro s' us H' I' hv q
  show wpAny _ _ (Builtin.Tuple.tupleExact us.toArray >>= fun v => ret v) _ _ _
  unfold Builtin.Tuple.tupleExact
  refine wpAny_bind (wpAny_newObj_type ?_ (by have := hv.length; first | omega | (show us.toArray.size ≤ sizeLine; rw [List.size_toArray]; omega)))
  refine wpAny_pure ?_
  refine ⟨⟨_, Heap.get?_push_size _ rfl, rfl⟩, .ref s'.heap.objs.size, upd H' s'.heap.objs.size (.tup ys), I'.laid (t' := s'.toks) (fun b u e => Heap.get?_push_of_some _ e) (Nat.le_refl _) ?_, rfl, q _ (I'.hok.fresh (Nat.le_refl _))⟩
  exact ⟨hz, us, hv, ⟨_, Heap.get?_push_size _ rfl, rfl, _, rfl⟩⟩
/-- sep.join(elt for x in iter) -/
def tJoinG (P : Addr) (to : TE) (wi : TI) (te : TE) : TE := fun σ H Q => to σ H fun v H1 => ∃ sep : Str, v = .str sep ∧ tSeqG P wi te (fun ys H3 => ∃ ws : List Str, ys = ws.map V.str ∧ JoinOk sep ws = true ∧ Q (.str (Txt.join sep ws)) H3) σ H1
theorem strs_of : ∀ {ws : List Str} {us : List Value}, Vals (ws.map V.str) us → ∃ l : List (Str × Tok), strValues l = us ∧ l.map (·.1) = ws
  | [], _, r => by
    cases r
    exact ⟨[], rfl, rfl⟩
  | w :: ws, us, r => by
    cases r with
    | cons r1 r2 =>
      obtain ⟨t, rfl⟩ := r1
      obtain ⟨l, e1, e2⟩ := strs_of r2
      refine ⟨(w, t) :: l, ?_, ?_⟩
      · rw [← e1]; rfl
      · rw [← e2]; rfl
theorem pe_joinG {c P : Addr} {o elt iter : Expr} {x : Str} {px apos cpos gpos : Pos} {scope : Scope} {to : TE} {wi : TI} {te : TE} {k : Nat}
    (hr : Room (k + 2) X.A) (TB : GxR.TabB X.base X.mg c P) (hcode : X.env.code = .ref c) (hN : X.N.Nodup) (hfr : X.A.frames = some X.stack) (ok : GOk X.N X.env.scope scope x) (hxN : x ∉ X.N) (ho : PE X o to) (hi : PI X (.Name x px) iter wi)
    (hel : ∀ (A : Around) (s : Shared) (H : Hp) (C : Addr) (code : Value) (fp : List Addr), Room k (gcx X scope x A s H C code fp).A → PE (gcx X scope x A s H C code fp) elt te)
    (hs : ∀ v, genFold iter X.env v = pure v := by intro _; rfl) (hbase : attributeBase o "join" X.env (eval o X.env) = eval o X.env := by rfl)
    (hfew : ((backTo cpos (starEach [.GeneratorExp elt [⟨.Name x px, iter, [], 0⟩] scope gpos] X.env)).all (fun x => !x.1) && (backToKw cpos (keywordEach [] X.env)).all (fun x => x.1.isSome)
      && decide (([.GeneratorExp elt [⟨.Name x px, iter, [], 0⟩] scope gpos] : List Expr).length + ([] : List Keyword).length + (if ([] : List Keyword).isEmpty then 0 else 1) < 30)) = true := by rfl)
    (hline : (apos.endLine == cpos.line) = true := by rfl)
    (he : starEach [.GeneratorExp elt [⟨.Name x px, iter, [], 0⟩] scope gpos] X.env = (false, eval (.GeneratorExp elt [⟨.Name x px, iter, [], 0⟩] scope gpos) X.env) :: starEach [] X.env := by rfl)
    (hplain : (backTo cpos (starEach [] X.env)).any (·.1) = false := by rfl) :
    PE X (.Call (.Attribute o "join" apos) [.GeneratorExp elt [⟨.Name x px, iter, [], 0⟩] scope gpos] [] cpos) (tJoinG P to wi te) := by
  refine ⟨fun pins s σ H Q I h => ?_⟩
  refine wpAny_Call_method_late hbase hfew hline rfl (thn (ho.run pins s σ H _ I h) fun v s1 ⟨x', H1, I1, r1, sep, ex, q1⟩ => ?_)
  subst ex
  obtain ⟨tk, rfl⟩ := (show ∃ t, v = Value.str sep t from r1)
  refine ⟨"str", _, PySem.F.plainAttrs_str, PySem.F.slot_str_join, PySem.F.type_str_join, typeIs_str _ _ _, (fun _ e => nomatch e), ?_⟩
  rw [he]
  refine Calls.callWith_builtin (by show (false || (backTo cpos (starEach [] X.env)).any (·.1)) = false; rw [hplain] <;> rfl) (Calls.evalArgs_plain ?_)
  show wpAny _ _ (spliced ((false, eval (.GeneratorExp elt [⟨.Name x px, iter, [], 0⟩] scope gpos) X.env) :: backTo cpos (starEach [] X.env))) _ _ s1
  refine Calls.spliced_cons (make_gen hr.hd hr.depth TB hcode ok hi hs I1 q1 fun J H1 H2 s4 s5 a it g go code fp tn hR hT m => ?_)
  refine Calls.spliced_nil ?_
  obtain ⟨ys, W, hz, w0, R⟩ := hR H2 hT
  refine wpAny_call (codeAny_call_builtin PySem.F.slot_str_join.plain PySem.F.entry_str_join (PySem.F.slot_str_join.check _ _ _ _ _ _ _ _ (typeIs_str _ _ _) (PySem.F.args_str_join_2 _ _) ?_))
  show wpAny _ X.A.in1 (Builtin.«str.join» ⟨[.str sep tk, .ref a], []⟩) _ _ s5
  rw [join_tree_other]
  refine wpAny_bind (wpAny_typeOf (Heap.IsGen.typeIs (s := s5) m.gen) ?_)
  show wpAny _ X.A.in1 ((pyIter (.ref a)).tryCatch _ >>= fun it => collect it >>= fun items => joinTail sep items) _ _ s5
  refine wpAny_bind (wpAny_tryCatch (wpAny_pyIter_gen m.gen ?_))
  refine wpAny_bind (collect_gen (ys := ys) (W := W) (k := k) m (A := X.A.in1) (room3 hr) hfr hz ok hN hxN (fun A hA => hel A s4 H2 s4.heap.objs.size code fp hA) R w0 fun s' us H' I' hv q => ?_)
  obtain ⟨ws, ey, jok, q⟩ := q
  subst ey
  obtain ⟨l, hl, hlw⟩ := strs_of hv
  rw [← hl]
  have hok : JoinOk sep (l.map (·.1)) = true := by rw [hlw]; exact jok
  unfold JoinOk at hok
  rw [Bool.not_eq_true'] at hok
  have g0 : Gives (joinTail sep (strValues l)) (joinMade sep l) := by
    have g0 := gives_joinTail sep l hok
    cases l with
    | nil => exact g0
    | cons p r => cases r with
      | nil => exact g0
      | cons q r' => exact g0
  refine g0 X.prog X.w X.A (wants (EP X pins σ Q) X.xe) s' (post_join l ⟨joinFit_length hok, fun t' k' => ?_⟩)
  rw [hlw]
  exact ⟨.str _, H', I'.tok k', ⟨t', rfl⟩, q⟩

/-! ### the turns one uses -/
theorem turn_tup {K : PySem.W.Frag} {a : Addr} {xs : List V} {te : TE} {σ : L2.St} {Yv : Nat → V → Hp → Prop} {Qe : Hp → Prop} {N : Nat} (Pv : Nat → Hp → Prop) (hN : N = xs.length) (hl : ∀ i H, i ≤ xs.length → Pv i H → SqT K H a xs)
    (hs : ∀ i x H, xs[i]? = some x → Pv i H → te (σ ++ [some x]) H fun y H3 => Yv i y H3) (hd : ∀ H, Pv xs.length H → Qe H) : GTurn (Itt K a) te σ N (fun i H => i ≤ xs.length ∧ Pv i H) Yv Qe := by
  subst hN
  rintro i H ⟨hi, p⟩
  have q := hl i H hi p
  by_cases hlt : i < xs.length
  · refine .inr ⟨hlt, ⟨xs, xs[i], q, by simp [hlt]⟩, fun x H' y => ?_⟩
    obtain ⟨e, y⟩ := y
    subst e
    exact hs i x _ (y xs q) p
  · have e : i = xs.length := by omega
    subst e
    exact .inl ⟨rfl, ⟨xs, q, Nat.le_refl _⟩, hd H p⟩
theorem turn_lst {K : PySem.W.Frag} {a : Addr} {xs : List V} {te : TE} {σ : L2.St} {Yv : Nat → V → Hp → Prop} {Qe : Hp → Prop} {N : Nat} (Pv : Nat → Hp → Prop) (hN : N = xs.length) (hl : ∀ i H, i ≤ xs.length → Pv i H → SqL K H a xs)
    (hs : ∀ i x H, xs[i]? = some x → Pv i H → te (σ ++ [some x]) H fun y H3 => Yv i y H3) (hd : ∀ H, Pv xs.length H → Qe H) : GTurn (Itl K a) te σ N (fun i H => i ≤ xs.length ∧ Pv i H) Yv Qe := by
  subst hN
  rintro i H ⟨hi, p⟩
  have q := hl i H hi p
  by_cases hlt : i < xs.length
  · refine .inr ⟨hlt, ⟨xs, xs[i], q, by simp [hlt]⟩, fun x H' y => ?_⟩
    obtain ⟨e, y⟩ := y
    subst e
    exact hs i x _ (y xs q) p
  · have e : i = xs.length := by omega
    subst e
    exact .inl ⟨rfl, ⟨xs, q, Nat.le_refl _⟩, hd H p⟩
theorem turn_rng {lo : Int} {n N : Nat} {te : TE} {σ : L2.St} {Yv : Nat → V → Hp → Prop} {Qe : Hp → Prop} (Pv : Nat → Hp → Prop) (hN : N = n)
    (hs : ∀ i H, i < n → Pv i H → te (σ ++ [some (.int (lo + i))]) H fun y H3 => Yv i y H3) (hd : ∀ H, Pv n H → Qe H) : GTurn (Itr lo n) te σ N (fun i H => i ≤ n ∧ Pv i H) Yv Qe := by
  subst hN
  rintro i H ⟨hi, p⟩
  by_cases hlt : i < N
  · refine .inr ⟨hlt, hlt, fun x H' y => ?_⟩
    obtain ⟨e, y⟩ := y
    subst e y
    exact hs i _ hlt p
  · have e : i = N := by omega
    subst e
    exact .inl ⟨rfl, Nat.le_refl _, hd H p⟩
end
end GX
end

section
set_option linter.all false
set_option maxRecDepth 100000
/-! The mathematics of bodies: cells, bodies, what is inside; plain Lean. -/
namespace Ly
abbrev C3 := Int × Int × Int
def lt3 (a b : C3) : Prop := a.1 < b.1 ∨ (a.1 = b.1 ∧ (a.2.1 < b.2.1 ∨ (a.2.1 = b.2.1 ∧ a.2.2 < b.2.2)))
instance (a b : C3) : Decidable (lt3 a b) := by unfold lt3; infer_instance
theorem lt3_irrefl (a : C3) : ¬ lt3 a a := by unfold lt3; omega
theorem lt3_trans {a b c : C3} (h : lt3 a b) (k : lt3 b c) : lt3 a c := by unfold lt3 at *; omega
theorem lt3_asymm {a b : C3} (h : lt3 a b) : ¬ lt3 b a := by unfold lt3 at *; omega
theorem c3_ext {a b : C3} (h1 : a.1 = b.1) (h2 : a.2.1 = b.2.1) (h3 : a.2.2 = b.2.2) : a = b := by
  obtain ⟨x, y, z⟩ := a
  obtain ⟨x', y', z'⟩ := b
  simp only at h1 h2 h3
  rw [h1, h2, h3]
theorem lt3_tri {a b : C3} (h : ¬ lt3 a b) (n : a ≠ b) : lt3 b a := by
  have q : ¬ (a.1 = b.1 ∧ a.2.1 = b.2.1 ∧ a.2.2 = b.2.2) := fun ⟨h1, h2, h3⟩ => n (c3_ext h1 h2 h3)
  unfold lt3 at *
  omega
def Asc (l : List C3) : Prop := l.Pairwise lt3
theorem asc_cons {a : C3} {l : List C3} : Asc (a :: l) ↔ (∀ b ∈ l, lt3 a b) ∧ Asc l := List.pairwise_cons
theorem asc_ext : ∀ {l m : List C3}, Asc l → Asc m → (∀ c, c ∈ l ↔ c ∈ m) → l = m
  | [], [], _, _, _ => rfl
  | [], b :: m, _, _, h => absurd ((h b).mpr List.mem_cons_self) (by simp)
  | a :: l, [], _, _, h => absurd ((h a).mp List.mem_cons_self) (by simp)
  | a :: l, b :: m, hl, hm, h => by
    obtain ⟨h1, h2⟩ := asc_cons.mp hl
    obtain ⟨k1, k2⟩ := asc_cons.mp hm
    have e : a = b := by
      rcases List.mem_cons.mp ((h a).mp List.mem_cons_self) with e | e
      · exact e
      · rcases List.mem_cons.mp ((h b).mpr List.mem_cons_self) with e' | e'
        · exact e'.symm
        · exact absurd (h1 b e') (lt3_asymm (k1 a e))
    subst e
    rw [asc_ext h2 k2 fun c => ⟨fun hc => ?_, fun hc => ?_⟩]
    · rcases List.mem_cons.mp ((h c).mp (List.mem_cons_of_mem _ hc)) with e | e
      · subst e; exact absurd (h1 _ hc) (lt3_irrefl _)
      · exact e
    · rcases List.mem_cons.mp ((h c).mpr (List.mem_cons_of_mem _ hc)) with e | e
      · subst e; exact absurd (k1 _ hc) (lt3_irrefl _)
      · exact e
theorem asc_nodup {l : List C3} (h : Asc l) : l.Nodup := List.Pairwise.imp (fun {a b} q e => by subst e; exact lt3_irrefl _ q) h
/-- in order and each once: rising -/
theorem asc_of {l : List C3} (h : l.Pairwise fun a b => ¬ lt3 b a) (n : l.Nodup) : Asc l := by
  induction l with
  | nil => exact List.Pairwise.nil
  | cons a l ih =>
    obtain ⟨h1, h2⟩ := List.pairwise_cons.mp h
    obtain ⟨n1, n2⟩ := List.nodup_cons.mp n
    refine asc_cons.mpr ⟨fun b hb => ?_, ih h2 n2⟩
    exact lt3_tri (h1 b hb) fun e => n1 (e ▸ hb)
theorem asc_filter {l : List C3} {p : C3 → Bool} (h : Asc l) : Asc (l.filter p) := List.Pairwise.filter p h
theorem asc_map {l : List C3} {f : C3 → C3} (h : Asc l) (hf : ∀ a b, lt3 a b → lt3 (f a) (f b)) : Asc (l.map f) := List.Pairwise.map f hf h

/-- in the room -/
def InR (c : C3) : Prop := (0 ≤ c.1 ∧ c.1 ≤ 3) ∧ (0 ≤ c.2.1 ∧ c.2.1 ≤ 3) ∧ (0 ≤ c.2.2 ∧ c.2.2 ≤ 3)
instance (c : C3) : Decidable (InR c) := by unfold InR; infer_instance
def roomAt (k : Nat) : C3 := (((k : Int) / 16, (k : Int) / 4 % 4, (k : Int) % 4) : C3)
def room : List C3 := (List.range 64).map roomAt
theorem room_asc : Asc room := by
  have h : (List.range 64).Pairwise (· < ·) := List.pairwise_lt_range
  refine List.Pairwise.map roomAt ?_ (List.Pairwise.and_mem.mp h)
  intro a b ⟨ha, hb, hab⟩
  have ha := List.mem_range.mp ha
  have hb := List.mem_range.mp hb
  unfold lt3 roomAt
  simp only
  omega
theorem mem_room {c : C3} : c ∈ room ↔ InR c := by
  constructor
  · intro h
    obtain ⟨k, hk, e⟩ := List.mem_map.mp h
    have hk := List.mem_range.mp hk
    subst e
    unfold InR roomAt
    simp only
    omega
  · intro h
    obtain ⟨x, y, z⟩ := c
    unfold InR at h
    simp only at h
    refine List.mem_map.mpr ⟨(16 * x + 4 * y + z).toNat, List.mem_range.mpr (by omega), ?_⟩
    unfold roomAt
    refine c3_ext ?_ ?_ ?_ <;> simp only <;> omega

inductive Bd where
  | block (x y z a b c : Int)
  | cells (cs : List C3)
  | wth (p q : Bd)
  | common (p q : Bd)
  | less (p q : Bd)
  | moved (d : C3) (p : Bd)
  | turnX (p : Bd)
  | turnY (p : Bd)
  | turnZ (p : Bd)
/-- how many bodies -/
def nb : Bd → Nat
  | .block .. => 1
  | .cells _ => 1
  | .wth p q => 1 + nb p + nb q
  | .common p q => 1 + nb p + nb q
  | .less p q => 1 + nb p + nb q
  | .moved _ p => 1 + nb p
  | .turnX p => 1 + nb p
  | .turnY p => 1 + nb p
  | .turnZ p => 1 + nb p
/-- how deep within one another -/
def dp : Bd → Nat
  | .block .. => 1
  | .cells _ => 1
  | .wth p q => 1 + max (dp p) (dp q)
  | .common p q => 1 + max (dp p) (dp q)
  | .less p q => 1 + max (dp p) (dp q)
  | .moved _ p => 1 + dp p
  | .turnX p => 1 + dp p
  | .turnY p => 1 + dp p
  | .turnZ p => 1 + dp p
theorem nb_pos : ∀ b : Bd, 1 ≤ nb b
  | .block .. => Nat.le_refl _
  | .cells _ => Nat.le_refl _
  | .wth p q => by unfold nb; omega
  | .common p q => by unfold nb; omega
  | .less p q => by unfold nb; omega
  | .moved _ p => by unfold nb; omega
  | .turnX p => by unfold nb; omega
  | .turnY p => by unfold nb; omega
  | .turnZ p => by unfold nb; omega
theorem dp_pos : ∀ b : Bd, 1 ≤ dp b
  | .block .. => Nat.le_refl _
  | .cells _ => Nat.le_refl _
  | .wth p q => by unfold dp; omega
  | .common p q => by unfold dp; omega
  | .less p q => by unfold dp; omega
  | .moved _ p => by unfold dp; omega
  | .turnX p => by unfold dp; omega
  | .turnY p => by unfold dp; omega
  | .turnZ p => by unfold dp; omega
theorem dp_le_nb : ∀ b : Bd, dp b ≤ nb b
  | .block .. => Nat.le_refl _
  | .cells _ => Nat.le_refl _
  | .wth p q => by have h1 := dp_le_nb p; have h2 := dp_le_nb q; unfold nb dp; omega
  | .common p q => by have h1 := dp_le_nb p; have h2 := dp_le_nb q; unfold nb dp; omega
  | .less p q => by have h1 := dp_le_nb p; have h2 := dp_le_nb q; unfold nb dp; omega
  | .moved _ p => by have h1 := dp_le_nb p; unfold nb dp; omega
  | .turnX p => by have h1 := dp_le_nb p; unfold nb dp; omega
  | .turnY p => by have h1 := dp_le_nb p; unfold nb dp; omega
  | .turnZ p => by have h1 := dp_le_nb p; unfold nb dp; omega

def add3 (d c : C3) : C3 := (c.1 + d.1, c.2.1 + d.2.1, c.2.2 + d.2.2)
def sub3 (d c : C3) : C3 := (c.1 - d.1, c.2.1 - d.2.1, c.2.2 - d.2.2)
def tX (c : C3) : C3 := (c.1, 3 - c.2.2, c.2.1)
def tY (c : C3) : C3 := (c.2.2, c.2.1, 3 - c.1)
def tZ (c : C3) : C3 := (3 - c.2.1, c.1, c.2.2)
def uX (c : C3) : C3 := (c.1, c.2.2, 3 - c.2.1)
def uY (c : C3) : C3 := (3 - c.2.2, c.2.1, c.1)
def uZ (c : C3) : C3 := (c.2.1, 3 - c.1, c.2.2)
/-- whether a cell is a body's -/
def inside : Bd → C3 → Bool
  | .block x y z a b c, k => decide ((0 ≤ k.1 - x ∧ k.1 - x < a) ∧ (0 ≤ k.2.1 - y ∧ k.2.1 - y < b) ∧ (0 ≤ k.2.2 - z ∧ k.2.2 - z < c))
  | .cells cs, k => decide (k ∈ cs)
  | .wth p q, k => inside p k || inside q k
  | .common p q, k => inside p k && inside q k
  | .less p q, k => inside p k && !inside q k
  | .moved d p, k => inside p (sub3 d k)
  | .turnX p, k => inside p (uX k)
  | .turnY p, k => inside p (uY k)
  | .turnZ p, k => inside p (uZ k)
def all (b : Bd) : List C3 := room.filter (inside b)
theorem all_asc (b : Bd) : Asc (all b) := asc_filter room_asc
theorem mem_all {b : Bd} {c : C3} : c ∈ all b ↔ InR c ∧ inside b c = true := by
  unfold all
  rw [List.mem_filter, mem_room]
theorem all_len (b : Bd) : (all b).length ≤ 64 := by
  have h := List.length_filter_le (inside b) room
  have e : room.length = 64 := by unfold room; simp
  unfold all
  omega
def Far (d : C3) : Prop := (-3 ≤ d.1 ∧ d.1 ≤ 3) ∧ (-3 ≤ d.2.1 ∧ d.2.1 ≤ 3) ∧ (-3 ≤ d.2.2 ∧ d.2.2 ≤ 3)
/-- a body of the document that stays in the room -/
def Good : Bd → Prop
  | .block x y z a b c => InR (x, y, z) ∧ (1 ≤ a ∧ x + a ≤ 4) ∧ (1 ≤ b ∧ y + b ≤ 4) ∧ (1 ≤ c ∧ z + c ≤ 4)
  | .cells cs => Asc cs ∧ ∀ c ∈ cs, InR c
  | .wth p q => Good p ∧ Good q
  | .common p q => Good p ∧ Good q
  | .less p q => Good p ∧ Good q
  | .moved d p => Far d ∧ Good p ∧ ∀ c, inside p c = true → InR (add3 d c)
  | .turnX p => Good p
  | .turnY p => Good p
  | .turnZ p => Good p
theorem add_sub (d c : C3) : add3 d (sub3 d c) = c := by
  unfold add3 sub3
  refine c3_ext ?_ ?_ ?_ <;> simp only <;> omega
theorem sub_add (d c : C3) : sub3 d (add3 d c) = c := by
  unfold add3 sub3
  refine c3_ext ?_ ?_ ?_ <;> simp only <;> omega
theorem tuX (c : C3) : tX (uX c) = c := by unfold tX uX; refine c3_ext ?_ ?_ ?_ <;> simp only <;> omega
theorem utX (c : C3) : uX (tX c) = c := by unfold tX uX; refine c3_ext ?_ ?_ ?_ <;> simp only <;> omega
theorem tuY (c : C3) : tY (uY c) = c := by unfold tY uY; refine c3_ext ?_ ?_ ?_ <;> simp only <;> omega
theorem utY (c : C3) : uY (tY c) = c := by unfold tY uY; refine c3_ext ?_ ?_ ?_ <;> simp only <;> omega
theorem tuZ (c : C3) : tZ (uZ c) = c := by unfold tZ uZ; refine c3_ext ?_ ?_ ?_ <;> simp only <;> omega
theorem utZ (c : C3) : uZ (tZ c) = c := by unfold tZ uZ; refine c3_ext ?_ ?_ ?_ <;> simp only <;> omega
theorem good_in : ∀ {b : Bd} {k : C3}, Good b → inside b k = true → InR k
  | .block x y z a b c, k, g, h => by
    unfold inside at h
    rw [decide_eq_true_eq] at h
    obtain ⟨g1, g2, g3, g4⟩ := g
    unfold InR at g1 ⊢
    simp only at g1
    omega
  | .cells cs, k, g, h => by
    unfold inside at h
    rw [decide_eq_true_eq] at h
    exact g.2 k h
  | .wth p q, k, g, h => by
    unfold inside at h
    rw [Bool.or_eq_true] at h
    rcases h with h | h
    · exact good_in g.1 h
    · exact good_in g.2 h
  | .common p q, k, g, h => by
    unfold inside at h
    rw [Bool.and_eq_true] at h
    exact good_in g.1 h.1
  | .less p q, k, g, h => by
    unfold inside at h
    rw [Bool.and_eq_true] at h
    exact good_in g.1 h.1
  | .moved d p, k, g, h => by
    have q := g.2.2 (sub3 d k) h
    rw [add_sub] at q
    exact q
  | .turnX p, k, g, h => by
    have q : InR (uX k) := good_in (b := p) g h
    unfold InR uX at *
    simp only at q
    omega
  | .turnY p, k, g, h => by
    have q : InR (uY k) := good_in (b := p) g h
    unfold InR uY at *
    simp only at q
    omega
  | .turnZ p, k, g, h => by
    have q : InR (uZ k) := good_in (b := p) g h
    unfold InR uZ at *
    simp only at q
    omega
theorem mem_good {b : Bd} (g : Good b) {c : C3} : c ∈ all b ↔ inside b c = true := by
  rw [mem_all]
  exact ⟨fun h => h.2, fun h => ⟨good_in g h, h⟩⟩
/-- what tells the cells of a body: rising, and just those inside -/
theorem all_of {b : Bd} (g : Good b) {l : List C3} (h : Asc l) (m : ∀ c, c ∈ l ↔ inside b c = true) : l = all b :=
  asc_ext h (all_asc b) fun c => (m c).trans (mem_good g).symm
theorem all_cells {cs : List C3} (g : Good (.cells cs)) : cs = all (.cells cs) := all_of g g.1 fun c => by
  unfold inside
  rw [decide_eq_true_eq]
theorem all_moved {d : C3} {p : Bd} (g : Good (.moved d p)) : (all p).map (add3 d) = all (.moved d p) := by
  refine all_of g (asc_map (all_asc p) fun a b h => ?_) fun c => ?_
  · unfold lt3 add3 at *
    simp only
    omega
  · rw [List.mem_map]
    constructor
    · rintro ⟨k, hk, rfl⟩
      show inside p (sub3 d (add3 d k)) = true
      rw [sub_add]
      exact (mem_good g.2.1).mp hk
    · intro h
      exact ⟨sub3 d c, (mem_good g.2.1).mpr h, add_sub d c⟩
theorem all_common {p q : Bd} (g : Good (.common p q)) : (all p).filter (fun c => decide (c ∈ all q)) = all (.common p q) := by
  refine all_of g (asc_filter (all_asc p)) fun c => ?_
  rw [List.mem_filter, decide_eq_true_eq, mem_good g.1, mem_good g.2]
  show _ ↔ (inside p c && inside q c) = true
  rw [Bool.and_eq_true]
theorem all_less {p q : Bd} (g : Good (.less p q)) : (all p).filter (fun c => !decide (c ∈ all q)) = all (.less p q) := by
  refine all_of g (asc_filter (all_asc p)) fun c => ?_
  rw [List.mem_filter, Bool.not_eq_true', decide_eq_false_iff_not, mem_good g.1, mem_good g.2]
  show _ ↔ (inside p c && !inside q c) = true
  rw [Bool.and_eq_true, Bool.not_eq_true', Bool.not_eq_true]
/-- of any arrangement in order, each once -/
theorem all_wth {p q : Bd} (g : Good (.wth p q)) {l : List C3} (h : l.Pairwise fun a b => ¬ lt3 b a) (n : l.Nodup) (m : ∀ c, c ∈ l ↔ c ∈ all p ++ all q) : l = all (.wth p q) := by
  refine all_of g (asc_of h n) fun c => ?_
  rw [m, List.mem_append, mem_good g.1, mem_good g.2]
  show _ ↔ (inside p c || inside q c) = true
  rw [Bool.or_eq_true]
theorem nodup_map {l : List C3} {f u : C3 → C3} (hu : ∀ c, u (f c) = c) (n : l.Nodup) : (l.map f).Nodup := by
  refine List.Pairwise.map f (fun a b h e => h ?_) n
  rw [← hu a, ← hu b, e]
theorem all_turnX {p : Bd} (g : Good (.turnX p)) {l : List C3} (h : l.Pairwise fun a b => ¬ lt3 b a) (m : l.Perm ((all p).map tX)) : l = all (.turnX p) := by
  have gp : Good p := g
  refine all_of g (asc_of h (m.nodup_iff.mpr (nodup_map utX (asc_nodup (all_asc p))))) fun c => ?_
  rw [m.mem_iff, List.mem_map]
  exact ⟨fun ⟨k, hk, e⟩ => by subst e; show inside p (uX (tX k)) = true; rw [utX]; exact (mem_good gp).mp hk, fun hc => ⟨uX c, (mem_good gp).mpr hc, tuX c⟩⟩
theorem all_turnY {p : Bd} (g : Good (.turnY p)) {l : List C3} (h : l.Pairwise fun a b => ¬ lt3 b a) (m : l.Perm ((all p).map tY)) : l = all (.turnY p) := by
  have gp : Good p := g
  refine all_of g (asc_of h (m.nodup_iff.mpr (nodup_map utY (asc_nodup (all_asc p))))) fun c => ?_
  rw [m.mem_iff, List.mem_map]
  exact ⟨fun ⟨k, hk, e⟩ => by subst e; show inside p (uY (tY k)) = true; rw [utY]; exact (mem_good gp).mp hk, fun hc => ⟨uY c, (mem_good gp).mpr hc, tuY c⟩⟩
theorem all_turnZ {p : Bd} (g : Good (.turnZ p)) {l : List C3} (h : l.Pairwise fun a b => ¬ lt3 b a) (m : l.Perm ((all p).map tZ)) : l = all (.turnZ p) := by
  have gp : Good p := g
  refine all_of g (asc_of h (m.nodup_iff.mpr (nodup_map utZ (asc_nodup (all_asc p))))) fun c => ?_
  rw [m.mem_iff, List.mem_map]
  exact ⟨fun ⟨k, hk, e⟩ => by subst e; show inside p (uZ (tZ k)) = true; rw [utZ]; exact (mem_good gp).mp hk, fun hc => ⟨uZ c, (mem_good gp).mpr hc, tuZ c⟩⟩
/-- a block's cells, as three loops tell them -/
def blk1 (x y z : Int) (c : Nat) : List C3 := (List.range c).map fun (k : Nat) => ((x, y, z + (k : Int)) : C3)
def blk2 (x y z : Int) (b c : Nat) : List C3 := (List.range b).flatMap fun (j : Nat) => blk1 x (y + (j : Int)) z c
def blk3 (x y z : Int) (a b c : Nat) : List C3 := (List.range a).flatMap fun (i : Nat) => blk2 (x + (i : Int)) y z b c
theorem mem_blk3 {x y z : Int} {a b c : Nat} {k : C3} : k ∈ blk3 x y z a b c ↔ inside (.block x y z a b c) k = true := by
  unfold inside
  rw [decide_eq_true_eq]
  constructor
  · intro h
    unfold blk3 blk2 blk1 at h
    simp only [List.mem_flatMap, List.mem_map, List.mem_range] at h
    obtain ⟨i, hi, j, hj, l, hl, e⟩ := h
    subst e
    simp only
    omega
  · intro h
    unfold blk3 blk2 blk1
    simp only [List.mem_flatMap, List.mem_map, List.mem_range]
    refine ⟨(k.1 - x).toNat, by omega, (k.2.1 - y).toNat, by omega, (k.2.2 - z).toNat, by omega, ?_⟩
    refine c3_ext ?_ ?_ ?_ <;> simp only <;> omega
theorem asc_append {l m : List C3} (h1 : Asc l) (h2 : Asc m) (h : ∀ a ∈ l, ∀ b ∈ m, lt3 a b) : Asc (l ++ m) := List.pairwise_append.mpr ⟨h1, h2, h⟩
theorem asc_blk1 (x y z : Int) (c : Nat) : Asc (blk1 x y z c) := by
  refine List.Pairwise.map (fun (k : Nat) => ((x, y, z + (k : Int)) : C3)) (fun i j h => ?_) (List.pairwise_lt_range (n := c))
  exact .inr ⟨rfl, .inr ⟨rfl, by show z + (i : Int) < z + (j : Int); omega⟩⟩
theorem asc_flat {n : Nat} {f : Nat → List C3} (h1 : ∀ i, i < n → Asc (f i)) (h2 : ∀ i j, i < j → j < n → ∀ a ∈ f i, ∀ b ∈ f j, lt3 a b) : Asc ((List.range n).flatMap f) := by
  induction n with
  | zero => exact List.Pairwise.nil
  | succ n ih =>
    rw [List.range_succ, List.flatMap_append]
    refine asc_append (ih (fun i hi => h1 i (by omega)) fun i j hij hj => h2 i j hij (by omega)) ?_ fun a ha b hb => ?_
    · rw [List.flatMap_singleton]
      exact h1 n (by omega)
    · rw [List.flatMap_singleton] at hb
      obtain ⟨i, hi, ha⟩ := List.mem_flatMap.mp ha
      exact h2 i n (List.mem_range.mp hi) (by omega) a ha b hb
theorem mem_blk1 {x y z : Int} {c : Nat} {k : C3} (h : k ∈ blk1 x y z c) : k.1 = x ∧ k.2.1 = y := by
  obtain ⟨l, _, e⟩ := List.mem_map.mp h
  subst e
  exact ⟨rfl, rfl⟩
theorem mem_blk2 {x y z : Int} {b c : Nat} {k : C3} (h : k ∈ blk2 x y z b c) : k.1 = x := by
  obtain ⟨l, _, e⟩ := List.mem_flatMap.mp h
  exact (mem_blk1 e).1
theorem asc_blk2 (x y z : Int) (b c : Nat) : Asc (blk2 x y z b c) := by
  refine asc_flat (fun i _ => asc_blk1 ..) fun i j hij _ k hk l hl => ?_
  have h1 : k.1 = x ∧ k.2.1 = y + (i : Int) := mem_blk1 hk
  have h2 : l.1 = x ∧ l.2.1 = y + (j : Int) := mem_blk1 hl
  show k.1 < l.1 ∨ (k.1 = l.1 ∧ (k.2.1 < l.2.1 ∨ (k.2.1 = l.2.1 ∧ k.2.2 < l.2.2)))
  omega
theorem asc_blk3 (x y z : Int) (a b c : Nat) : Asc (blk3 x y z a b c) := by
  refine asc_flat (fun i _ => asc_blk2 ..) fun i j hij _ k hk l hl => ?_
  have h1 : k.1 = x + (i : Int) := mem_blk2 hk
  have h2 : l.1 = x + (j : Int) := mem_blk2 hl
  show k.1 < l.1 ∨ (k.1 = l.1 ∧ (k.2.1 < l.2.1 ∨ (k.2.1 = l.2.1 ∧ k.2.2 < l.2.2)))
  omega
theorem all_block {x y z : Int} {a b c : Nat} (g : Good (.block x y z a b c)) : blk3 x y z a b c = all (.block x y z a b c) := all_of g (asc_blk3 ..) fun _ => mem_blk3
end Ly
end

section
set_option Elab.async false
set_option linter.all false
set_option maxRecDepth 100000
set_option maxHeartbeats 2000000
/-! Lists of cells: sorted at any length, membership, equality. -/
namespace GY
open PySem PySem.Spec PyProof.Rows L2 Ly
/-- a cell as data -/
def cD (c : C3) : PyData := .tuple [.int c.1, .int c.2.1, .int c.2.2]
theorem dataLt_c (a b : C3) : PySem.W.dataLt (cD a) (cD b) = decide (lt3 a b) := by
  unfold cD
  rw [PySem.W.dataLt_tuple, PySem.W.dataLt_cons (by simp [PySem.W.alike]), PySem.W.dataLt_cons (by simp [PySem.W.alike]), PySem.W.dataLt_cons (by simp [PySem.W.alike]), PySem.W.dataLt_int, PySem.W.dataLt_int, PySem.W.dataLt_int]
  have e : PyProof.Rows.lexLt itemOrd (PySem.W.keyToksAll []) (PySem.W.keyToksAll []) = false := lex_irrefl _
  rw [e]
  simp only [PyData.eqv, beq_iff_eq]
  unfold lt3
  by_cases h1 : a.1 = b.1 <;> by_cases h2 : a.2.1 = b.2.1 <;> by_cases h3 : a.2.2 = b.2.2 <;> simp [h1, h2, h3]
theorem cD_alike (a b : C3) : PySem.W.alike (cD a) (cD b) = true := by simp [cD, PySem.W.alike, PySem.W.alikeAll]
theorem cD_depth (a : C3) : (cD a).depth = 1 := by simp [cD, PyData.depth, PyData.depthAll]
theorem cD_lay (a : C3) : (cD a).canLay0 = true := by simp [cD, PyData.canLay0, PyData.canLayAll0]
theorem cD_shaped (a : C3) : SeqAt.shaped (cD a) = true := by
  show ((cD a).canLay0 && decide ((cD a).depth ≤ 64)) = true
  rw [cD_lay, cD_depth]
  rfl
theorem cDs_lay : ∀ cs : List C3, PyData.canLayAll0 (cs.map cD) = true
  | [] => by simp [PyData.canLayAll0]
  | c :: cs => by simp [PyData.canLayAll0, cD_lay c, cDs_lay cs]
theorem cDs_depth : ∀ cs : List C3, PyData.depthAll (cs.map cD) ≤ 1
  | [] => by simp [PyData.depthAll]
  | c :: cs => by
    have h1 := cDs_depth cs
    have h2 := cD_depth c
    simp only [List.map_cons, PyData.depthAll]
    omega
theorem cDs_shapedL (cs : List C3) : SeqAt.shaped (.list (cs.map cD)) = true := by
  have h1 := cDs_depth cs
  have h2 : PyData.depth (.list (cs.map cD)) ≤ 64 := by
    simp only [PyData.depth]
    omega
  show (PyData.canLay0 (.list (cs.map cD)) && decide (PyData.depth (.list (cs.map cD)) ≤ 64)) = true
  rw [Bool.and_eq_true]
  exact ⟨by simp only [PyData.canLay0]; exact cDs_lay cs, decide_eq_true h2⟩
theorem cDs_shapedT (cs : List C3) : SeqAt.shaped (.tuple (cs.map cD)) = true := by
  have h1 := cDs_depth cs
  have h2 : PyData.depth (.tuple (cs.map cD)) ≤ 64 := by
    simp only [PyData.depth]
    omega
  show (PyData.canLay0 (.tuple (cs.map cD)) && decide (PyData.depth (.tuple (cs.map cD)) ≤ 64)) = true
  rw [Bool.and_eq_true]
  exact ⟨by simp only [PyData.canLay0]; exact cDs_lay cs, decide_eq_true h2⟩
theorem cD_eqv (a b : C3) : PyData.eqv (cD a) (cD b) = decide (a = b) := by
  have e : PyData.eqv (cD a) (cD b) = ((a.1 == b.1) && ((a.2.1 == b.2.1) && ((a.2.2 == b.2.2) && true))) := by simp only [cD, PyData.eqv, PyData.eqvAll]
  rw [e]
  by_cases h : a = b
  · subst h
    simp
  · rw [decide_eq_false h]
    by_cases h1 : a.1 = b.1
    · by_cases h2 : a.2.1 = b.2.1
      · by_cases h3 : a.2.2 = b.2.2
        · exact absurd (c3_ext h1 h2 h3) h
        · simp [h3]
      · simp [h2]
    · simp [h1]
theorem any_eqv (c : C3) (cs : List C3) : ((cs.map cD).any fun z => PyData.eqv z (cD c)) = decide (c ∈ cs) := by
  induction cs with
  | nil => simp
  | cons b cs ih =>
    rw [List.map_cons, List.any_cons, ih, cD_eqv]
    by_cases h : b = c
    · subst h; simp
    · have h' : ¬ c = b := fun e => h e.symm
      simp [h, h']
/-- the list (the tuple) of these cells -/
abbrev CellsL (K : PySem.W.Frag) (H : Hp) (v : V) (cs : List C3) : Prop := Dp K H v (.list (cs.map cD))
abbrev CellsT (K : PySem.W.Frag) (H : Hp) (v : V) (cs : List C3) : Prop := Dp K H v (.tuple (cs.map cD))
/-- item by item -/
def Items (K : PySem.W.Frag) (H : Hp) (xs : List V) (cs : List C3) : Prop := DpAll K H xs (cs.map cD)
theorem Items.length {K : PySem.W.Frag} {H : Hp} : ∀ {xs : List V} {cs : List C3}, Items K H xs cs → xs.length = cs.length
  | [], [], _ => rfl
  | [], _ :: _, h => by cases h
  | _ :: _, [], h => by cases h
  | x :: xs, c :: cs, h => by
    cases h with
    | cons h1 h2 =>
      have e := Items.length (xs := xs) (cs := cs) h2
      simp [e]
theorem Items.get {K : PySem.W.Frag} {H : Hp} : ∀ {xs : List V} {cs : List C3} {i : Nat} {x : V}, Items K H xs cs → xs[i]? = some x → ∃ c, cs[i]? = some c ∧ Dp K H x (cD c)
  | [], _, _, _, _, e => by simp at e
  | _ :: _, [], _, _, h, _ => by cases h
  | y :: xs, c :: cs, i, x, h, e => by
    cases h with
    | cons h1 h2 =>
      cases i with
      | zero =>
        have e : y = x := by simpa using e
        subst e
        exact ⟨c, rfl, h1⟩
      | succ i => exact Items.get (xs := xs) (cs := cs) h2 (by simpa using e)
theorem Items.append {K : PySem.W.Frag} {H : Hp} : ∀ {xs ys : List V} {cs ds : List C3}, Items K H xs cs → Items K H ys ds → Items K H (xs ++ ys) (cs ++ ds)
  | [], _, [], _, _, h => h
  | [], _, _ :: _, _, h, _ => by cases h
  | _ :: _, _, [], _, h, _ => by cases h
  | x :: xs, ys, c :: cs, ds, h, k => by
    cases h with
    | cons h1 h2 => exact .cons h1 (Items.append (xs := xs) (cs := cs) h2 k)
theorem Items.one {K : PySem.W.Frag} {H : Hp} {x : V} {c : C3} (h : Dp K H x (cD c)) : Items K H [x] [c] := .cons h .nil
/-- the triple of three ints -/
theorem dp_c {K : PySem.W.Frag} {H : Hp} {p : Addr} {c : C3} (h : SqT K H p [.int c.1, .int c.2.1, .int c.2.2]) : Dp K H (.ref p) (cD c) := .tup h (.cons (.int _) (.cons (.int _) (.cons (.int _) .nil)))
theorem of_dp_c {K : PySem.W.Frag} {H : Hp} {v : V} {c : C3} (h : Dp K H v (cD c)) : ∃ p, v = .ref p ∧ SqT K H p [.int c.1, .int c.2.1, .int c.2.2] := by
  cases h with
  | tup hs ha =>
    cases ha with
    | cons a1 a2 =>
      cases a2 with
      | cons b1 b2 =>
        cases b2 with
        | cons c1 c2 =>
          cases c2
          cases a1
          cases b1
          cases c1
          exact ⟨_, rfl, hs⟩
theorem of_cellsL {K : PySem.W.Frag} {H : Hp} {v : V} {cs : List C3} (h : CellsL K H v cs) : ∃ p xs, v = .ref p ∧ SqL K H p xs ∧ Items K H xs cs := by
  have h : Dp K H v (.list (cs.map cD)) := h
  cases h with
  | lst hs ha => exact ⟨_, _, rfl, hs, ha⟩
theorem of_cellsT {K : PySem.W.Frag} {H : Hp} {v : V} {cs : List C3} (h : CellsT K H v cs) : ∃ p xs, v = .ref p ∧ SqT K H p xs ∧ Items K H xs cs := by
  have h : Dp K H v (.tuple (cs.map cD)) := h
  cases h with
  | tup hs ha => exact ⟨_, _, rfl, hs, ha⟩

section
variable {X : Cx}
/-- x in t, t a tuple of data -/
def rInDT (K : PySem.W.Frag) : R2 := fun x y H Q => ∃ d ds, Dp K H x d ∧ Dp K H y (.tuple ds) ∧ SeqAt.shaped d = true ∧ SeqAt.shaped (.tuple ds) = true ∧ Q (.bl (ds.any fun z => PyData.eqv z d)) H
theorem op_inDT (hu : X.A.units + 65 < cLine) : OpR X (compareOp .In) (rInDT X.K) := by
  intro pins s σ H x y v u Q I rx ry h
  obtain ⟨d, ds, hd, he, sd, se, q⟩ := h
  obtain ⟨as, r1⟩ := Dp.reads I d x v hd rx
  obtain ⟨bs, r2⟩ := Dp.reads I (.tuple ds) y u he ry
  exact SeqAt.in_tuple_reads r2 r1 (SeqAt.canLay_of_shaped se) (SeqAt.canLay_of_shaped sd) (room_in_shaped sd hu) ⟨.bl _, H, I, rfl, q⟩

/-! ### sorted -/
theorem le_trans3 : ∀ a b c : C3, decide (¬ lt3 b a) = true → decide (¬ lt3 c b) = true → decide (¬ lt3 c a) = true := by
  intro a b c h1 h2
  rw [decide_eq_true_eq] at *
  intro h
  unfold lt3 at *
  omega
theorem le_total3 : ∀ a b : C3, (decide (¬ lt3 b a) || decide (¬ lt3 a b)) = true := by
  intro a b
  rw [Bool.or_eq_true, decide_eq_true_eq, decide_eq_true_eq]
  by_cases h : lt3 b a
  · exact .inr (lt3_asymm h)
  · exact .inl h
theorem leC {β : Type} (k : β → C3) : PySem.W.dataLe false (fun b => cD (k b)) = fun a b => decide (¬ lt3 (k b) (k a)) := by
  rw [PySem.W.dataLe_eq]
  funext a b
  show (!PySem.W.dataLt (cD (k b)) (cD (k a))) = _
  rw [dataLt_c]
  simp
/-- sorted(xs) of cells, any length: some arrangement in order -/
def rSortC (K : PySem.W.Frag) : List V → Hp → VK → Prop := fun vs H Q => ∃ (v : V) (cs : List C3), vs = [v] ∧ CellsL K H v cs ∧ cs.length ≤ sizeLine ∧
  ∀ (ys : List V) (ds : List C3) (p : Addr), ds.Perm cs → (ds.Pairwise fun a b => ¬ lt3 b a) → Items K H ys ds → H p = none → Q (.ref p) (upd H p (.lst ys))
theorem each_of {K : PySem.W.Frag} {H : Hp} : ∀ {xs : List V} {us : List Value} {cs : List C3}, Vals xs us → Items K H xs cs → PySem.W.EachIs (fun (u : Value) (b : V × C3) => RelV b.1 u ∧ Dp K H b.1 (cD b.2)) us (xs.zip cs)
  | [], _, _, r, h => by
    cases r
    exact .nil
  | _ :: _, _, [], _, h => by cases h
  | x :: xs, _, c :: cs, r, h => by
    cases r with
    | cons r1 r2 =>
      cases h with
      | cons h1 h2 => exact .cons ⟨r1, h1⟩ (each_of (xs := xs) (cs := cs) r2 h2)
theorem of_each {K : PySem.W.Frag} {H : Hp} : ∀ {us : List Value} {bs : List (V × C3)}, PySem.W.EachIs (fun (u : Value) (b : V × C3) => RelV b.1 u ∧ Dp K H b.1 (cD b.2)) us bs → Vals (bs.map (·.1)) us ∧ Items K H (bs.map (·.1)) (bs.map (·.2))
  | _, _, .nil => ⟨.nil, .nil⟩
  | _, _, .cons h t => ⟨.cons h.1 (of_each t).1, .cons h.2 (of_each t).2⟩
theorem zip_snd : ∀ {xs : List V} {cs : List C3}, xs.length = cs.length → (xs.zip cs).map (·.2) = cs
  | [], [], _ => rfl
  | [], _ :: _, h => by simp at h
  | _ :: _, [], h => by simp at h
  | x :: xs, c :: cs, h => by
    have e := zip_snd (xs := xs) (cs := cs) (by simpa using h)
    simp [e]
theorem cr_sortC (hu : X.A.units + 64 < cLine) : CallR X (.builtin "sorted") (rSortC X.K) := by
  intro pins s σ H vs us Q I r h
  obtain ⟨v, cs, rfl, hc, hl, q⟩ := h
  obtain ⟨a, xs, rfl, hs, hi⟩ := of_cellsL hc
  cases r with
  | cons r1 r2 =>
    cases r2
    cases r1
    obtain ⟨its, rv, pl, hz⟩ := I.list hs
    have hlen := hi.length
    have e := each_of rv hi
    have er : PySem.W.EachIs (fun v b => ∃ as, Reads s.heap v ((fun b : V × C3 => cD b.2) b) as) its (xs.zip cs) := e.mono fun u b h => Dp.reads I (cD b.2) b.1 u h.2 h.1
    have hbl : (xs.zip cs).length = cs.length := by rw [List.length_zip, hlen, Nat.min_self]
    refine PySem.W.sorted_data (enc := fun b : V × C3 => cD b.2) pl.isList e er (PySem.W.AllAlike.of fun b b' => cD_alike _ _) (PySem.W.Sortable.tuples fun b => ⟨_, _, rfl⟩) (by rw [hbl]; exact hl)
      (fun b _ => by rw [cD_depth]; omega) fun out ho eo => ?_
    obtain ⟨c, hc2⟩ := sortedAll_at s.heap its (List.toArray out)
    rw [leC] at eo
    have pm := List.mergeSort_perm (xs.zip cs) (fun a b => decide (¬ lt3 b.2 a.2))
    have so := List.pairwise_mergeSort (le := fun (a b : V × C3) => decide (¬ lt3 b.2 a.2)) (fun a b c => le_trans3 a.2 b.2 c.2) (fun a b => le_total3 a.2 b.2) (xs.zip cs)
    obtain ⟨ev, ei⟩ := of_each eo
    have ky : ∀ b o, s.heap.get? b = some o → (sortedAll s.heap its (List.toArray out)).get? b = some o := fun _ _ => sortedAll_old
    have hlz : ((List.mergeSort (xs.zip cs) fun a b => decide (¬ lt3 b.2 a.2)).map (·.1)).length ≤ sizeLine := by
      rw [List.length_map, pm.length_eq, hbl]
      exact hl
    have hnew : H (s.heap.objs.size + 1) = none := I.hok.fresh (Nat.le_succ _)
    refine ⟨.ref (s.heap.objs.size + 1), _, I.laid (t' := s.toks) (o := .lst ((List.mergeSort (xs.zip cs) fun a b => decide (¬ lt3 b.2 a.2)).map (·.1))) ky (Nat.le_succ _) ⟨hlz, out, c, ev, hc2⟩, rfl, ?_⟩
    refine q _ _ _ ?_ ?_ ei hnew
    · have := pm.map (·.2)
      rw [zip_snd hlen] at this
      exact this
    · refine List.Pairwise.map _ (fun a b h => ?_) so
      simpa using h
end
end GY
end

section
set_option Elab.async false
set_option linter.all false
set_option maxRecDepth 100000
set_option maxHeartbeats 2000000
/-! Sets of tuples with up to 64 of them (the library's: below 64): one more put, found ones. -/
namespace GZ
open PySem PySem.Spec PyProof.Rows L2
section
variable {P : Program} {w : World} {A : Around} {E : Value → Shared → Prop} {s : Shared}
/-- the set at a holds L, at most 64 -/
structure SQ (P : Program) (w : World) (h : Heap) (a : Addr) (L : List (Addr × List Int)) (es : Array (Int × Value)) (ep : Nat) (t : SetTable) : Prop where
  ob : ∃ o, h.get? a = some o ∧ o.ExactSet ∧ o.data = .set es ep t
  rows : es.toList = rowsOf P w L
  tab : TabOk t (L.map fun p => thash P w p.2)
  nd : (L.map (·.2)).Nodup
  tup : ∀ p ∈ L, IsT P w h p.2 p.1
  plain : t.plain = true
  led : w.params.followText "set-order" = true ∨ t.led = true
  room : L.length * 5 < t.mask * 3
  few : L.length ≤ 64
variable {a : Addr} {L : List (Addr × List Int)} {es : Array (Int × Value)} {ep : Nat} {t : SetTable}
theorem SQ.of (R : SetTR P w s.heap a L es ep t) : SQ P w s.heap a L es ep t := ⟨R.ob, R.rows, R.tab, R.nd, R.tup, R.plain, R.led, R.room, Nat.le_of_lt R.few⟩
theorem SQ.tr (R : SQ P w s.heap a L es ep t) (h : L.length < 64) : SetTR P w s.heap a L es ep t := ⟨R.ob, R.rows, R.tab, R.nd, R.tup, R.plain, R.led, R.room, h⟩
theorem SQ.keep {h h' : Heap} (R : SQ P w h a L es ep t) (ha : ∀ o, h.get? a = some o → h'.get? a = some o) (ht : ∀ p ∈ L, IsT P w h' p.2 p.1) : SQ P w h' a L es ep t := by
  obtain ⟨o, ho, r⟩ := R.ob
  exact ⟨⟨o, ha o ho, r⟩, R.rows, R.tab, R.nd, ht, R.plain, R.led, R.room, R.few⟩
theorem SQ.size {h : Heap} (R : SQ P w h a L es ep t) : es.size = L.length := by
  have q := congrArg List.length R.rows
  unfold rowsOf at q
  rw [Array.length_toList, List.length_map] at q
  exact q
theorem SQ.psz {h : Heap} (R : SQ P w h a L es ep t) : t.place.size = L.length := by
  have q := R.tab.sz
  rw [List.length_map] at q
  exact q
theorem SQ.fits {h : Heap} (R : SQ P w h a L es ep t) : t.fits es.size = true := by
  have h1 := R.psz
  have h2 := R.size
  have h3 := R.room
  unfold SetTable.fits SetTable.fill
  rw [R.tab.dm, Bool.and_eq_true, beq_iff_eq, decide_eq_true_eq]
  refine ⟨by omega, ?_⟩
  show t.place.size + 0 ≤ t.mask
  omega
theorem SQ.at {h : Heap} (R : SQ P w h a L es ep t) {i : Nat} {p : Addr × List Int} (q : L[i]? = some p) : es[i]? = some (thash P w p.2, Value.ref p.1) := by
  rw [← Array.getElem?_toList, R.rows]
  unfold rowsOf
  rw [List.getElem?_map, q] <;> rfl
theorem SQ.gw {h : Heap} (R : SQ P w h a L es ep t) : ¬ t.gaveWay = true := by
  unfold SetTable.gaveWay
  rw [mask_odd R.tab.mok]
  decide

/-- a tuple that is in is found -/
theorem found_from (R : SQ P w s.heap a L es ep t) {x : Addr} {k : List Int} (hx : IsT P w s.heap k x) (hu : A.units < cLine) {K c0 i0 : Nat} {p0 : Addr × List Int} (hKf : K < 10 * SetTable.turns t.mask)
    (hK : way t.mask (thash P w k) K ∉ t.place.toList) (hKb : ∀ c, c < K → way t.mask (thash P w k) c ∈ t.place.toList) (h0 : L[i0]? = some p0) (hk0 : p0.2 = k) (hc0 : t.place.toList[i0]? = some (way t.mask (thash P w k) c0)) (hcK : c0 < K)
    {Q : SetFound → Shared → Prop} (hin : Q (.there none) s) :
    ∀ (f c : Nat) (stand : Option SetTable.Probe), stand.getD (t.probeStart (thash P w k)) = nth t.mask (runAt t.mask (SetTable.bits (thash P w k) % (t.mask + 1)) (SetTable.bits (thash P w k))) c → c ≤ c0 → K - c < f →
      wpAny (model P w) A (setSearchFrom a (.ref x) (thash P w k) true f stand) Q E s := by
  intro f
  induction f with
  | zero => exact fun c stand _ _ hf => absurd hf (Nat.not_lt_zero _)
  | succ f ih =>
    intro c stand hst hc hf
    obtain ⟨o, ho, hex, hd⟩ := R.ob
    rw [setSearchFrom_succ]
    refine wpAny_bind (wpAny_setState_of ho hd R.fits ?_)
    dsimp only
    refine wp_if_neg R.gw ?_
    try refine wpAny_bind (wpAny_pure ?_)
    generalize hB : runAt t.mask (SetTable.bits (thash P w k) % (t.mask + 1)) (SetTable.bits (thash P w k)) = B at hst
    have hB0 : B.dummy = none := by rw [← hB] <;> rfl
    have dn : ∀ (n : Nat) (p : SetTable.Probe), p.dummy = none → (nth t.mask p n).dummy = none := by
      intro n
      induction n with
      | zero => exact fun p h => h
      | succ n ih2 =>
        intro p h
        refine ih2 (adv t.mask p) ?_
        unfold adv
        split <;> exact h
    have wj : ∀ q, (nth t.mask (nth t.mask B c) q).j = way t.mask (thash P w k) (c + q) := fun q => by
      rw [← nth_add t.mask c B q, ← hB] <;> rfl
    have hash_of : ∀ (i : Nat) p, L[i]? = some p → (fun i => (es[i]?.map (·.1)).getD 0) i = thash P w p.2 := fun i p hp => by
      show (es[i]?.map (·.1)).getD 0 = _
      rw [R.at hp] <;> rfl
    have sp := go_spec t R.tab.ris R.tab.dm (fun i => (es[i]?.map (·.1)).getD 0) (thash P w k) (10 * SetTable.turns t.mask) (K - c) _ (dn c B hB0) (by omega)
      (fun q hq => by rw [wj]; exact hKb (c + q) (by omega)) (by rw [wj, show c + (K - c) = K by omega]; exact hK)
    have met : (fun i => (es[i]?.map (·.1)).getD 0) i0 = thash P w k := (hash_of i0 p0 h0).trans (congrArg (thash P w) hk0)
    rcases sp with ⟨q, i, hq, hi, hh, hno, hpr⟩ | ⟨hno, hpr⟩
    · have hcq : c + q ≤ c0 := by
        rcases Nat.lt_or_ge c0 (c + q) with z | z
        · exact absurd met (hno (c0 - c) i0 (by omega) (by rw [wj, show c + (c0 - c) = c0 by omega]; exact hc0))
        · exact z
      have hpr2 : t.probe (fun i => (es[i]?.map (·.1)).getD 0) (thash P w k) (stand.getD (t.probeStart (thash P w k))) = some (.candidate (way t.mask (thash P w k) (c + q)) i (nth t.mask B (c + (q + 1)))) := by
        rw [hst, ← wj, nth_add t.mask c B (q + 1)]
        exact hpr
      rw [hpr2]
      dsimp only
      rw [wj] at hi
      have hil : i < L.length := by
        have h1 : i < t.place.toList.length := (List.getElem?_eq_some_iff.mp hi).1
        have h2 := R.psz
        rw [Array.length_toList] at h1
        omega
      have hp : L[i]? = some L[i] := List.getElem?_eq_getElem hil
      generalize hpe : L[i] = p at hp
      have hpt := R.tup p (List.mem_of_getElem? hp)
      have slotq : t.slot (way t.mask (thash P w k) (c + q)) = .live i := slot_live R.tab.ris hi
      have go : wpAny (model P w) A (searchRest a (.ref x) (thash P w k) true f es t (way t.mask (thash P w k) (c + q)) i (nth t.mask B (c + (q + 1)))) Q E s := by
        unfold searchRest
        rw [R.at hp]
        dsimp only
        refine wpAny_bind (wpAny_holding (wpAny_eqBool_tuple hu hpt hx ?_))
        refine wpAny_bind (wpAny_setState_of ho hd R.fits ?_)
        dsimp only
        by_cases hkk : p.2 = k
        · refine wp_if_pos (by simp [hkk]) ?_
          exact wpAny_pure hin
        · have hlt : c + q < c0 := by
            rcases Nat.lt_or_ge (c + q) c0 with z | z
            · exact z
            · exfalso
              have e : c0 = c + q := Nat.le_antisymm z hcq
              have s0 := slot_live R.tab.ris hc0
              rw [e, slotq] at s0
              injection s0 with s0
              rw [← s0, hp] at h0
              exact hkk ((congrArg Prod.snd (Option.some.inj h0)).trans hk0)
          refine wp_if_neg (by simp [hkk]) ?_
          try refine wpAny_bind (wpAny_pure ?_)
          rw [sameMem]
          dsimp only
          simp only [if_true, slotq, R.at hp]
          refine wpAny_bind (wpAny_isSame_ref_self (wpAny_bind (wpAny_pure ?_)))
          simp only [if_true]
          refine wp_if_neg (by simp [hkk]) ?_
          exact ih (c + (q + 1)) _ (by rw [hB]; rfl) (by omega) (by omega)
      by_cases hl : t.led = true
      · refine wp_if_neg (by simp [hl]) ?_
        try refine wpAny_bind (wpAny_pure ?_)
        exact go
      · refine wp_if_pos (by simp [hl]) ?_
        refine wpAny_bind (seen_tup hx (fun y hy => ?_) ?_)
        · obtain ⟨e, he, ee⟩ := List.mem_map.mp hy
          have he1 : e ∈ es ∧ e.1 = thash P w k := by simpa using he
          have he2 : e ∈ es.toList := by simpa using he1.1
          rw [R.rows] at he2
          obtain ⟨p2, hp2, e2⟩ := List.mem_map.mp he2
          exact ⟨p2.2, p2.1, by rw [← ee, ← e2], R.tup p2 hp2⟩
        · refine wp_if_neg (by decide) ?_
          try refine wpAny_bind (wpAny_pure ?_)
          exact go
    · exact absurd met (hno (c0 - c) i0 (by omega) (by rw [wj, show c + (c0 - c) = c0 by omega]; exact hc0))
theorem found_at (R : SQ P w s.heap a L es ep t) {x : Addr} {k : List Int} (hx : IsT P w s.heap k x) (hu : A.units < cLine) (hm : k ∈ L.map (·.2)) {Q : SetFound → Shared → Prop} (hin : Q (.there none) s) :
    wpAny (model P w) A (setSearch a (.ref x) (thash P w k) true) Q E s := by
  have hroom := R.room
  obtain ⟨K, hKf, hK, hKb⟩ := R.tab.first (by rw [List.length_map]; omega) (thash P w k)
  have hbig : K < 100000 := by
    have : 10 * SetTable.turns t.mask ≤ 1420 := by
      unfold SetTable.turns
      rcases R.tab.mok with e | e | e <;> omega
    omega
  obtain ⟨p0, hp0, hk0⟩ := List.mem_map.mp hm
  obtain ⟨i0, hi0, e0⟩ := List.getElem_of_mem hp0
  have h00 : L[i0]? = some p0 := by rw [List.getElem?_eq_getElem hi0, e0]
  have hi : (L.map fun p => thash P w p.2)[i0]? = some (thash P w k) := by rw [List.getElem?_map, h00, ← hk0] <;> rfl
  have hil : i0 < t.place.toList.length := by
    have h2 := R.psz
    rw [Array.length_toList]
    omega
  have hj := List.getElem?_eq_getElem hil
  obtain ⟨c0, hc0, e⟩ := R.tab.before hK hi hj
  unfold setSearch
  exact found_from R hx hu hKf hK hKb h00 hk0 (by rw [hj, e]) hc0 hin 100000 0 none rfl (Nat.zero_le _) (by omega)
end
end GZ
end

section
set_option Elab.async false
set_option linter.all false
set_option maxRecDepth 100000
set_option maxHeartbeats 2000000
namespace GZ
open PySem PySem.Spec PyProof.Rows L2
section
variable {P : Program} {w : World} {A : Around} {E : Value → Shared → Prop} {s : Shared}
variable {a : Addr} {L : List (Addr × List Int)} {es : Array (Int × Value)} {ep : Nat} {t : SetTable}
theorem SQ.ofH {h : Heap} (R : SetTR P w h a L es ep t) : SQ P w h a L es ep t := ⟨R.ob, R.rows, R.tab, R.nd, R.tup, R.plain, R.led, R.room, Nat.le_of_lt R.few⟩
theorem SQ.trH {h : Heap} (R : SQ P w h a L es ep t) (q : L.length < 64) : SetTR P w h a L es ep t := ⟨R.ob, R.rows, R.tab, R.nd, R.tup, R.plain, R.led, R.room, q⟩
/-- one that is in is added: nothing changes -/
theorem add_found (R : SQ P w s.heap a L es ep t) {x : Addr} {k : List Int} (hx : IsT P w s.heap k x) (hu : A.units < cLine) (hm : k ∈ L.map (·.2)) {Q : Bool → Shared → Prop} (hQ : Q false s) :
    wpAny (model P w) A (setAddHashed a (.ref x) (thash P w k)) Q E s := by
  obtain ⟨o, ho, hex, hd⟩ := R.ob
  unfold setAddHashed
  refine wpAny_holding ?_
  rw [show (100000 : Nat) = 99999 + 1 from rfl, setAddHashedIn_succ]
  refine wpAny_bind (wpAny_setState_of ho hd R.fits ?_)
  dsimp only
  refine wp_if_neg (by simp [byScan, Value.scannable]) ?_
  try refine wpAny_bind (wpAny_pure ?_)
  refine wpAny_bind (found_at R hx hu hm ?_)
  dsimp only
  exact wpAny_pure hQ
/-- the 64th is added: the table is as large as before -/
theorem add_last (R : SetTR P w s.heap a L es ep t) {x : Addr} {k : List Int} (hx : IsT P w s.heap k x) (hu : A.units < cLine) (hl : L.length = 63) (hn : k ∉ L.map (·.2)) {Q : Bool → Shared → Prop}
    (hQ : ∀ h' L' es' ep' t', Heap.SameBut a s.heap h' → SQ P w h' a L' es' ep' t' → L'.Perm ((x, k) :: L) → Q true { s with heap := h' }) :
    wpAny (model P w) A (setAddHashed a (.ref x) (thash P w k)) Q E s := by
  obtain ⟨o, ho, hex, hd⟩ := R.ob
  have hsl := R.size
  have hroom := R.room
  have hmask : t.mask = 127 := by
    rcases R.tab.mok with e | e | e
    · rw [e] at hroom; omega
    · rw [e] at hroom; omega
    · exact e
  unfold setAddHashed
  refine wpAny_holding ?_
  rw [show (100000 : Nat) = 99999 + 1 from rfl, setAddHashedIn_succ]
  refine wpAny_bind (wpAny_setState_of ho hd R.fits ?_)
  dsimp only
  refine wp_if_neg (by simp [byScan, Value.scannable]) ?_
  try refine wpAny_bind (wpAny_pure ?_)
  refine wpAny_bind (search_at R hx hu (fun hm => absurd hm hn) fun K hm hK hb => ?_)
  dsimp only
  refine wpAny_bind (wpAny_setState_of ho hd R.fits ?_)
  dsimp only
  obtain ⟨q1, q2, q3, q4, q5, q6, q7, q8, q9⟩ := R.tab.put hK hb
  have hp1 : (t.put (way t.mask (thash P w k) K)).1.plain = true := by rw [q6]; exact R.plain
  generalize hpt : t.put (way t.mask (thash P w k) K) = pt at q1 q3 q4 q5 q6 q7 q8 q9 hp1 ⊢
  obtain ⟨t1, p⟩ := pt
  dsimp only at q1 q3 q4 q5 q6 q7 q8 q9 hp1 ⊢
  subst q1
  first
    | (refine wpAny_bind ?_; refine wp_if_pos hp1 ?_; refine hashBy_tup hx ?_)
    | refine wp_if_pos hp1 (wpAny_bind (hashBy_tup hx ?_))
  simp only [if_true]
  have hin : (SetTable.insertAt es (SetTable.below t.place (way t.mask (thash P w k) K)) (thash P w k, Value.ref x)).toList = rowsOf P w (L.take (SetTable.below t.place (way t.mask (thash P w k) K)) ++ (x, k) :: L.drop (SetTable.below t.place (way t.mask (thash P w k) K))) := by
    rw [SetTable.toList_insertAt, rows_put, R.rows]
  generalize SetTable.below t.place (way t.mask (thash P w k) K) = b at q2 q3 hin ⊢
  have pm := put_perm L b (x, k)
  have hlen : (L.take b ++ (x, k) :: L.drop b).length = 64 := by rw [pm.length_eq, List.length_cons, hl]
  have hhs : (L.take b ++ (x, k) :: L.drop b).map (fun p => thash P w p.2) = (L.map fun p => thash P w p.2).take b ++ thash P w k :: (L.map fun p => thash P w p.2).drop b := by
    rw [List.map_append, List.map_cons, List.map_take, List.map_drop]
  rw [← hhs] at q3
  have nd1 : ((L.take b ++ (x, k) :: L.drop b).map (·.2)).Nodup := by
    refine (pm.map (·.2)).nodup_iff.mpr ?_
    rw [List.map_cons]
    exact List.nodup_cons.mpr ⟨hm, R.nd⟩
  have hes : (SetTable.insertAt es b (thash P w k, Value.ref x)).size = 64 := by
    have h := congrArg List.length hin
    unfold rowsOf at h
    rw [Array.length_toList, List.length_map, hlen] at h
    exact h
  generalize SetTable.insertAt es b (thash P w k, Value.ref x) = es1 at hin hes ⊢
  generalize L.take b ++ (x, k) :: L.drop b = L1 at pm hlen q3 nd1 hin
  refine wpAny_bind (wpAny_storeSet_of ho hd ?_ (by rw [hes, sizeLine_eq]; omega))
  have sb : Heap.SameBut a s.heap (s.heap.update a (Obj.putSet es1 t1)) := Heap.SameBut.update ..
  have ho1 := store_at (es' := es1) (t' := t1) ho hd
  generalize s.heap.update a (Obj.putSet es1 t1) = h1 at sb ho1 ⊢
  have tup1 : ∀ p ∈ L1, IsT P w h1 p.2 p.1 := fun p hp => by
    rcases List.mem_cons.mp (pm.mem_iff.mp hp) with e | hp
    · rw [e]; exact isT_same hx ho hd sb
    · exact isT_same (R.tup p hp) ho hd sb
  have hf : t1.tooFull = false := by
    unfold SetTable.tooFull
    rw [q9, List.length_map, q4, hmask, hl]
    decide
  first
    | refine wp_if_neg (by simp [hf]) ?_
    | (refine wpAny_bind ?_; refine wp_if_neg (by simp [hf]) ?_; refine wpAny_pure ?_)
  refine wpAny_pure (hQ h1 L1 es1 (ep + 1) t1 sb ⟨⟨_, ho1, ⟨hex.1, hex.2.1, hex.2.2⟩, rfl⟩, hin, q3, nd1, tup1, hp1, by rw [q5]; exact R.led, by rw [hlen, q4, hmask]; decide, by omega⟩ pm)
/-- any is added, as long as there is room below 64 -/
theorem add_any (R : SQ P w s.heap a L es ep t) {x : Addr} {k : List Int} (hx : IsT P w s.heap k x) (hu : A.units < cLine) (hr : k ∈ L.map (·.2) ∨ L.length < 64) {Q : Bool → Shared → Prop}
    (hQ : ∀ b h' L' es' ep' t', Heap.SameBut a s.heap h' → SQ P w h' a L' es' ep' t' → (k ∈ L.map (·.2) → L' = L) → (k ∉ L.map (·.2) → L'.Perm ((x, k) :: L)) → Q b { s with heap := h' }) :
    wpAny (model P w) A (setAddHashed a (.ref x) (thash P w k)) Q E s := by
  by_cases hm : k ∈ L.map (·.2)
  · exact add_found R hx hu hm (hQ false s.heap L es ep t (Heap.SameBut.refl a s.heap) R (fun _ => rfl) fun z => absurd hm z)
  · have hl : L.length < 64 := hr.resolve_left hm
    rcases Nat.lt_or_ge (L.length + 1) 64 with z | z
    · exact add_at (R.trH hl) hx hu z fun b h' L' es' ep' t' sb R' c1 c2 => hQ b h' L' es' ep' t' sb (SQ.ofH R') c1 c2
    · exact add_last (R.trH hl) hx hu (by omega) hm fun h' L' es' ep' t' sb R' pm => hQ true h' L' es' ep' t' sb R' (fun z => absurd z hm) fun _ => pm
end
end GZ
end

section
set_option Elab.async false
set_option linter.all false
set_option maxRecDepth 100000
set_option maxHeartbeats 3200000
namespace GZ
open PySem PySem.Spec PyProof.Rows L2
theorem nodup_le {α : Type} [DecidableEq α] : ∀ {l U : List α}, l.Nodup → (∀ x ∈ l, x ∈ U) → l.length ≤ U.length
  | [], _, _, _ => Nat.zero_le _
  | x :: l, U, n, h => by
    obtain ⟨n1, n2⟩ := List.nodup_cons.mp n
    have hx := h x List.mem_cons_self
    have ih := nodup_le (l := l) (U := U.erase x) n2 fun y hy => by
      have hne : y ≠ x := fun e => n1 (e ▸ hy)
      exact (List.mem_erase_of_ne hne).mpr (h y (List.mem_cons_of_mem _ hy))
    rw [List.length_erase_of_mem hx] at ih
    have hp : 0 < U.length := List.length_pos_of_mem hx
    rw [List.length_cons]
    omega
section
variable {P : Program} {w : World} {A : Around} {E : Value → Shared → Prop} {s : Shared}
/-- the loop of set.update, the keys among at most 64 -/
theorem upd_loop {I : Addr} {fp wr : List Addr} {G : Array GenState → Array GenState → Prop} {n : Nat} {Pv : Nat → Value → Prop} {St : Nat → Shared → Prop} {R : Result → Shared → Prop}
    (W : WalksS P w A.in1 I fp wr G n Pv St) (S : Addr) (hSf : S ∉ fp) (ks : List (Addr × List Int)) (U : List (List Int)) (hU : U.length ≤ 64) (hkU : ∀ p ∈ ks, p.2 ∈ U) (hn : n = ks.length) (hval : ∀ i v, Pv i v → ∃ p, ks[i]? = some p ∧ v = .ref p.1)
    (h0 : Heap) (hk : ∀ p ∈ ks, IsT P w h0 p.2 p.1) (hS0 : h0.get? S = none) (hw0 : ∀ b ∈ wr, h0.get? b = none) (hu : A.in1.units < cLine) :
    ∀ (k i : Nat) (s : Shared), n - i = k → i ≤ n → St i s → (∀ b o, h0.get? b = some o → s.heap.get? b = some o) → (∃ L es ep t, SQ P w s.heap S L es ep t ∧ Got ks i L) →
      (∀ s' L es ep t, Moved (S :: wr) G s s' → SQ P w s'.heap S L es ep t → Got ks n L → (∀ b o, h0.get? b = some o → s'.heap.get? b = some o) → R (.ok (.ret .none)) s') →
      codeAny (model P w) A (.builtin "set.update.loop" ⟨[.ref S, .ref I], []⟩) R s := by
  have hSw : S ∉ wr := fun h => hSf (W.sub _ h)
  have hsub : ∀ b ∈ wr, b ∈ S :: wr := fun b hb => List.mem_cons_of_mem _ hb
  have keepM : ∀ {s s' : Shared}, Moved wr G s s' → (∀ b o, h0.get? b = some o → s.heap.get? b = some o) → ∀ b o, h0.get? b = some o → s'.heap.get? b = some o := fun hm hkp b o e =>
    hm.heap b o (fun hb => by rw [hw0 b hb] at e; cases e) (hkp b o e)
  have few : ∀ {i : Nat} {L : List (Addr × List Int)} {p : Addr × List Int}, Got ks i L → (L.map (·.2)).Nodup → p ∈ ks → p.2 ∈ L.map (·.2) ∨ L.length < 64 := fun {i L p} g nd hp => by
    by_cases c : p.2 ∈ L.map (·.2)
    · exact .inl c
    · have q := nodup_le (l := p.2 :: L.map (·.2)) (U := U) (List.nodup_cons.mpr ⟨c, nd⟩) fun y hy => by
        rcases List.mem_cons.mp hy with e | hy
        · rw [e]; exact hkU p hp
        · obtain ⟨z, hz, e⟩ := List.mem_map.mp hy
          rw [← e]
          exact hkU z (List.mem_of_mem_take (g.sub z hz))
      rw [List.length_cons, List.length_map] at q
      exact .inr (by omega)
  intro k
  induction k with
  | zero =>
    intro i s hk' hi hst hkp ⟨L, es, ep, t, hS, g⟩ hR
    obtain rfl : i = n := by omega
    refine codeAny_builtin PyProof.Rows.F.entry_set_update_loop ?_
    rw [Around.under_plainId PyProof.Rows.F.plain_set_update_loop _]
    show wpAny _ A.in1 (pyNext (.ref I) >>= _) _ _ s
    refine wpAny_bind (W.done s _ _ hst fun s' hm => ?_)
    show wpAny _ A.in1 (ret Value.none) _ _ s'
    have hkp' := keepM hm hkp
    exact wpAny_pure (hR s' L es ep t (hm.mono hsub) (hS.keep (fun o e => hm.heap S o hSw e) fun p hp => isT_keep (hk p (List.mem_of_mem_take (g.sub p hp))) hkp') g hkp')
  | succ k ih =>
    intro i s hk' hi hst hkp ⟨L, es, ep, t, hS, g⟩ hR
    have hlt : i < n := by omega
    refine codeAny_builtin PyProof.Rows.F.entry_set_update_loop ?_
    rw [Around.under_plainId PyProof.Rows.F.plain_set_update_loop _]
    show wpAny _ A.in1 (pyNext (.ref I) >>= _) _ _ s
    refine wpAny_bind (W.item i s _ _ hlt hst fun v s' hP hst' hm => ?_)
    obtain ⟨p, hp, rfl⟩ := hval i v hP
    have hkp' := keepM hm hkp
    have hS' : SQ P w s'.heap S L es ep t := hS.keep (fun o e => hm.heap S o hSw e) fun q hq => isT_keep (hk q (List.mem_of_mem_take (g.sub q hq))) hkp'
    have hpm : p ∈ ks := List.mem_of_getElem? hp
    have hx : IsT P w s'.heap p.2 p.1 := isT_keep (hk p hpm) hkp'
    show wpAny _ A.in1 (holding [Value.ref p.1] (setAdd S (.ref p.1)) >>= _) _ _ s'
    refine wpAny_bind (wpAny_holding ?_)
    unfold setAdd
    refine wpAny_holding ?_
    refine wpAny_bind (wpAny_pyHash_tuple hu hx ?_)
    refine add_any (s := { s' with toks := s'.toks + (p.2.length + 1) }) hS' hx hu (few g hS'.nd hpm) fun b h' L' es' ep' t' hsb hS2 c1 c2 => ?_
    have g' : Got ks (i + 1) L' := by
      by_cases c : p.2 ∈ L.map (·.2)
      · rw [c1 c]; exact g.same hp c
      · exact g.more hp (c2 c)
    have hkp2 : ∀ b o, h0.get? b = some o → h'.get? b = some o := fun b o e => (hsb.2 b (fun z => by rw [z, hS0] at e; cases e)).trans (hkp' b o e)
    refine wpAny_pure ⟨plainId_quiet PyProof.Rows.F.plain_set_update_loop _, ih (i + 1) _ (by omega) hlt (W.frame _ s' _ _ hst' (Nat.le_add_right _ _) fun b hb o e => ?_) hkp2 ⟨L', es', ep', t', hS2, g'⟩ fun s'' L2 es2 ep2 t2 hm'' hS'' g'' hkp'' => ?_⟩
    · rw [hsb.2 b (fun h : b = S => hSf (by rw [← h]; exact hb))]
      exact e
    · refine hR s'' L2 es2 ep2 t2 (Moved.trans W.gtrans ((hm.mono hsub).then_heap (Nat.le_add_right _ _) fun b o hb e => ?_) hm'') hS'' g'' hkp''
      rw [hsb.2 b (fun h : b = S => hb (by rw [h]; exact List.mem_cons_self))]
      exact e

/-- what a new set is -/
abbrev newSetObj (w : World) : Obj := { cls := .type "set", dict := none, data := .set #[] 0 (.fresh 0 0 (!w.params.followText "set-order")) }
/-- its filling: what set.__init__ does with a list or a tuple that is walked by W -/
theorem set_of {vv : Value} {items : Array Value} (ks : List (Addr × List Int)) (U : List (List Int)) (hU : U.length ≤ 64) (hkU : ∀ p ∈ ks, p.2 ∈ U) {Q : Value → Shared → Prop}
    (hu : A.units + 3 < cLine)
    (hinit : ∀ (R : Result → Shared → Prop), (∀ (h' : Heap) (tk : Nat) L es ep t, SQ P w h' s.heap.objs.size L es ep t → Got ks ks.length L → (∀ b o, s.heap.get? b = some o → h'.get? b = some o) → R (.ok (.ret .none)) { s with heap := h', toks := tk }) →
      wpAny (model P w) A.in1.in1 (Builtin.«set.__init__» ⟨[.ref s.heap.objs.size, vv], []⟩) (fun fin s' => match fin with | .done f => R (.ok f) s' | .again c' => c'.quiet = true ∧ codeAny (model P w) A.in1 c' R s') (fun e s' => R (.error e) s') { s with heap := s.heap.push (newSetObj w) })
    (h : ∀ (h' : Heap) (tk : Nat) L es ep t, SQ P w h' s.heap.objs.size L es ep t → Got ks ks.length L → (∀ b o, s.heap.get? b = some o → h'.get? b = some o) → Q (.ref s.heap.objs.size) { s with heap := h', toks := tk }) :
    wpAny (model P w) A (call (.type "set") [vv]) Q E s := by
  obtain ⟨c, tl, hmro⟩ := PySem.F.called_set.mro
  have hmade := PySem.F.called_set.made
  have hsub := PySem.F.called_set.sub
  refine wpAny_call (codeAny_of_tree ?_)
  show wpAny _ _ (callAny (.type "set") _) _ _ _
  refine wpAny_pure ⟨Code.quiet_builtin _ (by decide +kernel), codeAny_builtin PySem.F.entry_type_call ?_⟩
  rw [Around.under_plain (weight_type_call_type "set" [vv] []) rfl]
  have h1 := PySem.F.called_set.notType
  have h2 := PySem.F.called_set.canCreate
  have hct := PySem.F.typeCall_set_1 vv
  repeat (any_goals (first | assumption | wp_step))
  refine codeAny_mono (code_set_led1 vv (E := E) (Q₁ := fun obj s₁ => obj = .ref s.heap.objs.size ∧ s₁ = { s with heap := s.heap.push (newSetObj w) }) ⟨rfl, rfl⟩) fun r s₁ hr => ?_
  cases r with
  | error e => exact hr
  | ok fl =>
    cases fl with
    | ret obj =>
      obtain ⟨rfl, rfl⟩ := hr
      have hS : (s.heap.push (newSetObj w)).get? s.heap.objs.size = some (newSetObj w) := Heap.get?_push_size _ rfl
      have hT : Shared.TypeIs { s with heap := s.heap.push (newSetObj w) } (.ref s.heap.objs.size) "set" := ⟨_, hS, rfl⟩
      have hli := PySem.F.called_set.init.lookup
      have hbi := PySem.F.called_set.init.bind (.ref s.heap.objs.size)
      repeat (any_goals (first | assumption | wp_step))
      refine codeAny_mono (codeAny_call_builtin (R := wants (fun r s₂ => r = .none ∧ ∃ h' tk L es ep t, s₂ = { s with heap := h', toks := tk } ∧ SQ P w h' s.heap.objs.size L es ep t ∧ Got ks ks.length L ∧
          (∀ b o, s.heap.get? b = some o → h'.get? b = some o)) E) PySem.F.called_set.init.plain PySem.F.entry_set_init (check_set_init_1 hT ?_)) fun r₂ s₂ hr₂ => ?_
      · exact hinit _ fun h' tk L es ep t a1 a2 a3 => ⟨rfl, h', tk, L, es, ep, t, rfl, a1, a2, a3⟩
      · cases r₂ with
        | error e => exact hr₂
        | ok fl₂ =>
          cases fl₂ with
          | ret r =>
            obtain ⟨rfl, h', tk, L, es, ep, t, rfl, hS', g', hk'⟩ := hr₂
            repeat (any_goals (first | assumption | wp_step))
            exact h _ _ _ _ _ _ hS' g' hk'
          | _ => exact hr₂.elim
    | _ => exact hr.elim
end
end GZ
end

section
set_option Elab.async false
set_option linter.all false
set_option maxRecDepth 100000
set_option maxHeartbeats 3200000
namespace GZ
open PySem PySem.Spec PyProof.Rows L2
section
variable {P : Program} {w : World} {A : Around} {E : Value → Shared → Prop} {s : Shared}

/-- set(xs), xs a list of tuples of ints, among at most 64 -/
theorem call_set_lst {l : Addr} {items : Array Value} (ks : List (Addr × List Int)) (U : List (List Int)) (hU : U.length ≤ 64) (hkU : ∀ p ∈ ks, p.2 ∈ U) {Q : Value → Shared → Prop} (hh : A.handled = none) (hl : s.heap.IsList l items) (hit : items.toList = ks.map fun p => Value.ref p.1)
    (hk : ∀ p ∈ ks, IsT P w s.heap p.2 p.1) (hu : A.units + 3 < cLine)
    (h : ∀ (h' : Heap) (tk : Nat) L es ep t, SQ P w h' s.heap.objs.size L es ep t → Got ks ks.length L → (∀ b o, s.heap.get? b = some o → h'.get? b = some o) → Q (.ref s.heap.objs.size) { s with heap := h', toks := tk }) :
    wpAny (model P w) A (call (.type "set") [.ref l]) Q E s := by
  have hisz : items.size = ks.length := by
    have q := congrArg List.length hit
    rw [Array.length_toList, List.length_map] at q
    exact q
  refine set_of (items := items) ks U hU hkU hu (fun R hR => ?_) h
  have hl0 := hl
  obtain ⟨ol, hol, hcl, nl, hdl⟩ := hl
  obtain ⟨ocls, odict, odata, oslots⟩ := ol
  simp only at hcl hdl
  subst hcl
  subst hdl
  have hol' : (s.heap.push (newSetObj w)).get? l = some { cls := .type "list", dict := odict, data := .seq items nl, slots := oslots } := Heap.get?_push_of_some _ hol
  have hsls := PySem.F.sub_list_set
  have hslf := PySem.F.sub_list_frozenset
  have hne : (Value.type "list" == Value.type "dict") = false := by decide
  have hl1 : (s.heap.push (newSetObj w)).IsList l items := ⟨_, hol', rfl, nl, rfl⟩
  unfold Builtin.«set.__init__» noKeywords Builtin.Frozenset.updateFrom
  generalize hPI : pyIter = PI
  wp_walk
  subst hPI
  refine wpAny_pyIter_list hl1 ?_
  refine wpAny_bind (wpAny_runValue ?_)
  have hlS : l < s.heap.objs.size := Heap.lt_size hol
  have hh3 : A.in1.in1.in1.handled = none := by simp [hh]
  have hneI : l ≠ (s.heap.push (newSetObj w)).objs.size := by
    rw [Heap.size_push]; exact Nat.ne_of_lt (Nat.lt_succ_of_lt hlS)
  have hSf : s.heap.objs.size ∉ [(s.heap.push (newSetObj w)).objs.size, l] := by
    rw [Heap.size_push]; simp only [List.mem_cons, List.mem_singleton, List.not_mem_nil, or_false, not_or]
    exact ⟨Nat.ne_of_lt (Nat.lt_succ_self _), Nat.ne_of_gt hlS⟩
  have hval : ∀ (i : Nat) (v : Value), items[i]? = some v → ∃ p, ks[i]? = some p ∧ v = .ref p.1 := fun i v hv => by
    have q : items.toList[i]? = some v := by rw [Array.getElem?_toList]; exact hv
    rw [hit, List.getElem?_map] at q
    cases hq : ks[i]? with
    | none => rw [hq] at q; cases q
    | some p =>
      rw [hq] at q
      exact ⟨p, rfl, (Option.some.inj q).symm⟩
  have none_of : ∀ b, s.heap.objs.size ≤ b → s.heap.get? b = none := fun b hb => by
    cases q : s.heap.get? b with
    | none => rfl
    | some o => exact absurd (Nat.lt_of_lt_of_le (Heap.lt_size q) hb) (Nat.lt_irrefl _)
  refine upd_loop ((Walks.list hh3 _ l hneI items).toS) s.heap.objs.size
    hSf ks U hU hkU hisz hval s.heap hk (none_of _ (Nat.le_refl _)) (fun b hb => none_of b (by
      rw [List.mem_singleton.mp hb, Heap.size_push]
      exact Nat.le_succ _)) hu (items.size - 0) 0 _ (by omega) (Nat.zero_le _)
    ⟨⟨_, Heap.get?_push_size _ rfl, rfl, rfl⟩, (hl1.push _)⟩ (fun b o e => Heap.get?_push_of_some _ (Heap.get?_push_of_some _ e)) ?hS0 ?hR
  case hS0 =>
    have hget : ((s.heap.push (newSetObj w)).push { cls := .type "list_iterator", data := .fields #[.ref l, .int 0 0] }).get? s.heap.objs.size = some (newSetObj w) := Heap.get?_push_of_some _ (Heap.get?_push_size _ rfl)
    exact ⟨[], #[], 0, _, SQ.ofH (setTR_fresh hget), Got.zero ks⟩
  case hR =>
    intro s' L es ep t hm hS' g' hkp
    obtain ⟨h', g2, d', tk', os'⟩ := s'
    have eg : g2 = s.gens := hm.gens
    have ed : d' = s.drawn := hm.drawn
    have eo : os' = s.os := hm.os
    subst eg
    subst ed
    subst eo
    show wpAny _ _ _ _ _ _
    refine wpAny_pure ?_
    show wpAny _ _ (ret Value.none) _ _ _
    rw [hisz] at g'
    exact wpAny_pure (hR h' tk' L es ep t hS' g' hkp)

/-- set(xs), xs a tuple of tuples of ints, among at most 64 -/
theorem call_set_tup {l : Addr} {items : Array Value} (ks : List (Addr × List Int)) (U : List (List Int)) (hU : U.length ≤ 64) (hkU : ∀ p ∈ ks, p.2 ∈ U) {Q : Value → Shared → Prop} (hh : A.handled = none) (hl : s.heap.IsTuple l items) (hit : items.toList = ks.map fun p => Value.ref p.1)
    (hk : ∀ p ∈ ks, IsT P w s.heap p.2 p.1) (hu : A.units + 3 < cLine)
    (h : ∀ (h' : Heap) (tk : Nat) L es ep t, SQ P w h' s.heap.objs.size L es ep t → Got ks ks.length L → (∀ b o, s.heap.get? b = some o → h'.get? b = some o) → Q (.ref s.heap.objs.size) { s with heap := h', toks := tk }) :
    wpAny (model P w) A (call (.type "set") [.ref l]) Q E s := by
  have hisz : items.size = ks.length := by
    have q := congrArg List.length hit
    rw [Array.length_toList, List.length_map] at q
    exact q
  refine set_of (items := items) ks U hU hkU hu (fun R hR => ?_) h
  have hl0 := hl
  obtain ⟨ol, hol, hcl, nl, hdl⟩ := hl
  obtain ⟨ocls, odict, odata, oslots⟩ := ol
  simp only at hcl hdl
  subst hcl
  subst hdl
  have hol' : (s.heap.push (newSetObj w)).get? l = some { cls := .type "tuple", dict := odict, data := .seq items nl, slots := oslots } := Heap.get?_push_of_some _ hol
  have hsls := PySem.F.sub_tuple_set
  have hslf := PySem.F.sub_tuple_frozenset
  have hne : (Value.type "tuple" == Value.type "dict") = false := by decide
  have hl1 : (s.heap.push (newSetObj w)).IsTuple l items := ⟨_, hol', rfl, nl, rfl⟩
  unfold Builtin.«set.__init__» noKeywords Builtin.Frozenset.updateFrom
  generalize hPI : pyIter = PI
  wp_walk
  subst hPI
  refine wpAny_pyIter_tuple hl1 ?_
  refine wpAny_bind (wpAny_runValue ?_)
  have hlS : l < s.heap.objs.size := Heap.lt_size hol
  have hh3 : A.in1.in1.in1.handled = none := by simp [hh]
  have hneI : l ≠ (s.heap.push (newSetObj w)).objs.size := by
    rw [Heap.size_push]; exact Nat.ne_of_lt (Nat.lt_succ_of_lt hlS)
  have hSf : s.heap.objs.size ∉ [(s.heap.push (newSetObj w)).objs.size, l] := by
    rw [Heap.size_push]; simp only [List.mem_cons, List.mem_singleton, List.not_mem_nil, or_false, not_or]
    exact ⟨Nat.ne_of_lt (Nat.lt_succ_self _), Nat.ne_of_gt hlS⟩
  have hval : ∀ (i : Nat) (v : Value), items[i]? = some v → ∃ p, ks[i]? = some p ∧ v = .ref p.1 := fun i v hv => by
    have q : items.toList[i]? = some v := by rw [Array.getElem?_toList]; exact hv
    rw [hit, List.getElem?_map] at q
    cases hq : ks[i]? with
    | none => rw [hq] at q; cases q
    | some p =>
      rw [hq] at q
      exact ⟨p, rfl, (Option.some.inj q).symm⟩
  have none_of : ∀ b, s.heap.objs.size ≤ b → s.heap.get? b = none := fun b hb => by
    cases q : s.heap.get? b with
    | none => rfl
    | some o => exact absurd (Nat.lt_of_lt_of_le (Heap.lt_size q) hb) (Nat.lt_irrefl _)
  refine upd_loop ((Walks.tuple hh3 _ l hneI items).toS) s.heap.objs.size
    hSf ks U hU hkU hisz hval s.heap hk (none_of _ (Nat.le_refl _)) (fun b hb => none_of b (by
      rw [List.mem_singleton.mp hb, Heap.size_push]
      exact Nat.le_succ _)) hu (items.size - 0) 0 _ (by omega) (Nat.zero_le _)
    ⟨⟨_, Heap.get?_push_size _ rfl, rfl, rfl⟩, (hl1.push _)⟩ (fun b o e => Heap.get?_push_of_some _ (Heap.get?_push_of_some _ e)) ?hS0 ?hR
  case hS0 =>
    have hget : ((s.heap.push (newSetObj w)).push { cls := .type "tuple_iterator", data := .fields #[.ref l, .int 0 0] }).get? s.heap.objs.size = some (newSetObj w) := Heap.get?_push_of_some _ (Heap.get?_push_size _ rfl)
    exact ⟨[], #[], 0, _, SQ.ofH (setTR_fresh hget), Got.zero ks⟩
  case hR =>
    intro s' L es ep t hm hS' g' hkp
    obtain ⟨h', g2, d', tk', os'⟩ := s'
    have eg : g2 = s.gens := hm.gens
    have ed : d' = s.drawn := hm.drawn
    have eo : os' = s.os := hm.os
    subst eg
    subst ed
    subst eo
    show wpAny _ _ _ _ _ _
    refine wpAny_pure ?_
    show wpAny _ _ (ret Value.none) _ _ _
    rw [hisz] at g'
    exact wpAny_pure (hR h' tk' L es ep t hS' g' hkp)
end
end GZ
end

section
set_option Elab.async false
set_option linter.all false
set_option maxRecDepth 100000
set_option maxHeartbeats 3200000
namespace GZ
open PySem PySem.Spec PyProof.Rows L2 Ly GY
def kOf (c : C3) : List Int := [c.1, c.2.1, c.2.2]
theorem kOf_inj {a b : C3} (h : kOf a = kOf b) : a = b := by
  unfold kOf at h
  injection h with h1 h2
  injection h2 with h2 h3
  injection h3 with h3 _
  exact c3_ext h1 h2 h3
abbrev kL (L : List (Addr × C3)) : List (Addr × List Int) := L.map fun p => (p.1, kOf p.2)
section
variable {P : Program} {w : World} {A : Around} {E : Value → Shared → Prop} {s : Shared}
theorem reads_c {h : Heap} {b : Addr} {c : C3} (x : IsT P w h (kOf c) b) : Reads h (.ref b) (cD c) [] := by
  obtain ⟨o, items, n, ho, hc, hd, hi⟩ := x
  refine .tuple ho hc hd ?_
  have hi2 : IntsAre items.toList (kOf c) := ints_of_items hi
  generalize items.toList = vs at hi2
  unfold kOf at hi2
  cases hi2 with
  | cons n1 t1 h2 =>
    cases h2 with
    | cons n2 t2 h3 =>
      cases h3 with
      | cons n3 t3 h4 =>
        cases h4
        exact .cons (.int _ _) (.cons (.int _ _) (.cons (.int _ _) .nil))
/-- sorted of a set of cells -/
theorem sorted_q {a : Addr} {L : List (Addr × C3)} {es : Array (Int × Value)} {ep : Nat} {t : SetTable} {Q : Value → Shared → Prop} (R : SQ P w s.heap a (kL L) es ep t) (hh : A.handled = none) (hu : A.units + 8 < cLine)
    (hQ : ∀ s' p (out : Array Value) (c : Nat) (L' : List (Addr × C3)), (∀ b o, s.heap.get? b = some o → s'.heap.get? b = some o) → s'.gens = s.gens → s'.os = s.os → s.heap.objs.size ≤ p →
      s'.heap.get? p = some (seqObj "list" out c) → out.toList = L'.map (fun q => Value.ref q.1) → L'.Perm L → L'.Pairwise (fun q r => ¬ lt3 r.2 q.2) → Q (.ref p) s') :
    wpAny (model P w) A (call (.builtin "sorted") [.ref a]) Q E s := by
  obtain ⟨o, ho, hex, hd⟩ := R.ob
  have hsz := R.size
  have hfew := R.few
  rw [List.length_map] at hsz hfew
  refine Calls.call_function_entry kind_sorted plain_sorted entry_sorted (args_sorted1 _) ?_
  unfold Builtin.«sorted»
  refine wpAny_bind (m := checkCount "sorted" 1 1 _) (wpAny_pure ?_)
  refine wpAny_bind (collect_set (A := A.in1) hh ⟨o, ho, hex.1, hd⟩ R.fits (by unfold scanBound; omega) R.tab.ris R.led fun s1 vs k1 hz g1 o1 pm => ?_)
  have hes : es.toList.map (·.2) = L.map fun q => Value.ref q.1 := by
    rw [R.rows]
    unfold rowsOf
    rw [List.map_map, List.map_map] <;> rfl
  rw [hes] at pm
  have ord : ∀ vs : List Value, (∀ v ∈ vs, ∃ q ∈ L, v = Value.ref q.1) → ∃ L1 : List (Addr × C3), vs = L1.map (fun q => Value.ref q.1) ∧ ∀ q ∈ L1, q ∈ L := by
    intro vs
    induction vs with
    | nil => exact fun _ => ⟨[], rfl, fun q hq => (by cases hq)⟩
    | cons v vs ih =>
      intro hv
      obtain ⟨q, hq, e⟩ := hv v List.mem_cons_self
      obtain ⟨L1, e1, hs⟩ := ih fun u hu => hv u (List.mem_cons_of_mem _ hu)
      refine ⟨q :: L1, by rw [List.map_cons, e, e1], fun r hr => ?_⟩
      rcases List.mem_cons.mp hr with z | z
      · rw [z]; exact hq
      · exact hs r z
  have tupL : ∀ q ∈ L, IsT P w s.heap (kOf q.2) q.1 := fun q hq => R.tup (q.1, kOf q.2) (List.mem_map.mpr ⟨q, hq, rfl⟩)
  have one : ∀ q ∈ L, ∀ r ∈ L, q.1 = r.1 → q = r := fun q hq r hr e => by
    have a1 := tupL q hq
    have a2 := tupL r hr
    rw [e] at a1
    exact Prod.ext e (kOf_inj (a1.inj a2))
  have nL : L.Nodup := by
    have q := nodup_of_map R.nd
    exact nodup_of_map q
  have nref : (L.map fun q => Value.ref q.1).Nodup := by
    refine List.pairwise_map.mpr (List.Pairwise.imp_of_mem (fun {q r} hq hr hne e => ?_) nL)
    injection e with e
    exact hne (one q hq r hr e)
  have perm_of : ∀ L1 : List (Addr × C3), (∀ q ∈ L1, q ∈ L) → (L1.map (fun q => Value.ref q.1)).Perm (L.map fun q => Value.ref q.1) → L1.Perm L := by
    intro L1 hs pm1
    have n1 : L1.Nodup := nodup_of_map (pm1.nodup_iff.mpr nref)
    refine (List.perm_ext_iff_of_nodup n1 nL).mpr fun q => ⟨hs q, fun hq => ?_⟩
    have hm : Value.ref q.1 ∈ L1.map (fun q => Value.ref q.1) := pm1.mem_iff.mpr (List.mem_map.mpr ⟨q, hq, rfl⟩)
    obtain ⟨r, hr, e⟩ := List.mem_map.mp hm
    injection e with e
    rw [← one r (hs r hr) q hq e]
    exact hr
  obtain ⟨L1, e1, hs1⟩ := ord vs fun v hv => by
    obtain ⟨q, hq, e⟩ := List.mem_map.mp (pm.mem_iff.mp hv)
    exact ⟨q, hq, e.symm⟩
  have pm1 : L1.Perm L := perm_of L1 hs1 (by rw [← e1]; exact pm)
  have hvl : vs.length ≤ 64 := by rw [pm.length_eq, List.length_map]; exact hfew
  refine wpAny_bind (wpAny_newList ?_ (by rw [sizeLine_eq]; omega))
  have hoL : (s1.heap.push (seqObj "list" vs.toArray 0)).get? s1.heap.objs.size = some (seqObj "list" vs.toArray 0) := Heap.get?_push_size _ rfl
  have tk : ∀ q ∈ L, Reads (s1.heap.push (seqObj "list" vs.toArray 0)) (.ref q.1) (cD q.2) [] := fun q hq => reads_c (P := P) (w := w) (isT_keep (tupL q hq) fun b u e => Heap.get?_push_of_some _ (k1 b u e))
  have ea : ∀ (L1 : List (Addr × C3)), PySem.W.EachIs (fun (v : Value) (b : Addr × C3) => v = .ref b.1) (L1.map fun q => Value.ref q.1) L1 := by
    intro L1
    induction L1 with
    | nil => exact .nil
    | cons q L1 ih => exact .cons rfl ih
  have er : ∀ (L1 : List (Addr × C3)), (∀ q ∈ L1, q ∈ L) → PySem.W.EachIs (fun (v : Value) (b : Addr × C3) => ∃ as, Reads (s1.heap.push (seqObj "list" vs.toArray 0)) v ((fun b : Addr × C3 => cD b.2) b) as ∧ s1.heap.objs.size ∉ as) (L1.map fun q => Value.ref q.1) L1 := by
    intro L1
    induction L1 with
    | nil => exact fun _ => .nil
    | cons q L1 ih => exact fun hs => .cons ⟨[], tk q (hs q List.mem_cons_self), by simp⟩ (ih fun r hr => hs r (List.mem_cons_of_mem _ hr))
  have hl1 : L1.length = vs.length := by rw [e1, List.length_map]
  refine wpAny_bind (wpAny_holding (PySem.W.list_sort_data (s := { s1 with heap := s1.heap.push (seqObj "list" vs.toArray 0) }) (enc := fun b : Addr × C3 => cD b.2) (R := fun (v : Value) (b : Addr × C3) => v = .ref b.1) (bs := L1) (vs := vs) hoL (by rw [e1]; exact ea L1) (by have q := er L1 hs1; rw [← e1] at q; exact q)
    (PySem.W.AllAlike.of fun b b' => cD_alike _ _) (PySem.W.Sortable.tuples fun b => ⟨_, _, rfl⟩) (by rw [hl1, sizeLine_eq]; omega) (fun b _ => by rw [cD_depth]; show A.units + 1 + 1 + 1 < _; omega) fun out ho2 eo => ?_))
  obtain ⟨c, hc⟩ := sortedHeap_at (vs := vs) (out := out.toArray) hoL
  rw [leC] at eo
  have pm2 := List.mergeSort_perm L1 (fun a b => decide (¬ lt3 b.2 a.2))
  have so := List.pairwise_mergeSort (le := fun (a b : Addr × C3) => decide (¬ lt3 b.2 a.2)) (fun a b c => le_trans3 a.2 b.2 c.2) (fun a b => le_total3 a.2 b.2) L1
  have out_of : ∀ {us : List Value} {bs : List (Addr × C3)}, PySem.W.EachIs (fun (v : Value) (b : Addr × C3) => v = .ref b.1) us bs → us = bs.map fun q => Value.ref q.1 := by
    intro us bs h
    induction h with
    | nil => rfl
    | cons h1 _ ih => rw [h1, ih] <;> rfl
  refine wpAny_pure ⟨_, rfl, hQ _ s1.heap.objs.size out.toArray c _ (fun b u e => ?_) g1 o1 hz hc (by rw [List.toList_toArray]; exact out_of eo) (pm2.trans pm1) (List.Pairwise.imp (fun {a b} h => by simpa using h) so)⟩
  have q := k1 b u e
  have hlt := Heap.lt_size q
  show (sortedHeap (s1.heap.push (seqObj "list" vs.toArray 0)) s1.heap.objs.size vs out.toArray).get? b = some u
  rw [sortedHeap_old (Nat.ne_of_lt hlt) (by rw [size_push']; exact Nat.lt_succ_of_lt hlt)]
  exact Heap.get?_push_of_some _ q
end

/-! ### over the layer -/
structure SQ0 (P : Program) (w : World) (h : Heap) (a : Addr) (L : List (Addr × C3)) : Prop where
  ex : ∃ (es : Array (Int × Value)) (ep : Nat) (t : SetTable), (∃ o, h.get? a = some o ∧ o.ExactSet ∧ o.data = .set es ep t) ∧ es.toList = rowsOf P w (kL L) ∧ TabOk t ((kL L).map fun p => thash P w p.2) ∧ ((kL L).map (·.2)).Nodup ∧ t.plain = true ∧
    (w.params.followText "set-order" = true ∨ t.led = true) ∧ (kL L).length * 5 < t.mask * 3 ∧ (kL L).length ≤ 64
def SQO (P : Program) (w : World) (a : Addr) (L : List (Addr × C3)) : HO := .ext fun h => SQ0 P w h a L
theorem SQ.t0 {P : Program} {w : World} {h : Heap} {a : Addr} {L : List (Addr × C3)} {es : Array (Int × Value)} {ep : Nat} {t : SetTable} (R : SQ P w h a (kL L) es ep t) : SQ0 P w h a L :=
  ⟨es, ep, t, R.ob, R.rows, R.tab, R.nd, R.plain, R.led, R.room, R.few⟩
theorem SQ0.full {P : Program} {w : World} {h : Heap} {a : Addr} {L : List (Addr × C3)} (R : SQ0 P w h a L) (ht : ∀ p ∈ kL L, IsT P w h p.2 p.1) : ∃ es ep t, SQ P w h a (kL L) es ep t := by
  obtain ⟨es, ep, t, h1, h2, h3, h4, h5, h6, h7, h8⟩ := R.ex
  exact ⟨es, ep, t, h1, h2, h3, h4, ht, h5, h6, h7, h8⟩
theorem sqo_new {P : Program} {w : World} {H : Hp} {h : Heap} {a : Addr} {L : List (Addr × C3)} (R : SQ0 P w h a L) : ObjOk P w H h a (SQO P w a L) := by
  have ⟨es, ep, t, ⟨o, ho, r⟩, q⟩ := R.ex
  refine ⟨R, ⟨o, ho⟩, fun h1 h2 p k => ?_⟩
  have ⟨es', ep', t', ⟨o', ho', r'⟩, q'⟩ := SQ0.ex p
  exact ⟨es', ep', t', ⟨o', k o' ho', r'⟩, q'⟩
/-- the addresses of the cells -/
theorem addrs_of {K : PySem.W.Frag} {H : Hp} : ∀ {xs : List V} {cs : List C3}, Items K H xs cs → ∃ L : List (Addr × C3), xs = L.map (fun p => V.ref p.1) ∧ L.map (·.2) = cs ∧ ∀ p ∈ L, SqT K H p.1 ((kOf p.2).map V.int)
  | [], [], _ => ⟨[], rfl, rfl, fun p hp => (by cases hp)⟩
  | [], _ :: _, h => by cases h
  | _ :: _, [], h => by cases h
  | x :: xs, c :: cs, h => by
    cases h with
    | cons h1 h2 =>
      obtain ⟨p, e, hs⟩ := of_dp_c h1
      obtain ⟨L, e1, e2, e3⟩ := addrs_of (xs := xs) (cs := cs) h2
      refine ⟨(p, c) :: L, by rw [e, e1] <;> rfl, by rw [← e2] <;> rfl, fun q hq => ?_⟩
      rcases List.mem_cons.mp hq with z | z
      · rw [z]; exact hs
      · exact e3 q z
section
variable {X : Cx}
theorem roomK : (room.map kOf).length ≤ 64 := by
  rw [List.length_map]
  unfold room
  simp
/-- set(xs), xs a list or a tuple of cells in the room -/
def rSetC (K : PySem.W.Frag) (P : Program) (w : World) : List V → Hp → VK → Prop := fun vs H Q => ∃ (v : V) (cs : List C3), vs = [v] ∧ (CellsL K H v cs ∨ CellsT K H v cs) ∧ (∀ c ∈ cs, InR c) ∧
  ∀ a (L : List (Addr × C3)), H a = none → (∀ p ∈ L, p.2 ∈ cs ∧ SqT K H p.1 ((kOf p.2).map V.int)) → (∀ c ∈ cs, c ∈ L.map (·.2)) → Q (.ref a) (upd H a (SQO P w a L))
theorem unk {ks L : List (Addr × C3)} {M : List (Addr × List Int)} (g : Got (kL ks) (kL ks).length M) : ∃ L : List (Addr × C3), M = kL L ∧ (∀ p ∈ L, p ∈ ks) ∧ ∀ p ∈ ks, p.2 ∈ L.map (·.2) := by
  have key : ∀ M : List (Addr × List Int), (∀ p ∈ M, p ∈ kL ks) → ∃ L : List (Addr × C3), M = kL L ∧ ∀ p ∈ L, p ∈ ks := by
    intro M
    induction M with
    | nil => exact fun _ => ⟨[], rfl, fun p hp => (by cases hp)⟩
    | cons m M ih =>
      intro h
      obtain ⟨p, hp, e⟩ := List.mem_map.mp (h m List.mem_cons_self)
      obtain ⟨L, e1, e2⟩ := ih fun q hq => h q (List.mem_cons_of_mem _ hq)
      refine ⟨p :: L, by rw [← e, e1] <;> rfl, fun q hq => ?_⟩
      rcases List.mem_cons.mp hq with z | z
      · rw [z]; exact hp
      · exact e2 q z
  obtain ⟨L, e1, e2⟩ := key M fun p hp => List.mem_of_mem_take (g.sub p hp)
  refine ⟨L, e1, e2, fun p hp => ?_⟩
  have q := g.all (p.1, kOf p.2) (by rw [List.take_length]; exact List.mem_map.mpr ⟨p, hp, rfl⟩)
  rw [e1] at q
  obtain ⟨m, hm, e⟩ := List.mem_map.mp q
  obtain ⟨r, hr, e3⟩ := List.mem_map.mp hm
  refine List.mem_map.mpr ⟨r, hr, kOf_inj ?_⟩
  rw [← e3] at e
  exact e
theorem cr_setC (hc : X.calm = true) (hu : X.A.units + 64 < cLine) : CallR X (.type "set") (rSetC X.K X.prog X.w) := by
  intro pins s σ H xs us Q I r h
  obtain ⟨v, cs, rfl, hcs, hin, q⟩ := h
  have hn : H s.heap.objs.size = none := I.hok.fresh (Nat.le_refl _)
  have fin : ∀ (ks : List (Addr × C3)), ks.map (·.2) = cs → (∀ p ∈ ks, SqT X.K H p.1 ((kOf p.2).map V.int)) → ∀ (h' : Heap) (tk : Nat) M es ep t, SQ X.prog X.w h' s.heap.objs.size M es ep t → Got (kL ks) (kL ks).length M → (∀ b o, s.heap.get? b = some o → h'.get? b = some o) →
      EP X pins σ Q (.ref s.heap.objs.size) { s with heap := h', toks := tk } := fun ks ek hk h' tk M es ep t R g k => by
    obtain ⟨L, e1, e2, e3⟩ := unk (L := []) g
    subst e1
    refine ⟨.ref s.heap.objs.size, upd H s.heap.objs.size (SQO X.prog X.w s.heap.objs.size L), I.laid (t' := tk) k (Nat.le_refl _) (sqo_new R.t0), rfl, q _ L hn (fun p hp => ⟨?_, hk p (e2 p hp)⟩) fun c hc => ?_⟩
    · rw [← ek]
      exact List.mem_map.mpr ⟨p, e2 p hp, rfl⟩
    · rw [← ek] at hc
      obtain ⟨p, hp, e⟩ := List.mem_map.mp hc
      rw [← e]
      exact e3 p hp
  have inU : ∀ (ks : List (Addr × C3)), ks.map (·.2) = cs → ∀ p ∈ kL ks, p.2 ∈ room.map kOf := fun ks ek p hp => by
    obtain ⟨r, hr, e⟩ := List.mem_map.mp hp
    rw [← e]
    exact List.mem_map.mpr ⟨r.2, mem_room.mpr (hin r.2 (by rw [← ek]; exact List.mem_map.mpr ⟨r, hr, rfl⟩)), rfl⟩
  have isTs : ∀ (ks : List (Addr × C3)), (∀ p ∈ ks, SqT X.K H p.1 ((kOf p.2).map V.int)) → ∀ p ∈ kL ks, IsT X.prog X.w s.heap p.2 p.1 := fun ks hk p hp => by
    obtain ⟨r, hr, e⟩ := List.mem_map.mp hp
    rw [← e]
    exact I.isT (hk r hr)
  have refs : ∀ (ks : List (Addr × C3)) {its : List Value}, Vals (ks.map fun p => V.ref p.1) its → its = (kL ks).map fun p => Value.ref p.1 := by
    intro ks
    induction ks with
    | nil =>
      intro its h
      cases h
      rfl
    | cons p ks ih =>
      intro its h
      cases h with
      | cons h1 h2 =>
        cases h1
        rw [ih h2] <;> rfl
  cases r with
  | cons r1 r2 =>
    cases r2
    rcases hcs with hcs | hcs
    · obtain ⟨l, xs, rfl, hs, hi⟩ := of_cellsL hcs
      cases r1
      obtain ⟨ks, e1, e2, hk⟩ := addrs_of hi
      subst e1
      obtain ⟨its, rv, pl, hz⟩ := I.list hs
      exact call_set_lst (P := X.prog) (w := X.w) (kL ks) (room.map kOf) roomK (inU ks e2) (I.ok.hd hc) pl.isList (by simpa using refs ks rv) (isTs ks hk) (by omega) (fin ks e2 hk)
    · obtain ⟨l, xs, rfl, hs, hi⟩ := of_cellsT hcs
      cases r1
      obtain ⟨ks, e1, e2, hk⟩ := addrs_of hi
      subst e1
      obtain ⟨its, rv, pl, hz⟩ := I.tuple hs
      exact call_set_tup (P := X.prog) (w := X.w) (kL ks) (room.map kOf) roomK (inU ks e2) (I.ok.hd hc) (show s.heap.IsTuple l its.toArray from pl) (by simpa using refs ks rv) (isTs ks hk) (by omega) (fin ks e2 hk)
/-- sorted(set) -/
def rSortedQ (K : PySem.W.Frag) (P : Program) (w : World) : List V → Hp → VK → Prop := fun vs H Q => ∃ (a : Addr) (L : List (Addr × C3)), vs = [V.ref a] ∧ H a = some (SQO P w a L) ∧ (∀ p ∈ L, SqT K H p.1 ((kOf p.2).map V.int)) ∧
  ∀ (ys : List V) (ds : List C3) (p : Addr), ds.Perm (L.map (·.2)) → ds.Nodup → (ds.Pairwise fun a b => ¬ lt3 b a) → ds.length ≤ 64 → Items K H ys ds → H p = none → Q (.ref p) (upd H p (.lst ys))
theorem items_of {K : PySem.W.Frag} {H : Hp} : ∀ {L : List (Addr × C3)}, (∀ p ∈ L, SqT K H p.1 ((kOf p.2).map V.int)) → Items K H (L.map fun p => V.ref p.1) (L.map (·.2))
  | [], _ => .nil
  | p :: L, h => .cons (dp_c (h p List.mem_cons_self)) (items_of fun q hq => h q (List.mem_cons_of_mem _ hq))
theorem refs_vals : ∀ (L : List (Addr × C3)), Vals (L.map fun p => V.ref p.1) (L.map fun p => Value.ref p.1)
  | [] => .nil
  | p :: L => .cons rfl (refs_vals L)
theorem cr_sortedQ (hc : X.calm = true) (hu : X.A.units + 64 < cLine) : CallR X (.builtin "sorted") (rSortedQ X.K X.prog X.w) := by
  intro pins s σ H vs us Q I r h
  obtain ⟨a, L, rfl, ha, hk, q⟩ := h
  have R0 : SQ0 X.prog X.w s.heap a L := (I.hok a _ ha).1
  obtain ⟨es, ep, t, R⟩ := R0.full fun p hp => by
    obtain ⟨r, hr, e⟩ := List.mem_map.mp hp
    rw [← e]
    exact I.isT (hk r hr)
  cases r with
  | cons r1 r2 =>
    cases r2
    cases r1
    refine sorted_q R (I.ok.hd hc) (by omega) fun s' p out c L' k g o hp hg hout pm pw => ?_
    have hfew : L'.length ≤ 64 := by
      have q := R.few
      rw [List.length_map] at q
      rw [pm.length_eq]
      exact q
    have hlen : (L'.map fun q => V.ref q.1).length ≤ sizeLine := by rw [List.length_map, sizeLine_eq]; omega
    have hn : H p = none := I.hok.fresh hp
    have hv : Vals (L'.map fun q => V.ref q.1) out.toList := by rw [hout]; exact refs_vals L'
    have J : Inv X pins σ (upd H p (.lst (L'.map fun q => V.ref q.1))) { s with heap := s'.heap, gens := s'.gens, drawn := s'.drawn, toks := s'.toks } :=
      I.call (ch := []) (Un.laid k hp hn) (I.hok.laid k hp ⟨hlen, out.toList, c, hv, hg⟩) (by rw [g]; exact I.bare) (fun _ z => nomatch z)
    have e : s' = { s with heap := s'.heap, gens := s'.gens, drawn := s'.drawn, toks := s'.toks } := by
      cases s'
      cases s
      cases o
      rfl
    rw [e]
    have nd : (L.map (·.2)).Nodup := by
      have q := R.nd
      have e : (kL L).map (·.2) = (L.map (·.2)).map kOf := by simp [kL]
      rw [e] at q
      exact nodup_of_map q
    refine ⟨.ref p, _, J, rfl, q _ (L'.map (·.2)) p (pm.map (·.2)) ((pm.map (·.2)).nodup_iff.mpr nd) ?_ (by rw [List.length_map]; exact hfew) (items_of fun q hq => hk q (pm.mem_iff.mp hq)) hn⟩
    exact List.Pairwise.map _ (fun a b h => h) pw
end
end GZ
end

section
set_option Elab.async false
set_option linter.all false
set_option maxRecDepth 100000
set_option maxHeartbeats 2000000
/-! min, max of a list of ints with default=. -/
namespace GW
open PySem PySem.Spec PyProof.Rows L2
theorem ints_at {vs : List Value} {ns : List Int} (h : IntsAre vs ns) : ∀ {i : Nat} {v : Value}, vs[i]? = some v → ∃ n t, ns[i]? = some n ∧ v = Value.int n t := by
  induction h with
  | nil => exact fun e => by simp at e
  | @cons n t vs ns _ ih =>
    intro i v e
    cases i with
    | zero =>
      have e : Value.int n t = v := by simpa using e
      exact ⟨n, t, rfl, e.symm⟩
    | succ i => exact ih (i := i) (by simpa using e)
theorem minI : ∀ (ys : List Int) (y : Int), PySem.W.minOf y ys ∈ y :: ys ∧ ∀ j ∈ y :: ys, PySem.W.minOf y ys ≤ j
  | [], y => ⟨List.mem_cons_self, fun j hj => by
      have e : j = y := List.mem_singleton.mp hj
      rw [e]
      exact Int.le_refl _⟩
  | z :: ys, y => by
    have e : PySem.W.minOf y (z :: ys) = PySem.W.minOf (if PySem.W.DatumOrd.lt z y = true then z else y) ys := rfl
    have hl : PySem.W.DatumOrd.lt z y = decide (z < y) := rfl
    rw [e, hl]
    obtain ⟨h1, h2⟩ := minI ys (if decide (z < y) = true then z else y)
    have h3 := h2 _ List.mem_cons_self
    refine ⟨?_, fun j hj => ?_⟩
    · rcases List.mem_cons.mp h1 with q | q
      · rw [q]
        split
        · exact List.mem_cons_of_mem _ List.mem_cons_self
        · exact List.mem_cons_self
      · exact List.mem_cons_of_mem _ (List.mem_cons_of_mem _ q)
    · rcases List.mem_cons.mp hj with q | q
      · subst q
        refine Int.le_trans h3 ?_
        split
        · rename_i c
          have := of_decide_eq_true c
          omega
        · exact Int.le_refl _
      · rcases List.mem_cons.mp q with q | q
        · subst q
          refine Int.le_trans h3 ?_
          split
          · exact Int.le_refl _
          · rename_i c
            have c : ¬ j < y := fun z => c (decide_eq_true z)
            omega
        · exact h2 j (List.mem_cons_of_mem _ q)
theorem maxI : ∀ (ys : List Int) (y : Int), PySem.W.maxOf y ys ∈ y :: ys ∧ ∀ j ∈ y :: ys, j ≤ PySem.W.maxOf y ys
  | [], y => ⟨List.mem_cons_self, fun j hj => by
      have e : j = y := List.mem_singleton.mp hj
      rw [e]
      exact Int.le_refl _⟩
  | z :: ys, y => by
    have e : PySem.W.maxOf y (z :: ys) = PySem.W.maxOf (if PySem.W.DatumOrd.lt y z = true then z else y) ys := rfl
    have hl : PySem.W.DatumOrd.lt y z = decide (y < z) := rfl
    rw [e, hl]
    obtain ⟨h1, h2⟩ := maxI ys (if decide (y < z) = true then z else y)
    have h3 := h2 _ List.mem_cons_self
    refine ⟨?_, fun j hj => ?_⟩
    · rcases List.mem_cons.mp h1 with q | q
      · rw [q]
        split
        · exact List.mem_cons_of_mem _ List.mem_cons_self
        · exact List.mem_cons_self
      · exact List.mem_cons_of_mem _ (List.mem_cons_of_mem _ q)
    · rcases List.mem_cons.mp hj with q | q
      · subst q
        refine Int.le_trans ?_ h3
        split
        · rename_i c
          have := of_decide_eq_true c
          omega
        · exact Int.le_refl _
      · rcases List.mem_cons.mp q with q | q
        · subst q
          refine Int.le_trans ?_ h3
          split
          · exact Int.le_refl _
          · rename_i c
            have c : ¬ y < j := fun z => c (decide_eq_true z)
            omega
        · exact h2 j (List.mem_cons_of_mem _ q)
section
variable {X : Cx}
def rMinD (K : PySem.W.Frag) : List V → List V → Hp → VK → Prop := fun xs zs H Q => ∃ (a : Addr) (ns : List Int) (d : Int), xs = [.ref a] ∧ zs = [.int d] ∧ SqL K H a (ns.map V.int) ∧ (ns = [] → Q (.int d) H) ∧ ∀ m, m ∈ ns → (∀ j ∈ ns, m ≤ j) → Q (.int m) H
def rMaxD (K : PySem.W.Frag) : List V → List V → Hp → VK → Prop := fun xs zs H Q => ∃ (a : Addr) (ns : List Int) (d : Int), xs = [.ref a] ∧ zs = [.int d] ∧ SqL K H a (ns.map V.int) ∧ (ns = [] → Q (.int d) H) ∧ ∀ m, m ∈ ns → (∀ j ∈ ns, j ≤ m) → Q (.int m) H
theorem ints_vals : ∀ {ns : List Int} {us : List Value}, Vals (ns.map V.int) us → IntsAre us ns
  | [], _, .nil => .nil
  | n :: ns, _, .cons r t => by
    obtain ⟨tk, rfl⟩ := r
    exact .cons n tk (ints_vals t)
theorem cr_minD (hc : X.calm = true) (hu : X.A.units + 64 < cLine) : CallRK X (.builtin "min") ["default"] (rMinD X.K) := by
  intro pins s σ H xs zs us ws Q I r1 r2 h
  obtain ⟨a, ns, d, rfl, rfl, hs, q0, q1⟩ := h
  cases r1 with
  | cons r1 t1 =>
    cases t1
    cases r1
    cases r2 with
    | cons r2 t2 =>
      cases t2
      obtain ⟨td, rfl⟩ := r2
      obtain ⟨its, rv, pl, hz⟩ := I.list hs
      have ia := ints_vals rv
      refine PySem.W.min_list_datum_default (α := Int) (xs := ns) (I.ok.hd hc) pl.isList (PySem.W.HoldAll.of_ints (by simpa using ia)) (by show X.A.units + 1 + 0 < cLine; omega) (fun e h' tk k => ?_) fun y ys i v h' tk e hi hh k => ?_
      · exact ⟨.int d, H, I.kept (t' := tk) k, ⟨td, rfl⟩, q0 e⟩
      · obtain ⟨n, t, hn, rfl⟩ := ints_at ia (i := i) (v := v) (by simpa using hi)
        have e2 : n = PySem.W.minOf y ys := by
          obtain ⟨as, rd⟩ := hh
          have rd : Reads h' (Value.int n t) (.int (PySem.W.minOf y ys)) as := rd
          cases rd
          rfl
        obtain ⟨m1, m2⟩ := minI ys y
        subst e
        exact ⟨.int n, H, I.kept (t' := tk) k, ⟨t, rfl⟩, q1 n (by rw [e2]; exact m1) (by rw [e2]; exact m2)⟩
theorem cr_maxD (hc : X.calm = true) (hu : X.A.units + 64 < cLine) : CallRK X (.builtin "max") ["default"] (rMaxD X.K) := by
  intro pins s σ H xs zs us ws Q I r1 r2 h
  obtain ⟨a, ns, d, rfl, rfl, hs, q0, q1⟩ := h
  cases r1 with
  | cons r1 t1 =>
    cases t1
    cases r1
    cases r2 with
    | cons r2 t2 =>
      cases t2
      obtain ⟨td, rfl⟩ := r2
      obtain ⟨its, rv, pl, hz⟩ := I.list hs
      have ia := ints_vals rv
      refine PySem.W.max_list_datum_default (α := Int) (xs := ns) (I.ok.hd hc) pl.isList (PySem.W.HoldAll.of_ints (by simpa using ia)) (by show X.A.units + 1 + 0 < cLine; omega) (fun e h' tk k => ?_) fun y ys i v h' tk e hi hh k => ?_
      · exact ⟨.int d, H, I.kept (t' := tk) k, ⟨td, rfl⟩, q0 e⟩
      · obtain ⟨n, t, hn, rfl⟩ := ints_at ia (i := i) (v := v) (by simpa using hi)
        have e2 : n = PySem.W.maxOf y ys := by
          obtain ⟨as, rd⟩ := hh
          have rd : Reads h' (Value.int n t) (.int (PySem.W.maxOf y ys)) as := rd
          cases rd
          rfl
        obtain ⟨m1, m2⟩ := maxI ys y
        subst e
        exact ⟨.int n, H, I.kept (t' := tk) k, ⟨t, rfl⟩, q1 n (by rw [e2]; exact m1) (by rw [e2]; exact m2)⟩
end
end GW
end

section
set_option Elab.async false
set_option linter.all false
set_option maxRecDepth 100000
set_option maxHeartbeats 2000000
/-! A list comprehension of three clauses, plain names as targets, no tests. -/
namespace GV
open PySem PySem.Spec PyProof.Rows L2
/-- what σ knows, σ' knows too -/
def Sub (σ σ' : L2.St) : Prop := σ.length = σ'.length ∧ ∀ (j : Nat) v, σ[j]? = some (some v) → σ'[j]? = some (some v)
theorem Sub.refl (σ : L2.St) : Sub σ σ := ⟨rfl, fun _ _ h => h⟩
theorem Sub.set {σ : L2.St} {i : Nat} {v : V} (h : σ[i]? = some none) : Sub σ (σ.set i (some v)) := by
  refine ⟨by simp, fun j u e => ?_⟩
  have hj : i ≠ j := fun z => by rw [z, e] at h; cases h
  rw [List.getElem?_set_ne hj]
  exact e
section
variable {B : Cx} {pl : List (Addr × Obj)} {σ : L2.St} {e0 : Expr} {lvl i : Nat} {x : Str} {px ip : Pos} {J : It} {it : Addr} {fp : List Addr} {tn : Nat → Heap → Prop} {acc : Value} {N : Nat} {W : Nat → Hp → Prop} {We : Hp → Prop} {bd : Sem Unit}
/-- one clause's loop: bd what is done with each item -/
theorem each {elt : Expr} {gs : List Comprehension} {scope : Scope} {pos : Pos} (hc : B.calm = true) (hN : B.N.Nodup) (hxe : B.xe = fun _ _ => False)
    (hturn : compTurn (.ListComp elt gs scope pos) lvl (.ref it) acc B.env = (do
      standAt ip
      match ← pyNext (.ref it) with
      | none => pure (.done .next)
      | some v => do
        letOwnedTupleGo (.Name x px) (.ref it) v
        assign (.Name x px) B.env v
        bd
        again (.compLoop (.ListComp elt gs scope pos) lvl (.ref it) acc B.env)))
    (T : Turn B.prog B.w B.K (.Name x px) J fp it tn) (pg : PG B (.Name x px) (gName i)) (hi : σ[i]? = some none)
    (fpo : ∀ {H' : Hp}, (∀ b ∈ fp, H' b = none) → ∀ b ∈ fp, FpOk B pl H' b)
    (turn : ∀ j H, W j H → (j = N ∧ J.stop j H ∧ We H) ∨ (j < N ∧ J.go j H ∧ ∀ y H', J.yld j H y H' → ∀ (pl' : List (Addr × Obj)) (s : Shared), Inv B (pl ++ pl') (σ.set i (some y)) H' s →
      wpAny (model B.prog B.w) B.A bd (fun _ s' => ∃ H2, Inv B (pl ++ pl') (σ.set i (some y)) H2 s' ∧ W (j + 1) H2) (fun _ _ => False) s))
    {Rr : Result → Shared → Prop} (hR : ∀ s' H', Inv B pl σ H' s' → We H' → Rr (.ok .next) s') (s : Shared) (H : Hp) (I : Inv B pl σ H s) (st : tn 0 s.heap) (nfp : ∀ b ∈ fp, H b = none) (w : W 0 H) :
    codeAny (model B.prog B.w) B.A (.compLoop (.ListComp elt gs scope pos) lvl (.ref it) acc B.env) Rr s := by
  refine codeAny_loop rfl (fun n s' => ∃ j H', Inv B pl σ H' s' ∧ tn j s'.heap ∧ (∀ b ∈ fp, H' b = none) ∧ W j H' ∧ j ≤ N ∧ n = N - j) ?_ (N - 0) ⟨0, H, I, st, nfp, w, Nat.zero_le _, rfl⟩
  rintro n s1 ⟨j, H1, I1, st1, n1, w1, hj, hn⟩
  show wpAny _ B.A ((compTurn (.ListComp elt gs scope pos) lvl (.ref it) acc B.env).onRaise (fun x => do noteFrame x B.env; theTreesLotGoes x)) _ _ s1
  refine wpAny_noted ?_
  rw [hturn]
  refine wpAny_bind (wpAny_standAt (wpAny_bind ?_))
  rcases turn j H1 w1 with ⟨ej, stop, we⟩ | ⟨lt, go, step⟩
  · refine thnF (T.done B rfl rfl rfl hc j pl s1 σ H1 (fun _ _ => False) I1 (fpo n1) st1 stop) fun r s2 ⟨hr, I2⟩ => ?_
    subst hr
    exact wpAny_pure (hR s2 H1 I2 we)
  · refine thnF (T.item B rfl rfl rfl hc j pl s1 σ H1 (fun _ _ => False) I1 (fpo n1) st1 go) fun r s2 ⟨u, hr, h2⟩ => ?_
    subst hr
    refine wpAny_bind (thnF h2 fun _ s3 ⟨y, H3, I3, r3, y3, st3, n3⟩ => ?_)
    have I3' := I3.pinned (fpo n3) (T.obj _ _ st3)
    have pr := pg.run _ s3 σ H3 y u (fun σ' H' => σ' = σ.set i (some y) ∧ H' = H3) I3' r3 ⟨rfl, rfl⟩
    rw [hxe] at pr
    refine wpAny_bind (thnF pr fun _ s4 ⟨σ4, H4, I4, e4, e4'⟩ => ?_)
    subst e4
    subst e4'
    refine wpAny_bind (thnF (step y H4 y3 _ s4 I4) fun _ s5 ⟨H5, I5, w5⟩ => ?_)
    refine wpAny_pure ⟨rfl, N - (j + 1), by omega, j + 1, H5, ?_, ?_, fun b hb => ?_, w5, lt, rfl⟩
    · have sb := Sub.set (v := y) hi
      exact (I5.unpinned).weak sb.1 sb.2
    · exact T.keep _ _ _ st3 fun b hb o e => (I5.pin (b, o) (List.mem_append_right _ (List.mem_append_right _ (mem_pinsAt hb e)))).1
    · obtain ⟨o, e, _⟩ := T.obj _ _ st3 b hb
      exact (I5.pin (b, o) (List.mem_append_right _ (List.mem_append_right _ (mem_pinsAt hb e)))).2.1
end

section
variable {elt i0 i1 i2 : Expr} {x0 x1 x2 : Str} {p0 p1 p2 pos : Pos} {scope : Scope}
abbrev lc3e (elt : Expr) (x0 : Str) (p0 : Pos) (i0 : Expr) (x1 : Str) (p1 : Pos) (i1 : Expr) (x2 : Str) (p2 : Pos) (i2 : Expr) (scope : Scope) (pos : Pos) : Expr :=
  .ListComp elt [⟨.Name x0 p0, i0, [], 0⟩, ⟨.Name x1 p1, i1, [], 0⟩, ⟨.Name x2 p2, i2, [], 0⟩] scope pos
/-- the next clause begins -/
def nextClause (e : Expr) (lvl : Nat) (i : Expr) (acc : Value) (env : Env) : Sem Unit := do
  let x ← eval i env
  standAt i.pos
  let x ← foldedSetIterable i env x
  let _ ← runOwn (.compStart e lvl (← holding [x] (pyIter x)) acc env) env
theorem turn0 (it acc : Value) (env : Env) : compTurn (lc3e elt x0 p0 i0 x1 p1 i1 x2 p2 i2 scope pos) 0 it acc env = (do
    standAt i0.pos
    match ← pyNext it with
    | none => pure (.done .next)
    | some v => do
      letOwnedTupleGo (.Name x0 p0) it v
      assign (.Name x0 p0) env v
      nextClause (lc3e elt x0 p0 i0 x1 p1 i1 x2 p2 i2 scope pos) 1 i1 acc env
      again (.compLoop (lc3e elt x0 p0 i0 x1 p1 i1 x2 p2 i2 scope pos) 0 it acc env)) := by
  refine Eq.trans (b := (do
    standAt i0.pos
    match ← pyNext it with
    | none => pure (.done .next)
    | some v => do
      letOwnedTupleGo (.Name x0 p0) it v
      assign (.Name x0 p0) env v
      let x ← eval i1 env
      standAt i1.pos
      let x ← foldedSetIterable i1 env x
      let _ ← runOwn (.compStart (lc3e elt x0 p0 i0 x1 p1 i1 x2 p2 i2 scope pos) 1 (← holding [x] (pyIter x)) acc env) env
      again (.compLoop (lc3e elt x0 p0 i0 x1 p1 i1 x2 p2 i2 scope pos) 0 it acc env))) (by rfl) ?_
  simp only [nextClause, bind_assoc, pure_bind]
theorem turn1 (it acc : Value) (env : Env) : compTurn (lc3e elt x0 p0 i0 x1 p1 i1 x2 p2 i2 scope pos) 1 it acc env = (do
    standAt i1.pos
    match ← pyNext it with
    | none => pure (.done .next)
    | some v => do
      letOwnedTupleGo (.Name x1 p1) it v
      assign (.Name x1 p1) env v
      nextClause (lc3e elt x0 p0 i0 x1 p1 i1 x2 p2 i2 scope pos) 2 i2 acc env
      again (.compLoop (lc3e elt x0 p0 i0 x1 p1 i1 x2 p2 i2 scope pos) 1 it acc env)) := by
  refine Eq.trans (b := (do
    standAt i1.pos
    match ← pyNext it with
    | none => pure (.done .next)
    | some v => do
      letOwnedTupleGo (.Name x1 p1) it v
      assign (.Name x1 p1) env v
      let x ← eval i2 env
      standAt i2.pos
      let x ← foldedSetIterable i2 env x
      let _ ← runOwn (.compStart (lc3e elt x0 p0 i0 x1 p1 i1 x2 p2 i2 scope pos) 2 (← holding [x] (pyIter x)) acc env) env
      again (.compLoop (lc3e elt x0 p0 i0 x1 p1 i1 x2 p2 i2 scope pos) 1 it acc env))) (by rfl) ?_
  simp only [nextClause, bind_assoc, pure_bind]
theorem turn2 (it acc : Value) (env : Env) : compTurn (lc3e elt x0 p0 i0 x1 p1 i1 x2 p2 i2 scope pos) 2 it acc env = (do
    standAt i2.pos
    match ← pyNext it with
    | none => pure (.done .next)
    | some v => do
      letOwnedTupleGo (.Name x2 p2) it v
      assign (.Name x2 p2) env v
      (do let _ ← call (.builtin "list.append") [acc, ← eval elt env])
      again (.compLoop (lc3e elt x0 p0 i0 x1 p1 i1 x2 p2 i2 scope pos) 2 it acc env)) := by rfl
variable {prog : Program} {w : World} {A : Around} {R : Result → Shared → Prop} {s : Shared} {it acc : Value} {env : Env}
theorem cstart1 (h0 : codeAny (model prog w) A (.compLoop (lc3e elt x0 p0 i0 x1 p1 i1 x2 p2 i2 scope pos) 1 it acc env) R s)
    (h : wpAny (model prog w) A (pyIter it) (fun it' s' => codeAny (model prog w) A (.compLoop (lc3e elt x0 p0 i0 x1 p1 i1 x2 p2 i2 scope pos) 1 it' acc env) R s') (notedBy (model prog w) A env fun x s' => R (.error x) s') s) :
    codeAny (model prog w) A (.compStart (lc3e elt x0 p0 i0 x1 p1 i1 x2 p2 i2 scope pos) 1 it acc env) R s := by
  refine codeAny_of_tree ?_
  show wpAny _ _ ((compStart (lc3e elt x0 p0 i0 x1 p1 i1 x2 p2 i2 scope pos) 1 it acc env).onRaise (fun x => do noteFrame x env; standAt theWindowsPlace)) _ _ s
  refine wpAny_notedAt ?_
  unfold compStart
  show wpAny _ _ (ask >>= _) _ _ s
  refine wpAny_bind (wpAny_askSetting (wpAny_ite ?_))
  split
  · first
      | exact wpAny_bind (wpAny_pure (wpAny_pure (And.intro rfl h0)))
      | exact wpAny_pure (And.intro rfl h0)
  · first
      | exact wpAny_bind (wpAny_rule (wpAny_bind (wpAny_standAt (wpAny_bind (wpAny_mono h (fun it' s' h' => wpAny_pure (And.intro rfl h')) fun _ _ x => x)))))
      | (refine wpAny_bind (wpAny_rule ?_); show wpAny _ _ (standAt i1.pos >>= _) _ _ s; exact wpAny_bind (wpAny_standAt (wpAny_bind (wpAny_mono h (fun it' s' h' => wpAny_pure (And.intro rfl h')) fun _ _ x => x))))
theorem cstart2 (h0 : codeAny (model prog w) A (.compLoop (lc3e elt x0 p0 i0 x1 p1 i1 x2 p2 i2 scope pos) 2 it acc env) R s)
    (h : wpAny (model prog w) A (pyIter it) (fun it' s' => codeAny (model prog w) A (.compLoop (lc3e elt x0 p0 i0 x1 p1 i1 x2 p2 i2 scope pos) 2 it' acc env) R s') (notedBy (model prog w) A env fun x s' => R (.error x) s') s) :
    codeAny (model prog w) A (.compStart (lc3e elt x0 p0 i0 x1 p1 i1 x2 p2 i2 scope pos) 2 it acc env) R s := by
  refine codeAny_of_tree ?_
  show wpAny _ _ ((compStart (lc3e elt x0 p0 i0 x1 p1 i1 x2 p2 i2 scope pos) 2 it acc env).onRaise (fun x => do noteFrame x env; standAt theWindowsPlace)) _ _ s
  refine wpAny_notedAt ?_
  unfold compStart
  show wpAny _ _ (ask >>= _) _ _ s
  refine wpAny_bind (wpAny_askSetting (wpAny_ite ?_))
  split
  · first
      | exact wpAny_bind (wpAny_pure (wpAny_pure (And.intro rfl h0)))
      | exact wpAny_pure (And.intro rfl h0)
  · first
      | exact wpAny_bind (wpAny_rule (wpAny_bind (wpAny_standAt (wpAny_bind (wpAny_mono h (fun it' s' h' => wpAny_pure (And.intro rfl h')) fun _ _ x => x)))))
      | (refine wpAny_bind (wpAny_rule ?_); show wpAny _ _ (standAt i2.pos >>= _) _ _ s; exact wpAny_bind (wpAny_standAt (wpAny_bind (wpAny_mono h (fun it' s' h' => wpAny_pure (And.intro rfl h')) fun _ _ x => x))))
end

/-! ### the rule -/
section
variable {X : Cx}
/-- a, b, c: the slots of the three names -/
def tLc3 (wi0 wi1 wi2 : TI) (te : TE) (vs : List Nat) (a b c : Nat) : TE := fun σ H Q => wi0 σ H fun J H1 => ∀ D, H1 D = none → ∃ (N : Nat) (W : Nat → Hp → Prop), W 0 (upd H1 D (.lst [])) ∧ ∀ i H, W i H →
  (i = N ∧ J.stop i H ∧ Q (.ref D) H) ∨ (i < N ∧ J.go i H ∧ ∀ x H', J.yld i H x H' → wi1 ((wipe σ vs).set a (some x)) H' fun J1 H2 => ∃ (N1 : Nat) (W1 : Nat → Hp → Prop), W1 0 H2 ∧ ∀ j H, W1 j H →
    (j = N1 ∧ J1.stop j H ∧ W (i + 1) H) ∨ (j < N1 ∧ J1.go j H ∧ ∀ y H', J1.yld j H y H' → wi2 (((wipe σ vs).set a (some x)).set b (some y)) H' fun J2 H3 => ∃ (N2 : Nat) (W2 : Nat → Hp → Prop), W2 0 H3 ∧ ∀ k H, W2 k H →
      (k = N2 ∧ J2.stop k H ∧ W1 (j + 1) H) ∨ (k < N2 ∧ J2.go k H ∧ ∀ z H', J2.yld k H z H' → te ((((wipe σ vs).set a (some x)).set b (some y)).set c (some z)) H' fun v H4 => ∃ acc, H4 D = some (.lst acc) ∧ acc.length < sizeLine ∧ W2 (k + 1) (upd H4 D (.lst (acc ++ [v]))))))
/-- a clause within: its own walk, then its loop -/
theorem clause {B : Cx} {pl : List (Addr × Obj)} {σ : L2.St} {H : Hp} {s : Shared} {elt it1e : Expr} {gs : List Comprehension} {scope : Scope} {pos : Pos} {lvl : Nat} {tg : Expr} {wi : TI} {D : Addr} {Wn : Hp → Prop} {Rj : It → Hp → Prop} (hxe : B.xe = fun _ _ => False)
    (hi : PI B tg it1e wi) (I : Inv B pl σ H s) (h : wi σ H Rj) (hs : ∀ x, foldedSetIterable it1e B.env x = pure x)
    (loop : ∀ (it : Addr) (fp : List Addr) (tn : Nat → Heap → Prop) (J : It) (H' : Hp) (s2 : Shared), Inv B pl σ H' s2 → Turn B.prog B.w B.K tg J fp it tn → tn 0 s2.heap → (∀ b ∈ fp, FpOk B pl H' b) → Rj J H' →
      codeAny (model B.prog B.w) B.A (.compStart (.ListComp elt gs scope pos) lvl (.ref it) (.ref D) B.env) (fun r s' => ∃ f, r = .ok f ∧ ∃ H2, Inv B pl σ H2 s' ∧ Wn H2) s2) :
    wpAny (model B.prog B.w) B.A (nextClause (.ListComp elt gs scope pos) lvl it1e (.ref D) B.env) (fun _ s' => ∃ H2, Inv B pl σ H2 s' ∧ Wn H2) (fun _ _ => False) s := by
  unfold nextClause
  have q := hi.run pl s σ H _ I h
  rw [hxe] at q
  refine wpAny_bind (thnF q fun xv s1 hx => ?_)
  refine wpAny_bind (wpAny_standAt (wpAny_bind (wpAny_of_eq (hs xv) (wpAny_bind (wpAny_holding (thnF hx fun itv s2 h2 => ?_))))))
  obtain ⟨it, fp, tn, J, H', e, I2, T, st2, f2, r2⟩ := h2
  subst e
  refine wpAny_bind (wpAny_runOwn ?_)
  rw [Around.mark_none]
  refine codeAny_mono (loop it fp tn J H' s2 I2 T st2 f2 r2) fun r s' ⟨f, hr, hq⟩ => ?_
  subst hr
  exact wpAny_pure hq
theorem pe_lc3 {elt i0 i1 i2 : Expr} {x0 x1 x2 : Str} {p0 p1 p2 pos : Pos} {scope : Scope} {own : List (Str × Nat)} {wi0 wi1 wi2 : TI} {te : TE} {a b c : Nat} (hc : X.calm = true) (hN : X.N.Nodup) (ok : BlkOk X.N X.env.scope scope own)
    (ha : X.N[a]? = some x0) (hb : X.N[b]? = some x1) (hcc : X.N[c]? = some x2) (ho : a ∈ own.map (·.2) ∧ b ∈ own.map (·.2) ∧ c ∈ own.map (·.2)) (hd : a ≠ b ∧ a ≠ c ∧ b ≠ c)
    (hi : PI X (.Name x0 p0) i0 wi0)
    (hi1 : ∀ (s : Shared) (H : Hp) (C : Addr) (cl : List (Str × Addr)) (fp : List Addr), PI (X.blk s H scope (compEnvC scope cl C X.env) fp) (.Name x1 p1) i1 wi1)
    (hi2 : ∀ (s : Shared) (H : Hp) (C : Addr) (cl : List (Str × Addr)) (fp : List Addr), PI (X.blk s H scope (compEnvC scope cl C X.env) fp) (.Name x2 p2) i2 wi2)
    (hg : ∀ (s : Shared) (H : Hp) (C : Addr) (cl : List (Str × Addr)) (fp : List Addr), PG (X.blk s H scope (compEnvC scope cl C X.env) fp) (.Name x0 p0) (gName a) ∧ PG (X.blk s H scope (compEnvC scope cl C X.env) fp) (.Name x1 p1) (gName b) ∧ PG (X.blk s H scope (compEnvC scope cl C X.env) fp) (.Name x2 p2) (gName c))
    (he : ∀ (s : Shared) (H : Hp) (C : Addr) (cl : List (Str × Addr)) (fp : List Addr), PE (X.blk s H scope (compEnvC scope cl C X.env) fp) elt te)
    (hs : ∀ x, foldedSetIterable i0 X.env x = pure x := by intro _; rfl) (hs1 : ∀ env x, foldedSetIterable i1 env x = pure x := by intro _ _; rfl) (hs2 : ∀ env x, foldedSetIterable i2 env x = pure x := by intro _ _; rfl) :
    PE X (lc3e elt x0 p0 i0 x1 p1 i1 x2 p2 i2 scope pos) (tLc3 wi0 wi1 wi2 te (own.map (·.2)) a b c) := by
  refine ⟨fun pins s σ H Q I h => ?_⟩
  rw [eval_ListComp]
  have hfree : ∀ y ∈ scope.names, y.2 = .free → ∃ c, X.env.cells.lookup y.1 = some c := fun y hy e => by
    rcases ok.free y hy e with k | k
    · exact I.ok.has _ (.inl k)
    · exact I.ok.has _ (.inr k)
  refine wpAny_comprehension_free (use := none) rfl hs (closure_ok hfree) ok.kind (fun y hy e => by rw [ok.uniq y hy, e])
    (thn (hi.run pins s σ H _ I h) fun xv s1 hx => thn hx fun itv s2 h2 => ?_)
  obtain ⟨it, fp, tn, J, H2, e, I2, T, st2, f2, q⟩ := h2
  subst e
  refine wpAny_newObj_type (newEnv_comp ?_) (by show 0 ≤ sizeLine; decide)
  generalize hD : s2.heap.objs.size = D
  have hDn : H2 D = none := I2.hok.fresh (Nat.le_of_eq hD)
  obtain ⟨N, W, w0, turn⟩ := q D hDn
  generalize hs3 : ({ s2 with heap := s2.heap.push { cls := .type "list", data := .seq ([] : List Value).toArray } } : Shared) = s3
  have h3 : s3.heap = s2.heap.push { cls := .type "list", data := .seq ([] : List Value).toArray } := by rw [← hs3]
  have I3 : Inv X pins σ (upd H2 D (.lst [])) s3 := by
    rw [← hs3]
    refine I2.laid (t' := s2.toks) (fun b o e => Heap.get?_push_of_some _ e) (Nat.le_of_eq hD) ⟨Nat.zero_le _, [], 0, .nil, ?_⟩
    rw [← hD]
    exact Heap.get?_push_size _ rfl
  have f3 : ∀ b ∈ fp, FpOk X pins (upd H2 D (.lst [])) b ∧ b < s3.heap.objs.size := fun b hb => by
    obtain ⟨o, e, _⟩ := T.obj _ _ st2 b hb
    have hlt := Heap.lt_size e
    refine ⟨⟨?_, (f2 b hb).2⟩, by rw [h3, Heap.size_push]; exact Nat.lt_succ_of_lt hlt⟩
    rw [upd_ne (by rw [← hD]; exact Nat.ne_of_lt hlt)]
    exact (f2 b hb).1
  have st3 : tn 0 s3.heap := T.keep _ _ _ st2 fun b _ o e => by rw [h3]; exact Heap.get?_push_of_some _ e
  have I4 := block_start I3 ok hN f3
  have pe := he s3 (upd H2 D (.lst [])) s3.heap.objs.size (cellsFrom (s3.heap.objs.size + 1) scope.names (cloFrom X.env.cells scope.names [])) fp
  have pi1 := hi1 s3 (upd H2 D (.lst [])) s3.heap.objs.size (cellsFrom (s3.heap.objs.size + 1) scope.names (cloFrom X.env.cells scope.names [])) fp
  have pi2 := hi2 s3 (upd H2 D (.lst [])) s3.heap.objs.size (cellsFrom (s3.heap.objs.size + 1) scope.names (cloFrom X.env.cells scope.names [])) fp
  obtain ⟨pga, pgb, pgc⟩ := hg s3 (upd H2 D (.lst [])) s3.heap.objs.size (cellsFrom (s3.heap.objs.size + 1) scope.names (cloFrom X.env.cells scope.names [])) fp
  have hsc : (compEnvC scope (cellsFrom (s3.heap.objs.size + 1) scope.names (cloFrom X.env.cells scope.names [])) s3.heap.objs.size X.env).locals = s3.heap.objs.size := rfl
  show codeAny _ _ (.compStart (lc3e elt x0 p0 i0 x1 p1 i1 x2 p2 i2 scope pos) 0 (.ref it) (.ref D) (compEnvC scope (cellsFrom (s3.heap.objs.size + 1) scope.names (cloFrom X.env.cells scope.names [])) s3.heap.objs.size X.env)) (compPost (model X.prog X.w) X.A X.xe none (EP X pins σ Q) (.ref D) s3.heap.objs.size) { s3 with heap := pushCells (s3.heap.push { cls := .type "dict", data := .dict #[] }) scope.names }
  generalize hce : compEnvC scope (cellsFrom (s3.heap.objs.size + 1) scope.names (cloFrom X.env.cells scope.names [])) s3.heap.objs.size X.env = ce at I4 pe pi1 pi2 pga pgb pgc hsc ⊢
  have nfp : ∀ b ∈ fp, (upd H2 D (.lst [])) b = none := fun b hb => (f3 b hb).1.1
  generalize hH3 : upd H2 D (.lst []) = H3 at I3 I4 pe pi1 pi2 pga pgb pgc w0 nfp f3
  generalize hs4 : ({ s3 with heap := pushCells (s3.heap.push { cls := .type "dict", data := .dict #[] }) scope.names } : Shared) = s4 at I4 ⊢
  have st4 : tn 0 s4.heap := T.keep _ _ _ st3 fun b _ o e => by rw [← hs4]; exact pushCells_keeps _ _ _ _ (Heap.get?_push_of_some _ e)
  generalize hσ : wipe σ (own.map (·.2)) = σ0 at I4 turn
  have len0 : σ0.length = X.N.length := by rw [← hσ, wipe_length]; exact I.len
  have free0 : ∀ {i : Nat} {y : Str}, X.N[i]? = some y → i ∈ own.map (·.2) → σ0[i]? = some none := fun {i y} hy hio => by
    have hil : i < σ0.length := by
      rw [len0]
      exact (List.getElem?_eq_some_iff.mp hy).1
    cases hq : σ0[i]? with
    | none => rw [List.getElem?_eq_none_iff] at hq; omega
    | some o =>
      cases o with
      | none => rfl
      | some v =>
        rw [← hσ] at hq
        exact absurd hio (wipe_some hq).2
  have fpB : ∀ {H' : Hp}, (∀ b ∈ fp, H' b = none) → ∀ b ∈ fp, FpOk (X.blk s3 H3 scope ce fp) [] H' b := fun {H'} hn b hb =>
    ⟨hn b hb, (I4.ok.exf b hb).1, I4.ok.exfs b hb, .inl hb, fun x c e => (I4.ok.exf b hb).2 x c e, fun p hp => absurd (show p ∈ ([] : List (Addr × Obj)) ++ [] from hp) (by simp)⟩
  have loop : codeAny (model X.prog X.w) X.A (.compLoop (lc3e elt x0 p0 i0 x1 p1 i1 x2 p2 i2 scope pos) 0 (.ref it) (.ref D) ce) (compPost (model X.prog X.w) X.A X.xe none (EP X pins σ Q) (.ref D) s3.heap.objs.size) s4 := by
    refine each (B := X.blk s3 H3 scope ce fp) (pl := []) (σ := σ0) (i := a) (N := N) (W := W) (We := fun H => Q (.ref D) H) hc hN rfl (turn0 (.ref it) (.ref D) ce) T pga (free0 ha ho.1) fpB (fun j H w => ?_) (fun s' H' I' hq => ?_) s4 H3 I4 st4 nfp w0
    · rcases turn j H w with z | ⟨lt, go, step⟩
      · exact .inl z
      · refine .inr ⟨lt, go, fun y H' hy pl' s5 I5 => ?_⟩
        refine clause (B := X.blk s3 H3 scope ce fp) rfl pi1 I5 (step y H' hy) (hs1 ce) fun it1 fp1 tn1 J1 H6 s6 I6 T1 st6 f6 hq => ?_
        obtain ⟨N1, W1, w1, turn1'⟩ := hq
        have l1 : codeAny (model X.prog X.w) X.A (.compLoop (lc3e elt x0 p0 i0 x1 p1 i1 x2 p2 i2 scope pos) 1 (.ref it1) (.ref D) ce) (fun r s' => ∃ f, r = .ok f ∧ ∃ H2, Inv (X.blk s3 H3 scope ce fp) ([] ++ pl') (σ0.set a (some y)) H2 s' ∧ W (j + 1) H2) s6 := by
          refine each (B := X.blk s3 H3 scope ce fp) (pl := [] ++ pl') (σ := σ0.set a (some y)) (i := b) (N := N1) (W := W1) (We := fun H => W (j + 1) H) hc hN rfl (turn1 (.ref it1) (.ref D) ce) T1 pgb (by rw [List.getElem?_set_ne hd.1]; exact free0 hb ho.2.1)
            (fun {H'} hn b hb => ⟨hn b hb, (f6 b hb).2⟩) (fun k H w => ?_) (fun s' H' I' hq => ⟨_, rfl, H', I', hq⟩) s6 H6 I6 st6 (fun b hb => (f6 b hb).1) w1
          rcases turn1' k H w with z | ⟨lt, go, step⟩
          · exact .inl z
          · refine .inr ⟨lt, go, fun y1 H' hy1 pl1 s7 I7 => ?_⟩
            refine clause (B := X.blk s3 H3 scope ce fp) rfl pi2 I7 (step y1 H' hy1) (hs2 ce) fun it2 fp2 tn2 J2 H8 s8 I8 T2 st8 f8 hq => ?_
            obtain ⟨N2, W2, w2, turn2'⟩ := hq
            have l2 : codeAny (model X.prog X.w) X.A (.compLoop (lc3e elt x0 p0 i0 x1 p1 i1 x2 p2 i2 scope pos) 2 (.ref it2) (.ref D) ce) (fun r s' => ∃ f, r = .ok f ∧ ∃ H2, Inv (X.blk s3 H3 scope ce fp) ([] ++ pl' ++ pl1) ((σ0.set a (some y)).set b (some y1)) H2 s' ∧ W1 (k + 1) H2) s8 := by
              refine each (B := X.blk s3 H3 scope ce fp) (pl := [] ++ pl' ++ pl1) (σ := (σ0.set a (some y)).set b (some y1)) (i := c) (N := N2) (W := W2) (We := fun H => W1 (k + 1) H) hc hN rfl (turn2 (.ref it2) (.ref D) ce) T2 pgc (by rw [List.getElem?_set_ne hd.2.2, List.getElem?_set_ne hd.2.1]; exact free0 hcc ho.2.2)
                (fun {H'} hn b hb => ⟨hn b hb, (f8 b hb).2⟩) (fun l H w => ?_) (fun s' H' I' hq => ⟨_, rfl, H', I', hq⟩) s8 H8 I8 st8 (fun b hb => (f8 b hb).1) w2
              rcases turn2' l H w with z | ⟨lt, go, step⟩
              · exact .inl z
              · refine .inr ⟨lt, go, fun y2 H' hy2 pl2 s9 I9 => ?_⟩
                refine wpAny_bind (thnF (pe.run _ s9 _ H' _ I9 (step y2 H' hy2)) fun z s10 ⟨yv, H10, I10, r10, acc, hD10, hz10, nx⟩ => ?_)
                refine wpAny_bind (app_ok (X := X.blk s3 H3 scope ce fp) I10 hD10 hz10 r10 fun s11 I11 => ?_)
                exact wpAny_pure ⟨_, I11, nx⟩
            exact cstart2 l2 (T2.self X.A 0 _ _ _ st8 l2)
        exact cstart1 l1 (T1.self X.A 0 _ _ _ st6 l1)
    · have I7 : Inv X pins σ H' s' := I3.call' (ch := fp) I'.os I'.base I'.hok I'.bare fun b hb => ⟨(f3 b hb).1.2.2.2.1, (f3 b hb).1.2.1, (f3 b hb).1.2.2.2.2.1, (f3 b hb).1.2.2.2.2.2⟩
      have nC : H' s3.heap.objs.size = none := by
        have z : H' ce.locals = none := I'.free
        rw [hsc] at z
        exact z
      obtain ⟨m, hn, _⟩ := I'.loc
      have hn : s'.heap.Ns ce.locals m := hn
      rw [hsc] at hn
      refine ⟨m, hn, fun h'' sb => ?_⟩
      obtain ⟨f0, f1, f2, f3', f4, f5⟩ := I3.fpOk (H' := H') (Nat.le_refl _) nC
      exact ⟨.ref D, H', I7.turned (t' := s'.toks) (fun b o hb e => (sb.2 b hb).trans e) f0 f1 f3' f4 f5, rfl, hq⟩
  exact codeAny_compStart_list loop (T.self X.A 0 _ _ _ st4 loop)
end
end GV
end

section
set_option Elab.async false
set_option linter.all false
set_option maxRecDepth 100000
set_option maxHeartbeats 2000000
/-! The program's text by places, the relation of heaps, bodies as data. -/
namespace LP
open PySem PySem.Spec PyProof.Rows L2 Ly GY
def top (i : Nat) : Stmt := PySem.Challenge.pw_layerprint_k06_papers_judged.main.body.getD i (.Pass ⟨0, 0, 0, 0⟩)
abbrev sIsBody : Stmt := top 15
abbrev sCells : Stmt := top 16
-- slice_at: not in this statement
abbrev sChk : Stmt := top 17
abbrev sQuarter : Stmt := top 20
abbrev sShifted : Stmt := top 21
abbrev sFormed : Stmt := top 22
abbrev sPlaces : Stmt := top 23
abbrev sNum : Stmt := top 18
abbrev sTri : Stmt := top 24
abbrev sRise : Stmt := top 25
abbrev sHeld : Stmt := top 26
abbrev sBlock : Stmt := top 27
abbrev sJoined : Stmt := top 28
-- _row: not in this statement
abbrev sRising : Stmt := top 19
-- layer_count: not in this statement
-- is_place: not in this statement
-- drawn_next: not in this statement
-- written: not in this statement
-- read: not in this statement
-- _check_rows: not in this statement
-- _can_stand: not in this statement
-- table: not in this statement
-- holds: not in this statement
-- _least: not in this statement
-- _are_strokes: not in this statement
-- _is_low_enough: not in this statement
-- strokes: not in this statement
-- _runs: not in this statement
-- hanging: not in this statement
-- filled: not in this statement
abbrev sChkR : Stmt := top 31
abbrev sHangC : Stmt := top 32
-- fill: not in this statement
abbrev sBeside : Stmt := top 33
-- _check_props: not in this statement
abbrev sCarried : Stmt := top 34
-- _fill_under: not in this statement
abbrev sWays : Stmt := top 35
-- check_place: not in this statement
-- _best_orders: not in this statement
-- _best_rest: not in this statement
-- _ends: not in this statement
-- _steps: not in this statement
-- best_order: not in this statement
-- printed: not in this statement

/-- the table of the one def that makes a lambda -/
class LamTab where
  P : Addr
  q : Str
  /-- the table of is_rising -/
  Z : Addr
section
variable [LamTab]
/-- a table of a def with generator expressions -/
def TGen (H : Hp) (P : Addr) : Prop := GxR.TabG H P ∧ P ≠ LamTab.P
end
/-! ### what a call keeps: all but what stands at S; tables are filled -/
structure Kp [LamTab] (S : List Addr) (H H' : Hp) : Prop where
  keep : ∀ b o, H b = some o → b ∉ S → (∀ ps, o ≠ .tbl ps) → H' b = some o
  tup : ∀ b xs, H b = some (.tup xs) → H' b = some (.tup xs)
  tab : ∀ b, TGen H b → TGen H' b
  frz : ∀ b o u, H b = some (.frz o u) → H' b = some (.frz o u)
  free : ∀ b, H' b = none → H b = none
  lam : LamX.TabS H LamTab.P LamTab.q → LamX.TabS H' LamTab.P LamTab.q
theorem free_upd {H : Hp} {a : Addr} {o : HO} {b : Addr} (h : upd H a o b = none) : b ≠ a ∧ H b = none := by
  by_cases e : b = a
  · rw [e, upd_same] at h
    cases h
  · rw [upd_ne e] at h
    exact ⟨e, h⟩
variable [LamTab] {S S' : List Addr} {H H' H'' : Hp} {K : PySem.W.Frag}
theorem Kp.refl (S : List Addr) (H : Hp) : Kp S H H := ⟨fun _ _ e _ _ => e, fun _ _ e => e, fun _ e => e, fun _ _ _ e => e, fun _ e => e, fun e => e⟩
theorem Kp.trans (k : Kp S H H') (k' : Kp S H' H'') : Kp S H H'' :=
  ⟨fun b o e n t => k'.keep b o (k.keep b o e n t) n t, fun b xs e => k'.tup b xs (k.tup b xs e), fun b e => k'.tab b (k.tab b e), fun b o u e => k'.frz b o u (k.frz b o u e), fun b e => k.free b (k'.free b e), fun e => k'.lam (k.lam e)⟩
theorem Kp.weak (k : Kp S H H') (h : ∀ b ∈ S, b ∈ S') : Kp S' H H' := ⟨fun b o e n t => k.keep b o e (fun q => n (h b q)) t, k.tup, k.tab, k.frz, k.free, k.lam⟩
theorem Kp.w0 (k : Kp [] H H') : Kp S H H' := k.weak fun b z => by cases z
/-- all but what stands at a stays as it is; a holds nothing that is kept -/
theorem Kp.but {a : Addr} (e : ∀ b, b ≠ a → H' b = H b) (some_a : H' a ≠ none) (k : ∀ o, H a = some o → a ∈ S ∨ ∃ ps, o = .tbl ps) (t : ∀ xs, H a ≠ some (.tup xs)) (f : ∀ o u, H a ≠ some (.frz o u)) (c : ∀ q, H a ≠ some (LamX.CodeO a q)) (g : TGen H a → TGen H' a)
    (l : ∀ ps, H a = some (.tbl ps) → a ≠ LamTab.P) : Kp S H H' := by
  refine ⟨fun b o q n tb => ?_, fun b xs q => ?_, fun b q => ?_, fun b o u q => ?_, fun b q => ?_, fun ⟨ps, h1, h2, h3⟩ => ?_⟩
  · by_cases z : b = a
    · subst z
      rcases k o q with z | ⟨ps, z⟩
      · exact absurd z n
      · exact absurd z (tb ps)
    · rw [e b z]
      exact q
  · by_cases z : b = a
    · subst z
      exact absurd q (t xs)
    · rw [e b z]
      exact q
  · by_cases z : b = a
    · subst z
      exact g q
    · obtain ⟨⟨ps, q1, q2⟩, q3⟩ := q
      exact ⟨⟨ps, by rw [e b z]; exact q1, q2⟩, q3⟩
  · by_cases z : b = a
    · subst z
      exact absurd q (f o u)
    · rw [e b z]
      exact q
  · by_cases z : b = a
    · subst z
      exact absurd q some_a
    · rw [e b z] at q
      exact q
  · have n : LamTab.P ≠ a := fun z => l ps (by rw [← z]; exact h1) z.symm
    refine ⟨ps, by rw [e _ n]; exact h1, h2, fun pos cv hcv => ?_⟩
    obtain ⟨c0, e1, e2⟩ := h3 pos cv hcv
    refine ⟨c0, e1, ?_⟩
    by_cases z : c0 = a
    · subst z
      exact absurd e2 (c _)
    · rw [e _ z]
      exact e2
/-- the tables of _are_rising_cells and of is_rising -/
def TR (H : Hp) (P : Addr) : Prop := TGen H P ∧ TGen H LamTab.Z
theorem Kp.tabr (k : Kp S H H') {P : Addr} (h : TR H P) : TR H' P := ⟨k.tab _ h.1, k.tab _ h.2⟩
theorem Kp.new {a : Addr} {o : HO} (h : H a = none) : Kp S H (upd H a o) := by
  have no : ∀ u, H a ≠ some u := fun u z => by rw [h] at z; cases z
  exact Kp.but (fun b n => upd_ne n) (by rw [upd_same]; exact fun z => by cases z) (fun u z => absurd z (no u)) (fun xs => no _) (fun _ _ => no _) (fun _ => no _) (fun ⟨⟨ps, q1, _⟩, _⟩ => absurd q1 (no _)) fun ps z => absurd z (no _)
theorem Kp.tabbed {P : Addr} (h : TGen H P) (k : GxR.Tabbed P H H') : Kp S H H' := by
  obtain ⟨⟨ps, e, _⟩, n⟩ := h
  have eq : ∀ u, H P = some u → u = .tbl ps := fun u z => by
    rw [e] at z
    exact (Option.some.inj z).symm
  obtain ⟨ps', e', t'⟩ := k.1
  exact Kp.but k.2 (by rw [e']; exact fun z => by cases z) (fun u z => .inr ⟨ps, eq u z⟩) (fun xs z => by cases eq _ z) (fun _ _ z => by cases eq _ z) (fun _ z => by cases eq _ z) (fun _ => ⟨⟨ps', e', t'⟩, n⟩) fun _ _ => n
/-- a list that stands at S, changed -/
theorem Kp.chg {a : Addr} {xs ys : List V} (h : H a = some (.lst xs)) (m : a ∈ S) : Kp S H (upd H a (.lst ys)) := by
  have eq : ∀ u, H a = some u → u = .lst xs := fun u z => by
    rw [h] at z
    exact (Option.some.inj z).symm
  exact Kp.but (fun b n => upd_ne n) (by rw [upd_same]; exact fun z => by cases z) (fun u z => .inl m) (fun xs z => by cases eq _ z) (fun _ _ z => by cases eq _ z) (fun _ z => by cases eq _ z) (fun ⟨⟨ps, q1, _⟩, _⟩ => by cases eq _ q1) fun ps z => by cases eq _ z
theorem Kp.chgD {a : Addr} {k1 k2 : List (Key × V)} (h : H a = some (.dK k1)) (m : a ∈ S) : Kp S H (upd H a (.dK k2)) := by
  have eq : ∀ u, H a = some u → u = .dK k1 := fun u z => by
    rw [h] at z
    exact (Option.some.inj z).symm
  exact Kp.but (fun b n => upd_ne n) (by rw [upd_same]; exact fun z => by cases z) (fun u z => .inl m) (fun xs z => by cases eq _ z) (fun _ _ z => by cases eq _ z) (fun _ z => by cases eq _ z) (fun ⟨⟨ps, q1, _⟩, _⟩ => by cases eq _ q1) fun ps z => by cases eq _ z
theorem Kp.lst {a : Addr} {xs : List V} (k : Kp S H H') (h : H a = some (.lst xs)) (n : a ∉ S) : H' a = some (.lst xs) := k.keep a _ h n fun ps z => by cases z
theorem Kp.sqT {a : Addr} {xs : List V} (k : Kp S H H') (h : SqT K H a xs) : SqT K H' a xs := by
  rcases h with h | h
  · rcases h with h | ⟨o, h⟩
    · exact .inl (.inl (k.tup a xs h))
    · exact .inl (.inr ⟨o, k.frz a _ _ h⟩)
  · exact .inr h
theorem Kp.sqL {a : Addr} {xs : List V} (k : Kp S H H') (h : SqL K H a xs) (n : a ∉ S) : SqL K H' a xs := by
  rcases h with h | h
  · rcases h with h | ⟨o, h⟩
    · exact .inl (.inl (k.lst h n))
    · exact .inl (.inr ⟨o, k.frz a _ _ h⟩)
  · exact .inr h

/-! ### data that holds no list is kept by any call -/
mutual
def noL : PyData → Bool
  | .list _ => false
  | .tuple ds => noLs ds
  | _ => true
def noLs : List PyData → Bool
  | [] => true
  | d :: ds => noL d && noLs ds
end
mutual
theorem dp_mono (k : Kp S H H') : ∀ (d : PyData) {v : V}, Dp K H v d → (noL d = true ∨ S = []) → Dp K H' v d
  | .none, _, h, _ => by cases h; exact .non
  | .bool _, _, h, _ => by cases h; exact .bl _
  | .int _, _, h, _ => by cases h; exact .int _
  | .str _, _, h, _ => by cases h; exact .str _
  | .list ds, _, h, n => by
    rcases n with n | n
    · exact absurd n (by unfold noL; decide)
    · cases h with
      | lst hs ha => exact .lst (k.sqL hs (by rw [n]; exact List.not_mem_nil)) (dps_mono k ds ha (.inr n))
  | .tuple ds, _, h, n => by
    cases h with
    | tup hs ha => exact .tup (k.sqT hs) (dps_mono k ds ha (n.imp_left fun q => by unfold noL at q; exact q))
  | .dict _, _, h, _ => by cases h
theorem dps_mono (k : Kp S H H') : ∀ (ds : List PyData) {vs : List V}, DpAll K H vs ds → (noLs ds = true ∨ S = []) → DpAll K H' vs ds
  | [], _, h, _ => by cases h; exact .nil
  | d :: ds, _, h, n => by
    cases h with
    | cons h1 h2 => exact .cons (dp_mono k d h1 (n.imp_left fun q => by unfold noLs at q; exact (Bool.and_eq_true_iff.mp q).1)) (dps_mono k ds h2 (n.imp_left fun q => by unfold noLs at q; exact (Bool.and_eq_true_iff.mp q).2))
end
theorem noL_c (c : C3) : noL (cD c) = true := rfl
theorem noLs_cs : ∀ cs : List C3, noLs (cs.map cD) = true
  | [] => rfl
  | c :: cs => by
    show (noL (cD c) && noLs (cs.map cD)) = true
    rw [noLs_cs cs, noL_c]
    rfl
theorem cellsL_mono {v : V} {cs : List C3} (k : Kp [] H H') (h : CellsL K H v cs) : CellsL K H' v cs := dp_mono k _ h (.inr rfl)
theorem cellsT_mono {v : V} {cs : List C3} (k : Kp S H H') (h : CellsT K H v cs) : CellsT K H' v cs := dp_mono k _ h (.inl (noLs_cs cs))
theorem c_mono {v : V} {c : C3} (k : Kp S H H') (h : Dp K H v (cD c)) : Dp K H' v (cD c) := dp_mono k _ h (.inl (noL_c c))
theorem items_mono {xs : List V} {cs : List C3} (k : Kp S H H') (h : Items K H xs cs) : Items K H' xs cs := dps_mono k _ h (.inl (noLs_cs cs))
/-- a list of cells at a -/
theorem cellsL_of {a : Addr} {xs : List V} {cs : List C3} (h : H a = some (.lst xs)) (k : Items K H xs cs) : CellsL K H (.ref a) cs := .lst (SqL.of h) k

/-! ### bodies as data -/
def bD : Bd → PyData
  | .block x y z a b c => .tuple [.str "block", cD (x, y, z), cD (a, b, c)]
  | .cells cs => .tuple [.str "cells", .tuple (cs.map cD)]
  | .wth p q => .tuple [.str "with", bD p, bD q]
  | .common p q => .tuple [.str "common", bD p, bD q]
  | .less p q => .tuple [.str "less", bD p, bD q]
  | .moved d p => .tuple [.str "moved", cD d, bD p]
  | .turnX p => .tuple [.str "turned", .str "x", bD p]
  | .turnY p => .tuple [.str "turned", .str "y", bD p]
  | .turnZ p => .tuple [.str "turned", .str "z", bD p]
theorem noL_b : ∀ b : Bd, noL (bD b) = true
  | .block .. => rfl
  | .cells cs => by show (true && (noLs (cs.map cD) && true)) = true; rw [noLs_cs]; rfl
  | .wth p q => by show (true && (noL (bD p) && (noL (bD q) && true))) = true; rw [noL_b p, noL_b q]; rfl
  | .common p q => by show (true && (noL (bD p) && (noL (bD q) && true))) = true; rw [noL_b p, noL_b q]; rfl
  | .less p q => by show (true && (noL (bD p) && (noL (bD q) && true))) = true; rw [noL_b p, noL_b q]; rfl
  | .moved d p => by show (true && (true && (noL (bD p) && true))) = true; rw [noL_b p]; rfl
  | .turnX p => by show (true && (true && (noL (bD p) && true))) = true; rw [noL_b p]; rfl
  | .turnY p => by show (true && (true && (noL (bD p) && true))) = true; rw [noL_b p]; rfl
  | .turnZ p => by show (true && (true && (noL (bD p) && true))) = true; rw [noL_b p]; rfl
abbrev Body (K : PySem.W.Frag) (H : Hp) (v : V) (b : Bd) : Prop := Dp K H v (bD b)
theorem body_mono {v : V} {b : Bd} (k : Kp S H H') (h : Body K H v b) : Body K H' v b := dp_mono k _ h (.inl (noL_b b))
theorem of_dp2 {v : V} {d e : PyData} (h : Dp K H v (.tuple [d, e])) : ∃ p x y, v = .ref p ∧ SqT K H p [x, y] ∧ Dp K H x d ∧ Dp K H y e := by
  cases h with
  | tup hs ha =>
    cases ha with
    | cons h1 ha =>
      cases ha with
      | cons h2 ha =>
        cases ha
        exact ⟨_, _, _, rfl, hs, h1, h2⟩
theorem of_dp3 {v : V} {d e g : PyData} (h : Dp K H v (.tuple [d, e, g])) : ∃ p x y z, v = .ref p ∧ SqT K H p [x, y, z] ∧ Dp K H x d ∧ Dp K H y e ∧ Dp K H z g := by
  cases h with
  | tup hs ha =>
    cases ha with
    | cons h1 ha =>
      cases ha with
      | cons h2 ha =>
        cases ha with
        | cons h3 ha =>
          cases ha
          exact ⟨_, _, _, _, rfl, hs, h1, h2, h3⟩
theorem of_dps {v : V} {x : Str} (h : Dp K H v (.str x)) : v = .str x := by cases h; rfl
theorem of_dpi {v : V} {i : Int} (h : Dp K H v (.int i)) : v = .int i := by cases h; rfl
/-- a body whose three places are these -/
theorem of_body3 {v : V} {w : Str} {e g : PyData} (h : Dp K H v (.tuple [.str w, e, g])) : ∃ p y z, v = .ref p ∧ SqT K H p [.str w, y, z] ∧ Dp K H y e ∧ Dp K H z g := by
  obtain ⟨p, x, y, z, e1, h1, h2, h3, h4⟩ := of_dp3 h
  have q := of_dps h2
  subst q
  exact ⟨p, y, z, e1, h1, h3, h4⟩
theorem of_body2 {v : V} {w : Str} {e : PyData} (h : Dp K H v (.tuple [.str w, e])) : ∃ p y, v = .ref p ∧ SqT K H p [.str w, y] ∧ Dp K H y e := by
  obtain ⟨p, x, y, e1, h1, h2, h3⟩ := of_dp2 h
  have q := of_dps h2
  subst q
  exact ⟨p, y, e1, h1, h3⟩
theorem ty_tup {a : Addr} {xs : List V} (h : SqT K H a xs) : TyX K H (.ref a) (.type "tuple") := by
  rcases h with h | ⟨o, its, n, lk, hc, _⟩
  · rcases h with h | ⟨o, h⟩
    · exact .base (.tup h)
    · exact .fTuple h
  · exact .kTuple lk hc
theorem ty_lst {a : Addr} {xs : List V} (h : SqL K H a xs) : TyX K H (.ref a) (.type "list") := by
  rcases h with h | ⟨o, its, n, lk, hc, _⟩
  · rcases h with h | ⟨o, h⟩
    · exact .base (.lst h)
    · exact .base (.frz h)
  · exact .kList lk hc
/-! ### names -/
structure Fn (K : PySem.W.Frag) (mg : Str → Option Value) (name : Str) (f : Addr) (fd : FuncData) (ps : List Str) : Prop where
  kp : PySem.W.keepIn K (.ref f) = true
  b : Binds K fd ps []
  m : mg name = some (.ref f)
/-- the built-ins whose names the program takes, its constants -/
structure Nm (K : PySem.W.Frag) (mg : Str → Option Value) : Prop where
  isinstance : mg "isinstance" = none
  int : mg "int" = none
  bool : mg "bool" = none
  tuple : mg "tuple" = none
  list : mg "list" = none
  set : mg "set" = none
  len : mg "len" = none
  all : mg "all" = none
  range : mg "range" = none
  sorted : mg "sorted" = none
  side : ∃ t, mg "SIDE" = some (.int 4 t)
  last : ∃ t, mg "LAST" = some (.int 3 t)
  most : ∃ t, mg "MOST_BODIES" = some (.int 20 t)
  edges : ∃ a, mg "EDGES" = some (.ref a) ∧ ∀ H, SqT K H a [.str "x", .str "y", .str "z"]
  joins : ∃ a, mg "JOINS" = some (.ref a) ∧ ∀ H, SqT K H a [.str "with", .str "common", .str "less"]
/-- a def whose code object is at c -/
structure FunC (K : PySem.W.Frag) (x qual : Str) (st : Stmt) (f : Addr) (fd : FuncData) (c : Addr) : Prop where
  ex : ∃ (oc : Value) (od : Option Addr) (kV doc pm : Value) (an : Option Addr) (ct : Value) (osl : Array (Option Value)),
    fd = PySem.W.fnOf x qual (defArgs st) (defBody st) (defScope st) .none kV doc pm an (.ref c) ct ∧ K.lookup f = some ⟨oc, od, .func fd, osl⟩ ∧ PySem.W.codeIn K (.ref c) qual = true
section
variable {P : Program} {w : World} {mg : Str → Option Value} {base : Heap}
theorem FunC.ok {x qual : Str} {st : Stmt} {f c : Addr} {fd : FuncData} {N ps : List Str} {k : Nat} {sp : Sp} (F : FunC K x qual st f fd c) (S : FnScope N ps (defScope st)) (len : ∀ vs H Q E, sp vs H Q E → vs.length = ps.length)
    (hbody : ∀ (A : Around) (outer : List Env) (s : Shared) (H : Hp) (vs : List V) (Q : VK) (E : XK), Room k (A.deeper (envOfC qual (defScope st) s.heap.objs.size f (.ref c))) → sp vs H Q E →
      ∃ t, PSs (cxOf CX0 P w K mg base N qual (defScope st) f (.ref c) A outer s H E).nox (defBody st) t ∧ t { nx := fun _ H' => Q .non H', rt := Q } (start N vs) H) : FnOk P w K mg base CX0 (k + 1) f fd ps sp := by
  obtain ⟨oc, od, kV, doc, pm, an, ct, osl, rfl, lk, hcd⟩ := F.ex
  refine fn_of lk hcd S len fun A outer s H vs Q E hr hsp => ?_
  obtain ⟨t, h, q⟩ := hbody A outer s H vs Q E hr hsp
  exact ⟨t, h.nox, q⟩
theorem FunC.okX {x qual : Str} {st : Stmt} {f c : Addr} {fd : FuncData} {N ps : List Str} {k : Nat} {sp : Sp} (F : FunC K x qual st f fd c) (S : FnScope N ps (defScope st)) (len : ∀ vs H Q E, sp vs H Q E → vs.length = ps.length)
    (hbody : ∀ (A : Around) (outer : List Env) (s : Shared) (H : Hp) (vs : List V) (Q : VK) (E : XK), Room k (A.deeper (envOfC qual (defScope st) s.heap.objs.size f (.ref c))) → sp vs H Q E →
      ∃ t, PSs (cxOf (L2.CX P w) P w K mg base N qual (defScope st) f (.ref c) A outer s H E) (defBody st) t ∧ t { nx := fun _ H' => Q .non H', rt := Q } (start N vs) H) : FnOk P w K mg base (L2.CX P w) (k + 1) f fd ps sp := by
  obtain ⟨oc, od, kV, doc, pm, an, ct, osl, rfl, lk, hcd⟩ := F.ex
  exact fn_of lk hcd S len fun A outer s H vs Q E hr hsp => hbody A outer s H vs Q E hr hsp
theorem fun_mkC {x qual : Str} {st : Stmt} {f c : Addr} {oc : Value} {od an : Option Addr} {osl : Array (Option Value)} {kV doc pm ct : Value} (l : K.lookup f = some ⟨oc, od, .func (PySem.W.fnOf x qual (defArgs st) (defBody st) (defScope st) .none kV doc pm an (.ref c) ct), osl⟩)
    (cd : PySem.W.codeIn K (.ref c) qual = true) : FunC K x qual st f (PySem.W.fnOf x qual (defArgs st) (defBody st) (defScope st) .none kV doc pm an (.ref c) ct) c := ⟨⟨oc, od, kV, doc, pm, an, ct, osl, rfl, l, cd⟩⟩
end
section
variable {X : Cx}
/-- what stands in the invariant may be used -/
theorem pe_fr {e : Expr} {t : TE} (h : X.A.frames = some X.stack → PE X e t) : PE X e t := ⟨fun pins s σ H Q I q => (h I.ok.frames).run pins s σ H Q I q⟩
end
end LP
end

section
set_option Elab.async false
set_option linter.all false
set_option maxRecDepth 100000
set_option maxHeartbeats 2000000
/-! is_number, _is_triple, _are_rising_cells -/
namespace LP
open PySem PySem.Spec PyProof.Rows L2 Ly GY
variable [LamTab] {P : Program} {w : World} {K : PySem.W.Frag} {mg : Str → Option Value} {base : Heap}
def btw (lo hi i : Int) : Bool := decide (lo ≤ i) && decide (i ≤ hi)
def tri (lo hi : Int) (c : C3) : Bool := btw lo hi c.1 && (btw lo hi c.2.1 && btw lo hi c.2.2)
theorem tri_room {c : C3} : tri 0 3 c = true ↔ InR c := by
  unfold tri btw InR
  simp only [Bool.and_eq_true, decide_eq_true_eq]
def spNum : Sp := fun vs H Q _ => ∃ v lo hi : Int, vs = [.int v, .int lo, .int hi] ∧ Q (.bl (btw lo hi v)) H
theorem scNum : FnScope ["value", "low", "high"] ["value", "low", "high"] (defScope sNum) := ⟨rfl, rfl, rfl, by decide +kernel, rfl, by decide +kernel, by decide +kernel⟩
theorem ok_num {f : Addr} {fd : FuncData} (F : Fun K "is_number" "is_number" sNum f fd) (T : Nm K mg) : FnOk P w K mg base CX0 1 f fd ["value", "low", "high"] spNum := by
  refine F.ok scNum (fun vs H Q E h => ?_) (fun cdv A outer s H vs Q E hr h => ?_)
  · obtain ⟨v, lo, hi, rfl, _⟩ := h
    rfl
  · obtain ⟨v, lo, hi, rfl, q⟩ := h
    refine ⟨_, pss_one (ps_ret (pe_and (pe_callB call_isi (by rfl) T.isinstance (by decide +kernel) (pa_cons (pv 0) (pa_cons (pe_bltn (by rfl) T.int (by decide +kernel) (v := .ty "int") rfl) pa_nil)))
      (pe_and (pe_not (pe_callB call_isi (by rfl) T.isinstance (by decide +kernel) (pa_cons (pv 0) (pa_cons (pe_bltn (by rfl) T.bool (by decide +kernel) (v := .ty "bool") rfl) pa_nil))))
        (pe_one (pe_chain op_le op_le (pv 1) (pv 0) (pv 2)))))), ?_⟩
    refine ⟨_, rfl, _, _, _, _, _, rfl, .ty _, .base (.int _), kit_ty (r := true) (by decide +kernel), true, rfl, iteT ?_⟩
    refine ⟨_, rfl, _, _, _, _, _, rfl, .ty _, .base (.int _), kit_ty (r := false) (by decide +kernel), false, rfl, true, rfl, iteT ?_⟩
    refine ⟨_, rfl, _, rfl, _, _, rfl, rfl, _, rfl, ?_⟩
    have e : btw lo hi v = (decide (lo ≤ v) && decide (v ≤ hi)) := rfl
    rw [e] at q
    cases h1 : decide (lo ≤ v) with
    | true =>
      rw [h1] at q
      exact iteT ⟨_, rfl, _, _, rfl, rfl, q⟩
    | false =>
      rw [h1] at q
      exact iteF q

/-! ### _is_triple -/
def spTri (K : PySem.W.Frag) (Pt : Addr) : Sp := fun vs H Q _ => ∃ (a : Addr) (c : C3) (lo hi : Int), vs = [.ref a, .int lo, .int hi] ∧ SqT K H a [.int c.1, .int c.2.1, .int c.2.2] ∧ TGen H Pt ∧ ∀ H', Kp [] H H' → Q (.bl (tri lo hi c)) H'
theorem scTri : FnScope ["value", "low", "high"] ["value", "low", "high"] (defScope sTri) := ⟨rfl, rfl, rfl, by decide +kernel, rfl, by decide +kernel, by decide +kernel⟩
/-- the scope of the one generator expression in a return -/
def genOf : Stmt → Scope
  | .Return (some (.Call _ [.GeneratorExp _ _ sc _] _ _)) _ => sc
  | .Return (some (.BoolOp _ [_, .Call _ [.GeneratorExp _ _ sc _] _ _] _)) _ => sc
  | .Return (some (.BoolOp _ [.Call _ [.GeneratorExp _ _ sc _] _ _, _] _)) _ => sc
  | .If (.BoolOp _ [_, .UnaryOp _ (.Call _ [.GeneratorExp _ _ sc _] _ _) _] _) _ _ _ => sc
  | .If (.UnaryOp _ (.Call _ [.GeneratorExp _ _ sc _] _ _) _) _ _ _ => sc
  | _ => { kind := .function, names := [], isGenerator := false, isCoroutine := false }
def stOf (st : Stmt) (i : Nat) : Stmt := (defBody st).getD i (.Pass ⟨0, 0, 0, 0⟩)
theorem gTri : GX.GOk ["value", "low", "high"] (defScope sTri) (genOf (stOf sTri 1)) "part" := ⟨rfl, rfl, by decide +kernel, rfl, rfl, by decide +kernel, by decide +kernel, by decide +kernel, by decide⟩
theorem btw_all {lo hi : Int} {ns : List Int} {i : Nat} {n : Int} (h : ns[i]? = some n) (p : (ns.take i).all (btw lo hi) = true) :
    (btw lo hi n = true → (ns.take (i + 1)).all (btw lo hi) = true) ∧ (btw lo hi n = false → ns.all (btw lo hi) = false) := by
  refine ⟨fun q => ?_, fun q => ?_⟩
  · rw [List.take_add_one, h]
    show (ns.take i ++ [n]).all _ = true
    rw [List.all_append, p]
    show (true && (btw lo hi n && true)) = true
    rw [q]
    rfl
  · cases e : ns.all (btw lo hi) with
    | false => rfl
    | true =>
      have := List.all_eq_true.mp e n (List.mem_of_getElem? h)
      rw [q] at this
      cases this
theorem int_at {ns : List Int} {i : Nat} {x : V} (h : (ns.map V.int)[i]? = some x) : ∃ n, ns[i]? = some n ∧ x = .int n := by
  rw [List.getElem?_map] at h
  cases e : ns[i]? with
  | none => rw [e] at h; cases h
  | some n => rw [e] at h; exact ⟨n, rfl, (Option.some.inj h).symm⟩
theorem ok_tri {f c Pt fN : Addr} {fd fdN : FuncData} (F : FunC K "_is_triple" "_is_triple" sTri f fd c) (TB : GxR.TabB base mg c Pt) (T : Nm K mg) (N : Fn K mg "is_number" fN fdN ["value", "low", "high"]) (G : FnOk P w K mg base CX0 1 fN fdN ["value", "low", "high"] spNum) :
    FnOk P w K mg base CX0 4 f fd ["value", "low", "high"] (spTri K Pt) := by
  refine F.ok scTri (fun vs H Q E h => ?_) (fun A outer s H vs Q E hr h => ?_)
  · obtain ⟨a, c, lo, hi, rfl, _⟩ := h
    rfl
  · obtain ⟨a, c, lo, hi, rfl, hT, hP, q⟩ := h
    refine ⟨_, pss_cons (ps_if (PW.pt (pw_or (pt_not (pt_val (pe_callB call_isi (by rfl) T.isinstance (by decide +kernel) (pa_cons (pv 0) (pa_cons (pe_bltn (by rfl) T.tuple (by decide +kernel) (v := .ty "tuple") rfl) pa_nil)))))
        (pw_or1 (pt_cmpR op_ne (pe_callB call_len_seq (by rfl) T.len PySem.boot_len (pa_cons (pv 0) pa_nil)) pe_int (nomark _))))) (pss_one (ps_ret pe_bl)) pss_nil)
      (pss_one (ps_ret (pe_fr fun hf => GX.pe_allG (k := 1) hr (by rfl) T.all TB rfl scTri.nd hf gTri (show ("part" : Str) ∉ (["value", "low", "high"] : List Str) by decide) (pi_tup (pv 0))
        (fun A s H C code fp hr1 => pe_call G hr1 (by rfl) N.m N.kp N.b .nil pass0 (pa_cons (pv 3) (pa_cons (pv 1) (pa_cons (pv 2) pa_nil))))))), ?_⟩
    refine ⟨_, rfl, _, _, _, _, _, rfl, .ty _, ty_tup hT, kit_ty (r := true) (by decide +kernel), true, rfl, iteF ?_⟩
    refine ⟨_, rfl, a, _, rfl, .inr hT, rfl, _, rfl, iteF ?_⟩
    refine ⟨_, rfl, a, rfl, ⟨_, hT⟩, hP.1, fun H2 tb => ?_⟩
    have k2 : Kp [] H H2 := Kp.tabbed hP tb
    refine ⟨_, _, ⟨Nat.zero_le _, ?p0⟩, GX.turn_tup (xs := [c.1, c.2.1, c.2.2].map V.int) (fun i H' => Kp [] H H' ∧ ([c.1, c.2.1, c.2.2].take i).all (btw lo hi) = true) rfl (fun i H' _ k => k.1.sqT hT) (fun i x H' hx ⟨k, p⟩ => ?ps) (fun H' ⟨k, p⟩ => ?pd)⟩
    case p0 => exact ⟨k2, rfl⟩
    case ps =>
      obtain ⟨n, hn, rfl⟩ := int_at hx
      refine ⟨_, rfl, _, rfl, _, rfl, n, lo, hi, rfl, _, rfl, ?_⟩
      have z := btw_all hn p
      have hi' : i < ([c.1, c.2.1, c.2.2].map V.int).length := (List.getElem?_eq_some_iff.mp hx).1
      cases e : btw lo hi n with
      | true => exact iteT ⟨hi', k, z.1 e⟩
      | false =>
        have q1 := q H' k
        rw [show tri lo hi c = false from by
          have := z.2 e
          unfold tri
          simpa using this] at q1
        exact iteF q1
    case pd =>
      have q1 := q H' k
      rw [show tri lo hi c = true from by
        unfold tri
        simpa using p] at q1
      exact q1
end LP
end

section
set_option Elab.async false
set_option linter.all false
set_option maxRecDepth 100000
set_option maxHeartbeats 2000000
/-! _are_rising_cells -/
namespace LP
open PySem PySem.Spec PyProof.Rows L2 Ly GY
variable [LamTab] {P : Program} {w : World} {K : PySem.W.Frag} {mg : Str → Option Value} {base : Heap}
theorem lex_c {a b : C3} (h : lt3 a b) : HT.lexLt [a.1, a.2.1, a.2.2] [b.1, b.2.1, b.2.2] = true := by
  unfold lt3 at h
  rw [HT.lexLt_cons, HT.lexLt_cons, HT.lexLt_cons, HT.lexLt_nil_nil]
  rcases h with h | ⟨h1, h | ⟨h2, h3⟩⟩
  · rw [if_neg (by omega)]
    exact decide_eq_true h
  · rw [if_pos h1, if_neg (by omega)]
    exact decide_eq_true h
  · rw [if_pos h1, if_pos h2, if_neg (by omega)]
    exact decide_eq_true h3
theorem asc_at {cs : List C3} (h : Asc cs) {i j : Nat} {a b : C3} (hi : cs[i]? = some a) (hj : cs[j]? = some b) (hl : i < j) : lt3 a b := by
  obtain ⟨h1, rfl⟩ := List.getElem?_eq_some_iff.mp hi
  obtain ⟨h2, rfl⟩ := List.getElem?_eq_some_iff.mp hj
  exact List.pairwise_iff_getElem.mp h i j h1 h2 hl
theorem Items.at {K : PySem.W.Frag} {H : Hp} : ∀ {xs : List V} {cs : List C3} {i : Nat}, Items K H xs cs → i < cs.length → ∃ p c, xs[i]? = some (.ref p) ∧ cs[i]? = some c ∧ SqT K H p [.int c.1, .int c.2.1, .int c.2.2] := by
  intro xs cs i h hi
  have hl := h.length
  have hx : xs[i]? = some xs[i] := List.getElem?_eq_getElem (by omega)
  obtain ⟨c, hc, hd⟩ := h.get hx
  obtain ⟨p, e, hs⟩ := of_dp_c hd
  exact ⟨p, c, by rw [hx, e], hc, hs⟩
/-! ### is_rising, of cells -/
def spRising (K : PySem.W.Frag) : Sp := fun vs H Q _ => ∃ (v : V) (cs : List C3), vs = [v] ∧ CellsT K H v cs ∧ Asc cs ∧ cs.length ≤ 64 ∧ TGen H LamTab.Z ∧ ∀ H', Kp [] H H' → Q (.bl true) H'
theorem scRising : FnScope ["values"] ["values"] (defScope sRising) := ⟨rfl, rfl, rfl, by decide +kernel, rfl, by decide +kernel, by decide +kernel⟩
theorem gRising : GX.GOk ["values"] (defScope sRising) (genOf (stOf sRising 0)) "k" := ⟨rfl, rfl, by decide +kernel, rfl, rfl, by decide +kernel, by decide +kernel, by decide +kernel, by decide⟩
theorem ok_rising {f c : Addr} {fd : FuncData} (F : FunC K "is_rising" "is_rising" sRising f fd c) (TB : GxR.TabB base mg c LamTab.Z) (T : Nm K mg) : FnOk P w K mg base CX0 4 f fd ["values"] (spRising K) := by
  refine F.ok scRising (fun vs H Q E h => ?_) (fun A outer s H vs Q E hr h => ?_)
  · obtain ⟨v, cs, rfl, _⟩ := h
    rfl
  · obtain ⟨v, cs, rfl, hC, hA, h64, hPr, q⟩ := h
    refine ⟨_, pss_one (ps_ret (pe_fr fun hf => GX.pe_allG (k := 1) hr (by rfl) T.all TB rfl scRising.nd hf gRising (show ("k" : Str) ∉ (["values"] : List Str) by decide) (pi_range2 (by rfl) T.range (pa_cons pe_int (pa_cons (pe_callB call_len_seq (by rfl) T.len PySem.boot_len (pa_cons (pv 0) pa_nil)) pa_nil)))
        (fun A s H C code fp hr1 => pe_cmpR (r := rLtT K) (op_ltT hr1.units0) (pe_ix (r := rIxT K) ix_tup (pv 0) (pe_op op_sub (pv 1) pe_int) (fun _ _ => rfl)) (pe_ix (r := rIxT K) ix_tup (pv 0) (pv 1) (fun _ _ => rfl)) (nomark _)))), ?_⟩
    obtain ⟨a, xs, rfl, hT, hI⟩ := of_cellsT hC
    have hl := hI.length
    refine ⟨_, rfl, a, _, rfl, .inr hT, 1, (xs.length : Int), rfl, ⟨by decide, by decide, by omega, by omega⟩, hPr.1, fun H3 tb3 => ?_⟩
    have k3 : Kp [] H H3 := Kp.tabbed hPr tb3
    refine ⟨_, _, ⟨Nat.zero_le _, ?p0⟩, GX.turn_rng (lo := 1) (fun i H' => Kp [] H H') rfl (fun i H' hx k => ?ps) (fun H' k => ?pd)⟩
    case p0 => exact k3
    case ps =>
      obtain ⟨p1, c1, hx1, hc1, hs1⟩ := Items.at hI (show i < cs.length by omega)
      obtain ⟨p2, c2, hx2, hc2, hs2⟩ := Items.at hI (show i + 1 < cs.length by omega)
      refine ⟨_, rfl, _, rfl, _, _, rfl, rfl, a, xs, _, _, rfl, rfl, k.sqT hT, (by rw [show (1 : Int) + (i : Int) - 1 = ((i : Nat) : Int) by omega]; exact atI_nat hx1), ?_⟩
      refine ⟨_, rfl, _, rfl, a, xs, _, _, rfl, rfl, k.sqT hT, (by rw [show (1 : Int) + (i : Int) = ((i + 1 : Nat) : Int) by omega]; exact atI_nat hx2), ?_⟩
      refine ⟨p1, p2, [c1.1, c1.2.1, c1.2.2], [c2.1, c2.2.1, c2.2.2], rfl, rfl, k.sqT hs1, k.sqT hs2, _, rfl, ?_⟩
      rw [lex_c (asc_at hA hc1 hc2 (by omega))]
      exact iteT ⟨by omega, k⟩
    case pd => exact q H' k
def spRise (K : PySem.W.Frag) (Pt Pr : Addr) : Sp := fun vs H Q _ => ∃ (v : V) (cs : List C3), vs = [v] ∧ CellsT K H v cs ∧ Asc cs ∧ (∀ c ∈ cs, InR c) ∧ cs.length ≤ 64 ∧ TGen H Pt ∧ TR H Pr ∧ ∀ H', Kp [] H H' → Q (.bl true) H'
theorem scRise : FnScope ["value"] ["value"] (defScope sRise) := ⟨rfl, rfl, rfl, by decide +kernel, rfl, by decide +kernel, by decide +kernel⟩
theorem gRise1 : GX.GOk ["value"] (defScope sRise) (genOf (stOf sRise 0)) "part" := ⟨rfl, rfl, by decide +kernel, rfl, rfl, by decide +kernel, by decide +kernel, by decide +kernel, by decide⟩
theorem ok_rise {f c Pt Pr fT fZ : Addr} {fd fdT fdZ : FuncData} (F : FunC K "_are_rising_cells" "_are_rising_cells" sRise f fd c) (TB : GxR.TabB base mg c Pr) (T : Nm K mg) (N : Fn K mg "_is_triple" fT fdT ["value", "low", "high"]) (G : FnOk P w K mg base CX0 4 fT fdT ["value", "low", "high"] (spTri K Pt))
    (NZ : Fn K mg "is_rising" fZ fdZ ["values"]) (GZ : FnOk P w K mg base CX0 4 fZ fdZ ["values"] (spRising K)) :
    FnOk P w K mg base CX0 7 f fd ["value"] (spRise K Pt Pr) := by
  obtain ⟨tl, mL⟩ := T.last
  refine F.ok scRise (fun vs H Q E h => ?_) (fun A outer s H vs Q E hr h => ?_)
  · obtain ⟨v, cs, rfl, _⟩ := h
    rfl
  · obtain ⟨v, cs, rfl, hC, hA, hR, h64, hPt, hPr, q⟩ := h
    have hr4 : Room 4 _ := hr.mono (by decide)
    refine ⟨_, pss_cons (ps_if (PW.pt (pw_or (pt_not (pt_val (pe_callB call_isi (by rfl) T.isinstance (by decide +kernel) (pa_cons (pv 0) (pa_cons (pe_bltn (by rfl) T.tuple (by decide +kernel) (v := .ty "tuple") rfl) pa_nil)))))
        (pw_or1 (pt_not (pt_val (pe_fr fun hf => GX.pe_allG (k := 4) hr (by rfl) T.all TB rfl scRise.nd hf gRise1 (show ("part" : Str) ∉ (["value"] : List Str) by decide) (pi_tup (pv 0))
          (fun A s H C code fp hr1 => pe_call G hr1 (by rfl) N.m N.kp N.b .nil pass0 (pa_cons (pv 1) (pa_cons pe_int (pa_cons (pe_glob (v := .int 3) rfl mL ⟨_, rfl⟩) pa_nil)))))))))) (pss_one (ps_ret pe_bl)) pss_nil)
      (pss_one (ps_ret (pe_call GZ hr4 (by rfl) NZ.m NZ.kp NZ.b .nil pass0 (pa_cons (pv 0) pa_nil)))), ?_⟩
    obtain ⟨a, xs, rfl, hT, hI⟩ := of_cellsT hC
    have hl := hI.length
    refine ⟨_, rfl, _, _, _, _, _, rfl, .ty _, ty_tup hT, kit_ty (r := true) (by decide +kernel), true, rfl, iteF ?_⟩
    refine ⟨_, rfl, a, rfl, ⟨_, hT⟩, hPr.1.1, fun H2 tb => ?_⟩
    refine ⟨_, _, ⟨Nat.zero_le _, ?p0⟩, GX.turn_tup (xs := xs) (fun i H' => Kp [] H H') rfl (fun i H' _ k => k.sqT hT) (fun i x H' hx k => ?ps) (fun H' k => ?pd)⟩
    case p0 => exact Kp.tabbed hPr.1 tb
    case ps =>
      obtain ⟨c, hc, hd⟩ := hI.get hx
      obtain ⟨p, rfl, hs⟩ := of_dp_c hd
      refine ⟨_, rfl, p, c, 0, 3, rfl, k.sqT hs, k.tab _ hPt, fun H3 k3 => ⟨_, rfl, ?_⟩⟩
      rw [tri_room.mpr (hR c (List.mem_of_getElem? hc))]
      exact iteT ⟨(List.getElem?_eq_some_iff.mp hx).1, k.trans k3⟩
    case pd =>
      refine ⟨_, rfl, iteF ?_⟩
      exact ⟨_, rfl, _, cs, rfl, cellsT_mono k hC, hA, h64, k.tab _ hPr.2, fun H3 k3 => q H3 (k.trans k3)⟩
end LP
end

section
set_option Elab.async false
set_option linter.all false
set_option maxRecDepth 100000
set_option maxHeartbeats 2000000
/-! _is_formed, _places_within -/
namespace LP
open PySem PySem.Spec PyProof.Rows L2 Ly GY
variable [LamTab] {P : Program} {w : World} {K : PySem.W.Frag} {mg : Str → Option Value} {base : Heap}
theorem itD0 {c A B : Prop} [Decidable c] (h : ¬ c) (b : B) : if decide c = true then A else B := by
  rw [decide_eq_false h]
  exact iteF b
theorem itD1 {c A B : Prop} [Decidable c] (h : c) (a : A) : if decide c = true then A else B := by
  rw [decide_eq_true h]
  exact iteT a
theorem few {cs : List C3} (h : Asc cs) (k : ∀ c ∈ cs, InR c) : cs.length ≤ 64 := by
  have := GZ.nodup_le (asc_nodup h) (fun x hx => mem_room.mpr (k x hx))
  have e : room.length = 64 := by unfold room; rw [List.length_map, List.length_range]
  omega
def spForm (K : PySem.W.Frag) (Pt Pr : Addr) : Sp := fun vs H Q _ => ∃ (v : V) (b : Bd), vs = [v] ∧ Body K H v b ∧ Good b ∧ TGen H Pt ∧ TR H Pr ∧ ∀ H', Kp [] H H' → Q (.bl true) H'
theorem scForm : FnScope ["body", "word"] ["body"] (defScope sFormed) := ⟨rfl, rfl, rfl, by decide +kernel, rfl, by decide +kernel, by decide +kernel⟩
theorem ok_form {f Pt Pr fT fR : Addr} {fd fdT fdR : FuncData} (F : Fun K "_is_formed" "_is_formed" sFormed f fd) (T : Nm K mg)
    (NT : Fn K mg "_is_triple" fT fdT ["value", "low", "high"]) (GT : FnOk P w K mg base CX0 4 fT fdT ["value", "low", "high"] (spTri K Pt))
    (NR : Fn K mg "_are_rising_cells" fR fdR ["value"]) (GR : FnOk P w K mg base CX0 7 fR fdR ["value"] (spRise K Pt Pr)) :
    FnOk P w K mg base CX0 8 f fd ["body"] (spForm K Pt Pr) := by
  obtain ⟨tl, mL⟩ := T.last
  obtain ⟨ts, mS⟩ := T.side
  obtain ⟨aE, mE, hE⟩ := T.edges
  obtain ⟨aJ, mJ, hJ⟩ := T.joins
  refine F.ok scForm (fun vs H Q E h => ?_) (fun cdv A outer s H vs Q E hr h => ?_)
  · obtain ⟨v, b, rfl, _⟩ := h
    rfl
  · obtain ⟨v, b, rfl, hB, hg, hPt, hPr, q⟩ := h
    have hr4 : Room 4 _ := hr.mono (by decide)
    refine ⟨_, pss_cons (ps_if (PW.pt (pw_or (pt_not (pt_val (pe_callB call_isi (by rfl) T.isinstance (by decide +kernel) (pa_cons (pv 0) (pa_cons (pe_bltn (by rfl) T.tuple (by decide +kernel) (v := .ty "tuple") rfl) pa_nil)))))
        (pw_or1 (pt_cmpR op_notIn_seq (pe_callB call_len_seq (by rfl) T.len PySem.boot_len (pa_cons (pv 0) pa_nil)) (pe_tup (pa_cons pe_int (pa_cons pe_int pa_nil))) (by rfl))))) (pss_one (ps_ret pe_bl)) pss_nil)
      (pss_cons (ps_set (i := 1) scForm.nd rfl (.inl rfl) (pe_ix ix_tup (pv 0) pe_int (fun _ _ => rfl)))
      (pss_cons (ps_if (pt_cmpR op_eq (pe_callB call_len_seq (by rfl) T.len PySem.boot_len (pa_cons (pv 0) pa_nil)) pe_int (nomark _))
        (pss_one (ps_ret (pe_and (pe_cmpR op_eq (pv 1) pe_str (nomark _)) (pe_one (pe_call GR hr (by rfl) NR.m NR.kp NR.b .nil pass0 (pa_cons (pe_ix ix_tup (pv 0) pe_int (fun _ _ => rfl)) pa_nil)))))) pss_nil)
      (pss_cons (ps_if (pt_cmpR op_eq (pv 1) pe_str (nomark _))
        (pss_one (ps_ret (pe_and (pe_call GT hr4 (by rfl) NT.m NT.kp NT.b .nil pass0 (pa_cons (pe_ix ix_tup (pv 0) pe_int (fun _ _ => rfl)) (pa_cons pe_int (pa_cons (pe_glob (v := .int 3) rfl mL ⟨_, rfl⟩) pa_nil))))
          (pe_one (pe_call GT hr4 (by rfl) NT.m NT.kp NT.b .nil pass0 (pa_cons (pe_ix ix_tup (pv 0) pe_int (fun _ _ => rfl)) (pa_cons pe_int (pa_cons (pe_glob (v := .int 4) rfl mS ⟨_, rfl⟩) pa_nil)))))))) pss_nil)
      (pss_cons (ps_if (pt_cmpR op_eq (pv 1) pe_str (nomark _))
        (pss_one (ps_ret (pe_call GT hr4 (by rfl) NT.m NT.kp NT.b .nil pass0 (pa_cons (pe_ix ix_tup (pv 0) pe_int (fun _ _ => rfl)) (pa_cons (pe_un un_neg (pe_glob (v := .int 3) rfl mL ⟨_, rfl⟩)) (pa_cons (pe_glob (v := .int 3) rfl mL ⟨_, rfl⟩) pa_nil)))))) pss_nil)
      (pss_cons (ps_if (pt_cmpR op_eq (pv 1) pe_str (nomark _)) (pss_one (ps_ret (pe_cmpR op_in_seq (pe_ix ix_tup (pv 0) pe_int (fun _ _ => rfl)) (pe_glob (v := .ref aE) rfl mE rfl) (by rfl)))) pss_nil)
      (pss_one (ps_ret (pe_cmpR op_in_seq (pv 1) (pe_glob (v := .ref aJ) rfl mJ rfl) (by rfl))))))))), ?_⟩
    cases b with
    | block x y z a b c =>
      obtain ⟨p, y1, z1, rfl, hT, h1, h2⟩ := of_body3 hB
      refine ⟨_, rfl, _, _, _, _, _, rfl, .ty _, ty_tup hT, kit_ty (r := true) (by decide +kernel), true, rfl, iteF ?_⟩
      refine ⟨_, rfl, p, _, rfl, .inr hT, (by show 2 ≤ sizeLine; decide), fun t ht => ⟨t, _, rfl, .inr (SqT.of upd_same), rfl, rfl, _, rfl, iteF ?_⟩⟩
      have k1 : Kp [] H (upd H t (.tup [.int 2, .int 3])) := Kp.new ht
      generalize upd H t (.tup [.int 2, .int 3]) = H1 at k1 ⊢
      refine ⟨_, rfl, p, _, _, _, rfl, rfl, k1.sqT hT, rfl, ?_⟩
      refine ⟨_, rfl, p, _, rfl, .inr (k1.sqT hT), rfl, _, rfl, itD0 (show ¬ V.int 3 = V.int 2 by decide) ?_⟩
      refine ⟨_, rfl, rfl, _, rfl, itD1 (by decide +kernel) ?_⟩
      obtain ⟨p1, rfl, hs1⟩ := of_dp_c h1
      obtain ⟨p2, rfl, hs2⟩ := of_dp_c h2
      obtain ⟨⟨g1, g2, g3⟩, ga, gb, gc⟩ := hg
      refine ⟨_, rfl, p, _, _, _, rfl, rfl, k1.sqT hT, rfl, p1, (x, y, z), 0, 3, rfl, k1.sqT hs1, k1.tab _ hPt, fun H2 k2 => ⟨_, rfl, ?_⟩⟩
      rw [tri_room.mpr ⟨g1, g2, g3⟩]
      refine iteT ⟨_, rfl, p, _, _, _, rfl, rfl, k2.sqT (k1.sqT hT), rfl, p2, (a, b, c), 1, 4, rfl, k2.sqT (k1.sqT hs2), k2.tab _ (k1.tab _ hPt), fun H3 k3 => ?_⟩
      have e : tri 1 4 (a, b, c) = true := by
        unfold tri btw
        simp only [Bool.and_eq_true, decide_eq_true_eq]
        simp only at g1 g2 g3
        omega
      rw [e]
      exact q H3 ((k1.trans k2).trans k3)
    | cells cs =>
      obtain ⟨p, y1, rfl, hT, h1⟩ := of_body2 hB
      refine ⟨_, rfl, _, _, _, _, _, rfl, .ty _, ty_tup hT, kit_ty (r := true) (by decide +kernel), true, rfl, iteF ?_⟩
      refine ⟨_, rfl, p, _, rfl, .inr hT, (by show 2 ≤ sizeLine; decide), fun t ht => ⟨t, _, rfl, .inr (SqT.of upd_same), rfl, rfl, _, rfl, iteF ?_⟩⟩
      have k1 : Kp [] H (upd H t (.tup [.int 2, .int 3])) := Kp.new ht
      generalize upd H t (.tup [.int 2, .int 3]) = H1 at k1 ⊢
      refine ⟨_, rfl, p, _, _, _, rfl, rfl, k1.sqT hT, rfl, ?_⟩
      refine ⟨_, rfl, p, _, rfl, .inr (k1.sqT hT), rfl, _, rfl, itD1 (show V.int 2 = V.int 2 from rfl) ?_⟩
      refine ⟨_, rfl, rfl, _, rfl, itD1 (by decide +kernel) ?_⟩
      exact ⟨_, rfl, p, _, _, _, rfl, rfl, k1.sqT hT, rfl, y1, cs, rfl, cellsT_mono k1 h1, hg.1, hg.2, few hg.1 hg.2, k1.tab _ hPt, k1.tabr hPr, fun H3 k3 => q H3 (k1.trans k3)⟩
    | wth b1 b2 =>
      obtain ⟨p, y1, z1, rfl, hT, h1, h2⟩ := of_body3 hB
      refine ⟨_, rfl, _, _, _, _, _, rfl, .ty _, ty_tup hT, kit_ty (r := true) (by decide +kernel), true, rfl, iteF ?_⟩
      refine ⟨_, rfl, p, _, rfl, .inr hT, (by show 2 ≤ sizeLine; decide), fun t ht => ⟨t, _, rfl, .inr (SqT.of upd_same), rfl, rfl, _, rfl, iteF ?_⟩⟩
      have k1 : Kp [] H (upd H t (.tup [.int 2, .int 3])) := Kp.new ht
      generalize upd H t (.tup [.int 2, .int 3]) = H1 at k1 ⊢
      refine ⟨_, rfl, p, _, _, _, rfl, rfl, k1.sqT hT, rfl, ?_⟩
      refine ⟨_, rfl, p, _, rfl, .inr (k1.sqT hT), rfl, _, rfl, itD0 (show ¬ V.int 3 = V.int 2 by decide) ?_⟩
      refine ⟨_, rfl, rfl, _, rfl, itD0 (by decide +kernel) ?_⟩
      refine ⟨_, rfl, rfl, _, rfl, itD0 (by decide +kernel) ?_⟩
      refine ⟨_, rfl, rfl, _, rfl, itD0 (by decide +kernel) ?_⟩
      exact ⟨_, rfl, aJ, _, rfl, .inr (hJ _), rfl, rfl, q H1 k1⟩
    | common b1 b2 =>
      obtain ⟨p, y1, z1, rfl, hT, h1, h2⟩ := of_body3 hB
      refine ⟨_, rfl, _, _, _, _, _, rfl, .ty _, ty_tup hT, kit_ty (r := true) (by decide +kernel), true, rfl, iteF ?_⟩
      refine ⟨_, rfl, p, _, rfl, .inr hT, (by show 2 ≤ sizeLine; decide), fun t ht => ⟨t, _, rfl, .inr (SqT.of upd_same), rfl, rfl, _, rfl, iteF ?_⟩⟩
      have k1 : Kp [] H (upd H t (.tup [.int 2, .int 3])) := Kp.new ht
      generalize upd H t (.tup [.int 2, .int 3]) = H1 at k1 ⊢
      refine ⟨_, rfl, p, _, _, _, rfl, rfl, k1.sqT hT, rfl, ?_⟩
      refine ⟨_, rfl, p, _, rfl, .inr (k1.sqT hT), rfl, _, rfl, itD0 (show ¬ V.int 3 = V.int 2 by decide) ?_⟩
      refine ⟨_, rfl, rfl, _, rfl, itD0 (by decide +kernel) ?_⟩
      refine ⟨_, rfl, rfl, _, rfl, itD0 (by decide +kernel) ?_⟩
      refine ⟨_, rfl, rfl, _, rfl, itD0 (by decide +kernel) ?_⟩
      exact ⟨_, rfl, aJ, _, rfl, .inr (hJ _), rfl, rfl, q H1 k1⟩
    | less b1 b2 =>
      obtain ⟨p, y1, z1, rfl, hT, h1, h2⟩ := of_body3 hB
      refine ⟨_, rfl, _, _, _, _, _, rfl, .ty _, ty_tup hT, kit_ty (r := true) (by decide +kernel), true, rfl, iteF ?_⟩
      refine ⟨_, rfl, p, _, rfl, .inr hT, (by show 2 ≤ sizeLine; decide), fun t ht => ⟨t, _, rfl, .inr (SqT.of upd_same), rfl, rfl, _, rfl, iteF ?_⟩⟩
      have k1 : Kp [] H (upd H t (.tup [.int 2, .int 3])) := Kp.new ht
      generalize upd H t (.tup [.int 2, .int 3]) = H1 at k1 ⊢
      refine ⟨_, rfl, p, _, _, _, rfl, rfl, k1.sqT hT, rfl, ?_⟩
      refine ⟨_, rfl, p, _, rfl, .inr (k1.sqT hT), rfl, _, rfl, itD0 (show ¬ V.int 3 = V.int 2 by decide) ?_⟩
      refine ⟨_, rfl, rfl, _, rfl, itD0 (by decide +kernel) ?_⟩
      refine ⟨_, rfl, rfl, _, rfl, itD0 (by decide +kernel) ?_⟩
      refine ⟨_, rfl, rfl, _, rfl, itD0 (by decide +kernel) ?_⟩
      exact ⟨_, rfl, aJ, _, rfl, .inr (hJ _), rfl, rfl, q H1 k1⟩
    | moved d b1 =>
      obtain ⟨p, y1, z1, rfl, hT, h1, h2⟩ := of_body3 hB
      refine ⟨_, rfl, _, _, _, _, _, rfl, .ty _, ty_tup hT, kit_ty (r := true) (by decide +kernel), true, rfl, iteF ?_⟩
      refine ⟨_, rfl, p, _, rfl, .inr hT, (by show 2 ≤ sizeLine; decide), fun t ht => ⟨t, _, rfl, .inr (SqT.of upd_same), rfl, rfl, _, rfl, iteF ?_⟩⟩
      have k1 : Kp [] H (upd H t (.tup [.int 2, .int 3])) := Kp.new ht
      generalize upd H t (.tup [.int 2, .int 3]) = H1 at k1 ⊢
      refine ⟨_, rfl, p, _, _, _, rfl, rfl, k1.sqT hT, rfl, ?_⟩
      refine ⟨_, rfl, p, _, rfl, .inr (k1.sqT hT), rfl, _, rfl, itD0 (show ¬ V.int 3 = V.int 2 by decide) ?_⟩
      refine ⟨_, rfl, rfl, _, rfl, itD0 (by decide +kernel) ?_⟩
      refine ⟨_, rfl, rfl, _, rfl, itD1 (by decide +kernel) ?_⟩
      obtain ⟨p1, rfl, hs1⟩ := of_dp_c h1
      refine ⟨_, rfl, p, _, _, _, rfl, rfl, k1.sqT hT, rfl, 3, rfl, p1, d, -3, 3, rfl, k1.sqT hs1, k1.tab _ hPt, fun H2 k2 => ?_⟩
      have e : tri (-3) 3 d = true := by
        have := hg.1
        unfold Far at this
        unfold tri btw
        simp only [Bool.and_eq_true, decide_eq_true_eq]
        omega
      rw [e]
      exact q H2 (k1.trans k2)
    | turnX b1 =>
      obtain ⟨p, y1, z1, rfl, hT, h1, h2⟩ := of_body3 hB
      refine ⟨_, rfl, _, _, _, _, _, rfl, .ty _, ty_tup hT, kit_ty (r := true) (by decide +kernel), true, rfl, iteF ?_⟩
      refine ⟨_, rfl, p, _, rfl, .inr hT, (by show 2 ≤ sizeLine; decide), fun t ht => ⟨t, _, rfl, .inr (SqT.of upd_same), rfl, rfl, _, rfl, iteF ?_⟩⟩
      have k1 : Kp [] H (upd H t (.tup [.int 2, .int 3])) := Kp.new ht
      generalize upd H t (.tup [.int 2, .int 3]) = H1 at k1 ⊢
      refine ⟨_, rfl, p, _, _, _, rfl, rfl, k1.sqT hT, rfl, ?_⟩
      refine ⟨_, rfl, p, _, rfl, .inr (k1.sqT hT), rfl, _, rfl, itD0 (show ¬ V.int 3 = V.int 2 by decide) ?_⟩
      refine ⟨_, rfl, rfl, _, rfl, itD0 (by decide +kernel) ?_⟩
      refine ⟨_, rfl, rfl, _, rfl, itD0 (by decide +kernel) ?_⟩
      refine ⟨_, rfl, rfl, _, rfl, itD1 (by decide +kernel) ?_⟩
      obtain rfl := of_dps h1
      exact ⟨_, rfl, p, _, _, _, rfl, rfl, k1.sqT hT, rfl, aE, _, rfl, .inr (hE _), rfl, rfl, q H1 k1⟩
    | turnY b1 =>
      obtain ⟨p, y1, z1, rfl, hT, h1, h2⟩ := of_body3 hB
      refine ⟨_, rfl, _, _, _, _, _, rfl, .ty _, ty_tup hT, kit_ty (r := true) (by decide +kernel), true, rfl, iteF ?_⟩
      refine ⟨_, rfl, p, _, rfl, .inr hT, (by show 2 ≤ sizeLine; decide), fun t ht => ⟨t, _, rfl, .inr (SqT.of upd_same), rfl, rfl, _, rfl, iteF ?_⟩⟩
      have k1 : Kp [] H (upd H t (.tup [.int 2, .int 3])) := Kp.new ht
      generalize upd H t (.tup [.int 2, .int 3]) = H1 at k1 ⊢
      refine ⟨_, rfl, p, _, _, _, rfl, rfl, k1.sqT hT, rfl, ?_⟩
      refine ⟨_, rfl, p, _, rfl, .inr (k1.sqT hT), rfl, _, rfl, itD0 (show ¬ V.int 3 = V.int 2 by decide) ?_⟩
      refine ⟨_, rfl, rfl, _, rfl, itD0 (by decide +kernel) ?_⟩
      refine ⟨_, rfl, rfl, _, rfl, itD0 (by decide +kernel) ?_⟩
      refine ⟨_, rfl, rfl, _, rfl, itD1 (by decide +kernel) ?_⟩
      obtain rfl := of_dps h1
      exact ⟨_, rfl, p, _, _, _, rfl, rfl, k1.sqT hT, rfl, aE, _, rfl, .inr (hE _), rfl, rfl, q H1 k1⟩
    | turnZ b1 =>
      obtain ⟨p, y1, z1, rfl, hT, h1, h2⟩ := of_body3 hB
      refine ⟨_, rfl, _, _, _, _, _, rfl, .ty _, ty_tup hT, kit_ty (r := true) (by decide +kernel), true, rfl, iteF ?_⟩
      refine ⟨_, rfl, p, _, rfl, .inr hT, (by show 2 ≤ sizeLine; decide), fun t ht => ⟨t, _, rfl, .inr (SqT.of upd_same), rfl, rfl, _, rfl, iteF ?_⟩⟩
      have k1 : Kp [] H (upd H t (.tup [.int 2, .int 3])) := Kp.new ht
      generalize upd H t (.tup [.int 2, .int 3]) = H1 at k1 ⊢
      refine ⟨_, rfl, p, _, _, _, rfl, rfl, k1.sqT hT, rfl, ?_⟩
      refine ⟨_, rfl, p, _, rfl, .inr (k1.sqT hT), rfl, _, rfl, itD0 (show ¬ V.int 3 = V.int 2 by decide) ?_⟩
      refine ⟨_, rfl, rfl, _, rfl, itD0 (by decide +kernel) ?_⟩
      refine ⟨_, rfl, rfl, _, rfl, itD0 (by decide +kernel) ?_⟩
      refine ⟨_, rfl, rfl, _, rfl, itD1 (by decide +kernel) ?_⟩
      obtain rfl := of_dps h1
      exact ⟨_, rfl, p, _, _, _, rfl, rfl, k1.sqT hT, rfl, aE, _, rfl, .inr (hE _), rfl, rfl, q H1 k1⟩
end LP
end

section
set_option Elab.async false
set_option linter.all false
set_option maxRecDepth 100000
set_option maxHeartbeats 2000000
/-! _places_within, is_body -/
namespace LP
open PySem PySem.Spec PyProof.Rows L2 Ly GY
variable [LamTab] {P : Program} {w : World} {K : PySem.W.Frag} {mg : Str → Option Value} {base : Heap}
theorem itB0 {c : Bool} {A B : Prop} (h : c = false) (b : B) : if c = true then A else B := by
  subst h
  exact iteF b
theorem itB1 {c : Bool} {A B : Prop} (h : c = true) (a : A) : if c = true then A else B := by
  subst h
  exact iteT a
def subs : Bd → List Bd
  | .wth p q => [p, q]
  | .common p q => [p, q]
  | .less p q => [p, q]
  | .moved _ p => [p]
  | .turnX p => [p]
  | .turnY p => [p]
  | .turnZ p => [p]
  | _ => []
abbrev Bodies (K : PySem.W.Frag) (H : Hp) (vs : List V) (bs : List Bd) : Prop := DpAll K H vs (bs.map bD)
theorem noLs_bs : ∀ bs : List Bd, noLs (bs.map bD) = true
  | [] => rfl
  | c :: cs => by
    show (noL (bD c) && noLs (cs.map bD)) = true
    rw [noLs_bs cs, noL_b]
    rfl
theorem bodies_mono {S : List Addr} {H H' : Hp} {vs : List V} {bs : List Bd} (k : Kp S H H') (h : Bodies K H vs bs) : Bodies K H' vs bs := dps_mono k _ h (.inl (noLs_bs bs))
theorem Bodies.length {H : Hp} : ∀ {vs : List V} {bs : List Bd}, Bodies K H vs bs → vs.length = bs.length
  | _, [], h => by cases h; rfl
  | _, _ :: _, h => by
    cases h with
    | cons _ t => exact congrArg (· + 1) (Bodies.length t)
theorem Bodies.append {H : Hp} : ∀ {vs : List V} {bs : List Bd} {ws : List V} {cs : List Bd}, Bodies K H vs bs → Bodies K H ws cs → Bodies K H (vs ++ ws) (bs ++ cs)
  | _, [], _, _, h, k => by cases h; exact k
  | _, _ :: _, _, _, h, k => by
    cases h with
    | cons a t => exact .cons a (Bodies.append t k)
/-- the last of them -/
theorem Bodies.last {H : Hp} : ∀ {vs : List V} {bs : List Bd}, Bodies K H vs bs → bs ≠ [] → ∃ v b, vs[vs.length - 1]? = some v ∧ bs = bs.dropLast ++ [b] ∧ Body K H v b ∧ Bodies K H vs.dropLast bs.dropLast
  | _, [], _, n => absurd rfl n
  | _, [b], h, _ => by
    cases h with
    | cons a t =>
      cases t
      exact ⟨_, b, rfl, rfl, a, .nil⟩
  | _, b :: c :: r, h, _ => by
    cases h with
    | @cons v vs' _ _ a t =>
      obtain ⟨x, d, h1, h2, h3, h4⟩ := Bodies.last t (by simp)
      have hl := Bodies.length (bs := c :: r) t
      obtain ⟨y, ys, rfl⟩ : ∃ y ys, vs' = y :: ys := by
        cases vs' with
        | nil => cases hl
        | cons y ys => exact ⟨y, ys, rfl⟩
      refine ⟨x, d, ?_, ?_, h3, .cons a h4⟩
      · simpa using h1
      · show b :: (c :: r) = b :: (c :: r).dropLast ++ [d]
        rw [List.cons_append, ← h2]
def spPlaces (K : PySem.W.Frag) : Sp := fun vs H Q _ => ∃ (v : V) (b : Bd), vs = [v] ∧ Body K H v b ∧ ∀ H' l us, Kp [] H H' → H l = none → H' l = some (.lst us) → Bodies K H' us (subs b) → Q (.ref l) H'
theorem scPlaces : FnScope ["body", "word"] ["body"] (defScope sPlaces) := ⟨rfl, rfl, rfl, by decide +kernel, rfl, by decide +kernel, by decide +kernel⟩
theorem ok_places {f : Addr} {fd : FuncData} (F : Fun K "_places_within" "_places_within" sPlaces f fd) (T : Nm K mg) : FnOk P w K mg base CX0 1 f fd ["body"] (spPlaces K) := by
  obtain ⟨aJ, mJ, hJ⟩ := T.joins
  refine F.ok scPlaces (fun vs H Q E h => ?_) (fun cdv A outer s H vs Q E hr h => ?_)
  · obtain ⟨v, b, rfl, _⟩ := h
    rfl
  · obtain ⟨v, b, rfl, hB, q⟩ := h
    refine ⟨_, pss_cons (ps_set (i := 1) scPlaces.nd rfl (.inl rfl) (pe_ix ix_tup (pv 0) pe_int (fun _ _ => rfl)))
      (pss_cons (ps_if (pt_cmpR op_in_seq (pv 1) (pe_glob (v := .ref aJ) rfl mJ rfl) (by rfl)) (pss_one (ps_ret (pe_lst (pa_cons (pe_ix ix_tup (pv 0) pe_int (fun _ _ => rfl)) (pa_cons (pe_ix ix_tup (pv 0) pe_int (fun _ _ => rfl)) pa_nil))))) pss_nil)
      (pss_cons (ps_if (pt_cmpR op_in_seq (pv 1) (pe_tup (pa_cons pe_str (pa_cons pe_str pa_nil))) (by rfl)) (pss_one (ps_ret (pe_lst (pa_cons (pe_ix ix_tup (pv 0) pe_int (fun _ _ => rfl)) pa_nil)))) pss_nil)
      (pss_one (ps_ret (pe_lst pa_nil))))), ?_⟩
    cases b with
    | block x y z a b c =>
      obtain ⟨p, y1, z1, rfl, hT, h1, h2⟩ := of_body3 hB
      refine ⟨_, rfl, p, _, _, _, rfl, rfl, hT, rfl, ?_⟩
      refine ⟨_, rfl, aJ, _, rfl, .inr (hJ _), rfl, rfl, _, rfl, itB0 (by decide +kernel) ?_⟩
      refine ⟨_, rfl, (by show 2 ≤ sizeLine; decide), fun t ht => ⟨t, _, rfl, .inr (SqT.of upd_same), rfl, rfl, _, rfl, itB0 (by decide +kernel) ?_⟩⟩
      have k1 : Kp [] H (upd H t (.tup [.str "moved", .str "turned"])) := Kp.new ht
      generalize upd H t (.tup [.str "moved", .str "turned"]) = H1 at k1 ⊢
      exact ⟨Nat.zero_le _, fun l hl => q _ l _ (k1.trans (Kp.new hl)) (k1.free _ hl) upd_same .nil⟩
    | cells cs =>
      obtain ⟨p, y1, rfl, hT, h1⟩ := of_body2 hB
      refine ⟨_, rfl, p, _, _, _, rfl, rfl, hT, rfl, ?_⟩
      refine ⟨_, rfl, aJ, _, rfl, .inr (hJ _), rfl, rfl, _, rfl, itB0 (by decide +kernel) ?_⟩
      refine ⟨_, rfl, (by show 2 ≤ sizeLine; decide), fun t ht => ⟨t, _, rfl, .inr (SqT.of upd_same), rfl, rfl, _, rfl, itB0 (by decide +kernel) ?_⟩⟩
      have k1 : Kp [] H (upd H t (.tup [.str "moved", .str "turned"])) := Kp.new ht
      generalize upd H t (.tup [.str "moved", .str "turned"]) = H1 at k1 ⊢
      exact ⟨Nat.zero_le _, fun l hl => q _ l _ (k1.trans (Kp.new hl)) (k1.free _ hl) upd_same .nil⟩
    | wth b1 b2 =>
      obtain ⟨p, y1, z1, rfl, hT, h1, h2⟩ := of_body3 hB
      refine ⟨_, rfl, p, _, _, _, rfl, rfl, hT, rfl, ?_⟩
      refine ⟨_, rfl, aJ, _, rfl, .inr (hJ _), rfl, rfl, _, rfl, itB1 (by decide +kernel) ?_⟩
      refine ⟨_, rfl, p, _, _, _, rfl, rfl, hT, rfl, _, rfl, p, _, _, _, rfl, rfl, hT, rfl, (by show 2 ≤ sizeLine; decide), fun l hl => ?_⟩
      have k1 : Kp [] H (upd H l (.lst [y1, z1])) := Kp.new hl
      exact q _ l _ k1 hl upd_same (.cons (body_mono k1 h1) (.cons (body_mono k1 h2) .nil))
    | common b1 b2 =>
      obtain ⟨p, y1, z1, rfl, hT, h1, h2⟩ := of_body3 hB
      refine ⟨_, rfl, p, _, _, _, rfl, rfl, hT, rfl, ?_⟩
      refine ⟨_, rfl, aJ, _, rfl, .inr (hJ _), rfl, rfl, _, rfl, itB1 (by decide +kernel) ?_⟩
      refine ⟨_, rfl, p, _, _, _, rfl, rfl, hT, rfl, _, rfl, p, _, _, _, rfl, rfl, hT, rfl, (by show 2 ≤ sizeLine; decide), fun l hl => ?_⟩
      have k1 : Kp [] H (upd H l (.lst [y1, z1])) := Kp.new hl
      exact q _ l _ k1 hl upd_same (.cons (body_mono k1 h1) (.cons (body_mono k1 h2) .nil))
    | less b1 b2 =>
      obtain ⟨p, y1, z1, rfl, hT, h1, h2⟩ := of_body3 hB
      refine ⟨_, rfl, p, _, _, _, rfl, rfl, hT, rfl, ?_⟩
      refine ⟨_, rfl, aJ, _, rfl, .inr (hJ _), rfl, rfl, _, rfl, itB1 (by decide +kernel) ?_⟩
      refine ⟨_, rfl, p, _, _, _, rfl, rfl, hT, rfl, _, rfl, p, _, _, _, rfl, rfl, hT, rfl, (by show 2 ≤ sizeLine; decide), fun l hl => ?_⟩
      have k1 : Kp [] H (upd H l (.lst [y1, z1])) := Kp.new hl
      exact q _ l _ k1 hl upd_same (.cons (body_mono k1 h1) (.cons (body_mono k1 h2) .nil))
    | moved d b1 =>
      obtain ⟨p, y1, z1, rfl, hT, h1, h2⟩ := of_body3 hB
      refine ⟨_, rfl, p, _, _, _, rfl, rfl, hT, rfl, ?_⟩
      refine ⟨_, rfl, aJ, _, rfl, .inr (hJ _), rfl, rfl, _, rfl, itB0 (by decide +kernel) ?_⟩
      refine ⟨_, rfl, (by show 2 ≤ sizeLine; decide), fun t ht => ⟨t, _, rfl, .inr (SqT.of upd_same), rfl, rfl, _, rfl, itB1 (by decide +kernel) ?_⟩⟩
      have k1 : Kp [] H (upd H t (.tup [.str "moved", .str "turned"])) := Kp.new ht
      generalize upd H t (.tup [.str "moved", .str "turned"]) = H1 at k1 ⊢
      refine ⟨_, rfl, p, _, _, _, rfl, rfl, k1.sqT hT, rfl, (by show 1 ≤ sizeLine; decide), fun l hl => ?_⟩
      have k2 : Kp [] H (upd H1 l (.lst [z1])) := k1.trans (Kp.new hl)
      exact q _ l _ k2 (k1.free _ hl) upd_same (.cons (body_mono k2 h2) .nil)
    | turnX b1 =>
      obtain ⟨p, y1, z1, rfl, hT, h1, h2⟩ := of_body3 hB
      refine ⟨_, rfl, p, _, _, _, rfl, rfl, hT, rfl, ?_⟩
      refine ⟨_, rfl, aJ, _, rfl, .inr (hJ _), rfl, rfl, _, rfl, itB0 (by decide +kernel) ?_⟩
      refine ⟨_, rfl, (by show 2 ≤ sizeLine; decide), fun t ht => ⟨t, _, rfl, .inr (SqT.of upd_same), rfl, rfl, _, rfl, itB1 (by decide +kernel) ?_⟩⟩
      have k1 : Kp [] H (upd H t (.tup [.str "moved", .str "turned"])) := Kp.new ht
      generalize upd H t (.tup [.str "moved", .str "turned"]) = H1 at k1 ⊢
      refine ⟨_, rfl, p, _, _, _, rfl, rfl, k1.sqT hT, rfl, (by show 1 ≤ sizeLine; decide), fun l hl => ?_⟩
      have k2 : Kp [] H (upd H1 l (.lst [z1])) := k1.trans (Kp.new hl)
      exact q _ l _ k2 (k1.free _ hl) upd_same (.cons (body_mono k2 h2) .nil)
    | turnY b1 =>
      obtain ⟨p, y1, z1, rfl, hT, h1, h2⟩ := of_body3 hB
      refine ⟨_, rfl, p, _, _, _, rfl, rfl, hT, rfl, ?_⟩
      refine ⟨_, rfl, aJ, _, rfl, .inr (hJ _), rfl, rfl, _, rfl, itB0 (by decide +kernel) ?_⟩
      refine ⟨_, rfl, (by show 2 ≤ sizeLine; decide), fun t ht => ⟨t, _, rfl, .inr (SqT.of upd_same), rfl, rfl, _, rfl, itB1 (by decide +kernel) ?_⟩⟩
      have k1 : Kp [] H (upd H t (.tup [.str "moved", .str "turned"])) := Kp.new ht
      generalize upd H t (.tup [.str "moved", .str "turned"]) = H1 at k1 ⊢
      refine ⟨_, rfl, p, _, _, _, rfl, rfl, k1.sqT hT, rfl, (by show 1 ≤ sizeLine; decide), fun l hl => ?_⟩
      have k2 : Kp [] H (upd H1 l (.lst [z1])) := k1.trans (Kp.new hl)
      exact q _ l _ k2 (k1.free _ hl) upd_same (.cons (body_mono k2 h2) .nil)
    | turnZ b1 =>
      obtain ⟨p, y1, z1, rfl, hT, h1, h2⟩ := of_body3 hB
      refine ⟨_, rfl, p, _, _, _, rfl, rfl, hT, rfl, ?_⟩
      refine ⟨_, rfl, aJ, _, rfl, .inr (hJ _), rfl, rfl, _, rfl, itB0 (by decide +kernel) ?_⟩
      refine ⟨_, rfl, (by show 2 ≤ sizeLine; decide), fun t ht => ⟨t, _, rfl, .inr (SqT.of upd_same), rfl, rfl, _, rfl, itB1 (by decide +kernel) ?_⟩⟩
      have k1 : Kp [] H (upd H t (.tup [.str "moved", .str "turned"])) := Kp.new ht
      generalize upd H t (.tup [.str "moved", .str "turned"]) = H1 at k1 ⊢
      refine ⟨_, rfl, p, _, _, _, rfl, rfl, k1.sqT hT, rfl, (by show 1 ≤ sizeLine; decide), fun l hl => ?_⟩
      have k2 : Kp [] H (upd H1 l (.lst [z1])) := k1.trans (Kp.new hl)
      exact q _ l _ k2 (k1.free _ hl) upd_same (.cons (body_mono k2 h2) .nil)
def total (bs : List Bd) : Nat := (bs.map nb).sum
theorem total_append (bs cs : List Bd) : total (bs ++ cs) = total bs + total cs := by unfold total; rw [List.map_append, List.sum_append]
theorem total_subs (b : Bd) : total (subs b) + 1 = nb b := by
  cases b <;> simp only [subs, total, nb, List.map, List.sum_cons, List.sum_nil] <;> omega
theorem good_subs {b : Bd} (g : Good b) : ∀ c ∈ subs b, Good c := by
  intro c hc
  cases b <;> simp only [subs, List.mem_cons, List.not_mem_nil, or_false] at hc
  · rcases hc with rfl | rfl
    · exact g.1
    · exact g.2
  · rcases hc with rfl | rfl
    · exact g.1
    · exact g.2
  · rcases hc with rfl | rfl
    · exact g.1
    · exact g.2
  · subst hc; exact g.2.1
  · subst hc; exact g
  · subst hc; exact g
  · subst hc; exact g
theorem len_total (bs : List Bd) : bs.length ≤ total bs := by
  induction bs with
  | nil => exact Nat.zero_le _
  | cons b t ih =>
    have := nb_pos b
    show t.length + 1 ≤ nb b + total t
    omega
end LP
end

section
set_option Elab.async false
set_option linter.all false
set_option maxRecDepth 100000
set_option maxHeartbeats 2000000
/-! is_body -/
namespace LP
open PySem PySem.Spec PyProof.Rows L2 Ly GY
variable [LamTab] {P : Program} {w : World} {K : PySem.W.Frag} {mg : Str → Option Value} {base : Heap}
/-- what was made since may change -/
theorem Kp.off {S : List Addr} {H H1 H2 : Hp} {l : Addr} (k : Kp S H H1) (h : H l = none) (k' : Kp (l :: S) H1 H2) : Kp S H H2 :=
  ⟨fun b o e n t => k'.keep b o (k.keep b o e n t) (fun z => by
      rcases List.mem_cons.mp z with z | z
      · rw [z, h] at e; cases e
      · exact n z) t, fun b xs e => k'.tup b xs (k.tup b xs e), fun b e => k'.tab b (k.tab b e), fun b o u e => k'.frz b o u (k.frz b o u e), fun b e => k.free b (k'.free b e), fun e => k'.lam (k.lam e)⟩
theorem Kp.chg0 {S : List Addr} {H H1 : Hp} {l : Addr} {xs ys : List V} (k : Kp S H H1) (h : H l = none) (e : H1 l = some (.lst xs)) : Kp S H (upd H1 l (.lst ys)) :=
  k.off h (Kp.chg e (List.mem_cons_self))
theorem seqI {t u : TS} {D : Ends} {σ : L2.St} {H : Hp} (h : t { D with nx := u D } σ H) : tSeq t u D σ H := h
theorem asgC {i : Nat} {v : V} {u : TS} {D : Ends} {σ : L2.St} {H : Hp} (h : u D (σ.set i (some v)) H) : tSeq (tAsg (tC v) (gName i)) u D σ H := h
theorem seqW {c : TT} {tb u : TS} {D : Ends} {σ : L2.St} {H : Hp} (h : tWhile c tb { D with nx := u D } σ H) : tSeq (tWhile c tb) u D σ H := h
theorem nameI {i : Nat} {v : V} {Q : L2.St → Hp → Prop} {σ : L2.St} {H : Hp} (h : Q (σ.set i (some v)) H) : gName i v σ H Q := h
def spIsBody (K : PySem.W.Frag) (Pt Pr : Addr) : Sp := fun vs H Q _ => ∃ (v : V) (b : Bd), vs = [v] ∧ Body K H v b ∧ Good b ∧ nb b ≤ 20 ∧ TGen H Pt ∧ TR H Pr ∧ ∀ H', Kp [] H H' → Q (.bl true) H'
theorem scIsBody : FnScope ["body", "waiting", "many", "one"] ["body"] (defScope sIsBody) := ⟨rfl, rfl, rfl, by decide +kernel, rfl, by decide +kernel, by decide +kernel⟩
theorem ok_isbody {f Pt Pr fF fW : Addr} {fd fdF fdW : FuncData} (F : Fun K "is_body" "is_body" sIsBody f fd) (T : Nm K mg)
    (NF : Fn K mg "_is_formed" fF fdF ["body"]) (GF : FnOk P w K mg base CX0 8 fF fdF ["body"] (spForm K Pt Pr))
    (NW : Fn K mg "_places_within" fW fdW ["body"]) (GW : FnOk P w K mg base CX0 1 fW fdW ["body"] (spPlaces K)) :
    FnOk P w K mg base CX0 9 f fd ["body"] (spIsBody K Pt Pr) := by
  obtain ⟨tm, mM⟩ := T.most
  refine F.ok scIsBody (fun vs H Q E h => ?_) (fun cdv A outer s H vs Q E hr h => ?_)
  · obtain ⟨v, b, rfl, _⟩ := h
    rfl
  · obtain ⟨v, b, rfl, hB, hg, hn, hPt, hPr, q⟩ := h
    have hr1 : Room 1 _ := hr.mono (by decide)
    refine ⟨_, pss_cons (ps_set (i := 1) scIsBody.nd rfl (.inl rfl) (pe_lst (pa_cons (pv 0) pa_nil)))
      (pss_cons (ps_set (i := 2) scIsBody.nd rfl (.inl rfl) pe_int)
      (pss_cons (ps_while PassesOwn.never (pt_truth (pv 1) (by intro _; rfl))
        (pss_cons (ps_set (i := 3) scIsBody.nd rfl (.inl rfl) (pe_bm0 PySem.F.plainAttrs_list PySem.F.slot_list_pop PySem.F.type_list_pop mt_pop (pv 1)))
        (pss_cons (ps_aug (i := 2) scIsBody.nd rfl (.inl rfl) pe_int ip_add)
        (pss_cons (ps_if (PW.pt (pw_or (pt_cmpR op_gt (pv 2) (pe_glob (v := .int 20) rfl mM ⟨_, rfl⟩) (nomark _)) (pw_or1 (pt_not (pt_val (pe_call GF hr (by rfl) NF.m NF.kp NF.b .nil pass0 (pa_cons (pv 3) pa_nil))))))) (pss_one (ps_ret pe_bl)) pss_nil)
        (pss_one (ps_expr (pe_bm PySem.F.plainAttrs_list PySem.F.slot_list_extend PySem.F.type_list_extend mt_extend (pv 1) (pa_cons (pe_call GW hr1 (by rfl) NW.m NW.kp NW.b .nil pass0 (pa_cons (pv 3) pa_nil)) pa_nil))))))))
      (pss_one (ps_ret pe_bl)))), ?_⟩
    refine ⟨_, rfl, (by show 1 ≤ sizeLine; decide), fun l hl => ?_⟩
    have hb := nb_pos b
    refine nameI (i := 1) (v := .ref l) (σ := [some v, none, none, none]) ?_
    refine asgC (i := 2) (v := .int 0) (σ := [some v, some (.ref l), none, none]) ?_
    dsimp only
    refine seqW ?_
    refine while_by (σ := [some v, some (.ref l), some (.int 0), none]) (fun σ H' => Kp [] H H' ∧ ∃ (many : Nat) (us : List V) (bs : List Bd) (o : Option V), σ = [some v, some (.ref l), some (.int (many : Int)), o] ∧ H' l = some (.lst us) ∧ Bodies K H' us bs ∧ (∀ c ∈ bs, Good c) ∧ many + total bs = nb b)
      (fun σ H' => match σ with | [_, _, some (.int m), _] => 20 - m.toNat | _ => 0) ⟨Kp.new hl, 0, _, [b], none, rfl, upd_same, .cons (body_mono (Kp.new hl (S := [])) hB) .nil, fun c hc => ?g0, ?t0⟩ (fun σ H' pv => ?st) (fun σ H' Q Q' hq ⟨v, e, k, t, q⟩ => ⟨v, e, k, t, hq _ _ q⟩)
    case g0 =>
      rw [List.mem_singleton.mp hc]
      exact hg
    case t0 =>
      show 0 + (nb b + 0) = nb b
      omega
    case st =>
      obtain ⟨k, many, us, bs, o, rfl, hL, hBs, hG, hT⟩ := pv
      refine ⟨_, rfl, _, .inl ⟨us, SqL.of hL, rfl⟩, ?_⟩
      by_cases hbs : bs = []
      · subst hbs
        have hl0 := hBs.length
        obtain rfl : us = [] := List.eq_nil_of_length_eq_zero hl0
        exact iteF (q H' k)
      · obtain ⟨x, c, hx, hsp, hc, hrest⟩ := Bodies.last hBs hbs
        have hune : (!us.isEmpty) = true := by
          cases us with
          | nil => cases hx
          | cons _ _ => rfl
        rw [hune]
        refine iteT ?_
        have hcm : c ∈ bs := by rw [hsp]; exact List.mem_append_right _ (List.mem_singleton.mpr rfl)
        have hcT : total bs = total bs.dropLast + nb c := by
          conv => lhs; rw [hsp]
          rw [total_append]
          show _ + (nb c + 0) = _
          omega
        have hnc := nb_pos c
        refine ⟨_, rfl, .inl ⟨rfl, _, SqL.of hL⟩, l, us, x, rfl, rfl, hL, hx, ?_⟩
        have k1 : Kp [] H (upd H' l (.lst us.dropLast)) := k.chg0 hl hL
        have kS : Kp [l] H' (upd H' l (.lst us.dropLast)) := Kp.chg hL (List.mem_singleton.mpr rfl)
        have hc1 := body_mono kS hc
        have hr1 := bodies_mono kS hrest
        have hL1 : upd H' l (.lst us.dropLast) l = some (.lst us.dropLast) := upd_same
        generalize upd H' l (.lst us.dropLast) = H1 at k1 hc1 hr1 hL1 ⊢
        refine ⟨_, rfl, _, _, rfl, rfl, ?_⟩
        refine ⟨_, rfl, _, _, rfl, rfl, _, rfl, itD0 (show ¬ ((many : Int) + 1 > 20) by omega) ?_⟩
        refine ⟨_, rfl, x, c, rfl, hc1, hG c hcm, k1.tab _ hPt, k1.tabr hPr, fun H2 k2 => ⟨true, rfl, iteF ?_⟩⟩
        have hL2 := k2.lst hL1 List.not_mem_nil
        refine ⟨_, rfl, .inl ⟨rfl, _, SqL.of hL2⟩, _, rfl, x, c, rfl, body_mono k2 hc1, fun H3 l3 us3 k3 n3 h3 b3 => ?_⟩
        have hL3 := k3.lst hL2 List.not_mem_nil
        have hlen := hr1.length
        have hlen3 := b3.length
        have h1 := len_total bs.dropLast
        have h2 := len_total (subs c)
        have h3' := total_subs c
        refine ⟨l, l3, us.dropLast, us3, rfl, rfl, hL3, h3, ?sz, ⟨((k1.trans k2).trans k3).chg0 hl hL3, many + 1, _, bs.dropLast ++ subs c, _, rfl, upd_same, ?bb, ?gg, ?tt⟩, ?mm⟩
        case sz =>
          have : (64 : Nat) ≤ sizeLine := by decide
          omega
        case bb =>
          have kS3 : Kp [l] H3 (upd H3 l (.lst (us.dropLast ++ us3))) := Kp.chg hL3 (List.mem_singleton.mpr rfl)
          exact Bodies.append (bodies_mono kS3 (bodies_mono k3 (bodies_mono k2 hr1))) (bodies_mono kS3 b3)
        case gg =>
          intro d hd
          rcases List.mem_append.mp hd with z | z
          · exact hG d (List.dropLast_subset _ z)
          · exact good_subs (hG c hcm) d z
        case tt =>
          rw [total_append]
          omega
        case mm =>
          show 20 - ((many : Int) + 1).toNat < 20 - ((many : Int)).toNat
          omega
end LP
end

section
set_option Elab.async false
set_option linter.all false
set_option maxRecDepth 100000
set_option maxHeartbeats 2000000
/-! comprehensions over cells; quarter, shifted -/
namespace LP
open PySem PySem.Spec PyProof.Rows L2 Ly GY
variable [LamTab] {P : Program} {w : World} {K : PySem.W.Frag} {mg : Str → Option Value} {base : Heap}
theorem one_map {f : C3 → C3} {cs : List C3} {i : Nat} {c : C3} (h : cs[i]? = some c) : (cs.take (i + 1)).map f = (cs.take i).map f ++ [f c] := by
  rw [List.take_add_one, h, List.map_append]
  rfl
/-- a list comprehension over a list of cells, without a test: cells are made of cells -/
theorem lc_map {a D : Addr} {xs : List V} {cs : List C3} {H H1 : Hp} {g : TG} {tt : TT} {te : TE} {vs : List Nat} {σ : L2.St} {Qd : Hp → Prop} (f : C3 → C3) (k1 : Kp [] H H1) (hD : H1 D = none) (hT : SqL K H1 a xs) (hI : Items K H1 xs cs) (hz : cs.length ≤ 64)
    (hs : ∀ (c : C3) (p : Addr) (H' : Hp) (Nx : V → Hp → Prop) (Z : Hp → Prop), Kp [] H H' → SqT K H' p [.int c.1, .int c.2.1, .int c.2.2] →
      (∀ (q : Addr) (H'' : Hp), Kp [] H' H'' → SqT K H'' q [.int (f c).1, .int (f c).2.1, .int (f c).2.2] → Nx (.ref q) H'') →
      g (.ref p) (wipe σ vs) H' fun σ2 H2 => wipe σ2 vs = wipe σ vs ∧ tt σ2 H2 fun b H3 => if b = true then te σ2 H3 Nx else Z H3)
    (hd : ∀ (H' : Hp) (ys : List V), Kp [] H H' → H' D = some (.lst ys) → Items K H' ys (cs.map f) → Qd H') :
    ∃ W : Nat → Nat → Hp → Prop, (∃ m, W 0 m (upd H1 D (.lst []))) ∧ ∀ i m H, W i m H →
      ((Itl K a).stop i H ∧ Qd H) ∨ ((Itl K a).go i H ∧ ∃ Nx : Hp → Prop, (∀ H', Nx H' → ∃ m', m' < m ∧ W (i + 1) m' H') ∧ ∀ x H', (Itl K a).yld i H x H' → g x (wipe σ vs) H' fun σ2 H2 => wipe σ2 vs = wipe σ vs ∧ tt σ2 H2 fun b H3 =>
        if b = true then te σ2 H3 fun y H4 => ∃ acc, H4 D = some (.lst acc) ∧ acc.length < sizeLine ∧ Nx (upd H4 D (.lst (acc ++ [y]))) else Nx H3) := by
  have hl := hI.length
  have hDa : ∀ H', Kp [] H1 H' → SqL K H' a xs := fun H' k => k.sqL hT List.not_mem_nil
  refine lc_list (K := K) (a := a) (xs := xs) (fun i H' => Kp [] H1 H' ∧ ∃ acc, H' D = some (.lst acc) ∧ Items K H' acc ((cs.take i).map f)) ⟨Kp.new hD, [], upd_same, .nil⟩ (fun i H' _ k => hDa H' k.1) (fun i x H' hx pv => ?_) (fun H' pv => ?_)
  · obtain ⟨k, acc, hA, hAi⟩ := pv
    obtain ⟨c, hc, hd'⟩ := (items_mono k hI).get hx
    obtain ⟨p, rfl, hp⟩ := of_dp_c hd'
    refine hs c p H' _ _ (k1.trans k) hp fun q H'' k'' hq => ?_
    have hA2 := k''.lst hA List.not_mem_nil
    have hi : i < cs.length := (List.getElem?_eq_some_iff.mp hc).1
    have hAl := hAi.length
    rw [List.length_map, List.length_take] at hAl
    have kc : Kp [D] H'' (upd H'' D (.lst (acc ++ [V.ref q]))) := Kp.chg hA2 (List.mem_singleton.mpr rfl)
    refine ⟨acc, hA2, ?_, (k.trans k'').chg0 hD hA2, _, upd_same, ?_⟩
    · have : (64 : Nat) < sizeLine := by decide
      omega
    · rw [one_map hc]
      exact Items.append (items_mono kc (items_mono k'' hAi)) (Items.one (dp_c (kc.sqT hq)))
  · obtain ⟨k, acc, hA, hAi⟩ := pv
    rw [hl, List.take_length] at hAi
    exact hd H' acc (k1.trans k) hA hAi
theorem yesI {te : TE} {σ : L2.St} {H : Hp} {Nx : V → Hp → Prop} {Z : Hp → Prop} (h : te σ H Nx) : tYes σ H fun b H3 => if b = true then te σ H3 Nx else Z H3 := by
  show (if true = true then te σ H Nx else Z H)
  rw [if_pos rfl]
  exact h
def isTurn (e : Str) (f : C3 → C3) : Prop := (e = "x" ∧ f = tX) ∨ (e = "y" ∧ f = tY) ∨ (e = "z" ∧ f = tZ)
def spQuarter (K : PySem.W.Frag) : Sp := fun vs H Q _ => ∃ (e : Str) (f : C3 → C3) (v : V) (cs : List C3), vs = [.str e, v] ∧ isTurn e f ∧ CellsL K H v cs ∧ cs.length ≤ 64 ∧
  ∀ (H' : Hp) (p : Addr) (ys : List V) (ds : List C3), Kp [] H H' → H p = none → H' p = some (.lst ys) → Items K H' ys ds → ds.Perm (cs.map f) → (ds.Pairwise fun a b => ¬ lt3 b a) → Q (.ref p) H'
theorem scQuarter : FnScope ["edge", "held", "x", "y", "z"] ["edge", "held"] (defScope sQuarter) := ⟨rfl, rfl, rfl, by decide +kernel, rfl, by decide +kernel, by decide +kernel⟩
theorem ok_quarter {f : Addr} {fd : FuncData} (F : Fun K "quarter" "quarter" sQuarter f fd) (T : Nm K mg) : FnOk P w K mg base CX0 1 f fd ["edge", "held"] (spQuarter K) := by
  obtain ⟨tl, mL⟩ := T.last
  refine F.ok scQuarter (fun vs H Q E h => ?_) (fun cdv A outer s H vs Q E hr h => ?_)
  · obtain ⟨e, f, v, cs, rfl, _⟩ := h
    rfl
  · obtain ⟨e, f, v, cs, rfl, ht, hC, h64, q⟩ := h
    refine ⟨_, pss_cons (ps_if (pt_cmpR op_eq (pv 0) pe_str (nomark _)) (pss_one (ps_ret (pe_callB (cr_sortC hr.units) (by rfl) T.sorted (by decide +kernel) (pa_cons
        (pe_lc (own := [("x", 2), ("y", 3), ("z", 4)]) (g := gTup K 3 (gCons (gName 2) (gCons (gName 3) (gCons (gName 4) gNil)))) rfl scQuarter.nd (pi_list (pv 1)) (blkOk_by (own := [("x", 2), ("y", 3), ("z", 4)]) (N := ["edge", "held", "x", "y", "z"]) (sc := defScope sQuarter) (by decide +kernel))
          (fun _ _ _ _ _ => pg_tup rfl (pgs_cons (pg_name (i := 2) scQuarter.nd rfl (.inl rfl)) (pgs_cons (pg_name (i := 3) scQuarter.nd rfl (.inl rfl)) (pgs_cons (pg_name (i := 4) scQuarter.nd rfl (.inl rfl)) pgs_nil)))) (fun _ _ _ _ _ => pts_nil)
          (fun _ _ _ _ _ => pe_tup (pa_cons (pv 2) (pa_cons (pe_op op_sub (pe_glob (v := .int 3) rfl mL ⟨_, rfl⟩) (pv 4)) (pa_cons (pv 3) pa_nil))))) pa_nil)))) pss_nil)
      (pss_cons (ps_if (pt_cmpR op_eq (pv 0) pe_str (nomark _)) (pss_one (ps_ret (pe_callB (cr_sortC hr.units) (by rfl) T.sorted (by decide +kernel) (pa_cons
        (pe_lc (own := [("x", 2), ("y", 3), ("z", 4)]) (g := gTup K 3 (gCons (gName 2) (gCons (gName 3) (gCons (gName 4) gNil)))) rfl scQuarter.nd (pi_list (pv 1)) (blkOk_by (own := [("x", 2), ("y", 3), ("z", 4)]) (N := ["edge", "held", "x", "y", "z"]) (sc := defScope sQuarter) (by decide +kernel))
          (fun _ _ _ _ _ => pg_tup rfl (pgs_cons (pg_name (i := 2) scQuarter.nd rfl (.inl rfl)) (pgs_cons (pg_name (i := 3) scQuarter.nd rfl (.inl rfl)) (pgs_cons (pg_name (i := 4) scQuarter.nd rfl (.inl rfl)) pgs_nil)))) (fun _ _ _ _ _ => pts_nil)
          (fun _ _ _ _ _ => pe_tup (pa_cons (pv 4) (pa_cons (pv 3) (pa_cons (pe_op op_sub (pe_glob (v := .int 3) rfl mL ⟨_, rfl⟩) (pv 2)) pa_nil))))) pa_nil)))) pss_nil)
      (pss_one (ps_ret (pe_callB (cr_sortC hr.units) (by rfl) T.sorted (by decide +kernel) (pa_cons
        (pe_lc (own := [("x", 2), ("y", 3), ("z", 4)]) (g := gTup K 3 (gCons (gName 2) (gCons (gName 3) (gCons (gName 4) gNil)))) rfl scQuarter.nd (pi_list (pv 1)) (blkOk_by (own := [("x", 2), ("y", 3), ("z", 4)]) (N := ["edge", "held", "x", "y", "z"]) (sc := defScope sQuarter) (by decide +kernel))
          (fun _ _ _ _ _ => pg_tup rfl (pgs_cons (pg_name (i := 2) scQuarter.nd rfl (.inl rfl)) (pgs_cons (pg_name (i := 3) scQuarter.nd rfl (.inl rfl)) (pgs_cons (pg_name (i := 4) scQuarter.nd rfl (.inl rfl)) pgs_nil)))) (fun _ _ _ _ _ => pts_nil)
          (fun _ _ _ _ _ => pe_tup (pa_cons (pe_op op_sub (pe_glob (v := .int 3) rfl mL ⟨_, rfl⟩) (pv 3)) (pa_cons (pv 2) (pa_cons (pv 4) pa_nil))))) pa_nil))))), ?_⟩
    obtain ⟨a, xs, rfl, hT, hI⟩ := of_cellsL hC
    have hz : cs.length ≤ sizeLine := Nat.le_trans h64 (by decide)
    have fin : ∀ (D : Addr) (f' : C3 → C3), f' = f → H D = none → ∀ (H' : Hp) (ys : List V), Kp [] H H' → H' D = some (.lst ys) → Items K H' ys (cs.map f') → rSortC K [V.ref D] H' Q := by
      intro D f' ef hD H' ys k hy hi
      subst ef
      refine ⟨.ref D, cs.map f', rfl, cellsL_of hy hi, (by rw [List.length_map]; exact hz), fun zs ds p hp hs hit hn => ?_⟩
      have kn : Kp [] H' (upd H' p (.lst zs)) := Kp.new hn
      exact q _ p zs ds (k.trans kn) (k.free p hn) upd_same (items_mono kn hit) hp hs
    rcases ht with ⟨rfl, rfl⟩ | ⟨rfl, rfl⟩ | ⟨rfl, rfl⟩
    · refine ⟨_, rfl, rfl, _, rfl, itD1 (by decide +kernel) ?_⟩
      refine ⟨_, rfl, a, rfl, ⟨_, hT⟩, fun D hD => lc_map (K := K) tX (Kp.refl _ _) hD hT hI h64 (fun c p H' Nx Z k hp nx => ?_) (fin D tX rfl hD)⟩
      refine ⟨p, _, rfl, hp, rfl, _, _, rfl, _, _, rfl, _, _, rfl, rfl, rfl, ?_⟩
      refine yesI ?_
      refine ⟨_, rfl, _, rfl, _, _, rfl, rfl, _, rfl, (by show 3 ≤ sizeLine; decide), fun t ht => ?_⟩
      exact nx t _ (Kp.new ht) (SqT.of upd_same)
    · refine ⟨_, rfl, rfl, _, rfl, itD0 (by decide +kernel) ?_⟩
      refine ⟨_, rfl, rfl, _, rfl, itD1 (by decide +kernel) ?_⟩
      refine ⟨_, rfl, a, rfl, ⟨_, hT⟩, fun D hD => lc_map (K := K) tY (Kp.refl _ _) hD hT hI h64 (fun c p H' Nx Z k hp nx => ?_) (fin D tY rfl hD)⟩
      refine ⟨p, _, rfl, hp, rfl, _, _, rfl, _, _, rfl, _, _, rfl, rfl, rfl, ?_⟩
      refine yesI ?_
      refine ⟨_, rfl, _, rfl, _, rfl, _, _, rfl, rfl, (by show 3 ≤ sizeLine; decide), fun t ht => ?_⟩
      exact nx t _ (Kp.new ht) (SqT.of upd_same)
    · refine ⟨_, rfl, rfl, _, rfl, itD0 (by decide +kernel) ?_⟩
      refine ⟨_, rfl, rfl, _, rfl, itD0 (by decide +kernel) ?_⟩
      refine ⟨_, rfl, a, rfl, ⟨_, hT⟩, fun D hD => lc_map (K := K) tZ (Kp.refl _ _) hD hT hI h64 (fun c p H' Nx Z k hp nx => ?_) (fin D tZ rfl hD)⟩
      refine ⟨p, _, rfl, hp, rfl, _, _, rfl, _, _, rfl, _, _, rfl, rfl, rfl, ?_⟩
      refine yesI ?_
      refine ⟨_, rfl, _, _, rfl, rfl, _, rfl, _, rfl, (by show 3 ≤ sizeLine; decide), fun t ht => ?_⟩
      exact nx t _ (Kp.new ht) (SqT.of upd_same)
end LP
end

section
set_option Elab.async false
set_option linter.all false
set_option maxRecDepth 100000
set_option maxHeartbeats 2000000
/-! shifted, _block_cells -/
namespace LP
open PySem PySem.Spec PyProof.Rows L2 Ly GY
variable [LamTab] {P : Program} {w : World} {K : PySem.W.Frag} {mg : Str → Option Value} {base : Heap}
def spShifted (K : PySem.W.Frag) : Sp := fun vs H Q _ => ∃ (e : V) (d : C3) (v : V) (cs : List C3), vs = [e, v] ∧ Dp K H e (cD d) ∧ CellsL K H v cs ∧ cs.length ≤ 64 ∧
  ∀ (H' : Hp) (p : Addr) (ys : List V), Kp [] H H' → H p = none → H' p = some (.lst ys) → Items K H' ys (cs.map (add3 d)) → Q (.ref p) H'
theorem scShifted : FnScope ["far", "held", "far_x", "far_y", "far_z", "x", "y", "z"] ["far", "held"] (defScope sShifted) := ⟨rfl, rfl, rfl, by decide +kernel, rfl, by decide +kernel, by decide +kernel⟩
theorem ok_shifted {f : Addr} {fd : FuncData} (F : Fun K "shifted" "shifted" sShifted f fd) : FnOk P w K mg base CX0 1 f fd ["far", "held"] (spShifted K) := by
  refine F.ok scShifted (fun vs H Q E h => ?_) (fun cdv A outer s H vs Q E hr h => ?_)
  · obtain ⟨e, d, v, cs, rfl, _⟩ := h
    rfl
  · obtain ⟨e, d, v, cs, rfl, he, hC, h64, q⟩ := h
    refine ⟨_, pss_cons (ps_asg (pv 0) (pg_tup rfl (pgs_cons (pg_name (i := 2) scShifted.nd rfl (.inr rfl)) (pgs_cons (pg_name (i := 3) scShifted.nd rfl (.inr rfl)) (pgs_cons (pg_name (i := 4) scShifted.nd rfl (.inr rfl)) pgs_nil)))))
      (pss_one (ps_ret (pe_lc (own := [("x", 5), ("y", 6), ("z", 7)]) (g := gTup K 3 (gCons (gName 5) (gCons (gName 6) (gCons (gName 7) gNil)))) rfl scShifted.nd (pi_list (pv 1)) (blkOk_by (own := [("x", 5), ("y", 6), ("z", 7)]) (N := ["far", "held", "far_x", "far_y", "far_z", "x", "y", "z"]) (sc := defScope sShifted) (by decide +kernel))
          (fun _ _ _ _ _ => pg_tup rfl (pgs_cons (pg_name (i := 5) scShifted.nd rfl (.inl rfl)) (pgs_cons (pg_name (i := 6) scShifted.nd rfl (.inl rfl)) (pgs_cons (pg_name (i := 7) scShifted.nd rfl (.inl rfl)) pgs_nil)))) (fun _ _ _ _ _ => pts_nil)
          (fun _ _ _ _ _ => pe_tup (pa_cons (pe_op op_add (pv 5) (pv 2)) (pa_cons (pe_op op_add (pv 6) (pv 3)) (pa_cons (pe_op op_add (pv 7) (pv 4)) pa_nil))))))), ?_⟩
    obtain ⟨pd, rfl, hpd⟩ := of_dp_c he
    obtain ⟨a, xs, rfl, hT, hI⟩ := of_cellsL hC
    refine ⟨_, rfl, pd, _, rfl, hpd, rfl, _, _, rfl, _, _, rfl, _, _, rfl, rfl, ?_⟩
    refine ⟨_, rfl, a, rfl, ⟨_, hT⟩, fun D hD => lc_map (K := K) (add3 d) (Kp.refl _ _) hD hT hI h64 (fun c p H' Nx Z k hp nx => ?_) (fun H' ys k hy hi => q H' D ys k hD hy hi)⟩
    refine ⟨p, _, rfl, hp, rfl, _, _, rfl, _, _, rfl, _, _, rfl, rfl, rfl, ?_⟩
    refine yesI ?_
    refine ⟨_, rfl, _, rfl, _, _, rfl, rfl, _, rfl, _, rfl, _, _, rfl, rfl, _, rfl, _, rfl, _, _, rfl, rfl, (by show 3 ≤ sizeLine; decide), fun t ht => ?_⟩
    exact nx t _ (Kp.new ht) (SqT.of upd_same)

/-! ### _block_cells -/
theorem len_flat {f : Nat → List C3} {m : Nat} (h : ∀ i, (f i).length = m) : ∀ n : Nat, ((List.range n).flatMap f).length = n * m
  | 0 => by simp
  | n + 1 => by
    rw [List.range_succ, List.flatMap_append, List.length_append, len_flat h n, List.flatMap_cons, List.flatMap_nil, List.append_nil, h, Nat.succ_mul]
theorem flat_succ (f : Nat → List C3) (n : Nat) : (List.range (n + 1)).flatMap f = (List.range n).flatMap f ++ f n := by
  rw [List.range_succ, List.flatMap_append, List.flatMap_cons, List.flatMap_nil, List.append_nil]
theorem len_blk1 (x y z : Int) (c : Nat) : (blk1 x y z c).length = c := by unfold blk1; rw [List.length_map, List.length_range]
theorem len_blk2 (x y z : Int) (b c : Nat) : (blk2 x y z b c).length = b * c := len_flat (fun _ => len_blk1 ..) b
theorem blk1_succ (x y z : Int) (c : Nat) : blk1 x y z (c + 1) = blk1 x y z c ++ [(x, y, z + (c : Int))] := by
  unfold blk1
  rw [List.range_succ, List.map_append]
  rfl
theorem size_ok {a b c i j k : Nat} (hi : i < a) (ha : a ≤ 4) (hb : b ≤ 4) (hc : c ≤ 4) (hj : j < b) (hk : k < c) : i * (b * c) + j * c + k < sizeLine := by
  have h1 : b * c ≤ 4 * 4 := Nat.mul_le_mul hb hc
  have h2 : i * (b * c) ≤ 4 * (4 * 4) := Nat.mul_le_mul (by omega) h1
  have h3 : j * c ≤ 4 * 4 := Nat.mul_le_mul (by omega) hc
  have h4 : (100 : Nat) < sizeLine := by decide
  omega
def spBlock (K : PySem.W.Frag) : Sp := fun vs H Q _ => ∃ (e g : V) (x y z : Int) (a b c : Nat), vs = [e, g] ∧ Dp K H e (cD (x, y, z)) ∧ Dp K H g (cD (a, b, c)) ∧ (a ≤ 4 ∧ b ≤ 4 ∧ c ≤ 4) ∧
  ∀ (H' : Hp) (p : Addr) (ys : List V), Kp [] H H' → H p = none → H' p = some (.lst ys) → Items K H' ys (blk3 x y z a b c) → Q (.ref p) H'
theorem scBlock : FnScope ["corner", "size", "x", "y", "z", "along_x", "along_y", "along_z", "i", "j", "k"] ["corner", "size"] (defScope sBlock) := ⟨rfl, rfl, rfl, by decide +kernel, rfl, by decide +kernel, by decide +kernel⟩
theorem ok_block {f : Addr} {fd : FuncData} (F : Fun K "_block_cells" "_block_cells" sBlock f fd) (T : Nm K mg) : FnOk P w K mg base CX0 1 f fd ["corner", "size"] (spBlock K) := by
  refine F.ok scBlock (fun vs H Q E h => ?_) (fun cdv A outer s H vs Q E hr h => ?_)
  · obtain ⟨e, g, x, y, z, a, b, c, rfl, _⟩ := h
    rfl
  · obtain ⟨e, g, x, y, z, a, b, c, rfl, he, hg, hsz, q⟩ := h
    refine ⟨_, pss_cons (ps_asg (pv 0) (pg_tup rfl (pgs_cons (pg_name (i := 2) scBlock.nd rfl (.inr rfl)) (pgs_cons (pg_name (i := 3) scBlock.nd rfl (.inr rfl)) (pgs_cons (pg_name (i := 4) scBlock.nd rfl (.inr rfl)) pgs_nil)))))
      (pss_cons (ps_asg (pv 1) (pg_tup rfl (pgs_cons (pg_name (i := 5) scBlock.nd rfl (.inl rfl)) (pgs_cons (pg_name (i := 6) scBlock.nd rfl (.inr rfl)) (pgs_cons (pg_name (i := 7) scBlock.nd rfl (.inr rfl)) pgs_nil)))))
      (pss_one (ps_ret (GV.pe_lc3 (own := [("i", 8), ("j", 9), ("k", 10)]) (a := 8) (b := 9) (c := 10) rfl scBlock.nd (blkOk_by (own := [("i", 8), ("j", 9), ("k", 10)]) (N := ["corner", "size", "x", "y", "z", "along_x", "along_y", "along_z", "i", "j", "k"]) (sc := defScope sBlock) (by decide +kernel)) rfl rfl rfl (by decide) (by decide)
          (pi_range1 (by rfl) T.range (pa_cons (pv 5) pa_nil)) (fun _ _ _ _ _ => pi_range1 (by rfl) T.range (pa_cons (pv 6) pa_nil)) (fun _ _ _ _ _ => pi_range1 (by rfl) T.range (pa_cons (pv 7) pa_nil))
          (fun _ _ _ _ _ => ⟨pg_name (i := 8) scBlock.nd rfl (.inl rfl), pg_name (i := 9) scBlock.nd rfl (.inl rfl), pg_name (i := 10) scBlock.nd rfl (.inl rfl)⟩)
          (fun _ _ _ _ _ => pe_tup (pa_cons (pe_op op_add (pv 2) (pv 8)) (pa_cons (pe_op op_add (pv 3) (pv 9)) (pa_cons (pe_op op_add (pv 4) (pv 10)) pa_nil)))))))), ?_⟩
    obtain ⟨p1, rfl, h1⟩ := of_dp_c he
    obtain ⟨p2, rfl, h2⟩ := of_dp_c hg
    have h1 : SqT K H p1 [.int x, .int y, .int z] := h1
    have h2 : SqT K H p2 [.int (a : Int), .int (b : Int), .int (c : Int)] := h2
    refine ⟨_, rfl, p1, _, rfl, h1, rfl, _, _, rfl, _, _, rfl, _, _, rfl, rfl, ?_⟩
    refine ⟨_, rfl, p2, _, rfl, h2, rfl, _, _, rfl, _, _, rfl, _, _, rfl, rfl, ?_⟩
    obtain ⟨ha, hb, hc⟩ := hsz
    refine ⟨_, rfl, _, rfl, (by omega), (by omega), fun D hD => ?_⟩
    refine ⟨a, fun i H' => i ≤ a ∧ Kp [] H H' ∧ ∃ acc, H' D = some (.lst acc) ∧ Items K H' acc ((List.range i).flatMap fun i : Nat => blk2 (x + (i : Int)) y z b c), ⟨Nat.zero_le _, Kp.new hD, [], upd_same, .nil⟩, fun i H0 w => ?_⟩
    obtain ⟨hi, k0, acc0, hA0, hI0⟩ := w
    by_cases hlt : i < a
    · refine .inr ⟨hlt, hlt, fun u H1 yy => ?_⟩
      obtain ⟨e1, yy⟩ := yy
      subst e1 yy
      refine ⟨_, rfl, _, rfl, (by omega), (by omega), b, fun j H' => j ≤ b ∧ Kp [] H H' ∧ ∃ acc, H' D = some (.lst acc) ∧ Items K H' acc (((List.range i).flatMap fun i : Nat => blk2 (x + (i : Int)) y z b c) ++ ((List.range j).flatMap fun j : Nat => blk1 (x + (i : Int)) (y + (j : Int)) z c)), ⟨Nat.zero_le _, k0, acc0, hA0, by simpa using hI0⟩, fun j H2 w => ?_⟩
      obtain ⟨hj, k2, acc2, hA2, hI2⟩ := w
      by_cases hlt2 : j < b
      · refine .inr ⟨hlt2, hlt2, fun u H3 yy => ?_⟩
        obtain ⟨e1, yy⟩ := yy
        subst e1 yy
        refine ⟨_, rfl, _, rfl, (by omega), (by omega), c, fun k H' => k ≤ c ∧ Kp [] H H' ∧ ∃ acc, H' D = some (.lst acc) ∧ Items K H' acc ((((List.range i).flatMap fun i : Nat => blk2 (x + (i : Int)) y z b c) ++ ((List.range j).flatMap fun j : Nat => blk1 (x + (i : Int)) (y + (j : Int)) z c)) ++ blk1 (x + (i : Int)) (y + (j : Int)) z k), ⟨Nat.zero_le _, k2, acc2, hA2, by simpa [blk1] using hI2⟩, fun k H4 w => ?_⟩
        obtain ⟨hk, k4, acc4, hA4, hI4⟩ := w
        by_cases hlt3 : k < c
        · refine .inr ⟨hlt3, hlt3, fun u H5 yy => ?_⟩
          obtain ⟨e1, yy⟩ := yy
          subst e1 yy
          refine ⟨_, rfl, _, rfl, _, _, rfl, rfl, _, rfl, _, rfl, _, _, rfl, rfl, _, rfl, _, rfl, _, _, rfl, rfl, (by show 3 ≤ sizeLine; decide), fun t ht => ?_⟩
          have kt : Kp [] H5 (upd H5 t (.tup [.int (x + (0 + (i : Int))), .int (y + (0 + (j : Int))), .int (z + (0 + (k : Int)))])) := Kp.new ht
          have hA5 := kt.lst hA4 List.not_mem_nil
          have hl4 := hI4.length
          rw [List.length_append, List.length_append, len_flat (fun _ => len_blk2 ..), len_flat (fun _ => len_blk1 ..), len_blk1] at hl4
          have hq : SqT K (upd H5 t (.tup [.int (x + (0 + (i : Int))), .int (y + (0 + (j : Int))), .int (z + (0 + (k : Int)))])) t [.int (x + (i : Int)), .int (y + (j : Int)), .int (z + (k : Int))] := by
            refine SqT.of ?_
            rw [upd_same, Int.zero_add, Int.zero_add, Int.zero_add]
          have hit := items_mono kt hI4
          refine ⟨acc4, hA5, (by rw [hl4]; exact size_ok hlt ha hb hc hlt2 hlt3), hlt3, (k4.trans kt).chg0 hD hA5, _, upd_same, ?_⟩
          have kc := Kp.chg (S := [D]) (ys := acc4 ++ [V.ref t]) hA5 (List.mem_singleton.mpr rfl)
          rw [blk1_succ, ← List.append_assoc]
          exact Items.append (items_mono kc hit) (Items.one (dp_c (c := (x + (i : Int), y + (j : Int), z + (k : Int))) (kc.sqT hq)))
        · have e : k = c := by omega
          subst e
          refine .inl ⟨rfl, Nat.le_refl _, hlt2, k4, acc4, hA4, ?_⟩
          rw [flat_succ, ← List.append_assoc]
          exact hI4
      · have e : j = b := by omega
        subst e
        refine .inl ⟨rfl, Nat.le_refl _, hlt, k2, acc2, hA2, ?_⟩
        rw [flat_succ]
        exact hI2
    · have e : i = a := by omega
      subst e
      exact .inl ⟨rfl, Nat.le_refl _, q H0 D acc0 k0 hD hA0 hI0⟩
end LP
end

section
set_option Elab.async false
set_option linter.all false
set_option maxRecDepth 100000
set_option maxHeartbeats 2000000
/-! _joined -/
namespace LP
open PySem PySem.Spec PyProof.Rows L2 Ly GY
variable [LamTab] {P : Program} {W0 : World} {K : PySem.W.Frag} {mg : Str → Option Value} {base : Heap}
theorem u65 {k : Nat} {A : Around} (r : Room k A) : A.units + 65 < cLine := by have := r.un; omega
theorem one_filter {keep : C3 → Bool} {cs : List C3} {i : Nat} {c : C3} (h : cs[i]? = some c) : (cs.take (i + 1)).filter keep = (cs.take i).filter keep ++ (if keep c = true then [c] else []) := by
  rw [List.take_add_one, h, List.filter_append]
  congr 1
  show List.filter keep [c] = _
  rw [List.filter_cons]
  simp
/-- a list comprehension over a list of cells with a test, each cell that passes kept as it is -/
theorem lc_filter {a D : Addr} {xs : List V} {cs : List C3} {H H1 : Hp} {g : TG} {tt : TT} {te : TE} {vs : List Nat} {σ : L2.St} {Qd : Hp → Prop} (keep : C3 → Bool) (k1 : Kp [] H H1) (hD : H1 D = none) (hT : SqL K H1 a xs) (hI : Items K H1 xs cs) (hz : cs.length ≤ 64)
    (hs : ∀ (c : C3) (p : Addr) (H' : Hp) (Nx : V → Hp → Prop) (Z : Hp → Prop), c ∈ cs → Kp [] H H' → SqT K H' p [.int c.1, .int c.2.1, .int c.2.2] →
      (∀ H'', Kp [] H' H'' → keep c = true → Nx (.ref p) H'') → (∀ H'', Kp [] H' H'' → keep c = false → Z H'') →
      g (.ref p) (wipe σ vs) H' fun σ2 H2 => wipe σ2 vs = wipe σ vs ∧ tt σ2 H2 fun b H3 => if b = true then te σ2 H3 Nx else Z H3)
    (hd : ∀ (H' : Hp) (ys : List V), Kp [] H H' → H' D = some (.lst ys) → Items K H' ys (cs.filter keep) → Qd H') :
    ∃ W : Nat → Nat → Hp → Prop, (∃ m, W 0 m (upd H1 D (.lst []))) ∧ ∀ i m H, W i m H →
      ((Itl K a).stop i H ∧ Qd H) ∨ ((Itl K a).go i H ∧ ∃ Nx : Hp → Prop, (∀ H', Nx H' → ∃ m', m' < m ∧ W (i + 1) m' H') ∧ ∀ x H', (Itl K a).yld i H x H' → g x (wipe σ vs) H' fun σ2 H2 => wipe σ2 vs = wipe σ vs ∧ tt σ2 H2 fun b H3 =>
        if b = true then te σ2 H3 fun y H4 => ∃ acc, H4 D = some (.lst acc) ∧ acc.length < sizeLine ∧ Nx (upd H4 D (.lst (acc ++ [y]))) else Nx H3) := by
  have hl := hI.length
  have hDa : ∀ H', Kp [] H1 H' → SqL K H' a xs := fun H' k => k.sqL hT List.not_mem_nil
  refine lc_list (K := K) (a := a) (xs := xs) (fun i H' => Kp [] H1 H' ∧ ∃ acc, H' D = some (.lst acc) ∧ Items K H' acc ((cs.take i).filter keep)) ⟨Kp.new hD, [], upd_same, .nil⟩ (fun i H' _ k => hDa H' k.1) (fun i x H' hx pv => ?_) (fun H' pv => ?_)
  · obtain ⟨k, acc, hA, hAi⟩ := pv
    obtain ⟨c, hc, hd'⟩ := (items_mono k hI).get hx
    obtain ⟨p, rfl, hp⟩ := of_dp_c hd'
    refine hs c p H' _ _ (List.mem_of_getElem? hc) (k1.trans k) hp (fun H'' k'' hk => ?_) (fun H'' k'' hk => ?_)
    · have hA2 := k''.lst hA List.not_mem_nil
      have hi : i < cs.length := (List.getElem?_eq_some_iff.mp hc).1
      have hAl := hAi.length
      have hfl := List.length_filter_le keep (cs.take i)
      rw [List.length_take] at hfl
      have kc : Kp [D] H'' (upd H'' D (.lst (acc ++ [V.ref p]))) := Kp.chg hA2 (List.mem_singleton.mpr rfl)
      refine ⟨acc, hA2, ?_, (k.trans k'').chg0 hD hA2, _, upd_same, ?_⟩
      · have : (64 : Nat) < sizeLine := by decide
        omega
      · rw [one_filter hc, if_pos hk]
        exact Items.append (items_mono kc (items_mono k'' hAi)) (Items.one (dp_c (kc.sqT (k''.sqT hp))))
    · refine ⟨k.trans k'', acc, k''.lst hA List.not_mem_nil, ?_⟩
      rw [one_filter hc, hk, if_neg (by decide), List.append_nil]
      exact items_mono k'' hAi
  · obtain ⟨k, acc, hA, hAi⟩ := pv
    rw [hl, List.take_length] at hAi
    exact hd H' acc (k1.trans k) hA hAi
def JoinIs (w : Str) (p q ds : List C3) : Prop :=
  (w = "with" ∧ (ds.Pairwise fun a b => ¬ lt3 b a) ∧ ds.Nodup ∧ ∀ c, c ∈ ds ↔ c ∈ p ++ q) ∨
  (w = "common" ∧ ds = p.filter fun c => decide (c ∈ q)) ∨ (w = "less" ∧ ds = p.filter fun c => !decide (c ∈ q))
def spJoined (K : PySem.W.Frag) : Sp := fun vs H Q _ => ∃ (w : Str) (a b : Addr) (xs ys : List V) (p q : List C3), vs = [.str w, .ref a, .ref b] ∧ (w = "with" ∨ w = "common" ∨ w = "less") ∧ H a = some (.lst xs) ∧ H b = some (.lst ys) ∧ Items K H xs p ∧ Items K H ys q ∧
  p.length ≤ 64 ∧ q.length ≤ 64 ∧ (∀ c ∈ p, InR c) ∧ (∀ c ∈ q, InR c) ∧ ∀ (H' : Hp) (r : Addr) (zs : List V) (ds : List C3), Kp [] H H' → H r = none → H' r = some (.lst zs) → Items K H' zs ds → JoinIs w p q ds → Q (.ref r) H'
theorem scJoined : FnScope ["word", "first", "second", "cell"] ["word", "first", "second"] (defScope sJoined) := ⟨rfl, rfl, rfl, by decide +kernel, rfl, by decide +kernel, by decide +kernel⟩
theorem ok_joined {f : Addr} {fd : FuncData} (F : Fun K "_joined" "_joined" sJoined f fd) (T : Nm K mg) : FnOk P W0 K mg base CX0 1 f fd ["word", "first", "second"] (spJoined K) := by
  refine F.ok scJoined (fun vs H Q E h => ?_) (fun cdv A outer s H vs Q E hr h => ?_)
  · obtain ⟨w, a, b, xs, ys, p, q, rfl, _⟩ := h
    rfl
  · obtain ⟨w, a, b, xs, ys, p, q, rfl, hw, hA, hB, hIp, hIq, lp, lq, rp, rq, k⟩ := h
    refine ⟨_, pss_cons (ps_if (pt_cmpR op_eq (pv 0) pe_str (nomark _)) (pss_one (ps_ret (pe_callB (GZ.cr_sortedQ rfl hr.units) (by rfl) T.sorted (by decide +kernel) (pa_cons
        (pe_callTy (GZ.cr_setC rfl hr.units) (by rfl) T.set (by decide +kernel) (pa_cons (pe_op op_cat (pv 1) (pv 2)) pa_nil)) pa_nil)))) pss_nil)
      (pss_cons (ps_if (pt_cmpR op_eq (pv 0) pe_str (nomark _)) (pss_one (ps_ret (pe_lc (own := [("cell", 3)]) (g := gName 3) rfl scJoined.nd (pi_list (pv 1)) (blkOk_by (own := [("cell", 3)]) (N := ["word", "first", "second", "cell"]) (sc := defScope sJoined) (by decide +kernel))
          (fun _ _ _ _ _ => pg_name (i := 3) scJoined.nd rfl (.inl rfl)) (fun _ _ _ _ _ => pts_one (pt_cmpR (r := rInD K) (op_inD (u65 hr)) (pv 3) (pv 2) (by rfl))) (fun _ _ _ _ _ => pv 3)))) pss_nil)
      (pss_one (ps_ret (pe_lc (own := [("cell", 3)]) (g := gName 3) rfl scJoined.nd (pi_list (pv 1)) (blkOk_by (own := [("cell", 3)]) (N := ["word", "first", "second", "cell"]) (sc := defScope sJoined) (by decide +kernel))
          (fun _ _ _ _ _ => pg_name (i := 3) scJoined.nd rfl (.inl rfl)) (fun _ _ _ _ _ => pts_one (pt_cmpR (r := rNotInD K) (op_notInD (u65 hr)) (pv 3) (pv 2) (by rfl))) (fun _ _ _ _ _ => pv 3))))), ?_⟩
    rcases hw with rfl | rfl | rfl
    · refine ⟨_, rfl, rfl, _, rfl, itD1 (by decide +kernel) ?_⟩
      have hl1 := hIp.length
      have hl2 := hIq.length
      have hsz : xs.length + ys.length ≤ sizeLine := by
        have : (128 : Nat) ≤ sizeLine := by decide
        omega
      refine ⟨_, rfl, _, rfl, a, b, xs, ys, rfl, rfl, hA, hB, hsz, fun t ht => ?_⟩
      have kt : Kp [] H (upd H t (.lst (xs ++ ys))) := Kp.new ht
      refine ⟨.ref t, p ++ q, rfl, .inl (cellsL_of upd_same (Items.append (items_mono kt hIp) (items_mono kt hIq))), fun c hc => ?_, fun e L he h1 h2 => ?_⟩
      · rcases List.mem_append.mp hc with z | z
        · exact rp c z
        · exact rq c z
      · have ke : Kp [] (upd H t (.lst (xs ++ ys))) (upd (upd H t (.lst (xs ++ ys))) e (GZ.SQO P W0 e L)) := Kp.new he
        refine ⟨e, L, rfl, upd_same, fun z hz => ke.sqT (h1 z hz).2, fun zs ds r hp hn hs hlen hit hr' => ?_⟩
        have kr := Kp.new (S := []) (o := .lst zs) hr'
        refine k _ r zs ds ((kt.trans ke).trans kr) ((kt.trans ke).free r hr') upd_same (items_mono kr hit) (.inl ⟨rfl, hs, hn, fun c => ?_⟩)
        rw [hp.mem_iff]
        refine ⟨fun hc => ?_, fun hc => h2 c hc⟩
        obtain ⟨z, hz, rfl⟩ := List.mem_map.mp hc
        exact (h1 z hz).1
    · refine ⟨_, rfl, rfl, _, rfl, itD0 (by decide +kernel) ?_⟩
      refine ⟨_, rfl, rfl, _, rfl, itD1 (by decide +kernel) ?_⟩
      refine ⟨_, rfl, a, rfl, ⟨_, SqL.of hA⟩, fun D hD => lc_filter (K := K) (fun c => decide (c ∈ q)) (Kp.refl _ _) hD (SqL.of hA) hIp lp (fun c z H' Nx Z hc kk hz n1 n2 => ?_) (fun H' zs kk hy hi => k H' D zs _ kk hD hy hi (.inr (.inl ⟨rfl, rfl⟩)))⟩
      refine ⟨rfl, _, rfl, _, rfl, cD c, q.map cD, dp_c hz, cellsL_of (kk.lst hB List.not_mem_nil) (items_mono kk hIq), cD_shaped c, cDs_shapedL q, _, rfl, ?_⟩
      rw [any_eqv]
      cases e : decide (c ∈ q) with
      | true => exact iteT ⟨_, rfl, n1 H' (Kp.refl _ _) e⟩
      | false => exact iteF (n2 H' (Kp.refl _ _) e)
    · refine ⟨_, rfl, rfl, _, rfl, itD0 (by decide +kernel) ?_⟩
      refine ⟨_, rfl, rfl, _, rfl, itD0 (by decide +kernel) ?_⟩
      refine ⟨_, rfl, a, rfl, ⟨_, SqL.of hA⟩, fun D hD => lc_filter (K := K) (fun c => !decide (c ∈ q)) (Kp.refl _ _) hD (SqL.of hA) hIp lp (fun c z H' Nx Z hc kk hz n1 n2 => ?_) (fun H' zs kk hy hi => k H' D zs _ kk hD hy hi (.inr (.inr ⟨rfl, rfl⟩)))⟩
      refine ⟨rfl, _, rfl, _, rfl, cD c, q.map cD, dp_c hz, cellsL_of (kk.lst hB List.not_mem_nil) (items_mono kk hIq), cD_shaped c, cDs_shapedL q, _, rfl, ?_⟩
      rw [any_eqv]
      cases e : decide (c ∈ q) with
      | true => exact iteF (n2 H' (Kp.refl _ _) (by rw [e]; rfl))
      | false => exact iteT ⟨_, rfl, n1 H' (Kp.refl _ _) (by rw [e]; rfl)⟩
end LP
end

section
set_option Elab.async false
set_option linter.all false
set_option maxRecDepth 100000
set_option maxHeartbeats 2000000
/-! _held -/
namespace LP
open PySem PySem.Spec PyProof.Rows L2 Ly GY
variable [LamTab] {P : Program} {W0 : World} {K : PySem.W.Frag} {mg : Str → Option Value} {base : Heap}
def spHeld (K : PySem.W.Frag) (Pt Ph : Addr) (n : Nat) : Sp := fun vs H Q _ => ∃ (v : V) (b : Bd), vs = [v] ∧ Body K H v b ∧ Good b ∧ dp b ≤ n ∧ TGen H Pt ∧ TGen H Ph ∧
  ∀ (H' : Hp) (r : Addr) (zs : List V), Kp [] H H' → H r = none → H' r = some (.lst zs) → Items K H' zs (all b) → Q (.ref r) H'
theorem scHeld : FnScope ["body", "word", "held"] ["body"] (defScope sHeld) := ⟨rfl, rfl, rfl, by decide +kernel, rfl, by decide +kernel, by decide +kernel⟩
theorem gHeld : GX.GOk ["body", "word", "held"] (defScope sHeld) (genOf (stOf sHeld 2)) "cell" := ⟨rfl, rfl, by decide +kernel, rfl, rfl, by decide +kernel, by decide +kernel, by decide +kernel, by decide⟩
theorem in_all {b : Bd} {c : C3} (h : c ∈ all b) : InR c := (mem_all.mp h).1
structure HeldFns (P : Program) (W0 : World) (K : PySem.W.Frag) (mg : Str → Option Value) (base : Heap) (Pt : Addr) (fT fB fS fQ fJ : Addr) (dT dB dS dQ dJ : FuncData) : Prop where
  nT : Fn K mg "_is_triple" fT dT ["value", "low", "high"]
  gT : FnOk P W0 K mg base CX0 4 fT dT ["value", "low", "high"] (spTri K Pt)
  nB : Fn K mg "_block_cells" fB dB ["corner", "size"]
  gB : FnOk P W0 K mg base CX0 1 fB dB ["corner", "size"] (spBlock K)
  nS : Fn K mg "shifted" fS dS ["far", "held"]
  gS : FnOk P W0 K mg base CX0 1 fS dS ["far", "held"] (spShifted K)
  nQ : Fn K mg "quarter" fQ dQ ["edge", "held"]
  gQ : FnOk P W0 K mg base CX0 1 fQ dQ ["edge", "held"] (spQuarter K)
  nJ : Fn K mg "_joined" fJ dJ ["word", "first", "second"]
  gJ : FnOk P W0 K mg base CX0 1 fJ dJ ["word", "first", "second"] (spJoined K)
theorem held_step {n : Nat} {f c Pt Ph fT fB fS fQ fJ : Addr} {fd dT dB dS dQ dJ : FuncData} (F : FunC K "_held" "_held" sHeld f fd c) (TB : GxR.TabB base mg c Ph) (T : Nm K mg) (Z : HeldFns P W0 K mg base Pt fT fB fS fQ fJ dT dB dS dQ dJ)
    (N : Fn K mg "_held" f fd ["body"]) (G : FnOk P W0 K mg base CX0 (6 + n) f fd ["body"] (spHeld K Pt Ph n)) : FnOk P W0 K mg base CX0 (6 + n + 1) f fd ["body"] (spHeld K Pt Ph (n + 1)) := by
  obtain ⟨tl, mL⟩ := T.last
  refine F.ok scHeld (fun vs H Q E h => ?_) (fun A outer s H vs Q E hr h => ?_)
  · obtain ⟨v, b, rfl, _⟩ := h
    rfl
  · obtain ⟨v, b, rfl, hB, hg, hn, hPt, hPh, q⟩ := h
    have hr1 : Room 1 _ := hr.mono (by omega)
    have hr6 : Room 6 _ := hr.mono (by omega)
    refine ⟨_, pss_cons (ps_set (i := 1) scHeld.nd rfl (.inl rfl) (pe_ix ix_tup (pv 0) pe_int (fun _ _ => rfl)))
      (pss_cons (ps_if (pt_cmpR op_eq (pv 1) pe_str (nomark _)) (pss_one (ps_set (i := 2) scHeld.nd rfl (.inl rfl) (pe_call Z.gB hr1 (by rfl) Z.nB.m Z.nB.kp Z.nB.b .nil pass0 (pa_cons (pe_ix ix_tup (pv 0) pe_int (fun _ _ => rfl)) (pa_cons (pe_ix ix_tup (pv 0) pe_int (fun _ _ => rfl)) pa_nil)))))
        (pss_one (ps_if (pt_cmpR op_eq (pv 1) pe_str (nomark _)) (pss_one (ps_set (i := 2) scHeld.nd rfl (.inl rfl) (pe_callTy call_list_of (by rfl) T.list (by decide +kernel) (pa_cons (pe_ix ix_tup (pv 0) pe_int (fun _ _ => rfl)) pa_nil))))
        (pss_one (ps_if (pt_cmpR op_eq (pv 1) pe_str (nomark _)) (pss_one (ps_set (i := 2) scHeld.nd rfl (.inl rfl) (pe_call Z.gS hr1 (by rfl) Z.nS.m Z.nS.kp Z.nS.b .nil pass0 (pa_cons (pe_ix ix_tup (pv 0) pe_int (fun _ _ => rfl)) (pa_cons (pe_call G hr (by rfl) N.m N.kp N.b .nil pass0 (pa_cons (pe_ix ix_tup (pv 0) pe_int (fun _ _ => rfl)) pa_nil)) pa_nil)))))
        (pss_one (ps_if (pt_cmpR op_eq (pv 1) pe_str (nomark _)) (pss_one (ps_set (i := 2) scHeld.nd rfl (.inl rfl) (pe_call Z.gQ hr1 (by rfl) Z.nQ.m Z.nQ.kp Z.nQ.b .nil pass0 (pa_cons (pe_ix ix_tup (pv 0) pe_int (fun _ _ => rfl)) (pa_cons (pe_call G hr (by rfl) N.m N.kp N.b .nil pass0 (pa_cons (pe_ix ix_tup (pv 0) pe_int (fun _ _ => rfl)) pa_nil)) pa_nil)))))
        (pss_one (ps_set (i := 2) scHeld.nd rfl (.inl rfl) (pe_call Z.gJ hr1 (by rfl) Z.nJ.m Z.nJ.kp Z.nJ.b .nil pass0 (pa_cons (pv 1) (pa_cons (pe_call G hr (by rfl) N.m N.kp N.b .nil pass0 (pa_cons (pe_ix ix_tup (pv 0) pe_int (fun _ _ => rfl)) pa_nil)) (pa_cons (pe_call G hr (by rfl) N.m N.kp N.b .nil pass0 (pa_cons (pe_ix ix_tup (pv 0) pe_int (fun _ _ => rfl)) pa_nil)) pa_nil)))))))))))))
      (pss_cons (ps_if (pt_not (pt_val (pe_fr fun hf => GX.pe_allG (k := 4) hr6 (by rfl) T.all TB rfl scHeld.nd hf gHeld (show ("cell" : Str) ∉ (["body", "word", "held"] : List Str) by decide) (pi_list (pv 2))
          (fun A s H C code fp hr1 => pe_call Z.gT hr1 (by rfl) Z.nT.m Z.nT.kp Z.nT.b .nil pass0 (pa_cons (pv 3) (pa_cons pe_int (pa_cons (pe_glob (v := .int 3) rfl mL ⟨_, rfl⟩) pa_nil))))))) (pss_one ps_never) pss_nil)
      (pss_one (ps_ret (pv 2))))), ?_⟩
    cases b with
    | block x y z a b c =>
      obtain ⟨p, y1, z1, rfl, hT, h1, h2⟩ := of_body3 hB
      refine ⟨_, rfl, p, _, _, _, rfl, rfl, hT, rfl, ?_⟩
      refine ⟨_, rfl, rfl, _, rfl, itD1 (by decide +kernel) ?_⟩
      have hg' := hg
      obtain ⟨g0, ga, gb, gc⟩ := hg
      obtain ⟨g1, g2, g3⟩ := g0
      simp only at g1 g2 g3
      obtain ⟨a', rfl⟩ := Int.eq_ofNat_of_zero_le (show 0 ≤ a by omega)
      obtain ⟨b', rfl⟩ := Int.eq_ofNat_of_zero_le (show 0 ≤ b by omega)
      obtain ⟨c', rfl⟩ := Int.eq_ofNat_of_zero_le (show 0 ≤ c by omega)
      refine ⟨_, rfl, p, _, _, _, rfl, rfl, hT, rfl, _, rfl, p, _, _, _, rfl, rfl, hT, rfl, y1, z1, x, y, z, a', b', c', rfl, h1, h2, ⟨by omega, by omega, by omega⟩, fun H1 r ys k hr' hp hI => ?_⟩
      rw [all_block hg'] at hI
      refine ⟨_, rfl, r, rfl, ⟨_, SqL.of hp⟩, (k.tab _ hPh).1, fun H2 tb => ?_⟩
      refine ⟨_, _, ⟨Nat.zero_le _, ?p0⟩, GX.turn_lst (xs := ys) (fun i H' => Kp [] H1 H') rfl (fun i H' _ k => k.sqL (SqL.of hp) List.not_mem_nil) (fun i x H' hx k' => ?ps) (fun H' k' => ?pd)⟩
      case p0 => exact Kp.tabbed (k.tab _ hPh) tb
      case ps =>
        obtain ⟨c, hc, hd⟩ := hI.get hx
        obtain ⟨p', rfl, hs⟩ := of_dp_c hd
        refine ⟨_, rfl, p', c, 0, 3, rfl, k'.sqT hs, k'.tab _ (k.tab _ hPt), fun H3 k3 => ⟨_, rfl, ?_⟩⟩
        rw [tri_room.mpr (in_all (List.mem_of_getElem? hc))]
        exact iteT ⟨(List.getElem?_eq_some_iff.mp hx).1, k'.trans k3⟩
      case pd =>
        refine ⟨_, rfl, iteF ?_⟩
        exact ⟨_, rfl, q H' r ys (k.trans k') hr' (k'.lst hp List.not_mem_nil) (items_mono k' hI)⟩
    | cells cs =>
      obtain ⟨p, y1, rfl, hT, h1⟩ := of_body2 hB
      refine ⟨_, rfl, p, _, _, _, rfl, rfl, hT, rfl, ?_⟩
      refine ⟨_, rfl, rfl, _, rfl, itD0 (by decide +kernel) ?_⟩
      refine ⟨_, rfl, rfl, _, rfl, itD1 (by decide +kernel) ?_⟩
      obtain ⟨pc, ys, rfl, hTc, hI0⟩ := of_cellsT h1
      refine ⟨_, rfl, p, _, _, _, rfl, rfl, hT, rfl, pc, ys, rfl, .inr hTc, fun r hr' => ?_⟩
      have k : Kp [] H (upd H r (.lst ys)) := Kp.new hr'
      have hp : upd H r (.lst ys) r = some (.lst ys) := upd_same
      have hI := items_mono k hI0
      rw [show cs = all (.cells cs) from all_cells hg] at hI
      generalize upd H r (.lst ys) = H1 at k hp hI ⊢
      refine ⟨_, rfl, r, rfl, ⟨_, SqL.of hp⟩, (k.tab _ hPh).1, fun H2 tb => ?_⟩
      refine ⟨_, _, ⟨Nat.zero_le _, ?p0⟩, GX.turn_lst (xs := ys) (fun i H' => Kp [] H1 H') rfl (fun i H' _ k => k.sqL (SqL.of hp) List.not_mem_nil) (fun i x H' hx k' => ?ps) (fun H' k' => ?pd)⟩
      case p0 => exact Kp.tabbed (k.tab _ hPh) tb
      case ps =>
        obtain ⟨c, hc, hd⟩ := hI.get hx
        obtain ⟨p', rfl, hs⟩ := of_dp_c hd
        refine ⟨_, rfl, p', c, 0, 3, rfl, k'.sqT hs, k'.tab _ (k.tab _ hPt), fun H3 k3 => ⟨_, rfl, ?_⟩⟩
        rw [tri_room.mpr (in_all (List.mem_of_getElem? hc))]
        exact iteT ⟨(List.getElem?_eq_some_iff.mp hx).1, k'.trans k3⟩
      case pd =>
        refine ⟨_, rfl, iteF ?_⟩
        exact ⟨_, rfl, q H' r ys (k.trans k') hr' (k'.lst hp List.not_mem_nil) (items_mono k' hI)⟩
    | moved d b1 =>
      obtain ⟨p, y1, z1, rfl, hT, h1, h2⟩ := of_body3 hB
      refine ⟨_, rfl, p, _, _, _, rfl, rfl, hT, rfl, ?_⟩
      refine ⟨_, rfl, rfl, _, rfl, itD0 (by decide +kernel) ?_⟩
      refine ⟨_, rfl, rfl, _, rfl, itD0 (by decide +kernel) ?_⟩
      refine ⟨_, rfl, rfl, _, rfl, itD1 (by decide +kernel) ?_⟩
      have hdp : dp b1 ≤ n := by
        unfold dp at hn
        omega
      refine ⟨_, rfl, p, _, _, _, rfl, rfl, hT, rfl, _, rfl, p, _, _, _, rfl, rfl, hT, rfl, z1, b1, rfl, h2, hg.2.1, hdp, hPt, hPh, fun H0 r0 ys0 k0 n0 hp0 hI0 => ?_⟩
      refine ⟨y1, d, .ref r0, all b1, rfl, c_mono k0 h1, cellsL_of hp0 hI0, all_len b1, fun H1 r ys k1 n1 hp hI => ?_⟩
      have k := k0.trans k1
      have hr' := k0.free r n1
      rw [all_moved hg] at hI
      refine ⟨_, rfl, r, rfl, ⟨_, SqL.of hp⟩, (k.tab _ hPh).1, fun H2 tb => ?_⟩
      refine ⟨_, _, ⟨Nat.zero_le _, ?p0⟩, GX.turn_lst (xs := ys) (fun i H' => Kp [] H1 H') rfl (fun i H' _ k => k.sqL (SqL.of hp) List.not_mem_nil) (fun i x H' hx k' => ?ps) (fun H' k' => ?pd)⟩
      case p0 => exact Kp.tabbed (k.tab _ hPh) tb
      case ps =>
        obtain ⟨c, hc, hd⟩ := hI.get hx
        obtain ⟨p', rfl, hs⟩ := of_dp_c hd
        refine ⟨_, rfl, p', c, 0, 3, rfl, k'.sqT hs, k'.tab _ (k.tab _ hPt), fun H3 k3 => ⟨_, rfl, ?_⟩⟩
        rw [tri_room.mpr (in_all (List.mem_of_getElem? hc))]
        exact iteT ⟨(List.getElem?_eq_some_iff.mp hx).1, k'.trans k3⟩
      case pd =>
        refine ⟨_, rfl, iteF ?_⟩
        exact ⟨_, rfl, q H' r ys (k.trans k') hr' (k'.lst hp List.not_mem_nil) (items_mono k' hI)⟩
    | turnX b1 =>
      obtain ⟨p, y1, z1, rfl, hT, h1, h2⟩ := of_body3 hB
      refine ⟨_, rfl, p, _, _, _, rfl, rfl, hT, rfl, ?_⟩
      refine ⟨_, rfl, rfl, _, rfl, itD0 (by decide +kernel) ?_⟩
      refine ⟨_, rfl, rfl, _, rfl, itD0 (by decide +kernel) ?_⟩
      refine ⟨_, rfl, rfl, _, rfl, itD0 (by decide +kernel) ?_⟩
      refine ⟨_, rfl, rfl, _, rfl, itD1 (by decide +kernel) ?_⟩
      obtain rfl := of_dps h1
      have hdp : dp b1 ≤ n := by
        unfold dp at hn
        omega
      refine ⟨_, rfl, p, _, _, _, rfl, rfl, hT, rfl, _, rfl, p, _, _, _, rfl, rfl, hT, rfl, z1, b1, rfl, h2, hg, hdp, hPt, hPh, fun H0 r0 ys0 k0 n0 hp0 hI0 => ?_⟩
      refine ⟨"x", tX, .ref r0, all b1, rfl, .inl ⟨rfl, rfl⟩, cellsL_of hp0 hI0, all_len b1, fun H1 r ys ds k1 n1 hp hI hpm hso => ?_⟩
      have k := k0.trans k1
      have hr' := k0.free r n1
      rw [all_turnX hg hso hpm] at hI
      refine ⟨_, rfl, r, rfl, ⟨_, SqL.of hp⟩, (k.tab _ hPh).1, fun H2 tb => ?_⟩
      refine ⟨_, _, ⟨Nat.zero_le _, ?p0⟩, GX.turn_lst (xs := ys) (fun i H' => Kp [] H1 H') rfl (fun i H' _ k => k.sqL (SqL.of hp) List.not_mem_nil) (fun i x H' hx k' => ?ps) (fun H' k' => ?pd)⟩
      case p0 => exact Kp.tabbed (k.tab _ hPh) tb
      case ps =>
        obtain ⟨c, hc, hd⟩ := hI.get hx
        obtain ⟨p', rfl, hs⟩ := of_dp_c hd
        refine ⟨_, rfl, p', c, 0, 3, rfl, k'.sqT hs, k'.tab _ (k.tab _ hPt), fun H3 k3 => ⟨_, rfl, ?_⟩⟩
        rw [tri_room.mpr (in_all (List.mem_of_getElem? hc))]
        exact iteT ⟨(List.getElem?_eq_some_iff.mp hx).1, k'.trans k3⟩
      case pd =>
        refine ⟨_, rfl, iteF ?_⟩
        exact ⟨_, rfl, q H' r ys (k.trans k') hr' (k'.lst hp List.not_mem_nil) (items_mono k' hI)⟩
    | turnY b1 =>
      obtain ⟨p, y1, z1, rfl, hT, h1, h2⟩ := of_body3 hB
      refine ⟨_, rfl, p, _, _, _, rfl, rfl, hT, rfl, ?_⟩
      refine ⟨_, rfl, rfl, _, rfl, itD0 (by decide +kernel) ?_⟩
      refine ⟨_, rfl, rfl, _, rfl, itD0 (by decide +kernel) ?_⟩
      refine ⟨_, rfl, rfl, _, rfl, itD0 (by decide +kernel) ?_⟩
      refine ⟨_, rfl, rfl, _, rfl, itD1 (by decide +kernel) ?_⟩
      obtain rfl := of_dps h1
      have hdp : dp b1 ≤ n := by
        unfold dp at hn
        omega
      refine ⟨_, rfl, p, _, _, _, rfl, rfl, hT, rfl, _, rfl, p, _, _, _, rfl, rfl, hT, rfl, z1, b1, rfl, h2, hg, hdp, hPt, hPh, fun H0 r0 ys0 k0 n0 hp0 hI0 => ?_⟩
      refine ⟨"y", tY, .ref r0, all b1, rfl, .inr (.inl ⟨rfl, rfl⟩), cellsL_of hp0 hI0, all_len b1, fun H1 r ys ds k1 n1 hp hI hpm hso => ?_⟩
      have k := k0.trans k1
      have hr' := k0.free r n1
      rw [all_turnY hg hso hpm] at hI
      refine ⟨_, rfl, r, rfl, ⟨_, SqL.of hp⟩, (k.tab _ hPh).1, fun H2 tb => ?_⟩
      refine ⟨_, _, ⟨Nat.zero_le _, ?p0⟩, GX.turn_lst (xs := ys) (fun i H' => Kp [] H1 H') rfl (fun i H' _ k => k.sqL (SqL.of hp) List.not_mem_nil) (fun i x H' hx k' => ?ps) (fun H' k' => ?pd)⟩
      case p0 => exact Kp.tabbed (k.tab _ hPh) tb
      case ps =>
        obtain ⟨c, hc, hd⟩ := hI.get hx
        obtain ⟨p', rfl, hs⟩ := of_dp_c hd
        refine ⟨_, rfl, p', c, 0, 3, rfl, k'.sqT hs, k'.tab _ (k.tab _ hPt), fun H3 k3 => ⟨_, rfl, ?_⟩⟩
        rw [tri_room.mpr (in_all (List.mem_of_getElem? hc))]
        exact iteT ⟨(List.getElem?_eq_some_iff.mp hx).1, k'.trans k3⟩
      case pd =>
        refine ⟨_, rfl, iteF ?_⟩
        exact ⟨_, rfl, q H' r ys (k.trans k') hr' (k'.lst hp List.not_mem_nil) (items_mono k' hI)⟩
    | turnZ b1 =>
      obtain ⟨p, y1, z1, rfl, hT, h1, h2⟩ := of_body3 hB
      refine ⟨_, rfl, p, _, _, _, rfl, rfl, hT, rfl, ?_⟩
      refine ⟨_, rfl, rfl, _, rfl, itD0 (by decide +kernel) ?_⟩
      refine ⟨_, rfl, rfl, _, rfl, itD0 (by decide +kernel) ?_⟩
      refine ⟨_, rfl, rfl, _, rfl, itD0 (by decide +kernel) ?_⟩
      refine ⟨_, rfl, rfl, _, rfl, itD1 (by decide +kernel) ?_⟩
      obtain rfl := of_dps h1
      have hdp : dp b1 ≤ n := by
        unfold dp at hn
        omega
      refine ⟨_, rfl, p, _, _, _, rfl, rfl, hT, rfl, _, rfl, p, _, _, _, rfl, rfl, hT, rfl, z1, b1, rfl, h2, hg, hdp, hPt, hPh, fun H0 r0 ys0 k0 n0 hp0 hI0 => ?_⟩
      refine ⟨"z", tZ, .ref r0, all b1, rfl, .inr (.inr ⟨rfl, rfl⟩), cellsL_of hp0 hI0, all_len b1, fun H1 r ys ds k1 n1 hp hI hpm hso => ?_⟩
      have k := k0.trans k1
      have hr' := k0.free r n1
      rw [all_turnZ hg hso hpm] at hI
      refine ⟨_, rfl, r, rfl, ⟨_, SqL.of hp⟩, (k.tab _ hPh).1, fun H2 tb => ?_⟩
      refine ⟨_, _, ⟨Nat.zero_le _, ?p0⟩, GX.turn_lst (xs := ys) (fun i H' => Kp [] H1 H') rfl (fun i H' _ k => k.sqL (SqL.of hp) List.not_mem_nil) (fun i x H' hx k' => ?ps) (fun H' k' => ?pd)⟩
      case p0 => exact Kp.tabbed (k.tab _ hPh) tb
      case ps =>
        obtain ⟨c, hc, hd⟩ := hI.get hx
        obtain ⟨p', rfl, hs⟩ := of_dp_c hd
        refine ⟨_, rfl, p', c, 0, 3, rfl, k'.sqT hs, k'.tab _ (k.tab _ hPt), fun H3 k3 => ⟨_, rfl, ?_⟩⟩
        rw [tri_room.mpr (in_all (List.mem_of_getElem? hc))]
        exact iteT ⟨(List.getElem?_eq_some_iff.mp hx).1, k'.trans k3⟩
      case pd =>
        refine ⟨_, rfl, iteF ?_⟩
        exact ⟨_, rfl, q H' r ys (k.trans k') hr' (k'.lst hp List.not_mem_nil) (items_mono k' hI)⟩
    | wth b1 b2 =>
      obtain ⟨p, y1, z1, rfl, hT, h1, h2⟩ := of_body3 hB
      refine ⟨_, rfl, p, _, _, _, rfl, rfl, hT, rfl, ?_⟩
      refine ⟨_, rfl, rfl, _, rfl, itD0 (by decide +kernel) ?_⟩
      refine ⟨_, rfl, rfl, _, rfl, itD0 (by decide +kernel) ?_⟩
      refine ⟨_, rfl, rfl, _, rfl, itD0 (by decide +kernel) ?_⟩
      refine ⟨_, rfl, rfl, _, rfl, itD0 (by decide +kernel) ?_⟩
      have hdp : dp b1 ≤ n ∧ dp b2 ≤ n := by
        unfold dp at hn
        omega
      refine ⟨_, rfl, _, rfl, p, _, _, _, rfl, rfl, hT, rfl, y1, b1, rfl, h1, hg.1, hdp.1, hPt, hPh, fun Ha ra ya ka na pa ia => ?_⟩
      refine ⟨_, rfl, p, _, _, _, rfl, rfl, (ka.sqT hT), rfl, z1, b2, rfl, body_mono ka h2, hg.2, hdp.2, ka.tab _ hPt, ka.tab _ hPh, fun Hb rb yb kb nb' pb ib => ?_⟩
      refine ⟨"with", ra, rb, ya, yb, all b1, all b2, rfl, .inl rfl, kb.lst pa List.not_mem_nil, pb, items_mono kb ia, ib, all_len b1, all_len b2, fun c hc => in_all hc, fun c hc => in_all hc, fun H1 r ys ds k1 n1 hp hI hj => ?_⟩
      have k := (ka.trans kb).trans k1
      have hr' := (ka.trans kb).free r n1
      obtain ⟨_, hso, hnd, hmem⟩ | ⟨e, _⟩ | ⟨e, _⟩ := hj
      rotate_left
      · exact absurd e (by decide +kernel)
      · exact absurd e (by decide +kernel)
      rw [all_wth hg hso hnd hmem] at hI
      refine ⟨_, rfl, r, rfl, ⟨_, SqL.of hp⟩, (k.tab _ hPh).1, fun H2 tb => ?_⟩
      refine ⟨_, _, ⟨Nat.zero_le _, ?p0⟩, GX.turn_lst (xs := ys) (fun i H' => Kp [] H1 H') rfl (fun i H' _ k => k.sqL (SqL.of hp) List.not_mem_nil) (fun i x H' hx k' => ?ps) (fun H' k' => ?pd)⟩
      case p0 => exact Kp.tabbed (k.tab _ hPh) tb
      case ps =>
        obtain ⟨c, hc, hd⟩ := hI.get hx
        obtain ⟨p', rfl, hs⟩ := of_dp_c hd
        refine ⟨_, rfl, p', c, 0, 3, rfl, k'.sqT hs, k'.tab _ (k.tab _ hPt), fun H3 k3 => ⟨_, rfl, ?_⟩⟩
        rw [tri_room.mpr (in_all (List.mem_of_getElem? hc))]
        exact iteT ⟨(List.getElem?_eq_some_iff.mp hx).1, k'.trans k3⟩
      case pd =>
        refine ⟨_, rfl, iteF ?_⟩
        exact ⟨_, rfl, q H' r ys (k.trans k') hr' (k'.lst hp List.not_mem_nil) (items_mono k' hI)⟩
    | common b1 b2 =>
      obtain ⟨p, y1, z1, rfl, hT, h1, h2⟩ := of_body3 hB
      refine ⟨_, rfl, p, _, _, _, rfl, rfl, hT, rfl, ?_⟩
      refine ⟨_, rfl, rfl, _, rfl, itD0 (by decide +kernel) ?_⟩
      refine ⟨_, rfl, rfl, _, rfl, itD0 (by decide +kernel) ?_⟩
      refine ⟨_, rfl, rfl, _, rfl, itD0 (by decide +kernel) ?_⟩
      refine ⟨_, rfl, rfl, _, rfl, itD0 (by decide +kernel) ?_⟩
      have hdp : dp b1 ≤ n ∧ dp b2 ≤ n := by
        unfold dp at hn
        omega
      refine ⟨_, rfl, _, rfl, p, _, _, _, rfl, rfl, hT, rfl, y1, b1, rfl, h1, hg.1, hdp.1, hPt, hPh, fun Ha ra ya ka na pa ia => ?_⟩
      refine ⟨_, rfl, p, _, _, _, rfl, rfl, (ka.sqT hT), rfl, z1, b2, rfl, body_mono ka h2, hg.2, hdp.2, ka.tab _ hPt, ka.tab _ hPh, fun Hb rb yb kb nb' pb ib => ?_⟩
      refine ⟨"common", ra, rb, ya, yb, all b1, all b2, rfl, .inr (.inl rfl), kb.lst pa List.not_mem_nil, pb, items_mono kb ia, ib, all_len b1, all_len b2, fun c hc => in_all hc, fun c hc => in_all hc, fun H1 r ys ds k1 n1 hp hI hj => ?_⟩
      have k := (ka.trans kb).trans k1
      have hr' := (ka.trans kb).free r n1
      obtain ⟨e, _⟩ | ⟨_, rfl⟩ | ⟨e, _⟩ := hj
      · exact absurd e (by decide +kernel)
      rotate_left
      · exact absurd e (by decide +kernel)
      rw [all_common hg] at hI
      refine ⟨_, rfl, r, rfl, ⟨_, SqL.of hp⟩, (k.tab _ hPh).1, fun H2 tb => ?_⟩
      refine ⟨_, _, ⟨Nat.zero_le _, ?p0⟩, GX.turn_lst (xs := ys) (fun i H' => Kp [] H1 H') rfl (fun i H' _ k => k.sqL (SqL.of hp) List.not_mem_nil) (fun i x H' hx k' => ?ps) (fun H' k' => ?pd)⟩
      case p0 => exact Kp.tabbed (k.tab _ hPh) tb
      case ps =>
        obtain ⟨c, hc, hd⟩ := hI.get hx
        obtain ⟨p', rfl, hs⟩ := of_dp_c hd
        refine ⟨_, rfl, p', c, 0, 3, rfl, k'.sqT hs, k'.tab _ (k.tab _ hPt), fun H3 k3 => ⟨_, rfl, ?_⟩⟩
        rw [tri_room.mpr (in_all (List.mem_of_getElem? hc))]
        exact iteT ⟨(List.getElem?_eq_some_iff.mp hx).1, k'.trans k3⟩
      case pd =>
        refine ⟨_, rfl, iteF ?_⟩
        exact ⟨_, rfl, q H' r ys (k.trans k') hr' (k'.lst hp List.not_mem_nil) (items_mono k' hI)⟩
    | less b1 b2 =>
      obtain ⟨p, y1, z1, rfl, hT, h1, h2⟩ := of_body3 hB
      refine ⟨_, rfl, p, _, _, _, rfl, rfl, hT, rfl, ?_⟩
      refine ⟨_, rfl, rfl, _, rfl, itD0 (by decide +kernel) ?_⟩
      refine ⟨_, rfl, rfl, _, rfl, itD0 (by decide +kernel) ?_⟩
      refine ⟨_, rfl, rfl, _, rfl, itD0 (by decide +kernel) ?_⟩
      refine ⟨_, rfl, rfl, _, rfl, itD0 (by decide +kernel) ?_⟩
      have hdp : dp b1 ≤ n ∧ dp b2 ≤ n := by
        unfold dp at hn
        omega
      refine ⟨_, rfl, _, rfl, p, _, _, _, rfl, rfl, hT, rfl, y1, b1, rfl, h1, hg.1, hdp.1, hPt, hPh, fun Ha ra ya ka na pa ia => ?_⟩
      refine ⟨_, rfl, p, _, _, _, rfl, rfl, (ka.sqT hT), rfl, z1, b2, rfl, body_mono ka h2, hg.2, hdp.2, ka.tab _ hPt, ka.tab _ hPh, fun Hb rb yb kb nb' pb ib => ?_⟩
      refine ⟨"less", ra, rb, ya, yb, all b1, all b2, rfl, .inr (.inr rfl), kb.lst pa List.not_mem_nil, pb, items_mono kb ia, ib, all_len b1, all_len b2, fun c hc => in_all hc, fun c hc => in_all hc, fun H1 r ys ds k1 n1 hp hI hj => ?_⟩
      have k := (ka.trans kb).trans k1
      have hr' := (ka.trans kb).free r n1
      obtain ⟨e, _⟩ | ⟨e, _⟩ | ⟨_, rfl⟩ := hj
      · exact absurd e (by decide +kernel)
      · exact absurd e (by decide +kernel)
      rw [all_less hg] at hI
      refine ⟨_, rfl, r, rfl, ⟨_, SqL.of hp⟩, (k.tab _ hPh).1, fun H2 tb => ?_⟩
      refine ⟨_, _, ⟨Nat.zero_le _, ?p0⟩, GX.turn_lst (xs := ys) (fun i H' => Kp [] H1 H') rfl (fun i H' _ k => k.sqL (SqL.of hp) List.not_mem_nil) (fun i x H' hx k' => ?ps) (fun H' k' => ?pd)⟩
      case p0 => exact Kp.tabbed (k.tab _ hPh) tb
      case ps =>
        obtain ⟨c, hc, hd⟩ := hI.get hx
        obtain ⟨p', rfl, hs⟩ := of_dp_c hd
        refine ⟨_, rfl, p', c, 0, 3, rfl, k'.sqT hs, k'.tab _ (k.tab _ hPt), fun H3 k3 => ⟨_, rfl, ?_⟩⟩
        rw [tri_room.mpr (in_all (List.mem_of_getElem? hc))]
        exact iteT ⟨(List.getElem?_eq_some_iff.mp hx).1, k'.trans k3⟩
      case pd =>
        refine ⟨_, rfl, iteF ?_⟩
        exact ⟨_, rfl, q H' r ys (k.trans k') hr' (k'.lst hp List.not_mem_nil) (items_mono k' hI)⟩

theorem held_none {f Pt Ph : Addr} {fd : FuncData} : FnOk P W0 K mg base CX0 6 f fd ["body"] (spHeld K Pt Ph 0) := by
  have no : ∀ vs H Q E, ¬ spHeld K Pt Ph 0 vs H Q E := fun vs H Q E h => by
    obtain ⟨v, b, _, _, _, hn, _⟩ := h
    have := dp_pos b
    omega
  exact ⟨fun vs H Q E h => absurd h (no vs H Q E), fun A outer s H args us vs Q E _ _ _ _ h => absurd h (no vs H Q E)⟩
theorem ok_held {f c Pt Ph fT fB fS fQ fJ : Addr} {fd dT dB dS dQ dJ : FuncData} (F : FunC K "_held" "_held" sHeld f fd c) (TB : GxR.TabB base mg c Ph) (T : Nm K mg) (Z : HeldFns P W0 K mg base Pt fT fB fS fQ fJ dT dB dS dQ dJ) (N : Fn K mg "_held" f fd ["body"]) :
    ∀ n : Nat, FnOk P W0 K mg base CX0 (6 + n) f fd ["body"] (spHeld K Pt Ph n)
  | 0 => held_none
  | n + 1 => held_step F TB T Z N (ok_held F TB T Z N n)
end LP
end

section
set_option Elab.async false
set_option linter.all false
set_option maxRecDepth 100000
set_option maxHeartbeats 2000000
/-! cells -/
namespace LP
open PySem PySem.Spec PyProof.Rows L2 Ly GY
variable [LamTab] {P : Program} {W0 : World} {K : PySem.W.Frag} {mg : Str → Option Value} {base : Heap}
/-- an own class of exceptions over ValueError -/
structure Ex (K : PySem.W.Frag) (mg : Str → Option Value) (x : Str) (C : Addr) : Prop where
  g : mg x = some (.ref C)
  x : PySem.W.excIn K C [.type "ValueError", .type "Exception", .type "BaseException", .type "object"] "ValueError.__new__" = true
  k : PySem.W.keepIn K (.ref C) = true
  b : PySem.W.subIn K (.ref C) (.type "BaseException") = some true
  t : PySem.W.typeIn K (.ref C) = some (.type "type")
theorem btw_iff {lo hi z : Int} : btw lo hi z = true ↔ (lo ≤ z ∧ z ≤ hi) := by
  unfold btw
  simp only [Bool.and_eq_true, decide_eq_true_eq]
/-- the tables of the defs with generator expressions -/
structure Tb (H : Hp) (Pt Pr Ph : Addr) : Prop where
  t : TGen H Pt
  r : TR H Pr
  h : TGen H Ph
theorem Tb.mono {S : List Addr} {H H' : Hp} {Pt Pr Ph : Addr} (b : Tb H Pt Pr Ph) (k : Kp S H H') : Tb H' Pt Pr Ph := ⟨k.tab _ b.t, k.tabr b.r, k.tab _ b.h⟩
def spCells (K : PySem.W.Frag) (Pt Pr Ph : Addr) : Sp := fun vs H Q _ => ∃ (v : V) (b : Bd), vs = [v] ∧ Body K H v b ∧ Good b ∧ nb b ≤ 20 ∧ Tb H Pt Pr Ph ∧
  ∀ (H' : Hp) (r : Addr) (zs : List V), Kp [] H H' → H r = none → H' r = some (.lst zs) → Items K H' zs (all b) → Q (.ref r) H'
theorem scCells : FnScope ["body"] ["body"] (defScope sCells) := ⟨rfl, rfl, rfl, by decide +kernel, rfl, by decide +kernel, by decide +kernel⟩
theorem ok_cells {f Pt Pr Ph fI fH : Addr} {fd dI dH : FuncData} (F : Fun K "cells" "cells" sCells f fd) (NI : Fn K mg "is_body" fI dI ["body"]) (GI : FnOk P W0 K mg base CX0 9 fI dI ["body"] (spIsBody K Pt Pr))
    (NH : Fn K mg "_held" fH dH ["body"]) (GH : FnOk P W0 K mg base CX0 (6 + 20) fH dH ["body"] (spHeld K Pt Ph 20)) : FnOk P W0 K mg base CX0 27 f fd ["body"] (spCells K Pt Pr Ph) := by
  refine F.ok scCells (fun vs H Q E h => ?_) (fun cdv A outer s H vs Q E hr h => ?_)
  · obtain ⟨v, b, rfl, _⟩ := h
    rfl
  · obtain ⟨v, b, rfl, hB, hg, hn, tb, q⟩ := h
    have hr9 : Room 9 _ := hr.mono (by decide)
    refine ⟨_, pss_cons (ps_if (pt_not (pt_val (pe_call GI hr9 (by rfl) NI.m NI.kp NI.b .nil pass0 (pa_cons (pv 0) pa_nil)))) (pss_one ps_never) pss_nil)
      (pss_one (ps_ret (pe_call GH hr (by rfl) NH.m NH.kp NH.b .nil pass0 (pa_cons (pv 0) pa_nil)))), ?_⟩
    refine ⟨_, rfl, v, b, rfl, hB, hg, hn, tb.t, tb.r, fun H1 k1 => ⟨true, rfl, iteF ?_⟩⟩
    have hd := dp_le_nb b
    exact ⟨_, rfl, v, b, rfl, body_mono k1 hB, hg, by omega, k1.tab _ tb.t, k1.tab _ tb.h, fun H2 r zs k2 n2 h2 i2 => q H2 r zs (k1.trans k2) (k1.free r n2) h2 i2⟩
end LP
end

section
set_option Elab.async false
set_option linter.all false
set_option maxRecDepth 100000
set_option maxHeartbeats 2000000
/-! the law's source of numbers -/
namespace LP
open PySem PySem.Spec PyProof.Rows L2 Ly GY
variable [LamTab] {P : Program} {W0 : World} {K : PySem.W.Frag} {mg : Str → Option Value} {base : Heap}
abbrev lMix : Stmt := top 43
abbrev lNext : Stmt := top 44
abbrev lAlike : Stmt := top 45
abbrev lInside : Stmt := top 46
abbrev lAll : Stmt := top 47
abbrev lBody : Stmt := top 48
-- _law_whole: not in this statement
-- _law_numbers: not in this statement
-- _law_counted: not in this statement
abbrev lKind : Stmt := top 49
-- _law_wrapped: not in this statement
-- _law_strokes: not in this statement
-- _law_text: not in this statement
abbrev lBeside : Stmt := top 50
abbrev lFree : Stmt := top 51
abbrev lWays : Stmt := top 52
-- _law_hangs: not in this statement
-- _law_height: not in this statement
-- _law_small: not in this statement
-- _law_draw: not in this statement
-- _law_best: not in this statement
-- _law_orders: not in this statement
-- _law_way: not in this statement
abbrev lLaw : Stmt := top 60
structure Nl (K : PySem.W.Frag) (mg : Str → Option Value) : Prop where
  max : mg "max" = none
  min : mg "min" = none
  str : mg "str" = none
/-- the state: a list of a number, a list of numbers and a place -/
def Sta (H : Hp) (h l : Addr) : Prop := ∃ (m t : Int) (ns : List Int), H h = some (.lst [.int m, .ref l, .int t]) ∧ H l = some (.lst (ns.map V.int)) ∧ h ≠ l ∧ 0 ≤ m ∧ m < 2147483647 ∧ ns.length ≤ 64
theorem Sta.mono {S : List Addr} {H H' : Hp} {h l : Addr} (s : Sta H h l) (k : Kp S H H') (n1 : h ∉ S) (n2 : l ∉ S) : Sta H' h l := by
  obtain ⟨m, t, ns, h1, h2, h3, h4⟩ := s
  exact ⟨m, t, ns, k.lst h1 n1, k.lst h2 n2, h3, h4⟩
theorem Sta.mono0 {H H' : Hp} {h l : Addr} (s : Sta H h l) (k : Kp [] H H') : Sta H' h l := s.mono k List.not_mem_nil List.not_mem_nil
def spMix (K : PySem.W.Frag) : Sp := fun vs H Q _ => ∃ (a : Addr) (ns : List Int) (z : Int), vs = [.ref a, .int z] ∧ SqL K H a (ns.map V.int) ∧ ns.length ≤ 64 ∧ 0 ≤ z ∧ z < 2147483647 ∧
  ∀ (H' : Hp) (h l : Addr), Kp [] H H' → H h = none → H l = none → Sta H' h l → Q (.ref h) H'
theorem scMix : FnScope ["_law_script", "_law_seed", "_law_mixed", "_law_cell"] ["_law_script", "_law_seed"] (defScope lMix) := ⟨rfl, rfl, rfl, by decide +kernel, rfl, by decide +kernel, by decide +kernel⟩
theorem ok_mix {f : Addr} {fd : FuncData} (F : Fun K "_law_mix" "_law_mix" lMix f fd) (T : Nm K mg) : FnOk P W0 K mg base CX0 1 f fd ["_law_script", "_law_seed"] (spMix K) := by
  refine F.ok scMix (fun vs H Q E h => ?_) (fun cdv A outer s H vs Q E hr h => ?_)
  · obtain ⟨a, ns, z, rfl, _⟩ := h
    rfl
  · obtain ⟨a, ns, z, rfl, hL, h64, z0, z1, q⟩ := h
    refine ⟨_, pss_cons (ps_set (i := 2) scMix.nd rfl (.inl rfl) (pv 1))
      (pss_cons (ps_for PassesOwn.never rfl (pi_list (pv 0)) (pg_name (i := 3) scMix.nd rfl (.inl rfl))
        (pss_one (ps_set (i := 2) scMix.nd rfl (.inl rfl) (pe_op op_mod (pe_op op_add (pe_op op_add (pe_op op_mul (pv 2) pe_int) (pe_op op_mod (pv 3) pe_int)) pe_int) pe_int))))
      (pss_one (ps_ret (pe_lst (pa_cons (pv 2) (pa_cons (pe_callTy call_list_of (by rfl) T.list (by decide +kernel) (pa_cons (pv 0) pa_nil)) (pa_cons pe_int pa_nil))))))), ?_⟩
    refine ⟨_, rfl, _, rfl, a, rfl, ⟨_, hL⟩, for_list (K := K) (a := a) (xs := ns.map V.int) (fun i σ H' => H' = H ∧ ∃ (m : Int) (o : Option V), σ = [some (.ref a), some (.int z), some (.int m), o] ∧ 0 ≤ m ∧ m < 2147483647) ⟨rfl, z, none, rfl, z0, z1⟩ (fun i σ H' _ p => by rw [p.1]; exact hL) (fun i x σ H' hx p => ?_) (fun σ H' p => ?_)⟩
    · obtain ⟨rfl, m, o, rfl, m0, m1⟩ := p
      obtain ⟨n, hn, rfl⟩ := int_at hx
      refine ⟨_, rfl, _, _, rfl, rfl, .inl ⟨by omega, by omega⟩, _, rfl, _, _, rfl, rfl, (by show (0 : Int) < 2147483629; decide), _, _, rfl, rfl, _, _, rfl, rfl, _, _, rfl, rfl, (by show (0 : Int) < 2147483647; decide), rfl, _, _, rfl, ?_, ?_⟩
      · exact Int.emod_nonneg _ (by decide)
      · exact Int.emod_lt_of_pos _ (by decide)
    · obtain ⟨rfl, m, o, rfl, m0, m1⟩ := p
      refine ⟨_, rfl, _, rfl, a, _, rfl, .inl hL, fun l hl => ⟨(by show 3 ≤ sizeLine; decide), fun h hh => ?_⟩⟩
      obtain ⟨hne, hh0⟩ := free_upd hh
      refine q _ h l ((Kp.new hl).trans (Kp.new hh)) hh0 hl ⟨m, 0, ns, upd_same, ?_, hne, m0, m1, h64⟩
      rw [upd_ne (Ne.symm hne)]
      exact upd_same
theorem dp_ints {H : Hp} : ∀ ns : List Int, DpAll K H (ns.map V.int) (ns.map PyData.int)
  | [] => .nil
  | n :: ns => .cons (.int n) (dp_ints ns)
theorem ints_lay : ∀ ns : List Int, PyData.canLayAll0 (ns.map PyData.int) = true
  | [] => by simp [PyData.canLayAll0]
  | c :: cs => by simp [PyData.canLayAll0, PyData.canLay0, ints_lay cs]
theorem ints_depth : ∀ ns : List Int, PyData.depthAll (ns.map PyData.int) ≤ 1
  | [] => by simp [PyData.depthAll]
  | c :: cs => by
    have h1 := ints_depth cs
    simp only [List.map_cons, PyData.depthAll, PyData.depth]
    omega
theorem ints_shaped (ns : List Int) : SeqAt.shaped (.list (ns.map PyData.int)) = true := by
  have h1 := ints_depth ns
  have h2 : PyData.depth (.list (ns.map PyData.int)) ≤ 64 := by
    simp only [PyData.depth]
    omega
  show (PyData.canLay0 (.list (ns.map PyData.int)) && decide (PyData.depth (.list (ns.map PyData.int)) ≤ 64)) = true
  rw [Bool.and_eq_true]
  exact ⟨by simp only [PyData.canLay0]; exact ints_lay ns, decide_eq_true h2⟩
theorem ixN_nat {n : Nat} {i : Int} (h0 : 0 ≤ i) (h : i < (n : Int)) : ixN n i = some i.toNat := by
  unfold ixN
  rw [if_pos h0, if_pos h]
theorem iteF' {c : Bool} {A B : Prop} (h : c = false) (b : B) : if c = true then A else B := itB0 h b
theorem iteT' {c : Bool} {A B : Prop} (h : c = true) (a : A) : if c = true then A else B := itB1 h a
def spNext : Sp := fun vs H Q _ => ∃ (h l : Addr) (many : Int), vs = [.ref h, .int many] ∧ 0 < many ∧ many < 1073741824 ∧ Sta H h l ∧
  ∀ (H' : Hp) (r : Int), Kp [h, l] H H' → Sta H' h l → 0 ≤ r → r < many → Q (.int r) H'
theorem scNext : FnScope ["_law_h", "_law_many", "_law_at", "_law_cell"] ["_law_h", "_law_many"] (defScope lNext) := ⟨rfl, rfl, rfl, by decide +kernel, rfl, by decide +kernel, by decide +kernel⟩
theorem ok_next {f : Addr} {fd : FuncData} (F : Fun K "_law_next" "_law_next" lNext f fd) (T : Nm K mg) (U : Nl K mg) : FnOk P W0 K mg base CX0 1 f fd ["_law_h", "_law_many"] spNext := by
  refine F.ok scNext (fun vs H Q E h => ?_) (fun cdv A outer s H vs Q E hr h => ?_)
  · obtain ⟨h, l, many, rfl, _⟩ := h
    rfl
  · obtain ⟨h, l, many, rfl, my0, my1, hS, q⟩ := h
    refine ⟨_, pss_cons (ps_set (i := 2) scNext.nd rfl (.inl rfl) (pe_op op_mod (pe_ix ix_list (pv 0) pe_int (fun _ _ => rfl)) (pe_callB (call_max2 rfl) (by rfl) U.max (by decide +kernel) (pa_cons pe_int (pa_cons (pe_callB call_len_seq (by rfl) T.len PySem.boot_len (pa_cons (pe_ix ix_list (pv 0) pe_int (fun _ _ => rfl)) pa_nil)) pa_nil)))))
      (pss_cons (ps_set (i := 3) scNext.nd rfl (.inl rfl) (pe_ifExp (pt_cmpR (op_neD hr.units) (pe_ix ix_list (pv 0) pe_int (fun _ _ => rfl)) (pe_lst pa_nil) (nomark _)) (pe_ix ix_list (pe_ix ix_list (pv 0) pe_int (fun _ _ => rfl)) (pv 2) (fun _ _ => rfl)) pe_int))
      (pss_cons (ps_if (pt_cmpR op_ge (pv 3) (pe_op op_pow pe_int pe_int) (nomark _))
        (pss_cons (ps_asg (pe_op op_fdiv (pv 3) (pv 1)) (pg_sub (pe_ix ix_list (pv 0) pe_int (fun _ _ => rfl)) (pv 2) set_list)) (pss_one (ps_ret (pe_op op_mod (pv 3) (pv 1))))) pss_nil)
      (pss_cons (ps_asg (pe_op op_mod (pe_op op_add (pe_op op_add (pe_op op_mul (pe_ix ix_list (pv 0) pe_int (fun _ _ => rfl)) pe_int) (pe_op op_mul (pv 3) pe_int)) pe_int) pe_int) (pg_sub (pv 0) pe_int set_list))
      (pss_cons (ps_asg (pe_op op_add (pe_ix ix_list (pv 0) pe_int (fun _ _ => rfl)) pe_int) (pg_sub (pv 0) pe_int set_list))
      (pss_one (ps_ret (pe_op op_mod (pe_op op_fdiv (pe_ix ix_list (pv 0) pe_int (fun _ _ => rfl)) pe_int) (pv 1)))))))), ?_⟩
    obtain ⟨m, t, ns, hH, hL, hne, m0, m1, h64⟩ := hS
    refine ⟨_, rfl, h, _, 2, _, rfl, rfl, SqL.of hH, rfl, ?_⟩
    refine ⟨_, rfl, h, _, 1, _, rfl, rfl, SqL.of hH, rfl, l, _, rfl, .inl (SqL.of hL), 1, _, rfl, ?_⟩
    have hjp : (0 : Int) < (if ((ns.map V.int).length : Int) > 1 then ((ns.map V.int).length : Int) else 1) := by
      split <;> omega
    refine ⟨_, _, rfl, rfl, hjp, ?_⟩
    have e0 := Int.emod_nonneg t (Int.ne_of_gt hjp)
    have e1 := Int.emod_lt_of_pos t hjp
    generalize hat : t % (if ((ns.map V.int).length : Int) > 1 then ((ns.map V.int).length : Int) else 1) = at_ at e0 e1
    refine ⟨_, rfl, h, _, 1, _, rfl, rfl, SqL.of hH, rfl, Nat.zero_le _, fun p hp => ?_⟩
    have kp : Kp [] H (upd H p (.lst [])) := Kp.new hp
    have hPp : upd H p (.lst []) p = some (.lst []) := upd_same
    have hH1 := kp.lst hH List.not_mem_nil
    have hL1 := kp.lst hL List.not_mem_nil
    generalize upd H p (.lst []) = H1 at kp hPp hH1 hL1 ⊢
    refine ⟨.list (ns.map PyData.int), .list [], .lst (SqL.of hL1) (dp_ints ns), .lst (SqL.of hPp) .nil, ints_shaped ns, ints_shaped [], ?_⟩
    by_cases hns : ns = []
    · subst hns
      refine ⟨_, rfl, iteF' (by simp [PyData.eqv, PyData.eqvAll]) ?_⟩
      refine ⟨_, rfl, _, _, rfl, rfl, ⟨by decide, by decide, by decide⟩, _, _, rfl, rfl, _, rfl, itD0 (by decide) ?_⟩
      have kend : ∀ (M' t' : Int), Kp [h, l] H (upd (upd H1 h (.lst [.int M', .ref l, .int t])) h (.lst [.int M', .ref l, .int t'])) := fun M' t' => by
        rw [upd_upd]
        exact kp.w0.trans (Kp.chg hH1 (by simp))
      refine ⟨_, rfl, h, _, 0, _, rfl, rfl, SqL.of hH1, rfl, _, _, rfl, rfl, .inl ⟨by omega, by omega⟩, _, rfl, _, _, rfl, rfl, .inr ⟨by omega, by omega⟩, _, _, rfl, rfl, _, _, rfl, rfl, _, _, rfl, rfl, (by show (0 : Int) < 2147483647; decide), ?_⟩
      refine ⟨_, rfl, h, _, 0, 0, rfl, rfl, hH1, rfl, ?_⟩
      have mz0 : 0 ≤ ((m * 48271 + 0 * 69621 + 11) % 2147483647) := by
        skip
        exact Int.emod_nonneg _ (by decide)
      have mz1 : ((m * 48271 + 0 * 69621 + 11) % 2147483647) < 2147483647 := by
        skip
        exact Int.emod_lt_of_pos _ (by decide)
      refine ⟨_, rfl, h, [.int ((m * 48271 + 0 * 69621 + 11) % 2147483647), .ref l, .int t], 2, _, rfl, rfl, SqL.of upd_same, rfl, _, _, rfl, rfl, _, rfl, h, [.int ((m * 48271 + 0 * 69621 + 11) % 2147483647), .ref l, .int t], 2, 2, rfl, rfl, upd_same, rfl, ?_⟩
      refine ⟨_, rfl, h, [.int ((m * 48271 + 0 * 69621 + 11) % 2147483647), .ref l, .int (t + 1)], 0, _, rfl, rfl, SqL.of upd_same, rfl, _, _, rfl, rfl, ⟨by show (0 : Int) < 7; decide, by show (7 : Int) < 1073741824; decide⟩, _, rfl, _, _, rfl, rfl, my0, ?_⟩
      refine q _ _ (kend ((m * 48271 + 0 * 69621 + 11) % 2147483647) (t + 1)) ⟨((m * 48271 + 0 * 69621 + 11) % 2147483647), t + 1, [], upd_same, ?_, hne, mz0, mz1, h64⟩ (Int.emod_nonneg _ (by omega)) (Int.emod_lt_of_pos _ my0)
      rw [upd_ne (Ne.symm hne), upd_ne (Ne.symm hne)]
      exact hL1
    · obtain ⟨n0, ns', hns'⟩ : ∃ n0 ns', ns = n0 :: ns' := by
        cases ns with
        | nil => exact absurd rfl hns
        | cons a b => exact ⟨a, b, rfl⟩
      have hlen : (1 : Int) ≤ ((ns.map V.int).length : Int) := by
        rw [List.length_map, hns', List.length_cons]
        omega
      have hlt : at_ < ((ns.map V.int).length : Int) := by
        split at e1 <;> omega
      have hltn : at_.toNat < ns.length := by
        rw [List.length_map] at hlt
        omega
      have hix : (ns.map V.int)[at_.toNat]? = some (.int ns[at_.toNat]) := by
        rw [List.getElem?_map, List.getElem?_eq_getElem hltn]
        rfl
      have eat : at_ = ((at_.toNat : Nat) : Int) := by omega
      have hai : atI (ns.map V.int) at_ = some (.int ns[at_.toNat]) := by
        have z := atI_nat hix
        rw [← eat] at z
        exact z
      have hin : ixN (ns.map V.int).length at_ = some at_.toNat := ixN_nat e0 hlt
      generalize ns[at_.toNat] = c at hai
      refine ⟨_, rfl, iteT' (by rw [hns']; simp [PyData.eqv, PyData.eqvAll]) ?_⟩
      refine ⟨_, rfl, h, _, 1, _, rfl, rfl, SqL.of hH1, rfl, _, rfl, l, _, at_, .int c, rfl, congrArg V.int hat, SqL.of hL1, hai, ?_⟩
      refine ⟨_, rfl, _, _, rfl, rfl, ⟨by decide, by decide, by decide⟩, _, _, rfl, rfl, _, rfl, ite2 (fun big => ?_) (fun small => ?_)⟩
      · refine ⟨_, rfl, _, rfl, _, _, rfl, rfl, ⟨my0, my1⟩, ?_⟩
        refine ⟨_, rfl, h, _, 1, _, rfl, rfl, SqL.of hH1, rfl, _, rfl, l, _, at_, _, rfl, congrArg V.int hat, hL1, hin, ?_⟩
        refine ⟨_, rfl, _, rfl, _, _, rfl, rfl, my0, ?_⟩
        refine q _ _ (kp.w0.trans (Kp.chg hL1 (by simp))) ⟨m, t, ns.set at_.toNat (c / many), ?_, ?_, hne, m0, m1, by rw [List.length_set]; exact h64⟩ (Int.emod_nonneg _ (by omega)) (Int.emod_lt_of_pos _ my0)
        · rw [upd_ne hne]
          exact hH1
        · rw [upd_same, List.map_set]
      · have dummy := small
        have kend : ∀ (M' t' : Int), Kp [h, l] H (upd (upd H1 h (.lst [.int M', .ref l, .int t])) h (.lst [.int M', .ref l, .int t'])) := fun M' t' => by
          rw [upd_upd]
          exact kp.w0.trans (Kp.chg hH1 (by simp))
        refine ⟨_, rfl, h, _, 0, _, rfl, rfl, SqL.of hH1, rfl, _, _, rfl, rfl, .inl ⟨by omega, by omega⟩, _, rfl, _, _, rfl, rfl, .inr ⟨by omega, by omega⟩, _, _, rfl, rfl, _, _, rfl, rfl, _, _, rfl, rfl, (by show (0 : Int) < 2147483647; decide), ?_⟩
        refine ⟨_, rfl, h, _, 0, 0, rfl, rfl, hH1, rfl, ?_⟩
        have mz0 : 0 ≤ ((m * 48271 + c * 69621 + 11) % 2147483647) := by
          skip
          exact Int.emod_nonneg _ (by decide)
        have mz1 : ((m * 48271 + c * 69621 + 11) % 2147483647) < 2147483647 := by
          skip
          exact Int.emod_lt_of_pos _ (by decide)
        refine ⟨_, rfl, h, [.int ((m * 48271 + c * 69621 + 11) % 2147483647), .ref l, .int t], 2, _, rfl, rfl, SqL.of upd_same, rfl, _, _, rfl, rfl, _, rfl, h, [.int ((m * 48271 + c * 69621 + 11) % 2147483647), .ref l, .int t], 2, 2, rfl, rfl, upd_same, rfl, ?_⟩
        refine ⟨_, rfl, h, [.int ((m * 48271 + c * 69621 + 11) % 2147483647), .ref l, .int (t + 1)], 0, _, rfl, rfl, SqL.of upd_same, rfl, _, _, rfl, rfl, ⟨by show (0 : Int) < 7; decide, by show (7 : Int) < 1073741824; decide⟩, _, rfl, _, _, rfl, rfl, my0, ?_⟩
        refine q _ _ (kend ((m * 48271 + c * 69621 + 11) % 2147483647) (t + 1)) ⟨((m * 48271 + c * 69621 + 11) % 2147483647), t + 1, ns, upd_same, ?_, hne, mz0, mz1, h64⟩ (Int.emod_nonneg _ (by omega)) (Int.emod_lt_of_pos _ my0)
        rw [upd_ne (Ne.symm hne), upd_ne (Ne.symm hne)]
        exact hL1
end LP
end

section
set_option Elab.async false
set_option linter.all false
set_option maxRecDepth 100000
set_option maxHeartbeats 2000000
/-! _law_alike -/
namespace LP
open PySem PySem.Spec PyProof.Rows L2 Ly GY
variable [LamTab] {P : Program} {W0 : World} {K : PySem.W.Frag} {mg : Str → Option Value} {base : Heap}
mutual
def okD : PyData → Bool
  | .int _ => true
  | .str _ => true
  | .none => true
  | .bool _ => true
  | .list ds => okDs ds && decide (ds.length ≤ 1000)
  | .tuple ds => okDs ds && decide (ds.length ≤ 1000)
  | _ => false
def okDs : List PyData → Bool
  | [] => true
  | d :: ds => okD d && okDs ds
end
theorem okDs_at : ∀ {ds : List PyData} {i : Nat} {d : PyData}, okDs ds = true → ds[i]? = some d → okD d = true
  | [], _, _, _, h => by simp at h
  | d :: ds, 0, e, h, q => by
    unfold okDs at h
    simp at q
    subst q
    exact (Bool.and_eq_true_iff.mp h).1
  | d :: ds, i + 1, e, h, q => by
    unfold okDs at h
    exact okDs_at (Bool.and_eq_true_iff.mp h).2 (by simpa using q)
theorem depth_at : ∀ {ds : List PyData} {i : Nat} {d : PyData}, ds[i]? = some d → d.depth ≤ PyData.depthAll ds
  | [], _, _, h => by simp at h
  | d :: ds, 0, e, q => by
    simp at q
    subst q
    simp only [PyData.depthAll]
    omega
  | d :: ds, i + 1, e, q => by
    have := depth_at (ds := ds) (i := i) (d := e) (by simpa using q)
    simp only [PyData.depthAll]
    omega
theorem dpAll_length {H : Hp} : ∀ {vs : List V} {ds : List PyData}, DpAll K H vs ds → vs.length = ds.length
  | _, [], h => by cases h; rfl
  | _, _ :: _, h => by
    cases h with
    | cons _ t => exact congrArg (· + 1) (dpAll_length t)
theorem dpAll_at {H : Hp} : ∀ {vs : List V} {ds : List PyData} {i : Nat}, DpAll K H vs ds → i < ds.length → ∃ v d, vs[i]? = some v ∧ ds[i]? = some d ∧ Dp K H v d
  | _, [], _, _, hi => by simp at hi
  | _, d :: ds, 0, h, _ => by
    cases h with
    | cons a _ => exact ⟨_, d, rfl, rfl, a⟩
  | _, d :: ds, i + 1, h, hi => by
    cases h with
    | cons _ t =>
      obtain ⟨v, e, h1, h2, h3⟩ := dpAll_at (i := i) t (by simpa using hi)
      exact ⟨v, e, by simpa using h1, by simpa using h2, h3⟩
theorem kaT : PySem.W.kitAny K (.type "tuple") [.type "tuple", .type "list"] = some true := kitAny_cons (b := true) (kit_ty (by decide +kernel)) (fun z => by cases z) (fun _ => rfl)
theorem kaL : PySem.W.kitAny K (.type "list") [.type "tuple", .type "list"] = some true := kitAny_cons (b := false) (kit_ty (by decide +kernel)) (fun _ => kitAny_cons (b := true) (kit_ty (by decide +kernel)) (fun z => by cases z) (fun _ => rfl)) (fun z => by cases z)
theorem kaS : PySem.W.kitAny K (.type "str") [.type "tuple", .type "list"] = some false := kitAny_cons (b := false) (kit_ty (by decide +kernel)) (fun _ => kitAny_cons (b := false) (kit_ty (by decide +kernel)) (fun _ => rfl) (fun z => by cases z)) (fun z => by cases z)
theorem kaI : PySem.W.kitAny K (.type "int") [.type "tuple", .type "list"] = some false := kitAny_cons (b := false) (kit_ty (by decide +kernel)) (fun _ => kitAny_cons (b := false) (kit_ty (by decide +kernel)) (fun _ => rfl) (fun z => by cases z)) (fun z => by cases z)
theorem kaN : PySem.W.kitAny K (.type "NoneType") [.type "tuple", .type "list"] = some false := kitAny_cons (b := false) (kit_ty (by decide +kernel)) (fun _ => kitAny_cons (b := false) (kit_ty (by decide +kernel)) (fun _ => rfl) (fun z => by cases z)) (fun z => by cases z)
theorem kaB : PySem.W.kitAny K (.type "bool") [.type "tuple", .type "list"] = some false := kitAny_cons (b := false) (kit_ty (by decide +kernel)) (fun _ => kitAny_cons (b := false) (kit_ty (by decide +kernel)) (fun _ => rfl) (fun z => by cases z)) (fun z => by cases z)
theorem itN {i j : Int} {A B : Prop} (h : i = j) (b : B) : if (!decide (V.int i = V.int j)) = true then A else B := by
  subst h
  rw [decide_eq_true rfl]
  exact iteF b
def spAlike (K : PySem.W.Frag) (n : Nat) : Sp := fun vs H Q _ => ∃ (x y : V) (d : PyData), vs = [x, y] ∧ Dp K H x d ∧ Dp K H y d ∧ okD d = true ∧ d.depth < n ∧ ∀ H', Kp [] H H' → Q (.bl true) H'
theorem scAlike : FnScope ["_law_found", "_law_due", "_law_k"] ["_law_found", "_law_due"] (defScope lAlike) := ⟨rfl, rfl, rfl, by decide +kernel, rfl, by decide +kernel, by decide +kernel⟩
theorem alike_step {n : Nat} {f : Addr} {fd : FuncData} (F : Fun K "_law_alike" "_law_alike" lAlike f fd) (T : Nm K mg) (U : Nl K mg) (N : Fn K mg "_law_alike" f fd ["_law_found", "_law_due"]) (G : FnOk P W0 K mg base CX0 (1 + n) f fd ["_law_found", "_law_due"] (spAlike K n)) :
    FnOk P W0 K mg base CX0 (1 + n + 1) f fd ["_law_found", "_law_due"] (spAlike K (n + 1)) := by
  refine F.ok scAlike (fun vs H Q E h => ?_) (fun cdv A outer s H vs Q E hr h => ?_)
  · obtain ⟨x, y, d, rfl, _⟩ := h
    rfl
  · obtain ⟨x, y, d, rfl, hx, hy, hok, hdp, q⟩ := h
    refine ⟨_, pss_cons (ps_if (pt_val (pe_callB call_isiT (by rfl) T.isinstance (by decide +kernel) (pa_cons (pv 1) (pa_cons (pe_tup (pa_cons (pe_bltn (by rfl) T.tuple (by decide +kernel) (v := .ty "tuple") rfl) (pa_cons (pe_bltn (by rfl) T.list (by decide +kernel) (v := .ty "list") rfl) pa_nil))) pa_nil)))) (pss_cons (ps_if (PW.pt (pw_or (pt_not (pt_val (pe_callB call_isiT (by rfl) T.isinstance (by decide +kernel) (pa_cons (pv 0) (pa_cons (pe_tup (pa_cons (pe_bltn (by rfl) T.tuple (by decide +kernel) (v := .ty "tuple") rfl) (pa_cons (pe_bltn (by rfl) T.list (by decide +kernel) (v := .ty "list") rfl) pa_nil))) pa_nil))))) (pw_or1 (pt_cmpR op_ne (pe_callB call_isi (by rfl) T.isinstance (by decide +kernel) (pa_cons (pv 0) (pa_cons (pe_bltn (by rfl) T.list (by decide +kernel) (v := .ty "list") rfl) pa_nil))) (pe_callB call_isi (by rfl) T.isinstance (by decide +kernel) (pa_cons (pv 1) (pa_cons (pe_bltn (by rfl) T.list (by decide +kernel) (v := .ty "list") rfl) pa_nil))) (nomark _))))) (pss_one (ps_ret pe_bl)) pss_nil)
        (pss_cons (ps_if (pt_cmpR op_ne (pe_callB call_len_seq (by rfl) T.len PySem.boot_len (pa_cons (pv 0) pa_nil)) (pe_callB call_len_seq (by rfl) T.len PySem.boot_len (pa_cons (pv 1) pa_nil)) (nomark _)) (pss_one (ps_ret pe_bl)) pss_nil)
        (pss_one (ps_ret (pe_cmpR (op_eqD hr.units) (pe_lc (own := [("_law_k", 2)]) (g := gName 2) rfl scAlike.nd (pi_range1 (by rfl) T.range (pa_cons (pe_callB call_len_seq (by rfl) T.len PySem.boot_len (pa_cons (pv 1) pa_nil)) pa_nil)) (blkOk_by (own := [("_law_k", 2)]) (N := ["_law_found", "_law_due", "_law_k"]) (sc := defScope lAlike) (by decide +kernel))
            (fun _ _ _ _ _ => pg_name (i := 2) scAlike.nd rfl (.inl rfl)) (fun _ _ _ _ _ => pts_one (pt_not (pt_val (pe_call G hr (by rfl) N.m N.kp N.b .nil pass0 (pa_cons (pe_ix (r := rIx K) ix_seq (pv 0) (pv 2) (fun _ _ => rfl)) (pa_cons (pe_ix (r := rIx K) ix_seq (pv 1) (pv 2) (fun _ _ => rfl)) pa_nil)))))) (fun _ _ _ _ _ => pv 2)) (pe_lst pa_nil) (nomark _)))))) pss_nil)
      (pss_cons (ps_if (pt_cmpR op_isN (pv 1) pe_non (nomark _)) (pss_one (ps_ret (pe_cmpR op_isN (pv 0) pe_non (nomark _)))) pss_nil)
      (pss_cons (ps_if (pt_val (pe_callB call_isi (by rfl) T.isinstance (by decide +kernel) (pa_cons (pv 1) (pa_cons (pe_bltn (by rfl) U.str (by decide +kernel) (v := .ty "str") rfl) pa_nil)))) (pss_one (ps_ret (pe_and (pe_callB call_isi (by rfl) T.isinstance (by decide +kernel) (pa_cons (pv 0) (pa_cons (pe_bltn (by rfl) U.str (by decide +kernel) (v := .ty "str") rfl) pa_nil))) (pe_one (pe_cmpR op_eq (pv 0) (pv 1) (nomark _)))))) pss_nil)
      (pss_cons (ps_if (PW.pt (pw_or (pt_val (pe_callB call_isi (by rfl) T.isinstance (by decide +kernel) (pa_cons (pv 1) (pa_cons (pe_bltn (by rfl) T.bool (by decide +kernel) (v := .ty "bool") rfl) pa_nil)))) (pw_or1 (pt_val (pe_callB call_isi (by rfl) T.isinstance (by decide +kernel) (pa_cons (pv 0) (pa_cons (pe_bltn (by rfl) T.bool (by decide +kernel) (v := .ty "bool") rfl) pa_nil))))))) (pss_one (ps_ret (pe_and (pe_callB call_isi (by rfl) T.isinstance (by decide +kernel) (pa_cons (pv 1) (pa_cons (pe_bltn (by rfl) T.bool (by decide +kernel) (v := .ty "bool") rfl) pa_nil))) (pe_and (pe_callB call_isi (by rfl) T.isinstance (by decide +kernel) (pa_cons (pv 0) (pa_cons (pe_bltn (by rfl) T.bool (by decide +kernel) (v := .ty "bool") rfl) pa_nil))) (pe_one (pe_cmpR op_eq (pv 0) (pv 1) (nomark _))))))) pss_nil)
      (pss_one (ps_ret (pe_and (pe_callB call_isi (by rfl) T.isinstance (by decide +kernel) (pa_cons (pv 0) (pa_cons (pe_bltn (by rfl) T.int (by decide +kernel) (v := .ty "int") rfl) pa_nil))) (pe_one (pe_cmpR op_eq (pv 0) (pv 1) (nomark _))))))))), ?_⟩
    cases d with
    | list ds =>
      obtain ⟨a, xs, rfl, ha, hxa⟩ : ∃ a xs, x = .ref a ∧ SqL K H a xs ∧ DpAll K H xs ds := by
        cases hx with
        | lst h1 h2 => exact ⟨_, _, rfl, h1, h2⟩
      obtain ⟨b, ys, rfl, hb, hyb⟩ : ∃ b ys, y = .ref b ∧ SqL K H b ys ∧ DpAll K H ys ds := by
        cases hy with
        | lst h1 h2 => exact ⟨_, _, rfl, h1, h2⟩
      have hlx := dpAll_length hxa
      have hly := dpAll_length hyb
      have hokp : okDs ds = true ∧ ds.length ≤ 1000 := by
        unfold okD at hok
        simpa using hok
      refine ⟨_, rfl, (by show 2 ≤ sizeLine; decide), fun T1 hT1 => ⟨_, T1, _, _, _, _, rfl, upd_same, .cons (.ty _) (.cons (.ty _) .nil), ty_lst ((Kp.new hT1 (S := [])).sqL hb List.not_mem_nil), kaL, true, rfl, iteT ?_⟩⟩
      have k1 : Kp [] H (upd H T1 (.tup [.ty "tuple", .ty "list"])) := Kp.new hT1
      generalize upd H T1 (.tup [.ty "tuple", .ty "list"]) = H1 at k1 ⊢
      refine ⟨_, rfl, (by show 2 ≤ sizeLine; decide), fun T2 hT2 => ⟨_, T2, _, _, _, _, rfl, upd_same, .cons (.ty _) (.cons (.ty _) .nil), ty_lst ((k1.trans (Kp.new hT2)).sqL ha List.not_mem_nil), kaL, true, rfl, iteF ?_⟩⟩
      have k2 : Kp [] H (upd H1 T2 (.tup [.ty "tuple", .ty "list"])) := k1.trans (Kp.new hT2)
      generalize upd H1 T2 (.tup [.ty "tuple", .ty "list"]) = H2 at k2 ⊢
      refine ⟨_, rfl, _, _, _, _, _, rfl, .ty _, (ty_lst (k2.sqL ha List.not_mem_nil)), kit_ty (r := true) (by decide +kernel), _, rfl, _, _, _, _, _, rfl, .ty _, (ty_lst (k2.sqL hb List.not_mem_nil)), kit_ty (r := true) (by decide +kernel), rfl, _, rfl, iteF ?_⟩
      refine ⟨_, rfl, a, _, rfl, .inl (k2.sqL ha List.not_mem_nil), _, rfl, b, _, rfl, .inl (k2.sqL hb List.not_mem_nil), rfl, _, rfl, itN (by rw [hlx, hly]) ?_⟩
      refine ⟨_, rfl, b, _, rfl, .inl (k2.sqL hb List.not_mem_nil), _, rfl, by omega, by omega, fun D hD => lc_range (lo := 0) (n := ys.length) (fun i H' => Kp [] H2 H' ∧ H' D = some (.lst [])) ⟨Kp.new hD, upd_same⟩ (fun i H' hi pv => ?_) (fun H' pv => ?_)⟩
      · obtain ⟨k, hDl⟩ := pv
        obtain ⟨vx, dx, ex1, ex2, ex3⟩ := dpAll_at (i := i) hxa (by omega)
        obtain ⟨vy, dy, ey1, ey2, ey3⟩ := dpAll_at (i := i) hyb (by omega)
        rw [ex2] at ey2
        cases ey2
        have e0 : (0 : Int) + (i : Int) = ((i : Nat) : Int) := by omega
        have hdd := depth_at ex2
        refine ⟨rfl, _, rfl, _, rfl, .inl ⟨a, xs, _, vx, rfl, rfl, (k2.trans k).sqL ha List.not_mem_nil, (by rw [e0]; exact atI_nat ex1), ?_⟩⟩
        refine ⟨_, rfl, _, rfl, .inl ⟨b, ys, _, vy, rfl, rfl, (k2.trans k).sqL hb List.not_mem_nil, (by rw [e0]; exact atI_nat ey1), ?_⟩⟩
        refine ⟨vx, vy, dx, rfl, dp_mono (k2.trans k) _ ex3 (.inr rfl), dp_mono (k2.trans k) _ ey3 (.inr rfl), okDs_at hokp.1 ex2, ?_, fun H4 k4 => ⟨true, rfl, iteF ⟨k.trans k4, k4.lst hDl List.not_mem_nil⟩⟩⟩
        simp only [PyData.depth] at hdp
        omega
      · obtain ⟨k, hDl⟩ := pv
        refine ⟨Nat.zero_le _, fun p hp => ?_⟩
        have kp : Kp [] H' (upd H' p (.lst [])) := Kp.new hp
        refine ⟨.list [], .list [], .lst (SqL.of (kp.lst hDl List.not_mem_nil)) .nil, .lst (SqL.of upd_same) .nil, ints_shaped [], ints_shaped [], ?_⟩
        have z := q _ ((k2.trans k).trans kp)
        rw [show PyData.eqv (.list []) (.list []) = true from by simp [PyData.eqv, PyData.eqvAll]]
        exact z
    | tuple ds =>
      obtain ⟨a, xs, rfl, ha, hxa⟩ : ∃ a xs, x = .ref a ∧ SqT K H a xs ∧ DpAll K H xs ds := by
        cases hx with
        | tup h1 h2 => exact ⟨_, _, rfl, h1, h2⟩
      obtain ⟨b, ys, rfl, hb, hyb⟩ : ∃ b ys, y = .ref b ∧ SqT K H b ys ∧ DpAll K H ys ds := by
        cases hy with
        | tup h1 h2 => exact ⟨_, _, rfl, h1, h2⟩
      have hlx := dpAll_length hxa
      have hly := dpAll_length hyb
      have hokp : okDs ds = true ∧ ds.length ≤ 1000 := by
        unfold okD at hok
        simpa using hok
      refine ⟨_, rfl, (by show 2 ≤ sizeLine; decide), fun T1 hT1 => ⟨_, T1, _, _, _, _, rfl, upd_same, .cons (.ty _) (.cons (.ty _) .nil), ty_tup ((Kp.new hT1 (S := [])).sqT hb), kaT, true, rfl, iteT ?_⟩⟩
      have k1 : Kp [] H (upd H T1 (.tup [.ty "tuple", .ty "list"])) := Kp.new hT1
      generalize upd H T1 (.tup [.ty "tuple", .ty "list"]) = H1 at k1 ⊢
      refine ⟨_, rfl, (by show 2 ≤ sizeLine; decide), fun T2 hT2 => ⟨_, T2, _, _, _, _, rfl, upd_same, .cons (.ty _) (.cons (.ty _) .nil), ty_tup ((k1.trans (Kp.new hT2)).sqT ha), kaT, true, rfl, iteF ?_⟩⟩
      have k2 : Kp [] H (upd H1 T2 (.tup [.ty "tuple", .ty "list"])) := k1.trans (Kp.new hT2)
      generalize upd H1 T2 (.tup [.ty "tuple", .ty "list"]) = H2 at k2 ⊢
      refine ⟨_, rfl, _, _, _, _, _, rfl, .ty _, (ty_tup (k2.sqT ha)), kit_ty (r := false) (by decide +kernel), _, rfl, _, _, _, _, _, rfl, .ty _, (ty_tup (k2.sqT hb)), kit_ty (r := false) (by decide +kernel), rfl, _, rfl, iteF ?_⟩
      refine ⟨_, rfl, a, _, rfl, .inr (k2.sqT ha), _, rfl, b, _, rfl, .inr (k2.sqT hb), rfl, _, rfl, itN (by rw [hlx, hly]) ?_⟩
      refine ⟨_, rfl, b, _, rfl, .inr (k2.sqT hb), _, rfl, by omega, by omega, fun D hD => lc_range (lo := 0) (n := ys.length) (fun i H' => Kp [] H2 H' ∧ H' D = some (.lst [])) ⟨Kp.new hD, upd_same⟩ (fun i H' hi pv => ?_) (fun H' pv => ?_)⟩
      · obtain ⟨k, hDl⟩ := pv
        obtain ⟨vx, dx, ex1, ex2, ex3⟩ := dpAll_at (i := i) hxa (by omega)
        obtain ⟨vy, dy, ey1, ey2, ey3⟩ := dpAll_at (i := i) hyb (by omega)
        rw [ex2] at ey2
        cases ey2
        have e0 : (0 : Int) + (i : Int) = ((i : Nat) : Int) := by omega
        have hdd := depth_at ex2
        refine ⟨rfl, _, rfl, _, rfl, .inr (.inl ⟨a, xs, _, vx, rfl, rfl, (k2.trans k).sqT ha, (by rw [e0]; exact atI_nat ex1), ?_⟩)⟩
        refine ⟨_, rfl, _, rfl, .inr (.inl ⟨b, ys, _, vy, rfl, rfl, (k2.trans k).sqT hb, (by rw [e0]; exact atI_nat ey1), ?_⟩)⟩
        refine ⟨vx, vy, dx, rfl, dp_mono (k2.trans k) _ ex3 (.inr rfl), dp_mono (k2.trans k) _ ey3 (.inr rfl), okDs_at hokp.1 ex2, ?_, fun H4 k4 => ⟨true, rfl, iteF ⟨k.trans k4, k4.lst hDl List.not_mem_nil⟩⟩⟩
        simp only [PyData.depth] at hdp
        omega
      · obtain ⟨k, hDl⟩ := pv
        refine ⟨Nat.zero_le _, fun p hp => ?_⟩
        have kp : Kp [] H' (upd H' p (.lst [])) := Kp.new hp
        refine ⟨.list [], .list [], .lst (SqL.of (kp.lst hDl List.not_mem_nil)) .nil, .lst (SqL.of upd_same) .nil, ints_shaped [], ints_shaped [], ?_⟩
        have z := q _ ((k2.trans k).trans kp)
        rw [show PyData.eqv (.list []) (.list []) = true from by simp [PyData.eqv, PyData.eqvAll]]
        exact z
    | str u =>
      obtain rfl : x = .str u := by cases hx; rfl
      obtain rfl : y = .str u := by cases hy; rfl
      refine ⟨_, rfl, (by show 2 ≤ sizeLine; decide), fun T1 hT1 => ⟨_, T1, _, _, _, _, rfl, upd_same, .cons (.ty _) (.cons (.ty _) .nil), .base (.str _), kaS, false, rfl, iteF ?_⟩⟩
      have k1 : Kp [] H (upd H T1 (.tup [.ty "tuple", .ty "list"])) := Kp.new hT1
      generalize upd H T1 (.tup [.ty "tuple", .ty "list"]) = H1 at k1 ⊢
      refine ⟨_, rfl, rfl, _, rfl, itD0 (by simp) ?_⟩
      refine ⟨_, rfl, _, _, _, _, _, rfl, .ty _, .base (.str _), kit_ty (r := true) (by decide +kernel), true, rfl, iteT ?_⟩
      refine ⟨_, rfl, _, _, _, _, _, rfl, .ty _, .base (.str _), kit_ty (r := true) (by decide +kernel), true, rfl, iteT ?_⟩
      refine ⟨_, rfl, _, rfl, (by simp [scal]), ?_⟩
      rw [decide_eq_true rfl]
      exact q H1 k1
    | int u =>
      obtain rfl : x = .int u := by cases hx; rfl
      obtain rfl : y = .int u := by cases hy; rfl
      refine ⟨_, rfl, (by show 2 ≤ sizeLine; decide), fun T1 hT1 => ⟨_, T1, _, _, _, _, rfl, upd_same, .cons (.ty _) (.cons (.ty _) .nil), .base (.int _), kaI, false, rfl, iteF ?_⟩⟩
      have k1 : Kp [] H (upd H T1 (.tup [.ty "tuple", .ty "list"])) := Kp.new hT1
      generalize upd H T1 (.tup [.ty "tuple", .ty "list"]) = H1 at k1 ⊢
      refine ⟨_, rfl, rfl, _, rfl, itD0 (by simp) ?_⟩
      refine ⟨_, rfl, _, _, _, _, _, rfl, .ty _, .base (.int _), kit_ty (r := false) (by decide +kernel), false, rfl, iteF ?_⟩
      refine ⟨_, rfl, _, _, _, _, _, rfl, .ty _, .base (.int _), kit_ty (r := false) (by decide +kernel), false, rfl, iteF ?_⟩
      refine ⟨_, rfl, _, _, _, _, _, rfl, .ty _, .base (.int _), kit_ty (r := false) (by decide +kernel), false, rfl, iteF ?_⟩
      refine ⟨_, rfl, _, _, _, _, _, rfl, .ty _, .base (.int _), kit_ty (r := true) (by decide +kernel), true, rfl, iteT ?_⟩
      refine ⟨_, rfl, _, rfl, (by simp [scal]), ?_⟩
      rw [decide_eq_true rfl]
      exact q H1 k1
    | none =>
      obtain rfl : x = .non := by cases hx; rfl
      obtain rfl : y = .non := by cases hy; rfl
      refine ⟨_, rfl, (by show 2 ≤ sizeLine; decide), fun T1 hT1 => ⟨_, T1, _, _, _, _, rfl, upd_same, .cons (.ty _) (.cons (.ty _) .nil), .base .non, kaN, false, rfl, iteF ?_⟩⟩
      have k1 : Kp [] H (upd H T1 (.tup [.ty "tuple", .ty "list"])) := Kp.new hT1
      generalize upd H T1 (.tup [.ty "tuple", .ty "list"]) = H1 at k1 ⊢
      refine ⟨_, rfl, rfl, _, rfl, itD1 rfl ?_⟩
      refine ⟨_, rfl, rfl, ?_⟩
      rw [decide_eq_true rfl]
      exact q H1 k1
    | bool u =>
      obtain rfl : x = .bl u := by cases hx; rfl
      obtain rfl : y = .bl u := by cases hy; rfl
      refine ⟨_, rfl, (by show 2 ≤ sizeLine; decide), fun T1 hT1 => ⟨_, T1, _, _, _, _, rfl, upd_same, .cons (.ty _) (.cons (.ty _) .nil), .base (.bl _), kaB, false, rfl, iteF ?_⟩⟩
      have k1 : Kp [] H (upd H T1 (.tup [.ty "tuple", .ty "list"])) := Kp.new hT1
      generalize upd H T1 (.tup [.ty "tuple", .ty "list"]) = H1 at k1 ⊢
      refine ⟨_, rfl, rfl, _, rfl, itD0 (by simp) ?_⟩
      refine ⟨_, rfl, _, _, _, _, _, rfl, .ty _, .base (.bl _), kit_ty (r := false) (by decide +kernel), false, rfl, iteF ?_⟩
      refine ⟨_, rfl, _, _, _, _, _, rfl, .ty _, .base (.bl _), kit_ty (r := true) (by decide +kernel), true, rfl, iteT ?_⟩
      refine ⟨_, rfl, _, _, _, _, _, rfl, .ty _, .base (.bl _), kit_ty (r := true) (by decide +kernel), true, rfl, iteT ?_⟩
      refine ⟨_, rfl, _, _, _, _, _, rfl, .ty _, .base (.bl _), kit_ty (r := true) (by decide +kernel), true, rfl, iteT ?_⟩
      refine ⟨_, rfl, _, rfl, (by simp [scal]), ?_⟩
      rw [decide_eq_true rfl]
      exact q H1 k1
    | dict _ => cases hok
theorem alike_none {f : Addr} {fd : FuncData} : FnOk P W0 K mg base CX0 1 f fd ["_law_found", "_law_due"] (spAlike K 0) := by
  have no : ∀ vs H Q E, ¬ spAlike K 0 vs H Q E := fun vs H Q E h => by
    obtain ⟨_, _, _, _, _, _, _, hn, _⟩ := h
    omega
  exact ⟨fun vs H Q E h => absurd h (no vs H Q E), fun A outer s H args us vs Q E _ _ _ _ h => absurd h (no vs H Q E)⟩
theorem ok_alike {f : Addr} {fd : FuncData} (F : Fun K "_law_alike" "_law_alike" lAlike f fd) (T : Nm K mg) (U : Nl K mg) (N : Fn K mg "_law_alike" f fd ["_law_found", "_law_due"]) :
    ∀ n : Nat, FnOk P W0 K mg base CX0 (1 + n) f fd ["_law_found", "_law_due"] (spAlike K n)
  | 0 => alike_none
  | n + 1 => alike_step F T U N (ok_alike F T U N n)
end LP
end

section
set_option Elab.async false
set_option linter.all false
set_option maxRecDepth 100000
set_option maxHeartbeats 2000000
/-! _law_inside -/
namespace LP
open PySem PySem.Spec PyProof.Rows L2 Ly GY
variable [LamTab] {P : Program} {W0 : World} {K : PySem.W.Frag} {mg : Str → Option Value} {base : Heap}
def blkAt (k : C3) (x y z a b c : Int) (i : Nat) : Bool :=
  if i = 0 then decide (0 ≤ k.1 - x) && decide (k.1 - x < a) else if i = 1 then decide (0 ≤ k.2.1 - y) && decide (k.2.1 - y < b) else decide (0 ≤ k.2.2 - z) && decide (k.2.2 - z < c)
theorem inside_blk (k : C3) (x y z a b c : Int) : inside (.block x y z a b c) k = (List.range 3).all (blkAt k x y z a b c) := by
  show inside (.block x y z a b c) k = [0, 1, 2].all (blkAt k x y z a b c)
  unfold inside blkAt
  rw [Bool.eq_iff_iff]
  simp
theorem all_succ (p : Nat → Bool) (i : Nat) : (List.range (i + 1)).all p = ((List.range i).all p && p i) := by
  rw [List.range_succ, List.all_append]
  simp
theorem kxy : ¬ (Sum.inr ("x" : Str) : Key) = Sum.inr ("y" : Str) := by decide +kernel
theorem kxz : ¬ (Sum.inr ("x" : Str) : Key) = Sum.inr ("z" : Str) := by decide +kernel
theorem kyz : ¬ (Sum.inr ("y" : Str) : Key) = Sum.inr ("z" : Str) := by decide +kernel
theorem kyx : ¬ (Sum.inr ("y" : Str) : Key) = Sum.inr ("x" : Str) := by decide +kernel
theorem kzx : ¬ (Sum.inr ("z" : Str) : Key) = Sum.inr ("x" : Str) := by decide +kernel
theorem kzy : ¬ (Sum.inr ("z" : Str) : Key) = Sum.inr ("y" : Str) := by decide +kernel
theorem backM (a b c : V) : mergeK [] [(Sum.inr "x", a), (Sum.inr "y", b), (Sum.inr "z", c)] = ([(Sum.inr ("x" : Str), a), (Sum.inr ("y" : Str), b), (Sum.inr ("z" : Str), c)] : List (Key × V)) := by
  simp only [mergeK, putK, List.foldl, List.any_nil, List.any_cons, List.nil_append, List.cons_append, List.map_cons, List.map_nil, decide_eq_false kxy, decide_eq_false kxz, decide_eq_false kyz, Bool.false_or, Bool.or_false, Bool.false_eq_true, if_false]
theorem backX (a b c : Addr) : valV (mergeK [] [(Sum.inr "x", V.ref a), (Sum.inr "y", V.ref b), (Sum.inr "z", V.ref c)]) (Sum.inr "x" : Key) = some (V.ref a) := by
  rw [backM, valV_pos rfl]
theorem backY (a b c : Addr) : valV (mergeK [] [(Sum.inr "x", V.ref a), (Sum.inr "y", V.ref b), (Sum.inr "z", V.ref c)]) (Sum.inr "y" : Key) = some (V.ref b) := by
  rw [backM, valV_neg kxy, valV_pos rfl]
theorem backZ (a b c : Addr) : valV (mergeK [] [(Sum.inr "x", V.ref a), (Sum.inr "y", V.ref b), (Sum.inr "z", V.ref c)]) (Sum.inr "z" : Key) = some (V.ref c) := by
  rw [backM, valV_neg kxz, valV_neg kyz, valV_pos rfl]
def spInside (K : PySem.W.Frag) (n : Nat) : Sp := fun vs H Q _ => ∃ (v : V) (p : Addr) (b : Bd) (c : C3), vs = [v, .ref p] ∧ Body K H v b ∧ dp b ≤ n ∧ SqT K H p [.int c.1, .int c.2.1, .int c.2.2] ∧ ∀ H', Kp [] H H' → Q (.bl (inside b c)) H'
theorem scInside : FnScope ["_law_body_here", "_law_cell", "_law_word", "_law_x", "_law_y", "_law_z", "_law_low", "_law_size", "_law_far", "_law_back", "_law_one", "_law_other", "_law_k"] ["_law_body_here", "_law_cell"] (defScope lInside) := ⟨rfl, rfl, rfl, by decide +kernel, rfl, by decide +kernel, by decide +kernel⟩
theorem inside_step {n : Nat} {f : Addr} {fd : FuncData} (F : Fun K "_law_inside" "_law_inside" lInside f fd) (T : Nm K mg) (N : Fn K mg "_law_inside" f fd ["_law_body_here", "_law_cell"]) (G : FnOk P W0 K mg base CX0 n f fd ["_law_body_here", "_law_cell"] (spInside K n)) :
    FnOk P W0 K mg base CX0 (n + 1) f fd ["_law_body_here", "_law_cell"] (spInside K (n + 1)) := by
  refine F.ok scInside (fun vs H Q E h => ?_) (fun cdv A outer s H vs Q E hr h => ?_)
  · obtain ⟨v, p, b, c, rfl, _⟩ := h
    rfl
  · obtain ⟨v, pc, b, c, rfl, hB, hn, hc, q⟩ := h
    have hu := hu_of hr
    refine ⟨_, pss_cons (ps_set (i := 2) scInside.nd rfl (.inl rfl) (pe_ix ix_tup (pv 0) pe_int (fun _ _ => rfl)))
      (pss_cons (ps_asg (pv 1) (pg_tup rfl (pgs_cons (pg_name (i := 3) scInside.nd rfl (.inl rfl)) (pgs_cons (pg_name (i := 4) scInside.nd rfl (.inl rfl)) (pgs_cons (pg_name (i := 5) scInside.nd rfl (.inl rfl)) pgs_nil)))))
      (pss_cons (ps_if (pt_cmpR op_eq (pv 2) pe_str (nomark _)) (pss_cons (ps_asg (pe_slice sl_tup (pv 0) (po_some pe_int) po_none) (pg_tup rfl (pgs_cons (pg_name (i := 6) scInside.nd rfl (.inr rfl)) (pgs_cons (pg_name (i := 7) scInside.nd rfl (.inr rfl)) pgs_nil))))
        (pss_one (ps_ret (pe_cmpR (op_eqD hr.units) (pe_lc (own := [("_law_k", 12)]) (g := gName 12) rfl scInside.nd (pi_range1 (by rfl) T.range (pa_cons pe_int pa_nil)) (blkOk_by (own := [("_law_k", 12)]) (N := ["_law_body_here", "_law_cell", "_law_word", "_law_x", "_law_y", "_law_z", "_law_low", "_law_size", "_law_far", "_law_back", "_law_one", "_law_other", "_law_k"]) (sc := defScope lInside) (by decide +kernel))
            (fun _ _ _ _ _ => pg_name (i := 12) scInside.nd rfl (.inl rfl)) (fun _ _ _ _ _ => pts_one (pt_not (pt_chain op_le op_lt pe_int (pe_op op_sub (pe_ix (r := rIxT K) ix_tup (pv 1) (pv 12) (fun _ _ => rfl)) (pe_ix (r := rIxT K) ix_tup (pv 6) (pv 12) (fun _ _ => rfl))) (pe_ix (r := rIxT K) ix_tup (pv 7) (pv 12) (fun _ _ => rfl))))) (fun _ _ _ _ _ => pv 12)) (pe_lst pa_nil) (nomark _))))) pss_nil)
      (pss_cons (ps_if (pt_cmpR op_eq (pv 2) pe_str (nomark _)) (pss_one (ps_ret (pe_cmpR (op_inDT (u65 hr)) (pv 1) (pe_ix ix_tup (pv 0) pe_int (fun _ _ => rfl)) (by rfl)))) pss_nil)
      (pss_cons (ps_if (pt_cmpR op_eq (pv 2) pe_str (nomark _)) (pss_cons (ps_set (i := 8) scInside.nd rfl (.inl rfl) (pe_ix ix_tup (pv 0) pe_int (fun _ _ => rfl)))
        (pss_one (ps_ret (pe_call G hr (by rfl) N.m N.kp N.b .nil pass0 (pa_cons (pe_ix ix_tup (pv 0) pe_int (fun _ _ => rfl)) (pa_cons (pe_tup (pa_cons (pe_op op_sub (pv 3) (pe_ix ix_tup (pv 8) pe_int (fun _ _ => rfl))) (pa_cons (pe_op op_sub (pv 4) (pe_ix ix_tup (pv 8) pe_int (fun _ _ => rfl))) (pa_cons (pe_op op_sub (pv 5) (pe_ix ix_tup (pv 8) pe_int (fun _ _ => rfl))) pa_nil)))) pa_nil)))))) pss_nil)
      (pss_cons (ps_if (pt_cmpR op_eq (pv 2) pe_str (nomark _)) (pss_cons (ps_set (i := 9) scInside.nd rfl (.inl rfl) (pe_disp (pps_cons pe_str (pe_tup (pa_cons (pv 3) (pa_cons (pv 5) (pa_cons (pe_op op_sub pe_int (pv 4)) pa_nil)))) (pps_cons pe_str (pe_tup (pa_cons (pe_op op_sub pe_int (pv 5)) (pa_cons (pv 4) (pa_cons (pv 3) pa_nil)))) (pps_cons pe_str (pe_tup (pa_cons (pv 4) (pa_cons (pe_op op_sub pe_int (pv 3)) (pa_cons (pv 5) pa_nil)))) pps_nil))) (by rfl) (by rfl) (fun z => by cases z) (by decide)))
        (pss_one (ps_ret (pe_call G hr (by rfl) N.m N.kp N.b .nil pass0 (pa_cons (pe_ix ix_tup (pv 0) pe_int (fun _ _ => rfl)) (pa_cons (pe_dget hu (pv 9) (pe_ix ix_tup (pv 0) pe_int (fun _ _ => rfl)) (fun _ _ => rfl)) pa_nil)))))) pss_nil)
      (pss_cons (ps_set (i := 10) scInside.nd rfl (.inl rfl) (pe_call G hr (by rfl) N.m N.kp N.b .nil pass0 (pa_cons (pe_ix ix_tup (pv 0) pe_int (fun _ _ => rfl)) (pa_cons (pv 1) pa_nil))))
      (pss_cons (ps_set (i := 11) scInside.nd rfl (.inl rfl) (pe_call G hr (by rfl) N.m N.kp N.b .nil pass0 (pa_cons (pe_ix ix_tup (pv 0) pe_int (fun _ _ => rfl)) (pa_cons (pv 1) pa_nil))))
      (pss_cons (ps_if (pt_cmpR op_eq (pv 2) pe_str (nomark _)) (pss_one (ps_ret (pe_or (pv 10) (pe_one (pv 11))))) pss_nil)
      (pss_one (ps_ret (pe_and (pv 10) (pe_one (pe_cmpR op_eq (pv 11) (pe_cmpR op_eq (pv 2) pe_str (nomark _)) (nomark _)))))))))))))), ?_⟩
    cases b with
    | block x y z a b' c' =>
      obtain ⟨p, y1, z1, rfl, hT, h1, h2⟩ := of_body3 hB
      refine ⟨_, rfl, p, _, _, _, rfl, rfl, hT, rfl, ?_⟩
      refine ⟨_, rfl, pc, _, rfl, hc, rfl, _, _, rfl, _, _, rfl, _, _, rfl, rfl, ?_⟩
      refine ⟨_, rfl, rfl, _, rfl, itD1 (by decide +kernel) ?_⟩
      obtain ⟨pl, rfl, hl⟩ := of_dp_c h1
      obtain ⟨ps, rfl, hs⟩ := of_dp_c h2
      refine ⟨_, rfl, 1, rfl, p, _, rfl, hT, (fun z => absurd (show (1 : Nat) = 0 from z.1) (by decide)), fun r hr' => ?_⟩
      have k1 : Kp [] H (upd H r (.tup (cutV [.str "block", .ref pl, .ref ps] (some 1) none))) := Kp.new hr'
      have hps : SqT K (upd H r (.tup (cutV [.str "block", .ref pl, .ref ps] (some 1) none))) r [.ref pl, .ref ps] := SqT.of upd_same
      generalize upd H r (.tup (cutV [.str "block", .ref pl, .ref ps] (some 1) none)) = H1 at k1 hps ⊢
      refine ⟨r, [.ref pl, .ref ps], rfl, hps, rfl, _, _, rfl, _, _, rfl, rfl, ?_⟩
      refine ⟨3, rfl, by decide, by decide, fun D hD => lc_range (lo := 0) (n := 3) (fun i H' => Kp [] H1 H' ∧ ∃ ks : List Int, H' D = some (.lst (ks.map V.int)) ∧ ks.length ≤ i ∧ (decide (ks = []) = (List.range i).all (blkAt c x y z a b' c'))) ⟨Kp.new hD, [], upd_same, Nat.le_refl _, rfl⟩ (fun i H' hi pv => ?_) (fun H' pv => ?_)⟩
      · obtain ⟨k, ks, hDl, hkl, hks⟩ := pv
        have kk := k1.trans k
        have fin : ∀ (lo sz u : Int), blkAt c x y z a b' c' i = (decide (0 ≤ u - lo) && decide (u - lo < sz)) → (blkAt c x y z a b' c' i = true → Kp [] H1 H' ∧ ∃ ks : List Int, H' D = some (.lst (ks.map V.int)) ∧ ks.length ≤ i + 1 ∧ (decide (ks = []) = (List.range (i + 1)).all (blkAt c x y z a b' c'))) ∧
            (blkAt c x y z a b' c' i = false → ∃ acc, H' D = some (.lst acc) ∧ acc.length < sizeLine ∧ Kp [] H1 (upd H' D (.lst (acc ++ [.int (0 + (i : Int))]))) ∧ ∃ ks : List Int, (upd H' D (.lst (acc ++ [.int (0 + (i : Int))]))) D = some (.lst (ks.map V.int)) ∧ ks.length ≤ i + 1 ∧ (decide (ks = []) = (List.range (i + 1)).all (blkAt c x y z a b' c'))) := by
          intro lo sz u e
          refine ⟨fun g => ⟨k, ks, hDl, by omega, ?_⟩, fun g => ⟨_, hDl, ?_, k.chg0 hD hDl, ks ++ [(0 + (i : Int))], ?_, ?_, ?_⟩⟩
          · rw [all_succ, hks, g, Bool.and_true]
          · rw [List.length_map]
            have : (64 : Nat) < sizeLine := by decide
            omega
          · rw [upd_same, List.map_append]
            rfl
          · rw [List.length_append, List.length_singleton]
            omega
          · rw [all_succ, g, Bool.and_false]
            simp
        rcases (show i = 0 ∨ i = 1 ∨ i = 2 by omega) with rfl | rfl | rfl
        · refine ⟨rfl, _, rfl, _, rfl, pc, _, _, _, rfl, rfl, kk.sqT hc, rfl, ?_⟩
          refine ⟨_, rfl, _, rfl, pl, _, _, _, rfl, rfl, kk.sqT hl, rfl, _, _, rfl, rfl, _, _, rfl, rfl, _, rfl, ?_⟩
          have fz := fin x a (c.1) rfl
          have ef : blkAt c x y z a b' c' 0 = (decide (0 ≤ c.1 - x) && decide (c.1 - x < a)) := rfl
          rw [ef] at fz
          show (if decide ((0 : Int) ≤ c.1 - x) = true then _ else _)
          cases e1 : decide (0 ≤ c.1 - x) with
          | false =>
            rw [e1] at fz
            exact iteF ⟨_, rfl, iteT ⟨_, rfl, fz.2 rfl⟩⟩
          | true =>
            rw [e1] at fz
            refine iteT ⟨_, rfl, _, rfl, ps, _, _, _, rfl, rfl, kk.sqT hs, rfl, _, _, rfl, rfl, _, rfl, ?_⟩
            show (if (!decide (c.1 - x < a)) = true then _ else _)
            cases e2 : decide (c.1 - x < a) with
            | false =>
              rw [e2] at fz
              exact iteT ⟨_, rfl, fz.2 rfl⟩
            | true =>
              rw [e2] at fz
              exact iteF (fz.1 rfl)
        · refine ⟨rfl, _, rfl, _, rfl, pc, _, _, _, rfl, rfl, kk.sqT hc, rfl, ?_⟩
          refine ⟨_, rfl, _, rfl, pl, _, _, _, rfl, rfl, kk.sqT hl, rfl, _, _, rfl, rfl, _, _, rfl, rfl, _, rfl, ?_⟩
          have fz := fin y b' (c.2.1) rfl
          have ef : blkAt c x y z a b' c' 1 = (decide (0 ≤ c.2.1 - y) && decide (c.2.1 - y < b')) := rfl
          rw [ef] at fz
          show (if decide ((0 : Int) ≤ c.2.1 - y) = true then _ else _)
          cases e1 : decide (0 ≤ c.2.1 - y) with
          | false =>
            rw [e1] at fz
            exact iteF ⟨_, rfl, iteT ⟨_, rfl, fz.2 rfl⟩⟩
          | true =>
            rw [e1] at fz
            refine iteT ⟨_, rfl, _, rfl, ps, _, _, _, rfl, rfl, kk.sqT hs, rfl, _, _, rfl, rfl, _, rfl, ?_⟩
            show (if (!decide (c.2.1 - y < b')) = true then _ else _)
            cases e2 : decide (c.2.1 - y < b') with
            | false =>
              rw [e2] at fz
              exact iteT ⟨_, rfl, fz.2 rfl⟩
            | true =>
              rw [e2] at fz
              exact iteF (fz.1 rfl)
        · refine ⟨rfl, _, rfl, _, rfl, pc, _, _, _, rfl, rfl, kk.sqT hc, rfl, ?_⟩
          refine ⟨_, rfl, _, rfl, pl, _, _, _, rfl, rfl, kk.sqT hl, rfl, _, _, rfl, rfl, _, _, rfl, rfl, _, rfl, ?_⟩
          have fz := fin z c' (c.2.2) rfl
          have ef : blkAt c x y z a b' c' 2 = (decide (0 ≤ c.2.2 - z) && decide (c.2.2 - z < c')) := rfl
          rw [ef] at fz
          show (if decide ((0 : Int) ≤ c.2.2 - z) = true then _ else _)
          cases e1 : decide (0 ≤ c.2.2 - z) with
          | false =>
            rw [e1] at fz
            exact iteF ⟨_, rfl, iteT ⟨_, rfl, fz.2 rfl⟩⟩
          | true =>
            rw [e1] at fz
            refine iteT ⟨_, rfl, _, rfl, ps, _, _, _, rfl, rfl, kk.sqT hs, rfl, _, _, rfl, rfl, _, rfl, ?_⟩
            show (if (!decide (c.2.2 - z < c')) = true then _ else _)
            cases e2 : decide (c.2.2 - z < c') with
            | false =>
              rw [e2] at fz
              exact iteT ⟨_, rfl, fz.2 rfl⟩
            | true =>
              rw [e2] at fz
              exact iteF (fz.1 rfl)
      · obtain ⟨k, ks, hDl, hkl, hks⟩ := pv
        refine ⟨Nat.zero_le _, fun r2 hr2 => ?_⟩
        have kp : Kp [] H' (upd H' r2 (.lst [])) := Kp.new hr2
        refine ⟨.list (ks.map PyData.int), .list [], .lst (SqL.of (kp.lst hDl List.not_mem_nil)) (dp_ints ks), .lst (SqL.of upd_same) .nil, ints_shaped ks, ints_shaped [], ?_⟩
        have z := q _ ((k1.trans k).trans kp)
        rw [inside_blk, ← hks] at z
        rw [show PyData.eqv (.list (ks.map PyData.int)) (.list []) = decide (ks = []) from by cases ks <;> simp [PyData.eqv, PyData.eqvAll]]
        exact z
    | cells cs =>
      obtain ⟨p, y1, rfl, hT, h1⟩ := of_body2 hB
      refine ⟨_, rfl, p, _, _, _, rfl, rfl, hT, rfl, ?_⟩
      refine ⟨_, rfl, pc, _, rfl, hc, rfl, _, _, rfl, _, _, rfl, _, _, rfl, rfl, ?_⟩
      refine ⟨_, rfl, rfl, _, rfl, itD0 (by decide +kernel) ?_⟩
      refine ⟨_, rfl, rfl, _, rfl, itD1 (by decide +kernel) ?_⟩
      refine ⟨_, rfl, _, rfl, p, _, _, _, rfl, rfl, hT, rfl, cD c, cs.map cD, dp_c hc, h1, cD_shaped c, cDs_shapedT cs, ?_⟩
      rw [any_eqv]
      exact q H (Kp.refl _ _)
    | moved d b1 =>
      obtain ⟨p, y1, z1, rfl, hT, h1, h2⟩ := of_body3 hB
      refine ⟨_, rfl, p, _, _, _, rfl, rfl, hT, rfl, ?_⟩
      refine ⟨_, rfl, pc, _, rfl, hc, rfl, _, _, rfl, _, _, rfl, _, _, rfl, rfl, ?_⟩
      refine ⟨_, rfl, rfl, _, rfl, itD0 (by decide +kernel) ?_⟩
      refine ⟨_, rfl, rfl, _, rfl, itD0 (by decide +kernel) ?_⟩
      refine ⟨_, rfl, rfl, _, rfl, itD1 (by decide +kernel) ?_⟩
      have hdp : dp b1 ≤ n := by
        unfold dp at hn
        omega
      obtain ⟨pd, rfl, hd⟩ := of_dp_c h1
      refine ⟨_, rfl, p, _, _, _, rfl, rfl, hT, rfl, ?_⟩
      refine ⟨_, rfl, p, _, _, _, rfl, rfl, hT, rfl, _, rfl, _, rfl, pd, _, _, _, rfl, rfl, hd, rfl, _, _, rfl, rfl, _, rfl, _, rfl, pd, _, _, _, rfl, rfl, hd, rfl, _, _, rfl, rfl, _, rfl, _, rfl, pd, _, _, _, rfl, rfl, hd, rfl, _, _, rfl, rfl, (by show 3 ≤ sizeLine; decide), fun t ht => ?_⟩
      have kt := Kp.new (S := []) (o := .tup [.int (c.1 - d.1), .int (c.2.1 - d.2.1), .int (c.2.2 - d.2.2)]) ht
      exact ⟨z1, t, b1, sub3 d c, rfl, body_mono kt h2, hdp, SqT.of upd_same, fun H' k => q H' (kt.trans k)⟩
    | turnX b1 =>
      obtain ⟨p, y1, z1, rfl, hT, h1, h2⟩ := of_body3 hB
      refine ⟨_, rfl, p, _, _, _, rfl, rfl, hT, rfl, ?_⟩
      refine ⟨_, rfl, pc, _, rfl, hc, rfl, _, _, rfl, _, _, rfl, _, _, rfl, rfl, ?_⟩
      refine ⟨_, rfl, rfl, _, rfl, itD0 (by decide +kernel) ?_⟩
      refine ⟨_, rfl, rfl, _, rfl, itD0 (by decide +kernel) ?_⟩
      refine ⟨_, rfl, rfl, _, rfl, itD0 (by decide +kernel) ?_⟩
      refine ⟨_, rfl, rfl, _, rfl, itD1 (by decide +kernel) ?_⟩
      obtain rfl := of_dps h1
      have hdp : dp b1 ≤ n := by
        unfold dp at hn
        omega
      intro dd hdd
      have k0 : Kp [] H (upd H dd (.dK [])) := Kp.new hdd
      have hd0 : upd H dd (.dK []) dd = some (.dK []) := upd_same
      show tPairs _ _ (upd H dd (.dK [])) _
      generalize upd H dd (.dK []) = H0 at k0 hd0 ⊢
      refine ⟨_, rfl, _, rfl, _, rfl, _, _, rfl, rfl, (by show 3 ≤ sizeLine; decide), fun t1 ht1 => ?_⟩
      refine ⟨_, rfl, _, _, rfl, rfl, _, rfl, _, rfl, (by show 3 ≤ sizeLine; decide), fun t2 ht2 => ?_⟩
      refine ⟨_, rfl, _, rfl, _, _, rfl, rfl, _, rfl, (by show 3 ≤ sizeLine; decide), fun t3 ht3 => ?_⟩
      have k1 := Kp.new (S := []) (o := .tup [.int c.1, .int c.2.2, .int (3 - c.2.1)]) ht1
      have k2 := Kp.new (S := []) (o := .tup [.int (3 - c.2.2), .int c.2.1, .int c.1]) ht2
      have k3 := Kp.new (S := []) (o := .tup [.int c.2.1, .int (3 - c.1), .int c.2.2]) ht3
      have hd3 := k3.keep dd _ (k2.keep dd _ (k1.keep dd _ hd0 List.not_mem_nil (fun _ z => by cases z)) List.not_mem_nil (fun _ z => by cases z)) List.not_mem_nil (fun _ z => by cases z)
      have kd := Kp.chgD (S := [dd]) (k2 := mergeK [] [(Sum.inr "x", V.ref t1), (Sum.inr "y", V.ref t2), (Sum.inr "z", V.ref t3)]) hd3 (List.mem_singleton.mpr rfl)
      have kk := (((k0.trans k1).trans k2).trans k3).off hdd kd
      refine ⟨hd3, [(Sum.inr "x", V.ref t1), (Sum.inr "y", V.ref t2), (Sum.inr "z", V.ref t3)], rfl, (by show 3 ≤ 15; decide), ?_⟩
      refine ⟨_, rfl, p, _, _, _, rfl, rfl, (kk.sqT hT), rfl, ?_⟩
      refine ⟨_, rfl, _, rfl, p, _, _, _, rfl, rfl, (kk.sqT hT), rfl, dd, V.ref t1, rfl, (by rw [← backX t1 t2 t3]; exact DGet.k (k := Sum.inr "x") upd_same), ?_⟩
      exact ⟨z1, t1, b1, uX c, rfl, body_mono kk h2, hdp, kd.sqT (k3.sqT (k2.sqT (SqT.of upd_same))), fun H' k => q H' (kk.trans k)⟩
    | turnY b1 =>
      obtain ⟨p, y1, z1, rfl, hT, h1, h2⟩ := of_body3 hB
      refine ⟨_, rfl, p, _, _, _, rfl, rfl, hT, rfl, ?_⟩
      refine ⟨_, rfl, pc, _, rfl, hc, rfl, _, _, rfl, _, _, rfl, _, _, rfl, rfl, ?_⟩
      refine ⟨_, rfl, rfl, _, rfl, itD0 (by decide +kernel) ?_⟩
      refine ⟨_, rfl, rfl, _, rfl, itD0 (by decide +kernel) ?_⟩
      refine ⟨_, rfl, rfl, _, rfl, itD0 (by decide +kernel) ?_⟩
      refine ⟨_, rfl, rfl, _, rfl, itD1 (by decide +kernel) ?_⟩
      obtain rfl := of_dps h1
      have hdp : dp b1 ≤ n := by
        unfold dp at hn
        omega
      intro dd hdd
      have k0 : Kp [] H (upd H dd (.dK [])) := Kp.new hdd
      have hd0 : upd H dd (.dK []) dd = some (.dK []) := upd_same
      show tPairs _ _ (upd H dd (.dK [])) _
      generalize upd H dd (.dK []) = H0 at k0 hd0 ⊢
      refine ⟨_, rfl, _, rfl, _, rfl, _, _, rfl, rfl, (by show 3 ≤ sizeLine; decide), fun t1 ht1 => ?_⟩
      refine ⟨_, rfl, _, _, rfl, rfl, _, rfl, _, rfl, (by show 3 ≤ sizeLine; decide), fun t2 ht2 => ?_⟩
      refine ⟨_, rfl, _, rfl, _, _, rfl, rfl, _, rfl, (by show 3 ≤ sizeLine; decide), fun t3 ht3 => ?_⟩
      have k1 := Kp.new (S := []) (o := .tup [.int c.1, .int c.2.2, .int (3 - c.2.1)]) ht1
      have k2 := Kp.new (S := []) (o := .tup [.int (3 - c.2.2), .int c.2.1, .int c.1]) ht2
      have k3 := Kp.new (S := []) (o := .tup [.int c.2.1, .int (3 - c.1), .int c.2.2]) ht3
      have hd3 := k3.keep dd _ (k2.keep dd _ (k1.keep dd _ hd0 List.not_mem_nil (fun _ z => by cases z)) List.not_mem_nil (fun _ z => by cases z)) List.not_mem_nil (fun _ z => by cases z)
      have kd := Kp.chgD (S := [dd]) (k2 := mergeK [] [(Sum.inr "x", V.ref t1), (Sum.inr "y", V.ref t2), (Sum.inr "z", V.ref t3)]) hd3 (List.mem_singleton.mpr rfl)
      have kk := (((k0.trans k1).trans k2).trans k3).off hdd kd
      refine ⟨hd3, [(Sum.inr "x", V.ref t1), (Sum.inr "y", V.ref t2), (Sum.inr "z", V.ref t3)], rfl, (by show 3 ≤ 15; decide), ?_⟩
      refine ⟨_, rfl, p, _, _, _, rfl, rfl, (kk.sqT hT), rfl, ?_⟩
      refine ⟨_, rfl, _, rfl, p, _, _, _, rfl, rfl, (kk.sqT hT), rfl, dd, V.ref t2, rfl, (by rw [← backY t1 t2 t3]; exact DGet.k (k := Sum.inr "y") upd_same), ?_⟩
      exact ⟨z1, t2, b1, uY c, rfl, body_mono kk h2, hdp, kd.sqT (k3.sqT (SqT.of upd_same)), fun H' k => q H' (kk.trans k)⟩
    | turnZ b1 =>
      obtain ⟨p, y1, z1, rfl, hT, h1, h2⟩ := of_body3 hB
      refine ⟨_, rfl, p, _, _, _, rfl, rfl, hT, rfl, ?_⟩
      refine ⟨_, rfl, pc, _, rfl, hc, rfl, _, _, rfl, _, _, rfl, _, _, rfl, rfl, ?_⟩
      refine ⟨_, rfl, rfl, _, rfl, itD0 (by decide +kernel) ?_⟩
      refine ⟨_, rfl, rfl, _, rfl, itD0 (by decide +kernel) ?_⟩
      refine ⟨_, rfl, rfl, _, rfl, itD0 (by decide +kernel) ?_⟩
      refine ⟨_, rfl, rfl, _, rfl, itD1 (by decide +kernel) ?_⟩
      obtain rfl := of_dps h1
      have hdp : dp b1 ≤ n := by
        unfold dp at hn
        omega
      intro dd hdd
      have k0 : Kp [] H (upd H dd (.dK [])) := Kp.new hdd
      have hd0 : upd H dd (.dK []) dd = some (.dK []) := upd_same
      show tPairs _ _ (upd H dd (.dK [])) _
      generalize upd H dd (.dK []) = H0 at k0 hd0 ⊢
      refine ⟨_, rfl, _, rfl, _, rfl, _, _, rfl, rfl, (by show 3 ≤ sizeLine; decide), fun t1 ht1 => ?_⟩
      refine ⟨_, rfl, _, _, rfl, rfl, _, rfl, _, rfl, (by show 3 ≤ sizeLine; decide), fun t2 ht2 => ?_⟩
      refine ⟨_, rfl, _, rfl, _, _, rfl, rfl, _, rfl, (by show 3 ≤ sizeLine; decide), fun t3 ht3 => ?_⟩
      have k1 := Kp.new (S := []) (o := .tup [.int c.1, .int c.2.2, .int (3 - c.2.1)]) ht1
      have k2 := Kp.new (S := []) (o := .tup [.int (3 - c.2.2), .int c.2.1, .int c.1]) ht2
      have k3 := Kp.new (S := []) (o := .tup [.int c.2.1, .int (3 - c.1), .int c.2.2]) ht3
      have hd3 := k3.keep dd _ (k2.keep dd _ (k1.keep dd _ hd0 List.not_mem_nil (fun _ z => by cases z)) List.not_mem_nil (fun _ z => by cases z)) List.not_mem_nil (fun _ z => by cases z)
      have kd := Kp.chgD (S := [dd]) (k2 := mergeK [] [(Sum.inr "x", V.ref t1), (Sum.inr "y", V.ref t2), (Sum.inr "z", V.ref t3)]) hd3 (List.mem_singleton.mpr rfl)
      have kk := (((k0.trans k1).trans k2).trans k3).off hdd kd
      refine ⟨hd3, [(Sum.inr "x", V.ref t1), (Sum.inr "y", V.ref t2), (Sum.inr "z", V.ref t3)], rfl, (by show 3 ≤ 15; decide), ?_⟩
      refine ⟨_, rfl, p, _, _, _, rfl, rfl, (kk.sqT hT), rfl, ?_⟩
      refine ⟨_, rfl, _, rfl, p, _, _, _, rfl, rfl, (kk.sqT hT), rfl, dd, V.ref t3, rfl, (by rw [← backZ t1 t2 t3]; exact DGet.k (k := Sum.inr "z") upd_same), ?_⟩
      exact ⟨z1, t3, b1, uZ c, rfl, body_mono kk h2, hdp, kd.sqT (SqT.of upd_same), fun H' k => q H' (kk.trans k)⟩
    | wth b1 b2 =>
      obtain ⟨p, y1, z1, rfl, hT, h1, h2⟩ := of_body3 hB
      refine ⟨_, rfl, p, _, _, _, rfl, rfl, hT, rfl, ?_⟩
      refine ⟨_, rfl, pc, _, rfl, hc, rfl, _, _, rfl, _, _, rfl, _, _, rfl, rfl, ?_⟩
      refine ⟨_, rfl, rfl, _, rfl, itD0 (by decide +kernel) ?_⟩
      refine ⟨_, rfl, rfl, _, rfl, itD0 (by decide +kernel) ?_⟩
      refine ⟨_, rfl, rfl, _, rfl, itD0 (by decide +kernel) ?_⟩
      refine ⟨_, rfl, rfl, _, rfl, itD0 (by decide +kernel) ?_⟩
      have hdp : dp b1 ≤ n ∧ dp b2 ≤ n := by
        unfold dp at hn
        omega
      refine ⟨_, rfl, p, _, _, _, rfl, rfl, hT, rfl, _, rfl, y1, pc, b1, c, rfl, h1, hdp.1, hc, fun H1 k1 => ?_⟩
      refine ⟨_, rfl, p, _, _, _, rfl, rfl, (k1.sqT hT), rfl, _, rfl, z1, pc, b2, c, rfl, body_mono k1 h2, hdp.2, k1.sqT hc, fun H2 k2 => ?_⟩
      have z := q H2 (k1.trans k2)
      refine ⟨_, rfl, rfl, _, rfl, itD1 (by decide +kernel) ?_⟩
      refine ⟨_, rfl, _, rfl, ?_⟩
      show (if inside b1 c = true then _ else _)
      unfold inside at z
      cases e : inside b1 c with
      | true =>
        rw [e, Bool.true_or] at z
        exact iteT z
      | false =>
        rw [e, Bool.false_or] at z
        exact iteF ⟨_, rfl, z⟩
    | common b1 b2 =>
      obtain ⟨p, y1, z1, rfl, hT, h1, h2⟩ := of_body3 hB
      refine ⟨_, rfl, p, _, _, _, rfl, rfl, hT, rfl, ?_⟩
      refine ⟨_, rfl, pc, _, rfl, hc, rfl, _, _, rfl, _, _, rfl, _, _, rfl, rfl, ?_⟩
      refine ⟨_, rfl, rfl, _, rfl, itD0 (by decide +kernel) ?_⟩
      refine ⟨_, rfl, rfl, _, rfl, itD0 (by decide +kernel) ?_⟩
      refine ⟨_, rfl, rfl, _, rfl, itD0 (by decide +kernel) ?_⟩
      refine ⟨_, rfl, rfl, _, rfl, itD0 (by decide +kernel) ?_⟩
      have hdp : dp b1 ≤ n ∧ dp b2 ≤ n := by
        unfold dp at hn
        omega
      refine ⟨_, rfl, p, _, _, _, rfl, rfl, hT, rfl, _, rfl, y1, pc, b1, c, rfl, h1, hdp.1, hc, fun H1 k1 => ?_⟩
      refine ⟨_, rfl, p, _, _, _, rfl, rfl, (k1.sqT hT), rfl, _, rfl, z1, pc, b2, c, rfl, body_mono k1 h2, hdp.2, k1.sqT hc, fun H2 k2 => ?_⟩
      have z := q H2 (k1.trans k2)
      refine ⟨_, rfl, rfl, _, rfl, itD0 (by decide +kernel) ?_⟩
      refine ⟨_, rfl, _, rfl, ?_⟩
      show (if inside b1 c = true then _ else _)
      unfold inside at z
      cases e : inside b1 c with
      | false =>
        rw [e, Bool.false_and] at z
        exact iteF z
      | true =>
        rw [e, Bool.true_and] at z
        refine iteT ⟨_, rfl, _, rfl, rfl, rfl, ?_⟩
        rw [show decide (V.str "common" = V.str "common") = true by decide +kernel, show decide (V.bl (inside b2 c) = V.bl true) = inside b2 c by cases inside b2 c <;> rfl]
        exact z
    | less b1 b2 =>
      obtain ⟨p, y1, z1, rfl, hT, h1, h2⟩ := of_body3 hB
      refine ⟨_, rfl, p, _, _, _, rfl, rfl, hT, rfl, ?_⟩
      refine ⟨_, rfl, pc, _, rfl, hc, rfl, _, _, rfl, _, _, rfl, _, _, rfl, rfl, ?_⟩
      refine ⟨_, rfl, rfl, _, rfl, itD0 (by decide +kernel) ?_⟩
      refine ⟨_, rfl, rfl, _, rfl, itD0 (by decide +kernel) ?_⟩
      refine ⟨_, rfl, rfl, _, rfl, itD0 (by decide +kernel) ?_⟩
      refine ⟨_, rfl, rfl, _, rfl, itD0 (by decide +kernel) ?_⟩
      have hdp : dp b1 ≤ n ∧ dp b2 ≤ n := by
        unfold dp at hn
        omega
      refine ⟨_, rfl, p, _, _, _, rfl, rfl, hT, rfl, _, rfl, y1, pc, b1, c, rfl, h1, hdp.1, hc, fun H1 k1 => ?_⟩
      refine ⟨_, rfl, p, _, _, _, rfl, rfl, (k1.sqT hT), rfl, _, rfl, z1, pc, b2, c, rfl, body_mono k1 h2, hdp.2, k1.sqT hc, fun H2 k2 => ?_⟩
      have z := q H2 (k1.trans k2)
      refine ⟨_, rfl, rfl, _, rfl, itD0 (by decide +kernel) ?_⟩
      refine ⟨_, rfl, _, rfl, ?_⟩
      show (if inside b1 c = true then _ else _)
      unfold inside at z
      cases e : inside b1 c with
      | false =>
        rw [e, Bool.false_and] at z
        exact iteF z
      | true =>
        rw [e, Bool.true_and] at z
        refine iteT ⟨_, rfl, _, rfl, rfl, rfl, ?_⟩
        rw [show decide (V.str "less" = V.str "common") = false by decide +kernel, show decide (V.bl (inside b2 c) = V.bl false) = !inside b2 c by cases inside b2 c <;> rfl]
        exact z

theorem inside_none {f : Addr} {fd : FuncData} : FnOk P W0 K mg base CX0 0 f fd ["_law_body_here", "_law_cell"] (spInside K 0) := by
  have no : ∀ vs H Q E, ¬ spInside K 0 vs H Q E := fun vs H Q E h => by
    obtain ⟨_, _, b, _, _, _, hn, _⟩ := h
    have := dp_pos b
    omega
  exact ⟨fun vs H Q E h => absurd h (no vs H Q E), fun A outer s H args us vs Q E _ _ _ _ h => absurd h (no vs H Q E)⟩
theorem ok_inside {f : Addr} {fd : FuncData} (F : Fun K "_law_inside" "_law_inside" lInside f fd) (T : Nm K mg) (N : Fn K mg "_law_inside" f fd ["_law_body_here", "_law_cell"]) :
    ∀ n : Nat, FnOk P W0 K mg base CX0 n f fd ["_law_body_here", "_law_cell"] (spInside K n)
  | 0 => inside_none
  | n + 1 => inside_step F T N (ok_inside F T N n)
end LP
end

section
set_option Elab.async false
set_option linter.all false
set_option maxRecDepth 100000
set_option maxHeartbeats 2000000
/-! _law_all -/
namespace LP
open PySem PySem.Spec PyProof.Rows L2 Ly GY
variable [LamTab] {P : Program} {W0 : World} {K : PySem.W.Frag} {mg : Str → Option Value} {base : Heap}
def spAll (K : PySem.W.Frag) : Sp := fun vs H Q _ => ∃ (v : V) (b : Bd), vs = [v] ∧ Body K H v b ∧ dp b ≤ 20 ∧ ∀ (H' : Hp) (r : Addr) (zs : List V), Kp [] H H' → H r = none → H' r = some (.lst zs) → Items K H' zs (all b) → Q (.ref r) H'
theorem scAll : FnScope ["_law_body_here", "_law_room", "_law_k", "_law_cell"] ["_law_body_here"] (defScope lAll) := ⟨rfl, rfl, rfl, by decide +kernel, rfl, by decide +kernel, by decide +kernel⟩
theorem room_len : room.length = 64 := by unfold room; rw [List.length_map, List.length_range]
theorem ok_all {f fI : Addr} {fd dI : FuncData} (F : Fun K "_law_all" "_law_all" lAll f fd) (T : Nm K mg) (NI : Fn K mg "_law_inside" fI dI ["_law_body_here", "_law_cell"]) (GI : FnOk P W0 K mg base CX0 20 fI dI ["_law_body_here", "_law_cell"] (spInside K 20)) :
    FnOk P W0 K mg base CX0 21 f fd ["_law_body_here"] (spAll K) := by
  refine F.ok scAll (fun vs H Q E h => ?_) (fun cdv A outer s H vs Q E hr h => ?_)
  · obtain ⟨v, b, rfl, _⟩ := h
    rfl
  · obtain ⟨v, b, rfl, hB, hn, q⟩ := h
    refine ⟨_, pss_cons (ps_setLc (i := 1) (own := [("_law_k", 2)]) (g := gName 2) rfl scAll.nd rfl rfl (sw_true rfl rfl rfl (by decide +kernel)) (pi_range1 (by rfl) T.range (pa_cons pe_int pa_nil)) (blkOk_by (own := [("_law_k", 2)]) (N := ["_law_body_here", "_law_room", "_law_k", "_law_cell"]) (sc := defScope lAll) (by decide +kernel))
        (fun _ _ _ _ _ => pg_name (i := 2) scAll.nd rfl (.inl rfl)) (fun _ _ _ _ _ => pts_nil) (fun _ _ _ _ _ => pe_tup (pa_cons (pe_op op_fdiv (pv 2) pe_int) (pa_cons (pe_op op_mod (pe_op op_fdiv (pv 2) pe_int) pe_int) (pa_cons (pe_op op_mod (pv 2) pe_int) pa_nil)))))
      (pss_one (ps_ret (pe_lc (own := [("_law_cell", 3)]) (g := gName 3) rfl scAll.nd (pi_list (pv 1)) (blkOk_by (own := [("_law_cell", 3)]) (N := ["_law_body_here", "_law_room", "_law_k", "_law_cell"]) (sc := defScope lAll) (by decide +kernel))
        (fun _ _ _ _ _ => pg_name (i := 3) scAll.nd rfl (.inl rfl)) (fun _ _ _ _ _ => pts_one (pt_val (pe_call GI hr (by rfl) NI.m NI.kp NI.b .nil pass0 (pa_cons (pv 0) (pa_cons (pv 3) pa_nil))))) (fun _ _ _ _ _ => pv 3)))), ?_⟩
    refine ⟨64, rfl, by decide, by decide, fun R hR => lc_range (lo := 0) (n := 64) (fun i H' => Kp [] H H' ∧ ∃ acc, H' R = some (.lst acc) ∧ Items K H' acc ((List.range i).map roomAt)) ⟨Kp.new hR, [], upd_same, .nil⟩ (fun i H' hi pv => ?_) (fun H' pv => ?_)⟩
    · obtain ⟨k, acc, hA, hI⟩ := pv
      have d16 : (0 : Int) < 16 ∧ (16 : Int) < 1073741824 := ⟨by decide, by decide⟩
      have d4 : (0 : Int) < 4 ∧ (4 : Int) < 1073741824 := ⟨by decide, by decide⟩
      refine ⟨rfl, yesI ?_⟩
      refine ⟨_, rfl, _, _, rfl, rfl, d16, _, rfl, _, _, rfl, rfl, d4, _, _, rfl, rfl, (by show (0 : Int) < 4; decide), _, rfl, _, _, rfl, rfl, (by show (0 : Int) < 4; decide), (by show 3 ≤ sizeLine; decide), fun t ht => ?_⟩
      have kt := Kp.new (S := []) (o := .tup [.int ((0 + (i : Int)) / 16), .int ((0 + (i : Int)) / 4 % 4), .int ((0 + (i : Int)) % 4)]) ht
      have hA2 := kt.lst hA List.not_mem_nil
      have hl := hI.length
      rw [List.length_map, List.length_range] at hl
      have hq : SqT K (upd H' t (.tup [.int ((0 + (i : Int)) / 16), .int ((0 + (i : Int)) / 4 % 4), .int ((0 + (i : Int)) % 4)])) t [.int (roomAt i).1, .int (roomAt i).2.1, .int (roomAt i).2.2] := by
        refine SqT.of ?_
        rw [upd_same, Int.zero_add]
        rfl
      have hit := items_mono kt hI
      have kc := Kp.chg (S := [R]) (ys := acc ++ [V.ref t]) hA2 (List.mem_singleton.mpr rfl)
      refine ⟨acc, hA2, ?_, (k.trans kt).chg0 hR hA2, _, upd_same, ?_⟩
      · have : (64 : Nat) < sizeLine := by decide
        omega
      · rw [List.range_succ, List.map_append]
        exact Items.append (items_mono kc hit) (Items.one (dp_c (kc.sqT hq)))
    · obtain ⟨k, acc, hA, hI⟩ := pv
      refine ⟨_, rfl, R, rfl, ⟨_, SqL.of hA⟩, fun D hD => lc_filter (K := K) (inside b) k hD (SqL.of hA) hI (by show room.length ≤ 64; rw [room_len]; decide) (fun c z H' Nx Z hc kk hz n1 n2 => ?_) (fun H' zs kk hy hi => q H' D zs kk (k.free D hD) hy hi)⟩
      refine ⟨rfl, _, rfl, _, rfl, v, z, b, c, rfl, body_mono kk hB, hn, hz, fun H'' k'' => ⟨_, rfl, ?_⟩⟩
      cases e : inside b c with
      | true => exact iteT ⟨_, rfl, n1 H'' k'' e⟩
      | false => exact iteF (n2 H'' k'' e)
end LP
end

section
set_option Elab.async false
set_option linter.all false
set_option maxRecDepth 100000
set_option maxHeartbeats 4000000
/-! _law_body -/
namespace LP
open PySem PySem.Spec PyProof.Rows L2 Ly GY
variable [LamTab] {P : Program} {W0 : World} {K : PySem.W.Frag} {mg : Str → Option Value} {base : Heap}
theorem Sta.apart {H : Hp} {h l r : Addr} (s : Sta H h l) (n : H r = none) : r ∉ [h, l] := by
  obtain ⟨m, t, ns, h1, h2, _⟩ := s
  intro z
  rcases List.mem_cons.mp z with z | z
  · rw [z, h1] at n; cases n
  · rw [List.mem_singleton.mp z, h2] at n; cases n
theorem Sta.ne {H : Hp} {h l r : Addr} (s : Sta H h l) (n : H r = none) : r ≠ h ∧ r ≠ l := by
  have := s.apart n
  simpa using this
/-- a new thing leaves the state -/
theorem Sta.new {H : Hp} {h l r : Addr} {o : HO} (s : Sta H h l) (n : H r = none) : Sta (upd H r o) h l := s.mono0 (Kp.new n)
/-- a change of what is not the state -/
theorem Sta.chg {H : Hp} {h l r : Addr} {xs ys : List V} (s : Sta H h l) (e : H r = some (.lst xs)) (n : r ∉ [h, l]) : Sta (upd H r (.lst ys)) h l := by
  simp at n
  exact s.mono (Kp.chg (S := [r]) e (List.mem_singleton.mpr rfl)) (by simp; exact Ne.symm n.1) (by simp; exact Ne.symm n.2)
def LowP (ns : List Int) (d m : Int) : Prop := (ns = [] ∧ m = d) ∨ (m ∈ ns ∧ ∀ j ∈ ns, m ≤ j)
def HighP (ns : List Int) (d m : Int) : Prop := (ns = [] ∧ m = d) ∨ (m ∈ ns ∧ ∀ j ∈ ns, j ≤ m)
theorem minR {H : Hp} {a : Addr} {ns : List Int} {d : Int} {Q : VK} (hL : SqL K H a (ns.map V.int)) (q : ∀ m, LowP ns d m → Q (.int m) H) : GW.rMinD K [.ref a] [.int d] H Q := ⟨a, ns, d, rfl, rfl, hL, fun e => q d (.inl ⟨e, rfl⟩), fun m h1 h2 => q m (.inr ⟨h1, h2⟩)⟩
theorem maxR {H : Hp} {a : Addr} {ns : List Int} {d : Int} {Q : VK} (hL : SqL K H a (ns.map V.int)) (q : ∀ m, HighP ns d m → Q (.int m) H) : GW.rMaxD K [.ref a] [.int d] H Q := ⟨a, ns, d, rfl, rfl, hL, fun e => q d (.inl ⟨e, rfl⟩), fun m h1 h2 => q m (.inr ⟨h1, h2⟩)⟩
def comp (j : Nat) (c : C3) : Int := if j = 0 then c.1 else if j = 1 then c.2.1 else c.2.2
theorem comp_at {i : Nat} (hi : i < 3) (c : C3) : atI [V.int c.1, V.int c.2.1, V.int c.2.2] (0 + (i : Int)) = some (.int (comp i c)) := by
  rcases (show i = 0 ∨ i = 1 ∨ i = 2 by omega) with rfl | rfl | rfl <;> rfl
theorem comp_in {c : C3} (h : InR c) (i : Nat) : 0 ≤ comp i c ∧ comp i c ≤ 3 := by
  unfold comp
  split
  · exact h.1
  · split
    · exact h.2.1
    · exact h.2.2
def FarOk (b : Bd) (j : Nat) (f : Int) : Prop := -3 ≤ f ∧ f ≤ 3 ∧ ∀ c ∈ all b, 0 ≤ comp j c + f ∧ comp j c + f ≤ 3
theorem lowhigh {b : Bd} {i : Nat} {low high : Int} (h1 : LowP ((all b).map (comp i)) 0 low) (h2 : HighP ((all b).map (comp i)) 3 high) : 0 ≤ low ∧ low ≤ 3 ∧ 0 ≤ high ∧ high ≤ 3 ∧ ∀ c ∈ all b, low ≤ comp i c ∧ comp i c ≤ high := by
  have hin : ∀ x ∈ (all b).map (comp i), 0 ≤ x ∧ x ≤ 3 := by
    intro x hx
    obtain ⟨c, hc, rfl⟩ := List.mem_map.mp hx
    exact comp_in (in_all hc) i
  rcases h1 with ⟨e, rfl⟩ | ⟨m1, q1⟩
  · rcases h2 with ⟨_, rfl⟩ | ⟨m2, q2⟩
    · refine ⟨by decide, by decide, by decide, by decide, fun c hc => ?_⟩
      have : comp i c ∈ (all b).map (comp i) := List.mem_map.mpr ⟨c, hc, rfl⟩
      rw [e] at this
      cases this
    · rw [e] at m2
      cases m2
  · rcases h2 with ⟨e, rfl⟩ | ⟨m2, q2⟩
    · rw [e] at m1
      cases m1
    · refine ⟨(hin _ m1).1, (hin _ m1).2, (hin _ m2).1, (hin _ m2).2, fun c hc => ?_⟩
      have hm : comp i c ∈ (all b).map (comp i) := List.mem_map.mpr ⟨c, hc, rfl⟩
      exact ⟨q1 _ hm, q2 _ hm⟩
def spLBody (K : PySem.W.Frag) (n : Nat) : Sp := fun vs H Q _ => ∃ (h l : Addr) (d : Nat), vs = [.ref h, .int (d : Int)] ∧ d < n ∧ n ≤ 10 ∧ Sta H h l ∧
  ∀ (H' : Hp) (v : V) (b : Bd), Kp [h, l] H H' → Sta H' h l → Body K H' v b → Good b → dp b ≤ d + 1 → Q v H'
theorem scLBody : FnScope ["_law_h", "_law_deep", "_law_way", "_law_cell", "_law_k", "_law_some", "_law_word", "_law_one", "_law_far", "_law_low", "_law_high", "_law_number"] ["_law_h", "_law_deep"] (defScope lBody) := ⟨rfl, rfl, rfl, by decide +kernel, rfl, by decide +kernel, by decide +kernel⟩
theorem lbody_step {n : Nat} {f fX fA : Addr} {fd dX dA : FuncData} (F : Fun K "_law_body" "_law_body" lBody f fd) (T : Nm K mg) (U : Nl K mg) (NB : Fn K mg "_law_body" f fd ["_law_h", "_law_deep"]) (GB : FnOk P W0 K mg base CX0 (21 + n) f fd ["_law_h", "_law_deep"] (spLBody K n))
    (NX : Fn K mg "_law_next" fX dX ["_law_h", "_law_many"]) (GX : FnOk P W0 K mg base CX0 1 fX dX ["_law_h", "_law_many"] spNext) (NA : Fn K mg "_law_all" fA dA ["_law_body_here"]) (GA : FnOk P W0 K mg base CX0 21 fA dA ["_law_body_here"] (spAll K)) :
    FnOk P W0 K mg base CX0 (21 + n + 1) f fd ["_law_h", "_law_deep"] (spLBody K (n + 1)) := by
  refine F.ok scLBody (fun vs H Q E h => ?_) (fun cdv A outer s H vs Q E hr h => ?_)
  · obtain ⟨h, l, d, rfl, _⟩ := h
    rfl
  · obtain ⟨h, l, d, rfl, hd, hn10, hS, q⟩ := h
    have hr1 : Room 1 _ := hr.mono (by omega)
    have hr21 : Room 21 _ := hr.mono (by omega)
    refine ⟨_, pss_cons (ps_set (i := 2) scLBody.nd rfl (.inl rfl) (pe_call GX hr1 (by rfl) NX.m NX.kp NX.b .nil pass0 (pa_cons (pv 0) (pa_cons pe_int pa_nil))))
      (pss_cons (ps_if (PW.pt (pw_or (pt_cmpR op_eq (pv 1) pe_int (nomark _)) (pw_or1 (pt_cmpR op_lt (pv 2) pe_int (nomark _)))))
        (pss_cons (ps_set (i := 3) scLBody.nd rfl (.inl rfl) (pe_tup (pa_cons (pe_call GX hr1 (by rfl) NX.m NX.kp NX.b .nil pass0 (pa_cons (pv 0) (pa_cons pe_int pa_nil))) (pa_cons (pe_call GX hr1 (by rfl) NX.m NX.kp NX.b .nil pass0 (pa_cons (pv 0) (pa_cons pe_int pa_nil))) (pa_cons (pe_ix ix_list (pe_lst (pa_cons pe_int (pa_cons (pe_call GX hr1 (by rfl) NX.m NX.kp NX.b .nil pass0 (pa_cons (pv 0) (pa_cons pe_int pa_nil))) pa_nil))) (pe_call GX hr1 (by rfl) NX.m NX.kp NX.b .nil pass0 (pa_cons (pv 0) (pa_cons pe_int pa_nil))) (fun _ _ => rfl)) pa_nil)))))
        (pss_one (ps_ret (pe_tup (pa_cons pe_str (pa_cons (pv 3) (pa_cons (pe_callTy call_tuple_of (by rfl) T.tuple (by decide +kernel) (pa_cons
          (pe_lc (own := [("_law_number", 11)]) (g := gName 11) rfl scLBody.nd (pi_tup (pv 3)) (blkOk_by (own := [("_law_number", 11)]) (N := ["_law_h", "_law_deep", "_law_way", "_law_cell", "_law_k", "_law_some", "_law_word", "_law_one", "_law_far", "_law_low", "_law_high", "_law_number"]) (sc := defScope lBody) (by decide +kernel))
            (fun _ _ _ _ _ => pg_name (i := 11) scLBody.nd rfl (.inl rfl)) (fun _ _ _ _ _ => pts_nil) (fun _ _ _ _ _ => pe_op op_add pe_int (pe_call GX hr1 (by rfl) NX.m NX.kp NX.b .nil pass0 (pa_cons (pv 0) (pa_cons (pe_op op_sub pe_int (pv 11)) pa_nil))))) pa_nil)) pa_nil))))))) pss_nil)
      (pss_cons (ps_if (pt_cmpR op_eq (pv 2) pe_int (nomark _))
        (pss_cons (ps_setLc (i := 5) (own := [("_law_k", 4)]) (g := gName 4) rfl scLBody.nd rfl rfl (sw_true rfl rfl rfl (by decide +kernel)) (pi_range1 (by rfl) T.range (pa_cons (pe_call GX hr1 (by rfl) NX.m NX.kp NX.b .nil pass0 (pa_cons (pv 0) (pa_cons pe_int pa_nil))) pa_nil)) (blkOk_by (own := [("_law_k", 4)]) (N := ["_law_h", "_law_deep", "_law_way", "_law_cell", "_law_k", "_law_some", "_law_word", "_law_one", "_law_far", "_law_low", "_law_high", "_law_number"]) (sc := defScope lBody) (by decide +kernel))
            (fun _ _ _ _ _ => pg_name (i := 4) scLBody.nd rfl (.inl rfl)) (fun _ _ _ _ _ => pts_nil) (fun _ _ _ _ _ => pe_tup (pa_cons (pe_call GX hr1 (by rfl) NX.m NX.kp NX.b .nil pass0 (pa_cons (pv 0) (pa_cons pe_int pa_nil))) (pa_cons (pe_call GX hr1 (by rfl) NX.m NX.kp NX.b .nil pass0 (pa_cons (pv 0) (pa_cons pe_int pa_nil))) (pa_cons (pe_call GX hr1 (by rfl) NX.m NX.kp NX.b .nil pass0 (pa_cons (pv 0) (pa_cons pe_int pa_nil))) pa_nil)))))
        (pss_one (ps_ret (pe_tup (pa_cons pe_str (pa_cons (pe_callTy call_tuple_of (by rfl) T.tuple (by decide +kernel) (pa_cons (pe_callB (GZ.cr_sortedQ rfl hr.units) (by rfl) T.sorted (by decide +kernel) (pa_cons (pe_callTy (GZ.cr_setC rfl hr.units) (by rfl) T.set (by decide +kernel) (pa_cons (pv 5) pa_nil)) pa_nil)) pa_nil)) pa_nil)))))) pss_nil)
      (pss_cons (ps_if (pt_cmpR op_lt (pv 2) pe_int (nomark _))
        (pss_cons (ps_set (i := 6) scLBody.nd rfl (.inl rfl) (pe_ix ix_list (pe_lst (pa_cons pe_str (pa_cons pe_str (pa_cons pe_str (pa_cons pe_str pa_nil))))) (pe_op op_sub (pv 2) pe_int) (fun _ _ => rfl)))
        (pss_one (ps_ret (pe_tup (pa_cons (pv 6) (pa_cons (pe_call GB hr (by rfl) NB.m NB.kp NB.b .nil pass0 (pa_cons (pv 0) (pa_cons (pe_op op_sub (pv 1) pe_int) pa_nil))) (pa_cons (pe_call GB hr (by rfl) NB.m NB.kp NB.b .nil pass0 (pa_cons (pv 0) (pa_cons (pe_op op_sub (pv 1) pe_int) pa_nil))) pa_nil))))))) pss_nil)
      (pss_cons (ps_set (i := 7) scLBody.nd rfl (.inl rfl) (pe_call GB hr (by rfl) NB.m NB.kp NB.b .nil pass0 (pa_cons (pv 0) (pa_cons (pe_op op_sub (pv 1) pe_int) pa_nil))))
      (pss_cons (ps_if (pt_cmpR op_eq (pv 2) pe_int (nomark _)) (pss_one (ps_ret (pe_tup (pa_cons pe_str (pa_cons (pe_ix ix_str pe_str (pe_call GX hr1 (by rfl) NX.m NX.kp NX.b .nil pass0 (pa_cons (pv 0) (pa_cons pe_int pa_nil))) (fun _ _ => rfl)) (pa_cons (pv 7) pa_nil)))))) pss_nil)
      (pss_cons (ps_set (i := 5) scLBody.nd rfl (.inl rfl) (pe_call GA hr21 (by rfl) NA.m NA.kp NA.b .nil pass0 (pa_cons (pv 7) pa_nil)))
      (pss_cons (ps_set (i := 8) scLBody.nd rfl (.inl rfl) (pe_lst pa_nil))
      (pss_cons (ps_for PassesOwn.never rfl (pi_range1 (by rfl) T.range (pa_cons pe_int pa_nil)) (pg_name (i := 4) scLBody.nd rfl (.inr rfl))
        (pss_cons (ps_set (i := 9) scLBody.nd rfl (.inl rfl) (pe_callBK (GW.cr_minD rfl hr.units) (by rfl) U.min (by decide +kernel) (pa_cons (pe_lc (own := [("_law_cell", 3)]) (g := gName 3) rfl scLBody.nd (pi_list (pv 5)) (blkOk_by (own := [("_law_cell", 3)]) (N := ["_law_h", "_law_deep", "_law_way", "_law_cell", "_law_k", "_law_some", "_law_word", "_law_one", "_law_far", "_law_low", "_law_high", "_law_number"]) (sc := defScope lBody) (by decide +kernel)) (fun _ _ _ _ _ => pg_name (i := 3) scLBody.nd rfl (.inl rfl)) (fun _ _ _ _ _ => pts_nil) (fun _ _ _ _ _ => pe_ix (r := rIxT K) ix_tup (pv 3) (pv 4) (fun _ _ => rfl))) pa_nil) (pk_cons pe_int pk_nil)))
        (pss_cons (ps_set (i := 10) scLBody.nd rfl (.inl rfl) (pe_callBK (GW.cr_maxD rfl hr.units) (by rfl) U.max (by decide +kernel) (pa_cons (pe_lc (own := [("_law_cell", 3)]) (g := gName 3) rfl scLBody.nd (pi_list (pv 5)) (blkOk_by (own := [("_law_cell", 3)]) (N := ["_law_h", "_law_deep", "_law_way", "_law_cell", "_law_k", "_law_some", "_law_word", "_law_one", "_law_far", "_law_low", "_law_high", "_law_number"]) (sc := defScope lBody) (by decide +kernel)) (fun _ _ _ _ _ => pg_name (i := 3) scLBody.nd rfl (.inl rfl)) (fun _ _ _ _ _ => pts_nil) (fun _ _ _ _ _ => pe_ix (r := rIxT K) ix_tup (pv 3) (pv 4) (fun _ _ => rfl))) pa_nil) (pk_cons pe_int pk_nil)))
        (pss_one (ps_expr (pe_bm PySem.F.plainAttrs_list PySem.F.slot_list_append PySem.F.type_list_append mt_append (pv 8) (pa_cons (pe_op op_sub (pe_call GX hr1 (by rfl) NX.m NX.kp NX.b .nil pass0 (pa_cons (pv 0) (pa_cons (pe_op op_add (pe_op op_sub pe_int (pv 10)) (pv 9)) pa_nil))) (pv 9)) pa_nil)))))))
      (pss_one (ps_ret (pe_tup (pa_cons pe_str (pa_cons (pe_callTy call_tuple_of (by rfl) T.tuple (by decide +kernel) (pa_cons (pv 8) pa_nil)) (pa_cons (pv 7) pa_nil)))))))))))))), ?_⟩
    refine ⟨_, rfl, h, l, 10, rfl, by decide, by decide, hS, fun H1 way k1 s1 w0 w1 => ?_⟩
    refine ⟨_, rfl, rfl, _, rfl, ?_⟩
    by_cases hd0 : d = 0
    · subst hd0
      refine itD1 (by rfl) (iteT ?_)
      refine ⟨_, rfl, h, l, 4, rfl, by decide, by decide, s1, fun H2 ra k2 s2 a0 a1 => ?_⟩
      refine ⟨_, rfl, h, l, 4, rfl, by decide, by decide, s2, fun H3 rb k3 s3 b0 b1 => ?_⟩
      refine ⟨_, rfl, h, l, 4, rfl, by decide, by decide, s3, fun H4 rc k4 s4 c0 c1 => ⟨(by show 2 ≤ sizeLine; decide), fun lq hlq => ?_⟩⟩
      have hlqA := s4.apart hlq
      have s5 := s4.new (o := .lst [.int 0, .int rc]) hlq
      have k5 : Kp [h, l] H4 (upd H4 lq (.lst [.int 0, .int rc])) := Kp.new hlq
      have e5 : upd H4 lq (.lst [.int 0, .int rc]) lq = some (.lst [.int 0, .int rc]) := upd_same
      generalize upd H4 lq (.lst [.int 0, .int rc]) = H5 at s5 k5 e5 ⊢
      refine ⟨_, rfl, h, l, 2, rfl, by decide, by decide, s5, fun H6 rd k6 s6 d0 d1 => ?_⟩
      have e6 := k6.lst e5 hlqA
      obtain ⟨z, hz, z0, z1⟩ : ∃ z, atI [V.int 0, V.int rc] rd = some (.int z) ∧ 0 ≤ z ∧ z < 4 := by
        rcases (show rd = 0 ∨ rd = 1 by omega) with rfl | rfl
        · exact ⟨0, rfl, by decide, by decide⟩
        · exact ⟨rc, rfl, c0, c1⟩
      refine ⟨lq, _, rd, _, rfl, rfl, SqL.of e6, hz, (by show 3 ≤ sizeLine; decide), fun tc htc => ?_⟩
      have s7 := s6.new (o := .tup [.int ra, .int rb, .int z]) htc
      have k7 : Kp [h, l] H (upd H6 tc (.tup [.int ra, .int rb, .int z])) := ((((k1.trans k2).trans k3).trans k4).trans (k5.trans k6)).trans (Kp.new htc)
      have hc7 : SqT K (upd H6 tc (.tup [.int ra, .int rb, .int z])) tc ([ra, rb, z].map V.int) := SqT.of upd_same
      generalize upd H6 tc (.tup [.int ra, .int rb, .int z]) = H7 at s7 k7 hc7 ⊢
      refine ⟨_, rfl, _, rfl, tc, rfl, ⟨_, hc7⟩, fun D hD => lc_tup (K := K) (xs := [ra, rb, z].map V.int) (fun i H' => Kp [h, l] H7 H' ∧ Sta H' h l ∧ ∃ ns : List Int, H' D = some (.lst (ns.map V.int)) ∧ ns.length = i ∧ ∀ (j : Nat) (n u : Int), ns[j]? = some n → [ra, rb, z][j]? = some u → 1 ≤ n ∧ u + n ≤ 4)
        ⟨Kp.new hD, s7.new hD, [], upd_same, rfl, by simp⟩ (fun i H' _ pv => pv.1.sqT hc7) (fun i x H' hx pv => ?_) (fun H' pv => ?_)⟩
      · obtain ⟨k, sx, ns, hDl, hlen, hns⟩ := pv
        have hDA := s7.apart hD
        obtain ⟨u, hu, rfl⟩ := int_at hx
        have hub : 0 ≤ u ∧ u < 4 := by
          have := List.mem_of_getElem? hu
          simp at this
          rcases this with rfl | rfl | rfl
          · exact ⟨a0, a1⟩
          · exact ⟨b0, b1⟩
          · exact ⟨z0, z1⟩
        have hi3 : i < 3 := (List.getElem?_eq_some_iff.mp hu).1
        refine ⟨rfl, yesI ?_⟩
        refine ⟨_, rfl, _, rfl, _, _, rfl, rfl, h, l, 4 - u, rfl, by omega, by omega, sx, fun H'' r k'' s'' r0 r1 => ⟨_, _, rfl, rfl, ?_⟩⟩
        have hD2 := k''.lst hDl hDA
        refine ⟨_, hD2, ?_, (k.trans k'').chg0 hD hD2, s''.chg hD2 hDA, ns ++ [1 + r], ?_, ?_, ?_⟩
        · rw [List.length_map]
          have : (64 : Nat) < sizeLine := by decide
          omega
        · rw [upd_same, List.map_append]
          rfl
        · rw [List.length_append, List.length_singleton, hlen]
        · intro j n u' hj hu'
          by_cases hji : j < ns.length
          · rw [List.getElem?_append_left hji] at hj
            exact hns j n u' hj hu'
          · have hj2 : j = ns.length := by
              have := (List.getElem?_eq_some_iff.mp hj).1
              rw [List.length_append, List.length_singleton] at this
              omega
            subst hj2
            rw [List.getElem?_append_right (Nat.le_refl _), Nat.sub_self] at hj
            have en : 1 + r = n := by simpa using hj
            rw [hlen] at hu'
            rw [hu] at hu'
            have eu : u = u' := Option.some.inj hu'
            omega
      · obtain ⟨k, sx, ns, hDl, hlen, hns⟩ := pv
        have hlen : ns.length = 3 := hlen
        obtain ⟨n1, n2, n3, rfl⟩ : ∃ n1 n2 n3, ns = [n1, n2, n3] := by
          match ns, hlen with
          | [a, b, c], _ => exact ⟨a, b, c, rfl⟩
        have g1 := hns 0 n1 ra rfl rfl
        have g2 := hns 1 n2 rb rfl rfl
        have g3 := hns 2 n3 z rfl rfl
        refine ⟨D, _, rfl, .inl ⟨SqL.of hDl, fun tn htn => ⟨(by show 3 ≤ sizeLine; decide), fun tt htt => ?_⟩⟩⟩
        have kn := Kp.new (S := [h, l]) (o := .tup ([n1, n2, n3].map V.int)) htn
        have kt := Kp.new (S := [h, l]) (o := .tup [.str "block", .ref tc, .ref tn]) htt
        refine q _ _ (.block ra rb z n1 n2 n3) (((k7.trans k).trans kn).trans kt) ((sx.new htn).new htt) (.tup (SqT.of upd_same) (.cons (.str _) (.cons (dp_c (c := (ra, rb, z)) (kt.sqT (kn.sqT (k.sqT hc7)))) (.cons (dp_c (c := (n1, n2, n3)) (kt.sqT (SqT.of upd_same))) .nil)))) ?_ ?_
        · exact ⟨⟨⟨by omega, by show ra ≤ 3; omega⟩, ⟨by show 0 ≤ rb; omega, by show rb ≤ 3; omega⟩, ⟨by show 0 ≤ z; omega, by show z ≤ 3; omega⟩⟩, g1, g2, g3⟩
        · exact Nat.le_add_left 1 _
    refine itD0 (by intro z; apply hd0; have := V.int.inj z; omega) ?_
    obtain ⟨d', rfl⟩ : ∃ d', d = d' + 1 := ⟨d - 1, by omega⟩
    have hd' : d' < n := by omega
    have eself : [V.ref h, V.int (((d' + 1 : Nat) : Int) - 1)] = [V.ref h, V.int (d' : Int)] := by
      rw [show ((d' + 1 : Nat) : Int) - 1 = (d' : Int) by omega]
    refine ⟨_, rfl, _, _, rfl, rfl, _, rfl, ?_⟩
    by_cases hw3 : way < 3
    · refine itD1 hw3 ?_
      refine ⟨_, rfl, h, l, 4, rfl, by decide, by decide, s1, fun H2 ra k2 s2 a0 a1 => ?_⟩
      refine ⟨_, rfl, h, l, 4, rfl, by decide, by decide, s2, fun H3 rb k3 s3 b0 b1 => ?_⟩
      refine ⟨_, rfl, h, l, 4, rfl, by decide, by decide, s3, fun H4 rc k4 s4 c0 c1 => ⟨(by show 2 ≤ sizeLine; decide), fun lq hlq => ?_⟩⟩
      have hlqA := s4.apart hlq
      have s5 := s4.new (o := .lst [.int 0, .int rc]) hlq
      have k5 : Kp [h, l] H4 (upd H4 lq (.lst [.int 0, .int rc])) := Kp.new hlq
      have e5 : upd H4 lq (.lst [.int 0, .int rc]) lq = some (.lst [.int 0, .int rc]) := upd_same
      generalize upd H4 lq (.lst [.int 0, .int rc]) = H5 at s5 k5 e5 ⊢
      refine ⟨_, rfl, h, l, 2, rfl, by decide, by decide, s5, fun H6 rd k6 s6 d0 d1 => ?_⟩
      have e6 := k6.lst e5 hlqA
      obtain ⟨z, hz, z0, z1⟩ : ∃ z, atI [V.int 0, V.int rc] rd = some (.int z) ∧ 0 ≤ z ∧ z < 4 := by
        rcases (show rd = 0 ∨ rd = 1 by omega) with rfl | rfl
        · exact ⟨0, rfl, by decide, by decide⟩
        · exact ⟨rc, rfl, c0, c1⟩
      refine ⟨lq, _, rd, _, rfl, rfl, SqL.of e6, hz, (by show 3 ≤ sizeLine; decide), fun tc htc => ?_⟩
      have s7 := s6.new (o := .tup [.int ra, .int rb, .int z]) htc
      have k7 : Kp [h, l] H (upd H6 tc (.tup [.int ra, .int rb, .int z])) := ((((k1.trans k2).trans k3).trans k4).trans (k5.trans k6)).trans (Kp.new htc)
      have hc7 : SqT K (upd H6 tc (.tup [.int ra, .int rb, .int z])) tc ([ra, rb, z].map V.int) := SqT.of upd_same
      generalize upd H6 tc (.tup [.int ra, .int rb, .int z]) = H7 at s7 k7 hc7 ⊢
      refine ⟨_, rfl, _, rfl, tc, rfl, ⟨_, hc7⟩, fun D hD => lc_tup (K := K) (xs := [ra, rb, z].map V.int) (fun i H' => Kp [h, l] H7 H' ∧ Sta H' h l ∧ ∃ ns : List Int, H' D = some (.lst (ns.map V.int)) ∧ ns.length = i ∧ ∀ (j : Nat) (n u : Int), ns[j]? = some n → [ra, rb, z][j]? = some u → 1 ≤ n ∧ u + n ≤ 4)
        ⟨Kp.new hD, s7.new hD, [], upd_same, rfl, by simp⟩ (fun i H' _ pv => pv.1.sqT hc7) (fun i x H' hx pv => ?_) (fun H' pv => ?_)⟩
      · obtain ⟨k, sx, ns, hDl, hlen, hns⟩ := pv
        have hDA := s7.apart hD
        obtain ⟨u, hu, rfl⟩ := int_at hx
        have hub : 0 ≤ u ∧ u < 4 := by
          have := List.mem_of_getElem? hu
          simp at this
          rcases this with rfl | rfl | rfl
          · exact ⟨a0, a1⟩
          · exact ⟨b0, b1⟩
          · exact ⟨z0, z1⟩
        have hi3 : i < 3 := (List.getElem?_eq_some_iff.mp hu).1
        refine ⟨rfl, yesI ?_⟩
        refine ⟨_, rfl, _, rfl, _, _, rfl, rfl, h, l, 4 - u, rfl, by omega, by omega, sx, fun H'' r k'' s'' r0 r1 => ⟨_, _, rfl, rfl, ?_⟩⟩
        have hD2 := k''.lst hDl hDA
        refine ⟨_, hD2, ?_, (k.trans k'').chg0 hD hD2, s''.chg hD2 hDA, ns ++ [1 + r], ?_, ?_, ?_⟩
        · rw [List.length_map]
          have : (64 : Nat) < sizeLine := by decide
          omega
        · rw [upd_same, List.map_append]
          rfl
        · rw [List.length_append, List.length_singleton, hlen]
        · intro j n u' hj hu'
          by_cases hji : j < ns.length
          · rw [List.getElem?_append_left hji] at hj
            exact hns j n u' hj hu'
          · have hj2 : j = ns.length := by
              have := (List.getElem?_eq_some_iff.mp hj).1
              rw [List.length_append, List.length_singleton] at this
              omega
            subst hj2
            rw [List.getElem?_append_right (Nat.le_refl _), Nat.sub_self] at hj
            have en : 1 + r = n := by simpa using hj
            rw [hlen] at hu'
            rw [hu] at hu'
            have eu : u = u' := Option.some.inj hu'
            omega
      · obtain ⟨k, sx, ns, hDl, hlen, hns⟩ := pv
        have hlen : ns.length = 3 := hlen
        obtain ⟨n1, n2, n3, rfl⟩ : ∃ n1 n2 n3, ns = [n1, n2, n3] := by
          match ns, hlen with
          | [a, b, c], _ => exact ⟨a, b, c, rfl⟩
        have g1 := hns 0 n1 ra rfl rfl
        have g2 := hns 1 n2 rb rfl rfl
        have g3 := hns 2 n3 z rfl rfl
        refine ⟨D, _, rfl, .inl ⟨SqL.of hDl, fun tn htn => ⟨(by show 3 ≤ sizeLine; decide), fun tt htt => ?_⟩⟩⟩
        have kn := Kp.new (S := [h, l]) (o := .tup ([n1, n2, n3].map V.int)) htn
        have kt := Kp.new (S := [h, l]) (o := .tup [.str "block", .ref tc, .ref tn]) htt
        refine q _ _ (.block ra rb z n1 n2 n3) (((k7.trans k).trans kn).trans kt) ((sx.new htn).new htt) (.tup (SqT.of upd_same) (.cons (.str _) (.cons (dp_c (c := (ra, rb, z)) (kt.sqT (kn.sqT (k.sqT hc7)))) (.cons (dp_c (c := (n1, n2, n3)) (kt.sqT (SqT.of upd_same))) .nil)))) ?_ ?_
        · exact ⟨⟨⟨by omega, by show ra ≤ 3; omega⟩, ⟨by show 0 ≤ rb; omega, by show rb ≤ 3; omega⟩, ⟨by show 0 ≤ z; omega, by show z ≤ 3; omega⟩⟩, g1, g2, g3⟩
        · exact Nat.le_add_left 1 _
    refine itD0 hw3 ?_
    refine ⟨_, rfl, rfl, _, rfl, ?_⟩
    by_cases hw4 : way = 3
    · refine itD1 (by rw [hw4]) ?_
      refine ⟨_, rfl, h, l, 14, rfl, by decide, by decide, s1, fun H2 r k2 s2 r0 r1 => ⟨r, rfl, by omega, by omega, fun D hD => lc_range (lo := 0) (n := r.toNat) (fun i H' => Kp [h, l] H2 H' ∧ Sta H' h l ∧ ∃ (acc : List V) (cs : List C3), H' D = some (.lst acc) ∧ Items K H' acc cs ∧ cs.length = i ∧ ∀ c ∈ cs, InR c) ⟨Kp.new hD, s2.new hD, [], [], upd_same, .nil, rfl, by simp⟩ (fun i H' hi pv => ?_) (fun H' pv => ?_)⟩⟩
      · obtain ⟨k, sx, acc, cs, hDl, hI, hlen, hR⟩ := pv
        have hDA := s2.apart hD
        refine ⟨rfl, yesI ?_⟩
        refine ⟨_, rfl, h, l, 4, rfl, by decide, by decide, sx, fun Ha ra ka sa a0 a1 => ?_⟩
        refine ⟨_, rfl, h, l, 4, rfl, by decide, by decide, sa, fun Hb rb kb sb b0 b1 => ?_⟩
        refine ⟨_, rfl, h, l, 4, rfl, by decide, by decide, sb, fun Hc rc kc sc c0 c1 => ⟨(by show 3 ≤ sizeLine; decide), fun t ht => ?_⟩⟩
        have kt := Kp.new (S := [h, l]) (o := .tup [.int ra, .int rb, .int rc]) ht
        have kk := ((ka.trans kb).trans kc).trans kt
        have hD2 := kk.lst hDl hDA
        have st := sc.new (o := .tup [.int ra, .int rb, .int rc]) ht
        have hq : SqT K (upd Hc t (.tup [.int ra, .int rb, .int rc])) t [.int ra, .int rb, .int rc] := SqT.of upd_same
        have hit := items_mono kk hI
        have hl := hI.length
        have kd := Kp.chg (S := [D]) (ys := acc ++ [V.ref t]) hD2 (List.mem_singleton.mpr rfl)
        refine ⟨_, hD2, ?_, (k.trans kk).chg0 hD hD2, st.chg hD2 hDA, _, cs ++ [(ra, rb, rc)], upd_same, ?_, ?_, ?_⟩
        · have : (64 : Nat) < sizeLine := by decide
          omega
        · exact Items.append (items_mono kd hit) (Items.one (dp_c (c := (ra, rb, rc)) (kd.sqT hq)))
        · rw [List.length_append, List.length_singleton, hlen]
        · intro c hc
          rcases List.mem_append.mp hc with z | z
          · exact hR c z
          · rw [List.mem_singleton.mp z]
            exact ⟨⟨a0, by show ra ≤ 3; omega⟩, ⟨b0, by show rb ≤ 3; omega⟩, ⟨c0, by show rc ≤ 3; omega⟩⟩
      · obtain ⟨k, sx, acc, cs, hDl, hI, hlen, hR⟩ := pv
        refine ⟨_, rfl, .ref D, cs, rfl, .inl (cellsL_of hDl hI), hR, fun e L he g1 g2 => ?_⟩
        have ke := Kp.new (S := [h, l]) (o := GZ.SQO P W0 e L) he
        refine ⟨e, L, rfl, upd_same, fun z hz => ke.sqT (g1 z hz).2, fun zs ds r2 hp hnd hs hlen' hit hr' => ?_⟩
        have kr := Kp.new (S := [h, l]) (o := .lst zs) hr'
        refine ⟨r2, zs, rfl, .inl ⟨SqL.of upd_same, fun tn htn => ⟨(by show 2 ≤ sizeLine; decide), fun tt htt => ?_⟩⟩⟩
        have kn := Kp.new (S := [h, l]) (o := .tup zs) htn
        have kt := Kp.new (S := [h, l]) (o := .tup [.str "cells", .ref tn]) htt
        refine q _ _ (.cells ds) ((((((k1.trans k2).trans k).trans ke).trans kr).trans kn).trans kt) ((((sx.new he).new hr').new htn).new htt)
          (.tup (SqT.of upd_same) (.cons (.str _) (.cons (.tup (kt.sqT (SqT.of upd_same)) (items_mono kt (items_mono kn (items_mono kr hit)))) .nil))) ⟨asc_of hs hnd, fun c hc => ?_⟩ (Nat.le_add_left 1 _)
        have hc2 := hp.mem_iff.mp hc
        obtain ⟨z, hz, rfl⟩ := List.mem_map.mp hc2
        exact hR _ (g1 z hz).1
    refine itD0 (by intro z; exact hw4 (V.int.inj z)) ?_
    refine ⟨_, rfl, _, _, rfl, rfl, _, rfl, ?_⟩
    by_cases hw8 : way < 8
    · refine itD1 hw8 ?_
      refine ⟨(by show 4 ≤ sizeLine; decide), fun lw hlw => ?_⟩
      have k2 := Kp.new (S := [h, l]) (o := .lst [.str "with", .str "with", .str "less", .str "common"]) hlw
      have s2 := s1.new (o := .lst [.str "with", .str "with", .str "less", .str "common"]) hlw
      obtain ⟨w, mk, hat, hmk, hgood, hdpm⟩ : ∃ (w : Str) (mk : Bd → Bd → Bd), atI [V.str "with", V.str "with", V.str "less", V.str "common"] (way - 4) = some (.str w) ∧ (∀ p q, bD (mk p q) = .tuple [.str w, bD p, bD q]) ∧ (∀ p q, Good p → Good q → Good (mk p q)) ∧ ∀ p q, dp (mk p q) = 1 + max (dp p) (dp q) := by
        rcases (show way = 4 ∨ way = 5 ∨ way = 6 ∨ way = 7 by omega) with rfl | rfl | rfl | rfl
        · exact ⟨"with", .wth, rfl, fun _ _ => rfl, fun _ _ a b => ⟨a, b⟩, fun _ _ => rfl⟩
        · exact ⟨"with", .wth, rfl, fun _ _ => rfl, fun _ _ a b => ⟨a, b⟩, fun _ _ => rfl⟩
        · exact ⟨"less", .less, rfl, fun _ _ => rfl, fun _ _ a b => ⟨a, b⟩, fun _ _ => rfl⟩
        · exact ⟨"common", .common, rfl, fun _ _ => rfl, fun _ _ a b => ⟨a, b⟩, fun _ _ => rfl⟩
      refine ⟨_, rfl, _, _, rfl, rfl, lw, _, way - 4, _, rfl, rfl, SqL.of upd_same, hat, ?_⟩
      refine ⟨_, rfl, _, rfl, _, rfl, _, _, rfl, rfl, h, l, d', eself, hd', by omega, s2, fun Ha va ba ka sa ha ga da => ?_⟩
      refine ⟨_, rfl, _, rfl, _, _, rfl, rfl, h, l, d', eself, hd', by omega, sa, fun Hb vb bb kb sb hb gb db => ?_⟩
      refine ⟨(by show 3 ≤ sizeLine; decide), fun tt htt => ?_⟩
      have kt := Kp.new (S := [h, l]) (o := .tup [.str w, va, vb]) htt
      refine q _ _ (mk ba bb) ((((k1.trans k2).trans ka).trans kb).trans kt) (sb.new htt) ?_ (hgood _ _ ga gb) ?_
      · show Dp K _ _ (bD (mk ba bb))
        rw [hmk]
        exact .tup (SqT.of upd_same) (.cons (.str _) (.cons (body_mono kt (body_mono kb ha)) (.cons (body_mono kt hb) .nil)))
      · rw [hdpm]
        omega
    refine itD0 hw8 ?_
    refine ⟨_, rfl, _, rfl, _, _, rfl, rfl, h, l, d', eself, hd', by omega, s1, fun H2 v1 b1 k2 s2 hb1 gb1 db1 => ?_⟩
    refine ⟨_, rfl, rfl, _, rfl, ?_⟩
    by_cases hw9 : way = 8
    · refine itD1 (by rw [hw9]) ?_
      refine ⟨_, rfl, h, l, 3, rfl, by decide, by decide, s2, fun H3 r k3 s3 r0 r1 => ?_⟩
      obtain ⟨c, w, mk, hat, hcw, hmk, hgood, hdpm⟩ : ∃ (c : Nat) (w : Str) (mk : Bd → Bd), atI ("xyz" : Str).cps.toList r = some c ∧ (⟨#[c]⟩ : Str) = w ∧ (∀ p, bD (mk p) = .tuple [.str "turned", .str w, bD p]) ∧ (∀ p, Good p → Good (mk p)) ∧ ∀ p, dp (mk p) = 1 + dp p := by
        rcases (show r = 0 ∨ r = 1 ∨ r = 2 by omega) with rfl | rfl | rfl
        · exact ⟨120, "x", .turnX, by decide +kernel, by decide +kernel, fun _ => rfl, fun _ a => a, fun _ => rfl⟩
        · exact ⟨121, "y", .turnY, by decide +kernel, by decide +kernel, fun _ => rfl, fun _ a => a, fun _ => rfl⟩
        · exact ⟨122, "z", .turnZ, by decide +kernel, by decide +kernel, fun _ => rfl, fun _ a => a, fun _ => rfl⟩
      refine ⟨_, r, c, rfl, rfl, (by decide +kernel), hat, _, rfl, (by show 3 ≤ sizeLine; decide), fun tt htt => ?_⟩
      have kt := Kp.new (S := [h, l]) (o := .tup [.str "turned", .str ⟨#[c]⟩, v1]) htt
      refine q _ _ (mk b1) (((k1.trans k2).trans k3).trans kt) (s3.new htt) ?_ (hgood _ gb1) ?_
      · show Dp K _ _ (bD (mk b1))
        rw [hmk, ← hcw]
        exact .tup (SqT.of upd_same) (.cons (.str _) (.cons (.str _) (.cons (body_mono kt (body_mono k3 hb1)) .nil)))
      · rw [hdpm]
        omega
    refine itD0 (by intro z; exact hw9 (V.int.inj z)) ?_
    have db1' : dp b1 ≤ 20 := by omega
    refine ⟨_, rfl, v1, b1, rfl, hb1, db1', fun H3 r zs k3 n3 h3 i3 => ?_⟩
    have s3 := s2.mono0 k3
    have hra := s2.apart n3
    refine ⟨Nat.zero_le _, fun fa hfa => ?_⟩
    have hfaA := s3.apart hfa
    have hrf : r ≠ fa := by
      intro z
      rw [z, hfa] at h3
      cases h3
    have hb3 : Body K H3 v1 b1 := body_mono k3 hb1
    refine ⟨3, rfl, by decide, by decide, for_range (lo := 0) (n := 3) (fun i σ H' => ∃ (o4 o9 o10 : Option V), σ = [some (.ref h), some (.int ((d' + 1 : Nat) : Int)), some (.int way), none, o4, some (.ref r), none, some v1, some (.ref fa), o9, o10, none] ∧ Kp [h, l] H3 H' ∧ Sta H' h l ∧ ∃ fs : List Int, H' fa = some (.lst (fs.map V.int)) ∧ fs.length = i ∧ ∀ (j : Nat) (f : Int), fs[j]? = some f → FarOk b1 j f)
      ⟨none, none, none, rfl, Kp.new hfa, s3.new hfa, [], upd_same, rfl, by simp⟩ (fun i σ H4 hi pv => ?_) (fun σ H4 pv => ?_)⟩
    · obtain ⟨o4, o9, o10, rfl, k4, s4, fs, hfs, hfl, hff⟩ := pv
      refine ⟨_, rfl, r, rfl, ⟨_, SqL.of (k4.lst h3 hra)⟩, fun D hD => lc_list (K := K) (a := r) (xs := zs) (fun j H' => Kp [] H4 H' ∧ H' D = some (.lst ((((all b1).take j).map (comp i)).map V.int))) ⟨Kp.new hD, upd_same⟩ (fun j H' _ pv => SqL.of (pv.1.lst (k4.lst h3 hra) List.not_mem_nil)) (fun j x H' hx pv => ?_) (fun H' pv => ?_)⟩
      · obtain ⟨k, hDl⟩ := pv
        obtain ⟨c, hc, hdc⟩ := i3.get hx
        obtain ⟨p, rfl, hp⟩ := of_dp_c hdc
        have hjl : j < (all b1).length := (List.getElem?_eq_some_iff.mp hc).1
        have hal := all_len b1
        refine ⟨rfl, yesI ?_⟩
        refine ⟨_, rfl, _, rfl, p, _, _, _, rfl, rfl, k.sqT (k4.sqT hp), comp_at hi c, ?_⟩
        refine ⟨_, hDl, ?_, k.chg0 hD hDl, ?_⟩
        · rw [List.length_map, List.length_map, List.length_take]
          have : (64 : Nat) < sizeLine := by decide
          omega
        · rw [upd_same, List.take_add_one, hc, List.map_append, List.map_append]
          rfl
      obtain ⟨k5, hDl⟩ := pv
      rw [i3.length, List.take_length] at hDl
      rename Hp => H5
      dsimp only [tNil, tCons, tC]
      refine minR (SqL.of hDl) (fun low hlow => ?_)
      have s5 := s4.mono0 k5
      have k45 := k4.trans (k5.w0 (S := [h, l]))
      refine ⟨_, rfl, r, rfl, ⟨_, SqL.of (k45.lst h3 hra)⟩, fun D hD => lc_list (K := K) (a := r) (xs := zs) (fun j H' => Kp [] H5 H' ∧ H' D = some (.lst ((((all b1).take j).map (comp i)).map V.int))) ⟨Kp.new hD, upd_same⟩ (fun j H' _ pv => SqL.of (pv.1.lst (k45.lst h3 hra) List.not_mem_nil)) (fun j x H' hx pv => ?_) (fun H' pv => ?_)⟩
      · obtain ⟨k, hDl⟩ := pv
        obtain ⟨c, hc, hdc⟩ := i3.get hx
        obtain ⟨p, rfl, hp⟩ := of_dp_c hdc
        have hjl : j < (all b1).length := (List.getElem?_eq_some_iff.mp hc).1
        have hal := all_len b1
        refine ⟨rfl, yesI ?_⟩
        refine ⟨_, rfl, _, rfl, p, _, _, _, rfl, rfl, k.sqT (k45.sqT hp), comp_at hi c, ?_⟩
        refine ⟨_, hDl, ?_, k.chg0 hD hDl, ?_⟩
        · rw [List.length_map, List.length_map, List.length_take]
          have : (64 : Nat) < sizeLine := by decide
          omega
        · rw [upd_same, List.take_add_one, hc, List.map_append, List.map_append]
          rfl
      obtain ⟨k6, hDl⟩ := pv
      rw [i3.length, List.take_length] at hDl
      rename Hp => H6
      dsimp only [tNil, tCons, tC]
      refine maxR (SqL.of hDl) (fun high hhigh => ?_)
      have s6 := s5.mono0 k6
      have k46 := k45.trans (k6.w0 (S := [h, l]))
      have hlh : 0 ≤ low ∧ low ≤ 3 ∧ 0 ≤ high ∧ high ≤ 3 ∧ ∀ c ∈ all b1, low ≤ comp i c ∧ comp i c ≤ high := lowhigh hlow hhigh
      obtain ⟨l0, l3, g0, g3, hcs⟩ := hlh
      have hf6 := k6.lst (k5.lst hfs List.not_mem_nil) List.not_mem_nil
      refine ⟨_, rfl, .inl ⟨rfl, _, SqL.of hf6⟩, _, rfl, _, rfl, _, _, rfl, rfl, _, rfl, _, _, rfl, rfl, h, l, 4 - high + low, rfl, by omega, by omega, s6, fun H7 rr k7 s7 r0 r1 => ?_⟩
      have hf7 := k7.lst hf6 hfaA
      refine ⟨_, rfl, _, _, rfl, rfl, fa, _, _, rfl, rfl, hf7, ?_, ?_⟩
      · rw [List.length_map]
        have : (64 : Nat) < sizeLine := by decide
        omega
      · refine ⟨_, _, _, rfl, (k46.trans k7).chg0 hfa hf7, s7.chg hf7 hfaA, fs ++ [rr - low], ?_, ?_, ?_⟩
        · rw [upd_same, List.map_append]
          rfl
        · rw [List.length_append, List.length_singleton, hfl]
        · intro j f hj
          by_cases hji : j < fs.length
          · rw [List.getElem?_append_left hji] at hj
            exact hff j f hj
          · have hj2 : j = fs.length := by
              have := (List.getElem?_eq_some_iff.mp hj).1
              rw [List.length_append, List.length_singleton] at this
              omega
            subst hj2
            rw [List.getElem?_append_right (Nat.le_refl _), Nat.sub_self] at hj
            have ef : rr - low = f := by simpa using hj
            rw [hfl]
            refine ⟨by omega, by omega, fun c hc => ?_⟩
            have := hcs c hc
            omega
    · obtain ⟨o4, o9, o10, rfl, k4, s4, fs, hfs, hfl, hff⟩ := pv
      have hfl : fs.length = 3 := hfl
      obtain ⟨n1, n2, n3', rfl⟩ : ∃ n1 n2 n3, fs = [n1, n2, n3] := by
        match fs, hfl with
        | [a, b, c], _ => exact ⟨a, b, c, rfl⟩
      have g1 := hff 0 n1 rfl
      have g2 := hff 1 n2 rfl
      have g3 := hff 2 n3' rfl
      refine ⟨_, rfl, fa, _, rfl, .inl ⟨SqL.of hfs, fun tn htn => ⟨_, rfl, (by show 3 ≤ sizeLine; decide), fun tt htt => ?_⟩⟩⟩
      have kn := Kp.new (S := [h, l]) (o := .tup ([n1, n2, n3'].map V.int)) htn
      have kt := Kp.new (S := [h, l]) (o := .tup [.str "moved", .ref tn, v1]) htt
      refine q _ _ (.moved (n1, n2, n3') b1) ((((k1.trans k2).trans (k3.w0.trans k4)).trans kn).trans kt) ((s4.new htn).new htt) (.tup (SqT.of upd_same) (.cons (.str _) (.cons (dp_c (c := (n1, n2, n3')) (kt.sqT (SqT.of upd_same))) (.cons (body_mono kt (body_mono kn (body_mono k4 hb3))) .nil)))) ⟨⟨⟨g1.1, g1.2.1⟩, ⟨g2.1, g2.2.1⟩, ⟨g3.1, g3.2.1⟩⟩, gb1, fun c hc => ?_⟩ ?_
      · have hca := (mem_good gb1).mpr hc
        have e1 := g1.2.2 c hca
        have e2 := g2.2.2 c hca
        have e3 := g3.2.2 c hca
        exact ⟨e1, e2, e3⟩
      · show 1 + dp b1 ≤ _
        omega
theorem lbody_none {f : Addr} {fd : FuncData} : FnOk P W0 K mg base CX0 21 f fd ["_law_h", "_law_deep"] (spLBody K 0) := by
  have no : ∀ vs H Q E, ¬ spLBody K 0 vs H Q E := fun vs H Q E h => by
    obtain ⟨_, _, _, _, hn, _⟩ := h
    omega
  exact ⟨fun vs H Q E h => absurd h (no vs H Q E), fun A outer s H args us vs Q E _ _ _ _ h => absurd h (no vs H Q E)⟩
theorem ok_lbody {f fX fA : Addr} {fd dX dA : FuncData} (F : Fun K "_law_body" "_law_body" lBody f fd) (T : Nm K mg) (U : Nl K mg) (NB : Fn K mg "_law_body" f fd ["_law_h", "_law_deep"])
    (NX : Fn K mg "_law_next" fX dX ["_law_h", "_law_many"]) (GX : FnOk P W0 K mg base CX0 1 fX dX ["_law_h", "_law_many"] spNext) (NA : Fn K mg "_law_all" fA dA ["_law_body_here"]) (GA : FnOk P W0 K mg base CX0 21 fA dA ["_law_body_here"] (spAll K)) :
    ∀ n : Nat, FnOk P W0 K mg base CX0 (21 + n) f fd ["_law_h", "_law_deep"] (spLBody K n)
  | 0 => lbody_none
  | n + 1 => lbody_step F T U NB (ok_lbody F T U NB NX GX NA GA n) NX GX NA GA
end LP
end

section
set_option Elab.async false
set_option linter.all false
set_option maxRecDepth 100000
set_option maxHeartbeats 2000000
/-! a lambda handed to a def, told so that all tables but the maker's stay -/
namespace LP
open PySem PySem.Spec PyProof.Rows L2
/-- all but the table at P is as it was -/
structure Oth (P : Addr) (H H1 : Hp) : Prop where
  keep : ∀ b o, b ≠ P → H b = some o → H1 b = some o
  free : ∀ b, H1 b = none → H b = none
section
variable {X : Cx} {pins : List (Addr × Obj)} {σ : L2.St} {H HZ : Hp} {s s1 : Shared}
theorem not_frame (I : Inv X pins σ H s) {f : Addr} (hf : s.heap.objs.size ≤ f) : f ∉ frs X.stack := by
  intro z
  have := I.lt
  rcases List.mem_cons.mp (I.stkSub _ z) with e | e
  · rw [← e] at this
    exact Nat.lt_irrefl _ (Nat.lt_of_lt_of_le this hf)
  · exact I.nofs hf e
theorem lam3 {c P : Addr} {params : Arguments} {body : Expr} {scope : Scope} {pos : Pos} {E : Value → Shared → Prop} {Q : Value → Shared → Prop} (I : Inv X pins σ H s) (TB : LamX.TabB X.base X.mg c P) (hcode : X.env.code = .ref c)
    (hT : LamX.TabS H P (X.env.qual ++ "<lambda>")) (hdef : defaultsOf params X.env = ([], [])) (hfree : ∀ y ∈ scope.names, y.2 = .free → ∃ c, X.env.cells.lookup y.1 = some c)
    (h : ∀ (f c' : Addr) (pm ctv : Value) (H1 : Hp) (s' : Shared), Inv X pins σ H1 s' → Oth P H H1 → LamX.TabS H1 P (X.env.qual ++ "<lambda>") →
      s'.heap.get? f = some (PySem.W.kla_obj "<lambda>" (X.env.qual ++ "<lambda>") params body scope (cloFrom X.env.cells scope.names []) pm c' ctv) → H1 f = none → f ∉ frs X.stack → H1 c' = some (LamX.CodeO c' (X.env.qual ++ "<lambda>")) → Q (.ref f) s') :
    wpAny (model X.prog X.w) X.A (eval (.Lambda params body scope pos) X.env) Q E s := by
  obtain ⟨ps, tabP, tr, told⟩ := hT
  have heapP : s.heap.get? P = some { cls := .none, data := .fields ps } := I.hok P _ tabP
  have blt := TB.bm.keeps I.bk
  refine PySem.W.kla_eval hdef ?_
  rcases hc : codeAmong pos ps.toList with _ | cv
  · -- the code object is new
    refine PySem.W.kla_makeFunction (mg := X.mg) (c := c) (P := P) (ps := ps) (closure_ok hfree) I.ok.glob (I.mod.glob.keeps I.bk) hcode (TB.code.keeps I.bk) heapP tr hc TB.gP blt fun c' ctv h' tk kept ge lt ⟨c2, oc, vs, t, e2, g1, g2, g3⟩ tab' => ?_
    cases e2
    have freeC : H c' = none := I.hok.fresh ge
    have grow : s.heap.objs.size ≤ h'.objs.size := Nat.le_trans ge (Nat.le_of_lt lt)
    have J := LamX.inv_table (t' := tk) (more := #[rawInt pos.line, rawInt pos.col, .ref c']) (h' := h'.push (PySem.W.kla_obj "<lambda>" (X.env.qual ++ "<lambda>") params body scope (cloFrom X.env.cells scope.names []) ((X.mg "__name__").getD .none) c' ctv)) I tabP
      (fun b o hb e => Heap.get?_push_of_some _ (kept b o hb e)) (Heap.get?_push_of_some _ tab') ge ⟨oc, vs, t, Heap.get?_push_of_some _ g1, g2, g3⟩
    generalize hH1 : upd (upd H P (.tbl (ps ++ #[rawInt pos.line, rawInt pos.col, .ref c']))) c' (LamX.CodeO c' (X.env.qual ++ "<lambda>")) = H1 at J
    have oth : Oth P H H1 := by
      rw [← hH1]
      refine ⟨fun b o n e => by rw [upd_ne (ne_of_none e freeC), upd_ne n]; exact e, fun b e => ?_⟩
      by_cases z : b = c'
      · rw [z, upd_same] at e
        cases e
      · rw [upd_ne z] at e
        by_cases z2 : b = P
        · rw [z2, upd_same] at e
          cases e
        · rw [upd_ne z2] at e
          exact e
    have codeC : H1 c' = some (LamX.CodeO c' (X.env.qual ++ "<lambda>")) := by rw [← hH1]; exact upd_same
    have lst : (ps ++ #[rawInt pos.line, rawInt pos.col, .ref c']).toList = ps.toList ++ [rawInt pos.line, rawInt pos.col, .ref c'] := by simp
    refine h h'.objs.size c' ((X.mg "__name__").getD .none) ctv H1 _ J oth ⟨_, by rw [← hH1, upd_ne (ne_of_none tabP freeC)]; exact upd_same, by rw [lst]; exact PySem.TriplesOk_snoc _ _ _ _ tr, fun p' cv' q => ?_⟩ (Heap.get?_push_size _ rfl) ?_ (not_frame I grow) codeC
    · rw [lst] at q
      rcases LamX.among_app _ tr q with z | z
      · obtain ⟨c0, e1, e2⟩ := told p' cv' z
        refine ⟨c0, e1, oth.keep c0 _ (fun n => ?_) e2⟩
        rw [n, tabP] at e2
        exact LamX.codeO_ne _ (Option.some.inj e2).symm
      · exact ⟨c', z, codeC⟩
    · rw [← hH1, upd_ne (Nat.ne_of_gt lt), upd_ne (fun n : h'.objs.size = P => Nat.lt_irrefl _ (Nat.lt_of_lt_of_le (by rw [n]; exact Heap.lt_size heapP) grow))]
      exact I.hok.fresh grow
  · -- it stands in the table
    obtain ⟨c', rfl, codeC⟩ := told pos cv hc
    refine PySem.W.kla_makeFunctionHit (mg := X.mg) (c := c) (P := P) (ps := ps) (closure_ok hfree) I.ok.glob (I.mod.glob.keeps I.bk) hcode (TB.code.keeps I.bk) heapP tr hc blt fun ctv h' tk kept grow => ?_
    have J : Inv X pins σ H { s with heap := h'.push (PySem.W.kla_obj "<lambda>" (X.env.qual ++ "<lambda>") params body scope (cloFrom X.env.cells scope.names []) ((X.mg "__name__").getD .none) c' ctv), toks := tk } := I.kept fun b o e => Heap.get?_push_of_some _ (kept b o e)
    exact h h'.objs.size c' ((X.mg "__name__").getD .none) ctv H _ J ⟨fun _ _ _ e => e, fun _ e => e⟩ ⟨ps, tabP, tr, told⟩ (Heap.get?_push_size _ rfl) (I.hok.fresh grow) (not_frame I grow) codeC
def tLam3 (P : Addr) (q : Str) (TT : (XK → Hp → VK → Prop) → Hp → VK → Prop) (t : XK → TE) : TE := fun σ H Q => LamX.TabS H P q ∧ ∀ H1, Oth P H H1 → LamX.TabS H1 P q → TT (fun E H' Q' => t E σ H' Q') H1 Q
/-- x(lambda: body) -/
theorem pe_lam3 {TT : (XK → Hp → VK → Prop) → Hp → VK → Prop} {x a : Str} {g c P : Addr} {k : Nat} {pg : Arguments} {bg : List Stmt} {sg : Scope} {dV kV doc pm cdv ct oc : Value} {an od : Option Addr} {osl : Array (Option Value)} {Ng : List Str}
    {params : Arguments} {body : Expr} {scope : Scope} {t : XK → TE} {p lpos pos : Pos} (hg : Gl X x) (hm : X.mg x = some (.ref g)) (hk : PySem.W.keepIn X.K (.ref g) = true)
    (lk : X.K.lookup g = some ⟨oc, od, .func (PySem.W.fnOf x x pg bg sg dV kV doc pm an cdv ct), osl⟩) (hcg : PySem.W.codeIn X.K cdv x = true) (hb : L2.Binds X.K (PySem.W.fnOf x x pg bg sg dV kV doc pm an cdv ct) [a] []) (Sg : FnScope Ng [a] sg) (hNg : Ng[0]? = some a) (hva : Vis sg a)
    (hG : LamX.GivesTo X Ng x sg g cdv bg a (X.env.qual ++ "<lambda>") TT)
    (TB : LamX.TabB X.base X.mg c P) (hcode : X.env.code = .ref c) (hr : Room (k + 2) X.A) (L : LamX.LamS X.env.scope scope) (hdef : defaultsOf params X.env = ([], []))
    (hbind : ∀ (q : Str) (cl : List (Str × Addr)) (pm cv ctv : Value), bindArgs (PySem.W.kla_fn "<lambda>" q params body scope cl pm cv ctv) ⟨[], []⟩ = pure [])
    (hbody : ∀ (A : Around) (outer : List Env) (s : Shared) (H : Hp) (E : XK) (f c' : Addr), Room k (A.deeper (LamX.lamEnv X scope s.heap.objs.size f c')) → PE (LamX.lamCx X A outer s H E scope f c') body (t E))
    (hdb : (x == ("__debug__" : Str)) = false := by decide) (hd : (a == ("__debug__" : Str)) = false := by decide) (hcd : (a == ("__classdict__" : Str)) = false := by decide) :
    PE X (.Call (.Name x p) [.Lambda params body scope lpos] [] pos) (tLam3 P (X.env.qual ++ "<lambda>") TT t) := by
  refine ⟨fun pins s σ H Q I ⟨tab, told⟩ => ?_⟩
  refine wpAny_Call_Name_kw (ld_glob I hg hm (PySem.W.callWith_K (h₀ := X.base) I.ok.mod.kin hk ?_ (by rfl) (by rfl)) hdb)
  show wpAny _ _ (spliced ((false, eval (.Lambda params body scope lpos) X.env) :: backTo pos (starEach [] X.env))) _ _ s
  refine Calls.spliced_cons (lam3 I TB hcode tab hdef (L.has I.ok) fun f c' pm' ctv H1 s' J oth tab1 of nf fr cc => Calls.spliced_nil ⟨J.kIn, wpAny_call ?_⟩)
  have called : codeAny (model X.prog X.w) X.A (.call (.ref g) ⟨[.ref f], []⟩) (CR C8.CX0 X.stack X.prog X.w H1 s' Q C8.E0) s' := by
    refine LamX.run_ofS (N := Ng) (ps := [a]) (us := [.ref f]) (vs := [.ref f]) lk hcg Sg hr J.env0 (hb s' [.ref f] J.kIn rfl) (.cons rfl .nil) rfl fun room => ?_
    have act := hG f c' s' H1 Q (fun E H' Q' => t E σ H' Q') (fun W pn xe E p1 p2 tk hW => LamX.pe_act (i := 0) J L of nf fr (hbind _ _ _ _ _) tk hW room (fun A outer s H r2 => hbody A outer s H E f c' r2) hNg hva hd hcd) cc (told H1 oth tab1)
    obtain ⟨t', a1, a2⟩ := act
    exact ⟨t', a1.nox, a2⟩
  refine codeAny_mono called fun r s2 hq => ?_
  match r, hq with
  | .error _, hq => exact (show False from hq).elim
  | .ok (.ret _), hq => exact J.after hq
  | .ok .next, hq => exact False.elim hq
  | .ok .brk, hq => exact False.elim hq
  | .ok .cont, hq => exact False.elim hq
end
section
variable [LamTab] {H H1 : Hp}
/-- what a lambda's making keeps -/
theorem Kp.oth {S : List Addr} (o : Oth LamTab.P H H1) (t : ∃ ps, H LamTab.P = some (.tbl ps)) (l : LamX.TabS H LamTab.P LamTab.q → LamX.TabS H1 LamTab.P LamTab.q) : Kp S H H1 := by
  obtain ⟨ps, e⟩ := t
  have ne : ∀ b u, H b = some u → (∀ ps, u ≠ .tbl ps) → b ≠ LamTab.P := fun b u q n z => by
    rw [z, e] at q
    exact n _ (Option.some.inj q).symm
  exact ⟨fun b u q _ n => o.keep b u (ne b u q n) q, fun b xs q => o.keep b _ (ne b _ q (fun _ z => by cases z)) q, fun b ⟨⟨qs, q1, q2⟩, q3⟩ => ⟨⟨qs, o.keep b _ q3 q1, q2⟩, q3⟩,
    fun b u v q => o.keep b _ (ne b _ q (fun _ z => by cases z)) q, o.free, l⟩
end
end LP
end

section
set_option Elab.async false
set_option linter.all false
set_option maxRecDepth 100000
set_option maxHeartbeats 4000000
/-! _law_kind -/
namespace LP
open PySem PySem.Spec PyProof.Rows L2 Ly GY
/-- xs.count(y) of flat things -/
def rCountV (K : PySem.W.Frag) : V → List V → Hp → VK → Prop := fun x xs H Q => ∃ (a : Addr) (ys : List V) (y : V), x = .ref a ∧ xs = [y] ∧ SqL K H a ys ∧ flatV y = true ∧ ys.all flatV = true ∧ Q (.int ((ys.countP fun z => eqV z y : Nat) : Int)) H
theorem countP_eqU {y : V} : ∀ {ys : List V} {us : List Value}, Vals ys us → ys.all flatV = true → us.countP (eqU y) = ys.countP fun z => eqV z y
  | _, _, .nil, _ => rfl
  | z :: zs, u :: us, .cons r t, f => by
    rw [List.all_cons, Bool.and_eq_true] at f
    rw [List.countP_cons, List.countP_cons, countP_eqU t f.2, eqU_of r f.1]
theorem mt_countV {X : Cx} : MtR X "list.count" (rCountV X.K) := by
  intro pins s σ H x xs v us Q I rx rxs h
  obtain ⟨a, ys, y, rfl, rfl, hs, fy, fys, q⟩ := h
  cases rx
  cases rxs with
  | cons ry rt =>
    rename_i uy ut
    cases rt
    obtain ⟨its, rv, ⟨⟨cls, dd, data, sl⟩, n, ho, hc, hdn, hd⟩, hlen⟩ := I.list hs
    simp only at hc hd
    subst hc hd
    refine call_meets PySem.F.slot_list_count ⟨_, ho, rfl⟩ PySem.F.entry_list_count (PySem.F.args_list_count_2 _ _)
      (SeqAt.list_countAt a its.toArray n dd sl uy (eqU y)) ⟨ho, fun u' hu' => mem_eqAt ry fy rv fys u' (by simpa using hu'), ?_⟩
    refine ⟨.int ((ys.countP fun z => eqV z y : Nat) : Int), H, I.tok _, ⟨s.toks, ?_⟩, q⟩
    rw [← countP_eqU rv fys]
variable [LamTab] {P : Program} {W0 : World} {K : PySem.W.Frag} {mg : Str → Option Value} {base : Heap}
/-- the classes of exceptions: P PrintError, L NoLayer; what an instance of NoLayer is -/
structure Kinds (K : PySem.W.Frag) (mg : Str → Option Value) (CP CB CO CL CN CR CK CT : Addr) : Prop where
  gP : mg "PrintError" = some (.ref CP)
  gB : mg "NoBody" = some (.ref CB)
  gO : mg "Outside" = some (.ref CO)
  gL : mg "NoLayer" = some (.ref CL)
  gN : mg "NoProp" = some (.ref CN)
  gR : mg "BadReach" = some (.ref CR)
  gK : mg "BadPlace" = some (.ref CK)
  gT : mg "BadText" = some (.ref CT)
  gV : mg "ValueError" = none
  e : PySem.W.exmOne K (.ref CL) (.ref CP) = some true
  x : ExcC K CL
  iB : PySem.W.kitOne K (.ref CL) (.ref CB) = some false
  iO : PySem.W.kitOne K (.ref CL) (.ref CO) = some false
  iL : PySem.W.kitOne K (.ref CL) (.ref CL) = some true
  iN : PySem.W.kitOne K (.ref CL) (.ref CN) = some false
  iR : PySem.W.kitOne K (.ref CL) (.ref CR) = some false
  iK : PySem.W.kitOne K (.ref CL) (.ref CK) = some false
  iT : PySem.W.kitOne K (.ref CL) (.ref CT) = some false
  iV : PySem.W.kitOne K (.ref CL) (.type "ValueError") = some true
theorem pss_of {X : Cx} {p : Prop} {b : List Stmt} {t : p → TS} (h : ∀ q : p, PSs X b (t q)) : PSs X b (fun D σ H => ∃ q : p, t q D σ H) := ⟨fun pins s σ H D I ⟨q, k⟩ => (h q).run pins s σ H D I k⟩
theorem pss_len {X : Cx} {b : List Stmt} {t : TS} (h : PSs X b t) : PSs X b (fun D σ H => σ.length = X.N.length → t D σ H) := ⟨fun pins s σ H D I k => h.run pins s σ H D I (k I.len)⟩
/-- what _law_kind makes of a work that raises NoLayer -/
def TTk (CL : Addr) : (XK → Hp → VK → Prop) → Hp → VK → Prop := fun tl H Q => tl (fun cls d H' => cls = .ref CL ∧ d = none ∧ ∀ H'', Kp [] H' H'' → Q (.str "NoLayer") H'') H (fun _ H' => Q (.str "") H')
def isT (K : PySem.W.Frag) (CL a : Addr) (c : V) : TE := tCB (rIsE K CL a) (tCons (tVar 1) (tCons (tC c) tNil))
def tSuite (K : PySem.W.Frag) (CB CO CL CN CR CK CT a : Addr) : TS :=
  tSeq (tAsg (tLst (tCons (isT K CL a (.ref CB)) (tCons (isT K CL a (.ref CO)) (tCons (isT K CL a (.ref CL)) (tCons (isT K CL a (.ref CN)) tNil))))) (gName 2))
  (tSeq (tAsg (tOp rCat (tVar 2) (tLst (tCons (isT K CL a (.ref CR)) (tCons (isT K CL a (.ref CK)) (tCons (isT K CL a (.ref CT)) tNil))))) (gName 2))
  (tSeq (tIfS (tOr (tTest (tOp rNe (tBM K "list" (rCountV K) (tVar 2) (tCons (tC (.bl true)) tNil)) (tC (.int 1)))) (tNot (tB (isT K CL a (.ty "ValueError"))))) (tRet (tC (.str "other"))) tNext)
  (tRet (tOp (rIxL K) (tLst (tCons (tC (.str "NoBody")) (tCons (tC (.str "Outside")) (tCons (tC (.str "NoLayer")) (tCons (tC (.str "NoProp")) (tCons (tC (.str "BadReach")) (tCons (tC (.str "BadPlace")) (tCons (tC (.str "BadText")) tNil)))))))) (tBM K "list" (rIndex K) (tVar 2) (tCons (tC (.bl true)) tNil))))))
theorem scKind : FnScope ["_law_work", "e", "_law_kinds"] ["_law_work"] (defScope lKind) := ⟨rfl, rfl, rfl, by decide +kernel, rfl, by decide +kernel, by decide +kernel⟩
theorem kind_gives {X : Cx} {g CP CB CO CL CN CR CK CT : Addr} {cdg : Value} {q : Str} (T : Nm X.K X.mg) (k : Kinds X.K X.mg CP CB CO CL CN CR CK CT) :
    LamX.GivesTo X ["_law_work", "e", "_law_kinds"] "_law_kind" (defScope lKind) g cdg (defBody lKind) "_law_work" q (TTk CL) := by
  intro f c' s H Q tl act hc h
  refine ⟨_, pss_cons (ps_try_as (X := (cxOf C8.CX0 X.prog X.w X.K X.mg X.base ["_law_work", "e", "_law_kinds"] "_law_kind" (defScope lKind) g cdg X.A X.stack s H C8.E0).nox) (i := 1) (c := .ref CP) (Wout := fun _ _ _ _ => False)
      (tb := fun W D σ H => ∃ Ech : XK, (∀ cls d σ' H', Ech cls d H' → W cls d σ' H') ∧ σ[0]? = some (some (.ref f)) ∧ H c' = some (LamX.CodeO c' q) ∧ tl Ech H (fun _ H' => D.nx σ H'))
      (ts := fun a cls d D σ H => ∃ z : cls = .ref CL ∧ d = none, σ.length = 3 → tSuite X.K CB CO CL CN CR CK CT a D σ H)
      rfl rfl scKind.nd rfl rfl ⟨rfl, by decide, .inl k.gP⟩ L2.takes0 (fun W pn xe tk _ => ?body) (fun a oe cls d pn hz hf => pss_of fun z => pss_len ?suite)) (pss_one (ps_ret pe_str)), ?read⟩
  case body =>
    refine ⟨fun pins s' σ H' D I h' => ?_⟩
    obtain ⟨Ech, hW, h1, h2, h3⟩ := h'
    exact (pss_one (ps_expr (act W pn xe Ech _ _ tk hW))).run pins s' σ H' D I ⟨h1, h2, h3⟩
  case suite =>
    obtain ⟨rfl, rfl⟩ := z
    exact pss_cons (ps_set (i := 2) scKind.nd rfl (.inl rfl) (pe_lst (pa_cons (pe_callB (call_isE k.x hz hf) (by rfl) T.isinstance (by decide +kernel) (pa_cons (pv 1) (pa_cons (pe_glob (v := .ref CB) rfl k.gB rfl) pa_nil))) (pa_cons (pe_callB (call_isE k.x hz hf) (by rfl) T.isinstance (by decide +kernel) (pa_cons (pv 1) (pa_cons (pe_glob (v := .ref CO) rfl k.gO rfl) pa_nil))) (pa_cons (pe_callB (call_isE k.x hz hf) (by rfl) T.isinstance (by decide +kernel) (pa_cons (pv 1) (pa_cons (pe_glob (v := .ref CL) rfl k.gL rfl) pa_nil))) (pa_cons (pe_callB (call_isE k.x hz hf) (by rfl) T.isinstance (by decide +kernel) (pa_cons (pv 1) (pa_cons (pe_glob (v := .ref CN) rfl k.gN rfl) pa_nil))) pa_nil))))))
      (pss_cons (ps_set (i := 2) scKind.nd rfl (.inl rfl) (pe_op op_cat (pv 2) (pe_lst (pa_cons (pe_callB (call_isE k.x hz hf) (by rfl) T.isinstance (by decide +kernel) (pa_cons (pv 1) (pa_cons (pe_glob (v := .ref CR) rfl k.gR rfl) pa_nil))) (pa_cons (pe_callB (call_isE k.x hz hf) (by rfl) T.isinstance (by decide +kernel) (pa_cons (pv 1) (pa_cons (pe_glob (v := .ref CK) rfl k.gK rfl) pa_nil))) (pa_cons (pe_callB (call_isE k.x hz hf) (by rfl) T.isinstance (by decide +kernel) (pa_cons (pv 1) (pa_cons (pe_glob (v := .ref CT) rfl k.gT rfl) pa_nil))) pa_nil))))))
      (pss_cons (ps_if (PW.pt (pw_or (pt_cmpR op_ne (pe_bm PySem.F.plainAttrs_list PySem.F.slot_list_count PySem.F.type_list_count mt_countV (pv 2) (pa_cons pe_bl pa_nil)) pe_int (nomark _))
          (pw_or1 (pt_not (pt_val (pe_callB (call_isE k.x hz hf) (by rfl) T.isinstance (by decide +kernel) (pa_cons (pv 1) (pa_cons (pe_bltn (by rfl) k.gV (by decide +kernel) (v := .ty "ValueError") rfl) pa_nil)))))))) (pss_one (ps_ret pe_str)) pss_nil)
      (pss_one (ps_ret (pe_ix ix_list (pe_lst (pa_cons pe_str (pa_cons pe_str (pa_cons pe_str (pa_cons pe_str (pa_cons pe_str (pa_cons pe_str (pa_cons pe_str pa_nil)))))))) (pe_bm PySem.F.plainAttrs_list PySem.F.slot_list_index PySem.F.type_list_index mt_index (pv 2) (pa_cons pe_bl pa_nil)) (fun _ _ => rfl))))))
  case read =>
    refine ⟨fun cls d H' => cls = .ref CL ∧ d = none ∧ ∀ H'', Kp [] H' H'' → Q (.str "NoLayer") H'', fun cls d σ' H' hE => ?_, rfl, hc, h⟩
    obtain ⟨rfl, rfl, qe⟩ := hE
    refine ⟨true, k.e, fun _ a ha => ⟨⟨rfl, rfl⟩, fun hl => ?_⟩, fun z => by cases z⟩
    rw [List.length_set] at hl
    match σ', hl with
    | [x0, x1, x2], _ =>
      refine ⟨_, rfl, _, _, _, rfl, fun _ r => r, k.iB, _, rfl, _, _, _, rfl, fun _ r => r, k.iO, _, rfl, _, _, _, rfl, fun _ r => r, k.iL, _, rfl, _, _, _, rfl, fun _ r => r, k.iN, (by show 4 ≤ sizeLine; decide), fun l1 hl1 => ?_⟩
      have k1 : Kp [] H' (upd H' l1 (.lst [.bl false, .bl false, .bl true, .bl false])) := Kp.new hl1
      have e1 : upd H' l1 (.lst [.bl false, .bl false, .bl true, .bl false]) l1 = some (.lst [.bl false, .bl false, .bl true, .bl false]) := upd_same
      generalize upd H' l1 (.lst [.bl false, .bl false, .bl true, .bl false]) = H1 at k1 e1 ⊢
      refine ⟨_, rfl, _, rfl, _, _, _, rfl, fun _ r => r, k.iR, _, rfl, _, _, _, rfl, fun _ r => r, k.iK, _, rfl, _, _, _, rfl, fun _ r => r, k.iT, (by show 3 ≤ sizeLine; decide), fun l2 hl2 => ?_⟩
      have k2 : Kp [] H1 (upd H1 l2 (.lst [.bl false, .bl false, .bl false])) := Kp.new hl2
      have e2 : upd H1 l2 (.lst [.bl false, .bl false, .bl false]) l2 = some (.lst [.bl false, .bl false, .bl false]) := upd_same
      generalize upd H1 l2 (.lst [.bl false, .bl false, .bl false]) = H2 at k2 e2 ⊢
      refine ⟨l1, l2, _, _, rfl, rfl, k2.lst e1 List.not_mem_nil, e2, (by show 7 ≤ sizeLine; decide), fun l3 hl3 => ?_⟩
      have k3 : Kp [] H2 (upd H2 l3 (.lst ([.bl false, .bl false, .bl true, .bl false] ++ [.bl false, .bl false, .bl false]))) := Kp.new hl3
      have e3 : SqL X.K (upd H2 l3 (.lst ([.bl false, .bl false, .bl true, .bl false] ++ [.bl false, .bl false, .bl false]))) l3 [.bl false, .bl false, .bl true, .bl false, .bl false, .bl false, .bl false] := SqL.of upd_same
      generalize upd H2 l3 (.lst ([.bl false, .bl false, .bl true, .bl false] ++ [.bl false, .bl false, .bl false])) = H3 at k3 e3 ⊢
      refine ⟨_, rfl, .inl ⟨rfl, _, e3⟩, l3, _, .bl true, rfl, rfl, e3, rfl, rfl, rfl, _, rfl, iteF' (by decide +kernel) ?_⟩
      refine ⟨_, rfl, _, _, _, rfl, fun _ r => r, k.iV, true, rfl, iteF ?_⟩
      refine ⟨(by show 7 ≤ sizeLine; decide), fun l4 hl4 => ?_⟩
      have k4 := Kp.new (S := []) (o := .lst [.str "NoBody", .str "Outside", .str "NoLayer", .str "NoProp", .str "BadReach", .str "BadPlace", .str "BadText"]) hl4
      have e4 := k4.sqL e3 List.not_mem_nil
      refine ⟨_, rfl, .inl ⟨rfl, _, e4⟩, l3, _, .bl true, 2, .bl true, rfl, rfl, e4, rfl, rfl, rfl, rfl, (fun m z hm hz => ?_), ?_⟩
      · rcases (show m = 0 ∨ m = 1 by omega) with rfl | rfl
        · have e : V.bl false = z := Option.some.inj hz
          rw [← e]
          rfl
        · have e : V.bl false = z := Option.some.inj hz
          rw [← e]
          rfl
      · exact ⟨l4, _, 2, _, rfl, rfl, SqL.of upd_same, rfl, qe _ (((k1.trans k2).trans k3).trans k4)⟩
end LP
end

section
set_option Elab.async false
set_option linter.all false
set_option maxRecDepth 100000
set_option maxHeartbeats 4000000
/-! cells as data, bodies' sizes -/
namespace LP
open PySem PySem.Spec PyProof.Rows L2 Ly GY
section
variable [LamTab]
theorem depthCs (cs : List C3) : (PyData.list (cs.map cD)).depth ≤ 2 := by
  have := cDs_depth cs
  simp only [PyData.depth]
  omega
theorem okDs_cells : ∀ cs : List C3, okDs (cs.map cD) = true
  | [] => rfl
  | c :: cs => by
    show (okD (cD c) && okDs (cs.map cD)) = true
    rw [okDs_cells cs]
    rfl
theorem okD_cellsL {cs : List C3} (h : cs.length ≤ 1000) : okD (.list (cs.map cD)) = true := by
  show (okDs (cs.map cD) && decide ((cs.map cD).length ≤ 1000)) = true
  rw [okDs_cells, List.length_map, decide_eq_true h]
  rfl
theorem nb_dp : ∀ b : Bd, nb b + 1 ≤ 2 ^ dp b
  | .block .. => by show 1 + 1 ≤ 2 ^ 1; decide
  | .cells _ => by show 1 + 1 ≤ 2 ^ 1; decide
  | .wth p q => nb2 p q (nb_dp p) (nb_dp q)
  | .common p q => nb2 p q (nb_dp p) (nb_dp q)
  | .less p q => nb2 p q (nb_dp p) (nb_dp q)
  | .moved _ p => nb1 p (nb_dp p)
  | .turnX p => nb1 p (nb_dp p)
  | .turnY p => nb1 p (nb_dp p)
  | .turnZ p => nb1 p (nb_dp p)
where
  nb1 (p : Bd) (h : nb p + 1 ≤ 2 ^ dp p) : 1 + nb p + 1 ≤ 2 ^ (1 + dp p) := by
    have e : 2 ^ (1 + dp p) = 2 * 2 ^ dp p := by rw [Nat.add_comm, Nat.pow_succ, Nat.mul_comm]
    have := nb_pos p
    omega
  nb2 (p q : Bd) (h : nb p + 1 ≤ 2 ^ dp p) (k : nb q + 1 ≤ 2 ^ dp q) : 1 + nb p + nb q + 1 ≤ 2 ^ (1 + max (dp p) (dp q)) := by
    have e : 2 ^ (1 + max (dp p) (dp q)) = 2 * 2 ^ max (dp p) (dp q) := by rw [Nat.add_comm, Nat.pow_succ, Nat.mul_comm]
    have h1 : 2 ^ dp p ≤ 2 ^ max (dp p) (dp q) := Nat.pow_le_pow_right (by decide) (Nat.le_max_left _ _)
    have h2 : 2 ^ dp q ≤ 2 ^ max (dp p) (dp q) := Nat.pow_le_pow_right (by decide) (Nat.le_max_right _ _)
    omega
theorem nb_of_dp {b : Bd} {n : Nat} (h : dp b ≤ n) : nb b + 1 ≤ 2 ^ n := Nat.le_trans (nb_dp b) (Nat.pow_le_pow_right (by decide) h)
theorem eqv_same (ps : List C3) : PyData.eqv (.list (ps.map cD)) (.list (ps.map cD)) = true := SeqAt.eqv_refl _ (SeqAt.canLay_of_shaped (cDs_shapedL ps))
theorem okD_cellsB {cs : List C3} (h : cs.length ≤ 1000) : okD (bD (.cells cs)) = true := by
  have e : okDs (cs.map cD) = true := okDs_cells cs
  show (true && ((okDs (cs.map cD) && decide ((cs.map cD).length ≤ 1000)) && true) && true) = true
  rw [e, List.length_map, decide_eq_true h]
  rfl
theorem depthB (cs : List C3) : (bD (.cells cs)).depth ≤ 4 := by
  have := cDs_depth cs
  show PyData.depth (.tuple [.str "cells", .tuple (cs.map cD)]) ≤ 4
  simp only [PyData.depth, PyData.depthAll]
  omega
end
end LP
end

section
set_option Elab.async false
set_option linter.all false
set_option maxRecDepth 100000
set_option maxHeartbeats 4000000
/-! what laws share -/
namespace LP
open PySem PySem.Spec PyProof.Rows L2 Ly GY
section
variable [LamTab]
/-- the def _law_kind as pe_lam3 wants it, and the classes -/
structure KF (K : PySem.W.Frag) (mg : Str → Option Value) where
  (CP CB CO CL CN CR CK CT : Addr)
  k : Kinds K mg CP CB CO CL CN CR CK CT
  fK : Addr
  (dVK kVK docK pmK cdvK ctK ocK : Value)
  (anK odK : Option Addr)
  oslK : Array (Option Value)
  mK : mg "_law_kind" = some (.ref fK)
  kK : PySem.W.keepIn K (.ref fK) = true
  lK : K.lookup fK = some ⟨ocK, odK, .func (PySem.W.fnOf "_law_kind" "_law_kind" (defArgs lKind) (defBody lKind) (defScope lKind) dVK kVK docK pmK anK cdvK ctK), oslK⟩
  cK : PySem.W.codeIn K cdvK "_law_kind" = true
  bK : Binds K (PySem.W.fnOf "_law_kind" "_law_kind" (defArgs lKind) (defBody lKind) (defScope lKind) dVK kVK docK pmK anK cdvK ctK) ["_law_work"] []
/-- what the tables are -/
structure Lv (H : Hp) (Pt Pr Ph Pw Ps : Addr) : Prop where
  tb : Tb H Pt Pr Ph
  w : TGen H Pw
  s : TGen H Ps
  l : LamX.TabS H LamTab.P LamTab.q
theorem Lv.mono {S : List Addr} {H H' : Hp} {Pt Pr Ph Pw Ps : Addr} (v : Lv H Pt Pr Ph Pw Ps) (k : Kp S H H') : Lv H' Pt Pr Ph Pw Ps := ⟨v.tb.mono k, k.tab _ v.w, k.tab _ v.s, k.lam v.l⟩
end
end LP
end

section
set_option Elab.async false
set_option linter.all false
set_option maxRecDepth 100000
set_option maxHeartbeats 4000000
/-! _law_kind, of any of the classes -/
namespace LP
open PySem PySem.Spec PyProof.Rows L2 Ly GY
variable [LamTab] {P : Program} {W0 : World} {K : PySem.W.Frag} {mg : Str → Option Value} {base : Heap}
/-- the classes' names -/
structure KindN (mg : Str → Option Value) (CP CB CO CL CN CR CK CT : Addr) : Prop where
  gP : mg "PrintError" = some (.ref CP)
  gB : mg "NoBody" = some (.ref CB)
  gO : mg "Outside" = some (.ref CO)
  gL : mg "NoLayer" = some (.ref CL)
  gN : mg "NoProp" = some (.ref CN)
  gR : mg "BadReach" = some (.ref CR)
  gK : mg "BadPlace" = some (.ref CK)
  gT : mg "BadText" = some (.ref CT)
  gV : mg "ValueError" = none
/-- what an instance of the class C is: the one numbered j -/
structure KindAt (K : PySem.W.Frag) (CP CB CO CL CN CR CK CT : Addr) (C : Addr) (j : Fin 7) : Prop where
  e : PySem.W.exmOne K (.ref C) (.ref CP) = some true
  x : ExcC K C
  iB : PySem.W.kitOne K (.ref C) (.ref CB) = some (decide (j = 0))
  iO : PySem.W.kitOne K (.ref C) (.ref CO) = some (decide (j = 1))
  iL : PySem.W.kitOne K (.ref C) (.ref CL) = some (decide (j = 2))
  iN : PySem.W.kitOne K (.ref C) (.ref CN) = some (decide (j = 3))
  iR : PySem.W.kitOne K (.ref C) (.ref CR) = some (decide (j = 4))
  iK : PySem.W.kitOne K (.ref C) (.ref CK) = some (decide (j = 5))
  iT : PySem.W.kitOne K (.ref C) (.ref CT) = some (decide (j = 6))
  iV : PySem.W.kitOne K (.ref C) (.type "ValueError") = some true
def kindW : Fin 7 → Str := fun j => match j with
  | 0 => "NoBody" | 1 => "Outside" | 2 => "NoLayer" | 3 => "NoProp" | 4 => "BadReach" | 5 => "BadPlace" | 6 => "BadText"
def kindB (j : Fin 7) : List V := [.bl (decide (j = 0)), .bl (decide (j = 1)), .bl (decide (j = 2)), .bl (decide (j = 3)), .bl (decide (j = 4)), .bl (decide (j = 5)), .bl (decide (j = 6))]
def kindS : List V := [.str "NoBody", .str "Outside", .str "NoLayer", .str "NoProp", .str "BadReach", .str "BadPlace", .str "BadText"]
theorem kindB_count : ∀ j : Fin 7, (kindB j).countP (fun z => eqV z (.bl true)) = 1 := by decide +kernel
theorem kindB_at : ∀ j : Fin 7, (kindB j)[j.val]? = some (.bl true)
  | 0 => rfl | 1 => rfl | 2 => rfl | 3 => rfl | 4 => rfl | 5 => rfl | 6 => rfl
theorem kindB_flat (j : Fin 7) : (kindB j).all flatV = true := rfl
theorem kindB_eq : ∀ (j : Fin 7) (m : Nat), m < j.val → ((kindB j)[m]?.map fun z => eqV z (.bl true)) = some false := by decide +kernel
theorem kindB_pre (j : Fin 7) (m : Nat) (z : V) (hm : m < j.val) (hz : (kindB j)[m]? = some z) : eqV z (.bl true) = false := by
  have e := kindB_eq j m hm
  rw [hz] at e
  exact Option.some.inj e
theorem kindS_at : ∀ j : Fin 7, atI kindS (j.val : Int) = some (.str (kindW j))
  | 0 => rfl | 1 => rfl | 2 => rfl | 3 => rfl | 4 => rfl | 5 => rfl | 6 => rfl
/-- what _law_kind makes of a work that raises the class C -/
def TTk2 (C : Addr) (j : Fin 7) : (XK → Hp → VK → Prop) → Hp → VK → Prop := fun tl H Q => tl (fun cls d H' => cls = .ref C ∧ d = none ∧ ∀ H'', Kp [] H' H'' → Q (.str (kindW j)) H'') H (fun _ H' => Q (.str "") H')
def isT2 (K : PySem.W.Frag) (C a : Addr) (c : V) : TE := tCB (rIsE K C a) (tCons (tVar 1) (tCons (tC c) tNil))
def tSuite2 (K : PySem.W.Frag) (C CB CO CL CN CR CK CT a : Addr) : TS :=
  tSeq (tAsg (tLst (tCons (isT2 K C a (.ref CB)) (tCons (isT2 K C a (.ref CO)) (tCons (isT2 K C a (.ref CL)) (tCons (isT2 K C a (.ref CN)) tNil))))) (gName 2))
  (tSeq (tAsg (tOp rCat (tVar 2) (tLst (tCons (isT2 K C a (.ref CR)) (tCons (isT2 K C a (.ref CK)) (tCons (isT2 K C a (.ref CT)) tNil))))) (gName 2))
  (tSeq (tIfS (tOr (tTest (tOp rNe (tBM K "list" (rCountV K) (tVar 2) (tCons (tC (.bl true)) tNil)) (tC (.int 1)))) (tNot (tB (isT2 K C a (.ty "ValueError"))))) (tRet (tC (.str "other"))) tNext)
  (tRet (tOp (rIxL K) (tLst (tCons (tC (.str "NoBody")) (tCons (tC (.str "Outside")) (tCons (tC (.str "NoLayer")) (tCons (tC (.str "NoProp")) (tCons (tC (.str "BadReach")) (tCons (tC (.str "BadPlace")) (tCons (tC (.str "BadText")) tNil)))))))) (tBM K "list" (rIndex K) (tVar 2) (tCons (tC (.bl true)) tNil))))))
theorem kind_gives2 {X : Cx} {j : Fin 7} {C g CP CB CO CL CN CR CK CT : Addr} {cdg : Value} {q : Str} (T : Nm X.K X.mg) (n : KindN X.mg CP CB CO CL CN CR CK CT) (k : KindAt X.K CP CB CO CL CN CR CK CT C j) :
    LamX.GivesTo X ["_law_work", "e", "_law_kinds"] "_law_kind" (defScope lKind) g cdg (defBody lKind) "_law_work" q (TTk2 C j) := by
  intro f c' s H Q tl act hc h
  refine ⟨_, pss_cons (ps_try_as (X := (cxOf C8.CX0 X.prog X.w X.K X.mg X.base ["_law_work", "e", "_law_kinds"] "_law_kind" (defScope lKind) g cdg X.A X.stack s H C8.E0).nox) (i := 1) (c := .ref CP) (Wout := fun _ _ _ _ => False)
      (tb := fun W D σ H => ∃ Ech : XK, (∀ cls d σ' H', Ech cls d H' → W cls d σ' H') ∧ σ[0]? = some (some (.ref f)) ∧ H c' = some (LamX.CodeO c' q) ∧ tl Ech H (fun _ H' => D.nx σ H'))
      (ts := fun a cls d D σ H => ∃ z : cls = .ref C ∧ d = none, σ.length = 3 → tSuite2 X.K C CB CO CL CN CR CK CT a D σ H)
      rfl rfl scKind.nd rfl rfl ⟨rfl, by decide, .inl n.gP⟩ L2.takes0 (fun W pn xe tk _ => ?body) (fun a oe cls d pn hz hf => pss_of fun z => pss_len ?suite)) (pss_one (ps_ret pe_str)), ?read⟩
  case body =>
    refine ⟨fun pins s' σ H' D I h' => ?_⟩
    obtain ⟨Ech, hW, h1, h2, h3⟩ := h'
    exact (pss_one (ps_expr (act W pn xe Ech _ _ tk hW))).run pins s' σ H' D I ⟨h1, h2, h3⟩
  case suite =>
    obtain ⟨rfl, rfl⟩ := z
    exact pss_cons (ps_set (i := 2) scKind.nd rfl (.inl rfl) (pe_lst (pa_cons (pe_callB (call_isE k.x hz hf) (by rfl) T.isinstance (by decide +kernel) (pa_cons (pv 1) (pa_cons (pe_glob (v := .ref CB) rfl n.gB rfl) pa_nil))) (pa_cons (pe_callB (call_isE k.x hz hf) (by rfl) T.isinstance (by decide +kernel) (pa_cons (pv 1) (pa_cons (pe_glob (v := .ref CO) rfl n.gO rfl) pa_nil))) (pa_cons (pe_callB (call_isE k.x hz hf) (by rfl) T.isinstance (by decide +kernel) (pa_cons (pv 1) (pa_cons (pe_glob (v := .ref CL) rfl n.gL rfl) pa_nil))) (pa_cons (pe_callB (call_isE k.x hz hf) (by rfl) T.isinstance (by decide +kernel) (pa_cons (pv 1) (pa_cons (pe_glob (v := .ref CN) rfl n.gN rfl) pa_nil))) pa_nil))))))
      (pss_cons (ps_set (i := 2) scKind.nd rfl (.inl rfl) (pe_op op_cat (pv 2) (pe_lst (pa_cons (pe_callB (call_isE k.x hz hf) (by rfl) T.isinstance (by decide +kernel) (pa_cons (pv 1) (pa_cons (pe_glob (v := .ref CR) rfl n.gR rfl) pa_nil))) (pa_cons (pe_callB (call_isE k.x hz hf) (by rfl) T.isinstance (by decide +kernel) (pa_cons (pv 1) (pa_cons (pe_glob (v := .ref CK) rfl n.gK rfl) pa_nil))) (pa_cons (pe_callB (call_isE k.x hz hf) (by rfl) T.isinstance (by decide +kernel) (pa_cons (pv 1) (pa_cons (pe_glob (v := .ref CT) rfl n.gT rfl) pa_nil))) pa_nil))))))
      (pss_cons (ps_if (PW.pt (pw_or (pt_cmpR op_ne (pe_bm PySem.F.plainAttrs_list PySem.F.slot_list_count PySem.F.type_list_count mt_countV (pv 2) (pa_cons pe_bl pa_nil)) pe_int (nomark _))
          (pw_or1 (pt_not (pt_val (pe_callB (call_isE k.x hz hf) (by rfl) T.isinstance (by decide +kernel) (pa_cons (pv 1) (pa_cons (pe_bltn (by rfl) n.gV (by decide +kernel) (v := .ty "ValueError") rfl) pa_nil)))))))) (pss_one (ps_ret pe_str)) pss_nil)
      (pss_one (ps_ret (pe_ix ix_list (pe_lst (pa_cons pe_str (pa_cons pe_str (pa_cons pe_str (pa_cons pe_str (pa_cons pe_str (pa_cons pe_str (pa_cons pe_str pa_nil)))))))) (pe_bm PySem.F.plainAttrs_list PySem.F.slot_list_index PySem.F.type_list_index mt_index (pv 2) (pa_cons pe_bl pa_nil)) (fun _ _ => rfl))))))
  case read =>
    refine ⟨fun cls d H' => cls = .ref C ∧ d = none ∧ ∀ H'', Kp [] H' H'' → Q (.str (kindW j)) H'', fun cls d σ' H' hE => ?_, rfl, hc, h⟩
    obtain ⟨rfl, rfl, qe⟩ := hE
    refine ⟨true, k.e, fun _ a ha => ⟨⟨rfl, rfl⟩, fun hl => ?_⟩, fun z => by cases z⟩
    rw [List.length_set] at hl
    match σ', hl with
    | [x0, x1, x2], _ =>
      refine ⟨_, rfl, _, _, _, rfl, fun _ r => r, k.iB, _, rfl, _, _, _, rfl, fun _ r => r, k.iO, _, rfl, _, _, _, rfl, fun _ r => r, k.iL, _, rfl, _, _, _, rfl, fun _ r => r, k.iN, (by show 4 ≤ sizeLine; decide), fun l1 hl1 => ?_⟩
      have k1 : Kp [] H' (upd H' l1 (.lst [.bl (decide (j = 0)), .bl (decide (j = 1)), .bl (decide (j = 2)), .bl (decide (j = 3))])) := Kp.new hl1
      have e1 : upd H' l1 (.lst [.bl (decide (j = 0)), .bl (decide (j = 1)), .bl (decide (j = 2)), .bl (decide (j = 3))]) l1 = some (.lst [.bl (decide (j = 0)), .bl (decide (j = 1)), .bl (decide (j = 2)), .bl (decide (j = 3))]) := upd_same
      generalize upd H' l1 (.lst [.bl (decide (j = 0)), .bl (decide (j = 1)), .bl (decide (j = 2)), .bl (decide (j = 3))]) = H1 at k1 e1 ⊢
      refine ⟨_, rfl, _, rfl, _, _, _, rfl, fun _ r => r, k.iR, _, rfl, _, _, _, rfl, fun _ r => r, k.iK, _, rfl, _, _, _, rfl, fun _ r => r, k.iT, (by show 3 ≤ sizeLine; decide), fun l2 hl2 => ?_⟩
      have k2 : Kp [] H1 (upd H1 l2 (.lst [.bl (decide (j = 4)), .bl (decide (j = 5)), .bl (decide (j = 6))])) := Kp.new hl2
      have e2 : upd H1 l2 (.lst [.bl (decide (j = 4)), .bl (decide (j = 5)), .bl (decide (j = 6))]) l2 = some (.lst [.bl (decide (j = 4)), .bl (decide (j = 5)), .bl (decide (j = 6))]) := upd_same
      generalize upd H1 l2 (.lst [.bl (decide (j = 4)), .bl (decide (j = 5)), .bl (decide (j = 6))]) = H2 at k2 e2 ⊢
      refine ⟨l1, l2, _, _, rfl, rfl, k2.lst e1 List.not_mem_nil, e2, (by show 7 ≤ sizeLine; decide), fun l3 hl3 => ?_⟩
      have k3 : Kp [] H2 (upd H2 l3 (.lst ([.bl (decide (j = 0)), .bl (decide (j = 1)), .bl (decide (j = 2)), .bl (decide (j = 3))] ++ [.bl (decide (j = 4)), .bl (decide (j = 5)), .bl (decide (j = 6))]))) := Kp.new hl3
      have e3 : SqL X.K (upd H2 l3 (.lst ([.bl (decide (j = 0)), .bl (decide (j = 1)), .bl (decide (j = 2)), .bl (decide (j = 3))] ++ [.bl (decide (j = 4)), .bl (decide (j = 5)), .bl (decide (j = 6))]))) l3 (kindB j) := SqL.of upd_same
      generalize upd H2 l3 (.lst ([.bl (decide (j = 0)), .bl (decide (j = 1)), .bl (decide (j = 2)), .bl (decide (j = 3))] ++ [.bl (decide (j = 4)), .bl (decide (j = 5)), .bl (decide (j = 6))])) = H3 at k3 e3 ⊢
      refine ⟨_, rfl, .inl ⟨rfl, _, e3⟩, l3, _, .bl true, rfl, rfl, e3, rfl, kindB_flat j, rfl, _, rfl, iteF' (by rw [kindB_count j]; rfl) ?_⟩
      refine ⟨_, rfl, _, _, _, rfl, fun _ r => r, k.iV, true, rfl, iteF ?_⟩
      refine ⟨(by show 7 ≤ sizeLine; decide), fun l4 hl4 => ?_⟩
      have k4 := Kp.new (S := []) (o := .lst kindS) hl4
      have e4 := k4.sqL e3 List.not_mem_nil
      refine ⟨_, rfl, .inl ⟨rfl, _, e4⟩, l3, _, .bl true, j.val, .bl true, rfl, rfl, e4, rfl, kindB_flat j, kindB_at j, rfl, (fun m z hm hz => kindB_pre j m z hm hz), ?_⟩
      exact ⟨l4, _, (j.val : Int), _, rfl, rfl, SqL.of upd_same, kindS_at j, qe _ (((k1.trans k2).trans k3).trans k4)⟩
end LP
end

section
set_option linter.all false
set_option maxRecDepth 100000
/-! The mathematics of ways: steps within a layer, what is reached first, what is never less. Plain Lean. -/
namespace Ly
def nb4 (c : C3) : List C3 := [(c.1 - 1, c.2.1, c.2.2), (c.1, c.2.1 - 1, c.2.2), (c.1, c.2.1 + 1, c.2.2), (c.1 + 1, c.2.1, c.2.2)]
theorem nb4_sym {c d : C3} (h : d ∈ nb4 c) : c ∈ nb4 d := by
  obtain ⟨x, y, z⟩ := c
  obtain ⟨x', y', z'⟩ := d
  simp only [nb4, List.mem_cons, List.not_mem_nil, or_false, Prod.mk.injEq] at h ⊢
  omega
theorem nb4_z {c d : C3} (h : d ∈ nb4 c) : d.2.2 = c.2.2 := by
  obtain ⟨x, y, z⟩ := c
  obtain ⟨x', y', z'⟩ := d
  simp only [nb4, List.mem_cons, List.not_mem_nil, or_false, Prod.mk.injEq] at h ⊢
  omega
inductive Path (cs src : List C3) : Nat → C3 → Prop
  | zero {c} : c ∈ src → Path cs src 0 c
  | step {n c d} : Path cs src n c → d ∈ nb4 c → d ∈ cs → Path cs src (n + 1) d
theorem Path.mem {cs src : List C3} (h : ∀ c ∈ src, c ∈ cs) : ∀ {n c}, Path cs src n c → c ∈ cs
  | _, _, .zero q => h _ q
  | _, _, .step _ _ q => q
def IsWay (cs src : List C3) (c : C3) : Option Nat → Prop
  | some n => Path cs src n c ∧ ∀ m, Path cs src m c → n ≤ m
  | none => ∀ m, ¬ Path cs src m c
theorem IsWay.uniq {cs src : List C3} {c : C3} : ∀ {o p : Option Nat}, IsWay cs src c o → IsWay cs src c p → o = p
  | some n, some m, h, k => by rw [Nat.le_antisymm (h.2 m k.1) (k.2 n h.1)]
  | some n, none, h, k => absurd h.1 (k n)
  | none, some m, h, k => absurd k.1 (h m)
  | none, none, _, _ => rfl
def wset {α : Type} (w : C3 → α) (d : C3) (v : α) : C3 → α := fun c => if c = d then v else w c
theorem wset_same {α : Type} {w : C3 → α} {d : C3} {v : α} : wset w d v d = v := if_pos rfl
theorem wset_ne {α : Type} {w : C3 → α} {c d : C3} {v : α} (h : c ≠ d) : wset w d v c = w c := if_neg h
/-! ### what is reached first -/
abbrev St2 := (C3 → Option Nat) × List C3
def visit (cs : List C3) (n : Nat) (s : St2) (d : C3) : St2 := if d ∈ cs ∧ s.1 d = none then (wset s.1 d (some (n + 1)), s.2 ++ [d]) else s
def vof (w : C3 → Option Nat) (c : C3) : Nat := (w c).getD 0
structure Bfs (cs src : List C3) (w : C3 → Option Nat) (r : List C3) (at_ : Nat) : Prop where
  sub : ∀ c ∈ r, c ∈ cs
  nd : r.Nodup
  some_ : ∀ c ∈ cs, (∃ n, w c = some n) ↔ c ∈ r
  path : ∀ c ∈ r, Path cs src (vof w c) c
  src0 : ∀ c ∈ src, c ∈ r ∧ vof w c = 0
  done : ∀ (i : Nat) (u : C3), i < at_ → r[i]? = some u → ∀ d ∈ nb4 u, d ∈ cs → d ∈ r ∧ vof w d ≤ vof w u + 1
  sorted : ∀ (i j : Nat) (u v : C3), i ≤ j → r[i]? = some u → r[j]? = some v → vof w u ≤ vof w v
  near : ∀ (u v : C3), r[at_]? = some u → v ∈ r → vof w v ≤ vof w u + 1
  low : ∀ (i : Nat) (u : C3), r[i]? = some u → vof w u ≤ i
/-- some of the neighbours of u are visited: d1 -/
structure Mid (cs src : List C3) (w : C3 → Option Nat) (r : List C3) (at_ : Nat) (u : C3) (n : Nat) (d1 : List C3) : Prop where
  sub : ∀ c ∈ r, c ∈ cs
  nd : r.Nodup
  some_ : ∀ c ∈ cs, (∃ n, w c = some n) ↔ c ∈ r
  path : ∀ c ∈ r, Path cs src (vof w c) c
  src0 : ∀ c ∈ src, c ∈ r ∧ vof w c = 0
  here : r[at_]? = some u
  val : vof w u = n
  done : ∀ (i : Nat) (u : C3), i < at_ → r[i]? = some u → ∀ d ∈ nb4 u, d ∈ cs → d ∈ r ∧ vof w d ≤ vof w u + 1
  seen : ∀ d ∈ d1, d ∈ cs → d ∈ r ∧ vof w d ≤ n + 1
  sorted : ∀ (i j : Nat) (u v : C3), i ≤ j → r[i]? = some u → r[j]? = some v → vof w u ≤ vof w v
  near : ∀ v ∈ r, vof w v ≤ n + 1
  low : ∀ (i : Nat) (u : C3), r[i]? = some u → vof w u ≤ i
theorem at_lt {α : Type} {l : List α} {i : Nat} {x : α} (h : l[i]? = some x) : i < l.length := (List.getElem?_eq_some_iff.mp h).1
theorem Bfs.mid {cs src : List C3} {w : C3 → Option Nat} {r : List C3} {i : Nat} {u : C3} (b : Bfs cs src w r i) (h : r[i]? = some u) : Mid cs src w r i u (vof w u) [] :=
  ⟨b.sub, b.nd, b.some_, b.path, b.src0, h, rfl, b.done, fun d hd => (by cases hd), b.sorted, fun v hv => b.near u v h hv, b.low⟩
theorem app_old {α : Type} {l : List α} {y : α} {i : Nat} {x : α} (h : (l ++ [y])[i]? = some x) : l[i]? = some x ∨ (i = l.length ∧ x = y) := by
  by_cases hi : i < l.length
  · rw [List.getElem?_append_left hi] at h
    exact .inl h
  · rw [List.getElem?_append_right (by omega)] at h
    have hz := at_lt h
    rw [List.length_singleton] at hz
    have e : i - l.length = 0 := by omega
    rw [e] at h
    exact .inr ⟨by omega, (Option.some.inj h).symm⟩
theorem Mid.visit {cs src : List C3} {w : C3 → Option Nat} {r : List C3} {i n : Nat} {u d : C3} {d1 : List C3} (m : Mid cs src w r i u n d1) (hd : d ∈ nb4 u) :
    Mid cs src (visit cs n (w, r) d).1 (visit cs n (w, r) d).2 i u n (d1 ++ [d]) := by
  unfold Ly.visit
  by_cases h : d ∈ cs ∧ w d = none
  · obtain ⟨h1, h2⟩ := h
    rw [if_pos ⟨h1, h2⟩]
    have nr : d ∉ r := fun z => by
      obtain ⟨k, e⟩ := (m.some_ d h1).mpr z
      rw [h2] at e
      cases e
    have ne : ∀ c ∈ r, c ≠ d := fun c hc e => nr (e ▸ hc)
    have vold : ∀ c ∈ r, vof (wset w d (some (n + 1))) c = vof w c := fun c hc => by unfold vof; rw [wset_ne (ne c hc)]
    have vnew : vof (wset w d (some (n + 1))) d = n + 1 := by unfold vof; rw [wset_same]; rfl
    have hu : u ∈ r := List.mem_of_getElem? m.here
    have hi := at_lt m.here
    refine ⟨fun c hc => ?_, ?_, fun c hc => ?_, fun c hc => ?_, fun c hc => ?_, ?_, ?_, fun j v hj hv e he hec => ?_, fun e he hec => ?_, fun j k v v' hjk hv hv' => ?_, fun v hv => ?_, fun j v hv => ?_⟩
    · rcases List.mem_append.mp hc with z | z
      · exact m.sub c z
      · rw [List.mem_singleton.mp z]; exact h1
    · exact List.nodup_append.mpr ⟨m.nd, by simp, fun a ha b hb e => by rw [List.mem_singleton.mp hb] at e; exact nr (e ▸ ha)⟩
    · by_cases e : c = d
      · subst e
        exact ⟨fun _ => List.mem_append_right _ (by simp), fun _ => ⟨n + 1, wset_same⟩⟩
      · show (∃ k, wset w d (some (n + 1)) c = some k) ↔ _
        rw [wset_ne e, m.some_ c hc, List.mem_append]
        exact ⟨.inl, fun z => z.elim id fun z => absurd (List.mem_singleton.mp z) e⟩
    · rcases List.mem_append.mp hc with z | z
      · show Path cs src (vof (wset w d (some (n + 1))) c) c
        rw [vold c z]
        exact m.path c z
      · rw [List.mem_singleton.mp z]
        show Path cs src (vof (wset w d (some (n + 1))) d) d
        rw [vnew]
        have := m.path u hu
        rw [m.val] at this
        exact .step this hd h1
    · obtain ⟨z1, z2⟩ := m.src0 c hc
      exact ⟨List.mem_append_left _ z1, by rw [vold c z1]; exact z2⟩
    · rw [List.getElem?_append_left hi]
      exact m.here
    · rw [vold u hu]
      exact m.val
    · have hv : r[j]? = some v := by
        rcases app_old hv with z | ⟨z, _⟩
        · exact z
        · have z : j = r.length := z
          omega
      obtain ⟨z1, z2⟩ := m.done j v hj hv e he hec
      have hvr : v ∈ r := List.mem_of_getElem? hv
      exact ⟨List.mem_append_left _ z1, by rw [vold e z1, vold v hvr]; exact z2⟩
    · rcases List.mem_append.mp he with z | z
      · obtain ⟨z1, z2⟩ := m.seen e z hec
        exact ⟨List.mem_append_left _ z1, by rw [vold e z1]; exact z2⟩
      · rw [List.mem_singleton.mp z]
        exact ⟨List.mem_append_right _ (by simp), by rw [vnew]; exact Nat.le_refl _⟩
    · rcases app_old hv with z | ⟨z, z'⟩ <;> rcases app_old hv' with y | ⟨y, y'⟩
      · rw [vold v (List.mem_of_getElem? z), vold v' (List.mem_of_getElem? y)]
        exact m.sorted j k v v' hjk z y
      · rw [y', vnew, vold v (List.mem_of_getElem? z)]
        exact m.near v (List.mem_of_getElem? z)
      · have := at_lt y
        omega
      · rw [z', y']
        exact Nat.le_refl _
    · rcases List.mem_append.mp hv with z | z
      · rw [vold v z]
        exact m.near v z
      · rw [List.mem_singleton.mp z, vnew]
        exact Nat.le_refl _
    · rcases app_old hv with z | ⟨z, z'⟩
      · rw [vold v (List.mem_of_getElem? z)]
        exact m.low j v z
      · rw [z', vnew]
        have z : j = r.length := z
        have := m.low i u m.here
        rw [m.val] at this
        omega
  · rw [if_neg h]
    refine ⟨m.sub, m.nd, m.some_, m.path, m.src0, m.here, m.val, m.done, fun e he hec => ?_, m.sorted, m.near, m.low⟩
    rcases List.mem_append.mp he with z | z
    · exact m.seen e z hec
    · rw [List.mem_singleton.mp z] at hec ⊢
      have hr : d ∈ r := by
        refine (m.some_ d hec).mp ?_
        cases e : w d with
        | none => exact absurd ⟨hec, e⟩ h
        | some k => exact ⟨k, rfl⟩
      exact ⟨hr, m.near d hr⟩
theorem Mid.bfs {cs src : List C3} {w : C3 → Option Nat} {r : List C3} {i n : Nat} {u : C3} (m : Mid cs src w r i u n (nb4 u)) : Bfs cs src w r (i + 1) := by
  refine ⟨m.sub, m.nd, m.some_, m.path, m.src0, fun j v hj hv d hd hdc => ?_, m.sorted, fun v v' hv hv' => ?_, m.low⟩
  · by_cases e : j < i
    · exact m.done j v e hv d hd hdc
    · have e : j = i := by omega
      rw [e, m.here] at hv
      cases hv
      rw [m.val]
      exact m.seen d hd hdc
  · have z := m.sorted i (i + 1) u v (by omega) m.here hv
    rw [m.val] at z
    have := m.near v' hv'
    omega
theorem Bfs.len {cs src : List C3} {w : C3 → Option Nat} {r : List C3} {i : Nat} (b : Bfs cs src w r i) (h64 : cs.length ≤ 64) : r.length ≤ cs.length := by
  have : ∀ (l : List C3), l.Nodup → (∀ x ∈ l, x ∈ cs) → l.length ≤ cs.length := by
    intro l
    induction l generalizing cs with
    | nil => exact fun _ _ => Nat.zero_le _
    | cons a l ih =>
      intro hn hs
      exact List.Nodup.length_le_of_subset hn fun x hx => hs x hx
  exact this r b.nd b.sub
theorem Bfs.least {cs src : List C3} {w : C3 → Option Nat} {r : List C3} (b : Bfs cs src w r r.length) : ∀ {n c}, Path cs src n c → c ∈ r ∧ vof w c ≤ n
  | _, _, .zero q => ⟨(b.src0 _ q).1, by rw [(b.src0 _ q).2]; exact Nat.le_refl _⟩
  | _, _, .step p hd hc => by
    obtain ⟨z1, z2⟩ := b.least p
    obtain ⟨i, hi⟩ := List.mem_iff_getElem?.mp z1
    obtain ⟨y1, y2⟩ := b.done i _ (at_lt hi) hi _ hd hc
    exact ⟨y1, by omega⟩
theorem Bfs.way {cs src : List C3} {w : C3 → Option Nat} {r : List C3} (b : Bfs cs src w r r.length) (h64 : cs.length ≤ 64) {c : C3} (hc : c ∈ cs) : IsWay cs src c (w c) ∧ ∀ n, w c = some n → n ≤ 63 := by
  cases e : w c with
  | none =>
    refine ⟨fun m p => ?_, fun n z => by cases z⟩
    obtain ⟨k, z⟩ := (b.some_ c hc).mpr (b.least p).1
    rw [e] at z
    cases z
  | some n =>
    have hr : c ∈ r := (b.some_ c hc).mp ⟨n, e⟩
    have ev : vof w c = n := by unfold vof; rw [e]; rfl
    refine ⟨⟨?_, fun m p => ?_⟩, fun k z => ?_⟩
    · have := b.path c hr
      rw [ev] at this
      exact this
    · have := (b.least p).2
      rw [ev] at this
      exact this
    · cases z
      obtain ⟨i, hi⟩ := List.mem_iff_getElem?.mp hr
      have h1 := b.low i c hi
      have h2 := at_lt hi
      have h3 := b.len h64
      omega
/-- the beginning -/
theorem Bfs.start {cs src : List C3} {w : C3 → Option Nat} (hs : ∀ c ∈ src, c ∈ cs) (hn : src.Nodup) (h0 : ∀ c ∈ src, w c = some 0) (h1 : ∀ c, c ∉ src → w c = none) : Bfs cs src w src 0 := by
  have v0 : ∀ c ∈ src, vof w c = 0 := fun c hc => by unfold vof; rw [h0 c hc]; rfl
  refine ⟨hs, hn, fun c _ => ⟨fun ⟨n, e⟩ => ?_, fun hc => ⟨0, h0 c hc⟩⟩, fun c hc => by rw [v0 c hc]; exact .zero hc, fun c hc => ⟨hc, v0 c hc⟩, fun i u hi => by omega, fun i j u v _ hu hv => ?_, fun u v hu hv => ?_, fun i u hu => ?_⟩
  · by_cases z : c ∈ src
    · exact z
    · rw [h1 c z] at e
      cases e
  · rw [v0 u (List.mem_of_getElem? hu)]; omega
  · rw [v0 v hv]; omega
  · rw [v0 u (List.mem_of_getElem? hu)]; omega
/-! ### what is never less -/
structure Rlx (cs src : List C3) (f : C3 → Nat) : Prop where
  most : ∀ c ∈ cs, f c ≤ 99
  path : ∀ c ∈ cs, f c < 99 → Path cs src (f c) c
  src0 : ∀ c ∈ src, f c = 0
theorem Rlx.put {cs src : List C3} {f : C3 → Nat} (r : Rlx cs src f) {c d : C3} {m : Nat} (hc : c ∈ cs) (hd : d ∈ cs) (hn : d ∈ nb4 c) (e : m = f d + 1) (l : m < f c) : Rlx cs src (wset f c m) := by
  have hm := r.most c hc
  refine ⟨fun x hx => ?_, fun x hx q => ?_, fun x hx => ?_⟩
  · by_cases z : x = c
    · rw [z, wset_same]; omega
    · rw [wset_ne z]; exact r.most x hx
  · by_cases z : x = c
    · rw [z, wset_same]
      rw [e]
      exact .step (r.path d hd (by omega)) (nb4_sym hn) hc
    · rw [wset_ne z] at q ⊢
      exact r.path x hx q
  · by_cases z : x = c
    · have := r.src0 x hx
      rw [z] at this
      omega
    · rw [wset_ne z]; exact r.src0 x hx
def Stable (cs : List C3) (f : C3 → Nat) : Prop := ∀ c ∈ cs, ∀ d ∈ nb4 c, d ∈ cs → f c ≤ f d + 1
theorem Rlx.least {cs src : List C3} {f : C3 → Nat} (r : Rlx cs src f) (s : Stable cs f) (hs : ∀ c ∈ src, c ∈ cs) : ∀ {n c}, Path cs src n c → f c ≤ n
  | _, _, .zero q => by rw [r.src0 _ q]; exact Nat.le_refl _
  | _, _, .step p hd hc => by
    have h1 := r.least s hs p
    have h2 := s _ hc _ (nb4_sym hd) (p.mem hs)
    omega
def w99 : Option Nat → Nat
  | some n => n
  | none => 99
theorem Rlx.eq {cs src : List C3} {f : C3 → Nat} (r : Rlx cs src f) (s : Stable cs f) (hs : ∀ c ∈ src, c ∈ cs) {c : C3} (hc : c ∈ cs) {o : Option Nat} (h : IsWay cs src c o) (hb : ∀ n, o = some n → n ≤ 63) : f c = w99 o := by
  cases o with
  | some n =>
    have h1 := r.least s hs h.1
    have h2 := hb n rfl
    have h3 := h.2 _ (r.path c hc (by omega))
    show f c = n
    omega
  | none =>
    show f c = 99
    have h1 := r.most c hc
    by_cases e : f c < 99
    · exact absurd (r.path c hc e) (h _)
    · omega
theorem sum_put {f : C3 → Nat} {c : C3} {m : Nat} (l : m < f c) : ∀ {cs : List C3}, c ∈ cs → (cs.map (wset f c m)).sum < (cs.map f).sum
  | d :: cs, h => by
    have le : ∀ l : List C3, (l.map (wset f c m)).sum ≤ (l.map f).sum := by
      intro l
      induction l with
      | nil => exact Nat.le_refl _
      | cons x l ih =>
        simp only [List.map_cons, List.sum_cons]
        have : wset f c m x ≤ f x := by
          by_cases e : x = c
          · rw [e, wset_same]; omega
          · rw [wset_ne e]; exact Nat.le_refl _
        omega
    simp only [List.map_cons, List.sum_cons]
    by_cases e : d = c
    · have h1 := le cs
      rw [e, wset_same]
      omega
    · have h1 : c ∈ cs := (List.mem_cons.mp h).resolve_left fun z => e z.symm
      have h2 := sum_put l h1
      rw [wset_ne e]
      omega
end Ly
end

section
set_option Elab.async false
set_option linter.all false
set_option maxRecDepth 100000
set_option maxHeartbeats 2000000
/-! what is near a cell: ways of at most so many steps. Plain Lean. -/
namespace Ly
def Near (cs src : List C3) (n : Nat) (c : C3) : Prop := ∃ m, m ≤ n ∧ Path cs src m c
theorem path_src {cs src : List C3} : ∀ {n c}, Path cs src n c → ∃ s ∈ src, Path cs [s] n c
  | _, _, .zero q => ⟨_, q, .zero (List.mem_singleton.mpr rfl)⟩
  | _, _, .step p hd hc => by
    obtain ⟨s, hs, q⟩ := path_src p
    exact ⟨s, hs, .step q hd hc⟩
theorem path_of {cs src src' : List C3} (h : ∀ s ∈ src, s ∈ src') : ∀ {n c}, Path cs src n c → Path cs src' n c
  | _, _, .zero q => .zero (h _ q)
  | _, _, .step p hd hc => .step (path_of h p) hd hc
theorem near_src {cs src : List C3} {n : Nat} {c : C3} : Near cs src n c ↔ ∃ s ∈ src, Near cs [s] n c := by
  constructor
  · rintro ⟨m, hm, p⟩
    obtain ⟨s, hs, q⟩ := path_src p
    exact ⟨s, hs, m, hm, q⟩
  · rintro ⟨s, hs, m, hm, q⟩
    exact ⟨m, hm, path_of (fun x hx => by rw [List.mem_singleton.mp hx]; exact hs) q⟩
theorem path_pre {cs : List C3} {c d : C3} (hn : c ∈ nb4 d) (hc : c ∈ cs) : ∀ {n a}, Path cs [c] n a → Path cs [d] (n + 1) a
  | _, _, .zero q => by
    rw [List.mem_singleton.mp q]
    exact .step (.zero (List.mem_singleton.mpr rfl)) hn hc
  | _, _, .step p hd ha => .step (path_pre hn hc p) hd ha
theorem path_rev {cs : List C3} {a : C3} (ha : a ∈ cs) : ∀ {n b}, Path cs [a] n b → Path cs [b] n a
  | _, _, .zero q => by
    rw [List.mem_singleton.mp q]
    exact .zero (List.mem_singleton.mpr rfl)
  | _, _, .step p hd hb => path_pre (nb4_sym hd) (p.mem fun x hx => by rw [List.mem_singleton.mp hx]; exact ha) (path_rev ha p)
theorem near_sym {cs : List C3} {n : Nat} {a b : C3} (ha : a ∈ cs) : Near cs [a] n b → Near cs [b] n a := fun ⟨m, hm, p⟩ => ⟨m, hm, path_rev ha p⟩
theorem path_z {cs : List C3} {a : C3} : ∀ {n b}, Path cs [a] n b → b.2.2 = a.2.2
  | _, _, .zero q => by rw [List.mem_singleton.mp q]
  | _, _, .step p hd _ => (nb4_z hd).trans (path_z p)
/-- within a layer -/
theorem path_layer {cs : List C3} {keep : C3 → Bool} {a : C3} (hk : ∀ c ∈ cs, c.2.2 = a.2.2 → keep c = true) : ∀ {n b}, Path cs [a] n b → Path (cs.filter keep) [a] n b
  | _, _, .zero q => .zero q
  | _, _, .step p hd hb => .step (path_layer hk p) hd (List.mem_filter.mpr ⟨hb, hk _ hb ((nb4_z hd).trans (path_z p))⟩)
theorem path_all {cs : List C3} {keep : C3 → Bool} {src : List C3} : ∀ {n b}, Path (cs.filter keep) src n b → Path cs src n b
  | _, _, .zero q => .zero q
  | _, _, .step p hd hb => .step (path_all p) hd (List.mem_filter.mp hb).1
theorem near_layer {cs : List C3} {keep : C3 → Bool} {a : C3} (hk : ∀ c ∈ cs, c.2.2 = a.2.2 → keep c = true) {n : Nat} {b : C3} : Near (cs.filter keep) [a] n b ↔ Near cs [a] n b :=
  ⟨fun ⟨m, hm, p⟩ => ⟨m, hm, path_all p⟩, fun ⟨m, hm, p⟩ => ⟨m, hm, path_layer hk p⟩⟩
/-! ### found step by step -/
def reachB (cs : List C3) (c : C3) : Nat → C3 → Bool
  | 0, d => decide (d = c)
  | n + 1, d => reachB cs c n d || (decide (d ∈ cs) && (nb4 d).any (reachB cs c n))
theorem reachB_iff {cs : List C3} {c : C3} : ∀ (n : Nat) (d : C3), reachB cs c n d = true ↔ Near cs [c] n d
  | 0, d => by
    unfold reachB
    rw [decide_eq_true_iff]
    constructor
    · intro e
      rw [e]
      exact ⟨0, Nat.le_refl _, .zero (List.mem_singleton.mpr rfl)⟩
    · rintro ⟨m, hm, p⟩
      have : m = 0 := by omega
      subst this
      cases p with
      | zero q => exact List.mem_singleton.mp q
  | n + 1, d => by
    unfold reachB
    rw [Bool.or_eq_true, Bool.and_eq_true, decide_eq_true_iff, List.any_eq_true, reachB_iff n d]
    constructor
    · rintro (⟨m, hm, p⟩ | ⟨hd, e, he, h⟩)
      · exact ⟨m, by omega, p⟩
      · obtain ⟨m, hm, p⟩ := (reachB_iff n e).mp h
        exact ⟨m + 1, by omega, .step p (nb4_sym he) hd⟩
    · rintro ⟨m, hm, p⟩
      cases p with
      | zero q => exact .inl ⟨0, Nat.zero_le _, .zero q⟩
      | step p hd hc =>
        exact .inr ⟨hc, _, nb4_sym hd, (reachB_iff n _).mpr ⟨_, by omega, p⟩⟩
/-- the cells of the body within reach -/
def wi (cs : List C3) (n : Nat) (c : C3) : List C3 := cs.filter (reachB cs c n)
theorem mem_wi {cs : List C3} {n : Nat} {c d : C3} : d ∈ wi cs n c ↔ d ∈ cs ∧ Near cs [c] n d := by
  unfold wi
  rw [List.mem_filter, reachB_iff]
/-! ### papers -/
inductive Paper where
  | mk : C3 → List Paper → Paper
def Paper.c : Paper → C3
  | .mk c _ => c
def Paper.ps : Paper → List Paper
  | .mk _ ps => ps
/-- whether it shows of these that hang, and so many props, that they don't do -/
def shP (wf : C3 → List C3) : Nat → List C3 → Paper → Bool
  | 0, hs, p => decide (p.c ∈ hs) && p.ps.isEmpty
  | m + 1, hs, p => decide (p.c ∈ hs) && (decide (p.ps.length = (wf p.c).length) && ((wf p.c).zip p.ps).all fun q => shP wf m (hs.filter fun c => !decide (q.1 ∈ wf c)) q.2)
/-- as the law has it -/
def lsP (hung : List C3 → List C3) (some_ : List C3 → C3 → List C3) : Nat → List C3 → Paper → Bool
  | 0, props, p => decide (p.c ∈ hung props) && p.ps.isEmpty
  | m + 1, props, p => decide (p.c ∈ hung props) && (decide (p.ps.length = (some_ props p.c).length) && ((some_ props p.c).zip p.ps).all fun q => lsP hung some_ m (props ++ [q.1]) q.2)
theorem sh_ls {wf : C3 → List C3} {hung : List C3 → List C3} {some_ : List C3 → C3 → List C3} {ok : List C3 → Prop}
    (hsome : ∀ props, ok props → ∀ c ∈ hung props, some_ props c = wf c) (hok : ∀ props, ok props → ∀ c ∈ hung props, ∀ d ∈ wf c, ok (props ++ [d]))
    (hh : ∀ props, ok props → ∀ c ∈ hung props, ∀ d ∈ wf c, ∀ e, e ∈ hung (props ++ [d]) ↔ e ∈ hung props ∧ d ∉ wf e) :
    ∀ (m : Nat) (hs props : List C3) (p : Paper), ok props → (∀ e, e ∈ hs ↔ e ∈ hung props) → shP wf m hs p = lsP hung some_ m props p
  | 0, hs, props, p, _, h => by
    unfold shP lsP
    have : decide (p.c ∈ hs) = decide (p.c ∈ hung props) := by
      by_cases z : p.c ∈ hs
      · rw [decide_eq_true z, decide_eq_true ((h _).mp z)]
      · rw [decide_eq_false z, decide_eq_false (fun q => z ((h _).mpr q))]
    rw [this]
  | m + 1, hs, props, p, o, h => by
    unfold shP lsP
    by_cases z : p.c ∈ hs
    · have z2 := (h _).mp z
      rw [decide_eq_true z, decide_eq_true z2, hsome props o _ z2, Bool.true_and, Bool.true_and]
      congr 1
      have go : ∀ (ws : List C3) (qs : List Paper), (∀ d ∈ ws, d ∈ wf p.c) → ((ws.zip qs).all fun q => shP wf m (hs.filter fun c => !decide (q.1 ∈ wf c)) q.2) = (ws.zip qs).all fun q => lsP hung some_ m (props ++ [q.1]) q.2 := fun ws => by
        induction ws with
        | nil => intro qs _; rfl
        | cons d ws ih =>
          intro qs hd
          cases qs with
          | nil => rfl
          | cons q qs =>
            rw [List.zip_cons_cons, List.all_cons, List.all_cons, ih qs fun e he => hd e (List.mem_cons_of_mem _ he)]
            have hdm := hd d List.mem_cons_self
            congr 1
            refine sh_ls hsome hok hh m _ _ q (hok props o _ z2 d hdm) fun e => ?_
            rw [List.mem_filter, hh props o _ z2 d hdm e, h e]
            simp
      exact go _ _ fun d hd => hd
    · have z2 : p.c ∉ hung props := fun q => z ((h _).mpr q)
      rw [decide_eq_false z, decide_eq_false z2, Bool.false_and, Bool.false_and]
end Ly
end

section
set_option Elab.async false
set_option linter.all false
set_option maxRecDepth 100000
set_option maxHeartbeats 4000000
/-! comprehensions whose values are data -/
namespace LP
open PySem PySem.Spec PyProof.Rows L2 Ly GY
variable [LamTab] {P : Program} {W0 : World} {K : PySem.W.Frag} {mg : Str → Option Value} {base : Heap}
theorem _root_.L2.DpAll.length {K : PySem.W.Frag} {H : Hp} : ∀ {xs : List V} {ds : List PyData}, DpAll K H xs ds → xs.length = ds.length
  | _, _, .nil => rfl
  | _, _, .cons _ b => by rw [List.length_cons, List.length_cons, b.length]
theorem _root_.L2.DpAll.get {K : PySem.W.Frag} {H : Hp} : ∀ {xs : List V} {ds : List PyData} {i : Nat} {x : V}, DpAll K H xs ds → xs[i]? = some x → ∃ d, ds[i]? = some d ∧ Dp K H x d
  | _, _, 0, _, .cons a _, h => ⟨_, rfl, by rw [← Option.some.inj h]; exact a⟩
  | _, _, i + 1, _, .cons _ b, h => b.get (i := i) h
theorem dps_keep {S : List Addr} {H H' : Hp} {vs : List V} {ds : List PyData} (k : Kp S H H') (n : noLs ds = true) (h : DpAll K H vs ds) : DpAll K H' vs ds := dps_mono k ds h (.inl n)
theorem dp_keep {S : List Addr} {H H' : Hp} {v : V} {d : PyData} (k : Kp S H H') (n : noL d = true) (h : Dp K H v d) : Dp K H' v d := dp_mono k d h (.inl n)
theorem dps_append {H : Hp} : ∀ {xs : List V} {ds : List PyData} {ys es}, DpAll K H xs ds → DpAll K H ys es → DpAll K H (xs ++ ys) (ds ++ es)
  | _, _, _, _, .nil, h => h
  | _, _, _, _, .cons a b, h => .cons a (dps_append b h)
theorem dps_one {H : Hp} {v : V} {d : PyData} (h : Dp K H v d) : DpAll K H [v] [d] := .cons h .nil
theorem dps_split {H : Hp} : ∀ {ds es : List PyData} {xs : List V}, DpAll K H xs (ds ++ es) → ∃ ys zs, xs = ys ++ zs ∧ DpAll K H ys ds ∧ DpAll K H zs es
  | [], _, xs, h => ⟨[], xs, rfl, .nil, h⟩
  | d :: ds, es, _, .cons a b => by
    obtain ⟨ys, zs, e, h1, h2⟩ := dps_split (ds := ds) b
    exact ⟨_ :: ys, zs, by rw [e]; rfl, .cons a h1, h2⟩
theorem dps_ints {H : Hp} : ∀ {vs : List V} {ns : List Int}, DpAll K H vs (ns.map PyData.int) → vs = ns.map V.int
  | [], [], _ => rfl
  | _ :: _, [], h => by cases h
  | [], _ :: _, h => by cases h
  | v :: vs, n :: ns, .cons a b => by
    have e := of_dpi a
    rw [dps_ints b, e]
    rfl
theorem noLs_map {α : Type} {f : α → PyData} (h : ∀ a, noL (f a) = true) : ∀ l : List α, noLs (l.map f) = true
  | [] => rfl
  | a :: l => by
    show (noL (f a) && noLs (l.map f)) = true
    rw [h a, noLs_map h l]
    rfl
theorem noLs_at {α : Type} {f : α → PyData} {l : List α} (h : ∀ a ∈ l, noL (f a) = true) : noLs (l.map f) = true := by
  induction l with
  | nil => rfl
  | cons a l ih =>
    show (noL (f a) && noLs (l.map f)) = true
    rw [h a List.mem_cons_self, ih fun b hb => h b (List.mem_cons_of_mem _ hb)]
    rfl
theorem take_filter {α : Type} {keep : α → Bool} {cs : List α} {i : Nat} {c : α} (h : cs[i]? = some c) : (cs.take (i + 1)).filter keep = (cs.take i).filter keep ++ (if keep c = true then [c] else []) := by
  rw [List.take_add_one, h, List.filter_append]
  congr 1
  show List.filter keep [c] = _
  rw [List.filter_cons]
  simp
theorem range_filter (keep : Nat → Bool) (i : Nat) : (List.range (i + 1)).filter keep = (List.range i).filter keep ++ (if keep i = true then [i] else []) := by
  rw [List.range_succ, List.filter_append]
  congr 1
  rw [List.filter_cons]
  simp
theorem small_size {n : Nat} (h : n ≤ 100000) : n < sizeLine := by
  have : (100000 : Nat) < sizeLine := by decide
  omega
theorem yesP {F G : Hp → Prop} {σ : L2.St} {H : Hp} (h : F H) : tYes σ H fun b H3 => if b = true then F H3 else G H3 := by
  show (if true = true then F H else G H)
  rw [if_pos rfl]
  exact h
/-- over a range: what is kept, as data -/
theorem lc_dataR {n : Nat} {D : Addr} {H1 : Hp} {lo : Int} {g : TG} {tt : TT} {te : TE} {vs : List Nat} {σ : L2.St} {Qd : Hp → Prop} (keep : Nat → Bool) (f : Nat → PyData) (nl : ∀ i, noL (f i) = true) (hD : H1 D = none) (hn : n ≤ 100000)
    (hs : ∀ (i : Nat) (H' : Hp) (Nx : V → Hp → Prop) (Z : Hp → Prop), i < n → Kp [] H1 H' → (∀ H'' y, Kp [] H' H'' → keep i = true → Dp K H'' y (f i) → Nx y H'') → (∀ H'', Kp [] H' H'' → keep i = false → Z H'') →
      g (.int (lo + i)) (wipe σ vs) H' fun σ2 H2 => wipe σ2 vs = wipe σ vs ∧ tt σ2 H2 fun b H3 => if b = true then te σ2 H3 Nx else Z H3)
    (hd : ∀ (H' : Hp) (ys : List V), Kp [] H1 H' → H' D = some (.lst ys) → DpAll K H' ys (((List.range n).filter keep).map f) → Qd H') :
    ∃ W : Nat → Nat → Hp → Prop, (∃ m, W 0 m (upd H1 D (.lst []))) ∧ ∀ i m H, W i m H →
      ((Itr lo n).stop i H ∧ Qd H) ∨ ((Itr lo n).go i H ∧ ∃ Nx : Hp → Prop, (∀ H', Nx H' → ∃ m', m' < m ∧ W (i + 1) m' H') ∧ ∀ x H', (Itr lo n).yld i H x H' → g x (wipe σ vs) H' fun σ2 H2 => wipe σ2 vs = wipe σ vs ∧ tt σ2 H2 fun b H3 =>
        if b = true then te σ2 H3 fun y H4 => ∃ acc, H4 D = some (.lst acc) ∧ acc.length < sizeLine ∧ Nx (upd H4 D (.lst (acc ++ [y]))) else Nx H3) := by
  refine lc_range (fun i H' => Kp [] H1 H' ∧ ∃ acc, H' D = some (.lst acc) ∧ DpAll K H' acc (((List.range i).filter keep).map f)) ⟨Kp.new hD, [], upd_same, .nil⟩ (fun i H' hi pv => ?_) (fun H' ⟨k, acc, h1, h2⟩ => hd H' acc k h1 h2)
  obtain ⟨k, acc, hA, hAi⟩ := pv
  refine hs i H' _ _ hi k (fun H'' y k'' hk hy => ?_) (fun H'' k'' hk => ?_)
  · have hA2 := k''.lst hA List.not_mem_nil
    have hAl := hAi.length
    rw [List.length_map] at hAl
    have hfl := List.length_filter_le keep (List.range i)
    rw [List.length_range] at hfl
    have kc : Kp [D] H'' (upd H'' D (.lst (acc ++ [y]))) := Kp.chg hA2 (List.mem_singleton.mpr rfl)
    refine ⟨acc, hA2, small_size (by omega), (k.trans k'').chg0 hD hA2, _, upd_same, ?_⟩
    rw [range_filter, if_pos hk, List.map_append]
    exact dps_append (dps_keep kc (noLs_map nl _) (dps_keep k'' (noLs_map nl _) hAi)) (dps_one (dp_keep kc (nl i) hy))
  · refine ⟨k.trans k'', acc, k''.lst hA List.not_mem_nil, ?_⟩
    rw [range_filter, hk, if_neg (by decide), List.append_nil]
    exact dps_keep k'' (noLs_map nl _) hAi
/-- over a list of data -/
theorem lc_dataL {α : Type} {a D : Addr} {xs : List V} {H1 : Hp} {g : TG} {tt : TT} {te : TE} {vs : List Nat} {σ : L2.St} {Qd : Hp → Prop} (src : List α) (dA : α → PyData) (keep : α → Bool) (f : α → PyData) (nA : ∀ c, noL (dA c) = true) (nl : ∀ c ∈ src, noL (f c) = true) (hD : H1 D = none) (hT : SqL K H1 a xs) (hI : DpAll K H1 xs (src.map dA)) (hz : src.length ≤ 100000)
    (hs : ∀ (c : α) (x : V) (H' : Hp) (Nx : V → Hp → Prop) (Z : Hp → Prop), c ∈ src → Kp [] H1 H' → Dp K H' x (dA c) → (∀ H'' y, Kp [] H' H'' → keep c = true → Dp K H'' y (f c) → Nx y H'') → (∀ H'', Kp [] H' H'' → keep c = false → Z H'') →
      g x (wipe σ vs) H' fun σ2 H2 => wipe σ2 vs = wipe σ vs ∧ tt σ2 H2 fun b H3 => if b = true then te σ2 H3 Nx else Z H3)
    (hd : ∀ (H' : Hp) (ys : List V), Kp [] H1 H' → H' D = some (.lst ys) → DpAll K H' ys ((src.filter keep).map f) → Qd H') :
    ∃ W : Nat → Nat → Hp → Prop, (∃ m, W 0 m (upd H1 D (.lst []))) ∧ ∀ i m H, W i m H →
      ((Itl K a).stop i H ∧ Qd H) ∨ ((Itl K a).go i H ∧ ∃ Nx : Hp → Prop, (∀ H', Nx H' → ∃ m', m' < m ∧ W (i + 1) m' H') ∧ ∀ x H', (Itl K a).yld i H x H' → g x (wipe σ vs) H' fun σ2 H2 => wipe σ2 vs = wipe σ vs ∧ tt σ2 H2 fun b H3 =>
        if b = true then te σ2 H3 fun y H4 => ∃ acc, H4 D = some (.lst acc) ∧ acc.length < sizeLine ∧ Nx (upd H4 D (.lst (acc ++ [y]))) else Nx H3) := by
  have hl := hI.length
  rw [List.length_map] at hl
  have nf : ∀ i, noLs ((((src.take i).filter keep)).map f) = true := fun i => noLs_at fun c hc => nl c (List.mem_of_mem_take (List.mem_filter.mp hc).1)
  refine lc_list (K := K) (a := a) (xs := xs) (fun i H' => Kp [] H1 H' ∧ ∃ acc, H' D = some (.lst acc) ∧ DpAll K H' acc (((src.take i).filter keep).map f)) ⟨Kp.new hD, [], upd_same, .nil⟩ (fun i H' _ k => k.1.sqL hT List.not_mem_nil) (fun i x H' hx pv => ?_) (fun H' pv => ?_)
  · obtain ⟨k, acc, hA, hAi⟩ := pv
    obtain ⟨d, hd0, hd'⟩ := (dps_keep k (noLs_map nA _) hI).get hx
    rw [List.getElem?_map] at hd0
    obtain ⟨c, hc, rfl⟩ := Option.map_eq_some_iff.mp hd0
    refine hs c x H' _ _ (List.mem_of_getElem? hc) k hd' (fun H'' y k'' hk hy => ?_) (fun H'' k'' hk => ?_)
    · have hA2 := k''.lst hA List.not_mem_nil
      have hi : i < src.length := (List.getElem?_eq_some_iff.mp hc).1
      have hAl := hAi.length
      rw [List.length_map] at hAl
      have hfl := List.length_filter_le keep (src.take i)
      rw [List.length_take] at hfl
      have kc : Kp [D] H'' (upd H'' D (.lst (acc ++ [y]))) := Kp.chg hA2 (List.mem_singleton.mpr rfl)
      refine ⟨acc, hA2, small_size (by omega), (k.trans k'').chg0 hD hA2, _, upd_same, ?_⟩
      rw [take_filter hc, if_pos hk, List.map_append]
      exact dps_append (dps_keep kc (nf _) (dps_keep k'' (nf _) hAi)) (dps_one (dp_keep kc (nl c (List.mem_of_getElem? hc)) hy))
    · refine ⟨k.trans k'', acc, k''.lst hA List.not_mem_nil, ?_⟩
      rw [take_filter hc, hk, if_neg (by decide), List.append_nil]
      exact dps_keep k'' (nf _) hAi
  · obtain ⟨k, acc, hA, hAi⟩ := pv
    rw [hl, List.take_length] at hAi
    exact hd H' acc k hA hAi
theorem flat_ints : ∀ ns : List Int, (ns.map V.int).all flatV = true
  | [] => rfl
  | _ :: ns => flat_ints ns
theorem inV_ints (x : Int) : ∀ ns : List Int, inV (.int x) (ns.map V.int) = decide (x ∈ ns)
  | [] => rfl
  | n :: ns => by
    have h := inV_ints x ns
    unfold inV at h ⊢
    rw [List.map_cons, List.any_cons, h]
    by_cases e : n = x
    · subst e
      rw [show eqV (.int n) (.int n) = true from by simp [eqV]]
      simp
    · rw [show eqV (.int n) (.int x) = false from by simp [eqV, e]]
      have e' : ¬ x = n := fun z => e z.symm
      simp [e']
end LP
end

section
set_option Elab.async false
set_option linter.all false
set_option maxRecDepth 100000
set_option maxHeartbeats 2000000
/-! Dicts whose keys are tuples of any depth: what stands in them, read, asked, stored, made. -/
namespace GD
open PySem PySem.Spec PyProof.Rows L2
abbrev kn (P : Program) (w : World) : HeapKind P w NestedKey := nestedKind P w
abbrev Row := NestedKey × Addr × V
abbrev RowV := NestedKey × Addr × Value
def RelE (p : Row) (q : RowV) : Prop := p.1 = q.1 ∧ p.2.1 = q.2.1 ∧ RelV p.2.2 q.2.2
/-- the entries of the dict's own object -/
def Ent (P : Program) (w : World) (h : Heap) (a : Addr) (xs : List RowV) : Prop :=
  ∃ o es ep, h.get? a = some o ∧ o.ExactDict ∧ o.data = .dict es ep ∧ es.toList = xs.map (entryOfKey (kn P w)) ∧ (xs.map (·.1)).Nodup
def Dn0 (P : Program) (w : World) (h : Heap) (a : Addr) (L : List Row) : Prop := (a == sysModules) = false ∧ L.length ≤ sizeLine ∧ ∃ xs, Paired RelE L xs ∧ Ent P w h a xs
def DNO (P : Program) (w : World) (a : Addr) (L : List Row) : HO := .ext fun h => Dn0 P w h a L
theorem dno_ok {P : Program} {w : World} {H : Hp} {h : Heap} {a : Addr} {L : List Row} (x : Dn0 P w h a L) : ObjOk P w H h a (DNO P w a L) := by
  refine ⟨x, ?_, fun h1 h2 q k => ?_⟩
  · obtain ⟨_, _, xs, _, o, _, _, e, _⟩ := x
    exact ⟨o, e⟩
  · obtain ⟨y, z, xs, r, o, es, ep, e, c⟩ := q
    exact ⟨y, z, xs, r, o, es, ep, k o e, c⟩
theorem not_code {P : Program} {w : World} {h : Heap} {a : Addr} {L : List Row} (x : Dn0 P w h a L) : ∀ q, DNO P w a L ≠ LamX.CodeO a q := by
  intro q e
  have f : (fun h => Dn0 P w h a L) = fun h => ∃ (oc : Obj) (vs : Array Value) (t : Tok), h.get? a = some oc ∧ oc.data = .fields vs ∧ vs[1]? = some (.str q t) := by
    unfold DNO LamX.CodeO at e
    exact HO.ext.inj e
  have g := congrFun f h
  rw [eq_iff_iff] at g
  obtain ⟨oc, vs, t, e1, e2, _⟩ := g.mp x
  obtain ⟨_, _, xs, _, o, es, ep, e3, _, e4, _⟩ := x
  rw [e1] at e3
  cases e3
  rw [e2] at e4
  cases e4
/-- a key that stands at b -/
def KeyD (K : PySem.W.Frag) (H : Hp) (v : V) (k : NestedKey) : Prop := Dp K H v k.data ∧ k.depth ≤ 8 ∧ ∃ ks, k = .tup ks
/-- at a stands a dict of these keys and values -/
def DN (K : PySem.W.Frag) (P : Program) (w : World) (H : Hp) (a : Addr) (kvs : List (NestedKey × V)) : Prop :=
  ∃ (φ : Heap → Prop) (L : List Row), H a = some (.ext φ) ∧ (∀ h, φ h → Dn0 P w h a L) ∧ (L.map fun p => (p.1, p.2.2)) = kvs ∧ (∀ p ∈ L, KeyD K H (.ref p.2.1) p.1) ∧ ∀ q, H a ≠ some (LamX.CodeO a q)
theorem DN.mk0 {K : PySem.W.Frag} {P : Program} {w : World} {H : Hp} {a : Addr} {kvs : List (NestedKey × V)} {L : List Row} (e : H a = some (DNO P w a L)) (ek : (L.map fun p => (p.1, p.2.2)) = kvs) (hk : ∀ p ∈ L, KeyD K H (.ref p.2.1) p.1) (nc : ∀ q, H a ≠ some (LamX.CodeO a q)) : DN K P w H a kvs :=
  ⟨_, L, e, fun _ x => x, ek, hk, nc⟩
def valN (kvs : List (NestedKey × V)) (k : NestedKey) : Option V := (kvs.find? fun p => decide (p.1 = k)).map (·.2)
def putN (kvs : List (NestedKey × V)) (k : NestedKey) (v : V) : List (NestedKey × V) := if (valN kvs k).isSome = true then kvs.map fun p => if p.1 = k then (p.1, v) else p else kvs ++ [(k, v)]
/-- a heap of which only the dict at a is another -/
structure Chg (H H' : Hp) (a : Addr) : Prop where
  but : ∀ b, b ≠ a → H' b = H b
  now : ∃ φ, H' a = some (.ext φ)
  was : ∃ φ, H a = some (.ext φ)
  nc : ∀ q, H a ≠ some (LamX.CodeO a q)
section
variable {X : Cx} {pins : List (Addr × Obj)} {σ : L2.St} {H : Hp} {s : Shared}
mutual
theorem nis (I : Inv X pins σ H s) : ∀ (k : NestedKey) {v : V} {u : Value}, Dp X.K H v k.data → RelV v u → NestedIs s.heap k u
  | .none, v, u, h, r => by
    simp only [NestedKey.data] at h
    cases h
    cases r
    exact .none
  | .num i, v, u, h, r => by
    simp only [NestedKey.data] at h
    cases h
    obtain ⟨t, rfl⟩ := r
    exact .int i t
  | .text x, v, u, h, r => by
    simp only [NestedKey.data] at h
    cases h
    obtain ⟨t, rfl⟩ := r
    exact .text x t
  | .tup ks, v, u, h, r => by
    simp only [NestedKey.data] at h
    cases h with
    | tup hs ha =>
      cases r
      obtain ⟨its, rv, ⟨o, e, c, n, d⟩, _⟩ := I.tuple hs
      exact .tup e c d (by simpa using nisAll I ks ha rv)
theorem nisAll (I : Inv X pins σ H s) : ∀ (ks : List NestedKey) {vs : List V} {us : List Value}, DpAll X.K H vs (NestedKey.datas ks) → Vals vs us → NestedAll s.heap ks us
  | [], vs, us, h, r => by
    simp only [NestedKey.datas] at h
    cases h
    cases r
    exact .nil
  | k :: ks, vs, us, h, r => by
    simp only [NestedKey.datas] at h
    cases h with
    | cons h1 h2 =>
      cases r with
      | cons r1 r2 => exact .cons (nis I k h1 r1) (nisAll I ks h2 r2)
end
theorem KeyD.is (I : Inv X pins σ H s) {b : Addr} {k : NestedKey} (h : KeyD X.K H (.ref b) k) : (kn X.prog X.w).is s.heap k b := ⟨nis I k h.1 rfl, h.2.1⟩
theorem KeyD.ref {K : PySem.W.Frag} {v : V} {k : NestedKey} (h : KeyD K H v k) : ∃ b, v = .ref b := by
  obtain ⟨h1, _, ks, rfl⟩ := h
  simp only [NestedKey.data] at h1
  cases h1
  exact ⟨_, rfl⟩
theorem rows_keys {K : PySem.W.Frag} : ∀ {L : List Row} {xs : List RowV}, Paired RelE L xs → (∀ p ∈ L, KeyD K H (.ref p.2.1) p.1) → ∀ x ∈ xs, KeyD K H (.ref x.2.1) x.1
  | _, _, .nil, _ => fun x hx => nomatch hx
  | p :: L, q :: xs, .cons r t, h => fun x hx => by
    rcases List.mem_cons.mp hx with e | hx
    · have z := h p List.mem_cons_self
      rw [e, ← r.1, ← r.2.1]
      exact z
    · exact rows_keys t (fun p hp => h p (List.mem_cons_of_mem _ hp)) x hx
theorem rows_len {L : List Row} {xs : List RowV} (r : Paired RelE L xs) : L.length = xs.length := Paired.length r
theorem rows_val {k : NestedKey} : ∀ {L : List Row} {xs : List RowV}, Paired RelE L xs → (valN (L.map fun p => (p.1, p.2.2)) k = none ∧ atKey xs k = none) ∨ ∃ v b u, valN (L.map fun p => (p.1, p.2.2)) k = some v ∧ atKey xs k = some (b, u) ∧ RelV v u
  | _, _, .nil => .inl ⟨rfl, rfl⟩
  | p :: L, q :: xs, .cons r t => by
    obtain ⟨r1, r2, r3⟩ := r
    have ih := rows_val (k := k) t
    unfold valN atKey at ih ⊢
    rw [List.map_cons, List.find?_cons, List.find?_cons]
    by_cases e : p.1 = k
    · have e' : q.1 = k := by rw [← r1]; exact e
      simp only [e, e', decide_true]
      exact .inr ⟨_, _, _, rfl, rfl, r3⟩
    · have e' : ¬ q.1 = k := by rw [← r1]; exact e
      simp only [e, e', decide_false]
      exact ih
/-- opened -/
theorem DN.full (I : Inv X pins σ H s) {a : Addr} {kvs : List (NestedKey × V)} (d : DN X.K X.prog X.w H a kvs) : ∃ (L : List Row) (xs : List RowV), (∃ φ, H a = some (.ext φ)) ∧ (L.map fun p => (p.1, p.2.2)) = kvs ∧ (∀ p ∈ L, KeyD X.K H (.ref p.2.1) p.1) ∧
    (a == sysModules) = false ∧ L.length ≤ sizeLine ∧ Paired RelE L xs ∧ s.heap.DictOfH (kn X.prog X.w) a xs := by
  obtain ⟨φ, L, e, hφ, ek, hk, _⟩ := d
  obtain ⟨x, _, _⟩ := I.hok a _ e
  obtain ⟨y, z, xs, r, o, es, ep, h1, h2, h3, h4, h5⟩ := hφ _ x
  exact ⟨L, xs, ⟨φ, e⟩, ek, hk, y, z, r, o, es, ep, h1, h2, h3, h4, fun x hx => (rows_keys r hk x hx).is I, h5⟩
def rInN (K : PySem.W.Frag) (P : Program) (w : World) : R2 := fun x y H Q => ∃ a kvs k, y = .ref a ∧ DN K P w H a kvs ∧ KeyD K H x k ∧ Q (.bl (valN kvs k).isSome) H
theorem op_inN (hu : X.A.units + 64 < cLine) : OpR X (compareOp .In) (rInN X.K X.prog X.w) := by
  intro pins s σ H x y v u Q I rx ry h
  obtain ⟨a, kvs, k, rfl, d, hk, q⟩ := h
  obtain ⟨b, rfl⟩ := hk.ref
  cases rx
  cases ry
  obtain ⟨L, xs, e, ek, hks, hm, z, r, D⟩ := d.full I
  refine wpAny_in_heap (knd := kn X.prog X.w) (by show X.A.units + 1 + 8 < cLine; omega) (hk.is I) hm D ⟨.bl (valN kvs k).isSome, H, I.tok _, ?_, q⟩
  rw [← ek]
  rcases rows_val (k := k) r with ⟨e1, e2⟩ | ⟨v, b, u, e1, e2, _⟩
  · rw [e1, e2]; rfl
  · rw [e1, e2]; rfl
def rIxN (K : PySem.W.Frag) (P : Program) (w : World) : R2 := fun x y H Q => ∃ a kvs k v, x = .ref a ∧ DN K P w H a kvs ∧ KeyD K H y k ∧ valN kvs k = some v ∧ Q v H
theorem getN {Q : VK} {a : Addr} {kvs : List (NestedKey × V)} {k : NestedKey} {y v : V} {u : Value} (hu : X.A.units + 64 < cLine) (I : Inv X pins σ H s) (d : DN X.K X.prog X.w H a kvs) (hk : KeyD X.K H y k) (hv : valN kvs k = some v) (ry : RelV y u) (q : Q v H) :
    s.TypeIs (.ref a) "dict" ∧ wpAny (model X.prog X.w) X.A (getItem (.ref a) u) (EP X pins σ Q) X.xe s := by
  obtain ⟨b, rfl⟩ := hk.ref
  cases ry
  obtain ⟨L, xs, e, ek, hks, hm, z, r, D⟩ := d.full I
  refine ⟨D.typeIs, ?_⟩
  rcases rows_val (k := k) r with ⟨e1, e2⟩ | ⟨v', b', u', e1, e2, e3⟩
  · rw [ek, hv] at e1
    cases e1
  · rw [ek, hv] at e1
    cases e1
    exact wpAny_getItem_heap (knd := kn X.prog X.w) (by show X.A.units + 1 + 8 < cLine; omega) (hk.is I) D e2 ⟨v, H, I.tok _, e3, q⟩
theorem ix_N (hu : X.A.units + 64 < cLine) : IxR X (rIxN X.K X.prog X.w) := by
  intro value slice pins s σ H x y v u Q I rx ry h hs
  obtain ⟨a, kvs, k, z, rfl, d, hk, hv, q⟩ := h
  cases rx
  obtain ⟨t, w⟩ := getN hu I d hk hv ry q
  exact tail_any t PySem.F.slot_dict_getitem.lookup w hs
/-! ### a store -/
theorem nodup_put {xs : List RowV} {k : NestedKey} {b : Addr} {u : Value} (h : (xs.map (·.1)).Nodup) : ((storedH xs k b u).map (·.1)).Nodup := by
  cases e : atKey xs k with
  | some p => rw [storedH_old e, keys_map_putAt]; exact h
  | none =>
    rw [storedH_new e, List.map_append]
    refine List.nodup_append.mpr ⟨h, by simp, fun x hx y hy => ?_⟩
    have hy : y = k := by simpa using hy
    subst hy
    intro z
    subst z
    obtain ⟨q, hq, e2⟩ := List.mem_map.mp hx
    unfold atKey at e
    rw [Option.map_eq_none_iff, List.find?_eq_none] at e
    exact e q hq (by simp [e2])
def putL (L : List Row) (k : NestedKey) (b : Addr) (v : V) : List Row := if (valN (L.map fun p => (p.1, p.2.2)) k).isSome = true then L.map fun p => if p.1 = k then (p.1, p.2.1, v) else p else L ++ [(k, b, v)]
theorem putL_kvs (L : List Row) (k : NestedKey) (b : Addr) (v : V) : (putL L k b v).map (fun p => (p.1, p.2.2)) = putN (L.map fun p => (p.1, p.2.2)) k v := by
  unfold putL putN
  split
  · rw [List.map_map, List.map_map]
    refine List.map_congr_left fun p _ => ?_
    show ((if p.1 = k then (p.1, p.2.1, v) else p : Row).1, (if p.1 = k then (p.1, p.2.1, v) else p : Row).2.2) = if p.1 = k then (p.1, v) else (p.1, p.2.2)
    split <;> rfl
  · rw [List.map_append]
    rfl
theorem putL_len (L : List Row) (k : NestedKey) (b : Addr) (v : V) : (putL L k b v).length ≤ L.length + 1 := by
  unfold putL
  split
  · rw [List.length_map]; omega
  · rw [List.length_append]; exact Nat.le_refl _
theorem rows_map {k : NestedKey} {v : V} {u : Value} (rv : RelV v u) : ∀ {L : List Row} {xs : List RowV}, Paired RelE L xs → Paired RelE (L.map fun p => if p.1 = k then (p.1, p.2.1, v) else p) (xs.map (putAt k u))
  | _, _, .nil => .nil
  | p :: L, q :: xs, .cons r t => by
    refine .cons ?_ (rows_map rv t)
    obtain ⟨r1, r2, r3⟩ := r
    unfold putAt
    show RelE (if p.1 = k then (p.1, p.2.1, v) else p) _
    by_cases e : p.1 = k
    · rw [if_pos e, if_pos (by rw [← r1]; exact e)]
      exact ⟨r1, r2, rv⟩
    · rw [if_neg e, if_neg (by rw [← r1]; exact e)]
      exact ⟨r1, r2, r3⟩
theorem rows_put {L : List Row} {xs : List RowV} {k : NestedKey} {b : Addr} {v : V} {u : Value} (r : Paired RelE L xs) (rv : RelV v u) : Paired RelE (putL L k b v) (storedH xs k b u) := by
  unfold putL
  rcases rows_val (k := k) r with ⟨e1, e2⟩ | ⟨v', b', u', e1, e2, _⟩
  · rw [e1, storedH_new e2, if_neg (by decide)]
    exact Paired.snoc r ⟨rfl, rfl, rv⟩
  · rw [e1, storedH_old e2, if_pos (by rfl)]
    exact rows_map rv r
theorem putL_key {K : PySem.W.Frag} {L : List Row} {k : NestedKey} {b : Addr} {v : V} (h : ∀ p ∈ L, KeyD K H (.ref p.2.1) p.1) (hb : KeyD K H (.ref b) k) : ∀ p ∈ putL L k b v, KeyD K H (.ref p.2.1) p.1 := by
  intro p hp
  unfold putL at hp
  split at hp
  · obtain ⟨q, hq, e⟩ := List.mem_map.mp hp
    have z := h q hq
    split at e
    · rw [← e]; exact z
    · rw [← e]; exact z
  · rcases List.mem_append.mp hp with z | z
    · exact h p z
    · rw [List.mem_singleton.mp z]; exact hb
mutual
/-- a key stays one while the dict at a is changed -/
theorem key_keep {K : PySem.W.Frag} {H' : Hp} {a : Addr} (c : Chg H H' a) : ∀ (k : NestedKey) {v : V}, Dp K H v k.data → Dp K H' v k.data
  | .none, v, h => by simp only [NestedKey.data] at h ⊢; cases h; exact .non
  | .num i, v, h => by simp only [NestedKey.data] at h ⊢; cases h; exact .int i
  | .text x, v, h => by simp only [NestedKey.data] at h ⊢; cases h; exact .str x
  | .tup ks, v, h => by
    simp only [NestedKey.data] at h ⊢
    cases h with
    | tup hs ha =>
      refine .tup ?_ (keys_keep c ks ha)
      rcases hs with (h | ⟨o, h⟩) | h
      · exact .inl (.inl (by rw [c.but _ fun z => ?_]; exact h; rw [z] at h; obtain ⟨φ, e⟩ := c.was; rw [e] at h; cases h))
      · exact .inl (.inr ⟨o, by rw [c.but _ fun z => ?_]; exact h; rw [z] at h; obtain ⟨φ, e⟩ := c.was; rw [e] at h; cases h⟩)
      · exact .inr h
theorem keys_keep {K : PySem.W.Frag} {H' : Hp} {a : Addr} (c : Chg H H' a) : ∀ (ks : List NestedKey) {vs : List V}, DpAll K H vs (NestedKey.datas ks) → DpAll K H' vs (NestedKey.datas ks)
  | [], vs, h => by simp only [NestedKey.datas] at h ⊢; cases h; exact .nil
  | k :: ks, vs, h => by
    simp only [NestedKey.datas] at h ⊢
    cases h with
    | cons h1 h2 => exact .cons (key_keep c k h1) (keys_keep c ks h2)
end
theorem KeyD.chg {K : PySem.W.Frag} {H' : Hp} {a : Addr} {v : V} {k : NestedKey} (c : Chg H H' a) (h : KeyD K H v k) : KeyD K H' v k := ⟨key_keep c k h.1, h.2⟩
/-- d[k] = v, whichever way it is done -/
theorem put_ok {A : Around} {E : Value → Shared → Prop} {a b : Addr} {kvs : List (NestedKey × V)} {k : NestedKey} {v : V} {u : Value} {m : Sem Unit} {Q : Unit → Shared → Prop} (I : Inv X pins σ H s) (d : DN X.K X.prog X.w H a kvs) (hk : KeyD X.K H (.ref b) k) (hz : kvs.length < sizeLine) (rv : RelV v u)
    (hm : ∀ xs : List RowV, xs.length ≤ sizeLine → s.heap.DictOfH (kn X.prog X.w) a xs → (∀ h' tk, h'.DictOfH (kn X.prog X.w) a (storedH xs k b u) → Heap.SameBut a s.heap h' → Q () { s with heap := h', toks := tk }) → wpAny (model X.prog X.w) A m Q E s)
    (h : ∀ s' H', Inv X pins σ H' s' → Chg H H' a → DN X.K X.prog X.w H' a (putN kvs k v) → Q () s') : wpAny (model X.prog X.w) A m Q E s := by
  have ncd := d.choose_spec.choose_spec.2.2.2.2
  obtain ⟨L, xs, ⟨φ0, e⟩, ek, hks, hsm, z, r, D⟩ := d.full I
  have hl := rows_len r
  have hL : L.length = kvs.length := by rw [← ek, List.length_map]
  refine hm xs (by omega) D fun h' tk D' sb => ?_
  have new0 : Dn0 X.prog X.w h' a (putL L k b v) := by
    obtain ⟨o, es, ep, h1, h2, h3, h4, _, h5⟩ := D'
    have := putL_len L k b v
    exact ⟨hsm, by omega, storedH xs k b u, rows_put r rv, o, es, ep, h1, h2, h3, h4, h5⟩
  have he : ∃ q, h'.get? a = some q := by
    obtain ⟨o, es, ep, h1, _⟩ := D'
    exact ⟨o, h1⟩
  have c : Chg H (upd H a (DNO X.prog X.w a (putL L k b v))) a := ⟨fun b n => upd_ne n, ⟨_, upd_same⟩, ⟨_, e⟩, ncd⟩
  refine h _ _ (d_write I (by rw [e]; exact True.intro) sb he (dno_ok new0)) c (.mk0 upd_same (by rw [putL_kvs, ek]) (fun p hp => (putL_key hks hk p hp).chg c) fun q z => ?_)
  rw [upd_same] at z
  exact not_code new0 q (Option.some.inj z)
def rPutN (K : PySem.W.Frag) (P : Program) (w : World) : TSet := fun o i v H Q => ∃ a kvs k, o = .ref a ∧ DN K P w H a kvs ∧ KeyD K H i k ∧ kvs.length < sizeLine ∧ ∀ H', Chg H H' a → DN K P w H' a (putN kvs k v) → Q H'
theorem set_N (hu : X.A.units + 64 < cLine) : PSet X (rPutN X.K X.prog X.w) := by
  intro pins s σ H o i v ov iv u Q I ro ri rv h
  obtain ⟨a, kvs, k, rfl, d, hk, hz, q⟩ := h
  obtain ⟨b, rfl⟩ := hk.ref
  cases ro
  cases ri
  refine put_ok I d hk hz rv (fun xs hsz D g => wpAny_setItem_heap (knd := kn X.prog X.w) (hsz := hsz) (by show X.A.units + 1 + 8 < cLine; omega) (hk.is I) D fun h' D' sb => g h' _ D' sb) fun s' H' I' c d' => ⟨H', I', q H' c d'⟩
end
end GD
end

section
set_option Elab.async false
set_option linter.all false
set_option maxRecDepth 100000
set_option maxHeartbeats 2000000
/-! Dicts with keys of any depth: {k: v for x in xs}, dict(pairs). -/
namespace GD
open PySem PySem.Spec PyProof.Rows L2
/-- an empty one is made -/
structure New (H H' : Hp) (a : Addr) : Prop where
  free : H a = none
  but : ∀ b, b ≠ a → H' b = H b
  now : ∃ φ, H' a = some (.ext φ)
  nc : ∀ q, H' a ≠ some (LamX.CodeO a q)
theorem new_upd {P : Program} {w : World} {H : Hp} {h : Heap} {a : Addr} {L : List Row} (n : H a = none) (x : Dn0 P w h a L) : New H (upd H a (DNO P w a L)) a :=
  ⟨n, fun b e => upd_ne e, ⟨_, upd_same⟩, fun q e => by rw [upd_same] at e; exact not_code x q (Option.some.inj e)⟩
theorem dn_nil {K : PySem.W.Frag} {P : Program} {w : World} {H : Hp} {h : Heap} {a : Addr} (x : Dn0 P w h a []) : DN K P w (upd H a (DNO P w a [])) a [] :=
  .mk0 upd_same rfl (fun p hp => (by cases hp)) fun q (e : upd H a (DNO P w a []) a = some (LamX.CodeO a q)) => by rw [upd_same] at e; exact not_code x q (Option.some.inj e)
section
variable {B : Cx} {pl : List (Addr × Obj)} {σ : L2.St} {lvl i : Nat} {x : Str} {px ip : Pos} {J : It} {it : Addr} {fp : List Addr} {tn : Nat → Heap → Prop} {acc : Value} {N : Nat} {W : Nat → Hp → Prop} {We : Hp → Prop} {bd : Sem Unit}
theorem eachD {kx vx : Expr} {gs : List Comprehension} {scope : Scope} {pos : Pos} (hc : B.calm = true) (hxe : B.xe = fun _ _ => False)
    (hturn : compTurn (.DictComp kx vx gs scope pos) lvl (.ref it) acc B.env = (do
      standAt ip
      match ← pyNext (.ref it) with
      | none => pure (.done .next)
      | some v => do
        letOwnedTupleGo (.Name x px) (.ref it) v
        assign (.Name x px) B.env v
        bd
        again (.compLoop (.DictComp kx vx gs scope pos) lvl (.ref it) acc B.env)))
    (T : Turn B.prog B.w B.K (.Name x px) J fp it tn) (pg : PG B (.Name x px) (gName i)) (hi : σ[i]? = some none)
    (fpo : ∀ {H' : Hp}, (∀ b ∈ fp, H' b = none) → ∀ b ∈ fp, FpOk B pl H' b)
    (turn : ∀ j H, W j H → (j = N ∧ J.stop j H ∧ We H) ∨ (j < N ∧ J.go j H ∧ ∀ y H', J.yld j H y H' → ∀ (pl' : List (Addr × Obj)) (s : Shared), Inv B (pl ++ pl') (σ.set i (some y)) H' s →
      wpAny (model B.prog B.w) B.A bd (fun _ s' => ∃ H2, Inv B (pl ++ pl') (σ.set i (some y)) H2 s' ∧ W (j + 1) H2) (fun _ _ => False) s))
    {Rr : Result → Shared → Prop} (hR : ∀ s' H', Inv B pl σ H' s' → We H' → Rr (.ok .next) s') (s : Shared) (H : Hp) (I : Inv B pl σ H s) (st : tn 0 s.heap) (nfp : ∀ b ∈ fp, H b = none) (w : W 0 H) :
    codeAny (model B.prog B.w) B.A (.compLoop (.DictComp kx vx gs scope pos) lvl (.ref it) acc B.env) Rr s := by
  refine codeAny_loop rfl (fun n s' => ∃ j H', Inv B pl σ H' s' ∧ tn j s'.heap ∧ (∀ b ∈ fp, H' b = none) ∧ W j H' ∧ j ≤ N ∧ n = N - j) ?_ (N - 0) ⟨0, H, I, st, nfp, w, Nat.zero_le _, rfl⟩
  rintro n s1 ⟨j, H1, I1, st1, n1, w1, hj, hn⟩
  show wpAny _ B.A ((compTurn (.DictComp kx vx gs scope pos) lvl (.ref it) acc B.env).onRaise (fun x => do noteFrame x B.env; theTreesLotGoes x)) _ _ s1
  refine wpAny_noted ?_
  rw [hturn]
  refine wpAny_bind (wpAny_standAt (wpAny_bind ?_))
  rcases turn j H1 w1 with ⟨ej, stop, we⟩ | ⟨lt, go, step⟩
  · refine thnF (T.done B rfl rfl rfl hc j pl s1 σ H1 (fun _ _ => False) I1 (fpo n1) st1 stop) fun r s2 ⟨hr, I2⟩ => ?_
    subst hr
    exact wpAny_pure (hR s2 H1 I2 we)
  · refine thnF (T.item B rfl rfl rfl hc j pl s1 σ H1 (fun _ _ => False) I1 (fpo n1) st1 go) fun r s2 ⟨u, hr, h2⟩ => ?_
    subst hr
    refine wpAny_bind (thnF h2 fun _ s3 ⟨y, H3, I3, r3, y3, st3, n3⟩ => ?_)
    have I3' := I3.pinned (fpo n3) (T.obj _ _ st3)
    have pr := pg.run _ s3 σ H3 y u (fun σ' H' => σ' = σ.set i (some y) ∧ H' = H3) I3' r3 ⟨rfl, rfl⟩
    rw [hxe] at pr
    refine wpAny_bind (thnF pr fun _ s4 ⟨σ4, H4, I4, e4, e4'⟩ => ?_)
    subst e4
    subst e4'
    refine wpAny_bind (thnF (step y H4 y3 _ s4 I4) fun _ s5 ⟨H5, I5, w5⟩ => ?_)
    refine wpAny_pure ⟨rfl, N - (j + 1), by omega, j + 1, H5, ?_, ?_, fun b hb => ?_, w5, lt, rfl⟩
    · have sb := GV.Sub.set (v := y) hi
      exact (I5.unpinned).weak sb.1 sb.2
    · exact T.keep _ _ _ st3 fun b hb o e => (I5.pin (b, o) (List.mem_append_right _ (List.mem_append_right _ (mem_pinsAt hb e)))).1
    · obtain ⟨o, e, _⟩ := T.obj _ _ st3 b hb
      exact (I5.pin (b, o) (List.mem_append_right _ (List.mem_append_right _ (mem_pinsAt hb e)))).2.1
end
section
variable {X : Cx}
/-- a: the slot of the name -/
def tDcN (K : PySem.W.Frag) (P : Program) (w : World) (wi : TI) (tk tv : TE) (vs : List Nat) (a : Nat) : TE := fun σ H Q => wi σ H fun J H1 => ∀ D H2, New H1 H2 D → DN K P w H2 D [] → ∃ (N : Nat) (W : Nat → Hp → Prop), W 0 H2 ∧ ∀ i H, W i H →
  (i = N ∧ J.stop i H ∧ Q (.ref D) H) ∨ (i < N ∧ J.go i H ∧ ∀ x H', J.yld i H x H' → tk ((wipe σ vs).set a (some x)) H' fun y H4 => tv ((wipe σ vs).set a (some x)) H4 fun z H5 =>
    ∃ kvs k, DN K P w H5 D kvs ∧ KeyD K H5 y k ∧ kvs.length < sizeLine ∧ ∀ H6, Chg H5 H6 D → DN K P w H6 D (putN kvs k z) → W (i + 1) H6)
theorem dcN_core {pins : List (Addr × Obj)} {s : Shared} {σ : L2.St} {H : Hp} {Q : VK} {pos' : Pos} {use : Option (Value → Sem Unit)} {Qf : Value → Shared → Prop} {kx vx i0 : Expr} {x0 : Str} {p0 pos : Pos} {scope : Scope} {own : List (Str × Nat)} {wi : TI} {tk tv : TE} {a : Nat} (hc : X.calm = true) (hN : X.N.Nodup) (hu : X.A.units + 64 < cLine) (ok : BlkOk X.N X.env.scope scope own)
    (ha : X.N[a]? = some x0) (ho : a ∈ own.map (·.2)) (hi : PI X (.Name x0 p0) i0 wi)
    (hg : ∀ (s : Shared) (H : Hp) (C : Addr) (cl : List (Str × Addr)) (fp : List Addr), PG (X.blk s H scope (compEnvC scope cl C X.env) fp) (.Name x0 p0) (gName a))
    (hk : ∀ (s : Shared) (H : Hp) (C : Addr) (cl : List (Str × Addr)) (fp : List Addr), PE (X.blk s H scope (compEnvC scope cl C X.env) fp) kx tk)
    (hv : ∀ (s : Shared) (H : Hp) (C : Addr) (cl : List (Str × Addr)) (fp : List Addr), PE (X.blk s H scope (compEnvC scope cl C X.env) fp) vx tv)
    (hs : ∀ x, foldedSetIterable i0 X.env x = pure x) (I : Inv X pins σ H s) (h : tDcN X.K X.prog X.w wi tk tv (own.map (·.2)) a σ H Q)
    (fin : ∀ D C s' m H', Inv X pins σ H' s' → Q (.ref D) H' → s'.heap.Ns C m → FpOk X pins H' C → compPost (model X.prog X.w) X.A X.xe use Qf (.ref D) C (.ok .next) s') :
    wpAny (model X.prog X.w) X.A (comprehension (.DictComp kx vx [⟨.Name x0 p0, i0, [], 0⟩] scope pos) scope X.env pos' newDict false (eval i0 X.env) use) Qf X.xe s := by
  have hfree : ∀ y ∈ scope.names, y.2 = .free → ∃ c, X.env.cells.lookup y.1 = some c := fun y hy e => by
    rcases ok.free y hy e with k | k
    · exact I.ok.has _ (.inl k)
    · exact I.ok.has _ (.inr k)
  refine wpAny_comprehension_free (use := use) rfl hs (closure_ok hfree) ok.kind (fun y hy e => by rw [ok.uniq y hy, e])
    (thn (hi.run pins s σ H _ I h) fun xv s1 hx => thn hx fun itv s2 h2 => ?_)
  obtain ⟨it, fp, tn, J, H2, e, I2, T, st2, f2, q⟩ := h2
  subst e
  refine wpAny_newObj_type (newEnv_comp ?_)
  generalize hD : s2.heap.objs.size = D
  have hDn : H2 D = none := I2.hok.fresh (Nat.le_of_eq hD)
  generalize hs3 : ({ s2 with heap := s2.heap.push { cls := .type "dict", data := .dict #[] } } : Shared) = s3
  have h3 : s3.heap = s2.heap.push { cls := .type "dict", data := .dict #[] } := by rw [← hs3]
  have d0 : Dn0 X.prog X.w s3.heap D [] := by
    refine ⟨?_, Nat.zero_le _, [], .nil, { cls := .type "dict", data := .dict #[] }, #[], 0, ?_, ⟨rfl, rfl, rfl⟩, rfl, rfl, List.nodup_nil⟩
    · rw [← hD]
      exact beq_eq_false_iff_ne.mpr (Nat.ne_of_gt I2.big)
    · rw [h3, ← hD]
      exact Heap.get?_push_size _ rfl
  obtain ⟨N, W, w0, turn⟩ := q D (upd H2 D (DNO X.prog X.w D [])) (new_upd hDn d0) (dn_nil d0)
  have I3 : Inv X pins σ (upd H2 D (DNO X.prog X.w D [])) s3 := by
    rw [← hs3]
    refine I2.laid (t' := s2.toks) (fun b o e => Heap.get?_push_of_some _ e) (Nat.le_of_eq hD) ?_
    rw [← h3]
    exact dno_ok d0
  have f3 : ∀ b ∈ fp, FpOk X pins (upd H2 D (DNO X.prog X.w D [])) b ∧ b < s3.heap.objs.size := fun b hb => by
    obtain ⟨o, e, _⟩ := T.obj _ _ st2 b hb
    have hlt := Heap.lt_size e
    refine ⟨⟨?_, (f2 b hb).2⟩, by rw [h3, Heap.size_push]; exact Nat.lt_succ_of_lt hlt⟩
    rw [upd_ne (by rw [← hD]; exact Nat.ne_of_lt hlt)]
    exact (f2 b hb).1
  have st3 : tn 0 s3.heap := T.keep _ _ _ st2 fun b _ o e => by rw [h3]; exact Heap.get?_push_of_some _ e
  have I4 := block_start I3 ok hN f3
  have pk := hk s3 (upd H2 D (DNO X.prog X.w D [])) s3.heap.objs.size (cellsFrom (s3.heap.objs.size + 1) scope.names (cloFrom X.env.cells scope.names [])) fp
  have pv := hv s3 (upd H2 D (DNO X.prog X.w D [])) s3.heap.objs.size (cellsFrom (s3.heap.objs.size + 1) scope.names (cloFrom X.env.cells scope.names [])) fp
  have pga := hg s3 (upd H2 D (DNO X.prog X.w D [])) s3.heap.objs.size (cellsFrom (s3.heap.objs.size + 1) scope.names (cloFrom X.env.cells scope.names [])) fp
  have hsc : (compEnvC scope (cellsFrom (s3.heap.objs.size + 1) scope.names (cloFrom X.env.cells scope.names [])) s3.heap.objs.size X.env).locals = s3.heap.objs.size := rfl
  show codeAny _ _ (.compStart (.DictComp kx vx [⟨.Name x0 p0, i0, [], 0⟩] scope pos) 0 (.ref it) (.ref D) (compEnvC scope (cellsFrom (s3.heap.objs.size + 1) scope.names (cloFrom X.env.cells scope.names [])) s3.heap.objs.size X.env)) (compPost (model X.prog X.w) X.A X.xe use Qf (.ref D) s3.heap.objs.size) { s3 with heap := pushCells (s3.heap.push { cls := .type "dict", data := .dict #[] }) scope.names }
  generalize hce : compEnvC scope (cellsFrom (s3.heap.objs.size + 1) scope.names (cloFrom X.env.cells scope.names [])) s3.heap.objs.size X.env = ce at I4 pk pv pga hsc ⊢
  have nfp : ∀ b ∈ fp, (upd H2 D (DNO X.prog X.w D [])) b = none := fun b hb => (f3 b hb).1.1
  generalize hH3 : upd H2 D (DNO X.prog X.w D []) = H3 at I3 I4 pk pv pga w0 nfp f3
  generalize hs4 : ({ s3 with heap := pushCells (s3.heap.push { cls := .type "dict", data := .dict #[] }) scope.names } : Shared) = s4 at I4 ⊢
  have st4 : tn 0 s4.heap := T.keep _ _ _ st3 fun b _ o e => by rw [← hs4]; exact pushCells_keeps _ _ _ _ (Heap.get?_push_of_some _ e)
  generalize hσ : wipe σ (own.map (·.2)) = σ0 at I4 turn
  have len0 : σ0.length = X.N.length := by rw [← hσ, wipe_length]; exact I.len
  have free0 : σ0[a]? = some none := by
    have hil : a < σ0.length := by
      rw [len0]
      exact (List.getElem?_eq_some_iff.mp ha).1
    cases hq : σ0[a]? with
    | none => rw [List.getElem?_eq_none_iff] at hq; omega
    | some o =>
      cases o with
      | none => rfl
      | some v =>
        rw [← hσ] at hq
        exact absurd ho (wipe_some hq).2
  have fpB : ∀ {H' : Hp}, (∀ b ∈ fp, H' b = none) → ∀ b ∈ fp, FpOk (X.blk s3 H3 scope ce fp) [] H' b := fun {H'} hn b hb =>
    ⟨hn b hb, (I4.ok.exf b hb).1, I4.ok.exfs b hb, .inl hb, fun x c e => (I4.ok.exf b hb).2 x c e, fun p hp => absurd (show p ∈ ([] : List (Addr × Obj)) ++ [] from hp) (by simp)⟩
  have loop : codeAny (model X.prog X.w) X.A (.compLoop (.DictComp kx vx [⟨.Name x0 p0, i0, [], 0⟩] scope pos) 0 (.ref it) (.ref D) ce) (compPost (model X.prog X.w) X.A X.xe use Qf (.ref D) s3.heap.objs.size) s4 := by
    refine eachD (B := X.blk s3 H3 scope ce fp) (pl := []) (σ := σ0) (i := a) (N := N) (W := W) (We := fun H => Q (.ref D) H) hc rfl (compTurn_dict kx vx (.Name x0 p0) i0 [] scope pos (.ref it) D ce) T pga free0 fpB (fun j H w => ?_) (fun s' H' I' hq => ?_) s4 H3 I4 st4 nfp w0
    · rcases turn j H w with z | ⟨lt, go, step⟩
      · exact .inl z
      · refine .inr ⟨lt, go, fun y H' hy pl' s5 I5 => ?_⟩
        refine wpAny_bind (thnF (pk.run _ s5 _ H' _ I5 (step y H' hy)) fun z s6 ⟨yk, H6, I6, r6, q6⟩ => ?_)
        refine wpAny_bind (wpAny_holding (thnF (pv.run _ s6 _ H6 _ I6 q6) fun z2 s7 ⟨yv, H7, I7, r7, kvs, k, dn, hkd, hz, nx⟩ => ?_))
        refine wpAny_bind (wpAny_standAt (wpAny_holding ?_))
        obtain ⟨b, rfl⟩ := hkd.ref
        cases r6
        refine put_ok (X := X.blk s3 H3 scope ce fp) I7 dn hkd hz r7 (fun xs hsz D' g => wpAny_dictSet_heap (knd := kn X.prog X.w) (hsz := hsz) (by show X.A.units + 8 < cLine; omega) (hkd.is (X := X.blk s3 H3 scope ce fp) I7) D' fun h' D2 sb => g h' _ D2 sb) fun s' H8 I8 c8 d8 => ?_
        exact ⟨H8, I8, nx H8 c8 d8⟩
    · have I7 : Inv X pins σ H' s' := I3.call' (ch := fp) I'.os I'.base I'.hok I'.bare fun b hb => ⟨(f3 b hb).1.2.2.2.1, (f3 b hb).1.2.1, (f3 b hb).1.2.2.2.2.1, (f3 b hb).1.2.2.2.2.2⟩
      have nC : H' s3.heap.objs.size = none := by
        have z : H' ce.locals = none := I'.free
        rw [hsc] at z
        exact z
      obtain ⟨m, hn, _⟩ := I'.loc
      have hn : s'.heap.Ns ce.locals m := hn
      rw [hsc] at hn
      exact fin D s3.heap.objs.size s' m H' I7 hq hn (I3.fpOk (Nat.le_refl _) nC)
  exact codeAny_compStart_dict loop (T.self X.A 0 _ _ _ st4 loop)
theorem pe_dcN {kx vx i0 : Expr} {x0 : Str} {p0 pos : Pos} {scope : Scope} {own : List (Str × Nat)} {wi : TI} {tk tv : TE} {a : Nat} (hc : X.calm = true) (hN : X.N.Nodup) (hu : X.A.units + 64 < cLine) (ok : BlkOk X.N X.env.scope scope own)
    (ha : X.N[a]? = some x0) (ho : a ∈ own.map (·.2)) (hi : PI X (.Name x0 p0) i0 wi)
    (hg : ∀ (s : Shared) (H : Hp) (C : Addr) (cl : List (Str × Addr)) (fp : List Addr), PG (X.blk s H scope (compEnvC scope cl C X.env) fp) (.Name x0 p0) (gName a))
    (hk : ∀ (s : Shared) (H : Hp) (C : Addr) (cl : List (Str × Addr)) (fp : List Addr), PE (X.blk s H scope (compEnvC scope cl C X.env) fp) kx tk)
    (hv : ∀ (s : Shared) (H : Hp) (C : Addr) (cl : List (Str × Addr)) (fp : List Addr), PE (X.blk s H scope (compEnvC scope cl C X.env) fp) vx tv)
    (hs : ∀ x, foldedSetIterable i0 X.env x = pure x := by intro _; rfl) :
    PE X (.DictComp kx vx [⟨.Name x0 p0, i0, [], 0⟩] scope pos) (tDcN X.K X.prog X.w wi tk tv (own.map (·.2)) a) := by
  refine ⟨fun pins s σ H Q I h => ?_⟩
  rw [arm_eval_DictComp]
  refine dcN_core hc hN hu ok ha ho hi hg hk hv hs I h fun D C s' m H' J q hn f => ⟨m, hn, fun h'' sb => ?_⟩
  obtain ⟨f0, f1, f2, f3, f4, f5⟩ := f
  exact ⟨.ref D, H', J.turned (t' := s'.toks) (fun b o hb e => (sb.2 b hb).trans e) f0 f1 f3 f4 f5, rfl, q⟩
/-- y = {k: v for x in xs}, y a local, on one line -/
theorem ps_setDcN {i : Nat} {y : Str} {py spos : Pos} {kx vx i0 : Expr} {x0 : Str} {p0 pos : Pos} {scope : Scope} {own : List (Str × Nat)} {wi : TI} {tk tv : TE} {a : Nat} (hc : X.calm = true) (hN : X.N.Nodup) (hu : X.A.units + 64 < cLine) (ok : BlkOk X.N X.env.scope scope own)
    (ha : X.N[a]? = some x0) (ho : a ∈ own.map (·.2)) (hi : PI X (.Name x0 p0) i0 wi)
    (hg : ∀ (s : Shared) (H : Hp) (C : Addr) (cl : List (Str × Addr)) (fp : List Addr), PG (X.blk s H scope (compEnvC scope cl C X.env) fp) (.Name x0 p0) (gName a))
    (hk : ∀ (s : Shared) (H : Hp) (C : Addr) (cl : List (Str × Addr)) (fp : List Addr), PE (X.blk s H scope (compEnvC scope cl C X.env) fp) kx tk)
    (hv : ∀ (s : Shared) (H : Hp) (C : Addr) (cl : List (Str × Addr)) (fp : List Addr), PE (X.blk s H scope (compEnvC scope cl C X.env) fp) vx tv)
    (hy : X.N[i]? = some y) (hyl : X.env.scope.names.lookup y = some .local) (hsw : swapsWith (.DictComp kx vx [⟨.Name x0 p0, i0, [], 0⟩] scope pos) (some (.Name y py)) spos.line X.env = pure true) (hs : ∀ x, foldedSetIterable i0 X.env x = pure x := by intro _; rfl) :
    PS X (.Assign [.Name y py] (.DictComp kx vx [⟨.Name x0 p0, i0, [], 0⟩] scope pos) spos) (tAsg (tDcN X.K X.prog X.w wi tk tv (own.map (·.2)) a) (gName i)) := by
  refine ⟨fun pins s σ H D I h => ?_⟩
  rw [exec_Assign_Name_used _ _ _ _ hsw]
  refine wpAny_bind (wpAny_standAt (wpAny_bind ?_))
  show wpAny _ X.A (do let _ ← comprehension (.DictComp kx vx [⟨.Name x0 p0, i0, [], 0⟩] scope pos) scope X.env (firstIterPos [⟨.Name x0 p0, i0, [], 0⟩] pos) newDict false (eval i0 X.env) (some (assign (.Name y py) X.env))) _ _ s
  have h : tDcN X.K X.prog X.w wi tk tv (own.map (·.2)) a σ H (fun x H1 => gName i x σ H1 D.nx) := h
  refine wpAny_bind (thn (dcN_core (Qf := fun _ s' => SP X pins D .next s') hc hN hu ok ha ho hi hg hk hv hs I h fun L C s' m H' J q hn f => ?_) fun _ s' hq => wpAny_pure (wpAny_pure hq))
  show wpAny _ _ (assign (.Name y py) X.env (.ref L)) _ _ _
  refine wpAny_assign_Name (store_ok2 (v := V.ref L) J hN hy (.inl hyl) rfl (fun s2 I2 ⟨c, sb, hc2⟩ => ?_) (.inr hyl))
  obtain ⟨f0, f1, f2, f3, f4, f5⟩ := f
  have apart : C ≠ c := by
    rcases hc2 with z | z
    · rw [z]; exact f1
    · exact fun e => f4 y c z e.symm
  refine ⟨m, hn.sameBut sb apart, fun h3 sb3 => ?_⟩
  exact ⟨_, H', I2.turned (t' := s2.toks) (fun b o hb e => (sb3.2 b hb).trans e) f0 f1 f3 f4 f5, q⟩
theorem swD {kx vx : Expr} {gs : List Comprehension} {scope : Scope} {pos py : Pos} {y : Str} {l : Nat} {env : Env} (hk : env.scope.kind = .function) (hy : env.scope.names.lookup y = some .local) (hl : (py.line == pos.line) = true)
    (hn : (scope.names.any fun (n, k) => n == y && (k == .local || k == .cell)) = false) : swapsWith (.DictComp kx vx gs scope pos) (some (.Name y py)) l env = pure true := by
  have k1 : env.kindOf y = some .local := hy
  have k2 : env.blockKind = .function := by unfold Env.blockKind; rw [hk]; rfl
  unfold swapsWith
  simp only [k1, k2, hn, Expr.pos, hl]
  rfl
end
end GD
end

section
set_option Elab.async false
set_option linter.all false
set_option maxRecDepth 100000
set_option maxHeartbeats 2000000
/-! dict(pairs), the keys of any depth, each once. -/
namespace GD
open PySem PySem.Spec PyProof.Rows L2
abbrev PRow := Addr × RowV
theorem stored_fresh : ∀ {ps xs : List RowV}, ((xs ++ ps).map (·.1)).Nodup → storedAllH xs ps = xs ++ ps
  | [], xs, _ => by rw [List.append_nil]; rfl
  | p :: ps, xs, h => by
    have hn : atKey xs p.1 = none := by
      unfold atKey
      rw [Option.map_eq_none_iff, List.find?_eq_none]
      intro x hx e
      have e : x.1 = p.1 := of_decide_eq_true e
      rw [List.map_append, List.nodup_append] at h
      exact h.2.2 x.1 (List.mem_map.mpr ⟨x, hx, rfl⟩) p.1 (by simp) e
    show storedAllH (storedH xs p.1 p.2.1 p.2.2) ps = _
    rw [storedH_new hn]
    have e : xs ++ p :: ps = (xs ++ [p]) ++ ps := by simp
    rw [e] at h ⊢
    exact stored_fresh h
/-- pairs of a key and a value -/
def PairsD (K : PySem.W.Frag) (H : Hp) (vs : List V) (kvs : List (NestedKey × V)) : Prop := Paired (fun v (p : NestedKey × V) => ∃ t b, v = .ref t ∧ SqT K H t [.ref b, p.2] ∧ KeyD K H (.ref b) p.1) vs kvs
section
variable {X : Cx} {pins : List (Addr × Obj)} {σ : L2.St} {H : Hp} {s : Shared}
theorem pairs_open (I : Inv X pins σ H s) : ∀ {vs : List V} {kvs : List (NestedKey × V)} {its : List Value}, PairsD X.K H vs kvs → Vals vs its → ∃ (rows : List PRow) (L : List Row), its = rows.map (fun r => Value.ref r.1) ∧ Paired RelE L (rows.map (·.2)) ∧ (L.map fun p => (p.1, p.2.2)) = kvs ∧
    (∀ p ∈ L, KeyD X.K H (.ref p.2.1) p.1) ∧ ∀ r ∈ rows, PairAt s.heap r.1 (.ref r.2.2.1) r.2.2.2
  | _, _, _, .nil, .nil => ⟨[], [], rfl, .nil, rfl, fun p hp => (by cases hp), fun r hr => (by cases hr)⟩
  | _, p :: kvs, _, .cons ⟨t, b, e, hs, hk⟩ ps, .cons r rs => by
    subst e
    cases r
    obtain ⟨rows, L, e1, e2, e3, e4, e5⟩ := pairs_open I ps rs
    obtain ⟨its, rv, pl, _⟩ := I.tuple hs
    cases rv with
    | cons r1 rv =>
      cases rv with
      | cons r2 rv =>
        cases rv
        cases r1
        refine ⟨(t, p.1, b, _) :: rows, (p.1, b, p.2) :: L, by rw [e1]; rfl, .cons ⟨rfl, rfl, r2⟩ e2, by rw [← e3]; rfl, fun q hq => ?_, fun q hq => ?_⟩
        · rcases List.mem_cons.mp hq with z | z
          · rw [z]; exact hk
          · exact e4 q z
        · rcases List.mem_cons.mp hq with z | z
          · rw [z]; exact .inl pl
          · exact e5 q z
mutual
theorem knew {K : PySem.W.Frag} {a : Addr} {o : HO} (n : H a = none) : ∀ (k : NestedKey) {v : V}, Dp K H v k.data → Dp K (upd H a o) v k.data
  | .none, v, h => by simp only [NestedKey.data] at h ⊢; cases h; exact .non
  | .num i, v, h => by simp only [NestedKey.data] at h ⊢; cases h; exact .int i
  | .text x, v, h => by simp only [NestedKey.data] at h ⊢; cases h; exact .str x
  | .tup ks, v, h => by
    simp only [NestedKey.data] at h ⊢
    cases h with
    | tup hs ha =>
      refine .tup ?_ (knews n ks ha)
      rcases hs with (h | ⟨o, h⟩) | h
      · exact .inl (.inl (by rw [upd_ne (ne_of_none h n)]; exact h))
      · exact .inl (.inr ⟨o, by rw [upd_ne (ne_of_none h n)]; exact h⟩)
      · exact .inr h
theorem knews {K : PySem.W.Frag} {a : Addr} {o : HO} (n : H a = none) : ∀ (ks : List NestedKey) {vs : List V}, DpAll K H vs (NestedKey.datas ks) → DpAll K (upd H a o) vs (NestedKey.datas ks)
  | [], vs, h => by simp only [NestedKey.datas] at h ⊢; cases h; exact .nil
  | k :: ks, vs, h => by
    simp only [NestedKey.datas] at h ⊢
    cases h with
    | cons h1 h2 => exact .cons (knew n k h1) (knews n ks h2)
end
theorem key_new {K : PySem.W.Frag} {a : Addr} {o : HO} {v : V} {k : NestedKey} (n : H a = none) (h : KeyD K H v k) : KeyD K (upd H a o) v k := ⟨knew n k h.1, h.2⟩
def rDictN (K : PySem.W.Frag) (P : Program) (w : World) : List V → Hp → VK → Prop := fun xs H Q => ∃ (a : Addr) (vs : List V) (kvs : List (NestedKey × V)), xs = [.ref a] ∧ SqL K H a vs ∧ PairsD K H vs kvs ∧ (kvs.map (·.1)).Nodup ∧ ∀ D H', New H H' D → DN K P w H' D kvs → Q (.ref D) H'
theorem rows_fst : ∀ {L : List Row} {xs : List RowV}, Paired RelE L xs → L.map (·.1) = xs.map (·.1)
  | _, _, .nil => rfl
  | _, _, .cons r t => by rw [List.map_cons, List.map_cons, r.1, rows_fst t]
theorem call_dictN (hc : X.calm = true) (hu : X.A.units + 64 < cLine) : CallR X (.type "dict") (rDictN X.K X.prog X.w) := by
  intro pins s σ H xs us Q I r h
  obtain ⟨a, vs, kvs, rfl, hs, hp, hn, q⟩ := h
  obtain ⟨u, rfl, ru⟩ := vals1 r
  cases ru
  obtain ⟨its, rv, pl, hz⟩ := I.list hs
  obtain ⟨rows, L, e1, e2, e3, e4, e5⟩ := pairs_open I hp rv
  subst e1
  have hlen : rows.length = vs.length := by have := rv.length; rw [List.length_map] at this; exact this.symm
  have nd : ((rows.map (·.2)).map (·.1)).Nodup := by
    rw [← rows_fst e2]
    have := hn
    rw [← e3, List.map_map] at this
    exact this
  refine call_dict_pairsH (knd := kn X.prog X.w) (ps := rows.map (·.2)) (PairArg.list a (rows.map fun r => Value.ref r.1).toArray (fun j => ((rows[j]?).map (·.1)).getD 0) (rows.map fun r => (Value.ref r.2.2.1, r.2.2.2))) (I.ok.hd hc) (by show X.A.units + 1 + 1 + 8 < cLine; omega) ⟨?pl, ?it⟩ ?hv ?st ?sz fun h' tk D' keep => ?fin
  case pl =>
    obtain ⟨o, n, x1, x2, x3, x4⟩ := pl
    exact ⟨o, n, x1, x2, x3, x4⟩
  case it =>
    refine ⟨by simp, fun j k v hj => ?_⟩
    rw [List.getElem?_map] at hj
    cases hr : rows[j]? with
    | none => rw [hr] at hj; cases hj
    | some r =>
      rw [hr] at hj
      cases hj
      refine ⟨by simp [hr], ?_⟩
      show PairAt s.heap (((rows[j]?).map (·.1)).getD 0) _ _
      rw [hr]
      exact e5 r (List.mem_of_getElem? hr)
  case hv =>
    refine ⟨by simp, fun i key v hi => ?_⟩
    have hi : (rows.map fun r => (Value.ref r.2.2.1, r.2.2.2))[i]? = some (key, v) := hi
    rw [List.getElem?_map] at hi
    cases hr : rows[i]? with
    | none => rw [hr] at hi; cases hi
    | some r =>
      rw [hr] at hi
      cases hi
      exact ⟨r.2.1, r.2.2.1, by rw [List.getElem?_map, hr]; rfl, rfl⟩
  case st =>
    intro h' keep x hx
    refine nestedKind_stays.stays (fun b o _ _ e _ => keep b o (Nat.ne_of_lt (Heap.lt_size e)) (by simp) e) ((rows_keys e2 e4 x hx).is I)
  case sz => rw [List.length_map]; omega
  case fin =>
    have es : storedAllH [] (rows.map (·.2)) = rows.map (·.2) := stored_fresh (xs := []) (by rw [List.nil_append]; exact nd)
    rw [es] at D'
    obtain ⟨o, en, ep, h1, h2, h3, h4, _, h5⟩ := D'
    have hl := rows_len e2
    rw [List.length_map] at hl
    have d0 : Dn0 X.prog X.w h' s.heap.objs.size L := ⟨beq_eq_false_iff_ne.mpr (Nat.ne_of_gt I.big), by omega, _, e2, o, en, ep, h1, h2, h3, h4, h5⟩
    have hf : H s.heap.objs.size = none := I.hok.fresh (Nat.le_refl _)
    refine ⟨.ref s.heap.objs.size, _, I.laid (t' := tk) (fun b o e => keep b o (by simp) e) (Nat.le_refl _) (dno_ok d0), rfl, q _ _ (new_upd hf d0) (.mk0 upd_same e3 (fun p hp => ?_) fun q z => ?_)⟩
    · exact key_new hf (e4 p hp)
    · rw [upd_same] at z
      exact not_code d0 q (Option.some.inj z)
end
end GD
end

section
set_option Elab.async false
set_option linter.all false
set_option maxRecDepth 100000
set_option maxHeartbeats 4000000
/-! dicts by cells -/
namespace LP
open PySem PySem.Spec PyProof.Rows L2 Ly GY
section
variable [LamTab] {P : Program} {W0 : World} {K : PySem.W.Frag} {S : List Addr} {H H' H1 H2 : Hp} {a : Addr}
theorem Kp.chgN (c : GD.Chg H H' a) (m : a ∈ S) : Kp S H H' := by
  obtain ⟨φ, was⟩ := c.was
  obtain ⟨ψ, now⟩ := c.now
  have eq : ∀ u, H a = some u → u = .ext φ := fun u z => by
    rw [was] at z
    exact (Option.some.inj z).symm
  exact Kp.but c.but (by rw [now]; exact fun z => by cases z) (fun u z => .inl m) (fun xs z => by cases eq _ z) (fun _ _ z => by cases eq _ z) c.nc (fun ⟨⟨ps, q1, _⟩, _⟩ => by cases eq _ q1) fun ps z => by cases eq _ z
theorem Kp.newN (n : GD.New H H' a) : Kp S H H' := by
  obtain ⟨ψ, now⟩ := n.now
  have no : ∀ u, H a ≠ some u := fun u z => by rw [n.free] at z; cases z
  exact Kp.but n.but (by rw [now]; exact fun z => by cases z) (fun u z => absurd z (no u)) (fun xs => no _) (fun _ _ => no _) (fun _ => no _) (fun ⟨⟨ps, q1, _⟩, _⟩ => absurd q1 (no _)) fun ps z => absurd z (no _)
theorem Kp.chgN0 (k : Kp S H H1) (h : H a = none) (c : GD.Chg H1 H2 a) : Kp S H H2 := k.off h (Kp.chgN c List.mem_cons_self)
mutual
theorem noL_k : ∀ k : NestedKey, noL k.data = true
  | .none => by simp only [NestedKey.data]; rfl
  | .num _ => by simp only [NestedKey.data]; rfl
  | .text _ => by simp only [NestedKey.data]; rfl
  | .tup ks => by simp only [NestedKey.data]; unfold noL; exact noL_ks ks
theorem noL_ks : ∀ ks : List NestedKey, noLs (NestedKey.datas ks) = true
  | [] => by simp only [NestedKey.datas]; rfl
  | k :: ks => by
    simp only [NestedKey.datas]
    unfold noLs
    rw [noL_k k, noL_ks ks]
    rfl
end
theorem key_mono {v : V} {k : NestedKey} (kp : Kp S H H') (h : GD.KeyD K H v k) : GD.KeyD K H' v k := ⟨dp_keep kp (noL_k k) h.1, h.2⟩
theorem dn_mono {kvs : List (NestedKey × V)} (k : Kp S H H') (n : a ∉ S) (d : GD.DN K P W0 H a kvs) : GD.DN K P W0 H' a kvs := by
  obtain ⟨φ, L, e, hφ, ek, hk, nc⟩ := d
  have e' := k.keep a _ e n fun ps z => by cases z
  exact ⟨φ, L, e', hφ, ek, fun p hp => key_mono k (hk p hp), fun q z => nc q (by rw [e, ← e', z])⟩
/-! ### a reading goes on with more -/
def MonE (t : TE) : Prop := ∀ σ H (Q Q' : V → Hp → Prop), (∀ v H1, Q v H1 → Q' v H1) → t σ H Q → t σ H Q'
def MonA (t : TA) : Prop := ∀ σ H (Q Q' : List V → Hp → Prop), (∀ v H1, Q v H1 → Q' v H1) → t σ H Q → t σ H Q'
def MonT (t : TT) : Prop := ∀ σ H (Q Q' : Bool → Hp → Prop), (∀ b H1, Q b H1 → Q' b H1) → t σ H Q → t σ H Q'
def MonR (r : R2) : Prop := ∀ x y H (Q Q' : V → Hp → Prop), (∀ v H1, Q v H1 → Q' v H1) → r x y H Q → r x y H Q'
theorem mon_var (i : Nat) : MonE (tVar i) := fun _ _ _ _ h ⟨v, e, q⟩ => ⟨v, e, h _ _ q⟩
theorem mon_c (v : V) : MonE (tC v) := fun _ _ _ _ h q => h _ _ q
theorem mon_op {r : R2} {a b : TE} (hr : MonR r) (ha : MonE a) (hb : MonE b) : MonE (tOp r a b) := fun σ H Q Q' h q => ha σ H _ _ (fun x H1 q1 => hb σ H1 _ _ (fun y H2 q2 => hr x y H2 _ _ h q2) q1) q
theorem mon_nil : MonA tNil := fun _ _ _ _ h q => h _ _ q
theorem mon_cons {a : TE} {t : TA} (ha : MonE a) (ht : MonA t) : MonA (tCons a t) := fun σ H Q Q' h q => ha σ H _ _ (fun x H1 q1 => ht σ H1 _ _ (fun xs H2 q2 => h _ _ q2) q1) q
theorem mon_tup {t : TA} (ht : MonA t) : MonE (tTup t) := fun σ H Q Q' h q => ht σ H _ _ (fun xs H1 ⟨z, q1⟩ => ⟨z, fun p hp => h _ _ (q1 p hp)⟩) q
theorem mon_test {t : TE} (ht : MonE t) : MonT (tTest t) := fun σ H Q Q' h q => ht σ H _ _ (fun x H1 ⟨k, e, q1⟩ => ⟨k, e, h _ _ q1⟩) q
theorem mon_and {t u : TT} (ht : MonT t) (hu : MonT u) : MonT (tAnd t u) := fun σ H Q Q' h q => ht σ H _ _ (fun c H1 q1 => by
  cases c with
  | true => exact iteT (hu σ H1 _ _ h (by simpa using q1))
  | false => exact iteF (h _ _ (by simpa using q1))) q
theorem mon_rI0 (g : Int → Int → V) : MonR (rI0 g) := fun _ _ _ _ _ h ⟨i, j, e1, e2, q⟩ => ⟨i, j, e1, e2, h _ _ q⟩
theorem mon_rInD (K : PySem.W.Frag) : MonR (rInD K) := fun _ _ _ _ _ h ⟨d, ds, h1, h2, h3, h4, q⟩ => ⟨d, ds, h1, h2, h3, h4, h _ _ q⟩
theorem mon_rNotInD (K : PySem.W.Frag) : MonR (rNotInD K) := fun _ _ _ _ _ h ⟨d, ds, h1, h2, h3, h4, q⟩ => ⟨d, ds, h1, h2, h3, h4, h _ _ q⟩
/-! ### keyed by cells -/
def kC (c : C3) : NestedKey := .tup [.num c.1, .num c.2.1, .num c.2.2]
theorem kC_data (c : C3) : (kC c).data = cD c := by simp [kC, NestedKey.data, NestedKey.datas, cD]
theorem kC_inj {c d : C3} (h : kC c = kC d) : c = d := by
  unfold kC at h
  injection h with h
  injection h with h1 h
  injection h with h2 h
  injection h with h3 h
  injection h1 with h1
  injection h2 with h2
  injection h3 with h3
  exact c3_ext h1 h2 h3
theorem keyD_c {v : V} {c : C3} (h : Dp K H v (cD c)) : GD.KeyD K H v (kC c) := ⟨by rw [kC_data]; exact h, by show NestedKey.depth (kC c) ≤ 8; simp [kC, NestedKey.depth, NestedKey.depthAll], _, rfl⟩
def kvs (cs : List C3) (w : C3 → V) : List (NestedKey × V) := cs.map fun c => (kC c, w c)
theorem valN_kvs (cs : List C3) (w : C3 → V) (d : C3) : GD.valN (kvs cs w) (kC d) = if d ∈ cs then some (w d) else none := by
  induction cs with
  | nil => rfl
  | cons c cs ih =>
    unfold GD.valN kvs at ih ⊢
    rw [List.map_cons, List.find?_cons]
    by_cases e : c = d
    · subst e
      simp
    · have e' : ¬ kC c = kC d := fun z => e (kC_inj z)
      simp only [e', decide_false]
      rw [ih]
      have e2 : ¬ d = c := fun z => e z.symm
      simp [e2]
theorem putN_old {cs : List C3} {w : C3 → V} {d : C3} {v : V} (h : d ∈ cs) : GD.putN (kvs cs w) (kC d) v = kvs cs (wset w d v) := by
  unfold GD.putN
  rw [valN_kvs, if_pos h, if_pos (by rfl)]
  unfold kvs
  rw [List.map_map]
  refine List.map_congr_left fun c _ => ?_
  show (if kC c = kC d then (kC c, v) else (kC c, w c)) = (kC c, wset w d v c)
  by_cases e : c = d
  · rw [if_pos (by rw [e]), e, wset_same]
  · rw [if_neg (fun z => e (kC_inj z)), wset_ne e]
theorem putN_new {cs : List C3} {w : C3 → V} {d : C3} (h : d ∉ cs) : GD.putN (kvs cs w) (kC d) (w d) = kvs (cs ++ [d]) w := by
  unfold GD.putN
  rw [valN_kvs, if_neg h, if_neg (by decide)]
  unfold kvs
  rw [List.map_append]
  rfl
theorem kvs_len (cs : List C3) (w : C3 → V) : (kvs cs w).length = cs.length := by unfold kvs; rw [List.length_map]
theorem kvs_congr {cs : List C3} {w w' : C3 → V} (h : ∀ c ∈ cs, w c = w' c) : kvs cs w = kvs cs w' := List.map_congr_left fun c hc => by rw [h c hc]
end
end LP
end

section
set_option Elab.async false
set_option linter.all false
set_option maxRecDepth 100000
set_option maxHeartbeats 4000000
/-! check_reach, beside, _is_carried, _fill_under, fill -/
namespace LP
open PySem PySem.Spec PyProof.Rows L2 Ly GY
variable [LamTab] {P : Program} {W0 : World} {K : PySem.W.Frag} {mg : Str → Option Value} {base : Heap}
/-- names that hanging takes besides -/
structure Nh (K : PySem.W.Frag) (mg : Str → Option Value) : Prop where
  far : ∃ t, mg "FARTHEST" = some (.int 2 t)
  sum : mg "sum" = none
  enumerate : mg "enumerate" = none
  dict : mg "dict" = none
/-! ### check_reach -/
def spChkR (C : Addr) : Sp := fun vs H Q E => ∃ z : Int, vs = [.int z] ∧ ((0 ≤ z ∧ z ≤ 2) → Q .non H) ∧ (¬ (0 ≤ z ∧ z ≤ 2) → E (.ref C) none H)
theorem scChkR : FnScope ["reach"] ["reach"] (defScope sChkR) := ⟨rfl, rfl, rfl, by decide +kernel, rfl, by decide +kernel, by decide +kernel⟩
theorem ok_chkr {f C fN : Addr} {fd dN : FuncData} (F : Fun K "check_reach" "check_reach" sChkR f fd) (U : Nh K mg) (X : Ex K mg "BadReach" C)
    (NN : Fn K mg "is_number" fN dN ["value", "low", "high"]) (GN : FnOk P W0 K mg base CX0 1 fN dN ["value", "low", "high"] spNum) : FnOk P W0 K mg base (L2.CX P W0) 2 f fd ["reach"] (spChkR C) := by
  obtain ⟨tl, mL⟩ := U.far
  refine F.okX scChkR (fun vs H Q E h => ?_) (fun cdv A outer s H vs Q E hr h => ?_)
  · obtain ⟨z, rfl, _⟩ := h
    rfl
  · obtain ⟨z, rfl, q1, q2⟩ := h
    refine ⟨_, pss_one (ps_if (pt_not (pt_val (pe_call GN hr (by rfl) NN.m NN.kp NN.b .nil pass0 (pa_cons (pv 0) (pa_cons pe_int (pa_cons (pe_glob (v := .int 2) rfl mL ⟨_, rfl⟩) pa_nil))))))
        (pss_one (ps_raise rfl (takes_of rfl rfl rfl rfl) (pmk_own PySem.F.excBase_ValueError X.x X.g X.k (raises_own X.b X.t) rfl))) pss_nil), ?_⟩
    refine ⟨_, rfl, z, 0, 2, rfl, _, rfl, ?_⟩
    cases e : btw 0 2 z with
    | false =>
      refine iteT (q2 fun z' => ?_)
      rw [btw_iff.mpr z'] at e
      cases e
    | true => exact iteF (q1 (btw_iff.mp e))
/-! ### beside -/
def spBeside (K : PySem.W.Frag) : Sp := fun vs H Q _ => ∃ (v : V) (c : C3), vs = [v] ∧ Dp K H v (cD c) ∧ ∀ (H' : Hp) (r : Addr) (ys : List V), Kp [] H H' → H r = none → H' r = some (.lst ys) → Items K H' ys (nb4 c) → Q (.ref r) H'
theorem scBeside : FnScope ["cell", "x", "y", "z"] ["cell"] (defScope sBeside) := ⟨rfl, rfl, rfl, by decide +kernel, rfl, by decide +kernel, by decide +kernel⟩
theorem ok_beside {f : Addr} {fd : FuncData} (F : Fun K "beside" "beside" sBeside f fd) : FnOk P W0 K mg base CX0 1 f fd ["cell"] (spBeside K) := by
  refine F.ok scBeside (fun vs H Q E h => ?_) (fun cdv A outer s H vs Q E hr h => ?_)
  · obtain ⟨v, c, rfl, _⟩ := h
    rfl
  · obtain ⟨v, c, rfl, hc, q⟩ := h
    refine ⟨_, pss_cons (ps_asg (pv 0) (pg_tup rfl (pgs_cons (pg_name (i := 1) scBeside.nd rfl (.inl rfl)) (pgs_cons (pg_name (i := 2) scBeside.nd rfl (.inl rfl)) (pgs_cons (pg_name (i := 3) scBeside.nd rfl (.inl rfl)) pgs_nil)))))
      (pss_one (ps_ret (pe_lst (pa_cons (pe_tup (pa_cons (pe_op op_sub (pv 1) pe_int) (pa_cons (pv 2) (pa_cons (pv 3) pa_nil)))) (pa_cons (pe_tup (pa_cons (pv 1) (pa_cons (pe_op op_sub (pv 2) pe_int) (pa_cons (pv 3) pa_nil))))
        (pa_cons (pe_tup (pa_cons (pv 1) (pa_cons (pe_op op_add (pv 2) pe_int) (pa_cons (pv 3) pa_nil)))) (pa_cons (pe_tup (pa_cons (pe_op op_add (pv 1) pe_int) (pa_cons (pv 2) (pa_cons (pv 3) pa_nil)))) pa_nil))))))), ?_⟩
    obtain ⟨pc, rfl, hT⟩ := of_dp_c hc
    refine ⟨_, rfl, pc, _, rfl, hT, rfl, _, _, rfl, _, _, rfl, _, _, rfl, rfl, ?_⟩
    refine ⟨_, rfl, _, _, rfl, rfl, _, rfl, _, rfl, (by show 3 ≤ sizeLine; decide), fun t1 h1 => ?_⟩
    refine ⟨_, rfl, _, rfl, _, _, rfl, rfl, _, rfl, (by show 3 ≤ sizeLine; decide), fun t2 h2 => ?_⟩
    refine ⟨_, rfl, _, rfl, _, _, rfl, rfl, _, rfl, (by show 3 ≤ sizeLine; decide), fun t3 h3 => ?_⟩
    refine ⟨_, rfl, _, _, rfl, rfl, _, rfl, _, rfl, (by show 3 ≤ sizeLine; decide), fun t4 h4 => ?_⟩
    refine ⟨(by show 4 ≤ sizeLine; decide), fun r hr' => ?_⟩
    have k1 := Kp.new (S := []) (o := .tup [.int (c.1 - 1), .int c.2.1, .int c.2.2]) h1
    have k2 := Kp.new (S := []) (o := .tup [.int c.1, .int (c.2.1 - 1), .int c.2.2]) h2
    have k3 := Kp.new (S := []) (o := .tup [.int c.1, .int (c.2.1 + 1), .int c.2.2]) h3
    have k4 := Kp.new (S := []) (o := .tup [.int (c.1 + 1), .int c.2.1, .int c.2.2]) h4
    have k5 := Kp.new (S := []) (o := .lst [.ref t1, .ref t2, .ref t3, .ref t4]) hr'
    have s1 := k5.sqT (k4.sqT (k3.sqT (k2.sqT (SqT.of (K := K) (upd_same (H := H) (a := t1))))))
    have s2 := k5.sqT (k4.sqT (k3.sqT (SqT.of (K := K) (upd_same (a := t2)))))
    have s3 := k5.sqT (k4.sqT (SqT.of (K := K) (upd_same (a := t3))))
    have s4 := k5.sqT (SqT.of (K := K) (upd_same (a := t4)))
    refine q _ r [.ref t1, .ref t2, .ref t3, .ref t4] ((((k1.trans k2).trans k3).trans k4).trans k5) ((((k1.trans k2).trans k3).trans k4).free r hr') upd_same ?_
    exact .cons (dp_c (c := (c.1 - 1, c.2.1, c.2.2)) s1) (.cons (dp_c (c := (c.1, c.2.1 - 1, c.2.2)) s2) (.cons (dp_c (c := (c.1, c.2.1 + 1, c.2.2)) s3) (.cons (dp_c (c := (c.1 + 1, c.2.1, c.2.2)) s4) .nil)))
/-! ### _is_carried -/
def carried (cs : List C3) (c : C3) : Bool := decide (c.2.2 = 0) || decide ((c.1, c.2.1, c.2.2 - 1) ∈ cs)
def spCarried (K : PySem.W.Frag) : Sp := fun vs H Q _ => ∃ (u v : V) (cs : List C3) (c : C3), vs = [u, v] ∧ CellsL K H u cs ∧ Dp K H v (cD c) ∧ ∀ H', Kp [] H H' → Q (.bl (carried cs c)) H'
theorem scCarried : FnScope ["held", "cell", "x", "y", "z"] ["held", "cell"] (defScope sCarried) := ⟨rfl, rfl, rfl, by decide +kernel, rfl, by decide +kernel, by decide +kernel⟩
theorem ok_carried {f : Addr} {fd : FuncData} (F : Fun K "_is_carried" "_is_carried" sCarried f fd) : FnOk P W0 K mg base CX0 1 f fd ["held", "cell"] (spCarried K) := by
  refine F.ok scCarried (fun vs H Q E h => ?_) (fun cdv A outer s H vs Q E hr h => ?_)
  · obtain ⟨u, v, cs, c, rfl, _⟩ := h
    rfl
  · obtain ⟨u, v, cs, c, rfl, hu, hc, q⟩ := h
    refine ⟨_, pss_cons (ps_asg (pv 1) (pg_tup rfl (pgs_cons (pg_name (i := 2) scCarried.nd rfl (.inl rfl)) (pgs_cons (pg_name (i := 3) scCarried.nd rfl (.inl rfl)) (pgs_cons (pg_name (i := 4) scCarried.nd rfl (.inl rfl)) pgs_nil)))))
      (pss_one (ps_ret (pe_or (pe_cmpR op_eq (pv 4) pe_int (nomark _)) (pe_one (pe_cmpR (r := rInD K) (op_inD (u65 hr)) (pe_tup (pa_cons (pv 2) (pa_cons (pv 3) (pa_cons (pe_op op_sub (pv 4) pe_int) pa_nil)))) (pv 0) (by rfl)))))), ?_⟩
    obtain ⟨pc, rfl, hT⟩ := of_dp_c hc
    refine ⟨_, rfl, pc, _, rfl, hT, rfl, _, _, rfl, _, _, rfl, _, _, rfl, rfl, ?_⟩
    refine ⟨_, rfl, rfl, _, rfl, ?_⟩
    have e : carried cs c = (decide (c.2.2 = 0) || decide ((c.1, c.2.1, c.2.2 - 1) ∈ cs)) := rfl
    rw [e] at q
    have ez : decide (V.int c.2.2 = V.int 0) = decide (c.2.2 = 0) := by
      by_cases z : c.2.2 = 0
      · rw [decide_eq_true z, decide_eq_true (by rw [z])]
      · rw [decide_eq_false z, decide_eq_false (fun y => z (V.int.inj y))]
    rw [ez]
    cases hz : decide (c.2.2 = 0) with
    | true =>
      rw [hz] at q
      exact iteT (q H (Kp.refl _ _))
    | false =>
      rw [hz] at q
      refine iteF ⟨_, rfl, _, rfl, _, rfl, _, _, rfl, rfl, (by show 3 ≤ sizeLine; decide), fun t ht => ?_⟩
      have kt := Kp.new (S := []) (o := .tup [.int c.1, .int c.2.1, .int (c.2.2 - 1)]) ht
      refine ⟨_, rfl, cD (c.1, c.2.1, c.2.2 - 1), cs.map cD, dp_c (SqT.of upd_same), cellsL_mono kt hu, cD_shaped _, cDs_shapedL cs, ?_⟩
      rw [any_eqv]
      exact q _ kt
end LP
end

section
set_option Elab.async false
set_option linter.all false
set_option maxRecDepth 100000
set_option maxHeartbeats 4000000
/-! _check_props, _ways -/
namespace LP
open PySem PySem.Spec PyProof.Rows L2 Ly GY
variable [LamTab] {P : Program} {W0 : World} {K : PySem.W.Frag} {mg : Str → Option Value} {base : Heap}
/-! ### _ways -/
def wV : Option Nat → V
  | none => .non
  | some n => .int (n : Int)
def srcOf (cs ps : List C3) : List C3 := cs.filter fun c => decide (c ∈ ps) || carried cs c
def WayIs (cs ps : List C3) (w : C3 → Option Nat) : Prop := ∀ c ∈ cs, IsWay cs (srcOf cs ps) c (w c) ∧ ∀ n, w c = some n → n ≤ 63
def spWays (P : Program) (W0 : World) (K : PySem.W.Frag) : Sp := fun vs H Q _ => ∃ (u v : V) (cs ps : List C3), vs = [u, v] ∧ CellsL K H u cs ∧ CellsL K H v ps ∧ ps.length ≤ 1000 ∧ cs.Nodup ∧ cs.length ≤ 64 ∧
  ∀ (H' : Hp) (D : Addr) (w : C3 → Option Nat), Kp [] H H' → H D = none → GD.DN K P W0 H' D (kvs cs fun c => wV (w c)) → WayIs cs ps w → Q (.ref D) H'
theorem scWays : FnScope ["held", "props", "cell", "ways", "reached", "at", "other"] ["held", "props"] (defScope sWays) := ⟨rfl, rfl, rfl, by decide +kernel, rfl, by decide +kernel, by decide +kernel⟩
theorem nodup_take {cs : List C3} {i : Nat} {c : C3} (h : cs.Nodup) (hc : cs[i]? = some c) : c ∉ cs.take i := by
  intro z
  obtain ⟨j, hj⟩ := List.mem_iff_getElem?.mp z
  have hl := at_lt hj
  rw [List.length_take] at hl
  rw [List.getElem?_take_of_lt (by omega)] at hj
  have := (List.getElem?_inj (at_lt hj) h).mp (hj.trans hc.symm)
  omega
theorem take_succ {α : Type} {cs : List α} {i : Nat} {c : α} (hc : cs[i]? = some c) : cs.take (i + 1) = cs.take i ++ [c] := by rw [List.take_add_one, hc]; rfl
theorem ok_ways {f fC fB : Addr} {fd dC dB : FuncData} (F : Fun K "_ways" "_ways" sWays f fd) (T : Nm K mg) (NC : Fn K mg "_is_carried" fC dC ["held", "cell"]) (GC : FnOk P W0 K mg base CX0 1 fC dC ["held", "cell"] (spCarried K))
    (NB : Fn K mg "beside" fB dB ["cell"]) (GB : FnOk P W0 K mg base CX0 1 fB dB ["cell"] (spBeside K)) : FnOk P W0 K mg base CX0 2 f fd ["held", "props"] (spWays P W0 K) := by
  refine F.ok scWays (fun vs H Q E h => ?_) (fun cdv A outer s H vs Q E hr h => ?_)
  · obtain ⟨u, v, cs, ps, rfl, _⟩ := h
    rfl
  · obtain ⟨u, v, cs, ps, rfl, hu, hv, hpl, hnd, h64, q⟩ := h
    have hU : (A.deeper (envOfC "_ways" (defScope sWays) s.heap.objs.size f cdv)).units + 64 < cLine := by have := u65 hr; omega
    refine ⟨_, pss_cons (GD.ps_setDcN (i := 3) (own := [("cell", 2)]) (a := 2) rfl scWays.nd hU (blkOk_by (own := [("cell", 2)]) (N := ["held", "props", "cell", "ways", "reached", "at", "other"]) (sc := defScope sWays) (by decide +kernel)) rfl (by decide) (pi_list (pv 0))
          (fun _ _ _ _ _ => pg_name (i := 2) scWays.nd rfl (.inl rfl)) (fun _ _ _ _ _ => pv 2) (fun _ _ _ _ _ => pe_non) rfl rfl (GD.swD rfl rfl rfl (by decide +kernel)))
      (pss_cons (ps_setLc (i := 4) (own := [("cell", 2)]) (g := gName 2) rfl scWays.nd rfl rfl (sw_true rfl rfl rfl (by decide +kernel)) (pi_list (pv 0)) (blkOk_by (own := [("cell", 2)]) (N := ["held", "props", "cell", "ways", "reached", "at", "other"]) (sc := defScope sWays) (by decide +kernel))
          (fun _ _ _ _ _ => pg_name (i := 2) scWays.nd rfl (.inl rfl)) (fun _ _ _ _ _ => pts_one (PW.pt (pw_or (pt_cmpR (r := rInD K) (op_inD (u65 hr)) (pv 2) (pv 1) (by rfl)) (pw_or1 (pt_val (pe_call GC hr (by rfl) NC.m NC.kp NC.b .nil pass0 (pa_cons (pv 0) (pa_cons (pv 2) pa_nil)))))))) (fun _ _ _ _ _ => pv 2))
      (pss_cons (ps_for PassesOwn.never rfl (pi_list (pv 4)) (pg_name (i := 2) scWays.nd rfl (.inl rfl)) (pss_one (ps_asg pe_int (pg_sub (pv 3) (pv 2) (GD.set_N hU)))))
      (pss_cons (ps_set (i := 5) scWays.nd rfl (.inl rfl) pe_int)
      (pss_cons (ps_while PassesOwn.never (pt_cmpR op_lt (pv 5) (pe_callB call_len_seq (by rfl) T.len PySem.boot_len (pa_cons (pv 4) pa_nil)) (nomark _))
        (pss_cons (ps_set (i := 2) scWays.nd rfl (.inl rfl) (pe_ix ix_list (pv 4) (pv 5) (fun _ _ => rfl)))
        (pss_cons (ps_for PassesOwn.never rfl (pi_list (pe_call GB hr (by rfl) NB.m NB.kp NB.b .nil pass0 (pa_cons (pv 2) pa_nil))) (pg_name (i := 6) scWays.nd rfl (.inl rfl))
          (pss_one (ps_if (PW.pt (pw_and (pt_cmpR (GD.op_inN hU) (pv 6) (pv 3) (by rfl)) (pw_and1 (pt_cmpR op_isN (pe_ix (GD.ix_N hU) (pv 3) (pv 6) (fun _ _ => rfl)) pe_non (nomark _)))))
            (pss_cons (ps_asg (pe_op op_add (pe_ix (GD.ix_N hU) (pv 3) (pv 2) (fun _ _ => rfl)) pe_int) (pg_sub (pv 3) (pv 6) (GD.set_N hU)))
            (pss_one (ps_expr (pe_bm PySem.F.plainAttrs_list PySem.F.slot_list_append PySem.F.type_list_append mt_append (pv 4) (pa_cons (pv 6) pa_nil))))) pss_nil)))
        (pss_one (ps_aug (i := 5) scWays.nd rfl (.inl rfl) pe_int ip_add)))))
      (pss_one (ps_ret (pv 3))))))), ?_⟩
    obtain ⟨a, xs, rfl, hT, hI⟩ := of_cellsL hu
    have hlen := hI.length
    refine ⟨_, rfl, a, rfl, ⟨_, hT⟩, fun D H1 nw dn0 => ⟨cs.length, fun i H' => i ≤ cs.length ∧ Kp [] H H' ∧ GD.DN K P W0 H' D (kvs (cs.take i) fun _ => V.non), ⟨Nat.zero_le _, Kp.newN nw, dn0⟩, fun i H2 pw => ?_⟩⟩
    obtain ⟨hi, k, dn⟩ := pw
    by_cases hlt : i < cs.length
    · refine .inr ⟨hlt, ⟨xs, xs[i]'(by omega), k.sqL hT List.not_mem_nil, by simp [show i < xs.length by omega]⟩, fun x H3 yy => ?_⟩
      obtain ⟨e1, yy⟩ := yy
      subst e1
      have hx := yy xs (k.sqL hT List.not_mem_nil)
      obtain ⟨c, hc, hd⟩ := (items_mono k hI).get hx
      refine ⟨_, rfl, kvs (cs.take i) (fun _ => V.non), kC c, dn, keyD_c hd, (by rw [kvs_len, List.length_take]; exact small_size (by omega)), fun H6 ch dn' => ⟨hlt, Kp.chgN0 k nw.free ch, ?_⟩⟩
      rw [take_succ hc, ← putN_new (w := fun _ => V.non) (nodup_take hnd hc)]
      exact dn'
    · have e : i = cs.length := by omega
      subst e
      refine .inl ⟨rfl, ⟨xs, k.sqL hT List.not_mem_nil, by omega⟩, ?_⟩
      rw [List.take_length] at dn
      have hDf := nw.free
      clear nw dn0 hlt
      refine nameI (i := 3) (v := .ref D) (σ := [some (.ref a), some v, none, none, none, none, none]) ?_
      refine ⟨_, rfl, a, rfl, ⟨_, k.sqL hT List.not_mem_nil⟩, fun R hR => lc_filter (K := K) (fun c => decide (c ∈ ps) || carried cs c) (Kp.refl _ _) hR (k.sqL hT List.not_mem_nil) (items_mono k hI) h64 (fun c z H' Nx Z hc kk hz n1 n2 => ?flt) (fun H3 ys kk hy hi => ?go)⟩
      case flt =>
        have kz := k.trans kk
        refine ⟨rfl, _, rfl, _, rfl, cD c, ps.map cD, dp_c hz, cellsL_mono kz hv, cD_shaped c, cDs_shapedL ps, _, rfl, ?_⟩
        rw [any_eqv]
        cases e : decide (c ∈ ps) with
        | true => exact iteT (iteT ⟨_, rfl, n1 H' (Kp.refl _ _) (by rw [e]; rfl)⟩)
        | false =>
          refine iteF ⟨_, rfl, _, rfl, .ref a, .ref z, cs, c, rfl, cellsL_mono kz hu, dp_c hz, fun H4 k4 => ⟨_, rfl, ?_⟩⟩
          cases e2 : carried cs c with
          | true => exact iteT ⟨_, rfl, n1 H4 k4 (by rw [e, e2]; rfl)⟩
          | false => exact iteF (n2 H4 k4 (by rw [e, e2]; rfl))
      case go =>
        have hRD : R ≠ D := fun e => by
          obtain ⟨φ, L, e1, _⟩ := dn
          rw [e, e1] at hR
          cases hR
        have hRf : H R = none := k.free R hR
        have dn3 := dn_mono kk List.not_mem_nil dn
        have k3 := k.trans kk
        have hsrc : cs.filter (fun c => decide (c ∈ ps) || carried cs c) = srcOf cs ps := rfl
        rw [hsrc] at hi
        have hss : ∀ c ∈ srcOf cs ps, c ∈ cs := fun c hc => (List.mem_filter.mp hc).1
        have hsn : (srcOf cs ps).Nodup := List.Nodup.sublist List.filter_sublist hnd
        unfold WayIs at q
        generalize srcOf cs ps = src at hi hss hsn q ⊢
        have hyl := hi.length
        refine nameI (i := 4) (v := .ref R) (σ := [some (.ref a), some v, none, some (.ref D), none, none, none]) ?_
        refine ⟨_, rfl, R, rfl, ⟨_, SqL.of hy⟩, for_list (K := K) (a := R) (xs := ys) (fun i σ H' => Kp [] H H' ∧ H' R = some (.lst ys) ∧ Items K H' ys src ∧ GD.DN K P W0 H' D (kvs cs fun c => wV (if c ∈ src.take i then some 0 else none)) ∧ ∃ o2, σ = [some (.ref a), some v, o2, some (.ref D), some (.ref R), none, none])
          ⟨k3, hy, hi, by simpa [wV] using dn3, _, rfl⟩ (fun i σ H' _ pv => SqL.of pv.2.1) (fun i x σ H' hx pv => ?st) (fun σ H' pv => ?dn)⟩
        case st =>
          obtain ⟨kp, hyp, hip, dnp, o2, rfl⟩ := pv
          obtain ⟨c, hc, hd⟩ := hip.get hx
          have hcc := hss c (List.mem_of_getElem? hc)
          refine ⟨_, rfl, _, rfl, D, _, kC c, rfl, dnp, keyD_c hd, (by rw [kvs_len]; exact small_size (by omega)), fun H5 ch dn' => ⟨Kp.chgN0 kp hDf ch, ?_, ?_, ?_, _, rfl⟩⟩
          · rw [ch.but R hRD]
            exact hyp
          · exact items_mono (Kp.chgN (S := [D]) ch (List.mem_singleton.mpr rfl)) hip
          · rw [putN_old hcc] at dn'
            rw [kvs_congr (w' := wset (fun c => wV (if c ∈ src.take i then some 0 else none)) c (.int 0)) fun d hd => ?_]
            · exact dn'
            · by_cases e : d = c
              · rw [e, wset_same, if_pos (by rw [take_succ hc]; simp)]
                rfl
              · rw [wset_ne e]
                have : (d ∈ src.take (i + 1)) ↔ d ∈ src.take i := by rw [take_succ hc, List.mem_append, List.mem_singleton]; exact ⟨fun z => z.elim id fun z => absurd z e, .inl⟩
                simp only [this]
        case dn =>
          obtain ⟨kp, hyp, hip, dnp, o2, rfl⟩ := pv
          rw [hyl, List.take_length] at dnp
          have b0 : Bfs cs src (fun c => if c ∈ src then some 0 else none) src 0 := Bfs.start hss hsn (fun c hc => if_pos hc) (fun c hc => if_neg hc)
          obtain ⟨w0, hw0⟩ : ∃ w0 : C3 → Option Nat, w0 = fun c => if c ∈ src then some 0 else none := ⟨_, rfl⟩
          have dnp : GD.DN K P W0 H' D (kvs cs fun c => wV (w0 c)) := by rw [hw0]; exact dnp
          rw [← hw0] at b0
          refine asgC (i := 5) (v := .int 0) (σ := [some (.ref a), some v, o2, some (.ref D), some (.ref R), none, none]) ?_
          dsimp only
          refine seqW ?_
          refine while_by (σ := [some (.ref a), some v, o2, some (.ref D), some (.ref R), some (.int 0), none]) (fun σ H' => Kp [] H H' ∧ ∃ (n : Nat) (w : C3 → Option Nat) (r : List C3) (ys : List V) (o2 o6 : Option V), σ = [some (.ref a), some v, o2, some (.ref D), some (.ref R), some (.int (n : Int)), o6] ∧ H' R = some (.lst ys) ∧ Items K H' ys r ∧ GD.DN K P W0 H' D (kvs cs fun c => wV (w c)) ∧ Bfs cs src w r n ∧ n ≤ r.length)
            (fun σ H' => match σ with | [_, _, _, _, _, some (.int m), _] => 64 - m.toNat | _ => 0) ⟨kp, 0, w0, src, ys, o2, none, rfl, hyp, hip, dnp, b0, Nat.zero_le _⟩ (fun σ H' pv => ?wst)
            (mon_test (mon_op (mon_rI0 _) (mon_var _) ?ml))
          case ml =>
            intro σ H Q Q' h ⟨x, e, p, ys, e2, e3, q⟩
            exact ⟨x, e, p, ys, e2, e3, h _ _ q⟩
          case wst =>
            obtain ⟨kp, n, w, r, ys, o2, o6, rfl, hyp, hip, dnp, b, hn⟩ := pv
            have hyl := hip.length
            have hrl := b.len h64
            refine ⟨_, rfl, _, rfl, R, _, rfl, .inl (SqL.of hyp), _, _, rfl, rfl, _, rfl, ?_⟩
            by_cases hlt : n < r.length
            · refine itD1 (by rw [hyl]; exact Int.ofNat_lt.mpr hlt) ?_
              obtain ⟨pu, u, hx, hru, hsu⟩ := Items.at hip hlt
              refine ⟨_, rfl, _, rfl, R, ys, _, _, rfl, rfl, SqL.of hyp, atI_nat hx, ?_⟩
              refine ⟨_, rfl, .ref pu, u, rfl, dp_c hsu, fun Hb rb nbs kb nbf hb ib => ?_⟩
              have k4 := kp.trans kb
              have hy4 := kb.lst hyp List.not_mem_nil
              have dn4 := dn_mono kb List.not_mem_nil dnp
              have i4 := items_mono kb hip
              have hs4 := kb.sqT hsu
              have hrbR : rb ≠ R := fun e => by rw [e, hyp] at nbf; cases nbf
              have hrbD : rb ≠ D := fun e => by
                obtain ⟨φ, L, e1, _⟩ := dnp
                rw [e, e1] at nbf
                cases nbf
              have hnl := ib.length
              refine ⟨rb, rfl, ⟨_, SqL.of hb⟩, for_list (K := K) (a := rb) (xs := nbs) (fun j σ H' => Kp [D, R] Hb H' ∧ ∃ (w' : C3 → Option Nat) (r' : List C3) (ys' : List V) (o6 : Option V), σ = [some (.ref a), some v, some (.ref pu), some (.ref D), some (.ref R), some (.int (n : Int)), o6] ∧ H' R = some (.lst ys') ∧ Items K H' ys' r' ∧ GD.DN K P W0 H' D (kvs cs fun c => wV (w' c)) ∧ Mid cs src w' r' n u (vof w u) ((nb4 u).take j))
                ⟨Kp.refl _ _, w, r, ys, o6, rfl, hy4, i4, dn4, b.mid hru⟩ (fun j σ H' _ pv => SqL.of (pv.1.lst hb (by simp [hrbD, hrbR]))) (fun j x σ H' hx pv => ?ist) (fun σ H' pv => ?idn)⟩
              case ist =>
                obtain ⟨kS, w', r', ys', o6, rfl, hy', i', dn', m⟩ := pv
                obtain ⟨d, hd0, hdx⟩ := (items_mono kS ib).get hx
                have hdn : d ∈ nb4 u := List.mem_of_getElem? hd0
                have mv := m.visit hdn
                rw [← take_succ hd0] at mv
                have hr'l : r'.length ≤ 64 := Nat.le_trans (List.Nodup.length_le_of_subset m.nd fun x hx => m.sub x hx) h64
                refine ⟨_, rfl, _, rfl, D, _, kC d, rfl, dn', keyD_c hdx, _, rfl, ?_⟩
                rw [valN_kvs]
                by_cases hdc : d ∈ cs
                · rw [if_pos hdc]
                  refine iteT ?_
                  refine ⟨_, rfl, _, rfl, D, _, kC d, wV (w' d), rfl, dn', keyD_c hdx, (by rw [valN_kvs, if_pos hdc]), rfl, _, rfl, ?_⟩
                  cases ew : w' d with
                  | some q0 =>
                    refine itD0 (by intro z; cases z) ⟨kS, w', r', ys', _, rfl, hy', i', dn', ?_⟩
                    unfold Ly.visit at mv
                    rw [if_neg (fun z => by have z2 : w' d = none := z.2; rw [ew] at z2; cases z2)] at mv
                    exact mv
                  | none =>
                    refine itD1 rfl ?_
                    unfold Ly.visit at mv
                    rw [if_pos ⟨hdc, ew⟩] at mv
                    have huc : u ∈ cs := m.sub u (List.mem_of_getElem? m.here)
                    have hwu : w' u = some (vof w u) := by
                      obtain ⟨q1, e1⟩ := (m.some_ u huc).mpr (List.mem_of_getElem? m.here)
                      have e2 := m.val
                      unfold vof at e2
                      rw [e1] at e2
                      rw [e1]
                      exact congrArg some e2
                    refine ⟨_, rfl, _, rfl, D, _, kC u, .int ((vof w u : Nat) : Int), rfl, dn', keyD_c (dp_c (kS.sqT hs4)), (by rw [valN_kvs, if_pos huc, hwu]; rfl), _, _, rfl, rfl, ?_⟩
                    refine ⟨_, rfl, _, rfl, D, _, kC d, rfl, dn', keyD_c hdx, (by rw [kvs_len]; exact small_size (by omega)), fun H5 ch dn5 => ?_⟩
                    have kc := Kp.chgN (S := [D]) ch (List.mem_singleton.mpr rfl)
                    have hy5 : H5 R = some (.lst ys') := by rw [ch.but R hRD]; exact hy'
                    have hyl' := i'.length
                    refine ⟨_, rfl, .inl ⟨rfl, _, SqL.of hy5⟩, _, rfl, R, _, _, rfl, rfl, hy5, small_size (by omega), ?_⟩
                    have kr := Kp.chg (S := [R]) (ys := ys' ++ [x]) hy5 (List.mem_singleton.mpr rfl)
                    refine ⟨(kS.trans (kc.weak (by simp))).trans (kr.weak (by simp)), _, _, ys' ++ [x], _, rfl, upd_same, ?_, ?_, mv⟩
                    · exact Items.append (items_mono kr (items_mono kc i')) (Items.one (c_mono kr (c_mono kc hdx)))
                    · refine dn_mono kr (by simp [Ne.symm hRD]) ?_
                      rw [putN_old hdc] at dn5
                      rw [kvs_congr (w' := wset (fun c => wV (w' c)) d (.int ((vof w u : Nat) + 1 : Int))) fun e he => ?_]
                      · exact dn5
                      · show wV (wset w' d (some (vof w u + 1)) e) = _
                        by_cases z : e = d
                        · rw [z, wset_same, wset_same]
                          rfl
                        · rw [wset_ne z, wset_ne z]
                · rw [if_neg hdc]
                  refine iteF ⟨kS, w', r', ys', _, rfl, hy', i', dn', ?_⟩
                  unfold Ly.visit at mv
                  rw [if_neg (fun z => hdc z.1)] at mv
                  exact mv
              case idn =>
                obtain ⟨kS, w', r', ys', o6, rfl, hy', i', dn', m⟩ := pv
                rw [hnl, List.take_length] at m
                have kk : Kp [] H H' := (Kp.refl [] H).off hRf ((k4.weak (by simp)).off hDf kS)
                refine ⟨_, rfl, _, _, rfl, rfl, ⟨kk, n + 1, w', r', ys', _, _, rfl, hy', i', dn', m.bfs, ?_⟩, ?_⟩
                · have := at_lt m.here
                  omega
                · show 64 - ((n : Int) + 1).toNat < 64 - ((n : Int)).toNat
                  omega
            · have e : n = r.length := by omega
              refine itD0 (by rw [hyl]; intro z; exact hlt (Int.ofNat_lt.mp z)) ⟨_, rfl, ?_⟩
              subst e
              exact q H' D w kp hDf dnp fun c hc => b.way h64 hc
end LP
end

section
set_option Elab.async false
set_option linter.all false
set_option maxRecDepth 100000
set_option maxHeartbeats 4000000
/-! hanging_cells, hanging, filled -/
namespace LP
open PySem PySem.Spec PyProof.Rows L2 Ly GY
variable [LamTab] {P : Program} {W0 : World} {K : PySem.W.Frag} {mg : Str → Option Value} {base : Heap}
def oD : Option Nat → PyData
  | none => .none
  | some n => .int (n : Int)
def hD (w : C3 → Option Nat) (c : C3) : PyData := .tuple [cD c, oD (w c)]
def hk (w : C3 → Option Nat) (z : Int) (c : C3) : Bool := match w c with
  | none => true
  | some n => decide ((n : Int) > z)
theorem dp_o {H : Hp} : ∀ o : Option Nat, Dp K H (wV o) (oD o)
  | none => .non
  | some _ => .int _
theorem noL_h (w : C3 → Option Nat) (c : C3) : noL (hD w c) = true := by
  show (noL (cD c) && (noL (oD (w c)) && true)) = true
  rw [noL_c]
  cases w c <;> rfl
theorem hk_congr {w w' : C3 → Option Nat} {cs : List C3} (h : ∀ c ∈ cs, w c = w' c) (z : Int) : (cs.filter (hk w z)).map (hD w) = (cs.filter (hk w' z)).map (hD w') := by
  have e : cs.filter (hk w z) = cs.filter (hk w' z) := List.filter_congr fun c hc => by unfold hk; rw [h c hc]
  rw [e]
  refine List.map_congr_left fun c hc => ?_
  unfold hD
  rw [h c (List.mem_filter.mp hc).1]
def spHangC (P : Program) (W0 : World) (K : PySem.W.Frag) : Sp := fun vs H Q _ => ∃ (u v : V) (cs ps : List C3) (z : Int), vs = [u, v, .int z] ∧ CellsL K H u cs ∧ CellsL K H v ps ∧ ps.length ≤ 1000 ∧ cs.Nodup ∧ cs.length ≤ 64 ∧
  ∀ (H' : Hp) (r : Addr) (ys : List V) (w : C3 → Option Nat), Kp [] H H' → H r = none → H' r = some (.lst ys) → WayIs cs ps w → DpAll K H' ys ((cs.filter (hk w z)).map (hD w)) → Q (.ref r) H'
theorem scHangC : FnScope ["held", "props", "reach", "ways", "cell"] ["held", "props", "reach"] (defScope sHangC) := ⟨rfl, rfl, rfl, by decide +kernel, rfl, by decide +kernel, by decide +kernel⟩
theorem ok_hangc {f fW : Addr} {fd dW : FuncData} (F : Fun K "hanging_cells" "hanging_cells" sHangC f fd) (NW : Fn K mg "_ways" fW dW ["held", "props"]) (GW : FnOk P W0 K mg base CX0 2 fW dW ["held", "props"] (spWays P W0 K)) :
    FnOk P W0 K mg base CX0 3 f fd ["held", "props", "reach"] (spHangC P W0 K) := by
  refine F.ok scHangC (fun vs H Q E h => ?_) (fun cdv A outer s H vs Q E hr h => ?_)
  · obtain ⟨u, v, cs, ps, z, rfl, _⟩ := h
    rfl
  · obtain ⟨u, v, cs, ps, z, rfl, hu, hv, hpl, hnd, h64, q⟩ := h
    have hU : (A.deeper (envOfC "hanging_cells" (defScope sHangC) s.heap.objs.size f cdv)).units + 64 < cLine := by have := u65 hr; omega
    refine ⟨_, pss_cons (ps_set (i := 3) scHangC.nd rfl (.inr rfl) (pe_call GW hr (by rfl) NW.m NW.kp NW.b .nil pass0 (pa_cons (pv 0) (pa_cons (pv 1) pa_nil))))
      (pss_one (ps_ret (pe_lc (own := [("cell", 4)]) (g := gName 4) rfl scHangC.nd (pi_list (pv 0)) (blkOk_by (own := [("cell", 4)]) (N := ["held", "props", "reach", "ways", "cell"]) (sc := defScope sHangC) (by decide +kernel))
        (fun _ _ _ _ _ => pg_name (i := 4) scHangC.nd rfl (.inl rfl))
        (fun _ _ _ _ _ => pts_one (PW.pt (pw_or (pt_cmpR op_isN (pe_ix (r := GD.rIxN K P W0) (GD.ix_N hU) (pv 3) (pv 4) (fun _ _ => rfl)) pe_non (nomark _)) (pw_or1 (pt_cmpR op_gt (pe_ix (r := GD.rIxN K P W0) (GD.ix_N hU) (pv 3) (pv 4) (fun _ _ => rfl)) (pv 2) (nomark _))))))
        (fun _ _ _ _ _ => pe_tup (pa_cons (pv 4) (pa_cons (pe_ix (r := GD.rIxN K P W0) (GD.ix_N hU) (pv 3) (pv 4) (fun _ _ => rfl)) pa_nil)))))), ?_⟩
    refine ⟨_, rfl, _, rfl, u, v, cs, ps, rfl, hu, hv, hpl, hnd, h64, fun H1 D w k1 n1 dn wi => ?_⟩
    obtain ⟨a, xs, rfl, hT, hI⟩ := of_cellsL hu
    refine ⟨_, rfl, a, rfl, ⟨_, k1.sqL hT List.not_mem_nil⟩, fun R hR => lc_dataL (K := K) cs cD (hk w z) (hD w) noL_c (fun c _ => noL_h w c) hR (k1.sqL hT List.not_mem_nil) (items_mono k1 hI) (by omega) (fun c x H2 Nx Z hc k2 hx y n => ?t) (fun H2 ys k2 h2 d2 => q H2 R ys w (k1.trans k2) (k1.free R hR) h2 wi d2)⟩
    case t =>
      have dn2 := dn_mono k2 List.not_mem_nil dn
      have hval : GD.valN (kvs cs fun c => wV (w c)) (kC c) = some (wV (w c)) := by rw [valN_kvs, if_pos hc]
      have out : ∀ t, H2 t = none → hk w z c = true → Nx (.ref t) (upd H2 t (.tup [x, wV (w c)])) := fun t ht hkk => by
        have kt := Kp.new (S := []) (o := .tup [x, wV (w c)]) ht
        exact y _ _ kt hkk (.tup (SqT.of upd_same) (.cons (c_mono kt hx) (.cons (dp_o (w c)) .nil)))
      refine ⟨rfl, _, rfl, _, rfl, D, _, kC c, wV (w c), rfl, dn2, keyD_c hx, hval, rfl, _, rfl, ?_⟩
      cases e : w c with
      | none =>
        refine itD1 rfl (iteT ?_)
        refine ⟨_, rfl, _, rfl, _, rfl, D, _, kC c, wV (w c), rfl, dn2, keyD_c hx, hval, (by show 2 ≤ sizeLine; decide), fun t ht => out t ht ?_⟩
        unfold hk
        rw [e]
      | some m =>
        refine itD0 (by intro z; cases z) ?_
        refine ⟨_, rfl, _, rfl, D, _, kC c, wV (w c), rfl, dn2, keyD_c hx, hval, _, rfl, (m : Int), z, (by rw [e]; rfl), rfl, _, rfl, ?_⟩
        cases e2 : decide ((m : Int) > z) with
        | true =>
          refine iteT ?_
          refine ⟨_, rfl, _, rfl, _, rfl, D, _, kC c, wV (w c), rfl, dn2, keyD_c hx, hval, (by show 2 ≤ sizeLine; decide), fun t ht => out t ht ?_⟩
          unfold hk
          rw [e]
          exact e2
        | false =>
          refine iteF (n H2 (Kp.refl _ _) ?_)
          unfold hk
          rw [e]
          exact e2
end LP
end

section
set_option Elab.async false
set_option linter.all false
set_option maxRecDepth 100000
set_option maxHeartbeats 4000000
/-! _law_beside, _law_free, _law_height, _law_ways -/
namespace LP
open PySem PySem.Spec PyProof.Rows L2 Ly GY
variable [LamTab] {P : Program} {W0 : World} {K : PySem.W.Frag} {mg : Str → Option Value} {base : Heap}
theorem while_m {c : TT} {tb : TS} {D : Ends} {σ : L2.St} {H : Hp} (Pv : Nat → L2.St → Hp → Prop) (h0 : ∃ m, Pv m σ H)
    (hs : ∀ m σ H, Pv m σ H → c σ H fun b H1 => if b = true then tb { D with nx := fun σ' H' => ∃ m', m' < m ∧ Pv m' σ' H', ct := fun σ' H' => ∃ m', m' < m ∧ Pv m' σ' H', bk := D.nx } σ H1 else D.nx σ H1) (mono : MonT c) : tWhile c tb D σ H := by
  refine ⟨Pv, h0, fun m σ H p => mono σ H _ _ (fun b H1 q => ?_) (hs m σ H p)⟩
  cases b with
  | true => exact ⟨_, fun σ' H' z => z, q⟩
  | false => exact q
theorem mon_b {t : TE} (h : MonE t) : MonT (tB t) := fun σ H Q Q' k q => h σ H _ _ (fun x H1 ⟨c, e, q1⟩ => ⟨c, e, k _ _ q1⟩) q
/-! ### _law_beside -/
def nbL (c : C3) : List C3 := [(c.1 + 1, c.2.1, c.2.2), (c.1 - 1, c.2.1, c.2.2), (c.1, c.2.1 + 1, c.2.2), (c.1, c.2.1 - 1, c.2.2)]
theorem mem_nbL {c d : C3} : d ∈ nbL c ↔ d ∈ nb4 c := by
  simp only [nbL, nb4, List.mem_cons, List.not_mem_nil, or_false]
  constructor
  · rintro (h | h | h | h) <;> simp [h]
  · rintro (h | h | h | h) <;> simp [h]
def spLBes (K : PySem.W.Frag) : Sp := fun vs H Q _ => ∃ (u v : V) (cs : List C3) (c : C3), vs = [u, v] ∧ CellsL K H u cs ∧ Dp K H v (cD c) ∧ ∀ (H' : Hp) (r : Addr) (ys : List V), Kp [] H H' → H r = none → H' r = some (.lst ys) → Items K H' ys ((nbL c).filter fun d => decide (d ∈ cs)) → Q (.ref r) H'
theorem scLBes : FnScope ["_law_some", "_law_cell", "_law_x", "_law_y", "_law_z", "_law_one"] ["_law_some", "_law_cell"] (defScope lBeside) := ⟨rfl, rfl, rfl, by decide +kernel, rfl, by decide +kernel, by decide +kernel⟩
theorem ok_lbes {f : Addr} {fd : FuncData} (F : Fun K "_law_beside" "_law_beside" lBeside f fd) : FnOk P W0 K mg base CX0 1 f fd ["_law_some", "_law_cell"] (spLBes K) := by
  refine F.ok scLBes (fun vs H Q E h => ?_) (fun cdv A outer s H vs Q E hr h => ?_)
  · obtain ⟨u, v, cs, c, rfl, _⟩ := h
    rfl
  · obtain ⟨u, v, cs, c, rfl, hu, hc, q⟩ := h
    refine ⟨_, pss_cons (ps_asg (pv 1) (pg_tup rfl (pgs_cons (pg_name (i := 2) scLBes.nd rfl (.inl rfl)) (pgs_cons (pg_name (i := 3) scLBes.nd rfl (.inl rfl)) (pgs_cons (pg_name (i := 4) scLBes.nd rfl (.inl rfl)) pgs_nil)))))
      (pss_one (ps_ret (pe_lc (own := [("_law_one", 5)]) (g := gName 5) rfl scLBes.nd (pi_list (pe_lst (pa_cons (pe_tup (pa_cons (pe_op op_add (pv 2) pe_int) (pa_cons (pv 3) (pa_cons (pv 4) pa_nil)))) (pa_cons (pe_tup (pa_cons (pe_op op_sub (pv 2) pe_int) (pa_cons (pv 3) (pa_cons (pv 4) pa_nil))))
        (pa_cons (pe_tup (pa_cons (pv 2) (pa_cons (pe_op op_add (pv 3) pe_int) (pa_cons (pv 4) pa_nil)))) (pa_cons (pe_tup (pa_cons (pv 2) (pa_cons (pe_op op_sub (pv 3) pe_int) (pa_cons (pv 4) pa_nil)))) pa_nil))))))
        (blkOk_by (own := [("_law_one", 5)]) (N := ["_law_some", "_law_cell", "_law_x", "_law_y", "_law_z", "_law_one"]) (sc := defScope lBeside) (by decide +kernel))
        (fun _ _ _ _ _ => pg_name (i := 5) scLBes.nd rfl (.inl rfl)) (fun _ _ _ _ _ => pts_one (pt_cmpR (r := rInD K) (op_inD (u65 hr)) (pv 5) (pv 0) (by rfl))) (fun _ _ _ _ _ => pv 5)))), ?_⟩
    obtain ⟨pc, rfl, hT⟩ := of_dp_c hc
    refine ⟨_, rfl, pc, _, rfl, hT, rfl, _, _, rfl, _, _, rfl, _, _, rfl, rfl, ?_⟩
    refine ⟨_, rfl, _, _, rfl, rfl, _, rfl, _, rfl, (by show 3 ≤ sizeLine; decide), fun t1 h1 => ?_⟩
    refine ⟨_, rfl, _, _, rfl, rfl, _, rfl, _, rfl, (by show 3 ≤ sizeLine; decide), fun t2 h2 => ?_⟩
    refine ⟨_, rfl, _, rfl, _, _, rfl, rfl, _, rfl, (by show 3 ≤ sizeLine; decide), fun t3 h3 => ?_⟩
    refine ⟨_, rfl, _, rfl, _, _, rfl, rfl, _, rfl, (by show 3 ≤ sizeLine; decide), fun t4 h4 => ?_⟩
    refine ⟨(by show 4 ≤ sizeLine; decide), fun r hr' => ?_⟩
    have k1 := Kp.new (S := []) (o := .tup [.int (c.1 + 1), .int c.2.1, .int c.2.2]) h1
    have k2 := Kp.new (S := []) (o := .tup [.int (c.1 - 1), .int c.2.1, .int c.2.2]) h2
    have k3 := Kp.new (S := []) (o := .tup [.int c.1, .int (c.2.1 + 1), .int c.2.2]) h3
    have k4 := Kp.new (S := []) (o := .tup [.int c.1, .int (c.2.1 - 1), .int c.2.2]) h4
    have k5 := Kp.new (S := []) (o := .lst [.ref t1, .ref t2, .ref t3, .ref t4]) hr'
    have s1 := k5.sqT (k4.sqT (k3.sqT (k2.sqT (SqT.of (K := K) (upd_same (H := H) (a := t1))))))
    have s2 := k5.sqT (k4.sqT (k3.sqT (SqT.of (K := K) (upd_same (a := t2)))))
    have s3 := k5.sqT (k4.sqT (SqT.of (K := K) (upd_same (a := t3))))
    have s4 := k5.sqT (SqT.of (K := K) (upd_same (a := t4)))
    have kk := (((k1.trans k2).trans k3).trans k4).trans k5
    have hit : Items K _ [.ref t1, .ref t2, .ref t3, .ref t4] (nbL c) := .cons (dp_c (c := (c.1 + 1, c.2.1, c.2.2)) s1) (.cons (dp_c (c := (c.1 - 1, c.2.1, c.2.2)) s2) (.cons (dp_c (c := (c.1, c.2.1 + 1, c.2.2)) s3) (.cons (dp_c (c := (c.1, c.2.1 - 1, c.2.2)) s4) .nil)))
    refine ⟨r, rfl, ⟨_, SqL.of upd_same⟩, fun D hD => lc_filter (K := K) (fun d => decide (d ∈ cs)) (Kp.refl _ _) hD (SqL.of upd_same) hit (by show 4 ≤ 64; decide) (fun d p H' Nx Z hd k hp n1 n2 => ?t) (fun H' ys k hy hi => q H' D ys (kk.trans k) (kk.free D hD) hy hi)⟩
    case t =>
      refine ⟨rfl, _, rfl, _, rfl, cD d, cs.map cD, dp_c hp, cellsL_mono (kk.trans k) hu, cD_shaped d, cDs_shapedL cs, _, rfl, ?_⟩
      rw [any_eqv]
      cases e : decide (d ∈ cs) with
      | true => exact iteT ⟨_, rfl, n1 H' (Kp.refl _ _) e⟩
      | false => exact iteF (n2 H' (Kp.refl _ _) e)
/-! ### _law_free -/
def isFree (cs : List C3) (c : C3) : Bool := decide (c.2.2 > 0) && !decide ((c.1, c.2.1, c.2.2 - 1) ∈ cs)
def frees (cs : List C3) : List C3 := cs.filter (isFree cs)
theorem free_carried {cs : List C3} {c : C3} (h : 0 ≤ c.2.2) : isFree cs c = !carried cs c := by
  unfold isFree carried
  by_cases z : c.2.2 = 0
  · simp [z]
  · have : c.2.2 > 0 := by omega
    simp [z, this]
def spLFree (K : PySem.W.Frag) : Sp := fun vs H Q _ => ∃ (u : V) (cs : List C3), vs = [u] ∧ CellsL K H u cs ∧ cs.length ≤ 64 ∧ ∀ (H' : Hp) (r : Addr) (ys : List V), Kp [] H H' → H r = none → H' r = some (.lst ys) → Items K H' ys (frees cs) → Q (.ref r) H'
theorem scLFree : FnScope ["_law_some", "_law_cell"] ["_law_some"] (defScope lFree) := ⟨rfl, rfl, rfl, by decide +kernel, rfl, by decide +kernel, by decide +kernel⟩
theorem ok_lfree {f : Addr} {fd : FuncData} (F : Fun K "_law_free" "_law_free" lFree f fd) : FnOk P W0 K mg base CX0 1 f fd ["_law_some"] (spLFree K) := by
  refine F.ok scLFree (fun vs H Q E h => ?_) (fun cdv A outer s H vs Q E hr h => ?_)
  · obtain ⟨u, cs, rfl, _⟩ := h
    rfl
  · obtain ⟨u, cs, rfl, hu, h64, q⟩ := h
    refine ⟨_, pss_one (ps_ret (pe_lc (own := [("_law_cell", 1)]) (g := gName 1) rfl scLFree.nd (pi_list (pv 0)) (blkOk_by (own := [("_law_cell", 1)]) (N := ["_law_some", "_law_cell"]) (sc := defScope lFree) (by decide +kernel))
        (fun _ _ _ _ _ => pg_name (i := 1) scLFree.nd rfl (.inl rfl))
        (fun _ _ _ _ _ => pts_one (PW.pt (pw_and (pt_cmpR op_gt (pe_ix (r := rIxT K) ix_tup (pv 1) pe_int (fun _ _ => rfl)) pe_int (nomark _)) (pw_and1 (pt_cmpR (r := rNotInD K) (op_notInD (u65 hr)) (pe_tup (pa_cons (pe_ix (r := rIxT K) ix_tup (pv 1) pe_int (fun _ _ => rfl)) (pa_cons (pe_ix (r := rIxT K) ix_tup (pv 1) pe_int (fun _ _ => rfl)) (pa_cons (pe_op op_sub (pe_ix (r := rIxT K) ix_tup (pv 1) pe_int (fun _ _ => rfl)) pe_int) pa_nil)))) (pv 0) (by rfl))))))
        (fun _ _ _ _ _ => pv 1))), ?_⟩
    obtain ⟨a, xs, rfl, hT, hI⟩ := of_cellsL hu
    refine ⟨_, rfl, a, rfl, ⟨_, hT⟩, fun D hD => lc_filter (K := K) (isFree cs) (Kp.refl _ _) hD hT hI h64 (fun c p H' Nx Z hc k hp n1 n2 => ?t) (fun H' ys k hy hi => q H' D ys k hD hy hi)⟩
    case t =>
      refine ⟨rfl, _, rfl, p, _, 2, _, rfl, rfl, hp, rfl, _, _, rfl, rfl, _, rfl, ?_⟩
      cases e : decide (c.2.2 > 0) with
      | false => exact iteF (n2 H' (Kp.refl _ _) (by unfold isFree; rw [e]; rfl))
      | true =>
        refine iteT ⟨_, rfl, p, _, 0, _, rfl, rfl, hp, rfl, _, rfl, p, _, 1, _, rfl, rfl, hp, rfl, _, rfl, p, _, 2, _, rfl, rfl, hp, rfl, _, _, rfl, rfl, (by show 3 ≤ sizeLine; decide), fun t ht => ?_⟩
        have kt := Kp.new (S := []) (o := .tup [.int c.1, .int c.2.1, .int (c.2.2 - 1)]) ht
        refine ⟨_, rfl, cD (c.1, c.2.1, c.2.2 - 1), cs.map cD, dp_c (SqT.of upd_same), cellsL_mono (k.trans kt) hu, cD_shaped _, cDs_shapedL cs, _, rfl, ?_⟩
        rw [any_eqv]
        cases e2 : decide ((c.1, c.2.1, c.2.2 - 1) ∈ cs) with
        | true => exact iteF (n2 _ kt (by unfold isFree; rw [e, e2]; rfl))
        | false => exact iteT ⟨_, rfl, n1 _ kt (by unfold isFree; rw [e, e2]; rfl)⟩
end LP
end

section
set_option Elab.async false
set_option linter.all false
set_option maxRecDepth 100000
set_option maxHeartbeats 4000000
/-! _law_ways -/
namespace LP
open PySem PySem.Spec PyProof.Rows L2 Ly GY
variable [LamTab] {P : Program} {W0 : World} {K : PySem.W.Frag} {mg : Str → Option Value} {base : Heap}
def fV (f : C3 → Nat) (c : C3) : V := .int (f c : Nat)
def pairD (f : C3 → Nat) (c : C3) : PyData := .tuple [cD c, .int (f c : Nat)]
theorem noL_pr (f : C3 → Nat) (c : C3) : noL (pairD f c) = true := by
  show (noL (cD c) && true) = true
  rw [noL_c]
  rfl
theorem pairs_of {H : Hp} {f : C3 → Nat} : ∀ {ys : List V} {cs : List C3}, DpAll K H ys (cs.map (pairD f)) → GD.PairsD K H ys (kvs cs (fV f))
  | _, [], h => by cases h; exact .nil
  | _, c :: cs, h => by
    cases h with
    | cons h1 h2 =>
      refine .cons ?_ (pairs_of h2)
      obtain ⟨p, x, y, e, hs, hx, hy⟩ := of_dp2 h1
      have ey := of_dpi hy
      subst ey
      obtain ⟨b, rfl, hb⟩ := of_dp_c hx
      exact ⟨p, b, e, hs, keyD_c hx⟩
theorem kvs_keys {cs : List C3} {w : C3 → V} (h : cs.Nodup) : ((kvs cs w).map (·.1)).Nodup := by
  unfold kvs
  rw [List.map_map]
  exact List.Pairwise.map _ (fun a b n e => n (kC_inj e)) h
def f99 (bg : List C3) (c : C3) : Nat := if c ∈ bg then 0 else 99
theorem rlx0 {cs bg : List C3} : Rlx cs bg (f99 bg) := by
  refine ⟨fun c _ => ?_, fun c _ h => ?_, fun c hc => ?_⟩
  · unfold f99; split <;> omega
  · unfold f99 at h ⊢
    split at h
    · rename_i z
      rw [if_pos z]
      exact .zero z
    · omega
  · unfold f99
    rw [if_pos hc]
def spLWays (P : Program) (W0 : World) (K : PySem.W.Frag) : Sp := fun vs H Q _ => ∃ (u v : V) (cs bg : List C3), vs = [u, v] ∧ CellsL K H u cs ∧ CellsL K H v bg ∧ cs.Nodup ∧ cs.length ≤ 64 ∧
  ∀ (H' : Hp) (D : Addr) (f : C3 → Nat), Kp [] H H' → H D = none → GD.DN K P W0 H' D (kvs cs (fV f)) → Rlx cs bg f → Stable cs f → Q (.ref D) H'
theorem scLWays : FnScope ["_law_some", "_law_begins", "_law_cell", "_law_found", "_law_goes", "_law_least", "_law_one"] ["_law_some", "_law_begins"] (defScope lWays) := ⟨rfl, rfl, rfl, by decide +kernel, rfl, by decide +kernel, by decide +kernel⟩
theorem ok_lways {f fB : Addr} {fd dB : FuncData} (F : Fun K "_law_ways" "_law_ways" lWays f fd) (T : Nm K mg) (U : Nl K mg) (Uh : Nh K mg) (NB : Fn K mg "_law_beside" fB dB ["_law_some", "_law_cell"]) (GB : FnOk P W0 K mg base CX0 1 fB dB ["_law_some", "_law_cell"] (spLBes K)) :
    FnOk P W0 K mg base CX0 2 f fd ["_law_some", "_law_begins"] (spLWays P W0 K) := by
  refine F.ok scLWays (fun vs H Q E h => ?_) (fun cdv A outer s H vs Q E hr h => ?_)
  · obtain ⟨u, v, cs, bg, rfl, _⟩ := h
    rfl
  · obtain ⟨u, v, cs, bg, rfl, hu, hv, hnd, h64, q⟩ := h
    have hU : (A.deeper (envOfC "_law_ways" (defScope lWays) s.heap.objs.size f cdv)).units + 64 < cLine := by have := u65 hr; omega
    refine ⟨_, pss_cons (ps_set (i := 3) scLWays.nd rfl (.inr rfl) (pe_callTy (GD.call_dictN rfl hU) (by rfl) Uh.dict (by decide +kernel) (pa_cons
        (pe_lc (own := [("_law_cell", 2)]) (g := gName 2) rfl scLWays.nd (pi_list (pv 0)) (blkOk_by (own := [("_law_cell", 2)]) (N := ["_law_some", "_law_begins", "_law_cell", "_law_found", "_law_goes", "_law_least", "_law_one"]) (sc := defScope lWays) (by decide +kernel))
          (fun _ _ _ _ _ => pg_name (i := 2) scLWays.nd rfl (.inl rfl)) (fun _ _ _ _ _ => pts_nil)
          (fun _ _ _ _ _ => pe_tup (pa_cons (pv 2) (pa_cons (pe_op op_mul pe_int (pe_callTy call_int1 (by rfl) T.int (by decide +kernel) (pa_cons (pe_cmpR (r := rNotInD K) (op_notInD (u65 hr)) (pv 2) (pv 1) (by rfl)) pa_nil))) pa_nil)))) pa_nil)))
      (pss_cons (ps_set (i := 4) scLWays.nd rfl (.inl rfl) pe_bl)
      (pss_cons (ps_while PassesOwn.never (pt_val (pv 4))
        (pss_cons (ps_set (i := 4) scLWays.nd rfl (.inl rfl) pe_bl)
        (pss_one (ps_for PassesOwn.never rfl (pi_list (pv 0)) (pg_name (i := 2) scLWays.nd rfl (.inl rfl))
          (pss_cons (ps_set (i := 5) scLWays.nd rfl (.inl rfl) (pe_callBK (GW.cr_minD rfl hr.units) (by rfl) U.min (by decide +kernel) (pa_cons
            (pe_lc (own := [("_law_one", 6)]) (g := gName 6) rfl scLWays.nd (pi_list (pe_call GB hr (by rfl) NB.m NB.kp NB.b .nil pass0 (pa_cons (pv 0) (pa_cons (pv 2) pa_nil)))) (blkOk_by (own := [("_law_one", 6)]) (N := ["_law_some", "_law_begins", "_law_cell", "_law_found", "_law_goes", "_law_least", "_law_one"]) (sc := defScope lWays) (by decide +kernel))
              (fun _ _ _ _ _ => pg_name (i := 6) scLWays.nd rfl (.inl rfl)) (fun _ _ _ _ _ => pts_nil) (fun _ _ _ _ _ => pe_op op_add (pe_ix (r := GD.rIxN K P W0) (GD.ix_N hU) (pv 3) (pv 6) (fun _ _ => rfl)) pe_int)) pa_nil) (pk_cons pe_int pk_nil)))
          (pss_one (ps_if (pt_cmpR op_lt (pv 5) (pe_ix (GD.ix_N hU) (pv 3) (pv 2) (fun _ _ => rfl)) (nomark _))
            (pss_cons (ps_asg (pv 5) (pg_sub (pv 3) (pv 2) (GD.set_N hU))) (pss_one (ps_set (i := 4) scLWays.nd rfl (.inl rfl) pe_bl))) pss_nil))))))) 
      (pss_one (ps_ret (pv 3))))), ?_⟩
    obtain ⟨a, xs, rfl, hT, hI⟩ := of_cellsL hu
    have hlen := hI.length
    refine ⟨_, rfl, a, rfl, ⟨_, hT⟩, fun L hL => lc_dataL (K := K) cs cD (fun _ => true) (pairD (f99 bg)) noL_c (fun c _ => noL_pr _ c) hL hT hI (by omega) (fun c x H' Nx Z hc k hx n1 n2 => ?t) (fun H1 ys k1 hy hd => ?d)⟩
    case t =>
      refine ⟨rfl, yesI ?_⟩
      refine ⟨_, rfl, _, rfl, _, rfl, cD c, bg.map cD, hx, cellsL_mono k hv, cD_shaped c, cDs_shapedL bg, .inr ⟨_, rfl, ?_⟩⟩
      rw [any_eqv]
      refine ⟨_, _, rfl, rfl, .inl ⟨by decide, by decide⟩, (by show 2 ≤ sizeLine; decide), fun t ht => ?_⟩
      have e : (99 : Int) * (if (!decide (c ∈ bg)) = true then 1 else 0) = ((f99 bg c : Nat) : Int) := by
        unfold f99
        by_cases z : c ∈ bg
        · simp [z]
        · simp [z]
      show Nx (.ref t) (upd H' t (.tup [x, .int ((99 : Int) * (if (!decide (c ∈ bg)) = true then 1 else 0))]))
      rw [e]
      have kt := Kp.new (S := []) (o := .tup [x, .int ((f99 bg c : Nat) : Int)]) ht
      exact n1 _ _ kt rfl (.tup (SqT.of upd_same) (.cons (c_mono kt hx) (.cons (.int _) .nil)))
    case d =>
      have ef : cs.filter (fun _ => true) = cs := List.filter_eq_self.mpr fun _ _ => rfl
      rw [ef] at hd
      refine ⟨L, ys, kvs cs (fV (f99 bg)), rfl, SqL.of hy, pairs_of hd, kvs_keys hnd, fun D H2 nw dn => ?_⟩
      have k2 : Kp [] H H2 := k1.trans (Kp.newN nw)
      have hDf : H D = none := k1.free D nw.free
      have r0 : Rlx cs bg (f99 bg) := rlx0
      generalize f99 bg = f0 at dn r0
      refine asgC (i := 4) (v := .bl true) (σ := [some (.ref a), some v, none, some (.ref D), none, none, none]) ?_
      dsimp only
      refine seqW ?_
      refine while_m (σ := [some (.ref a), some v, none, some (.ref D), some (.bl true), none, none]) (fun m σ H' => Kp [] H H' ∧ ∃ (f : C3 → Nat) (g : Bool) (o2 o5 : Option V), σ = [some (.ref a), some v, o2, some (.ref D), some (.bl g), o5, none] ∧ GD.DN K P W0 H' D (kvs cs (fV f)) ∧ Rlx cs bg f ∧ (g = false → Stable cs f) ∧ m = if g = true then (cs.map f).sum + 1 else 0)
        ⟨(cs.map f0).sum + 1, k2, f0, true, none, none, rfl, dn, r0, fun (z : true = false) => (by cases z), by rfl⟩ (fun m σ H' pv => ?wst) (mon_b (mon_var _))
      case wst =>
        obtain ⟨kp, f, g, o2, o5, rfl, dnp, rp, sp, rfl⟩ := pv
        refine ⟨_, rfl, g, rfl, ?_⟩
        cases g with
        | false => exact iteF ⟨_, rfl, q H' D f kp hDf dnp rp (sp rfl)⟩
        | true =>
          refine iteT ?_
          refine nameI (i := 4) (v := .bl false) (σ := [some (.ref a), some v, o2, some (.ref D), some (.bl true), o5, none]) ?_
          refine ⟨_, rfl, a, rfl, ⟨_, kp.sqL hT List.not_mem_nil⟩, for_list (K := K) (a := a) (xs := xs) (fun i σ H'' => Kp [] H H'' ∧ ∃ (f' : C3 → Nat) (g' : Bool) (o2 o5 : Option V), σ = [some (.ref a), some v, o2, some (.ref D), some (.bl g'), o5, none] ∧ GD.DN K P W0 H'' D (kvs cs (fV f')) ∧ Rlx cs bg f' ∧ (g' = true → (cs.map f').sum < (cs.map f).sum) ∧ (g' = false → f' = f ∧ ∀ c ∈ cs.take i, ∀ d ∈ nb4 c, d ∈ cs → f c ≤ f d + 1))
            ⟨kp, f, false, o2, o5, rfl, dnp, rp, fun (z : false = true) => (by cases z), fun _ => ⟨rfl, fun c hc => (by cases hc)⟩⟩ (fun i σ H'' _ pv => pv.1.sqL hT List.not_mem_nil) (fun i x σ H'' hx pv => ?st) (fun σ H'' pv => ?dn)⟩
          case dn =>
            obtain ⟨kq, f', g', o2, o5, rfl, dq, rq, h1, h2⟩ := pv
            refine ⟨_, ?_, kq, f', g', o2, o5, rfl, dq, rq, fun z => ?_, rfl⟩
            · cases g' with
              | true => have := h1 rfl; simp; omega
              | false => simp
            · obtain ⟨e, h3⟩ := h2 z
              rw [e]
              rw [hlen, List.take_length] at h3
              exact h3
          case st =>
            obtain ⟨kq, f', g', o2, o5, rfl, dq, rq, h1, h2⟩ := pv
            obtain ⟨c, hc, hxc⟩ := (items_mono kq hI).get hx
            have hcc := List.mem_of_getElem? hc
            refine ⟨_, rfl, _, rfl, .ref a, x, cs, c, rfl, cellsL_mono kq hu, hxc, fun Hb rb nbs kb nbf hb ib => ?_⟩
            have dq1 := dn_mono kb List.not_mem_nil dq
            have hfil : ∀ d, d ∈ (nbL c).filter (fun d => decide (d ∈ cs)) ↔ d ∈ nb4 c ∧ d ∈ cs := fun d => by rw [List.mem_filter, mem_nbL, decide_eq_true_iff]
            have hfl : ((nbL c).filter (fun d => decide (d ∈ cs))).length ≤ 4 := List.length_filter_le _ _
            refine ⟨rb, rfl, ⟨_, SqL.of hb⟩, fun M hM => lc_dataL (K := K) ((nbL c).filter fun d => decide (d ∈ cs)) cD (fun _ => true) (fun d => .int ((f' d : Nat) + 1 : Int)) noL_c (fun _ _ => rfl) hM (SqL.of hb) ib (by omega) (fun d y H3 Nx Z hd k3 hy n1 n2 => ?t2) (fun H3 ms k3 h3 d3 => ?d2)⟩
            case t2 =>
              have hdc := ((hfil d).mp hd).2
              refine ⟨rfl, yesI ?_⟩
              exact ⟨_, rfl, _, rfl, D, _, kC d, fV f' d, rfl, dn_mono k3 List.not_mem_nil dq1, keyD_c hy, (by rw [valN_kvs, if_pos hdc]), _, _, rfl, rfl, n1 H3 _ (Kp.refl _ _) rfl (.int _)⟩
            case d2 =>
              have ef : ((nbL c).filter fun d => decide (d ∈ cs)).filter (fun _ => true) = (nbL c).filter fun d => decide (d ∈ cs) := List.filter_eq_self.mpr fun _ _ => rfl
              rw [ef] at d3
              have hms : ms = (((nbL c).filter fun d => decide (d ∈ cs)).map fun d => ((f' d : Nat) + 1 : Int)).map V.int := dps_ints (by rw [List.map_map]; exact d3)
              subst hms
              dsimp only [tNil, tCons, tC]
              refine minR (K := K) (d := 99) (SqL.of h3) fun least hl => ?_
              have k4 := (kq.trans kb).trans k3
              have dq3 := dn_mono k3 List.not_mem_nil dq1
              have hx3 := c_mono k3 (c_mono kb hxc)
              have hle : (∃ d, d ∈ nb4 c ∧ d ∈ cs ∧ least = (f' d : Nat) + 1) ∨ least = 99 := by
                rcases hl with ⟨_, e⟩ | ⟨e, _⟩
                · exact .inr e
                · obtain ⟨d, hd, e⟩ := List.mem_map.mp e
                  exact .inl ⟨d, ((hfil d).mp hd).1, ((hfil d).mp hd).2, e.symm⟩
              have hlow : ∀ d ∈ nb4 c, d ∈ cs → least ≤ (f' d : Nat) + 1 := by
                intro d h1 h2
                rcases hl with ⟨e, _⟩ | ⟨_, e⟩
                · have : d ∈ (nbL c).filter fun d => decide (d ∈ cs) := (hfil d).mpr ⟨h1, h2⟩
                  rw [List.map_eq_nil_iff.mp e] at this
                  cases this
                · exact e _ (List.mem_map.mpr ⟨d, (hfil d).mpr ⟨h1, h2⟩, rfl⟩)
              refine nameI (i := 5) (v := .int least) (σ := [some (.ref a), some v, some x, some (.ref D), some (.bl g'), o5, none]) ?_
              refine ⟨_, rfl, _, rfl, _, rfl, D, _, kC c, fV f' c, rfl, dq3, keyD_c hx3, (by rw [valN_kvs, if_pos hcc]), _, _, rfl, rfl, _, rfl, ?_⟩
              have hcm := rq.most c hcc
              by_cases hlt : least < (f' c : Nat)
              · refine itD1 hlt ?_
                obtain ⟨d, hd1, hd2, hd3⟩ : ∃ d, d ∈ nb4 c ∧ d ∈ cs ∧ least = (f' d : Nat) + 1 := by
                  rcases hle with z | z
                  · exact z
                  · omega
                refine ⟨_, rfl, _, rfl, _, rfl, D, _, kC c, rfl, dq3, keyD_c hx3, (by rw [kvs_len]; exact small_size (by omega)), fun H5 ch dn5 => ?_⟩
                have hm : f' d + 1 < f' c := by omega
                refine ⟨Kp.chgN0 k4 hDf ch, wset f' c (f' d + 1), true, _, _, rfl, ?_, rq.put hcc hd2 hd1 rfl hm, fun _ => ?_, fun z => by cases z⟩
                · rw [putN_old hcc] at dn5
                  rw [kvs_congr (w' := wset (fV f') c (.int least)) fun e he => ?_]
                  · exact dn5
                  · unfold fV
                    by_cases z : e = c
                    · rw [z, wset_same, wset_same, hd3]
                      rfl
                    · rw [wset_ne z, wset_ne z]
                · have s1 := sum_put (f := f') hm hcc
                  cases g' with
                  | true => have := h1 rfl; omega
                  | false => rw [← (h2 rfl).1]; exact s1
              · refine itD0 hlt ⟨k4, f', g', _, _, rfl, dq3, rq, h1, fun z => ?_⟩
                obtain ⟨e, h3'⟩ := h2 z
                refine ⟨e, fun c' hc' d hd hdc => ?_⟩
                rw [take_succ hc] at hc'
                rcases List.mem_append.mp hc' with y | y
                · exact h3' c' y d hd hdc
                · rw [List.mem_singleton.mp y] at hd ⊢
                  have := hlow d hd hdc
                  rw [← e]
                  omega
end LP
end

section
set_option Elab.async false
set_option linter.all false
set_option maxRecDepth 100000
set_option maxHeartbeats 4000000
/-! what hangs in a layer, with props or without: the program's way and the law's -/
namespace LP
open PySem PySem.Spec PyProof.Rows L2 Ly GY
section
variable [LamTab]
/-- hangs without props -/
def hungB (cs : List C3) (n : Nat) (c : C3) : Bool := !(cs.any fun s => carried cs s && reachB cs s n c)
def helpK (cs : List C3) (n : Nat) (z : Int) : List C3 := cs.filter fun c => hungB cs n c && decide (c.2.2 = z)
theorem near_iff {cs src : List C3} {c : C3} {o : Option Nat} (h : IsWay cs src c o) (n : Nat) : Near cs src n c ↔ ∃ k, o = some k ∧ k ≤ n := by
  cases o with
  | none => exact ⟨fun ⟨m, _, p⟩ => absurd p (h m), fun ⟨k, e, _⟩ => by cases e⟩
  | some k =>
    constructor
    · rintro ⟨m, hm, p⟩
      exact ⟨k, rfl, Nat.le_trans (h.2 m p) hm⟩
    · rintro ⟨k', e, hk⟩
      cases e
      exact ⟨k, hk, h.1⟩
theorem hungB_iff {cs : List C3} {n : Nat} {c : C3} : hungB cs n c = true ↔ ¬ Near cs (srcOf cs []) n c := by
  unfold hungB
  rw [Bool.not_eq_true', ← Bool.not_eq_true]
  refine not_congr ?_
  rw [near_src, List.any_eq_true]
  constructor
  · rintro ⟨s, hs, h⟩
    rw [Bool.and_eq_true, reachB_iff] at h
    exact ⟨s, List.mem_filter.mpr ⟨hs, by rw [h.1]; simp⟩, h.2⟩
  · rintro ⟨s, hs, h⟩
    obtain ⟨h1, h2⟩ := List.mem_filter.mp hs
    have h2 : carried cs s = true := by simpa using h2
    exact ⟨s, h1, by rw [Bool.and_eq_true, reachB_iff]; exact ⟨h2, h⟩⟩
theorem hk_hung {cs : List C3} {w : C3 → Option Nat} {n : Nat} (h : WayIs cs [] w) {c : C3} (hc : c ∈ cs) : hk w (n : Int) c = hungB cs n c := by
  have h1 := near_iff (h c hc).1 n
  have e : hk w (n : Int) c = true ↔ ¬ Near cs (srcOf cs []) n c := by
    rw [h1]
    unfold hk
    cases e : w c with
    | none => simp
    | some k => simp
  by_cases z : hungB cs n c = true
  · rw [z]; exact e.mpr (hungB_iff.mp z)
  · have z2 : ¬ hk w (n : Int) c = true := fun q => z (hungB_iff.mpr (e.mp q))
    rw [Bool.not_eq_true] at z z2
    rw [z, z2]
/-! ### the law's -/
def lyr (cs : List C3) (z : Int) : List C3 := cs.filter fun c => decide (c.2.2 = z)
def fre (cs : List C3) (z : Int) : List C3 := (frees cs).filter fun c => decide (c.2.2 = z)
def bgn (cs : List C3) (z : Int) (props : List C3) : List C3 := (lyr cs z).filter fun c => !decide (c ∈ fre cs z) || decide (c ∈ props)
def hangL (cs : List C3) (z : Int) (n : Nat) (props : List C3) : List C3 := (lyr cs z).filter fun c => !((bgn cs z props).any fun s => reachB (lyr cs z) s n c)
def nearL (cs : List C3) (z : Int) (n : Nat) (c : C3) : List C3 := (fre cs z).filter (reachB (lyr cs z) c n)
def someL (cs : List C3) (z : Int) (n : Nat) (props : List C3) (c : C3) : List C3 := (nearL cs z n c).filter fun d => !decide (d ∈ props)
theorem mem_lyr {cs : List C3} {z : Int} {c : C3} : c ∈ lyr cs z ↔ c ∈ cs ∧ c.2.2 = z := by unfold lyr; rw [List.mem_filter, decide_eq_true_iff]
theorem mem_fre {cs : List C3} {z : Int} {c : C3} (h0 : ∀ c ∈ cs, 0 ≤ c.2.2) : c ∈ fre cs z ↔ c ∈ cs ∧ carried cs c = false ∧ c.2.2 = z := by
  unfold fre frees
  rw [List.mem_filter, List.mem_filter, decide_eq_true_iff]
  constructor
  · rintro ⟨⟨h1, h2⟩, h3⟩
    rw [free_carried (h0 c h1)] at h2
    exact ⟨h1, by simpa using h2, h3⟩
  · rintro ⟨h1, h2, h3⟩
    exact ⟨⟨h1, by rw [free_carried (h0 c h1), h2]; rfl⟩, h3⟩
theorem near_lyr {cs : List C3} {z : Int} {a : C3} (ha : a.2.2 = z) {n : Nat} {b : C3} : Near (lyr cs z) [a] n b ↔ Near cs [a] n b :=
  near_layer fun c _ e => decide_eq_true (e.trans ha)
/-- at rest: no carried cell and no prop within reach -/
theorem mem_hangL {cs : List C3} {z : Int} {n : Nat} {props : List C3} {c : C3} (h0 : ∀ c ∈ cs, 0 ≤ c.2.2) (hp : ∀ d ∈ props, d ∈ cs ∧ d.2.2 = z) :
    c ∈ hangL cs z n props ↔ (c ∈ cs ∧ c.2.2 = z) ∧ hungB cs n c = true ∧ ∀ d ∈ props, d ∉ wi cs n c := by
  unfold hangL
  rw [List.mem_filter, mem_lyr, Bool.not_eq_true', ← Bool.not_eq_true, List.any_eq_true]
  refine and_congr_right fun ⟨hc, hz⟩ => ?_
  constructor
  · intro h
    refine ⟨hungB_iff.mpr fun q => ?_, fun d hd q => ?_⟩
    · obtain ⟨s, hs, hn⟩ := near_src.mp q
      obtain ⟨h1, h2⟩ := List.mem_filter.mp hs
      have h2 : carried cs s = true := by simpa using h2
      obtain ⟨m, hm, p⟩ := hn
      have hsz : s.2.2 = z := (path_z p).symm.trans hz
      refine h ⟨s, List.mem_filter.mpr ⟨mem_lyr.mpr ⟨h1, hsz⟩, ?_⟩, (reachB_iff n c).mpr ((near_lyr hsz).mpr ⟨m, hm, p⟩)⟩
      rw [Bool.or_eq_true]
      refine .inl ?_
      rw [Bool.not_eq_true', decide_eq_false_iff_not, mem_fre h0]
      intro q
      rw [h2] at q
      cases q.2.1
    · obtain ⟨hdc, hdz⟩ := hp d hd
      have hn := near_sym hc (mem_wi.mp q).2
      refine h ⟨d, List.mem_filter.mpr ⟨mem_lyr.mpr ⟨hdc, hdz⟩, ?_⟩, (reachB_iff n c).mpr ((near_lyr hdz).mpr hn)⟩
      rw [decide_eq_true hd, Bool.or_true]
  · rintro ⟨h1, h2⟩ ⟨s, hs, hr⟩
    obtain ⟨h3, h4⟩ := List.mem_filter.mp hs
    obtain ⟨hsc, hsz⟩ := mem_lyr.mp h3
    have hn := (near_lyr hsz).mp ((reachB_iff n c).mp hr)
    rw [Bool.or_eq_true, Bool.not_eq_true', decide_eq_false_iff_not, decide_eq_true_iff, mem_fre h0] at h4
    rcases h4 with h4 | h4
    · have hcar : carried cs s = true := by
        cases e : carried cs s with
        | true => rfl
        | false => exact absurd ⟨hsc, e, hsz⟩ h4
      exact hungB_iff.mp h1 (near_src.mpr ⟨s, List.mem_filter.mpr ⟨hsc, by rw [hcar]; simp⟩, hn⟩)
    · exact h2 s h4 (mem_wi.mpr ⟨hsc, near_sym hsc hn⟩)
theorem someL_eq {cs : List C3} {z : Int} {n : Nat} {props : List C3} {c : C3} (h0 : ∀ c ∈ cs, 0 ≤ c.2.2) (hp : ∀ d ∈ props, d ∈ cs ∧ d.2.2 = z) (h : c ∈ hangL cs z n props) : someL cs z n props c = wi cs n c := by
  obtain ⟨⟨hc, hz⟩, h1, h2⟩ := (mem_hangL h0 hp).mp h
  unfold someL nearL fre frees wi
  rw [List.filter_filter, List.filter_filter, List.filter_filter]
  refine List.filter_congr fun d hd => ?_
  by_cases r : reachB cs c n d = true
  · have hn := (reachB_iff n d).mp r
    have hdz : d.2.2 = z := by
      obtain ⟨m, _, p⟩ := hn
      exact (path_z p).trans hz
    have hr : reachB (lyr cs z) c n d = true := (reachB_iff n d).mpr ((near_lyr hz).mpr hn)
    have hf : isFree cs d = true := by
      rw [free_carried (h0 d hd)]
      cases e : carried cs d with
      | false => rfl
      | true => exact absurd (near_src.mpr ⟨d, List.mem_filter.mpr ⟨hd, by rw [e]; simp⟩, near_sym hc hn⟩) (hungB_iff.mp h1)
    have hnp : d ∉ props := fun q => h2 d q (mem_wi.mpr ⟨hd, hn⟩)
    rw [r, hr, hf, decide_eq_true hdz, decide_eq_false hnp]
    rfl
  · have hr : ¬ reachB (lyr cs z) c n d = true := fun q => r ((reachB_iff n d).mpr ((near_lyr hz).mp ((reachB_iff n d).mp q)))
    rw [Bool.not_eq_true] at r hr
    rw [r, hr]
    simp
theorem sh_law {cs : List C3} {z : Int} {n : Nat} (h0 : ∀ c ∈ cs, 0 ≤ c.2.2) (m : Nat) (p : Paper) : shP (wi cs n) m (helpK cs n z) p = lsP (hangL cs z n) (someL cs z n) m [] p := by
  refine sh_ls (wf := wi cs n) (hung := hangL cs z n) (some_ := someL cs z n) (ok := fun props => ∀ d ∈ props, d ∈ cs ∧ d.2.2 = z) (fun props hp c hc => someL_eq h0 hp hc) (fun props hp c hc d hd e he => ?_) (fun props hp c hc d hd e => ?_) m _ _ p (fun d hd => by cases hd) fun e => ?_
  · rcases List.mem_append.mp he with q | q
    · exact hp e q
    · rw [List.mem_singleton.mp q]
      obtain ⟨⟨h1, h2⟩, _, _⟩ := (mem_hangL h0 hp).mp hc
      obtain ⟨h3, m', _, p'⟩ := mem_wi.mp hd
      exact ⟨h3, (path_z p').trans h2⟩
  · have hp' : ∀ f ∈ props ++ [d], f ∈ cs ∧ f.2.2 = z := fun f hf => by
      rcases List.mem_append.mp hf with q | q
      · exact hp f q
      · rw [List.mem_singleton.mp q]
        obtain ⟨⟨h1, h2⟩, _, _⟩ := (mem_hangL h0 hp).mp hc
        obtain ⟨h3, m', _, p'⟩ := mem_wi.mp hd
        exact ⟨h3, (path_z p').trans h2⟩
    rw [mem_hangL h0 hp', mem_hangL h0 hp]
    constructor
    · rintro ⟨h1, h2, h3⟩
      exact ⟨⟨h1, h2, fun f hf => h3 f (List.mem_append_left _ hf)⟩, h3 d (List.mem_append_right _ (List.mem_singleton.mpr rfl))⟩
    · rintro ⟨⟨h1, h2, h3⟩, h4⟩
      refine ⟨h1, h2, fun f hf => ?_⟩
      rcases List.mem_append.mp hf with q | q
      · exact h3 f q
      · rw [List.mem_singleton.mp q]; exact h4
  · rw [mem_hangL h0 (fun d hd => by cases hd)]
    unfold helpK
    rw [List.mem_filter, Bool.and_eq_true, decide_eq_true_iff]
    constructor
    · rintro ⟨h1, h2, h3⟩
      exact ⟨⟨h1, h3⟩, h2, fun d hd => by cases hd⟩
    · rintro ⟨⟨h1, h2⟩, h3, _⟩
      exact ⟨h1, h3, h2⟩
end
end LP
end

section
/-! places of more defs of the program -/
namespace LP
open PySem PySem.Spec PyProof.Rows L2
abbrev sShows : Stmt := top 37
-- fewest: not in this statement
abbrev sHelps : Stmt := top 38
abbrev sWithin : Stmt := top 39
abbrev sStill : Stmt := top 40
-- _least_helped: not in this statement
-- _best_props: not in this statement
-- _all_that_do: not in this statement
-- _paper: not in this statement
abbrev sIsShown : Stmt := top 41
-- laid: not in this statement
-- turnings: not in this statement
-- alike: not in this statement
-- _at_corner: not in this statement
-- best: not in this statement
-- _counted: not in this statement
end LP
end

section
set_option Elab.async false
set_option linter.all false
set_option maxRecDepth 100000
set_option maxHeartbeats 2000000
/-! Dict comprehensions with keys of any depth, any target, with tests. -/
namespace GD
open PySem PySem.Spec PyProof.Rows L2
section
variable {X : Cx}
def tDcG (K : PySem.W.Frag) (P : Program) (w : World) (wi : TI) (g : TG) (tt : TT) (tk tv : TE) (vs : List Nat) : TE := fun σ H Q => wi σ H fun J H1 => ∀ D H2, New H1 H2 D → DN K P w H2 D [] → ∃ W : Nat → Nat → Hp → Prop, (∃ m, W 0 m H2) ∧ ∀ i m H, W i m H →
  (J.stop i H ∧ Q (.ref D) H) ∨ (J.go i H ∧ ∃ Nx : Hp → Prop, (∀ H', Nx H' → ∃ m', m' < m ∧ W (i + 1) m' H') ∧ ∀ x H', J.yld i H x H' → g x (wipe σ vs) H' fun σ2 H3 => wipe σ2 vs = wipe σ vs ∧ tt σ2 H3 fun b H4 =>
    if b = true then tk σ2 H4 fun y H5 => tv σ2 H5 fun z H6 => ∃ kvs k, DN K P w H6 D kvs ∧ KeyD K H6 y k ∧ kvs.length < sizeLine ∧ ∀ H7, Chg H6 H7 D → DN K P w H7 D (putN kvs k z) → Nx H7 else Nx H4)
theorem dcG_core {pins : List (Addr × Obj)} {s : Shared} {σ : L2.St} {H : Hp} {Q : VK} {pos' : Pos} {use : Option (Value → Sem Unit)} {Qf : Value → Shared → Prop} {kx vx tg i0 : Expr} {ifs : List Expr} {pos : Pos} {scope : Scope} {own : List (Str × Nat)} {wi : TI} {g : TG} {tt : TT} {tk tv : TE} (hc : X.calm = true) (hN : X.N.Nodup) (hu : X.A.units + 64 < cLine) (ok : BlkOk X.N X.env.scope scope own)
    (hi : PI X tg i0 wi)
    (hg : ∀ (s : Shared) (H : Hp) (C : Addr) (cl : List (Str × Addr)) (fp : List Addr), PG (X.blk s H scope (compEnvC scope cl C X.env) fp) tg g)
    (ht : ∀ (s : Shared) (H : Hp) (C : Addr) (cl : List (Str × Addr)) (fp : List Addr), PTs (X.blk s H scope (compEnvC scope cl C X.env) fp) ifs tt)
    (hk : ∀ (s : Shared) (H : Hp) (C : Addr) (cl : List (Str × Addr)) (fp : List Addr), PE (X.blk s H scope (compEnvC scope cl C X.env) fp) kx tk)
    (hv : ∀ (s : Shared) (H : Hp) (C : Addr) (cl : List (Str × Addr)) (fp : List Addr), PE (X.blk s H scope (compEnvC scope cl C X.env) fp) vx tv)
    (hs : ∀ x, foldedSetIterable i0 X.env x = pure x) (I : Inv X pins σ H s) (h : tDcG X.K X.prog X.w wi g tt tk tv (own.map (·.2)) σ H Q)
    (fin : ∀ D C s' m H', Inv X pins σ H' s' → Q (.ref D) H' → s'.heap.Ns C m → FpOk X pins H' C → compPost (model X.prog X.w) X.A X.xe use Qf (.ref D) C (.ok .next) s') :
    wpAny (model X.prog X.w) X.A (comprehension (.DictComp kx vx [⟨tg, i0, ifs, 0⟩] scope pos) scope X.env pos' newDict false (eval i0 X.env) use) Qf X.xe s := by
  have hfree : ∀ y ∈ scope.names, y.2 = .free → ∃ c, X.env.cells.lookup y.1 = some c := fun y hy e => by
    rcases ok.free y hy e with k | k
    · exact I.ok.has _ (.inl k)
    · exact I.ok.has _ (.inr k)
  refine wpAny_comprehension_free (use := use) rfl hs (closure_ok hfree) ok.kind (fun y hy e => by rw [ok.uniq y hy, e])
    (thn (hi.run pins s σ H _ I h) fun xv s1 hx => thn hx fun itv s2 h2 => ?_)
  obtain ⟨it, fp, tn, J, H2, e, I2, T, st2, f2, q⟩ := h2
  subst e
  refine wpAny_newObj_type (newEnv_comp ?_)
  generalize hD : s2.heap.objs.size = D
  have hDn : H2 D = none := I2.hok.fresh (Nat.le_of_eq hD)
  generalize hs3 : ({ s2 with heap := s2.heap.push { cls := .type "dict", data := .dict #[] } } : Shared) = s3
  have h3 : s3.heap = s2.heap.push { cls := .type "dict", data := .dict #[] } := by rw [← hs3]
  have d0 : Dn0 X.prog X.w s3.heap D [] := by
    refine ⟨?_, Nat.zero_le _, [], .nil, { cls := .type "dict", data := .dict #[] }, #[], 0, ?_, ⟨rfl, rfl, rfl⟩, rfl, rfl, List.nodup_nil⟩
    · rw [← hD]
      exact beq_eq_false_iff_ne.mpr (Nat.ne_of_gt I2.big)
    · rw [h3, ← hD]
      exact Heap.get?_push_size _ rfl
  obtain ⟨W, ⟨m0, w0⟩, turn⟩ := q D (upd H2 D (DNO X.prog X.w D [])) (new_upd hDn d0) (dn_nil d0)
  have I3 : Inv X pins σ (upd H2 D (DNO X.prog X.w D [])) s3 := by
    rw [← hs3]
    refine I2.laid (t' := s2.toks) (fun b o e => Heap.get?_push_of_some _ e) (Nat.le_of_eq hD) ?_
    rw [← h3]
    exact dno_ok d0
  have f3 : ∀ b ∈ fp, FpOk X pins (upd H2 D (DNO X.prog X.w D [])) b ∧ b < s3.heap.objs.size := fun b hb => by
    obtain ⟨o, e, _⟩ := T.obj _ _ st2 b hb
    have hlt := Heap.lt_size e
    refine ⟨⟨?_, (f2 b hb).2⟩, by rw [h3, Heap.size_push]; exact Nat.lt_succ_of_lt hlt⟩
    rw [upd_ne (by rw [← hD]; exact Nat.ne_of_lt hlt)]
    exact (f2 b hb).1
  have st3 : tn 0 s3.heap := T.keep _ _ _ st2 fun b _ o e => by rw [h3]; exact Heap.get?_push_of_some _ e
  have I4 := block_start I3 ok hN f3
  have pgg := hg s3 (upd H2 D (DNO X.prog X.w D [])) s3.heap.objs.size (cellsFrom (s3.heap.objs.size + 1) scope.names (cloFrom X.env.cells scope.names [])) fp
  have ptt := ht s3 (upd H2 D (DNO X.prog X.w D [])) s3.heap.objs.size (cellsFrom (s3.heap.objs.size + 1) scope.names (cloFrom X.env.cells scope.names [])) fp
  have pkk := hk s3 (upd H2 D (DNO X.prog X.w D [])) s3.heap.objs.size (cellsFrom (s3.heap.objs.size + 1) scope.names (cloFrom X.env.cells scope.names [])) fp
  have pvv := hv s3 (upd H2 D (DNO X.prog X.w D [])) s3.heap.objs.size (cellsFrom (s3.heap.objs.size + 1) scope.names (cloFrom X.env.cells scope.names [])) fp
  have hsc : (compEnvC scope (cellsFrom (s3.heap.objs.size + 1) scope.names (cloFrom X.env.cells scope.names [])) s3.heap.objs.size X.env).locals = s3.heap.objs.size := rfl
  show codeAny _ _ (.compStart (.DictComp kx vx [⟨tg, i0, ifs, 0⟩] scope pos) 0 (.ref it) (.ref D) (compEnvC scope (cellsFrom (s3.heap.objs.size + 1) scope.names (cloFrom X.env.cells scope.names [])) s3.heap.objs.size X.env)) (compPost (model X.prog X.w) X.A X.xe use Qf (.ref D) s3.heap.objs.size) { s3 with heap := pushCells (s3.heap.push { cls := .type "dict", data := .dict #[] }) scope.names }
  generalize hce : compEnvC scope (cellsFrom (s3.heap.objs.size + 1) scope.names (cloFrom X.env.cells scope.names [])) s3.heap.objs.size X.env = ce at I4 pgg ptt pkk pvv hsc ⊢
  have nfp : ∀ b ∈ fp, (upd H2 D (DNO X.prog X.w D [])) b = none := fun b hb => (f3 b hb).1.1
  generalize hH3 : upd H2 D (DNO X.prog X.w D []) = H3 at I3 I4 pgg ptt pkk pvv w0 nfp f3
  generalize hs4 : ({ s3 with heap := pushCells (s3.heap.push { cls := .type "dict", data := .dict #[] }) scope.names } : Shared) = s4 at I4 ⊢
  have st4 : tn 0 s4.heap := T.keep _ _ _ st3 fun b _ o e => by rw [← hs4]; exact pushCells_keeps _ _ _ _ (Heap.get?_push_of_some _ e)
  have fpB : ∀ {τ : L2.St} {G : Hp} {t : Shared}, Inv (X.blk s3 H3 scope ce fp) [] τ G t → (∀ b ∈ fp, G b = none) → ∀ b ∈ fp, FpOk (X.blk s3 H3 scope ce fp) [] G b := fun {τ G t} J hn b hb =>
    ⟨hn b hb, (J.ok.exf b hb).1, J.ok.exfs b hb, .inl hb, fun y c e => (J.ok.exf b hb).2 y c e, fun p hp => absurd (show p ∈ ([] : List (Addr × Obj)) ++ [] from hp) (by simp)⟩
  have loop : codeAny (model X.prog X.w) X.A (.compLoop (.DictComp kx vx [⟨tg, i0, ifs, 0⟩] scope pos) 0 (.ref it) (.ref D) ce) (compPost (model X.prog X.w) X.A X.xe use Qf (.ref D) s3.heap.objs.size) s4 := by
    refine compLoop_anyD (fun n t => ∃ j G, Inv (X.blk s3 H3 scope ce fp) [] (wipe σ (own.map (·.2))) G t ∧ tn j t.heap ∧ (∀ b ∈ fp, G b = none) ∧ W j n G) ?_ m0 ⟨0, H3, I4, st4, nfp, w0⟩
    rintro n t1 ⟨j, G1, J1, tt1, n1, w1⟩
    rcases turn j n G1 w1 with ⟨stop, qq⟩ | ⟨go, Nx, hNx, step⟩
    · refine thnF (T.done (X.blk s3 H3 scope ce fp) rfl rfl rfl hc j [] t1 _ G1 (fun _ _ => False) J1 (fpB J1 n1) tt1 stop) fun r t2 ⟨er, J2⟩ => ?_
      subst er
      have J3 : Inv X pins σ G1 t2 := I3.call' (ch := fp) J2.os J2.base J2.hok J2.bare fun b hb => ⟨(f3 b hb).1.2.2.2.1, (f3 b hb).1.2.1, (f3 b hb).1.2.2.2.2.1, (f3 b hb).1.2.2.2.2.2⟩
      have nC : G1 s3.heap.objs.size = none := by
        have z : G1 ce.locals = none := J2.free
        rwa [hsc] at z
      obtain ⟨m, hn, _⟩ := J2.loc
      have hn : t2.heap.Ns ce.locals m := hn
      rw [hsc] at hn
      exact fin D s3.heap.objs.size t2 m G1 J3 qq hn (I3.fpOk (Nat.le_refl _) nC)
    · refine thnF (T.item (X.blk s3 H3 scope ce fp) rfl rfl rfl hc j [] t1 _ G1 (fun _ _ => False) J1 (fpB J1 n1) tt1 go) fun r t2 ⟨u, er, ha⟩ => ?_
      subst er
      refine thnF ha fun _ t3 ⟨y, G3, J3, r3, y3, st5, n3⟩ => ?_
      have J3p := J3.pinned (fpB J3 n3) (T.obj _ _ st5)
      refine thnF (pgg.run _ t3 _ G3 y u _ J3p r3 (step y G3 y3)) fun _ t4 ⟨τ, G4, J4, hw, q4⟩ => ?_
      refine thnF (ptt.run _ t4 τ G4 _ J4 q4) fun b t5 ⟨G5, J5, q5⟩ => ?_
      have back : ∀ {t : Shared} {G : Hp}, Inv (X.blk s3 H3 scope ce fp) ([] ++ pinsAt fp t3.heap) τ G t → Nx G → ∃ m, m < n ∧ ∃ j G, Inv (X.blk s3 H3 scope ce fp) [] (wipe σ (own.map (·.2))) G t ∧ tn j t.heap ∧ (∀ b ∈ fp, G b = none) ∧ W j m G := fun {t G} Jt nx => by
        obtain ⟨m', hm, w'⟩ := hNx G nx
        have old : ∀ b ∈ fp, ∀ o, t3.heap.get? b = some o → t.heap.get? b = some o ∧ G b = none := fun b hb o e => by
          have z := Jt.pin (b, o) (List.mem_append_right _ (List.mem_append_right _ (mem_pinsAt hb e)))
          exact ⟨z.1, z.2.1⟩
        refine ⟨m', hm, j + 1, G, (Jt.unpinned (pins := [])).weak (by rw [← hw, wipe_length]) (fun k v e => ?_), T.keep _ _ _ st5 fun b hb o e => (old b hb o e).1, fun b hb => ?_, w'⟩
        · rw [← hw] at e
          exact (wipe_some e).1
        · obtain ⟨o, e, _⟩ := T.obj _ _ st5 b hb
          exact (old b hb o e).2
      cases b with
      | false =>
        rw [if_neg (by decide)] at q5 ⊢
        exact back J5 q5
      | true =>
        rw [if_pos rfl] at q5 ⊢
        refine thnF (pkk.run _ t5 τ G5 _ J5 q5) fun zk t6 ⟨yk, G6, J6, r6, q6⟩ => ?_
        refine thnF (pvv.run _ t6 τ G6 _ J6 q6) fun zv t7 ⟨yv, G7, J7, r7, kvs, k, dn, hkd, hz, nx⟩ => ?_
        obtain ⟨b', rfl⟩ := hkd.ref
        cases r6
        refine put_ok (X := X.blk s3 H3 scope ce fp) J7 dn hkd hz r7 (fun xs hsz D' g => wpAny_dictSet_heap (knd := kn X.prog X.w) (hsz := hsz) (by show X.A.units + 8 < cLine; omega) (hkd.is (X := X.blk s3 H3 scope ce fp) J7) D' fun h' D2 sb => g h' _ D2 sb) fun t8 G8 J8 c8 d8 => ?_
        exact back J8 (nx G8 c8 d8)
  exact codeAny_compStart_dict loop (T.self X.A 0 _ _ _ st4 loop)
theorem pe_dcG {kx vx tg i0 : Expr} {ifs : List Expr} {pos : Pos} {scope : Scope} {own : List (Str × Nat)} {wi : TI} {g : TG} {tt : TT} {tk tv : TE} (hc : X.calm = true) (hN : X.N.Nodup) (hu : X.A.units + 64 < cLine) (ok : BlkOk X.N X.env.scope scope own)
    (hi : PI X tg i0 wi)
    (hg : ∀ (s : Shared) (H : Hp) (C : Addr) (cl : List (Str × Addr)) (fp : List Addr), PG (X.blk s H scope (compEnvC scope cl C X.env) fp) tg g)
    (ht : ∀ (s : Shared) (H : Hp) (C : Addr) (cl : List (Str × Addr)) (fp : List Addr), PTs (X.blk s H scope (compEnvC scope cl C X.env) fp) ifs tt)
    (hk : ∀ (s : Shared) (H : Hp) (C : Addr) (cl : List (Str × Addr)) (fp : List Addr), PE (X.blk s H scope (compEnvC scope cl C X.env) fp) kx tk)
    (hv : ∀ (s : Shared) (H : Hp) (C : Addr) (cl : List (Str × Addr)) (fp : List Addr), PE (X.blk s H scope (compEnvC scope cl C X.env) fp) vx tv)
    (hs : ∀ x, foldedSetIterable i0 X.env x = pure x := by intro _; rfl) :
    PE X (.DictComp kx vx [⟨tg, i0, ifs, 0⟩] scope pos) (tDcG X.K X.prog X.w wi g tt tk tv (own.map (·.2))) := by
  refine ⟨fun pins s σ H Q I h => ?_⟩
  rw [arm_eval_DictComp]
  refine dcG_core hc hN hu ok hi hg ht hk hv hs I h fun D C s' m H' J q hn f => ⟨m, hn, fun h'' sb => ?_⟩
  obtain ⟨f0, f1, f2, f3, f4, f5⟩ := f
  exact ⟨.ref D, H', J.turned (t' := s'.toks) (fun b o hb e => (sb.2 b hb).trans e) f0 f1 f3 f4 f5, rfl, q⟩
end
end GD
end

section
set_option Elab.async false
set_option linter.all false
set_option maxRecDepth 100000
set_option maxHeartbeats 2000000
/-! {} and `not in`, keys of any depth. -/
namespace GD
open PySem PySem.Spec PyProof.Rows L2
section
variable {prog : Program} {w : World} {K : Type} [DecidableEq K] {knd : HeapKind prog w K} {A : Around} {E : Value → Shared → Prop} {s : Shared} {d a : Addr} {k : K} {xs : List (K × Addr × Value)}
theorem wpAny_notin_heap {Q : Value → Shared → Prop} (hu : knd.room A.in1) (hkey : knd.is s.heap k a) (hd : (d == sysModules) = false) (hm : s.heap.DictOfH knd d xs)
    (h : Q (.bool (!(atKey xs k).isSome)) { s with toks := s.toks + knd.draws k }) : wpAny (model prog w) A (compareOp .NotIn (.ref a) (.ref d)) Q E s := by
  show wpAny _ _ (do return .bool (!(← contains (.ref d) (.ref a)))) Q E s
  refine wpAny_bind ?_
  unfold contains
  try with_reducible refine wpAny_holding ?_
  refine wpAny_bind (wpAny_specialOf hm.typeIs slot_dict_contains.lookup ?_)
  show wpAny _ _ (if (some (Value.builtin "dict.__contains__") == some Value.none) = true then _ else _) _ E s
  rw [if_neg (by rw [beq_builtin_none]; exact Bool.false_ne_true)]
  refine wpAny_bind (wpAny_callSpecialUnlessNone?_slot (name := Str.ofString "__contains__") hm.typeIs slot_dict_contains
    (wpAny_call_entry slot_dict_contains hm.typeIs entry_dict_contains ?_ (args_dict_contains _ _)))
  show wpAny _ _ (dictGet d (.ref a) >>= _) _ _ s
  refine wpAny_bind (wpAny_dictGet_heap hu hkey hm ?_)
  cases hf : atKey xs k with
  | some p =>
    rw [hf] at h
    show wpAny _ _ (ret (.bool true)) _ _ _
    exact wpAny_pure ⟨_, rfl, wpAny_truthy_bool (wpAny_pure h)⟩
  | none =>
    rw [hf] at h
    show wpAny _ _ (Builtin.Dict.pendingKey? d (.ref a) >>= _) _ _ _
    exact wpAny_bind (wpAny_pendingKey_other hd (wpAny_pure ⟨_, rfl, wpAny_truthy_bool (wpAny_pure h)⟩))
end
section
variable {X : Cx} {pins : List (Addr × Obj)} {σ : L2.St} {H : Hp} {s : Shared}
def rNotInN (K : PySem.W.Frag) (P : Program) (w : World) : R2 := fun x y H Q => ∃ a kvs k, y = .ref a ∧ DN K P w H a kvs ∧ KeyD K H x k ∧ Q (.bl (!(valN kvs k).isSome)) H
theorem op_notInN (hu : X.A.units + 64 < cLine) : OpR X (compareOp .NotIn) (rNotInN X.K X.prog X.w) := by
  intro pins s σ H x y v u Q I rx ry h
  obtain ⟨a, kvs, k, rfl, d, hk, q⟩ := h
  obtain ⟨b, rfl⟩ := hk.ref
  cases rx
  cases ry
  obtain ⟨L, xs, e, ek, hks, hm, z, r, D⟩ := d.full I
  refine wpAny_notin_heap (knd := kn X.prog X.w) (by show X.A.units + 1 + 8 < cLine; omega) (hk.is I) hm D ⟨.bl (!(valN kvs k).isSome), H, I.tok _, ?_, q⟩
  rw [← ek]
  rcases rows_val (k := k) r with ⟨e1, e2⟩ | ⟨v, b, u, e1, e2, _⟩
  · rw [e1, e2]; rfl
  · rw [e1, e2]; rfl
/-- {} -/
def tD0 (K : PySem.W.Frag) (P : Program) (w : World) : TE := fun σ H Q => ∀ D H', New H H' D → DN K P w H' D [] → Q (.ref D) H'
theorem pe_d0 {pos : Pos} : PE X (.Dict [] [] pos) (tD0 X.K X.prog X.w) := ⟨fun pins s σ H Q I h => by
  have d0 : Dn0 X.prog X.w (s.heap.push { cls := .type "dict", data := .dict #[] }) s.heap.objs.size [] := by
    refine ⟨beq_eq_false_iff_ne.mpr (Nat.ne_of_gt I.big), Nat.zero_le _, [], .nil, { cls := .type "dict", data := .dict #[] }, #[], 0, ?_, ⟨rfl, rfl, rfl⟩, rfl, rfl, List.nodup_nil⟩
    exact Heap.get?_push_size _ rfl
  have hf : H s.heap.objs.size = none := I.hok.fresh (Nat.le_refl _)
  exact wpAny_Dict_empty ⟨.ref s.heap.objs.size, _, I.laid (t' := s.toks) (fun _ _ q => Heap.get?_push_of_some _ q) (Nat.le_refl _) (dno_ok d0), rfl, h _ _ (new_upd hf d0) (dn_nil d0)⟩⟩
end
end GD
end

section
set_option Elab.async false
set_option linter.all false
set_option maxRecDepth 100000
set_option maxHeartbeats 2000000
/-! The keys of a dict whose keys are tuples, one after another. -/
namespace GD
open PySem PySem.Spec PyProof.Rows L2
/-- the dict's own object, its entries -/
def Pin (P : Program) (w : World) (a : Addr) (o : Obj) (L : List Row) (h : Heap) : Prop := h.get? a = some o ∧ Dn0 P w h a L
theorem pin_ok {P : Program} {w : World} {H : Hp} {h : Heap} {a : Addr} {o : Obj} {L : List Row} (x : Pin P w a o L h) : ObjOk P w H h a (.ext (Pin P w a o L)) := by
  refine ⟨x, ⟨o, x.1⟩, fun h1 h2 q k => ?_⟩
  obtain ⟨e0, y, z, xs, r, o', es, ep, e, c⟩ := q
  exact ⟨k o e0, y, z, xs, r, o', es, ep, k o' e, c⟩
theorem pin_code {P : Program} {w : World} {h : Heap} {a : Addr} {o : Obj} {L : List Row} (x : Pin P w a o L h) : ∀ q, HO.ext (Pin P w a o L) ≠ LamX.CodeO a q := by
  intro q e
  have f : Pin P w a o L = fun h => ∃ (oc : Obj) (vs : Array Value) (t : Tok), h.get? a = some oc ∧ oc.data = .fields vs ∧ vs[1]? = some (.str q t) := by
    unfold LamX.CodeO at e
    exact HO.ext.inj e
  have g := congrFun f h
  rw [eq_iff_iff] at g
  obtain ⟨oc, vs, t, e1, e2, _⟩ := g.mp x
  obtain ⟨_, _, _, xs, _, o', es, ep, e3, _, e4, _⟩ := x
  rw [e1] at e3
  cases e3
  rw [e2] at e4
  cases e4
/-- the dict at a, of which nothing changes while its keys are told -/
structure Pinned (K : PySem.W.Frag) (P : Program) (w : World) (H : Hp) (a : Addr) (o : Obj) (L : List Row) (kvs : List (NestedKey × V)) : Prop where
  at_ : H a = some (.ext (Pin P w a o L))
  ek : (L.map fun p => (p.1, p.2.2)) = kvs
  keys : ∀ p ∈ L, KeyD K H (.ref p.2.1) p.1
  nc : ∀ q, H a ≠ some (LamX.CodeO a q)
theorem Pinned.dn {K : PySem.W.Frag} {P : Program} {w : World} {H : Hp} {a : Addr} {o : Obj} {L : List Row} {kvs : List (NestedKey × V)} (p : Pinned K P w H a o L kvs) : DN K P w H a kvs := ⟨_, L, p.at_, fun _ x => x.2, p.ek, p.keys, p.nc⟩
def Itn (K : PySem.W.Frag) (P : Program) (w : World) (a : Addr) (o : Obj) (L : List Row) (kvs : List (NestedKey × V)) : It :=
  ⟨fun i H => Pinned K P w H a o L kvs ∧ i < kvs.length, fun i H x H' => H' = H ∧ ∃ k v, kvs[i]? = some (k, v) ∧ KeyD K H x k, fun i H => Pinned K P w H a o L kvs ∧ kvs.length ≤ i⟩
theorem entry_is {P : Program} {w : World} {es : Array DictEntry} {xs : List RowV} (h : es.toList = xs.map (entryOfKey (kn P w))) {i : Nat} {x : RowV} (hx : xs[i]? = some x) : ∃ en, es[i]? = some en ∧ en.key = .ref x.2.1 := by
  refine ⟨entryOfKey (kn P w) x, ?_, rfl⟩
  rw [← Array.getElem?_toList, h, List.getElem?_map, hx]
  rfl
theorem turn_keysN {P : Program} {w : World} {K : PySem.W.Frag} {tg : Expr} {a : Addr} {o : Obj} {es : Array DictEntry} {ep : Nat} {L : List Row} {kvs : List (NestedKey × V)} (it : Addr) (hod : o.data = .dict es ep) :
    Turn P w K tg (Itn K P w a o L kvs) [it] it (fun i h => h.IsKeyIter it a i kvs.length ep) where
  mem := by simp
  obj := fun i h st b hb => by
    have e : b = it := by simpa using hb
    subst e
    obtain ⟨oi, e, c, dd⟩ := st
    exact ⟨oi, e, fun v z => by rw [dd] at z; cases z⟩
  keep := fun i h h' st k => st.at fun oi e => k it (by simp) oi e
  item := by
    intro X hP hw hK hc i pins s σ H E I hf st hg
    subst hP hw hK
    obtain ⟨hd, hi⟩ := hg
    obtain ⟨f0, f1, f2, f3, f4, f5⟩ := hf it (by simp)
    obtain ⟨⟨ho, y, z, xs, r, o', es', ep', h1, h2, h3, h4, h5⟩, _, _⟩ := I.hok a _ hd.at_
    rw [ho] at h1
    cases h1
    rw [hod] at h3
    cases h3
    have l1 := rows_len r
    have l2 : kvs.length = L.length := by rw [← hd.ek, List.length_map]
    have l3 : es.size = xs.length := by rw [← Array.length_toList, h4, List.length_map]
    have hLi : L[i]? = some (L[i]'(by omega)) := List.getElem?_eq_getElem (by omega)
    generalize L[i]'(by omega) = p at hLi
    obtain ⟨x, hx, hr⟩ := paired_get r hLi
    obtain ⟨en, hen, hkey⟩ := entry_is h4 hx
    have hkv : kvs[i]? = some (p.1, p.2.2) := by rw [← hd.ek, List.getElem?_map, hLi]; rfl
    refine next_key_item st ho hod (by omega) hen fun h' st' sb => ?_
    have I1 : Inv X pins σ H { s with heap := h' } := I.turned (t' := s.toks) (fun b ob hb e => (sb.2 b hb).trans e) f0 f1 f3 f4 f5
    obtain ⟨oi, e, c, dd⟩ := id st'
    refine ⟨en.key, rfl, go_of (s := { s with heap := h' }) e c dd (by decide) ⟨.ref p.2.1, H, I1, ?_, ⟨rfl, p.1, p.2.2, hkv, hd.keys p (List.mem_of_getElem? hLi)⟩, st', fun b hb => (hf b hb).1⟩⟩
    rw [hkey, hr.2.1]
    rfl
  done := by
    intro X hP hw hK hc i pins s σ H E I hf st hg
    subst hP hw hK
    obtain ⟨hd, hi⟩ := hg
    obtain ⟨f0, f1, f2, f3, f4, f5⟩ := hf it (by simp)
    obtain ⟨⟨ho, y, z, xs, r, o', es', ep', h1, h2, h3, h4, h5⟩, _, _⟩ := I.hok a _ hd.at_
    rw [ho] at h1
    cases h1
    rw [hod] at h3
    cases h3
    have l1 := rows_len r
    have l2 : kvs.length = L.length := by rw [← hd.ek, List.length_map]
    have l3 : es.size = xs.length := by rw [← Array.length_toList, h4, List.length_map]
    exact next_key_end (I.ok.hd hc) st ho hod (by omega) hi fun h' eb => ⟨rfl, I.turned (t' := s.toks) (fun b o hb e => eb b o hb e) f0 f1 f3 f4 f5⟩
  self := fun A i s Q E st h => wpAny_pyIter_keyiter st h
section
variable {X : Cx} {tg e : Expr} {td : TE}
def iKeysN (K : PySem.W.Frag) (P : Program) (w : World) (td : TE) : TI := fun σ H R => td σ H fun x H1 => ∃ a kvs, x = .ref a ∧ DN K P w H1 a kvs ∧ ∀ o L H2, Chg H1 H2 a → Pinned K P w H2 a o L kvs → R (Itn K P w a o L kvs) H2
theorem pi_keysN (he : PE X e td) : PI X tg e (iKeysN X.K X.prog X.w td) := by
  refine ⟨fun pins s σ H R I h => ?_⟩
  refine thn (he.run pins s σ H _ I h) fun u s1 ⟨x, H1, I1, rx, a, kvs, ex, d, q⟩ => ?_
  subst ex
  obtain rfl : u = Value.ref a := rx
  obtain ⟨φ, L, e0, hφ, ek, hk, nc⟩ := d
  obtain ⟨x0, _, _⟩ := I1.hok a _ e0
  have x1 := hφ _ x0
  obtain ⟨hs, z, xs, r, o, es, ep, h1, h2, h3, h4, h5⟩ := x1
  have pn : Pin X.prog X.w a o L s1.heap := ⟨h1, hs, z, xs, r, o, es, ep, h1, h2, h3, h4, h5⟩
  have c : Chg H1 (upd H1 a (.ext (Pin X.prog X.w a o L))) a := ⟨fun b n => upd_ne n, ⟨_, upd_same⟩, ⟨_, e0⟩, nc⟩
  have I2 : Inv X pins σ (upd H1 a (.ext (Pin X.prog X.w a o L))) s1 := d_write (h' := s1.heap) (t' := s1.toks) I1 (by rw [e0]; exact True.intro) ⟨rfl, fun _ _ => rfl⟩ ⟨o, h1⟩ (pin_ok pn)
  have pd : Pinned X.K X.prog X.w (upd H1 a (.ext (Pin X.prog X.w a o L))) a o L kvs := ⟨upd_same, ek, fun p hp => (hk p hp).chg c, fun q' z' => ?_⟩
  · have l1 := rows_len r
    have l2 : kvs.length = L.length := by rw [← ek, List.length_map]
    have l3 : es.size = xs.length := by rw [← Array.length_toList, h4, List.length_map]
    refine iter_keys hs h1 h2 h3 (pi_one (tk := s1.toks) I2 _ (turn_keysN _ h3) ⟨_, Heap.get?_push_size _ rfl, rfl, ?_⟩ (q o L _ c pd))
    rw [show kvs.length = es.size by omega] <;> rfl
  · rw [upd_same] at z'
    exact pin_code pn q' (Option.some.inj z')
/-! ### d.get(k, x) -/
variable {f : Expr} {tx ty : TE} {apos cpos : Pos}
def tGet2N (K : PySem.W.Frag) (P : Program) (w : World) (td ty tx : TE) : TE := fun σ H Q => td σ H fun x H1 => ∃ a kvs0, x = .ref a ∧ DN K P w H1 a kvs0 ∧ ty σ H1 fun y H2 => tx σ H2 fun z H3 => ∃ kvs k, DN K P w H3 a kvs ∧ KeyD K H3 y k ∧ Q ((valN kvs k).getD z) H3
theorem pe_get2N {o e : Expr} (hu : X.A.units + 64 < cLine) (ho : PE X o td) (he : PE X e ty) (hf : PE X f tx) (m : M2 X o "get" apos e f cpos) : PE X (.Call (.Attribute o "get" apos) [e, f] [] cpos) (tGet2N X.K X.prog X.w td ty tx) := by
  refine ⟨fun pins s σ H Q I h => ?_⟩
  refine wpAny_Call_method m.base m.few m.line PySem.F.plainAttrs_dict PySem.F.slot_dict_get PySem.F.type_dict_get (thn (ho.run pins s σ H _ I h) fun u s1 ⟨x, H1, I1, rx, a, kvs0, ex, d, q1⟩ => ?_)
  subst ex
  obtain rfl : u = Value.ref a := rx
  obtain ⟨L0, xs0, _, _, _, _, _, _, D0⟩ := d.full I1
  refine ⟨D0.typeIs, fun b q => ?_, ?_⟩
  · cases q
    obtain ⟨ob, _, _, h1, h2, _⟩ := D0
    exact ⟨ob, h1, h2.2.1⟩
  rw [m.trees]
  refine Calls.callWith_builtin rfl (Calls.evalArgs_plain (Calls.spliced_cons (thn (he.run pins s1 σ H1 _ I1 q1) fun iv s2 ⟨y, H2, I2, ry, q2⟩ =>
    Calls.spliced_cons (thn (hf.run pins s2 σ H2 _ I2 q2) fun fv s3 ⟨z, H3, I3, rz, kvs, k, d3, hk, q3⟩ => Calls.spliced_nil ?_))))
  obtain ⟨b, rfl⟩ := hk.ref
  obtain rfl : iv = Value.ref b := ry
  obtain ⟨L, xs, ⟨φ, e0⟩, ek, hks, hsm, zz, r, D⟩ := d3.full I3
  refine call_meetsIn PySem.F.slot_dict_get D.typeIs PySem.F.entry_dict_get (PySem.F.args_dict_get_3 _ _ _) (meetsH_dict_get_default (kn X.prog X.w) a b hsm fv) ⟨by show X.A.units + 1 + 8 < cLine; omega, k, xs, hk.is I3, D, ⟨(valN kvs k).getD z, H3, I3.tok _, ?_, q3⟩⟩
  rw [← ek]
  rcases rows_val (k := k) r with ⟨e1, e2⟩ | ⟨v', b', u', e1, e2, e3⟩
  · rw [e1, e2]
    exact rz
  · rw [e1, e2]
    exact e3
end
end GD
end

section
set_option Elab.async false
set_option linter.all false
set_option maxRecDepth 100000
set_option maxHeartbeats 2000000
/-! how many entries a dict with tuple keys has -/
namespace GD
open PySem PySem.Spec PyProof.Rows L2
variable {X : Cx}
def rLenN (K : PySem.W.Frag) (P : Program) (w : World) : List V → Hp → VK → Prop := fun xs H Q => ∃ (a : Addr) (kvs : List (NestedKey × V)), xs = [.ref a] ∧ DN K P w H a kvs ∧ Q (.int ((kvs.length : Nat) : Int)) H
theorem call_lenN : CallR X (.builtin "len") (rLenN X.K X.prog X.w) := by
  intro pins s σ H xs us Q I r h
  obtain ⟨a, kvs, rfl, d, q⟩ := h
  cases r with
  | cons r1 r2 =>
    cases r2
    cases r1
    obtain ⟨L, ys, _, ek, _, hd, hz, rel, dd⟩ := d.full I
    have hl : kvs.length = ys.length := by rw [← ek, List.length_map]; exact rows_len rel
    have hz2 : L.length = ys.length := rows_len rel
    refine call_len_dictH hd dd (by rw [sizeLine_eq] at hz; omega) ?_
    rw [← hl]
    exact ⟨.int ((kvs.length : Nat) : Int), H, I.tok _, ⟨_, rfl⟩, q⟩
end GD
end

section
set_option Elab.async false
set_option linter.all false
set_option maxRecDepth 100000
set_option maxHeartbeats 4000000
/-! walks and comprehensions over the keys of a dict, whatever each turn gives -/
namespace LP
open PySem PySem.Spec PyProof.Rows L2 Ly GY
section
variable [LamTab] {P : Program} {W0 : World} {K : PySem.W.Frag} {mg : Str → Option Value} {base : Heap}
theorem pin_keep {S : List Addr} {H H' : Hp} {a : Addr} {o : Obj} {L : List GD.Row} {kvs : List (NestedKey × V)} (k : Kp S H H') (n : a ∉ S) (p : GD.Pinned K P W0 H a o L kvs) : GD.Pinned K P W0 H' a o L kvs := by
  have e' := k.keep a _ p.at_ n fun ps z => by cases z
  exact ⟨e', p.ek, fun r hr => key_mono k (p.keys r hr), fun q z => p.nc q (by rw [p.at_, ← e', z])⟩
theorem walk_keysK {a : Addr} {o : Obj} {Lr : List GD.Row} {kvs : List (NestedKey × V)} : Walk (GD.Itn K P W0 a o Lr kvs) kvs.length (fun H => GD.Pinned K P W0 H a o Lr kvs) (fun i H x H' => H' = H ∧ ∃ k v, kvs[i]? = some (k, v) ∧ GD.KeyD K H x k) :=
  ⟨fun i H hi p => ⟨p, hi⟩, fun H p => ⟨p, Nat.le_refl _⟩, fun i H x H' _ p y => y⟩
theorem paired_snoc {α β : Type} {R : α → β → Prop} {x : α} {y : β} (h : R x y) : ∀ {xs : List α} {ys : List β}, Paired R xs ys → Paired R (xs ++ [x]) (ys ++ [y])
  | _, _, .nil => .cons h .nil
  | _, _, .cons a t => .cons a (paired_snoc h t)
theorem paired_imp {α β : Type} {R R' : α → β → Prop} (h : ∀ x y, R x y → R' x y) : ∀ {xs : List α} {ys : List β}, Paired R xs ys → Paired R' xs ys
  | _, _, .nil => .nil
  | _, _, .cons a t => .cons (h _ _ a) (paired_imp h t)
theorem paired_len {α β : Type} {R : α → β → Prop} : ∀ {xs : List α} {ys : List β}, Paired R xs ys → xs.length = ys.length
  | _, _, .nil => rfl
  | _, _, .cons _ t => by rw [List.length_cons, List.length_cons, paired_len t]
theorem paired_fst {α β : Type} {R : α → β → Prop} : ∀ {xs : List α} {ys : List β} {i : Nat} {x : α}, Paired R xs ys → xs[i]? = some x → ∃ y, ys[i]? = some y ∧ R x y
  | _, _, 0, _, .cons a _, h => ⟨_, rfl, by rw [← Option.some.inj h]; exact a⟩
  | _, _, i + 1, _, .cons _ t, h => paired_fst (i := i) t h
theorem val_at {kvs : List (NestedKey × V)} (nd : (kvs.map (·.1)).Nodup) {k : NestedKey} {v : V} (m : (k, v) ∈ kvs) : GD.valN kvs k = some v := by
  induction kvs with
  | nil => cases m
  | cons q kvs ih =>
    rw [List.map_cons, List.nodup_cons] at nd
    unfold GD.valN
    rw [List.find?_cons]
    rcases List.mem_cons.mp m with e | m
    · rw [← e]
      simp
    · have ne : ¬ q.1 = k := fun e => nd.1 (by rw [e]; exact List.mem_map.mpr ⟨(k, v), m, rfl⟩)
      rw [decide_eq_false ne]
      exact ih nd.2 m
/-- over the keys of a dict: what each gives, whatever it is -/
theorem lc_keysA {a D : Addr} {o : Obj} {L : List GD.Row} {kvs : List (NestedKey × V)} {H1 : Hp} {g : TG} {tt : TT} {te : TE} {vs : List Nat} {σ : L2.St} {Qd : Hp → Prop} (R : V → NestedKey × V → Hp → Prop) (mono : ∀ S H H' y kv, (∀ b ∈ S, b = D) → Kp S H H' → R y kv H → R y kv H') (hD : H1 D = none) (hn : kvs.length ≤ 100000) (hp : GD.Pinned K P W0 H1 a o L kvs)
    (hs : ∀ (i : Nat) (x : V) (k : NestedKey) (v : V) (H' : Hp) (Nx : V → Hp → Prop) (Z : Hp → Prop), kvs[i]? = some (k, v) → Kp [] H1 H' → GD.Pinned K P W0 H' a o L kvs → GD.KeyD K H' x k → (∀ H'' y, Kp [] H' H'' → R y (k, v) H'' → Nx y H'') →
      g x (wipe σ vs) H' fun σ2 H2 => wipe σ2 vs = wipe σ vs ∧ tt σ2 H2 fun b H3 => if b = true then te σ2 H3 Nx else Z H3)
    (hd : ∀ (H' : Hp) (ys : List V), Kp [] H1 H' → GD.Pinned K P W0 H' a o L kvs → H' D = some (.lst ys) → Paired (fun y kv => R y kv H') ys kvs → Qd H') :
    ∃ W : Nat → Nat → Hp → Prop, (∃ m, W 0 m (upd H1 D (.lst []))) ∧ ∀ i m H, W i m H →
      ((GD.Itn K P W0 a o L kvs).stop i H ∧ Qd H) ∨ ((GD.Itn K P W0 a o L kvs).go i H ∧ ∃ Nx : Hp → Prop, (∀ H', Nx H' → ∃ m', m' < m ∧ W (i + 1) m' H') ∧ ∀ x H', (GD.Itn K P W0 a o L kvs).yld i H x H' → g x (wipe σ vs) H' fun σ2 H2 => wipe σ2 vs = wipe σ vs ∧ tt σ2 H2 fun b H3 =>
        if b = true then te σ2 H3 fun y H4 => ∃ acc, H4 D = some (.lst acc) ∧ acc.length < sizeLine ∧ Nx (upd H4 D (.lst (acc ++ [y]))) else Nx H3) := by
  refine ⟨fun i m H' => m = kvs.length - i ∧ i ≤ kvs.length ∧ Kp [] H1 H' ∧ ∃ acc, H' D = some (.lst acc) ∧ Paired (fun y kv => R y kv H') acc (kvs.take i), ⟨kvs.length, by simp, Nat.zero_le _, Kp.new hD, [], upd_same, by rw [List.take_zero]; exact .nil⟩, ?_⟩
  rintro i m H' ⟨rfl, hi, k, acc, hA, hAi⟩
  have pd := pin_keep k List.not_mem_nil hp
  by_cases hlt : i < kvs.length
  · refine .inr ⟨⟨pd, hlt⟩, fun H'' => Kp [] H1 H'' ∧ ∃ acc, H'' D = some (.lst acc) ∧ Paired (fun y kv => R y kv H'') acc (kvs.take (i + 1)), fun H'' p' => ⟨kvs.length - (i + 1), by omega, rfl, hlt, p'⟩, fun x H2 y => ?_⟩
    obtain ⟨e, kk, v, hk, hx⟩ := y
    subst e
    refine hs i x kk v _ _ _ hk k pd hx fun H'' y k'' hy => ?_
    have hA2 := k''.lst hA List.not_mem_nil
    have hAl := paired_len hAi
    rw [List.length_take] at hAl
    have kc : Kp [D] H'' (upd H'' D (.lst (acc ++ [y]))) := Kp.chg hA2 (List.mem_singleton.mpr rfl)
    have mD : ∀ b ∈ [D], b = D := fun b hb => List.mem_singleton.mp hb
    refine ⟨acc, hA2, small_size (by omega), (k.trans k'').chg0 hD hA2, _, upd_same, ?_⟩
    rw [List.take_add_one, hk]
    exact paired_snoc (R := fun z kv => R z kv (upd H'' D (.lst (acc ++ [y])))) (mono _ _ _ _ _ mD kc hy) (paired_imp (fun y kv r => mono _ _ _ _ _ mD kc (mono [] _ _ _ _ (fun b hb => by cases hb) k'' r)) hAi)
  · have e : i = kvs.length := by omega
    subst e
    rw [List.take_length] at hAi
    exact .inl ⟨⟨pd, Nat.le_refl _⟩, hd H' acc k pd hA hAi⟩
end
end LP
end

section
set_option Elab.async false
set_option linter.all false
set_option maxRecDepth 100000
set_option maxHeartbeats 4000000
/-! _within, _helps, _still_hanging -/
namespace LP
open PySem PySem.Spec PyProof.Rows L2 Ly GY
section
variable [LamTab] {P : Program} {W0 : World} {K : PySem.W.Frag} {mg : Str → Option Value} {base : Heap}
/-! ### data that stays, lists too, while other objects change -/
def XS (H : Hp) (S : List Addr) : Prop := ∀ a xs, H a = some (.lst xs) → a ∉ S
mutual
theorem dpx {S : List Addr} {H H' : Hp} (k : Kp S H H') (x : XS H S) : ∀ (d : PyData) {v : V}, Dp K H v d → Dp K H' v d
  | .none, _, h => by cases h; exact .non
  | .bool _, _, h => by cases h; exact .bl _
  | .int _, _, h => by cases h; exact .int _
  | .str _, _, h => by cases h; exact .str _
  | .list ds, _, h => by
    cases h with
    | lst hs ha =>
      refine .lst ?_ (dpxs k x ds ha)
      rcases hs with (h | ⟨o, h⟩) | h
      · exact .inl (.inl (k.lst h (x _ _ h)))
      · exact .inl (.inr ⟨o, k.frz _ _ _ h⟩)
      · exact .inr h
  | .tuple ds, _, h => by
    cases h with
    | tup hs ha => exact .tup (k.sqT hs) (dpxs k x ds ha)
  | .dict _, _, h => by cases h
theorem dpxs {S : List Addr} {H H' : Hp} (k : Kp S H H') (x : XS H S) : ∀ (ds : List PyData) {vs : List V}, DpAll K H vs ds → DpAll K H' vs ds
  | [], _, h => by cases h; exact .nil
  | d :: ds, _, h => by
    cases h with
    | cons h1 h2 => exact .cons (dpx k x d h1) (dpxs k x ds h2)
end
theorem xs_nil (H : Hp) : XS H [] := fun _ _ _ h => by cases h
theorem dn_xs {H : Hp} {a : Addr} {kvs : List (NestedKey × V)} (d : GD.DN K P W0 H a kvs) : XS H [a] := fun b xs h m => by
  obtain ⟨φ, M, e, _⟩ := d
  rw [List.mem_singleton.mp m, e] at h
  cases h
/-! ### _within -/
theorem wi_asc {cs : List C3} (h : Asc cs) (n : Nat) (c : C3) : Asc (wi cs n c) := asc_filter h
theorem wi_step {cs : List C3} {c : C3} {n : Nat} (hA : Asc cs) (hc : c ∈ cs) {ds : List C3} (hs : ds.Pairwise fun a b => ¬ lt3 b a) (hn : ds.Nodup)
    (hm : ∀ d, d ∈ ds ↔ d ∈ wi cs n c ++ (wi cs n c).flatMap fun k => (nb4 k).filter fun e => decide (e ∈ cs)) : ds = wi cs (n + 1) c := by
  refine asc_ext (asc_of hs hn) (wi_asc hA _ _) fun d => ?_
  rw [hm d, List.mem_append, List.mem_flatMap]
  unfold wi
  rw [List.mem_filter, List.mem_filter]
  show _ ↔ d ∈ cs ∧ (reachB cs c n d || (decide (d ∈ cs) && (nb4 d).any (reachB cs c n))) = true
  rw [Bool.or_eq_true, Bool.and_eq_true, decide_eq_true_iff, List.any_eq_true]
  constructor
  · rintro (⟨h1, h2⟩ | ⟨k, hk, hd⟩)
    · exact ⟨h1, .inl h2⟩
    · obtain ⟨_, h4⟩ := List.mem_filter.mp hk
      obtain ⟨h5, h6⟩ := List.mem_filter.mp hd
      have h6 := of_decide_eq_true h6
      exact ⟨h6, .inr ⟨h6, k, nb4_sym h5, h4⟩⟩
  · rintro ⟨h1, h2 | ⟨_, e, he, hr⟩⟩
    · exact .inl ⟨h1, h2⟩
    · obtain ⟨m, _, p⟩ := (reachB_iff n e).mp hr
      have hec : e ∈ cs := p.mem fun x hx => by rw [List.mem_singleton.mp hx]; exact hc
      exact .inr ⟨e, List.mem_filter.mpr ⟨hec, hr⟩, List.mem_filter.mpr ⟨nb4_sym he, decide_eq_true h1⟩⟩
def spWithin (K : PySem.W.Frag) : Sp := fun vs H Q _ => ∃ (u v : V) (cs : List C3) (c : C3) (n : Nat), vs = [u, v, .int (n : Int)] ∧ CellsL K H u cs ∧ Dp K H v (cD c) ∧ Asc cs ∧ (∀ c ∈ cs, InR c) ∧ cs.length ≤ 64 ∧ c ∈ cs ∧ n ≤ 2 ∧
  ∀ (H' : Hp) (r : Addr) (ys : List V), Kp [] H H' → H r = none → H' r = some (.lst ys) → Items K H' ys (wi cs n c) → Q (.ref r) H'
abbrev nWithin : List Str := ["held", "cell", "reach", "found", "_", "further", "known", "other"]
theorem scWithin : FnScope nWithin ["held", "cell", "reach"] (defScope sWithin) := ⟨rfl, rfl, rfl, by decide +kernel, rfl, by decide +kernel, by decide +kernel⟩
theorem ok_within {f fB : Addr} {fd dB : FuncData} (F : Fun K "_within" "_within" sWithin f fd) (T : Nm K mg) (NB : Fn K mg "beside" fB dB ["cell"]) (GB : FnOk P W0 K mg base CX0 1 fB dB ["cell"] (spBeside K)) : FnOk P W0 K mg base CX0 2 f fd ["held", "cell", "reach"] (spWithin K) := by
  refine F.ok scWithin (fun vs H Q E h => ?_) (fun cdv A outer s H vs Q E hr h => ?_)
  · obtain ⟨u, v, cs, c, n, rfl, _⟩ := h
    rfl
  · obtain ⟨u, v, cs, c, n, rfl, hu, hv, hA, hIn, h64, hc, hn, q⟩ := h
    refine ⟨_, pss_cons (ps_set (i := 3) scWithin.nd rfl (.inl rfl) (pe_lst (pa_cons (pv 1) pa_nil)))
      (pss_cons (ps_for PassesOwn.never rfl (pi_range1 (by rfl) T.range (pa_cons (pv 2) pa_nil)) (pg_name (i := 4) scWithin.nd rfl (.inl rfl))
        (pss_cons (ps_setLc2 (i := 5) (own := [("known", 6), ("other", 7)]) (vs1 := [7]) (g := gName 6) (g1 := gName 7) (wi1 := iList K (tCall (spBeside K) [] E0 (tCons (tVar 6) tNil))) rfl scWithin.nd rfl rfl (sw_true rfl rfl rfl (by decide +kernel))
            (pi_list (pv 3)) (blkOk_by (own := [("known", 6), ("other", 7)]) (N := nWithin) (sc := defScope sWithin) (by decide +kernel)) (by decide)
            (fun _ _ _ _ _ => pg_name (i := 6) scWithin.nd rfl (.inl rfl)) (fun _ _ _ _ _ => pts_nil)
            (fun _ _ _ _ _ => pi_list (pe_call GB hr (by rfl) NB.m NB.kp NB.b .nil pass0 (pa_cons (pv 6) pa_nil)))
            (fun _ _ _ _ _ => pg_name (i := 7) scWithin.nd rfl (.inl rfl)) (fun _ _ _ _ _ => pts_one (pt_cmpR (r := rInD K) (op_inD (u65 hr)) (pv 7) (pv 0) (by rfl)))
            (fun _ _ _ _ _ => pv 7))
        (pss_one (ps_set (i := 3) scWithin.nd rfl (.inl rfl) (pe_callB (GZ.cr_sortedQ rfl hr.units) (by rfl) T.sorted (by decide +kernel) (pa_cons
          (pe_callTy (GZ.cr_setC rfl hr.units) (by rfl) T.set (by decide +kernel) (pa_cons (pe_op op_cat (pv 3) (pv 5)) pa_nil)) pa_nil))))))
      (pss_one (ps_ret (pv 3)))), ?_⟩
    refine ⟨_, rfl, (by show 1 ≤ sizeLine; decide), fun f0 hf0 => ?_⟩
    have k0 : Kp [] H (upd H f0 (.lst [v])) := Kp.new hf0
    have e0 : upd H f0 (.lst [v]) f0 = some (.lst [v]) := upd_same
    generalize upd H f0 (.lst [v]) = H0 at k0 e0 ⊢
    have w0 : wi cs 0 c = [c] := by
      refine asc_ext (wi_asc hA 0 c) (by unfold Asc; exact List.pairwise_singleton ..) fun d => ?_
      unfold wi
      rw [List.mem_filter, List.mem_singleton]
      show d ∈ cs ∧ decide (d = c) = true ↔ _
      rw [decide_eq_true_iff]
      exact ⟨fun h => h.2, fun h => ⟨by rw [h]; exact hc, h⟩⟩
    have wlen : ∀ i, (wi cs i c).length ≤ 64 := fun i => Nat.le_trans (List.length_filter_le _ _) h64
    refine ⟨_, rfl, (n : Int), rfl, by omega, by omega, for_range (lo := 0) (n := n) (fun i σ H' => Kp [] H H' ∧ ∃ (fa : Addr) (ys : List V) (o4 o5 o6 o7 : Option V), σ = [some u, some v, some (.int (n : Int)), some (.ref fa), o4, o5, o6, o7] ∧ H fa = none ∧ H' fa = some (.lst ys) ∧ Items K H' ys (wi cs i c))
      ⟨k0, f0, [v], none, none, none, none, rfl, hf0, e0, by rw [w0]; exact .cons (c_mono k0 hv) .nil⟩ (fun i σ H' hi pv => ?turn) (fun σ H' pv => ?fin)⟩
    case fin =>
      obtain ⟨k, fa, ys, o4, o5, o6, o7, rfl, hf, hy, hI⟩ := pv
      exact ⟨_, rfl, q H' fa ys k hf hy hI⟩
    case turn =>
      obtain ⟨k, fa, ys, o4, o5, o6, o7, rfl, hf, hy, hI⟩ := pv
      have hyl := hI.length
      have wl := wlen i
      generalize hFe : wi cs i c = Fs at hI hyl wl
      have hFin : ∀ d ∈ Fs, d ∈ cs := fun d hd => by rw [← hFe] at hd; exact (List.mem_filter.mp hd).1
      refine ⟨_, rfl, fa, rfl, ⟨_, SqL.of hy⟩, fun D hD => ?_⟩
      have kD : Kp [] H' (upd H' D (.lst [])) := Kp.new hD
      have fl : ∀ j, ((Fs.take j).flatMap fun k => (nb4 k).filter fun e => decide (e ∈ cs)).length ≤ (Fs.take j).length * 4 := fun j => by
        have : ∀ l : List C3, (l.flatMap fun k => (nb4 k).filter fun e => decide (e ∈ cs)).length ≤ l.length * 4 := fun l => by
          induction l with
          | nil => exact Nat.le_refl _
          | cons a l ih =>
            rw [List.flatMap_cons, List.length_append, List.length_cons]
            have : ((nb4 a).filter fun e => decide (e ∈ cs)).length ≤ 4 := List.length_filter_le _ _
            omega
        exact this _
      refine ⟨fun j m H2 => m = Fs.length - j ∧ j ≤ Fs.length ∧ Kp [] H' H2 ∧ ∃ acc, H2 D = some (.lst acc) ∧ Items K H2 acc ((Fs.take j).flatMap fun k => (nb4 k).filter fun e => decide (e ∈ cs)), ⟨Fs.length, rfl, Nat.zero_le _, kD, [], upd_same, .nil⟩, fun j m H2 w => ?_⟩
      obtain ⟨rfl, hj, k2, acc, hacc, hIa⟩ := w
      have hy2 := k2.lst hy List.not_mem_nil
      by_cases hlt : j < Fs.length
      · have hjy : j < ys.length := by omega
        refine .inr ⟨⟨ys, ys[j], SqL.of hy2, List.getElem?_eq_getElem hjy⟩, fun H3 => Kp [] H' H3 ∧ ∃ acc, H3 D = some (.lst acc) ∧ Items K H3 acc ((Fs.take (j + 1)).flatMap fun k => (nb4 k).filter fun e => decide (e ∈ cs)), fun H3 w => ⟨Fs.length - (j + 1), by omega, rfl, hlt, w⟩, fun x H3 yy => ?_⟩
        obtain ⟨e1, yy⟩ := yy
        subst e1
        have hx := yy ys (SqL.of hy2)
        obtain ⟨pk, kc, ex, ec, hkc⟩ := Items.at (items_mono k2 hI) hlt
        rw [hx] at ex
        have ex : x = .ref pk := Option.some.inj ex
        subst ex
        refine ⟨rfl, ?_⟩
        refine yesP ?_
        refine ⟨_, rfl, .ref pk, kc, rfl, dp_c hkc, fun H4 rb nbs k4 nb4' hb4 ib4 => ?_⟩
        refine ⟨rb, rfl, ⟨_, SqL.of hb4⟩, ?_⟩
        have hbl := ib4.length
        have hb44 : (nb4 kc).length = 4 := rfl
        have hacc4 := k4.lst hacc List.not_mem_nil
        have nrD : rb ≠ D := fun z => by rw [z, hacc] at nb4'; cases nb4'
        refine ⟨fun t m H5 => m = nbs.length - t ∧ t ≤ nbs.length ∧ Kp [] H' H5 ∧ H5 rb = some (.lst nbs) ∧ Items K H5 nbs (nb4 kc) ∧ ∃ acc, H5 D = some (.lst acc) ∧ Items K H5 acc (((Fs.take j).flatMap fun k => (nb4 k).filter fun e => decide (e ∈ cs)) ++ ((nb4 kc).take t).filter fun e => decide (e ∈ cs)),
          ⟨nbs.length, rfl, Nat.zero_le _, k2.trans k4, hb4, ib4, acc, hacc4, by rw [List.take_zero, List.filter_nil, List.append_nil]; exact items_mono k4 hIa⟩, fun t m H5 w => ?_⟩
        obtain ⟨rfl, ht, k5, hb5, ib5, acc5, hA5, hI5⟩ := w
        by_cases hlt2 : t < nbs.length
        · refine .inr ⟨⟨nbs, nbs[t], SqL.of hb5, List.getElem?_eq_getElem hlt2⟩, fun H6 => Kp [] H' H6 ∧ H6 rb = some (.lst nbs) ∧ Items K H6 nbs (nb4 kc) ∧ ∃ acc, H6 D = some (.lst acc) ∧ Items K H6 acc (((Fs.take j).flatMap fun k => (nb4 k).filter fun e => decide (e ∈ cs)) ++ ((nb4 kc).take (t + 1)).filter fun e => decide (e ∈ cs)),
            fun H6 w => ⟨nbs.length - (t + 1), by omega, rfl, hlt2, w⟩, fun x H6 yy => ?_⟩
          obtain ⟨e1, yy⟩ := yy
          subst e1
          have hx5 := yy nbs (SqL.of hb5)
          obtain ⟨po, oc, eo, eoc, hoc⟩ := Items.at ib5 (show t < (nb4 kc).length by omega)
          rw [hx5] at eo
          have eo : x = .ref po := Option.some.inj eo
          subst eo
          refine ⟨rfl, _, rfl, _, rfl, cD oc, cs.map cD, dp_c hoc, cellsL_mono (k.trans k5) hu, cD_shaped oc, cDs_shapedL cs, _, rfl, ?_⟩
          rw [any_eqv]
          cases e : decide (oc ∈ cs) with
          | false =>
            refine iteF ⟨k5, hb5, ib5, acc5, hA5, ?_⟩
            rw [take_filter eoc, e, if_neg (by decide), List.append_nil]
            exact hI5
          | true =>
            have hal := hI5.length
            rw [List.length_append] at hal
            have h1 := fl j
            have h2 := List.length_filter_le (fun e => decide (e ∈ cs)) ((nb4 kc).take t)
            rw [List.length_take] at h1 h2
            have kc' : Kp [D] H6 (upd H6 D (.lst (acc5 ++ [.ref po]))) := Kp.chg hA5 (List.mem_singleton.mpr rfl)
            refine iteT ⟨_, rfl, acc5, hA5, small_size (by omega), k5.chg0 hD hA5, ?_, items_mono kc' ib5, _, upd_same, ?_⟩
            · rw [upd_ne nrD]; exact hb5
            · rw [take_filter eoc, e, if_pos rfl, ← List.append_assoc]
              exact Items.append (items_mono kc' hI5) (Items.one (dp_c (kc'.sqT hoc)))
        · have e : t = nbs.length := by omega
          subst e
          refine .inl ⟨⟨nbs, SqL.of hb5, Nat.le_refl _⟩, k5, acc5, hA5, ?_⟩
          rw [List.take_of_length_le (show (nb4 kc).length ≤ nbs.length by omega)] at hI5
          rw [List.take_add_one, ec, List.flatMap_append]
          show Items K H5 acc5 (_ ++ ((nb4 kc).filter (fun e => decide (e ∈ cs)) ++ []))
          rw [List.append_nil]
          exact hI5
      · have e : j = Fs.length := by omega
        subst e
        refine .inl ⟨⟨ys, SqL.of hy2, by omega⟩, ?_⟩
        rw [List.take_length] at hIa
        have h1 := fl Fs.length
        rw [List.take_length] at h1
        have hal := hIa.length
        refine ⟨_, rfl, _, rfl, fa, D, ys, acc, rfl, rfl, hy2, hacc, Nat.le_of_lt (small_size (by omega)), fun t ht => ?_⟩
        have kt : Kp [] H2 (upd H2 t (.lst (ys ++ acc))) := Kp.new ht
        refine ⟨.ref t, Fs ++ _, rfl, .inl (cellsL_of upd_same (Items.append (items_mono kt (items_mono k2 hI)) (items_mono kt hIa))), fun d hd => ?_, fun e L he h1 h2 => ?_⟩
        · rcases List.mem_append.mp hd with z | z
          · exact hIn d (hFin d z)
          · obtain ⟨k', _, hk'⟩ := List.mem_flatMap.mp z
            exact hIn d (of_decide_eq_true (List.mem_filter.mp hk').2)
        · have ke : Kp [] (upd H2 t (.lst (ys ++ acc))) (upd (upd H2 t (.lst (ys ++ acc))) e (GZ.SQO P W0 e L)) := Kp.new he
          refine ⟨e, L, rfl, upd_same, fun z hz => ke.sqT (h1 z hz).2, fun zs ds r hp hn hs hlen hit hr' => ?_⟩
          have kr := Kp.new (S := []) (o := .lst zs) hr'
          have kall := ((k.trans k2).trans (kt.trans ke)).trans kr
          have ewi : ds = wi cs (i + 1) c := by
            refine wi_step hA hc hs hn fun d => ?_
            rw [hFe, hp.mem_iff]
            refine ⟨fun hd => ?_, fun hd => h2 d hd⟩
            obtain ⟨z, hz, rfl⟩ := List.mem_map.mp hd
            exact (h1 z hz).1
          rw [ewi] at hit
          exact ⟨kall, r, zs, _, _, _, _, rfl, ((k.trans k2).trans (kt.trans ke)).free r hr', upd_same, items_mono kr hit⟩
end
end LP
end

section
set_option Elab.async false
set_option linter.all false
set_option maxRecDepth 100000
set_option maxHeartbeats 2000000
/-! Generator expressions whose element is any expression of the layer: all(..), tuple(..), sep.join(..) of them. -/
namespace GT
open PySem PySem.Spec PyProof.Rows L2 GenW

/-- the names of a generator expression: its own x (and the walked thing), or captured ones of the def -/
structure GOk (N Ms : List Str) (sc scope : Scope) (xs : List Str) : Prop where
  kind : scope.kind = .function
  co : scope.isCoroutine = false
  nocell : ∀ y ∈ scope.names, y.2 ≠ .cell
  dot : scope.names.lookup (".0" : Str) = some NameKind.local
  loc : ∀ x ∈ xs, scope.names.lookup x = some .local
  uniq : ∀ y ∈ scope.names, scope.names.lookup y.1 = some y.2
  free : ∀ y ∈ scope.names, y.2 = .free → sc.names.lookup y.1 = some .cell ∨ sc.names.lookup y.1 = some .free
  own : ∀ y ∈ scope.names, y.2 = .local → y.1 ∉ Ms
  xd : (".0" : Str) ∉ xs
  len : Ms.length = N.length
  nd : (Ms ++ xs).Nodup
  sub : ((Ms.zip N).all fun p => decide (p.1 = p.2) || (scope.names.lookup p.1).isNone) = true
theorem sub_at {scope : Scope} : ∀ {M N : List Str} {i : Nat} {y : Str} {k : NameKind}, M.length = N.length → ((M.zip N).all fun p => decide (p.1 = p.2) || (scope.names.lookup p.1).isNone) = true → M[i]? = some y → scope.names.lookup y = some k → N[i]? = some y
  | [], _, _, _, _, _, _, h, _ => by simp at h
  | _ :: _, [], _, _, _, l, _, _, _ => by simp at l
  | a :: M, b :: N, 0, y, k, _, h, e, q => by
    rw [List.zip_cons_cons, List.all_cons, Bool.and_eq_true] at h
    have e : a = y := by simpa using e
    subst e
    have h1 := h.1
    rw [q] at h1
    have h1 : a = b := by simpa using h1
    simp [h1]
  | a :: M, b :: N, i + 1, y, k, l, h, e, q => by
    rw [List.zip_cons_cons, List.all_cons, Bool.and_eq_true] at h
    have := sub_at (M := M) (N := N) (i := i) (by simpa using l) h.2 (by simpa using e) q
    simpa using this

/-- the context of a generator expression's frame -/
def gcx (X : Cx) (Ms : List Str) (scope : Scope) (xs : List Str) (A : Around) (s : Shared) (H : Hp) (C : Addr) (code : Value) (fp : List Addr) : Cx where
  prog := X.prog
  w := X.w
  K := X.K
  mg := X.mg
  base := X.base
  A := A.deeper (genEnv scope (cloFrom X.env.cells scope.names []) C code builtinsNs X.env)
  N := Ms ++ xs
  s_0 := s
  H_0 := H
  env := genEnv scope (cloFrom X.env.cells scope.names []) C code builtinsNs X.env
  outer := X.stack
  stack := genEnv scope (cloFrom X.env.cells scope.names []) C code builtinsNs X.env :: X.stack
  ex := fp
  fn := fun _ => false
  calm := true
  pn := []
  xe := fun _ _ => False

theorem over_loop_gen {A : Around} {elt : Expr} {gs : List Comprehension} {scope : Scope} {pos : Pos} {it acc : Value} {env : Env} : A.over (.compLoop (.GeneratorExp elt gs scope pos) 0 it acc env) [] = A.deeper env := by
  first
    | rfl
    | (obtain ⟨hd, d, fr, gs, u⟩ := A; simp [Around.over, Around.deeper, marksOver, frameCount, unitsOf, envsOf, guardsOf, pushEnvs, pushGuards, Code.envs, Code.env?, Code.isFrame, Code.guards, Code.isGuard, Code.weight, Code.frames, Code.isCreation, Code.isCaller, Code.cUnits])
theorem over_start_gen {A : Around} {elt : Expr} {gs : List Comprehension} {scope : Scope} {pos : Pos} {it acc : Value} {env : Env} : A.over (.compStart (.GeneratorExp elt gs scope pos) 0 it acc env) [] = A.deeper env := by
  first
    | rfl
    | (obtain ⟨hd, d, fr, gs, u⟩ := A; simp [Around.over, Around.deeper, marksOver, frameCount, unitsOf, envsOf, guardsOf, pushEnvs, pushGuards, Code.envs, Code.env?, Code.isFrame, Code.guards, Code.isGuard, Code.weight, Code.frames, Code.isCreation, Code.isCaller, Code.cUnits])

section
variable {X : Cx} {Ms : List Str} {pins : List (Addr × Obj)} {σ : L2.St} {H : Hp} {s : Shared}
theorem gen_start {scope : Scope} {xs : List Str} {A : Around} {code : Value} {fp : List Addr} {s' : Shared} {it : Value} (I : Inv X pins σ H s) (ok : GOk X.N Ms X.env.scope scope xss) (hfp : ∀ b ∈ fp, FpOk X pins H b ∧ b < s.heap.objs.size)
    (hh : A.handled = none) (hfr : A.frames = some X.stack) (hos : s'.os = s.os) (hb : AllBare s'.gens) (kp : ∀ b o, s.heap.get? b = some o → s'.heap.get? b = some o)
    (hn : s'.heap.Ns s.heap.objs.size (fun y => if y = ".0" then some it else none)) :
    Inv (gcx X Ms scope xs A s H s.heap.objs.size code fp) [] (σ ++ List.replicate xs.length none) H s' := by
  have hfree : ∀ y ∈ scope.names, y.2 = .free → ∃ c, X.env.cells.lookup y.1 = some c := fun y hy e => by
    rcases ok.free y hy e with k | k
    · exact I.ok.has _ (.inl k)
    · exact I.ok.has _ (.inr k)
  have cm : ∀ {y c}, (y, c) ∈ cloFrom X.env.cells scope.names [] → X.env.cells.lookup y = some c ∧ c < s.heap.objs.size := fun {y c} hm => by
    rcases cloFrom_mem hm with hm | ⟨h1, rfl⟩
    · cases hm
    · obtain ⟨c, hc⟩ := hfree _ h1 rfl
      rw [hc]
      obtain ⟨w, z⟩ := I.cell _ _ hc
      exact ⟨rfl, z.lt⟩
  have cl : ∀ {y c}, (cloFrom X.env.cells scope.names []).lookup y = some c → X.env.cells.lookup y = some c ∧ c < s.heap.objs.size := fun {y c} e => cm (PySem.mem_of_lookup e)
  have look : ∀ {y}, scope.names.lookup y = some .free → ∃ c, (cloFrom X.env.cells scope.names []).lookup y = some c ∧ X.env.cells.lookup y = some c := fun {y} hl => by
    have hy : (y, NameKind.free) ∈ scope.names := PySem.mem_of_lookup hl
    obtain ⟨c', e'⟩ := mem_lookup (cloFrom_has (cells := X.env.cells) (acc := []) hy)
    exact ⟨c', e', (cl e').1⟩
  have okB : (gcx X Ms scope xs A s H s.heap.objs.size code fp).Ok := by
    refine ⟨I.ok.mod, ok.kind, I.ok.glob, rfl, Nat.le_refl _, fun y z c e1 e2 => I.ok.inj y z c (cl e1).1 (cl e2).1, fun y hy => ?_, fun y c z _ => ?_, fun _ => hh, Around.frames_deeper hfr, .inr ⟨rfl, rfl⟩,
      fun b hb => ⟨Nat.ne_of_lt (hfp b hb).2, fun y c e => (hfp b hb).1.2.2.2.2.1 y c (cl e).1⟩, I.bs, Nat.le_trans I.ok.bsz I.sz, fun b o e hb => ?_, fun b hb z => ?_, I.stack, I.stkFree⟩
    · have hy : scope.names.lookup y = some .cell ∨ scope.names.lookup y = some .free := hy
      rcases hy with hy | hy
      · exact absurd rfl (ok.nocell _ (PySem.mem_of_lookup hy))
      · obtain ⟨c, h1, _⟩ := look hy
        exact ⟨c, h1⟩
    · exact absurd (show (false : Bool) = true from z) Bool.false_ne_true
    · rcases (hfp b hb).1.2.2.2.1 with z | z
      · exact I.ok.noex b o e z
      · exact absurd (Nat.lt_of_lt_of_le (Heap.lt_size e) (Nat.le_trans I.ok.bsz z)) (Nat.lt_irrefl _)
    · rcases List.mem_cons.mp (I.stkSub b z) with z | z
      · exact (hfp b hb).1.2.1 z
      · exact (hfp b hb).1.2.2.1 z
  refine ⟨okB, hos, hb, Un.kept kp, ⟨_, hn, fun i y v e1 e2 e3 => ?_⟩, fun y c e => ?_, I.hok.fresh (Nat.le_refl _), fun y c e => I.freeC y c (cl e).1, fun p hp => absurd (show p ∈ ([] : List (Addr × Obj)) ++ [] from hp) (by simp), I.hok.kept kp, ?_⟩
  · have e1 : (Ms ++ xs)[i]? = some y := e1
    have hl : σ.length = Ms.length := I.len.trans ok.len.symm
    have hi : i < σ.length := by
      rcases Nat.lt_or_ge i σ.length with h | h
      · exact h
      · rw [List.getElem?_append_right h, List.getElem?_replicate] at e2
        split at e2 <;> cases e2
    rw [List.getElem?_append_left (by omega)] at e1
    rw [List.getElem?_append_left hi] at e2
    have hyN : y ∈ Ms := List.mem_of_getElem? e1
    have hf : scope.names.lookup y = some .free := by
      have e3 : Vis scope y := e3
      rcases e3 with e3 | e3 | e3
      · exact absurd hyN (ok.own _ (PySem.mem_of_lookup e3) rfl)
      · exact absurd rfl (ok.nocell _ (PySem.mem_of_lookup e3))
      · exact e3
    obtain ⟨m, hn', hl'⟩ := I.loc
    have hsc := ok.free _ (PySem.mem_of_lookup hf) rfl
    have hvis : Vis X.env.scope y := hsc.elim (fun k => .inr (.inl k)) (fun k => .inr (.inr k))
    obtain ⟨w, r, q⟩ := hl' i y v (sub_at ok.len ok.sub e1 hf) e2 hvis
    refine ⟨w, r, .inr ⟨.inr hf, ?_⟩⟩
    obtain ⟨c, h1, h2⟩ := look hf
    rcases q with ⟨k, _⟩ | ⟨_, c', e', z⟩
    · have k : X.env.scope.names.lookup y = some .local := k
      rcases hsc with k' | k' <;> rw [show X.env.scope.names.lookup y = _ from k'] at k <;> cases k
    · rw [h2] at e'; cases e'
      exact ⟨c, h1, z.keeps kp⟩
  · obtain ⟨w, z⟩ := I.cell y c (cl e).1
    exact ⟨w, z.keeps kp⟩
  · show (σ ++ List.replicate xs.length none).length = (Ms ++ xs).length
    have hl : σ.length = Ms.length := I.len.trans ok.len.symm
    simp [hl]
end

/-- while the generator sleeps: what stands at S may change, all else is kept -/
structure Slept (S : List Addr) (s s' : Shared) : Prop where
  os : s'.os = s.os
  bare : AllBare s'.gens
  keep : ∀ b o, b ∉ S → s.heap.get? b = some o → s'.heap.get? b = some o
  there : ∀ b ∈ S, ∃ o, s'.heap.get? b = some o ∧ ∀ v, o.data ≠ .cell v

/-- what the generator's run leans on: X' its context, a its object, fp its iterator's objects -/
structure GX1 (X' : Cx) (S : List Addr) (a : Addr) (fp : List Addr) : Prop where
  apart : ∀ b ∈ S, X'.s_0.heap.objs.size ≤ b ∧ b ≠ X'.env.locals ∧ (∀ x c, X'.env.cells.lookup x = some c → c ≠ b) ∧ b ≠ a ∧ b ∉ fp ∧ b ∉ X'.fs
  pn : X'.pn = []
section
variable {X' : Cx} {S : List Addr} {a : Addr} {go : Obj} {fp : List Addr} {σ : L2.St} {H : Hp} {s s' s₀ : Shared}
theorem woken (g : GX1 X' S a fp) (I : Inv X' ((a, go) :: pinsAt S s₀.heap) σ H s) (hS0 : ∀ b ∈ S, ∃ o, s₀.heap.get? b = some o) (z : Slept S s s') :
    Inv X' ((a, go) :: pinsAt S s'.heap) σ H s' := by
  have hSH : ∀ b ∈ S, H b = none := fun b hb => by
    obtain ⟨o, e⟩ := hS0 b hb
    exact (I.pin (b, o) (List.mem_append_right _ (List.mem_cons_of_mem _ (mem_pinsAt hb e)))).2.1
  have ha := I.pin (a, go) (List.mem_append_right _ List.mem_cons_self)
  have I0 : Inv X' [(a, go)] σ H s := I.pins_of fun p hp => by
    rw [List.mem_singleton.mp hp]
    exact ha
  have nt : ∀ b u, H b = some u → b ∉ S := fun b u q hb => by rw [hSH b hb] at q; cases q
  have nc : ∀ x c, X'.env.cells.lookup x = some c → c ∉ S := fun x c e hc => (g.apart c hc).2.2.1 x c e rfl
  have J : Inv X' [(a, go)] σ H s' := by
    obtain ⟨hh, gg, d, t, o⟩ := s'
    have ho : o = s.os := z.os
    subst ho
    refine I0.step (g' := gg) (t' := t) (d' := d) (ch := S) (fun b hb => ⟨.inr (g.apart b hb).1, (g.apart b hb).2.1, (g.apart b hb).2.2.1, fun p hp => ?_⟩)
      (fun b ob _ _ hc q _ => z.keep b ob hc q) (fun b ob _ _ hc q _ => ⟨ob.slots, z.keep b ob hc q⟩) (fun _ _ _ _ n => n) (fun b ob hc q => ⟨ob, z.keep b ob hc q⟩)
      (fun _ _ q => q) (fun _ _ _ q => q) (fun b ps q => ⟨#[], by rw [q]; simp⟩) (fun m hm => ?_) (fun b u q => ?_) z.bare
    · rw [g.pn] at hp
      rw [List.mem_singleton.mp hp]
      exact Ne.symm (g.apart b hb).2.2.2.1
    · obtain ⟨ob, es, ep, ho, r⟩ := hm
      exact ⟨ob, es, ep, z.keep _ ob (fun hb => (g.apart _ hb).2.1 rfl) ho, r⟩
    · refine (I0.hok b u q).stay (fun c v hc y => z.keep c v ?_ y) (fun _ y => y) fun _ _ y => y
      rcases hc with y | y
      · rw [y]; exact nt b u q
      · exact nt c _ y
  refine J.pins_of fun p hp => ?_
  rcases List.mem_cons.mp hp with hp | hp
  · rw [hp]
    exact J.pin (a, go) (List.mem_append_right _ List.mem_cons_self)
  · obtain ⟨hb, e⟩ := of_pinsAt hp
    obtain ⟨o, e', d⟩ := z.there _ hb
    rw [e] at e'; cases e'
    exact ⟨e, hSH _ hb, (g.apart _ hb).2.1, (g.apart _ hb).2.2.2.2.2, d⟩
end
end GT
end

section
set_option Elab.async false
set_option linter.all false
set_option maxRecDepth 100000
set_option maxHeartbeats 2000000
namespace GT
open PySem PySem.Spec PyProof.Rows L2 GenW

/-- an item is handed out: its number i, its value y; N items in all; W: what holds ahead of the turn i; Yv: what holds of the item -/
def YG (X' : Cx) (S : List Addr) (a : Addr) (go : Obj) (fp : List Addr) (tn : Nat → Heap → Prop) (σ : L2.St) (kn : Nat) (N : Nat) (W : Nat → Hp → Prop) (Yv : Nat → V → Hp → Prop) : Protocol := fun n s₀ v s kap =>
  ∃ i y os H, i + (n + 1) = N ∧ RelV y v ∧ os.length = kn ∧ Inv X' ((a, go) :: pinsAt S s₀.heap) (σ ++ os) H s ∧ Yv i y H ∧ (∀ s'', Slept S s s'' → W (i + 1) H → kap (.send .none) s'')
def RG (X' : Cx) (S : List Addr) (a : Addr) (go : Obj) (σ : L2.St) (kn : Nat) (N : Nat) (W : Nat → Hp → Prop) (Qe : Hp → Prop) : GenEnd := fun n s₀ r s =>
  r = .ok .next ∧ (n = 0 ∧ ∃ os H, os.length = kn ∧ Inv X' ((a, go) :: pinsAt S s₀.heap) (σ ++ os) H s ∧ Qe H)
/-- the reading: by the turn -/
def GTurn (J : It) (g : TG) (te : TE) (σ : L2.St) (kn : Nat) (N : Nat) (W : Nat → Hp → Prop) (Yv : Nat → V → Hp → Prop) (Qe : Hp → Prop) : Prop :=
  ∀ i H, W i H → (i = N ∧ J.stop i H ∧ Qe H) ∨ (i < N ∧ J.go i H ∧ ∀ x H', J.yld i H x H' → ∀ os : List (Option V), os.length = kn → g x (σ ++ os) H' fun σ2 H2 => (∃ os' : List (Option V), os'.length = kn ∧ σ2 = σ ++ os') ∧ te σ2 H2 fun y H3 => Yv i y H3)

section
variable {X' : Cx} {S : List Addr} {a it : Addr} {go : Obj} {fp : List Addr} {tn : Nat → Heap → Prop} {σ : L2.St} {N : Nat} {W : Nat → Hp → Prop} {Yv : Nat → V → Hp → Prop} {Qe : Hp → Prop} {J : It} {te : TE} {gt : TG} {kn : Nat}
  {elt iter tg : Expr} {gpos : Pos} {scope : Scope} {A : Around}
theorem loop_gen (g : GX1 X' S a fp) (hA : X'.A = A.deeper X'.env) (hcalm : X'.calm = true) (pg : PG X' tg gt) (hco : X'.env.scope.isCoroutine = false)
    (T : Turn X'.prog X'.w X'.K tg J fp it tn) (hel : PE X' elt te) (hxe : X'.xe = fun _ _ => False) (hex : X'.ex = fp) (hafp : a ∉ fp)
    (R : GTurn J gt te σ kn N W Yv Qe) :
    ∀ (n i : Nat) (s₀ s : Shared) (os : List (Option V)) (H : Hp), i + n = N → os.length = kn → Inv X' ((a, go) :: pinsAt S s₀.heap) (σ ++ os) H s → tn i s.heap → (∀ b ∈ fp, H b = none) → (∀ b ∈ S, ∃ o, s₀.heap.get? b = some o) → W i H →
      Seg (model X'.prog X'.w) A (RG X' S a go σ kn N W Qe) (YG X' S a go fp tn σ kn N W Yv) n s₀ (.compLoop (.GeneratorExp elt [⟨tg, iter, [], 0⟩] scope gpos) 0 (.ref it) .none X'.env)
        ((model X'.prog X'.w).den (.compLoop (.GeneratorExp elt [⟨tg, iter, [], 0⟩] scope gpos) 0 (.ref it) .none X'.env)) [] s := by
  have stat : ∀ {pl : List (Addr × Obj)} {σ' : L2.St} {H' : Hp} {s' : Shared}, Inv X' pl σ' H' s' → (∀ p ∈ pl, p.1 ∉ fp) → (∀ b ∈ fp, H' b = none) → ∀ b ∈ fp, FpOk X' pl H' b := fun {pl σ' H' s'} I' hpl hn b hb =>
    ⟨hn b hb, (I'.ok.exf b (by rw [hex]; exact hb)).1, I'.ok.exfs b (by rw [hex]; exact hb), .inl (by rw [hex]; exact hb), fun y c e => (I'.ok.exf b (by rw [hex]; exact hb)).2 y c e, fun p hp z => by
      rw [g.pn] at hp
      exact hpl p hp (by rw [z]; exact hb)⟩
  have plo : ∀ {h : Heap}, ∀ p ∈ (a, go) :: pinsAt S h, p.1 ∉ fp := fun {h} p hp => by
    rcases List.mem_cons.mp hp with hp | hp
    · rw [hp]; exact hafp
    · exact (g.apart _ (of_pinsAt hp).1).2.2.2.2.1
  have xeF : ∀ {α : Type} {m : Sem α} {Q Q' : α → Shared → Prop} {E : Value → Shared → Prop} {s : Shared}, wpAny (model X'.prog X'.w) X'.A m Q X'.xe s → (∀ b s, Q b s → Q' b s) → wpAny (model X'.prog X'.w) X'.A m Q' E s := fun h hQ => by
    rw [hxe] at h
    exact thnF h hQ
  intro n
  induction n with
  | zero =>
    intro i s₀ s os H hi hos I st nfp hS w
    show Seg _ A _ _ _ s₀ _ ((compTurn (.GeneratorExp elt [⟨tg, iter, [], 0⟩] scope gpos) 0 (.ref it) .none X'.env).onRaise (leaving X'.env)) [] s
    rw [compTurn_gen, Sem.onRaise_eq_wrap]
    refine seg_bind_wrap (wpAny_standAt ?_)
    rcases R i H w with ⟨ei, stop, hq⟩ | ⟨lt, _⟩
    · refine seg_bind_wrap ?_
      rw [over_loop_gen, ← hA]
      refine thnF (T.done X' rfl rfl rfl hcalm i _ s _ H (fun _ _ => False) I (stat I plo nfp) st stop) fun r s1 ⟨hr, I1⟩ => ?_
      subst hr
      exact seg_end (.ok .next) ⟨rfl, rfl, os, H, hos, I1, hq⟩
    · omega
  | succ n ih =>
    intro i s₀ s os H hi hos I st nfp hS w
    show Seg _ A _ _ _ s₀ _ ((compTurn (.GeneratorExp elt [⟨tg, iter, [], 0⟩] scope gpos) 0 (.ref it) .none X'.env).onRaise (leaving X'.env)) [] s
    rw [compTurn_gen, Sem.onRaise_eq_wrap]
    refine seg_bind_wrap (wpAny_standAt ?_)
    rcases R i H w with ⟨ei, stop, hq⟩ | ⟨lt, hgo, step⟩
    · omega
    · refine seg_bind_wrap ?_
      rw [over_loop_gen, ← hA]
      refine thnF (T.item X' rfl rfl rfl hcalm i _ s _ H (fun _ _ => False) I (stat I plo nfp) st hgo) fun r s1 ⟨u, hr, h1⟩ => ?_
      subst hr
      refine seg_bind_wrap ?_
      rw [over_loop_gen, ← hA]
      refine thnF h1 fun _ s2 ⟨v, H2, I2, r2, y2, st2, nfp2⟩ => ?_
      have I2' : Inv X' (((a, go) :: pinsAt S s₀.heap) ++ pinsAt fp s2.heap) (σ ++ os) H2 s2 := I2.pinned (stat I2 plo nfp2) (T.obj _ _ st2)
      refine seg_bind_wrap ?_
      rw [over_loop_gen, ← hA]
      refine xeF (pg.run _ s2 _ H2 v u (fun σ' H' => (∃ os' : List (Option V), os'.length = kn ∧ σ' = σ ++ os') ∧ te σ' H' fun y H3 => Yv i y H3) I2' r2 (step v H2 y2 os hos)) fun _ s3 ⟨σ3, H3, I3, ⟨os3, hos3, e3⟩, step3⟩ => ?_
      subst e3
      refine seg_bind_wrap ?_
      simp only [List.forIn_nil]
      refine wpAny_pure ?_
      simp only [if_true]
      have hy : ∀ v, yieldOut X'.env v = yieldValue v := fun v => by simp only [yieldOut, hco, Bool.false_eq_true, if_false]
      simp only [hy]
      rw [Sem.bind_eq_wrap', Sem.bind_eq_wrap', Sem.wrap_wrap, Sem.wrap_wrap]
      refine seg_wrap ?_
      rw [over_loop_gen, ← hA]
      refine xeF (hel.run _ s3 _ H3 _ I3 step3) fun yv s4 ⟨y, H4, I4, r4, q4⟩ => ?_
      have pin4 : ∀ b ∈ fp, ∀ o, s2.heap.get? b = some o → s4.heap.get? b = some o ∧ H4 b = none := fun b hb o e =>
        let z := I4.pin (b, o) (List.mem_append_right _ (List.mem_append_right _ (mem_pinsAt hb e)))
        ⟨z.1, z.2.1⟩
      have I5 : Inv X' ((a, go) :: pinsAt S s₀.heap) (σ ++ os3) H4 s4 := I4.unpinned
      have st5 : tn (i + 1) s4.heap := T.keep _ _ _ st2 fun b hb o e => (pin4 b hb o e).1
      have nfp5 : ∀ b ∈ fp, H4 b = none := fun b hb => by
        obtain ⟨o, e, _⟩ := T.obj _ _ st2 b hb
        exact (pin4 b hb o e).2
      refine seg_at (seg_yield rfl rfl rfl ⟨i, y, os3, H4, hi, r4, hos3, I5, q4, fun s'' z w' => ?_⟩)
      have I6 := woken g I5 hS z
      refine seg_again rfl (ih (i + 1) s'' s'' os3 H4 (by omega) hos3 I6 ?_ nfp5 (fun b hb => ?_) w')
      · refine T.keep _ _ _ st5 fun b hb o e => z.keep b o (fun hb' => (g.apart b hb').2.2.2.2.1 hb) e
      · obtain ⟨o, e, _⟩ := z.there b hb
        exact ⟨o, e⟩
theorem begin_gen (g : GX1 X' S a fp) (hA : X'.A = A.deeper X'.env) (hcalm : X'.calm = true) (pg : PG X' tg gt) (hco : X'.env.scope.isCoroutine = false)
    (T : Turn X'.prog X'.w X'.K tg J fp it tn) (hel : PE X' elt te) (hxe : X'.xe = fun _ _ => False) (hex : X'.ex = fp) (hafp : a ∉ fp)
    (R : GTurn J gt te σ kn N W Yv Qe) (s₀ s : Shared) (os : List (Option V)) (hos : os.length = kn) (H : Hp) (I : Inv X' ((a, go) :: pinsAt S s₀.heap) (σ ++ os) H s) (st : tn 0 s.heap) (nfp : ∀ b ∈ fp, H b = none) (hS : ∀ b ∈ S, ∃ o, s₀.heap.get? b = some o) (w : W 0 H) :
    Seg (model X'.prog X'.w) A (RG X' S a go σ kn N W Qe) (YG X' S a go fp tn σ kn N W Yv) N s₀ (.compStart (.GeneratorExp elt [⟨tg, iter, [], 0⟩] scope gpos) 0 (.ref it) .none X'.env)
      ((model X'.prog X'.w).den (.compStart (.GeneratorExp elt [⟨tg, iter, [], 0⟩] scope gpos) 0 (.ref it) .none X'.env)) [] s := by
  have loop := loop_gen (A := A) (iter := iter) (scope := scope) (gpos := gpos) (go := go) g hA hcalm pg hco T hel hxe hex hafp R N 0 s₀ s os H (Nat.zero_add _) hos I st nfp hS w
  show Seg _ A _ _ _ s₀ _ ((compStart (.GeneratorExp elt [⟨tg, iter, [], 0⟩] scope gpos) 0 (.ref it) .none X'.env).onRaise (leaving X'.env)) [] s
  unfold compStart
  rw [Sem.onRaise_eq_wrap]
  show Seg _ A _ _ _ s₀ _ ((ask >>= _).wrap _ _ _ _) [] s
  refine seg_bind_wrap (wpAny_askSetting ?_)
  split
  · exact seg_again rfl loop
  · first
      | exact seg_bind_wrap (wpAny_rule (seg_bind_wrap (wpAny_standAt (seg_bind_wrap (T.self _ 0 s _ _ st (seg_again rfl loop))))))
      | (refine seg_bind_wrap (wpAny_rule ?_); show Seg _ A _ _ _ s₀ _ ((standAt iter.pos >>= _).wrap _ _ _ _) [] s; exact seg_bind_wrap (wpAny_standAt (seg_bind_wrap (T.self _ 0 s _ _ st (seg_again rfl loop)))))
end
end GT
end

section
set_option Elab.async false
set_option linter.all false
set_option maxRecDepth 100000
set_option maxHeartbeats 2000000
namespace GT
open PySem PySem.Spec PyProof.Rows L2 GenW

/-- a generator that has been made and not begun: its object a (obj go), its number g; s4: the state behind the making of its code, s5: now -/
structure Made (X : Cx) (pins : List (Addr × Obj)) (σ : L2.St) (scope : Scope) (xs : List Str) (tg elt iter : Expr) (gpos : Pos) (H : Hp) (J : It) (s4 s5 : Shared) (a it : Addr) (g : Nat) (go : Obj) (code : Value) (fp : List Addr) (tn : Nat → Heap → Prop) : Prop where
  inv : Inv X pins σ H s4
  gen : s5.heap.IsGen a g
  lim : s5.heap.NoLimit
  sz : s4.heap.objs.size < a
  sz5 : s5.heap.objs.size = a + 1
  fresh : s5.gens[g]? = some (.fresh (.compStart (.GeneratorExp elt [⟨tg, iter, [], 0⟩] scope gpos) 0 (.ref it) .none (genEnv scope (cloFrom X.env.cells scope.names []) s4.heap.objs.size code builtinsNs X.env)))
  bare : AllBare s5.gens
  os : s5.os = s4.os
  keep : ∀ b o, s4.heap.get? b = some o → s5.heap.get? b = some o
  ns : s5.heap.Ns s4.heap.objs.size (fun y => if y = ".0" then some (.ref it) else none)
  fpo : ∀ b ∈ fp, FpOk X pins H b ∧ b < s4.heap.objs.size
  turn : Turn X.prog X.w X.K tg J fp it tn
  st : tn 0 s4.heap
  obj : s5.heap.get? a = some go
  objd : ∀ v, go.data ≠ .cell v

section
variable {X : Cx} {Ms : List Str} {pins : List (Addr × Obj)} {σ : L2.St} {H : Hp} {s : Shared}
theorem make_gen {c P : Addr} {tg elt iter : Expr} {xs : List Str} {gpos : Pos} {scope : Scope} {wi : TI} {Q' : Value → Shared → Prop} {R : It → Hp → Prop}
    (hh : X.A.handled = none) (hd : X.A.depth < recursionLimit) (TB : GxR.TabB X.base X.mg c P) (hcode : X.env.code = .ref c) (ok : GOk X.N Ms X.env.scope scope xs) (hi : PI X tg iter wi)
    (hs : ∀ v, genFold iter X.env v = pure v) (I : Inv X pins σ H s) (h : wi σ H fun J H1 => GxR.TabG H1 P ∧ R J H1)
    (hQ : ∀ J H1 H2 s4 s5 a it g go code fp tn, R J H1 → GxR.Tabbed P H1 H2 → Made X pins σ scope xs tg elt iter gpos H2 J s4 s5 a it g go code fp tn → Q' (.ref a) s5) :
    wpAny (model X.prog X.w) X.A (eval (.GeneratorExp elt [⟨tg, iter, [], 0⟩] scope gpos) X.env) Q' X.xe s := by
  have hfree : ∀ y ∈ scope.names, y.2 = .free → ∃ c, X.env.cells.lookup y.1 = some c := fun y hy e => by
    rcases ok.free y hy e with k | k
    · exact I.ok.has _ (.inl k)
    · exact I.ok.has _ (.inr k)
  refine wpAny_GeneratorExp_make ok.co (closure_ok hfree) ok.nocell ok.dot ok.kind hd ?_ hs
  refine thn (hi.run pins s σ H _ I h) fun xv s1 hx => thn hx fun itv s2 h2 => ?_
  obtain ⟨it, fp, tn, J, H1, e, I1, T, st2, f2, ⟨ps, hP, ht⟩, q1⟩ := h2
  subst e
  have hPs : s2.heap.get? P = some { cls := .none, data := .fields ps } := I1.hok P _ hP
  have cd : PySem.W.CodeHd s2.heap c P := TB.code.keeps fun b u e => I1.bk b u e
  have sz : ∀ b ∈ fp, b < s2.heap.objs.size := fun b hb => by
    obtain ⟨o, e, _⟩ := T.obj _ _ st2 b hb
    exact Heap.lt_size e
  refine ⟨I1.nolimit, ?_⟩
  have cont : ∀ (code : Value) (h3 : Heap) (tk : Nat) (ps' : Array Value), Heap.ExtBut P s2.heap h3 → h3.get? P = some { cls := .none, data := .fields ps' } → (∃ more, ps' = ps ++ more) → TriplesOk ps'.toList →
      wpAny (model X.prog X.w) X.A (builtinsFor X.env.globals X.env.builtins) (fun bi s₄ =>
        ∀ h', h'.Ns s₄.heap.objs.size (fun y => if y = ".0" then some (.ref it) else none) → Heap.SameBut s₄.heap.objs.size (s₄.heap.push { cls := .type "frame", data := .dict #[] }) h' →
          Q' (.ref h'.objs.size) { s₄ with
            gens := s₄.gens.push (.fresh (.compStart (.GeneratorExp elt [⟨tg, iter, [], 0⟩] scope gpos) 0 (.ref it) .none (genEnv scope (cloFrom X.env.cells scope.names []) s₄.heap.objs.size code bi X.env))),
            toks := s₄.toks + 1 + 1 + 1,
            heap := h'.push { cls := .type "generator", data := .fields #[.int s₄.gens.size 0, .str "<genexpr>" (s₄.toks + 1), .str (X.env.qual ++ "<genexpr>") (s₄.toks + 1 + 1)] } }) X.xe { s2 with heap := h3, toks := tk } := by
    intro code h3 tk ps' hx hP3 hmore ht3
    obtain ⟨more, em⟩ := hmore
    obtain ⟨bm, ob, e1, e2, e3, e4, e5, e6, e7, e8⟩ := TB.bm
    have keep3 : ∀ b u, b ≠ P → s2.heap.get? b = some u → h3.get? b = some u := fun b u hb e => hx b u hb e
    have I3 := GxR.inv_tab (more := more) (h' := h3) (g' := s2.gens) (d' := s2.drawn) (t' := tk) I1 hP keep3 (by rw [← em]; exact hP3) I1.bare
    have I3' : Inv X pins σ (upd H1 P (.tbl (ps ++ more))) { s2 with heap := h3, toks := tk } := I3
    refine wpAny_builtinsFor (m := X.mg) (by rw [I1.ok.glob]; exact (I1.mod.glob.keeps I1.bk).extBut hx TB.gP) e1 e2 (keep3 _ _ e4 (I1.bk _ _ e5)) e6 e7 e8 ?_
    intro h' hn' hs'
    generalize hs4 : ({ s2 with heap := h3, toks := tk } : Shared) = s4 at I3' hn' hs' ⊢
    have h4 : s4.heap = h3 := by rw [← hs4]
    have hsz : h'.objs.size = s4.heap.objs.size + 1 := by rw [hs'.1, Heap.size_push]
    have keep' : ∀ b o, s4.heap.get? b = some o → h'.get? b = some o := fun b o e => hs'.extBut b o (Nat.ne_of_lt (Heap.lt_size e)) (Heap.get?_push_of_some _ e)
    have stay : ∀ b ∈ fp, ∀ o, s2.heap.get? b = some o → s4.heap.get? b = some o := fun b hb o e => by
      rw [h4]
      refine keep3 b o (fun z => ?_) e
      have := (f2 b hb).1
      rw [z, hP] at this
      cases this
    refine hQ J H1 (upd H1 P (.tbl (ps ++ more))) s4 _ h'.objs.size it s4.gens.size _ code fp tn q1 ⟨⟨ps ++ more, upd_same, by rw [← em]; exact ht3⟩, fun b hb => upd_ne hb⟩
      ⟨I3', ⟨_, _, _, Heap.get?_push_size _ rfl, rfl, rfl, rfl⟩, I3'.nolimit.keeps fun b o e => Heap.get?_push_of_some _ (keep' b o e), by omega, by rw [Heap.size_push], Array.getElem?_push_size .., AllBare.push (by rw [← hs4]; exact I1.bare) rfl, rfl,
        fun b o e => Heap.get?_push_of_some _ (keep' b o e), hn'.push _, fun b hb => ⟨⟨?_, (f2 b hb).2⟩, ?_⟩, T, T.keep _ _ _ st2 stay, Heap.get?_push_size _ rfl, fun v q => by cases q⟩
    · rw [upd_ne (fun z => by have := (f2 b hb).1; rw [z, hP] at this; cases this)]
      exact (f2 b hb).1
    · obtain ⟨o, e, _⟩ := T.obj _ _ st2 b hb
      exact Heap.lt_size (stay b hb o e)
  cases hf : codeAmong gpos ps.toList with
  | none =>
    refine wpAny_genexprCodeX hcode (cd.code hPs ht) (cd.tab hPs) hf fun c' h' tk hx hge hlt hco' _ htab' _ => ?_
    obtain ⟨o1, vs, f1, tf, fl, tg, inF, tx, tt, op, _, _, _, _, _, _, _, _, _, htr, _⟩ := hco'
    exact cont _ h' tk _ hx htab'.2 ⟨_, rfl⟩ htr
  | some cv =>
    refine wpAny_genexprCode_hit hcode (cd.code hPs ht) hf ?_
    exact cont cv s2.heap s2.toks ps (Heap.ExtBut.refl _ _) hPs ⟨#[], by simp⟩ ht

variable {scope : Scope} {xs : List Str} {tg elt iter : Expr} {gpos : Pos} {gt : TG} {J : It} {s4 s5 : Shared} {a it : Addr} {g : Nat} {go : Obj} {code : Value} {fp : List Addr} {tn : Nat → Heap → Prop} {te : TE} {N : Nat} {W : Nat → Hp → Prop} {Yv : Nat → V → Hp → Prop} {Qe : Hp → Prop}
theorem Made.ap (m : Made X pins σ scope xs tg elt iter gpos H J s4 s5 a it g go code fp tn) {A : Around} {S : List Addr} (hS : ∀ b ∈ S, a < b) :
    GX1 (gcx X Ms scope xs A s4 H s4.heap.objs.size code fp) S a fp := by
  have hsz := m.sz
  refine ⟨fun b hb => ?_, rfl⟩
  have hab := hS b hb
  have hb4 : s4.heap.objs.size < b := Nat.lt_trans hsz hab
  refine ⟨Nat.le_of_lt hb4, Nat.ne_of_gt hb4, fun y c e z => ?_, Nat.ne_of_gt hab, fun hm => ?_, fun hm => ?_⟩
  · rcases cloFrom_mem (PySem.mem_of_lookup e) with hm | ⟨h1, h2⟩
    · cases hm
    · cases hc : X.env.cells.lookup y with
      | none =>
        rw [hc] at h2
        have h2 : c = 0 := h2
        rw [← z, h2] at hb4
        exact absurd hb4 (Nat.not_lt_zero _)
      | some c0 =>
        rw [hc] at h2
        have h2 : c = c0 := h2
        obtain ⟨w, zz⟩ := m.inv.cell _ _ hc
        have := zz.lt
        rw [← h2, z] at this
        exact absurd (Nat.lt_trans this hb4) (Nat.lt_irrefl _)
  · exact absurd (Nat.lt_trans (m.fpo b hm).2 hb4) (Nat.lt_irrefl _)
  · have hm : b ∈ frs X.stack := hm
    obtain ⟨_, o, ho, _⟩ := m.inv.stack.mem hm
    exact absurd (Nat.lt_trans (Heap.lt_size ho) hb4) (Nat.lt_irrefl _)
/-- the first wake -/
theorem Made.seg (m : Made X pins σ scope xs tg elt iter gpos H J s4 s5 a it g go code fp tn) (ok : GOk X.N Ms X.env.scope scope xs) {A : Around} (hh : A.handled = none) (hfr : A.frames = some X.stack)
    (hel : PE (gcx X Ms scope xs A s4 H s4.heap.objs.size code fp) elt te) (hpg : PG (gcx X Ms scope xs A s4 H s4.heap.objs.size code fp) tg gt) {S : List Addr} (hS : ∀ b ∈ S, a < b) (R : GTurn J gt te σ xs.length N W Yv Qe) (w : W 0 H) (s6 : Shared) (hos : s6.os = s5.os) (hb : AllBare s6.gens)
    (kp : ∀ b o, s5.heap.get? b = some o → s6.heap.get? b = some o) (hSo : ∀ b ∈ S, ∃ o, s6.heap.get? b = some o ∧ ∀ v, o.data ≠ .cell v) :
    Seg (model X.prog X.w) A (RG (gcx X Ms scope xs A s4 H s4.heap.objs.size code fp) S a go σ xs.length N W Qe) (YG (gcx X Ms scope xs A s4 H s4.heap.objs.size code fp) S a go fp tn σ xs.length N W Yv) N s6
      (.compStart (.GeneratorExp elt [⟨tg, iter, [], 0⟩] scope gpos) 0 (.ref it) .none (genEnv scope (cloFrom X.env.cells scope.names []) s4.heap.objs.size code builtinsNs X.env))
      ((model X.prog X.w).den (.compStart (.GeneratorExp elt [⟨tg, iter, [], 0⟩] scope gpos) 0 (.ref it) .none (genEnv scope (cloFrom X.env.cells scope.names []) s4.heap.objs.size code builtinsNs X.env))) [] s6 := by
  have kp4 : ∀ b o, s4.heap.get? b = some o → s6.heap.get? b = some o := fun b o e => kp b o (m.keep b o e)
  have I0 : Inv (gcx X Ms scope xs A s4 H s4.heap.objs.size code fp) [] (σ ++ List.replicate xs.length none) H s6 := gen_start m.inv ok m.fpo hh hfr (hos.trans m.os) hb kp4 (m.ns.keeps kp)
  have hsz := m.sz
  have ap := m.ap (Ms := Ms) (A := A) hS
  have fre : ∀ b, s4.heap.objs.size ≤ b → H b = none := fun b hb => m.inv.hok.fresh hb
  have anf : a ∉ (gcx X Ms scope xs A s4 H s4.heap.objs.size code fp).fs := fun hm => by
    have hm : a ∈ frs X.stack := hm
    obtain ⟨_, o, ho, _⟩ := m.inv.stack.mem hm
    exact absurd (Nat.lt_trans (Heap.lt_size ho) hsz) (Nat.lt_irrefl _)
  have I : Inv (gcx X Ms scope xs A s4 H s4.heap.objs.size code fp) ((a, go) :: pinsAt S s6.heap) (σ ++ List.replicate xs.length none) H s6 := I0.pins_of fun p hp => by
    rcases List.mem_cons.mp hp with hp | hp
    · rw [hp]
      exact ⟨kp _ _ m.obj, fre a (Nat.le_of_lt hsz), Nat.ne_of_gt hsz, anf, m.objd⟩
    · obtain ⟨hbS, e⟩ := of_pinsAt hp
      obtain ⟨o, e', d⟩ := hSo _ hbS
      rw [e] at e'; cases e'
      exact ⟨e, fre _ (ap.apart _ hbS).1, (ap.apart _ hbS).2.1, (ap.apart _ hbS).2.2.2.2.2, d⟩
  refine begin_gen (X' := gcx X Ms scope xs A s4 H s4.heap.objs.size code fp) (go := go) (N := N) (W := W) (Yv := Yv) (Qe := Qe) ap rfl rfl hpg ok.co m.turn hel rfl rfl (fun hm => ?_) R s6 s6 (List.replicate xs.length none) List.length_replicate H I ?_ (fun b hb => (m.fpo b hb).1.1) (fun b hb => ?_) w
  · exact absurd (Nat.lt_trans (m.fpo a hm).2 hsz) (Nat.lt_irrefl _)
  · exact m.turn.keep _ _ _ m.st fun b _ o e => kp4 b o e
  · obtain ⟨o, e, _⟩ := hSo b hb
    exact ⟨o, e⟩
/-- back in the def -/
theorem Made.back (m : Made X pins σ scope xs tg elt iter gpos H J s4 s5 a it g go code fp tn) {A : Around} {pl : List (Addr × Obj)} {σ' : L2.St} {H' : Hp} {s6 s7 : Shared} (I : Inv (gcx X Ms scope xs A s4 H s4.heap.objs.size code fp) pl σ' H' s6)
    (hos : s7.os = s6.os) (hb : AllBare s7.gens) (kp : ∀ b o, s6.heap.get? b = some o → s7.heap.get? b = some o) : Inv X pins σ H' s7 :=
  m.inv.call' (ch := fp) (hos.trans I.os) (I.base.trans (Un.kept kp)) (I.hok.kept kp) hb fun b hb => ⟨(m.fpo b hb).1.2.2.2.1, (m.fpo b hb).1.2.1, (m.fpo b hb).1.2.2.2.2.1, (m.fpo b hb).1.2.2.2.2.2⟩
end
end GT
end

section
set_option Elab.async false
set_option linter.all false
set_option maxRecDepth 100000
set_option maxHeartbeats 2000000
namespace GT
open PySem PySem.Spec PyProof.Rows L2 GenW

section
variable {X : Cx} {Ms : List Str} {pins : List (Addr × Obj)} {σ : L2.St} {H : Hp}
  {scope : Scope} {xs : List Str} {tg elt iter : Expr} {gpos : Pos} {gt : TG} {J : It} {s4 s5 : Shared} {a it : Addr} {g : Nat} {go : Obj} {code : Value} {fp : List Addr} {tn : Nat → Heap → Prop} {te : TE} {N : Nat} {W : Nat → Hp → Prop}

theorem entry_all : entryFor table "all" = some Builtin.«all» := PySem.F.entry_all

/-- one turn of all(..) -/
theorem all_turn (m : Made X pins σ scope xs tg elt iter gpos H J s4 s5 a it g go code fp tn) {A : Around} {Q : VK} {Rr : Result → Shared → Prop} (hh : A.handled = none) (hd : A.depth < recursionLimit)
    (hR : ∀ b s', EP X pins σ Q (.bool b) s' → Rr (.ok (.ret (.bool b))) s') (n : Nat) (s : Shared) (hg : s.heap.IsGen a g) (hl : s.heap.NoLimit)
    (h : ∃ gs, s.gens[g]? = some gs ∧ gs.Goes (model X.prog X.w) A.in1.in1 (RG (gcx X Ms scope xs A.in1.in1 s4 H s4.heap.objs.size code fp) [] a go σ xs.length N W (fun H3 => Q (.bl true) H3))
        (YG (gcx X Ms scope xs A.in1.in1 s4 H s4.heap.objs.size code fp) [] a go fp tn σ xs.length N W (fun i y H3 => ∃ b, y = .bl b ∧ if b = true then W (i + 1) H3 else Q (.bl false) H3)) n (.send .none) (s.setGen g .running))
    (again : ∀ (m : Nat) (s1 : Shared) (gs' : GenState), n = m + 1 → s1.heap.IsGen a g → s1.heap.NoLimit → g < s1.gens.size →
        gs'.Goes (model X.prog X.w) A.in1.in1 (RG (gcx X Ms scope xs A.in1.in1 s4 H s4.heap.objs.size code fp) [] a go σ xs.length N W (fun H3 => Q (.bl true) H3))
          (YG (gcx X Ms scope xs A.in1.in1 s4 H s4.heap.objs.size code fp) [] a go fp tn σ xs.length N W (fun i y H3 => ∃ b, y = .bl b ∧ if b = true then W (i + 1) H3 else Q (.bl false) H3)) m (.send .none) ((s1.setGen g gs').setGen g .running) →
        codeAny (model X.prog X.w) A (.builtin "all.loop" ⟨[.ref a], []⟩) Rr (s1.setGen g gs')) :
    codeAny (model X.prog X.w) A (.builtin "all.loop" ⟨[.ref a], []⟩) Rr s := by
  obtain ⟨gs, hgs, hgo⟩ := h
  have hgl : g < s.gens.size := (Array.getElem?_eq_some_iff.mp hgs).1
  refine codeAny_builtin PySem.F.entry_all_loop ?_
  rw [Around.under_plainId PySem.F.plain_all_loop _]
  show wpAny _ A.in1 (pyNext (.ref a) >>= _) _ _ s
  refine wpAny_bind (wpAny_gsz (n := g + 1) hgl (wpAny_pyNext_genexpQ (A := A.in1) hh hl hd hg hgs hgo (fun v s1 gs' hb hv => ?_) (fun s1 hp h' hk => ?_)))
  · intro hsz
    have hsz1 : g < s1.gens.size := by
      have q : (s1.setGen g gs').gens.size = s1.gens.size := setGen_size _ _ _
      have hsz' : g + 1 ≤ (s1.setGen g gs').gens.size := hsz
      omega
    obtain ⟨i, y, o, H3, hi, rv, _, I, ⟨b, ey, hy⟩, hkap⟩ := hv
    subst ey
    obtain rfl : v = Value.bool b := rv
    refine wpAny_bind (wpAny_holding (wpAny_truthy_bool ?_))
    refine wpAny_bind (wpAny_letGo ?_)
    have hp := I.pin (a, go) (List.mem_append_right _ List.mem_cons_self)
    have hg1 : s1.heap.IsGen a g := by
      obtain ⟨o5, nm5, qn5, ho5, r5⟩ := m.gen
      rw [m.obj] at ho5
      cases ho5
      exact ⟨go, nm5, qn5, hp.1, r5⟩
    have hb1 : AllBare (s1.setGen g gs').gens := allBare_setGen I.bare hb
    cases b with
    | true =>
      simp only [if_true] at hy ⊢
      have hz : Slept [] s1 ((s1.setGen g gs').setGen g .running) := ⟨rfl, allBare_setGen hb1 rfl, fun _ _ _ e => e, fun b z => by cases z⟩
      have k := hkap _ hz hy
      refine wpAny_pure ⟨plainId_quiet PySem.F.plain_all_loop _, ?_⟩
      cases n with
      | zero => exact False.elim k
      | succ m' => exact again m' s1 gs' rfl hg1 I.nolimit hsz1 k
    | false =>
      simp only [Bool.false_eq_true, if_false] at hy ⊢
      refine wpAny_bind (wpAny_rule (wpAny_pure (hR _ _ ?_)))
      exact ⟨.bl false, H3, m.back I rfl hb1 fun _ _ e => e, rfl, hy⟩
  · intro _
    obtain ⟨hn, o, H3, _, I, q⟩ := hp
    refine wpAny_bind (wpAny_rule (wpAny_pure (hR _ _ ?_)))
    exact ⟨.bl true, H3, m.back I rfl (allBare_setGen I.bare rfl) hk, rfl, q⟩
theorem all_loop (m : Made X pins σ scope xs tg elt iter gpos H J s4 s5 a it g go code fp tn) {A : Around} {Q : VK} {Rr : Result → Shared → Prop} (hh : A.handled = none) (hd : A.depth < recursionLimit)
    (hR : ∀ b s', EP X pins σ Q (.bool b) s' → Rr (.ok (.ret (.bool b))) s') :
    ∀ (n : Nat) (s : Shared), s.heap.IsGen a g → s.heap.NoLimit →
      (∃ gs, s.gens[g]? = some gs ∧ gs.Goes (model X.prog X.w) A.in1.in1 (RG (gcx X Ms scope xs A.in1.in1 s4 H s4.heap.objs.size code fp) [] a go σ xs.length N W (fun H3 => Q (.bl true) H3))
        (YG (gcx X Ms scope xs A.in1.in1 s4 H s4.heap.objs.size code fp) [] a go fp tn σ xs.length N W (fun i y H3 => ∃ b, y = .bl b ∧ if b = true then W (i + 1) H3 else Q (.bl false) H3)) n (.send .none) (s.setGen g .running)) →
      codeAny (model X.prog X.w) A (.builtin "all.loop" ⟨[.ref a], []⟩) Rr s := by
  intro n
  induction n with
  | zero => exact fun s hg hl h => all_turn (Ms := Ms) m hh hd hR 0 s hg hl h fun m' _ _ e => by omega
  | succ n ih =>
    intro s hg hl h
    refine all_turn (Ms := Ms) m hh hd hR (n + 1) s hg hl h fun m' s1 gs' e hg1 hl1 hsz hgo => ?_
    obtain rfl : n = m' := by omega
    exact ih (s1.setGen g gs') hg1 hl1 ⟨gs', setGen_at hsz, hgo⟩
end

/-! ### all(elt for x in iter) -/
section
variable {X : Cx} {Ms : List Str}
def tAllT (P : Addr) (wi : TI) (gt : TG) (te : TE) (kn : Nat) : TE := fun σ H Q => wi σ H fun J H1 => GxR.TabG H1 P ∧ ∀ H2, GxR.Tabbed P H1 H2 → ∃ (N : Nat) (W : Nat → Hp → Prop), W 0 H2 ∧
  GTurn J gt te σ kn N W (fun i y H3 => ∃ b, y = .bl b ∧ if b = true then W (i + 1) H3 else Q (.bl false) H3) (fun H3 => Q (.bl true) H3)
theorem pe_allT {c P : Addr} {tg elt iter : Expr} {xs : List Str} {p pos gpos : Pos} {scope : Scope} {wi : TI} {gt : TG} {te : TE} {k : Nat}
    (hr : Room (k + 2) X.A) (hg : Gl X "all") (hm : X.mg "all" = none) (TB : GxR.TabB X.base X.mg c P) (hcode : X.env.code = .ref c) (hfr : X.A.frames = some X.stack) (ok : GOk X.N Ms X.env.scope scope xs) (hi : PI X tg iter wi)
    (hel : ∀ (A : Around) (s : Shared) (H : Hp) (C : Addr) (code : Value) (fp : List Addr), Room k (gcx X Ms scope xs A s H C code fp).A → PE (gcx X Ms scope xs A s H C code fp) elt te)
    (hpg : ∀ (A : Around) (s : Shared) (H : Hp) (C : Addr) (code : Value) (fp : List Addr), PG (gcx X Ms scope xs A s H C code fp) tg gt)
    (hs : ∀ v, genFold iter X.env v = pure v := by intro _; rfl)
    (he : starEach [.GeneratorExp elt [⟨tg, iter, [], 0⟩] scope gpos] X.env = (false, eval (.GeneratorExp elt [⟨tg, iter, [], 0⟩] scope gpos) X.env) :: starEach [] X.env := by rfl) :
    PE X (.Call (.Name "all" p) [.GeneratorExp elt [⟨tg, iter, [], 0⟩] scope gpos] [] pos) (tAllT P wi gt te xs.length) := by
  refine ⟨fun pins s σ H Q I h => ?_⟩
  refine wpAny_Call_Name_kw (ld_blt I hg hm (show bootBuiltins "all" = some (.builtin "all") by decide +kernel) ?_)
  refine PyProof.Rows.callWith_builtin1 ?_ he (by rfl)
  rw [he]
  show wpAny _ _ (spliced ((false, eval (.GeneratorExp elt [⟨tg, iter, [], 0⟩] scope gpos) X.env) :: backTo pos (starEach [] X.env))) _ _ s
  refine Calls.spliced_cons (make_gen hr.hd hr.depth TB hcode ok hi hs I h fun J H1 H2 s4 s5 a it g go code fp tn hR hT m => ?_)
  refine Calls.spliced_nil ?_
  obtain ⟨N, W, w0, R⟩ := hR H2 hT
  refine call_function_tree PySem.F.kind_all PySem.F.plain_all PySem.F.entry_all (PySem.F.args_all1 _) ?_
  unfold Builtin.«all»
  refine wpAny_bind (m := oneArg "all" _) (wpAny_pure ?_)
  refine wpAny_bind (wpAny_pyIter_gen m.gen ?_)
  refine wpAny_pure ⟨plainId_quiet PySem.F.plain_all_loop _, ?_⟩
  refine all_loop (Ms := Ms) (N := N) (W := W) (Q := Q) (Rr := fun r s' => match r with | .ok (.ret v) => EP X pins σ Q v s' | .ok _ => False | .error e => X.xe e s') m hr.hd hr.depth (fun b s' h => h) N s5 m.gen m.lim ⟨_, m.fresh, rfl, ?_⟩
  refine m.seg ok (A := X.A.in1.in1) hr.hd hfr (hel _ _ _ _ _ _ ?_) (hpg _ _ _ _ _ _) (S := []) (fun b z => by cases z) R w0 (s5.setGen g .running) rfl (allBare_setGen m.bare rfl) (fun _ _ e => e) (fun b z => by cases z)
  refine ⟨hr.hd, ?_, ?_⟩
  · have := hr.dp
    show X.A.depth + 1 + 3 * k + 5 < _
    omega
  · have := hr.un
    show X.A.units + 1 + 1 + 3 + 16 * k + 200 < _
    omega
end
end GT
namespace GT
open PySem PySem.Spec PyProof.Rows L2
theorem turn_lst {K : PySem.W.Frag} {a : Addr} {xs : List V} {g : TG} {te : TE} {σ : L2.St} {kn : Nat} {Yv : Nat → V → Hp → Prop} {Qe : Hp → Prop} {N : Nat} (Pv : Nat → Hp → Prop) (hN : N = xs.length) (hl : ∀ i H, i ≤ xs.length → Pv i H → SqL K H a xs)
    (hs : ∀ i x H, xs[i]? = some x → Pv i H → ∀ os : List (Option V), os.length = kn → g x (σ ++ os) H fun σ2 H2 => (∃ os' : List (Option V), os'.length = kn ∧ σ2 = σ ++ os') ∧ te σ2 H2 fun y H3 => Yv i y H3) (hd : ∀ H, Pv xs.length H → Qe H) : GTurn (Itl K a) g te σ kn N (fun i H => i ≤ xs.length ∧ Pv i H) Yv Qe := by
  subst hN
  rintro i H ⟨hi, p⟩
  have q := hl i H hi p
  by_cases hlt : i < xs.length
  · refine .inr ⟨hlt, ⟨xs, xs[i], q, by simp [hlt]⟩, fun x H' y os ho => ?_⟩
    obtain ⟨e, y⟩ := y
    subst e
    exact hs i x _ (y xs q) p os ho
  · have e : i = xs.length := by omega
    subst e
    exact .inl ⟨rfl, ⟨xs, q, Nat.le_refl _⟩, hd H p⟩
theorem four {os : List (Option V)} (h : os.length = 4) : ∃ a b c d, os = [a, b, c, d] := by
  match os, h with
  | [a, b, c, d], _ => exact ⟨a, b, c, d, rfl⟩
theorem two {os : List (Option V)} (h : os.length = 2) : ∃ a b, os = [a, b] := by
  match os, h with
  | [a, b], _ => exact ⟨a, b, rfl⟩
end GT
end

section
set_option Elab.async false
set_option linter.all false
set_option maxRecDepth 100000
set_option maxHeartbeats 4000000
/-! _helps, _still_hanging -/
namespace LP
open PySem PySem.Spec PyProof.Rows L2 Ly GY
section
variable [LamTab] {P : Program} {W0 : World} {K : PySem.W.Frag} {mg : Str → Option Value} {base : Heap}
/-- the dict of these cells, each with a list of cells -/
def HlpK (K : PySem.W.Frag) (H : Hp) (kvs : List (NestedKey × V)) (hs : List C3) (wf : C3 → List C3) : Prop := Paired (fun (kv : NestedKey × V) (c : C3) => kv.1 = kC c ∧ CellsL K H kv.2 (wf c)) kvs hs
def HlpD (P : Program) (W0 : World) (K : PySem.W.Frag) (H : Hp) (D : Addr) (hs : List C3) (wf : C3 → List C3) : Prop := ∃ kvs, GD.DN K P W0 H D kvs ∧ HlpK K H kvs hs wf
theorem HlpK.mono {S : List Addr} {H H' : Hp} {kvs : List (NestedKey × V)} {hs : List C3} {wf : C3 → List C3} (x : HlpK K H kvs hs wf) (k : Kp S H H') (n : XS H S) : HlpK K H' kvs hs wf :=
  paired_imp (fun kv c r => ⟨r.1, dpx k n _ r.2⟩) x
theorem HlpD.mono0 {H H' : Hp} {D : Addr} {hs : List C3} {wf : C3 → List C3} (x : HlpD P W0 K H D hs wf) (k : Kp [] H H') : HlpD P W0 K H' D hs wf := by
  obtain ⟨kvs, d, h⟩ := x
  exact ⟨kvs, dn_mono k List.not_mem_nil d, h.mono k (xs_nil H)⟩
theorem HlpD.mono {S : List Addr} {H H' : Hp} {D : Addr} {hs : List C3} {wf : C3 → List C3} (x : HlpD P W0 K H D hs wf) (k : Kp S H H') (n : XS H S) (m : D ∉ S) : HlpD P W0 K H' D hs wf := by
  obtain ⟨kvs, d, h⟩ := x
  exact ⟨kvs, dn_mono k m d, h.mono k n⟩
theorem HlpD.xs {H : Hp} {D : Addr} {hs : List C3} {wf : C3 → List C3} (x : HlpD P W0 K H D hs wf) : XS H [D] := by
  obtain ⟨kvs, d, h⟩ := x
  exact dn_xs d
theorem HlpK.keys {H : Hp} {wf : C3 → List C3} : ∀ {kvs : List (NestedKey × V)} {hs : List C3}, HlpK K H kvs hs wf → kvs.map (·.1) = hs.map kC
  | _, _, .nil => rfl
  | _, _, .cons a t => by rw [List.map_cons, List.map_cons, a.1, HlpK.keys t]
theorem HlpK.nodup {H : Hp} {kvs : List (NestedKey × V)} {hs : List C3} {wf : C3 → List C3} (x : HlpK K H kvs hs wf) (nd : hs.Nodup) : (kvs.map (·.1)).Nodup := by
  rw [x.keys]
  exact List.pairwise_map.mpr (nd.imp fun {a b} h e => h (kC_inj e))
theorem HlpK.val {H : Hp} {wf : C3 → List C3} {c : C3} : ∀ {kvs : List (NestedKey × V)} {hs : List C3}, HlpK K H kvs hs wf → (GD.valN kvs (kC c) = none ∧ c ∉ hs) ∨ ∃ v, GD.valN kvs (kC c) = some v ∧ c ∈ hs ∧ CellsL K H v (wf c)
  | _, _, .nil => .inl ⟨rfl, List.not_mem_nil⟩
  | kv :: _, e :: _, .cons a t => by
    have ih := HlpK.val (c := c) t
    unfold GD.valN at ih ⊢
    rw [List.find?_cons]
    by_cases z : e = c
    · have zk : kv.1 = kC c := by rw [a.1, z]
      rw [decide_eq_true zk]
      exact .inr ⟨kv.2, rfl, by rw [z]; exact List.mem_cons_self, by rw [← z]; exact a.2⟩
    · have zk : ¬ kv.1 = kC c := fun q => z (kC_inj (a.1.symm.trans q))
      rw [decide_eq_false zk]
      rcases ih with ⟨h1, h2⟩ | ⟨v, h1, h2, h3⟩
      · exact .inl ⟨h1, fun m => by
          rcases List.mem_cons.mp m with q | q
          · exact z q.symm
          · exact h2 q⟩
      · exact .inr ⟨v, h1, List.mem_cons_of_mem _ h2, h3⟩
/-- one more is put -/
theorem HlpK.snoc {H : Hp} {kvs : List (NestedKey × V)} {hs : List C3} {wf : C3 → List C3} {c : C3} {v : V} (x : HlpK K H kvs hs wf) (n : c ∉ hs) (hv : CellsL K H v (wf c)) : GD.putN kvs (kC c) v = kvs ++ [(kC c, v)] ∧ HlpK K H (kvs ++ [(kC c, v)]) (hs ++ [c]) wf := by
  rcases x.val (c := c) with ⟨h1, _⟩ | ⟨v', _, h2, _⟩
  · refine ⟨?_, paired_snoc ⟨rfl, hv⟩ x⟩
    unfold GD.putN
    rw [h1, if_neg (by decide)]
  · exact absurd h2 n
def spHelps (P : Program) (W0 : World) (K : PySem.W.Frag) : Sp := fun vs H Q _ => ∃ (u : V) (cs : List C3) (n : Nat) (z : Int), vs = [u, .int (n : Int), .int z] ∧ CellsL K H u cs ∧ Asc cs ∧ (∀ c ∈ cs, InR c) ∧ cs.length ≤ 64 ∧ n ≤ 2 ∧
  ∀ (H' : Hp) (D : Addr), Kp [] H H' → H D = none → HlpD P W0 K H' D (helpK cs n z) (wi cs n) → Q (.ref D) H'
abbrev nHelps : List Str := ["held", "reach", "z", "hanging", "cell", "_"]
theorem scHelps : FnScope nHelps ["held", "reach", "z"] (defScope sHelps) := ⟨rfl, rfl, rfl, by decide +kernel, rfl, by decide +kernel, by decide +kernel⟩
theorem ok_helps {f fH fW : Addr} {fd dH dW : FuncData} (F : Fun K "_helps" "_helps" sHelps f fd) (NH : Fn K mg "hanging_cells" fH dH ["held", "props", "reach"]) (GH : FnOk P W0 K mg base CX0 3 fH dH ["held", "props", "reach"] (spHangC P W0 K))
    (NW : Fn K mg "_within" fW dW ["held", "cell", "reach"]) (GW : FnOk P W0 K mg base CX0 2 fW dW ["held", "cell", "reach"] (spWithin K)) : FnOk P W0 K mg base CX0 4 f fd ["held", "reach", "z"] (spHelps P W0 K) := by
  refine F.ok scHelps (fun vs H Q E h => ?_) (fun cdv A outer s H vs Q E hr h => ?_)
  · obtain ⟨u, cs, n, z, rfl, _⟩ := h
    rfl
  · obtain ⟨u, cs, n, z, rfl, hu, hA, hIn, h64, hn, q⟩ := h
    have hr2 : Room 2 _ := hr.mono (by decide)
    have hU : (A.deeper (envOfC "_helps" (defScope sHelps) s.heap.objs.size f cdv)).units + 64 < cLine := by have := u65 hr; omega
    refine ⟨_, pss_cons (ps_set (i := 3) scHelps.nd rfl (.inl rfl) (pe_call GH hr (by rfl) NH.m NH.kp NH.b .nil pass0 (pa_cons (pv 0) (pa_cons (pe_lst pa_nil) (pa_cons (pv 1) pa_nil)))))
      (pss_one (ps_ret (GD.pe_dcG (own := [("cell", 4), ("_", 5)]) (g := gTup K 2 (gCons (gName 4) (gCons (gName 5) gNil))) rfl scHelps.nd hU (blkOk_by (own := [("cell", 4), ("_", 5)]) (N := nHelps) (sc := defScope sHelps) (by decide +kernel)) (pi_list (pv 3))
        (fun _ _ _ _ _ => pg_tup rfl (pgs_cons (pg_name (i := 4) scHelps.nd rfl (.inl rfl)) (pgs_cons (pg_name (i := 5) scHelps.nd rfl (.inl rfl)) pgs_nil)))
        (fun _ _ _ _ _ => pts_one (pt_cmpR op_eq (pe_ix (r := rIxT K) ix_tup (pv 4) pe_int (fun _ _ => rfl)) (pv 2) (nomark _)))
        (fun _ _ _ _ _ => pv 4) (fun _ _ _ _ _ => pe_call GW hr2 (by rfl) NW.m NW.kp NW.b .nil pass0 (pa_cons (pv 0) (pa_cons (pv 4) (pa_cons (pv 1) pa_nil))))))), ?_⟩
    refine ⟨_, rfl, (by show 0 ≤ sizeLine; decide), fun e0 he0 => ⟨_, rfl, ?_⟩⟩
    have k0 : Kp [] H (upd H e0 (.lst [])) := Kp.new he0
    have ee : upd H e0 (.lst []) e0 = some (.lst []) := upd_same
    generalize upd H e0 (.lst []) = H0 at k0 ee ⊢
    refine ⟨u, .ref e0, cs, [], (n : Int), rfl, cellsL_mono k0 hu, cellsL_of ee .nil, by decide, asc_nodup hA, h64, fun H1 r ys w k1 n1 h1 wy d1 => ?_⟩
    have k01 := k0.trans k1
    have eh : cs.filter (hk w (n : Int)) = cs.filter (hungB cs n) := List.filter_congr fun c hc => hk_hung wy hc
    rw [eh] at d1
    have hlen : (cs.filter (hungB cs n)).length ≤ 64 := Nat.le_trans (List.length_filter_le _ _) h64
    have hsub : ∀ c ∈ cs.filter (hungB cs n), c ∈ cs := fun c hc => (List.mem_filter.mp hc).1
    have hnd : (cs.filter (hungB cs n)).Nodup := (asc_nodup hA).filter _
    have hfin : (cs.filter (hungB cs n)).filter (fun c => decide (c.2.2 = z)) = helpK cs n z := by
      unfold helpK
      rw [List.filter_filter]
      exact List.filter_congr fun c _ => Bool.and_comm _ _
    generalize cs.filter (hungB cs n) = hs at d1 hlen hsub hnd hfin
    have yl := d1.length
    rw [List.length_map] at yl
    refine ⟨_, rfl, r, rfl, ⟨_, SqL.of h1⟩, fun D H2 nw dn => ?_⟩
    have k2 : Kp [] H1 H2 := Kp.newN nw
    refine ⟨fun i m H' => m = ys.length - i ∧ i ≤ ys.length ∧ Kp [] H1 H' ∧ HlpD P W0 K H' D ((hs.take i).filter fun c => decide (c.2.2 = z)) (wi cs n), ⟨ys.length, rfl, Nat.zero_le _, k2, [], dn, .nil⟩, fun i m H' wh => ?_⟩
    obtain ⟨rfl, hi, k3, hd⟩ := wh
    have h1' := k3.lst h1 List.not_mem_nil
    by_cases hlt : i < ys.length
    · refine .inr ⟨⟨ys, ys[i], SqL.of h1', List.getElem?_eq_getElem hlt⟩, fun H'' => Kp [] H1 H'' ∧ HlpD P W0 K H'' D ((hs.take (i + 1)).filter fun c => decide (c.2.2 = z)) (wi cs n), fun H'' wh => ⟨ys.length - (i + 1), by omega, rfl, hlt, wh⟩, fun x H'' yy => ?_⟩
      obtain ⟨e1, yy⟩ := yy
      subst e1
      have hx := yy ys (SqL.of h1')
      obtain ⟨d, hd0, hdx⟩ := (dps_keep k3 (noLs_map (fun c => noL_h w c) _) d1).get hx
      rw [List.getElem?_map] at hd0
      obtain ⟨c, hc, rfl⟩ := Option.map_eq_some_iff.mp hd0
      have hcm := List.mem_of_getElem? hc
      obtain ⟨t, x1, x2, rfl, ht, hx1, hx2⟩ := of_dp2 hdx
      obtain ⟨pc, rfl, hpc⟩ := of_dp_c hx1
      refine ⟨t, _, rfl, ht, rfl, _, _, rfl, _, _, rfl, rfl, rfl, ?_⟩
      refine ⟨_, rfl, pc, _, 2, _, rfl, rfl, hpc, rfl, _, rfl, rfl, _, rfl, ?_⟩
      by_cases hz : c.2.2 = z
      · refine itD1 (by rw [hz]) ?_
        have kk := k01.trans k3
        refine ⟨_, rfl, _, rfl, _, rfl, _, rfl, u, .ref pc, cs, c, n, rfl, cellsL_mono kk hu, dp_c hpc, hA, hIn, h64, hsub c hcm, hn, fun H4 r4 zs k4 n4 h4 i4 => ?_⟩
        obtain ⟨kvs, dn4, hk4⟩ := hd.mono0 k4
        have kl := paired_len hk4
        have fl := List.length_filter_le (fun c : C3 => decide (c.2.2 = z)) (hs.take i)
        rw [List.length_take] at fl
        have hnot : c ∉ (hs.take i).filter fun c => decide (c.2.2 = z) := fun m => nodup_take hnd hc (List.mem_filter.mp m).1
        refine ⟨kvs, kC c, dn4, keyD_c (c_mono k4 (dp_c hpc)), small_size (by omega), fun H5 ch dn5 => ?_⟩
        obtain ⟨e5, hk5⟩ := hk4.snoc (v := .ref r4) hnot (cellsL_of h4 i4)
        have kc : Kp [D] H4 H5 := Kp.chgN ch (List.mem_singleton.mpr rfl)
        have nD : H1 D = none := nw.free
        refine ⟨(k3.trans k4).chgN0 nD ch, kvs ++ [(kC c, .ref r4)], ?_, ?_⟩
        · rw [e5] at dn5; exact dn5
        · rw [take_filter hc, decide_eq_true hz, if_pos rfl]
          exact hk5.mono kc (dn_xs dn4)
      · refine itD0 (fun e => hz (V.int.inj e)) ⟨k3, ?_⟩
        rw [take_filter hc, decide_eq_false hz, if_neg (by decide), List.append_nil]
        exact hd
    · have e : i = ys.length := by omega
      subst e
      refine .inl ⟨⟨ys, SqL.of h1', Nat.le_refl _⟩, q H' D (k01.trans k3) ((k0.trans k1).free D nw.free) ?_⟩
      rw [yl, List.take_length, hfin] at hd
      exact hd
/-! ### _still_hanging -/
def spStill (P : Program) (W0 : World) (K : PySem.W.Frag) : Sp := fun vs H Q _ => ∃ (D : Addr) (v : V) (hs : List C3) (wf : C3 → List C3) (d : C3), vs = [.ref D, v] ∧ HlpD P W0 K H D hs wf ∧ hs.Nodup ∧ hs.length ≤ 64 ∧ Dp K H v (cD d) ∧
  ∀ (H' : Hp) (D' : Addr), Kp [D] H H' → H D' = none → HlpD P W0 K H' D hs wf → HlpD P W0 K H' D' (hs.filter fun c => !decide (d ∈ wf c)) wf → Q (.ref D') H'
abbrev nStill : List Str := ["helps", "prop", "cell"]
theorem scStill : FnScope nStill ["helps", "prop"] (defScope sStill) := ⟨rfl, rfl, rfl, by decide +kernel, rfl, by decide +kernel, by decide +kernel⟩
theorem ok_still {f : Addr} {fd : FuncData} (F : Fun K "_still_hanging" "_still_hanging" sStill f fd) : FnOk P W0 K mg base CX0 1 f fd ["helps", "prop"] (spStill P W0 K) := by
  refine F.ok scStill (fun vs H Q E h => ?_) (fun cdv A outer s H vs Q E hr h => ?_)
  · obtain ⟨D, v, hs, wf, d, rfl, _⟩ := h
    rfl
  · obtain ⟨D, v, hs, wf, d, rfl, hD, hnd, h64, hv, q⟩ := h
    have hU : (A.deeper (envOfC "_still_hanging" (defScope sStill) s.heap.objs.size f cdv)).units + 64 < cLine := by have := u65 hr; omega
    refine ⟨_, pss_one (ps_ret (GD.pe_dcG (own := [("cell", 2)]) (g := gName 2) rfl scStill.nd hU (blkOk_by (own := [("cell", 2)]) (N := nStill) (sc := defScope sStill) (by decide +kernel)) (GD.pi_keysN (pv 0))
        (fun _ _ _ _ _ => pg_name (i := 2) scStill.nd rfl (.inl rfl))
        (fun _ _ _ _ _ => pts_one (pt_cmpR (r := rNotInD K) (op_notInD (u65 hr)) (pv 1) (pe_ix (r := GD.rIxN K P W0) (GD.ix_N hU) (pv 0) (pv 2) (fun _ _ => rfl)) (by rfl)))
        (fun _ _ _ _ _ => pv 2) (fun _ _ _ _ _ => pe_ix (r := GD.rIxN K P W0) (GD.ix_N hU) (pv 0) (pv 2) (fun _ _ => rfl)))), ?_⟩
    obtain ⟨kvs, dn, hk⟩ := hD
    have xD := dn_xs dn
    refine ⟨_, rfl, D, kvs, rfl, dn, fun o Lr H1 ch pd => ?_⟩
    have k1 : Kp [D] H H1 := Kp.chgN ch (List.mem_singleton.mpr rfl)
    have hk1 := hk.mono k1 xD
    have hv1 := c_mono k1 hv
    have kl := paired_len hk
    refine fun D' H2 nw dn' => ?_
    have k2 : Kp [] H1 H2 := Kp.newN nw
    have nDD : D' ≠ D := fun z => by
      have := pd.at_
      rw [← z, nw.free] at this
      cases this
    refine ⟨fun i m H' => m = kvs.length - i ∧ i ≤ kvs.length ∧ Kp [] H1 H' ∧ GD.Pinned K P W0 H' D o Lr kvs ∧ HlpD P W0 K H' D' ((hs.take i).filter fun c => !decide (d ∈ wf c)) wf, ⟨kvs.length, rfl, Nat.zero_le _, k2, pin_keep k2 List.not_mem_nil pd, [], dn', .nil⟩, fun i m H' wh => ?_⟩
    obtain ⟨rfl, hi, k3, pd3, hd⟩ := wh
    have nfree : H D' = none := k1.free D' nw.free
    by_cases hlt : i < kvs.length
    · refine .inr ⟨⟨pd3, hlt⟩, fun H'' => Kp [] H1 H'' ∧ GD.Pinned K P W0 H'' D o Lr kvs ∧ HlpD P W0 K H'' D' ((hs.take (i + 1)).filter fun c => !decide (d ∈ wf c)) wf, fun H'' wh => ⟨kvs.length - (i + 1), by omega, rfl, hlt, wh⟩, fun x H'' yy => ?_⟩
      obtain ⟨e1, key, vv, hkv, hx⟩ := yy
      subst e1
      have hk3 := hk1.mono k3 (xs_nil H1)
      obtain ⟨c, hc, ek, hcl⟩ := paired_fst hk3 hkv
      have ek : key = kC c := ek
      subst ek
      have hva : GD.valN kvs (kC c) = some vv := val_at (hk3.nodup hnd) (List.mem_of_getElem? hkv)
      have hxc : Dp K H'' x (cD c) := by have := hx.1; rwa [kC_data] at this
      refine ⟨rfl, _, rfl, _, rfl, _, rfl, D, kvs, kC c, vv, rfl, pd3.dn, hx, hva, cD d, (wf c).map cD, c_mono k3 hv1, hcl, cD_shaped d, cDs_shapedL _, _, rfl, ?_⟩
      rw [any_eqv]
      cases e : decide (d ∈ wf c) with
      | true =>
        refine iteF ⟨k3, pd3, ?_⟩
        rw [take_filter hc, e, if_neg (by decide), List.append_nil]
        exact hd
      | false =>
        refine iteT ⟨_, rfl, _, rfl, _, rfl, D, kvs, kC c, vv, rfl, pd3.dn, hx, hva, ?_⟩
        obtain ⟨kvd, dn4, hk4⟩ := hd
        have kld := paired_len hk4
        have fl := List.length_filter_le (fun c : C3 => !decide (d ∈ wf c)) (hs.take i)
        rw [List.length_take] at fl
        have hnot : c ∉ (hs.take i).filter fun c => !decide (d ∈ wf c) := fun m => nodup_take hnd hc (List.mem_filter.mp m).1
        refine ⟨kvd, kC c, dn4, hx, small_size (by omega), fun H5 ch5 dn5 => ?_⟩
        obtain ⟨e5, hk5⟩ := hk4.snoc (v := vv) hnot hcl
        have kc : Kp [D'] H'' H5 := Kp.chgN ch5 (List.mem_singleton.mpr rfl)
        refine ⟨k3.chgN0 nw.free ch5, pin_keep kc (fun m => nDD (List.mem_singleton.mp m).symm) pd3, kvd ++ [(kC c, vv)], ?_, ?_⟩
        · rw [e5] at dn5; exact dn5
        · rw [take_filter hc, e, if_pos (by rfl)]
          exact hk5.mono kc (dn_xs dn4)
    · have e : i = kvs.length := by omega
      subst e
      refine .inl ⟨⟨pd3, Nat.le_refl _⟩, q H' D' (k1.trans k3.w0) nfree ⟨kvs, pd3.dn, hk1.mono k3 (xs_nil H1)⟩ ?_⟩
      rw [kl, List.take_length] at hd
      exact hd
end
end LP
end

section
set_option Elab.async false
set_option linter.all false
set_option maxRecDepth 100000
set_option maxHeartbeats 2000000
/-! check_layer -/
namespace LP
open PySem PySem.Spec PyProof.Rows L2 Ly GY
variable [LamTab] {P : Program} {W0 : World} {K : PySem.W.Frag} {mg : Str → Option Value} {base : Heap}
/-! ### check_layer -/
def spChk (C : Addr) : Sp := fun vs H Q E => ∃ z : Int, vs = [.int z] ∧ ((0 ≤ z ∧ z ≤ 3) → Q .non H) ∧ (¬ (0 ≤ z ∧ z ≤ 3) → E (.ref C) none H)
theorem scChk : FnScope ["z"] ["z"] (defScope sChk) := ⟨rfl, rfl, rfl, by decide +kernel, rfl, by decide +kernel, by decide +kernel⟩
theorem ok_chk {f C fN : Addr} {fd dN : FuncData} (F : Fun K "check_layer" "check_layer" sChk f fd) (T : Nm K mg) (X : Ex K mg "NoLayer" C)
    (NN : Fn K mg "is_number" fN dN ["value", "low", "high"]) (GN : FnOk P W0 K mg base CX0 1 fN dN ["value", "low", "high"] spNum) : FnOk P W0 K mg base (L2.CX P W0) 2 f fd ["z"] (spChk C) := by
  obtain ⟨tl, mL⟩ := T.last
  refine F.okX scChk (fun vs H Q E h => ?_) (fun cdv A outer s H vs Q E hr h => ?_)
  · obtain ⟨z, rfl, _⟩ := h
    rfl
  · obtain ⟨z, rfl, q1, q2⟩ := h
    refine ⟨_, pss_one (ps_if (pt_not (pt_val (pe_call GN hr (by rfl) NN.m NN.kp NN.b .nil pass0 (pa_cons (pv 0) (pa_cons pe_int (pa_cons (pe_glob (v := .int 3) rfl mL ⟨_, rfl⟩) pa_nil))))))
        (pss_one (ps_raise rfl (takes_of rfl rfl rfl rfl) (pmk_own PySem.F.excBase_ValueError X.x X.g X.k (raises_own X.b X.t) rfl))) pss_nil), ?_⟩
    refine ⟨_, rfl, z, 0, 3, rfl, _, rfl, ?_⟩
    cases e : btw 0 3 z with
    | false =>
      refine iteT (q2 fun z' => ?_)
      rw [btw_iff.mpr z'] at e
      cases e
    | true => exact iteF (q1 (btw_iff.mp e))
end LP
end

section
set_option Elab.async false
set_option linter.all false
set_option maxRecDepth 100000
set_option maxHeartbeats 4000000
/-! _is_shown, shows -/
namespace GT
open PySem PySem.Spec PyProof.Rows L2
theorem turn_zipG {K : PySem.W.Frag} {a b : Addr} {xs ys : List V} {g : TG} {te : TE} {σ : L2.St} {kn : Nat} {Yv : Nat → V → Hp → Prop} {Qe : Hp → Prop} {N : Nat} (Pv : Nat → Hp → Prop) (hN : N = xs.length) (he : xs.length = ys.length) (hl : ∀ i H, i ≤ xs.length → Pv i H → SqL K H a xs ∧ SqL K H b ys)
    (hs : ∀ i x y T H, xs[i]? = some x → ys[i]? = some y → Pv i H → H T = none → ∀ os : List (Option V), os.length = kn → g (.ref T) (σ ++ os) (upd H T (.tup [x, y])) fun σ2 H2 => (∃ os' : List (Option V), os'.length = kn ∧ σ2 = σ ++ os') ∧ te σ2 H2 fun y H3 => Yv i y H3) (hd : ∀ H, Pv xs.length H → Qe H) :
    GTurn (Itz K a b) g te σ kn N (fun i H => i ≤ xs.length ∧ Pv i H) Yv Qe := by
  subst hN
  rintro i H ⟨hi, p⟩
  obtain ⟨q1, q2⟩ := hl i H hi p
  by_cases hlt : i < xs.length
  · have hlt2 : i < ys.length := by omega
    refine .inr ⟨hlt, ⟨xs, ys, xs[i], ys[i], q1, q2, by simp [hlt], by simp [hlt2]⟩, fun v H' yy os ho => ?_⟩
    obtain ⟨T, x, y, rfl, hT, rfl, y1, y2⟩ := yy
    exact hs i x y T _ (y1 xs q1) (y2 ys q2) p hT os ho
  · have e : i = xs.length := by omega
    subst e
    exact .inl ⟨rfl, ⟨xs, ys, q1, q2, .inl (Nat.le_refl _)⟩, hd H p⟩
end GT
namespace LP
open PySem PySem.Spec PyProof.Rows L2 Ly GY
section
variable [LamTab] {P : Program} {W0 : World} {K : PySem.W.Frag} {mg : Str → Option Value} {base : Heap}
/-! ### papers as data -/
mutual
def pp : Paper → PyData
  | .mk c ps => .tuple [cD c, .list (pps ps)]
def pps : List Paper → List PyData
  | [] => []
  | p :: ps => pp p :: pps ps
end
theorem pps_map : ∀ ps : List Paper, pps ps = ps.map pp
  | [] => by simp [pps]
  | p :: ps => by simp [pps, pps_map ps]
mutual
theorem pp_lay : ∀ p : Paper, (pp p).canLay0 = true
  | .mk c ps => by
    have h := pps_lay ps
    simp only [pp, PyData.canLay0, PyData.canLayAll0, Bool.and_eq_true]
    exact ⟨by simp [cD, PyData.canLay0, PyData.canLayAll0], h, trivial⟩
theorem pps_lay : ∀ ps : List Paper, PyData.canLayAll0 (pps ps) = true
  | [] => by simp [pps, PyData.canLayAll0]
  | p :: ps => by
    simp only [pps, PyData.canLayAll0, Bool.and_eq_true]
    exact ⟨pp_lay p, pps_lay ps⟩
end
theorem pp_dep (c : C3) (ps : List Paper) : PyData.depthAll (pps ps) + 2 ≤ (pp (.mk c ps)).depth := by
  simp only [pp, PyData.depth, PyData.depthAll]
  omega
theorem pps_dep : ∀ {ps : List Paper} {p : Paper}, p ∈ ps → (pp p).depth ≤ PyData.depthAll (pps ps)
  | q :: ps, p, h => by
    simp only [pps, PyData.depthAll]
    rcases List.mem_cons.mp h with e | e
    · rw [e]; omega
    · have := pps_dep e; omega
theorem pps_shaped {ps : List Paper} (h : PyData.depthAll (pps ps) ≤ 60) : SeqAt.shaped (.list (pps ps)) = true := by
  have h3 : PyData.depth (.list (pps ps)) ≤ 64 := by
    simp only [PyData.depth]
    omega
  show (PyData.canLay0 (.list (pps ps)) && decide (PyData.depth (.list (pps ps)) ≤ 64)) = true
  rw [Bool.and_eq_true]
  exact ⟨by simp only [PyData.canLay0]; exact pps_lay ps, decide_eq_true h3⟩
theorem pps_eqv (ps : List Paper) : PyData.eqv (.list (pps ps)) (.list []) = ps.isEmpty := by
  cases ps <;> simp [pps, PyData.eqv, PyData.eqvAll]
theorem of_pp {H : Hp} {v : V} {p : Paper} (h : Dp K H v (pp p)) : ∃ t x b zs, v = .ref t ∧ SqT K H t [x, .ref b] ∧ Dp K H x (cD p.c) ∧ SqL K H b zs ∧ DpAll K H zs (pps p.ps) := by
  cases p with
  | mk c ps =>
  simp only [pp] at h
  obtain ⟨t, x, y, e, h1, h2, h3⟩ := of_dp2 h
  cases h3 with
  | lst hs ha => exact ⟨t, x, _, _, e, h1, h2, hs, ha⟩
/-! ### _is_shown -/
def spShown (P : Program) (W0 : World) (K : PySem.W.Frag) (Pg : Addr) (n : Nat) : Sp := fun vs H Q _ => ∃ (D : Addr) (m : Nat) (v : V) (hs : List C3) (wf : C3 → List C3) (p : Paper), vs = [.ref D, .int (m : Int), v] ∧ HlpD P W0 K H D hs wf ∧ hs.Nodup ∧ hs.length ≤ 64 ∧ (∀ c ∈ hs, (wf c).length ≤ 64) ∧ Dp K H v (pp p) ∧ (pp p).depth ≤ 60 ∧ m < n ∧ TGen H Pg ∧
  ∀ H' : Hp, Kp [D] H H' → HlpD P W0 K H' D hs wf → Q (.bl (shP wf m hs p)) H'
abbrev nShown : List Str := ["helps", "many", "paper", "cell", "papers"]
theorem scShown : FnScope nShown ["helps", "many", "paper"] (defScope sIsShown) := ⟨rfl, rfl, rfl, by decide +kernel, rfl, by decide +kernel, by decide +kernel⟩
theorem gShown : GT.GOk nShown nShown (defScope sIsShown) (genOf (stOf sIsShown 4)) ["prop", "one"] := ⟨rfl, rfl, by decide +kernel, rfl, by decide +kernel, by decide +kernel, by decide +kernel, by decide +kernel, by decide +kernel, rfl, by decide +kernel, by decide +kernel⟩
theorem shown_none {Pg f : Addr} {fd : FuncData} : FnOk P W0 K mg base CX0 1 f fd ["helps", "many", "paper"] (spShown P W0 K Pg 0) := by
  have no : ∀ vs H Q E, ¬ spShown P W0 K Pg 0 vs H Q E := fun vs H Q E h => by
    obtain ⟨_, _, _, _, _, _, _, _, _, _, _, _, _, hn, _⟩ := h
    omega
  exact ⟨fun vs H Q E h => absurd h (no vs H Q E), fun A outer s H args us vs Q E _ _ _ _ h => absurd h (no vs H Q E)⟩
theorem shown_step {n r : Nat} {f c Pg fS : Addr} {fd dS : FuncData} (hr0 : 1 ≤ r) (F : FunC K "_is_shown" "_is_shown" sIsShown f fd c) (TB : GxR.TabB base mg c Pg) (T : Nm K mg) (hZ : mg "zip" = none) (NS : Fn K mg "_still_hanging" fS dS ["helps", "prop"]) (GS : FnOk P W0 K mg base CX0 1 fS dS ["helps", "prop"] (spStill P W0 K))
    (NR : Fn K mg "_is_shown" f fd ["helps", "many", "paper"]) (GR : FnOk P W0 K mg base CX0 r f fd ["helps", "many", "paper"] (spShown P W0 K Pg n)) : FnOk P W0 K mg base CX0 (r + 3) f fd ["helps", "many", "paper"] (spShown P W0 K Pg (n + 1)) := by
  refine F.ok scShown (fun vs H Q E h => ?_) (fun A outer s H vs Q E hr h => ?_)
  · obtain ⟨D, m, v, hs, wf, p, rfl, _⟩ := h
    rfl
  · obtain ⟨D, m, v, hs, wf, p, rfl, hD, hnd, h64, hwl, hv, hdp, hm, hPg, q⟩ := h
    have hU : (A.deeper (envOfC "_is_shown" (defScope sIsShown) s.heap.objs.size f (.ref c))).units + 64 < cLine := by have := u65 hr; omega
    refine ⟨_, pss_cons (ps_asg (pv 2) (pg_tup rfl (pgs_cons (pg_name (i := 3) scShown.nd rfl (.inl rfl)) (pgs_cons (pg_name (i := 4) scShown.nd rfl (.inl rfl)) pgs_nil))))
      (pss_cons (ps_if (pt_cmpR (r := GD.rNotInN K P W0) (GD.op_notInN hU) (pv 3) (pv 0) (by rfl)) (pss_one (ps_ret pe_bl)) pss_nil)
      (pss_cons (ps_if (pt_cmpR op_eq (pv 1) pe_int (nomark _)) (pss_one (ps_ret (pe_cmpR (op_eqD hU) (pv 4) (pe_lst pa_nil) (nomark _)))) pss_nil)
      (pss_cons (ps_if (pt_cmpR op_ne (pe_callB call_len_seq (by rfl) T.len PySem.boot_len (pa_cons (pv 4) pa_nil)) (pe_callB call_len_seq (by rfl) T.len PySem.boot_len (pa_cons (pe_ix (r := GD.rIxN K P W0) (GD.ix_N hU) (pv 0) (pv 3) (fun _ _ => rfl)) pa_nil)) (nomark _)) (pss_one (ps_ret pe_bl)) pss_nil)
      (pss_one (ps_ret (pe_fr fun hf => GT.pe_allT (Ms := nShown) (xs := ["prop", "one"]) (gt := gTup K 2 (gCons (gName 5) (gCons (gName 6) gNil))) (k := r) hr (by rfl) T.all TB rfl hf gShown
        (pi_zip (by rfl) hZ (pa_cons (pe_ix (r := GD.rIxN K P W0) (GD.ix_N hU) (pv 0) (pv 3) (fun _ _ => rfl)) (pa_cons (pv 4) pa_nil)))
        (fun A s H C code fp hr1 => pe_call GR hr1 (by rfl) NR.m NR.kp NR.b .nil pass0 (pa_cons (pe_call GS (hr1.mono hr0) (by rfl) NS.m NS.kp NS.b .nil pass0 (pa_cons (pv 0) (pa_cons (pv 5) pa_nil))) (pa_cons (pe_op op_sub (pv 1) pe_int) (pa_cons (pv 6) pa_nil))))
        (fun A s H C code fp => pg_tup rfl (pgs_cons (pg_name (i := 5) gShown.nd rfl (.inl rfl)) (pgs_cons (pg_name (i := 6) gShown.nd rfl (.inl rfl)) pgs_nil))))))))), ?_⟩
    obtain ⟨t, x, b, zs, rfl, ht, hx, hb, hzs⟩ := of_pp hv
    obtain ⟨kvs, dn, hk⟩ := id hD
    have kc : GD.KeyD K H x (kC p.c) := keyD_c hx
    have hzl := hzs.length
    rw [pps_map, List.length_map] at hzl
    have hpd : PyData.depthAll (pps p.ps) ≤ 58 := by
      cases p with
      | mk c ps => have := pp_dep c ps; show PyData.depthAll (pps ps) ≤ 58; omega
    refine ⟨_, rfl, t, _, rfl, ht, rfl, _, _, rfl, _, _, rfl, rfl, ?_⟩
    refine ⟨_, rfl, _, rfl, D, kvs, kC p.c, rfl, dn, kc, _, rfl, ?_⟩
    rcases hk.val (c := p.c) with ⟨hval, hnot⟩ | ⟨vl, hval, hin, hcl⟩
    · refine iteT' (by rw [hval]; rfl) ?_
      have q1 := q H (Kp.refl _ _) hD
      have e : shP wf m hs p = false := by
        cases m <;> unfold shP <;> rw [decide_eq_false hnot, Bool.false_and]
      rw [e] at q1
      exact q1
    refine iteF' (by rw [hval]; rfl) ?_
    refine ⟨_, rfl, rfl, _, rfl, ?_⟩
    cases m with
    | zero =>
      refine itD1 rfl ?_
      refine ⟨_, rfl, (by show 0 ≤ sizeLine; decide), fun e0 he0 => ?_⟩
      have k0 : Kp [] H (upd H e0 (.lst [])) := Kp.new he0
      refine ⟨.list (pps p.ps), .list [], .lst (k0.sqL hb List.not_mem_nil) (dpxs k0 (xs_nil H) _ hzs), .lst (SqL.of upd_same) .nil, pps_shaped (by omega), ints_shaped [], ?_⟩
      rw [pps_eqv]
      have q1 := q _ k0.w0 (hD.mono0 k0)
      have e : shP wf 0 hs p = p.ps.isEmpty := by unfold shP; rw [decide_eq_true hin, Bool.true_and]
      rw [e] at q1
      exact q1
    | succ m =>
      refine itD0 (fun e => by have := V.int.inj e; omega) ?_
      have hcl2 := hcl
      cases hcl2 with
      | lst hws hwd =>
      rename_i wa ws
      have hwl2 := hwd.length
      rw [List.length_map] at hwl2
      refine ⟨_, rfl, b, zs, rfl, .inl hb, _, rfl, _, rfl, D, kvs, kC p.c, .ref wa, rfl, dn, kc, hval, wa, ws, rfl, .inl hws, rfl, _, rfl, ?_⟩
      by_cases hln : p.ps.length = (wf p.c).length
      · have eln : (zs.length : Int) = (ws.length : Int) := by rw [hzl, hwl2, hln]
        refine iteF' (by rw [eln]; simp) ?_
        refine ⟨_, rfl, _, rfl, D, kvs, kC p.c, .ref wa, rfl, dn, kc, hval, _, rfl, wa, b, ws, zs, rfl, hws, hb, hPg.1, fun H2 tb => ?_⟩
        have k2 : Kp [] H H2 := Kp.tabbed hPg tb
        have esh : shP wf (m + 1) hs p = ((wf p.c).zip p.ps).all fun q => shP wf m (hs.filter fun c => !decide (q.1 ∈ wf c)) q.2 := by
          show (decide (p.c ∈ hs) && (decide (p.ps.length = (wf p.c).length) && _)) = _
          rw [decide_eq_true hin, decide_eq_true hln, Bool.true_and, Bool.true_and]
        rw [esh] at q
        have hws2 := k2.sqL hws List.not_mem_nil
        have hwd2 := dpxs k2 (xs_nil H) _ hwd
        have hb2 := k2.sqL hb List.not_mem_nil
        have hzs2 := dpxs k2 (xs_nil H) _ hzs
        have hD2 := hD.mono0 k2
        have x2 := hD2.xs
        have lstD : ∀ {a : Addr} {xs : List V} {H' : Hp}, Kp [D] H2 H' → SqL K H2 a xs → SqL K H' a xs := fun {a xs H'} k h => by
          rcases h with (h | ⟨o, h⟩) | h
          · exact .inl (.inl (k.lst h (x2 _ _ h)))
          · exact .inl (.inr ⟨o, k.frz _ _ _ h⟩)
          · exact .inr h
        refine ⟨_, _, ⟨Nat.zero_le _, ?p0⟩, GT.turn_zipG (xs := ws) (ys := zs) (fun i H' => Kp [D] H2 H' ∧ HlpD P W0 K H' D hs wf ∧ (((wf p.c).zip p.ps).take i).all (fun q => shP wf m (hs.filter fun c => !decide (q.1 ∈ wf c)) q.2) = true) rfl (by omega) (fun i H' _ pv => ⟨lstD pv.1 hws2, lstD pv.1 hb2⟩) (fun i wv ov Tt H' hwv hov pv hT os hos => ?ps) (fun H' pv => ?pd)⟩
        case p0 => exact ⟨Kp.refl _ _, hD2, rfl⟩
        case ps =>
          obtain ⟨o1, o2, rfl⟩ := GT.two hos
          obtain ⟨k3, hD3, pf⟩ := pv
          have hil := (List.getElem?_eq_some_iff.mp hwv).1
          obtain ⟨dd, hd0, hwx⟩ := (dpxs k3 x2 _ hwd2).get hwv
          rw [List.getElem?_map] at hd0
          obtain ⟨d, hd, rfl⟩ := Option.map_eq_some_iff.mp hd0
          obtain ⟨dq, hq0, hox⟩ := (dpxs k3 x2 _ hzs2).get hov
          rw [pps_map, List.getElem?_map] at hq0
          obtain ⟨one, hone, rfl⟩ := Option.map_eq_some_iff.mp hq0
          have hzip : ((wf p.c).zip p.ps)[i]? = some (d, one) := List.getElem?_zip_eq_some.mpr ⟨hd, hone⟩
          have kT : Kp [] H' (upd H' Tt (.tup [wv, ov])) := Kp.new hT
          refine ⟨Tt, _, rfl, SqT.of upd_same, rfl, _, _, rfl, _, _, rfl, rfl, ?_⟩
          refine ⟨⟨[some wv, some ov], rfl, rfl⟩, ?_⟩
          generalize upd H' Tt (.tup [wv, ov]) = H4 at kT ⊢
          have hD4 := hD3.mono0 kT
          refine ⟨_, rfl, _, rfl, D, wv, hs, wf, d, rfl, hD4, hnd, h64, dpx kT (xs_nil H') _ hwx, fun H5 D' k5 nD' hD5 hS5 => ?_⟩
          have x4 := hD4.xs
          have x3 := hD3.xs
          have k25 : Kp [D] H2 H5 := (k3.trans kT.w0).trans k5
          have hox5 : Dp K H5 ov (pp one) := dpx k5 x4 _ (dpx kT (xs_nil H') _ hox)
          have hdm : (pp one).depth ≤ 60 := by
            have := pps_dep (List.mem_of_getElem? hone)
            omega
          have hPg5 : TGen H5 Pg := k25.tab _ (k2.tab _ hPg)
          refine ⟨_, rfl, _, _, rfl, rfl, _, rfl, D', m, ov, hs.filter (fun c => !decide (d ∈ wf c)), wf, one, by show [V.ref D', V.int (((m + 1 : Nat) : Int) - 1), ov] = _; rw [show (((m + 1 : Nat) : Int) - 1) = (m : Int) by omega], hS5, hnd.filter _, Nat.le_trans (List.length_filter_le _ _) h64, (fun c hc => hwl c (List.mem_filter.mp hc).1), hox5, hdm, by omega, hPg5, fun H6 k6 hS6 => ?_⟩
          have nDD : D ∉ [D'] := fun z => by
            obtain ⟨kv4, dn4, _⟩ := hD4
            obtain ⟨φ, M, e, _⟩ := dn4
            rw [List.mem_singleton.mp z, nD'] at e
            cases e
          have k26 : Kp [D] H2 H6 := k25.off (by
            have : Kp [D] H2 H4 := k3.trans kT.w0
            exact this.free D' nD') (k6.weak fun a m => by rw [List.mem_singleton.mp m]; exact List.mem_cons_self)
          have hD6 : HlpD P W0 K H6 D hs wf := hD5.mono k6 hS5.xs nDD
          refine ⟨shP wf m (hs.filter fun c => !decide (d ∈ wf c)) one, rfl, ?_⟩
          cases e : shP wf m (hs.filter fun c => !decide (d ∈ wf c)) one with
          | true =>
            refine iteT ⟨hil, k26, hD6, ?_⟩
            rw [List.take_add_one, hzip, List.all_append, pf]
            simp [e]
          | false =>
            refine iteF ?_
            have q1 := q H6 (k2.w0.trans k26) hD6
            have ef : (((wf p.c).zip p.ps).all fun q => shP wf m (hs.filter fun c => !decide (q.1 ∈ wf c)) q.2) = false := by
              cases z : ((wf p.c).zip p.ps).all fun q => shP wf m (hs.filter fun c => !decide (q.1 ∈ wf c)) q.2 with
              | false => rfl
              | true =>
                have := List.all_eq_true.mp z _ (List.mem_of_getElem? hzip)
                simp only [e] at this
                cases this
            rw [ef] at q1
            exact q1
        case pd =>
          obtain ⟨k3, hD3, pf⟩ := pv
          have ezl : ((wf p.c).zip p.ps).length ≤ ws.length := by rw [List.length_zip]; omega
          rw [List.take_of_length_le ezl] at pf
          have q1 := q H' (k2.w0.trans k3) hD3
          rw [pf] at q1
          exact q1
      · refine iteT' (by
          have : (zs.length : Int) ≠ (ws.length : Int) := fun e => hln (by omega)
          simp [this]) ?_
        have q1 := q H (Kp.refl _ _) hD
        have e : shP wf (m + 1) hs p = false := by
          unfold shP
          rw [decide_eq_false hln, Bool.false_and, Bool.and_false]
        rw [e] at q1
        exact q1
theorem ok_shown {f c Pg fS : Addr} {fd dS : FuncData} (F : FunC K "_is_shown" "_is_shown" sIsShown f fd c) (TB : GxR.TabB base mg c Pg) (T : Nm K mg) (hZ : mg "zip" = none) (NS : Fn K mg "_still_hanging" fS dS ["helps", "prop"]) (GS : FnOk P W0 K mg base CX0 1 fS dS ["helps", "prop"] (spStill P W0 K))
    (NR : Fn K mg "_is_shown" f fd ["helps", "many", "paper"]) : ∀ n : Nat, FnOk P W0 K mg base CX0 (1 + n * 3) f fd ["helps", "many", "paper"] (spShown P W0 K Pg n)
  | 0 => shown_none
  | n + 1 => by
    have e : 1 + (n + 1) * 3 = (1 + n * 3) + 3 := by omega
    rw [e]
    exact shown_step (r := 1 + n * 3) (by omega) F TB T hZ NS GS NR (ok_shown F TB T hZ NS GS NR n)
/-! ### shows -/
def spShows (K : PySem.W.Frag) (Pt Pr Ph Pg CR CL : Addr) : Sp := fun vs H Q E => ∃ (v : V) (b : Bd) (rr z : Int) (m : Nat) (w : V) (p : Paper), vs = [v, .int rr, .int z, .int (m : Int), w] ∧ Body K H v b ∧ Good b ∧ nb b ≤ 20 ∧ Tb H Pt Pr Ph ∧ TGen H Pg ∧ Dp K H w (pp p) ∧ (pp p).depth ≤ 60 ∧ m < 6 ∧
  (¬ (0 ≤ rr ∧ rr ≤ 2) → ∀ H' : Hp, Kp [] H H' → E (.ref CR) none H') ∧ ((0 ≤ rr ∧ rr ≤ 2) → ¬ (0 ≤ z ∧ z ≤ 3) → ∀ H' : Hp, Kp [] H H' → E (.ref CL) none H') ∧
  ((0 ≤ rr ∧ rr ≤ 2) → (0 ≤ z ∧ z ≤ 3) → ∀ H' : Hp, Kp [] H H' → Q (.bl (shP (wi (all b) rr.toNat) m (helpK (all b) rr.toNat z) p)) H')
abbrev nShows : List Str := ["body", "reach", "z", "many", "paper", "held"]
theorem scShows : FnScope nShows ["body", "reach", "z", "many", "paper"] (defScope sShows) := ⟨rfl, rfl, rfl, by decide +kernel, rfl, by decide +kernel, by decide +kernel⟩
theorem ok_shows {f Pt Pr Ph Pg CR CL fC fR fL fH fS : Addr} {fd dC dR dL dH dS : FuncData} (F : Fun K "shows" "shows" sShows f fd) (NC : Fn K mg "cells" fC dC ["body"]) (GC : FnOk P W0 K mg base CX0 27 fC dC ["body"] (spCells K Pt Pr Ph))
    (NR : Fn K mg "check_reach" fR dR ["reach"]) (GR : FnOk P W0 K mg base (L2.CX P W0) 2 fR dR ["reach"] (spChkR CR)) (NL : Fn K mg "check_layer" fL dL ["z"]) (GL : FnOk P W0 K mg base (L2.CX P W0) 2 fL dL ["z"] (spChk CL))
    (NH : Fn K mg "_helps" fH dH ["held", "reach", "z"]) (GH : FnOk P W0 K mg base CX0 4 fH dH ["held", "reach", "z"] (spHelps P W0 K)) (NS : Fn K mg "_is_shown" fS dS ["helps", "many", "paper"]) (GS : FnOk P W0 K mg base CX0 (1 + 6 * 3) fS dS ["helps", "many", "paper"] (spShown P W0 K Pg 6)) :
    FnOk P W0 K mg base (L2.CX P W0) 28 f fd ["body", "reach", "z", "many", "paper"] (spShows K Pt Pr Ph Pg CR CL) := by
  refine F.okX scShows (fun vs H Q E h => ?_) (fun cdv A outer s H vs Q E hr h => ?_)
  · obtain ⟨v, b, rr, z, m, w, p, rfl, _⟩ := h
    rfl
  · obtain ⟨v, b, rr, z, m, w, p, rfl, hB, hg, hn, tb, hPg, hw, hdp, hm, q1, q2, q3⟩ := h
    have hr2 : Room 2 _ := hr.mono (by decide)
    have hr4 : Room 4 _ := hr.mono (by decide)
    have hr19 : Room (1 + 6 * 3) _ := hr.mono (by decide)
    refine ⟨_, pss_cons (ps_set (i := 5) scShows.nd rfl (.inl rfl) (pe_call GC hr (by rfl) NC.m NC.kp NC.b .nil pass0 (pa_cons (pv 0) pa_nil)))
      (pss_cons (ps_expr (pe_call (E := fun cls d H => E cls d H) GR hr2 (by rfl) NR.m NR.kp NR.b .nil (passes_call (takes_of rfl rfl rfl rfl) fun _ _ _ _ h => h) (pa_cons (pv 1) pa_nil)))
      (pss_cons (ps_expr (pe_call (E := fun cls d H => E cls d H) GL hr2 (by rfl) NL.m NL.kp NL.b .nil (passes_call (takes_of rfl rfl rfl rfl) fun _ _ _ _ h => h) (pa_cons (pv 2) pa_nil)))
      (pss_one (ps_ret (pe_call GS hr19 (by rfl) NS.m NS.kp NS.b .nil pass0 (pa_cons (pe_call GH hr4 (by rfl) NH.m NH.kp NH.b .nil pass0 (pa_cons (pv 5) (pa_cons (pv 1) (pa_cons (pv 2) pa_nil)))) (pa_cons (pv 3) (pa_cons (pv 4) pa_nil)))))))), ?_⟩
    refine ⟨_, rfl, v, b, rfl, hB, hg, hn, tb, fun H1 r zs k1 n1 h1 i1 => ?_⟩
    have hIn : ∀ c ∈ all b, InR c := fun c hc => (mem_all.mp hc).1
    refine ⟨_, rfl, rr, rfl, fun hrr => ?_, fun hrr => q1 hrr H1 k1⟩
    refine ⟨_, rfl, z, rfl, fun hz => ?_, fun hz => q2 hrr hz H1 k1⟩
    obtain ⟨n, hn'⟩ : ∃ n : Nat, rr = (n : Int) := ⟨rr.toNat, by omega⟩
    subst hn'
    have q4 := q3 hrr hz
    rw [Int.toNat_natCast] at q4
    refine ⟨_, rfl, _, rfl, _, rfl, .ref r, all b, n, z, rfl, cellsL_of h1 i1, all_asc b, hIn, all_len b, by omega, fun H2 D k2 nD hD => ?_⟩
    have k12 := k1.trans k2
    have hsl : (helpK (all b) n z).length ≤ 64 := Nat.le_trans (List.length_filter_le _ _) (all_len b)
    refine ⟨_, rfl, _, rfl, D, m, w, helpK (all b) n z, wi (all b) n, p, rfl, hD, (asc_nodup (all_asc b)).filter _, hsl, (fun c _ => Nat.le_trans (List.length_filter_le _ _) (all_len b)), dpx k12 (xs_nil H) _ hw, hdp, hm, k12.tab _ hPg, fun H3 k3 _ => ?_⟩
    exact q4 H3 (k12.off (k1.free D nD) k3)
end
end LP
end

section
/-! places of more defs of the laws -/
namespace LP
open PySem PySem.Spec PyProof.Rows L2
-- _law_rows: not in this statement
abbrev lTurned : Stmt := top 58
-- _law_due: not in this statement
-- _law_is_held: not in this statement
-- _law_are_rows: not in this statement
abbrev lLayer : Stmt := top 53
abbrev lHung : Stmt := top 54
abbrev lNear : Stmt := top 55
abbrev lShown : Stmt := top 56
abbrev lPaper : Stmt := top 57
abbrev lCopied : Stmt := top 59
-- _law_laid: not in this statement
-- _law_quarter: not in this statement
-- _law_every: not in this statement
-- _law_firsts: not in this statement
-- _law_goals: not in this statement
-- _law_chain: not in this statement
end LP
end

section
set_option Elab.async false
set_option linter.all false
set_option maxRecDepth 100000
set_option maxHeartbeats 4000000
/-! _law_layer, _law_hung, _law_near -/
namespace LP
open PySem PySem.Spec PyProof.Rows L2 Ly GY
section
variable [LamTab] {P : Program} {W0 : World} {K : PySem.W.Frag} {mg : Str → Option Value} {base : Heap}
/-! ### _law_layer -/
def spLLayer (K : PySem.W.Frag) : Sp := fun vs H Q _ => ∃ (u : V) (cs : List C3) (z : Int), vs = [u, .int z] ∧ CellsL K H u cs ∧ cs.length ≤ 64 ∧
  ∀ (H' : Hp) (t a b : Addr) (xs ys : List V), Kp [] H H' → SqT K H' t [.ref a, .ref b] → H a = none → H b = none → H' a = some (.lst xs) → Items K H' xs (lyr cs z) → H' b = some (.lst ys) → Items K H' ys (fre cs z) → Q (.ref t) H'
theorem scLLayer : FnScope ["_law_some", "_law_z", "_law_cell"] ["_law_some", "_law_z"] (defScope lLayer) := ⟨rfl, rfl, rfl, by decide +kernel, rfl, by decide +kernel, by decide +kernel⟩
theorem ok_llayer {f fF : Addr} {fd dF : FuncData} (F : Fun K "_law_layer" "_law_layer" lLayer f fd) (NF : Fn K mg "_law_free" fF dF ["_law_some"]) (GF : FnOk P W0 K mg base CX0 1 fF dF ["_law_some"] (spLFree K)) : FnOk P W0 K mg base CX0 2 f fd ["_law_some", "_law_z"] (spLLayer K) := by
  refine F.ok scLLayer (fun vs H Q E h => ?_) (fun cdv A outer s H vs Q E hr h => ?_)
  · obtain ⟨u, cs, z, rfl, _⟩ := h
    rfl
  · obtain ⟨u, cs, z, rfl, hu, h64, q⟩ := h
    refine ⟨_, pss_one (ps_ret (pe_tup (pa_cons (pe_lc (own := [("_law_cell", 2)]) (g := gName 2) rfl scLLayer.nd (pi_list (pv 0)) (blkOk_by (own := [("_law_cell", 2)]) (N := ["_law_some", "_law_z", "_law_cell"]) (sc := defScope lLayer) (by decide +kernel))
        (fun _ _ _ _ _ => pg_name (i := 2) scLLayer.nd rfl (.inl rfl)) (fun _ _ _ _ _ => pts_one (pt_cmpR op_eq (pe_ix (r := rIxT K) ix_tup (pv 2) pe_int (fun _ _ => rfl)) (pv 1) (nomark _))) (fun _ _ _ _ _ => pv 2))
      (pa_cons (pe_lc (own := [("_law_cell", 2)]) (g := gName 2) rfl scLLayer.nd (pi_list (pe_call GF hr (by rfl) NF.m NF.kp NF.b .nil pass0 (pa_cons (pv 0) pa_nil))) (blkOk_by (own := [("_law_cell", 2)]) (N := ["_law_some", "_law_z", "_law_cell"]) (sc := defScope lLayer) (by decide +kernel))
        (fun _ _ _ _ _ => pg_name (i := 2) scLLayer.nd rfl (.inl rfl)) (fun _ _ _ _ _ => pts_one (pt_cmpR op_eq (pe_ix (r := rIxT K) ix_tup (pv 2) pe_int (fun _ _ => rfl)) (pv 1) (nomark _))) (fun _ _ _ _ _ => pv 2)) pa_nil)))), ?_⟩
    obtain ⟨a, xs, rfl, hT, hI⟩ := of_cellsL hu
    have test : ∀ (c : C3) (p : Addr) (H' : Hp) (Nx : V → Hp → Prop) (Z : Hp → Prop), SqT K H' p [.int c.1, .int c.2.1, .int c.2.2] → (∀ H'', Kp [] H' H'' → decide (c.2.2 = z) = true → Nx (.ref p) H'') → (∀ H'', Kp [] H' H'' → decide (c.2.2 = z) = false → Z H'') → True := fun _ _ _ _ _ _ _ _ => trivial
    refine ⟨_, rfl, a, rfl, ⟨_, hT⟩, fun D hD => lc_filter (K := K) (fun c => decide (c.2.2 = z)) (Kp.refl _ _) hD hT hI h64 (fun c p H' Nx Z hc k hp n1 n2 => ?t) (fun H1 ys k1 hy hi => ?d)⟩
    case t =>
      refine ⟨rfl, _, rfl, p, _, 2, _, rfl, rfl, hp, rfl, _, rfl, rfl, _, rfl, ?_⟩
      by_cases e : c.2.2 = z
      · exact itD1 (by rw [e]) ⟨_, rfl, n1 H' (Kp.refl _ _) (decide_eq_true e)⟩
      · exact itD0 (fun q => e (V.int.inj q)) (n2 H' (Kp.refl _ _) (decide_eq_false e))
    case d =>
      have hfl : (frees cs).length ≤ 64 := Nat.le_trans (List.length_filter_le _ _) h64
      refine ⟨_, rfl, .ref a, cs, rfl, cellsL_mono k1 hu, h64, fun H2 r zs k2 n2 h2 i2 => ?_⟩
      refine ⟨r, rfl, ⟨_, SqL.of h2⟩, fun D2 hD2 => lc_filter (K := K) (fun c => decide (c.2.2 = z)) (Kp.refl _ _) hD2 (SqL.of h2) i2 hfl (fun c p H' Nx Z hc k hp n1 n2 => ?t2) (fun H3 ys3 k3 hy3 hi3 => ?d2)⟩
      case t2 =>
        refine ⟨rfl, _, rfl, p, _, 2, _, rfl, rfl, hp, rfl, _, rfl, rfl, _, rfl, ?_⟩
        by_cases e : c.2.2 = z
        · exact itD1 (by rw [e]) ⟨_, rfl, n1 H' (Kp.refl _ _) (decide_eq_true e)⟩
        · exact itD0 (fun q => e (V.int.inj q)) (n2 H' (Kp.refl _ _) (decide_eq_false e))
      case d2 =>
        refine ⟨(by show 2 ≤ sizeLine; decide), fun t ht => ?_⟩
        have kt := Kp.new (S := []) (o := .tup [.ref D, .ref D2]) ht
        have k13 := (k2.trans k3).trans kt
        exact q _ t D D2 ys ys3 (k1.trans k13) (SqT.of upd_same) hD ((k1.trans k2).free D2 hD2) (k13.lst hy List.not_mem_nil) (items_mono k13 hi) (kt.lst hy3 List.not_mem_nil) (items_mono kt hi3)
/-! ### _law_hung -/
theorem f_near {L bg : List C3} {f : C3 → Nat} (r : Rlx L bg f) (s : Stable L f) (hs : ∀ c ∈ bg, c ∈ L) {c : C3} (hc : c ∈ L) {n : Nat} (hn : n ≤ 2) : f c ≤ n ↔ Near L bg n c := by
  constructor
  · intro h
    exact ⟨f c, h, r.path c hc (by omega)⟩
  · rintro ⟨m, hm, p⟩
    have := r.least s hs p
    omega
def bgF (L F ps : List C3) : List C3 := L.filter fun c => !decide (c ∈ F) || decide (c ∈ ps)
def hungF (L F ps : List C3) (n : Nat) : List C3 := L.filter fun c => !((bgF L F ps).any fun s => reachB L s n c)
def spLHung (K : PySem.W.Frag) : Sp := fun vs H Q _ => ∃ (u v w : V) (L F ps : List C3) (n : Nat), vs = [u, v, w, .int (n : Int)] ∧ CellsL K H u L ∧ CellsL K H v F ∧ CellsL K H w ps ∧ L.Nodup ∧ L.length ≤ 64 ∧ n ≤ 2 ∧
  ∀ (H' : Hp) (r : Addr) (ys : List V), Kp [] H H' → H r = none → H' r = some (.lst ys) → Items K H' ys (hungF L F ps n) → Q (.ref r) H'
abbrev nHung : List Str := ["_law_layer_here", "_law_free_here", "_law_props", "_law_reach", "_law_ways_here", "_law_cell"]
theorem scLHung : FnScope nHung ["_law_layer_here", "_law_free_here", "_law_props", "_law_reach"] (defScope lHung) := ⟨rfl, rfl, rfl, by decide +kernel, rfl, by decide +kernel, by decide +kernel⟩
theorem ok_lhung {f fW : Addr} {fd dW : FuncData} (F : Fun K "_law_hung" "_law_hung" lHung f fd) (NW : Fn K mg "_law_ways" fW dW ["_law_some", "_law_begins"]) (GW : FnOk P W0 K mg base CX0 2 fW dW ["_law_some", "_law_begins"] (spLWays P W0 K)) :
    FnOk P W0 K mg base CX0 3 f fd ["_law_layer_here", "_law_free_here", "_law_props", "_law_reach"] (spLHung K) := by
  refine F.ok scLHung (fun vs H Q E h => ?_) (fun cdv A outer s H vs Q E hr h => ?_)
  · obtain ⟨u, v, w, L, Fs, ps, n, rfl, _⟩ := h
    rfl
  · obtain ⟨u, v, w, L, Fs, ps, n, rfl, hu, hv, hw, hnd, h64, hn, q⟩ := h
    have hU : (A.deeper (envOfC "_law_hung" (defScope lHung) s.heap.objs.size f cdv)).units + 64 < cLine := by have := u65 hr; omega
    refine ⟨_, pss_cons (ps_set (i := 4) scLHung.nd rfl (.inr rfl) (pe_call GW hr (by rfl) NW.m NW.kp NW.b .nil pass0 (pa_cons (pv 0) (pa_cons (pe_lc (own := [("_law_cell", 5)]) (g := gName 5) rfl scLHung.nd (pi_list (pv 0)) (blkOk_by (own := [("_law_cell", 5)]) (N := nHung) (sc := defScope lHung) (by decide +kernel))
        (fun _ _ _ _ _ => pg_name (i := 5) scLHung.nd rfl (.inl rfl))
        (fun _ _ _ _ _ => pts_one (PW.pt (pw_or (pt_cmpR (r := rNotInD K) (op_notInD (u65 hr)) (pv 5) (pv 1) (by rfl)) (pw_or1 (pt_cmpR (r := rInD K) (op_inD (u65 hr)) (pv 5) (pv 2) (by rfl)))))) (fun _ _ _ _ _ => pv 5)) pa_nil))))
      (pss_one (ps_ret (pe_lc (own := [("_law_cell", 5)]) (g := gName 5) rfl scLHung.nd (pi_list (pv 0)) (blkOk_by (own := [("_law_cell", 5)]) (N := nHung) (sc := defScope lHung) (by decide +kernel))
        (fun _ _ _ _ _ => pg_name (i := 5) scLHung.nd rfl (.inl rfl)) (fun _ _ _ _ _ => pts_one (pt_cmpR op_gt (pe_ix (r := GD.rIxN K P W0) (GD.ix_N hU) (pv 4) (pv 5) (fun _ _ => rfl)) (pv 3) (nomark _))) (fun _ _ _ _ _ => pv 5)))), ?_⟩
    obtain ⟨a, xs, rfl, hT, hI⟩ := of_cellsL hu
    refine ⟨_, rfl, _, rfl, a, rfl, ⟨_, hT⟩, fun D hD => lc_filter (K := K) (fun c => !decide (c ∈ Fs) || decide (c ∈ ps)) (Kp.refl _ _) hD hT hI h64 (fun c p H' Nx Z hc k hp n1 n2 => ?t) (fun H1 bs k1 hb hbi => ?d)⟩
    case t =>
      refine ⟨rfl, _, rfl, _, rfl, cD c, Fs.map cD, dp_c hp, cellsL_mono k hv, cD_shaped c, cDs_shapedL _, _, rfl, ?_⟩
      rw [any_eqv]
      cases e : decide (c ∈ Fs) with
      | false => exact iteT (iteT ⟨_, rfl, n1 H' (Kp.refl _ _) (by rw [e]; rfl)⟩)
      | true =>
        refine iteF ⟨_, rfl, _, rfl, cD c, ps.map cD, dp_c hp, cellsL_mono k hw, cD_shaped c, cDs_shapedL _, _, rfl, ?_⟩
        rw [any_eqv]
        cases e2 : decide (c ∈ ps) with
        | true => exact iteT ⟨_, rfl, n1 H' (Kp.refl _ _) (by rw [e, e2]; rfl)⟩
        | false => exact iteF (n2 H' (Kp.refl _ _) (by rw [e, e2]; rfl))
    case d =>
      refine ⟨.ref a, .ref D, L, bgF L Fs ps, rfl, cellsL_mono k1 hu, cellsL_of hb hbi, hnd, h64, fun H2 Dw g k2 n2 dn rx st => ?_⟩
      have k12 := k1.trans k2
      refine ⟨_, rfl, a, rfl, ⟨_, k12.sqL hT List.not_mem_nil⟩, fun R hR => lc_filter (K := K) (fun c => !((bgF L Fs ps).any fun s => reachB L s n c)) (Kp.refl _ _) hR (k12.sqL hT List.not_mem_nil) (items_mono k12 hI) h64 (fun c p H' Nx Z hc k hp n1 n2 => ?t2) (fun H3 ys k3 hy hi => q H3 R ys (k12.trans k3) (k12.free R hR) hy hi)⟩
      have dn2 := dn_mono k List.not_mem_nil dn
      have hval : GD.valN (kvs L (fV g)) (kC c) = some (.int (g c : Nat)) := by rw [valN_kvs, if_pos hc]; rfl
      have key := f_near rx st (fun c hc => (List.mem_filter.mp hc).1) hc hn
      refine ⟨rfl, _, rfl, _, rfl, Dw, _, kC c, _, rfl, dn2, keyD_c (dp_c hp), hval, _, rfl, _, _, rfl, rfl, _, rfl, ?_⟩
      have kk : (!((bgF L Fs ps).any fun s => reachB L s n c)) = decide (((g c : Nat) : Int) > (n : Int)) := by
        by_cases z : g c ≤ n
        · obtain ⟨s', hs', h'⟩ := near_src.mp (key.mp z)
          rw [decide_eq_false (by omega), List.any_eq_true.mpr ⟨s', hs', (reachB_iff n c).mpr h'⟩]
          rfl
        · rw [decide_eq_true (by omega)]
          cases e : (bgF L Fs ps).any fun s => reachB L s n c with
          | false => rfl
          | true =>
            obtain ⟨s', hs', h'⟩ := List.any_eq_true.mp e
            exact absurd (key.mpr (near_src.mpr ⟨s', hs', (reachB_iff n c).mp h'⟩)) z
      by_cases e : ((g c : Nat) : Int) > (n : Int)
      · exact itD1 e ⟨_, rfl, n1 H' (Kp.refl _ _) (by rw [kk, decide_eq_true e])⟩
      · exact itD0 e (n2 H' (Kp.refl _ _) (by rw [kk, decide_eq_false e]))
/-! ### _law_near -/
def spLNear (K : PySem.W.Frag) : Sp := fun vs H Q _ => ∃ (u v w : V) (L F : List C3) (c : C3) (n : Nat), vs = [u, v, w, .int (n : Int)] ∧ CellsL K H u L ∧ CellsL K H v F ∧ Dp K H w (cD c) ∧ L.Nodup ∧ L.length ≤ 64 ∧ F.length ≤ 64 ∧ (∀ d ∈ F, d ∈ L) ∧ c ∈ L ∧ n ≤ 2 ∧
  ∀ (H' : Hp) (r : Addr) (ys : List V), Kp [] H H' → H r = none → H' r = some (.lst ys) → Items K H' ys (F.filter (reachB L c n)) → Q (.ref r) H'
abbrev nNear : List Str := ["_law_layer_here", "_law_free_here", "_law_cell", "_law_reach", "_law_ways_here", "_law_one"]
theorem scLNear : FnScope nNear ["_law_layer_here", "_law_free_here", "_law_cell", "_law_reach"] (defScope lNear) := ⟨rfl, rfl, rfl, by decide +kernel, rfl, by decide +kernel, by decide +kernel⟩
theorem ok_lnear {f fW : Addr} {fd dW : FuncData} (F : Fun K "_law_near" "_law_near" lNear f fd) (NW : Fn K mg "_law_ways" fW dW ["_law_some", "_law_begins"]) (GW : FnOk P W0 K mg base CX0 2 fW dW ["_law_some", "_law_begins"] (spLWays P W0 K)) :
    FnOk P W0 K mg base CX0 3 f fd ["_law_layer_here", "_law_free_here", "_law_cell", "_law_reach"] (spLNear K) := by
  refine F.ok scLNear (fun vs H Q E h => ?_) (fun cdv A outer s H vs Q E hr h => ?_)
  · obtain ⟨u, v, w, L, Fs, c, n, rfl, _⟩ := h
    rfl
  · obtain ⟨u, v, w, L, Fs, c, n, rfl, hu, hv, hw, hnd, h64, hF64, hFL, hc, hn, q⟩ := h
    have hU : (A.deeper (envOfC "_law_near" (defScope lNear) s.heap.objs.size f cdv)).units + 64 < cLine := by have := u65 hr; omega
    refine ⟨_, pss_cons (ps_set (i := 4) scLNear.nd rfl (.inr rfl) (pe_call GW hr (by rfl) NW.m NW.kp NW.b .nil pass0 (pa_cons (pv 0) (pa_cons (pe_lst (pa_cons (pv 2) pa_nil)) pa_nil))))
      (pss_one (ps_ret (pe_lc (own := [("_law_one", 5)]) (g := gName 5) rfl scLNear.nd (pi_list (pv 1)) (blkOk_by (own := [("_law_one", 5)]) (N := nNear) (sc := defScope lNear) (by decide +kernel))
        (fun _ _ _ _ _ => pg_name (i := 5) scLNear.nd rfl (.inl rfl)) (fun _ _ _ _ _ => pts_one (pt_cmpR op_le (pe_ix (r := GD.rIxN K P W0) (GD.ix_N hU) (pv 4) (pv 5) (fun _ _ => rfl)) (pv 3) (nomark _))) (fun _ _ _ _ _ => pv 5)))), ?_⟩
    obtain ⟨a, xs, rfl, hT, hI⟩ := of_cellsL hv
    refine ⟨_, rfl, _, rfl, (by show 1 ≤ sizeLine; decide), fun l1 hl1 => ?_⟩
    have k1 : Kp [] H (upd H l1 (.lst [w])) := Kp.new hl1
    have e1 : upd H l1 (.lst [w]) l1 = some (.lst [w]) := upd_same
    generalize upd H l1 (.lst [w]) = H1 at k1 e1 ⊢
    refine ⟨u, .ref l1, L, [c], rfl, cellsL_mono k1 hu, cellsL_of e1 (.cons (c_mono k1 hw) .nil), hnd, h64, fun H2 Dw g k2 n2 dn rx st => ?_⟩
    have k12 := k1.trans k2
    refine ⟨_, rfl, a, rfl, ⟨_, k12.sqL hT List.not_mem_nil⟩, fun R hR => lc_filter (K := K) (reachB L c n) (Kp.refl _ _) hR (k12.sqL hT List.not_mem_nil) (items_mono k12 hI) hF64 (fun d p H' Nx Z hd k hp n1 n2 => ?t2) (fun H3 ys k3 hy hi => q H3 R ys (k12.trans k3) (k12.free R hR) hy hi)⟩
    have dn2 := dn_mono k List.not_mem_nil dn
    have hdL := hFL d hd
    have hval : GD.valN (kvs L (fV g)) (kC d) = some (.int (g d : Nat)) := by rw [valN_kvs, if_pos hdL]; rfl
    have key := f_near rx st (fun x hx => by rw [List.mem_singleton.mp hx]; exact hc) hdL hn
    refine ⟨rfl, _, rfl, _, rfl, Dw, _, kC d, _, rfl, dn2, keyD_c (dp_c hp), hval, _, rfl, _, _, rfl, rfl, _, rfl, ?_⟩
    by_cases e : ((g d : Nat) : Int) ≤ (n : Int)
    · exact itD1 e ⟨_, rfl, n1 H' (Kp.refl _ _) ((reachB_iff n d).mpr (key.mp (by omega)))⟩
    · refine itD0 e (n2 H' (Kp.refl _ _) ?_)
      cases z : reachB L c n d with
      | false => rfl
      | true => exact absurd (key.mpr ((reachB_iff n d).mp z)) (by omega)
end
end LP
end

section
set_option Elab.async false
set_option linter.all false
set_option maxRecDepth 100000
set_option maxHeartbeats 4000000
/-! _law_shown -/
namespace LP
open PySem PySem.Spec PyProof.Rows L2 Ly GY
section
variable [LamTab] {P : Program} {W0 : World} {K : PySem.W.Frag} {mg : Str → Option Value} {base : Heap}
def spLShown (K : PySem.W.Frag) (n : Nat) : Sp := fun vs H Q _ => ∃ (u v x : V) (pa : Addr) (ws : List V) (cs : List C3) (z : Int) (nn : Nat) (props : List C3) (m : Nat) (p : Paper), vs = [u, v, .ref pa, .int (nn : Int), .int (m : Int), x] ∧ CellsL K H u (lyr cs z) ∧ CellsL K H v (fre cs z) ∧ H pa = some (.lst ws) ∧ Items K H ws props ∧ cs.Nodup ∧ cs.length ≤ 64 ∧ nn ≤ 2 ∧ props.length + m ≤ 100 ∧ Dp K H x (pp p) ∧ m < n ∧
  ∀ H' : Hp, Kp [] H H' → Q (.bl (lsP (hangL cs z nn) (someL cs z nn) m props p)) H'
abbrev nLShown : List Str := ["_law_layer_here", "_law_free_here", "_law_props", "_law_reach", "_law_many", "_law_paper_here", "_law_cell", "_law_papers", "_law_some", "_law_near_here", "_law_k", "_law_more", "_law_one"]
theorem scLShown : FnScope nLShown ["_law_layer_here", "_law_free_here", "_law_props", "_law_reach", "_law_many", "_law_paper_here"] (defScope lShown) := ⟨rfl, rfl, rfl, by decide +kernel, rfl, by decide +kernel, by decide +kernel⟩
theorem lshown_none {f : Addr} {fd : FuncData} : FnOk P W0 K mg base CX0 4 f fd ["_law_layer_here", "_law_free_here", "_law_props", "_law_reach", "_law_many", "_law_paper_here"] (spLShown K 0) := by
  have no : ∀ vs H Q E, ¬ spLShown K 0 vs H Q E := fun vs H Q E h => by
    obtain ⟨_, _, _, _, _, _, _, _, _, _, _, _, _, _, _, _, _, _, _, _, _, hn, _⟩ := h
    omega
  exact ⟨fun vs H Q E h => absurd h (no vs H Q E), fun A outer s H args us vs Q E _ _ _ _ h => absurd h (no vs H Q E)⟩
theorem fre_lyr {cs : List C3} {z : Int} {d : C3} (h : d ∈ fre cs z) : d ∈ lyr cs z := by
  unfold fre frees at h
  obtain ⟨h1, h2⟩ := List.mem_filter.mp h
  exact List.mem_filter.mpr ⟨(List.mem_filter.mp h1).1, h2⟩
theorem lshown_step {n r : Nat} {f fH fN : Addr} {fd dH dN : FuncData} (hr0 : 4 ≤ r) (F : Fun K "_law_shown" "_law_shown" lShown f fd) (T : Nm K mg) (NH : Fn K mg "_law_hung" fH dH ["_law_layer_here", "_law_free_here", "_law_props", "_law_reach"]) (GH : FnOk P W0 K mg base CX0 3 fH dH ["_law_layer_here", "_law_free_here", "_law_props", "_law_reach"] (spLHung K))
    (NN : Fn K mg "_law_near" fN dN ["_law_layer_here", "_law_free_here", "_law_cell", "_law_reach"]) (GN : FnOk P W0 K mg base CX0 3 fN dN ["_law_layer_here", "_law_free_here", "_law_cell", "_law_reach"] (spLNear K))
    (NR : Fn K mg "_law_shown" f fd ["_law_layer_here", "_law_free_here", "_law_props", "_law_reach", "_law_many", "_law_paper_here"]) (GR : FnOk P W0 K mg base CX0 r f fd ["_law_layer_here", "_law_free_here", "_law_props", "_law_reach", "_law_many", "_law_paper_here"] (spLShown K n)) :
    FnOk P W0 K mg base CX0 (r + 1) f fd ["_law_layer_here", "_law_free_here", "_law_props", "_law_reach", "_law_many", "_law_paper_here"] (spLShown K (n + 1)) := by
  refine F.ok scLShown (fun vs H Q E h => ?_) (fun cdv A outer s H vs Q E hr h => ?_)
  · obtain ⟨u, v, x, pa, ws, cs, z, nn, props, m, p, rfl, _⟩ := h
    rfl
  · obtain ⟨u, v, x, pa, ws, cs, z, nn, props, m, p, rfl, hu, hv, hw, hwi, hnd, h64, hnn, hpl, hx, hm, q⟩ := h
    have hr3 : Room 3 _ := hr.mono (by omega)
    refine ⟨_, pss_cons (ps_asg (pv 5) (pg_tup rfl (pgs_cons (pg_name (i := 6) scLShown.nd rfl (.inl rfl)) (pgs_cons (pg_name (i := 7) scLShown.nd rfl (.inl rfl)) pgs_nil))))
      (pss_cons (ps_if (pt_cmpR (r := rNotInD K) (op_notInD (u65 hr)) (pv 6) (pe_call GH hr3 (by rfl) NH.m NH.kp NH.b .nil pass0 (pa_cons (pv 0) (pa_cons (pv 1) (pa_cons (pv 2) (pa_cons (pv 3) pa_nil))))) (by rfl)) (pss_one (ps_ret pe_bl)) pss_nil)
      (pss_cons (ps_set (i := 8) scLShown.nd rfl (.inl rfl) (pe_lst pa_nil))
      (pss_cons (ps_if (pt_cmpR op_gt (pv 4) pe_int (nomark _))
        (pss_cons (ps_set (i := 9) scLShown.nd rfl (.inl rfl) (pe_call GN hr3 (by rfl) NN.m NN.kp NN.b .nil pass0 (pa_cons (pv 0) (pa_cons (pv 1) (pa_cons (pv 6) (pa_cons (pv 3) pa_nil))))))
        (pss_one (ps_setLc (i := 8) (own := [("_law_one", 12)]) (g := gName 12) rfl scLShown.nd rfl rfl (sw_true rfl rfl rfl (by decide +kernel)) (pi_list (pv 9)) (blkOk_by (own := [("_law_one", 12)]) (N := nLShown) (sc := defScope lShown) (by decide +kernel))
          (fun _ _ _ _ _ => pg_name (i := 12) scLShown.nd rfl (.inl rfl)) (fun _ _ _ _ _ => pts_one (pt_cmpR (r := rNotInD K) (op_notInD (u65 hr)) (pv 12) (pv 2) (by rfl))) (fun _ _ _ _ _ => pv 12)))) pss_nil)
      (pss_cons (ps_if (pt_cmpR op_ne (pe_callB call_len_seq (by rfl) T.len PySem.boot_len (pa_cons (pv 7) pa_nil)) (pe_callB call_len_seq (by rfl) T.len PySem.boot_len (pa_cons (pv 8) pa_nil)) (nomark _)) (pss_one (ps_ret pe_bl)) pss_nil)
      (pss_cons (ps_for PassesOwn.never rfl (pi_range1 (by rfl) T.range (pa_cons (pe_callB call_len_seq (by rfl) T.len PySem.boot_len (pa_cons (pv 8) pa_nil)) pa_nil)) (pg_name (i := 10) scLShown.nd rfl (.inl rfl))
        (pss_cons (ps_set (i := 11) scLShown.nd rfl (.inl rfl) (pe_op op_cat (pv 2) (pe_lst (pa_cons (pe_ix (r := rIxL K) ix_list (pv 8) (pv 10) (fun _ _ => rfl)) pa_nil))))
        (pss_one (ps_if (pt_not (pt_val (pe_call GR hr (by rfl) NR.m NR.kp NR.b .nil pass0 (pa_cons (pv 0) (pa_cons (pv 1) (pa_cons (pv 11) (pa_cons (pv 3) (pa_cons (pe_op op_sub (pv 4) pe_int) (pa_cons (pe_ix (r := rIxL K) ix_list (pv 7) (pv 10) (fun _ _ => rfl)) pa_nil))))))))) (pss_one (ps_ret pe_bl)) pss_nil))))
      (pss_one (ps_ret pe_bl))))))), ?_⟩
    obtain ⟨t, x0, b, zs, rfl, ht, hx0, hb, hzs⟩ := of_pp hx
    obtain ⟨pc, rfl, hpc⟩ := of_dp_c hx0
    have hzl := hzs.length
    rw [pps_map, List.length_map] at hzl
    have hLn : (lyr cs z).Nodup := hnd.filter _
    have hLl : (lyr cs z).length ≤ 64 := Nat.le_trans (List.length_filter_le _ _) h64
    have hFl : (fre cs z).length ≤ 64 := Nat.le_trans (List.length_filter_le _ _) (Nat.le_trans (List.length_filter_le _ _) h64)
    refine ⟨_, rfl, t, _, rfl, ht, rfl, _, _, rfl, _, _, rfl, rfl, ?_⟩
    refine ⟨_, rfl, _, rfl, _, rfl, _, rfl, _, rfl, u, v, .ref pa, lyr cs z, fre cs z, props, nn, rfl, hu, hv, cellsL_of hw hwi, hLn, hLl, hnn, fun H1 rh hys k1 n1 h1 i1 => ?_⟩
    have i1 : Items K H1 hys (hangL cs z nn props) := i1
    refine ⟨cD p.c, (hangL cs z nn props).map cD, c_mono k1 hx0, cellsL_of h1 i1, cD_shaped _, cDs_shapedL _, _, rfl, ?_⟩
    rw [any_eqv]
    by_cases hin : p.c ∈ hangL cs z nn props
    rotate_left
    · refine iteT' (by rw [decide_eq_false hin]; rfl) ?_
      have q1 := q H1 k1
      have e : lsP (hangL cs z nn) (someL cs z nn) m props p = false := by
        cases m
        · show (decide (p.c ∈ hangL cs z nn props) && _) = false
          rw [decide_eq_false hin, Bool.false_and]
        · show (decide (p.c ∈ hangL cs z nn props) && _) = false
          rw [decide_eq_false hin, Bool.false_and]
      rw [e] at q1
      exact q1
    refine iteF' (by rw [decide_eq_true hin]; rfl) ?_
    refine ⟨(by show 0 ≤ sizeLine; decide), fun s0 hs0 => ?_⟩
    have k2 : Kp [] H1 (upd H1 s0 (.lst [])) := Kp.new hs0
    have e2 : upd H1 s0 (.lst []) s0 = some (.lst []) := upd_same
    generalize upd H1 s0 (.lst []) = H2 at k2 e2 ⊢
    have k02 := k1.trans k2
    refine ⟨_, rfl, _, _, rfl, rfl, _, rfl, ?_⟩
    cases m with
    | zero =>
      refine itD0 (by decide) ?_
      refine ⟨_, rfl, b, zs, rfl, .inl (k02.sqL hb List.not_mem_nil), _, rfl, s0, [], rfl, .inl (SqL.of e2), rfl, _, rfl, ?_⟩
      have q1 := q H2 k02
      have e : lsP (hangL cs z nn) (someL cs z nn) 0 props p = p.ps.isEmpty := by
        show (decide (p.c ∈ hangL cs z nn props) && p.ps.isEmpty) = _
        rw [decide_eq_true hin, Bool.true_and]
      rw [e] at q1
      by_cases hz : zs.length = 0
      · refine iteF' (by rw [hz]; rfl) ?_
        refine ⟨_, rfl, s0, [], rfl, .inl (SqL.of e2), (0 : Int), rfl, by decide, by decide, for_range (lo := 0) (n := 0) (fun i σ H' => H' = H2) rfl (fun i σ H' hi _ => by omega) (fun σ H' e => ?_)⟩
        subst e
        have : p.ps.isEmpty = true := by
          have : p.ps.length = 0 := by omega
          rw [List.length_eq_zero_iff.mp this]
          rfl
        rw [this] at q1
        exact q1
      · refine iteT' (by
          have : ¬ (zs.length : Int) = ((0 : Nat) : Int) := by omega
          have h2 : ¬ V.int (zs.length : Int) = V.int (([] : List V).length : Int) := fun q => this (V.int.inj q)
          rw [show decide (V.int (zs.length : Int) = V.int (([] : List V).length : Int)) = false from decide_eq_false h2]
          rfl) ?_
        have : p.ps.isEmpty = false := by
          cases e9 : p.ps with
          | nil => rw [e9] at hzl; exact absurd hzl hz
          | cons _ _ => rfl
        rw [this] at q1
        exact q1
    | succ m =>
      refine itD1 (by omega) ?_
      have hcL : p.c ∈ lyr cs z := (List.mem_filter.mp hin).1
      refine ⟨_, rfl, _, rfl, _, rfl, _, rfl, u, v, .ref pc, lyr cs z, fre cs z, p.c, nn, rfl, cellsL_mono k02 hu, cellsL_mono k02 hv, c_mono k02 hx0, hLn, hLl, hFl, (fun d hd => fre_lyr hd), hcL, hnn, fun H3 rn nys k3 n3 h3 i3 => ?_⟩
      have i3 : Items K H3 nys (nearL cs z nn p.c) := i3
      have k03 := k02.trans k3
      have hnl : (nearL cs z nn p.c).length ≤ 64 := Nat.le_trans (List.length_filter_le _ _) hFl
      refine ⟨_, rfl, rn, rfl, ⟨_, SqL.of h3⟩, fun D hD => lc_filter (K := K) (fun d => !decide (d ∈ props)) (Kp.refl _ _) hD (SqL.of h3) i3 hnl (fun d pd H' Nx Z hd k hp n1 n2 => ?t) (fun H4 sys k4 hsy hsi => ?d)⟩
      case t =>
        refine ⟨rfl, _, rfl, _, rfl, cD d, props.map cD, dp_c hp, cellsL_of ((k03.trans k).lst hw List.not_mem_nil) (items_mono (k03.trans k) hwi), cD_shaped d, cDs_shapedL _, _, rfl, ?_⟩
        rw [any_eqv]
        cases e : decide (d ∈ props) with
        | true => exact iteF (n2 H' (Kp.refl _ _) (by rw [e]; rfl))
        | false => exact iteT ⟨_, rfl, n1 H' (Kp.refl _ _) (by rw [e]; rfl)⟩
      case d =>
        have hsi : Items K H4 sys (someL cs z nn props p.c) := hsi
        have k04 := k03.trans k4
        have hsl := hsi.length
        have hb4 := k04.sqL hb List.not_mem_nil
        have hzs4 := dpxs k04 (xs_nil H) _ hzs
        refine ⟨_, rfl, b, zs, rfl, .inl hb4, _, rfl, D, sys, rfl, .inl (SqL.of hsy), rfl, _, rfl, ?_⟩
        by_cases hln : p.ps.length = (someL cs z nn props p.c).length
        rotate_left
        · refine iteT' (by
            have h2 : ¬ V.int (zs.length : Int) = V.int (sys.length : Int) := fun q => hln (by have := V.int.inj q; omega)
            rw [show decide (V.int (zs.length : Int) = V.int (sys.length : Int)) = false from decide_eq_false h2]
            rfl) ?_
          have q1 := q H4 k04
          have e : lsP (hangL cs z nn) (someL cs z nn) (m + 1) props p = false := by
            show (decide (p.c ∈ hangL cs z nn props) && (decide (p.ps.length = (someL cs z nn props p.c).length) && _)) = false
            rw [decide_eq_false hln, Bool.false_and, Bool.and_false]
          rw [e] at q1
          exact q1
        · refine itN (by omega) ?_
          have elp : lsP (hangL cs z nn) (someL cs z nn) (m + 1) props p = ((someL cs z nn props p.c).zip p.ps).all fun q => lsP (hangL cs z nn) (someL cs z nn) m (props ++ [q.1]) q.2 := by
            show (decide (p.c ∈ hangL cs z nn props) && (decide (p.ps.length = (someL cs z nn props p.c).length) && _)) = _
            rw [decide_eq_true hin, decide_eq_true hln, Bool.true_and, Bool.true_and]
          rw [elp] at q
          have hsll : (someL cs z nn props p.c).length ≤ 64 := Nat.le_trans (List.length_filter_le _ _) hnl
          refine ⟨_, rfl, D, sys, rfl, .inl (SqL.of hsy), (sys.length : Int), rfl, by omega, by omega, for_range (lo := 0) (n := sys.length) (fun i σ H' => Kp [] H4 H' ∧ (∃ o10 o11 : Option V, σ = [some u, some v, some (.ref pa), some (.int (nn : Int)), some (.int ((m + 1 : Nat) : Int)), some (.ref t), some (.ref pc), some (.ref b), some (.ref D), some (.ref rn), o10, o11, none]) ∧ (((someL cs z nn props p.c).zip p.ps).take i).all (fun q => lsP (hangL cs z nn) (someL cs z nn) m (props ++ [q.1]) q.2) = true)
            ⟨Kp.refl _ _, ⟨_, _, rfl⟩, rfl⟩ (fun i σ H' hi pv => ?turn) (fun σ H' pv => ?fin)⟩
          case fin =>
            obtain ⟨k5, ⟨o10, o11, rfl⟩, pf⟩ := pv
            have ezl : ((someL cs z nn props p.c).zip p.ps).length ≤ sys.length := by rw [List.length_zip]; omega
            rw [List.take_of_length_le ezl] at pf
            have q1 := q H' (k04.trans k5)
            rw [pf] at q1
            exact q1
          case turn =>
            obtain ⟨k5, ⟨o10, o11, rfl⟩, pf⟩ := pv
            rw [Int.zero_add]
            have k05 := k04.trans k5
            have hsy5 := k5.lst hsy List.not_mem_nil
            obtain ⟨ps', dc, es, ed, hds⟩ := Items.at (items_mono k5 hsi) (show i < (someL cs z nn props p.c).length by omega)
            have hw5 := k05.lst hw List.not_mem_nil
            have hwl := hwi.length
            have hiz : i < zs.length := by omega
            have hoz : zs[i]? = some zs[i] := List.getElem?_eq_getElem hiz
            generalize zs[i] = ov at hoz
            obtain ⟨dq, hq0, hox⟩ := (dpxs k5 (xs_nil H4) _ hzs4).get hoz
            rw [pps_map, List.getElem?_map] at hq0
            obtain ⟨one, hone, rfl⟩ := Option.map_eq_some_iff.mp hq0
            have hzip : ((someL cs z nn props p.c).zip p.ps)[i]? = some (dc, one) := List.getElem?_zip_eq_some.mpr ⟨ed, hone⟩
            refine ⟨_, rfl, _, rfl, _, rfl, D, sys, _, _, rfl, rfl, SqL.of hsy5, atI_nat es, (by show 1 ≤ sizeLine; decide), fun l1 hl1 => ?_⟩
            have k6 : Kp [] H' (upd H' l1 (.lst [.ref ps'])) := Kp.new hl1
            have e6 : upd H' l1 (.lst [.ref ps']) l1 = some (.lst [.ref ps']) := upd_same
            generalize upd H' l1 (.lst [.ref ps']) = H6 at k6 e6 ⊢
            refine ⟨pa, l1, ws, _, rfl, rfl, k6.lst hw5 List.not_mem_nil, e6, Nat.le_of_lt (small_size (by show ws.length + 1 ≤ _; omega)), fun l2 hl2 => ?_⟩
            have k7 : Kp [] H6 (upd H6 l2 (.lst (ws ++ [.ref ps']))) := Kp.new hl2
            have e7 : upd H6 l2 (.lst (ws ++ [.ref ps'])) l2 = some (.lst (ws ++ [.ref ps'])) := upd_same
            generalize upd H6 l2 (.lst (ws ++ [.ref ps'])) = H7 at k7 e7 ⊢
            have k57 := k6.trans k7
            have k07 := k05.trans k57
            have hb7 := (k5.trans k57).sqL hb4 List.not_mem_nil
            refine ⟨_, rfl, _, rfl, _, rfl, _, rfl, _, rfl, _, _, rfl, rfl, _, rfl, _, rfl, b, zs, _, _, rfl, rfl, hb7, atI_nat hoz, u, v, ov, l2, ws ++ [.ref ps'], cs, z, nn, props ++ [dc], m, one, by show [u, v, V.ref l2, V.int (nn : Int), V.int (((m + 1 : Nat) : Int) - 1), ov] = _; rw [show (((m + 1 : Nat) : Int) - 1) = (m : Int) by omega], cellsL_mono k07 hu, cellsL_mono k07 hv, e7, Items.append (items_mono k07 hwi) (Items.one (dp_c (k57.sqT hds))), hnd, h64, hnn, (by rw [List.length_append]; show props.length + 1 + m ≤ 100; omega), dpx k57 (xs_nil H') _ hox, by omega, fun H8 k8 => ?_⟩
            refine ⟨lsP (hangL cs z nn) (someL cs z nn) m (props ++ [dc]) one, rfl, ?_⟩
            cases e : lsP (hangL cs z nn) (someL cs z nn) m (props ++ [dc]) one with
            | true =>
              refine iteF ⟨(k5.trans k57).trans k8, ⟨_, _, rfl⟩, ?_⟩
              rw [List.take_add_one, hzip, List.all_append, pf]
              simp [e]
            | false =>
              refine iteT ?_
              have q1 := q H8 (k07.trans k8)
              have ef : (((someL cs z nn props p.c).zip p.ps).all fun q => lsP (hangL cs z nn) (someL cs z nn) m (props ++ [q.1]) q.2) = false := by
                cases zz : ((someL cs z nn props p.c).zip p.ps).all fun q => lsP (hangL cs z nn) (someL cs z nn) m (props ++ [q.1]) q.2 with
                | false => rfl
                | true =>
                  have := List.all_eq_true.mp zz _ (List.mem_of_getElem? hzip)
                  simp only [e] at this
                  cases this
              rw [ef] at q1
              exact q1
theorem ok_lshown {f fH fN : Addr} {fd dH dN : FuncData} (F : Fun K "_law_shown" "_law_shown" lShown f fd) (T : Nm K mg) (NH : Fn K mg "_law_hung" fH dH ["_law_layer_here", "_law_free_here", "_law_props", "_law_reach"]) (GH : FnOk P W0 K mg base CX0 3 fH dH ["_law_layer_here", "_law_free_here", "_law_props", "_law_reach"] (spLHung K))
    (NN : Fn K mg "_law_near" fN dN ["_law_layer_here", "_law_free_here", "_law_cell", "_law_reach"]) (GN : FnOk P W0 K mg base CX0 3 fN dN ["_law_layer_here", "_law_free_here", "_law_cell", "_law_reach"] (spLNear K))
    (NR : Fn K mg "_law_shown" f fd ["_law_layer_here", "_law_free_here", "_law_props", "_law_reach", "_law_many", "_law_paper_here"]) : ∀ n : Nat, FnOk P W0 K mg base CX0 (n + 4) f fd ["_law_layer_here", "_law_free_here", "_law_props", "_law_reach", "_law_many", "_law_paper_here"] (spLShown K n)
  | 0 => lshown_none
  | n + 1 => lshown_step (r := n + 4) (by omega) F T NH GH NN GN NR (ok_lshown F T NH GH NN GN NR n)
end
end LP
end

section
set_option Elab.async false
set_option linter.all false
set_option maxRecDepth 100000
set_option maxHeartbeats 4000000
/-! papers whose lists stand apart; _law_paper, _law_copied -/
namespace LP
open PySem PySem.Spec PyProof.Rows L2 Ly GY
section
variable [LamTab] {P : Program} {W0 : World} {K : PySem.W.Frag} {mg : Str → Option Value} {base : Heap}
mutual
/-- at v stands a paper whose lists stand at good places -/
inductive PAt (K : PySem.W.Frag) (H : Hp) (G : Addr → Prop) : V → Paper → Prop
  | mk {t : Addr} {x : V} {b : Addr} {zs : List V} {c : C3} {ps : List Paper} : SqT K H t [x, .ref b] → Dp K H x (cD c) → H b = some (.lst zs) → G b → PAts K H G zs ps → PAt K H G (.ref t) (.mk c ps)
inductive PAts (K : PySem.W.Frag) (H : Hp) (G : Addr → Prop) : List V → List Paper → Prop
  | nil : PAts K H G [] []
  | cons {v : V} {p : Paper} {vs : List V} {ps : List Paper} : PAt K H G v p → PAts K H G vs ps → PAts K H G (v :: vs) (p :: ps)
end
mutual
theorem PAt.mono {S : List Addr} {H H' : Hp} {G : Addr → Prop} (k : Kp S H H') (n : ∀ b, G b → b ∉ S) : ∀ (p : Paper) {v : V}, PAt K H G v p → PAt K H' G v p
  | .mk c ps, _, h => by
    cases h with
    | mk h1 h2 h3 h4 h5 => exact .mk (k.sqT h1) (c_mono k h2) (k.lst h3 (n _ h4)) h4 (PAts.mono k n ps h5)
theorem PAts.mono {S : List Addr} {H H' : Hp} {G : Addr → Prop} (k : Kp S H H') (n : ∀ b, G b → b ∉ S) : ∀ (ps : List Paper) {vs : List V}, PAts K H G vs ps → PAts K H' G vs ps
  | [], _, h => by cases h; exact .nil
  | p :: ps, _, h => by
    cases h with
    | cons h1 h2 => exact .cons (PAt.mono k n p h1) (PAts.mono k n ps h2)
end
mutual
theorem PAt.imp {H : Hp} {G G' : Addr → Prop} (g : ∀ b, G b → G' b) : ∀ (p : Paper) {v : V}, PAt K H G v p → PAt K H G' v p
  | .mk c ps, _, h => by
    cases h with
    | mk h1 h2 h3 h4 h5 => exact .mk h1 h2 h3 (g _ h4) (PAts.imp g ps h5)
theorem PAts.imp {H : Hp} {G G' : Addr → Prop} (g : ∀ b, G b → G' b) : ∀ (ps : List Paper) {vs : List V}, PAts K H G vs ps → PAts K H G' vs ps
  | [], _, h => by cases h; exact .nil
  | p :: ps, _, h => by
    cases h with
    | cons h1 h2 => exact .cons (PAt.imp g p h1) (PAts.imp g ps h2)
end
mutual
theorem PAt.dp {H : Hp} {G : Addr → Prop} : ∀ (p : Paper) {v : V}, PAt K H G v p → Dp K H v (pp p)
  | .mk c ps, _, h => by
    cases h with
    | mk h1 h2 h3 h4 h5 =>
      simp only [pp]
      exact .tup h1 (.cons h2 (.cons (.lst (SqL.of h3) (PAts.dp ps h5)) .nil))
theorem PAts.dp {H : Hp} {G : Addr → Prop} : ∀ (ps : List Paper) {vs : List V}, PAts K H G vs ps → DpAll K H vs (pps ps)
  | [], _, h => by cases h; simp only [pps]; exact .nil
  | p :: ps, _, h => by
    cases h with
    | cons h1 h2 =>
      simp only [pps]
      exact .cons (PAt.dp p h1) (PAts.dp ps h2)
end
theorem PAts.length {H : Hp} {G : Addr → Prop} : ∀ {vs : List V} {ps : List Paper}, PAts K H G vs ps → vs.length = ps.length
  | [], [], _ => rfl
  | _ :: vs, _ :: ps, h => by
    cases h with
    | cons h1 h2 => rw [List.length_cons, List.length_cons, PAts.length h2]
  | [], _ :: _, h => by cases h
  | _ :: _, [], h => by cases h
theorem PAts.append {H : Hp} {G : Addr → Prop} : ∀ {vs : List V} {ps : List Paper} {ws : List V} {qs : List Paper}, PAts K H G vs ps → PAts K H G ws qs → PAts K H G (vs ++ ws) (ps ++ qs)
  | [], [], _, _, _, h => h
  | _ :: vs, _ :: ps, _, _, h, h' => by
    cases h with
    | cons h1 h2 => exact .cons h1 (PAts.append h2 h')
  | [], _ :: _, _, _, h, _ => by cases h
  | _ :: _, [], _, _, h, _ => by cases h
theorem PAts.at {H : Hp} {G : Addr → Prop} : ∀ {vs : List V} {ps : List Paper} {i : Nat} {v : V}, PAts K H G vs ps → vs[i]? = some v → ∃ p, ps[i]? = some p ∧ PAt K H G v p
  | v :: vs, p :: ps, 0, u, h, e => by
    cases h with
    | cons h1 h2 => exact ⟨p, rfl, by rw [← Option.some.inj e]; exact h1⟩
  | v :: vs, p :: ps, i + 1, u, h, e => by
    cases h with
    | cons h1 h2 => exact PAts.at (i := i) h2 e
  | [], _, _, _, h, e => by simp at e
  | _ :: _, [], _, _, h, e => by cases h
theorem PAts.drop {H : Hp} {G : Addr → Prop} : ∀ (n : Nat) {vs : List V} {ps : List Paper}, PAts K H G vs ps → PAts K H G (vs.drop n) (ps.drop n)
  | 0, _, _, h => h
  | n + 1, [], [], h => h
  | n + 1, _ :: vs, _ :: ps, h => by
    cases h with
    | cons h1 h2 => exact PAts.drop n h2
  | _ + 1, [], _ :: _, h => by cases h
  | _ + 1, _ :: _, [], h => by cases h
theorem PAts.take {H : Hp} {G : Addr → Prop} : ∀ (n : Nat) {vs : List V} {ps : List Paper}, PAts K H G vs ps → PAts K H G (vs.take n) (ps.take n)
  | 0, _, _, h => .nil
  | n + 1, [], [], h => h
  | n + 1, _ :: vs, _ :: ps, h => by
    cases h with
    | cons h1 h2 => exact .cons h1 (PAts.take n h2)
  | _ + 1, [], _ :: _, h => by cases h
  | _ + 1, _ :: _, [], h => by cases h
/-! ### how deep and how wide -/
def PB (w : Nat) : Nat → Paper → Prop
  | 0, _ => False
  | d + 1, p => p.ps.length ≤ w ∧ ∀ q ∈ p.ps, PB w d q
theorem PB.mono {w w' : Nat} (hw : w ≤ w') : ∀ {d d' : Nat} {p : Paper}, d ≤ d' → PB w d p → PB w' d' p
  | 0, _, _, _, h => h.elim
  | d + 1, 0, _, hd, _ => by omega
  | d + 1, d' + 1, p, hd, h => ⟨Nat.le_trans h.1 hw, fun q hq => PB.mono hw (by omega) (h.2 q hq)⟩
theorem PB.dep {w : Nat} : ∀ {d : Nat} {p : Paper}, PB w d p → (pp p).depth ≤ 2 * d + 1
  | 0, _, h => h.elim
  | d + 1, .mk c ps, h => by
    have hc : (cD c).depth ≤ 1 := by simp [cD, PyData.depth, PyData.depthAll]
    have all : ∀ qs : List Paper, (∀ q ∈ qs, PB w d q) → PyData.depthAll (pps qs) ≤ 2 * d + 1 := fun qs => by
      induction qs with
      | nil => intro _; simp [pps, PyData.depthAll]
      | cons q qs ih =>
        intro hq
        have h1 := PB.dep (hq q List.mem_cons_self)
        have h2 := ih fun r hr => hq r (List.mem_cons_of_mem _ hr)
        simp only [pps, PyData.depthAll]
        omega
    have h3 := all ps h.2
    simp only [pp, PyData.depth, PyData.depthAll]
    omega
/-! ### _law_paper -/
def spLPaper (K : PySem.W.Frag) (n : Nat) : Sp := fun vs H Q _ => ∃ (h l ua va pa : Addr) (us fs ws : List V) (cs : List C3) (z : Int) (nn : Nat) (props : List C3) (m : Nat), vs = [.ref h, .ref ua, .ref va, .ref pa, .int (nn : Int), .int (m : Int)] ∧ Sta H h l ∧ H ua = some (.lst us) ∧ Items K H us (lyr cs z) ∧ H va = some (.lst fs) ∧ Items K H fs (fre cs z) ∧ H pa = some (.lst ws) ∧ Items K H ws props ∧
  ua ∉ [h, l] ∧ va ∉ [h, l] ∧ pa ∉ [h, l] ∧ cs.Nodup ∧ cs.length ≤ 64 ∧ nn ≤ 2 ∧ props.length + m ≤ 100 ∧ m < n ∧
  ∀ (H' : Hp) (v : V) (p : Paper), Kp [h, l] H H' → Sta H' h l → PAt K H' (fun b => H b = none) v p → PB 64 (m + 1) p → Q v H'
abbrev nLPaper : List Str := ["_law_h", "_law_layer_here", "_law_free_here", "_law_props", "_law_reach", "_law_many", "_law_some", "_law_cell", "_law_found", "_law_one"]
abbrev pLPaper : List Str := ["_law_h", "_law_layer_here", "_law_free_here", "_law_props", "_law_reach", "_law_many"]
theorem scLPaper : FnScope nLPaper pLPaper (defScope lPaper) := ⟨rfl, rfl, rfl, by decide +kernel, rfl, by decide +kernel, by decide +kernel⟩
theorem lpaper_none {f : Addr} {fd : FuncData} : FnOk P W0 K mg base CX0 4 f fd pLPaper (spLPaper K 0) := by
  have no : ∀ vs H Q E, ¬ spLPaper K 0 vs H Q E := fun vs H Q E h => by
    obtain ⟨_, _, _, _, _, _, _, _, _, _, _, _, _, _, _, _, _, _, _, _, _, _, _, _, _, _, _, _, hn, _⟩ := h
    omega
  exact ⟨fun vs H Q E h => absurd h (no vs H Q E), fun A outer s H args us vs Q E _ _ _ _ h => absurd h (no vs H Q E)⟩
theorem lpaper_step {n r : Nat} {f fX fH fN : Addr} {fd dX dH dN : FuncData} (hr0 : 4 ≤ r) (F : Fun K "_law_paper" "_law_paper" lPaper f fd) (T : Nm K mg) (NX : Fn K mg "_law_next" fX dX ["_law_h", "_law_many"]) (GX : FnOk P W0 K mg base CX0 1 fX dX ["_law_h", "_law_many"] spNext)
    (NH : Fn K mg "_law_hung" fH dH ["_law_layer_here", "_law_free_here", "_law_props", "_law_reach"]) (GH : FnOk P W0 K mg base CX0 3 fH dH ["_law_layer_here", "_law_free_here", "_law_props", "_law_reach"] (spLHung K))
    (NN : Fn K mg "_law_near" fN dN ["_law_layer_here", "_law_free_here", "_law_cell", "_law_reach"]) (GN : FnOk P W0 K mg base CX0 3 fN dN ["_law_layer_here", "_law_free_here", "_law_cell", "_law_reach"] (spLNear K))
    (NR : Fn K mg "_law_paper" f fd pLPaper) (GR : FnOk P W0 K mg base CX0 r f fd pLPaper (spLPaper K n)) : FnOk P W0 K mg base CX0 (r + 1) f fd pLPaper (spLPaper K (n + 1)) := by
  refine F.ok scLPaper (fun vs H Q E h => ?_) (fun cdv A outer s H vs Q E hr h => ?_)
  · obtain ⟨h, l, ua, va, pa, us, fs, ws, cs, z, nn, props, m, rfl, _⟩ := h
    rfl
  · obtain ⟨h, l, ua, va, pa, us, fs, ws, cs, z, nn, props, m, rfl, s0, hu, ui, hv, vi, hw, wi', nu, nv, np, hnd, h64, hnn, hpl, hm, q⟩ := h
    have hr3 : Room 3 _ := hr.mono (by omega)
    have hr1 : Room 1 _ := hr.mono (by omega)
    have hU : (A.deeper (envOfC "_law_paper" (defScope lPaper) s.heap.objs.size f cdv)).units + 64 < cLine := by have := u65 hr; omega
    refine ⟨_, pss_cons (ps_set (i := 6) scLPaper.nd rfl (.inl rfl) (pe_call GH hr3 (by rfl) NH.m NH.kp NH.b .nil pass0 (pa_cons (pv 1) (pa_cons (pv 2) (pa_cons (pv 3) (pa_cons (pv 4) pa_nil))))))
      (pss_cons (ps_if (pt_cmpR (op_eqD hU) (pv 6) (pe_lst pa_nil) (nomark _)) (pss_one (ps_ret (pe_tup (pa_cons (pe_tup (pa_cons pe_int (pa_cons pe_int (pa_cons pe_int pa_nil)))) (pa_cons (pe_lst pa_nil) pa_nil))))) pss_nil)
      (pss_cons (ps_set (i := 7) scLPaper.nd rfl (.inl rfl) (pe_ix (r := rIxL K) ix_list (pv 6) (pe_call GX hr1 (by rfl) NX.m NX.kp NX.b .nil pass0 (pa_cons (pv 0) (pa_cons (pe_callB call_len_seq (by rfl) T.len PySem.boot_len (pa_cons (pv 6) pa_nil)) pa_nil))) (fun _ _ => rfl)))
      (pss_cons (ps_set (i := 8) scLPaper.nd rfl (.inl rfl) (pe_lst pa_nil))
      (pss_cons (ps_if (pt_cmpR op_gt (pv 5) pe_int (nomark _))
        (pss_one (ps_for PassesOwn.never rfl (pi_list (pe_call GN hr3 (by rfl) NN.m NN.kp NN.b .nil pass0 (pa_cons (pv 1) (pa_cons (pv 2) (pa_cons (pv 7) (pa_cons (pv 4) pa_nil)))))) (pg_name (i := 9) scLPaper.nd rfl (.inl rfl))
          (pss_one (ps_if (pt_cmpR (r := rNotInD K) (op_notInD (u65 hr)) (pv 9) (pv 3) (by rfl))
            (pss_one (ps_expr (pe_bm PySem.F.plainAttrs_list PySem.F.slot_list_append PySem.F.type_list_append mt_append (pv 8) (pa_cons (pe_call GR hr (by rfl) NR.m NR.kp NR.b .nil pass0 (pa_cons (pv 0) (pa_cons (pv 1) (pa_cons (pv 2) (pa_cons (pe_op op_cat (pv 3) (pe_lst (pa_cons (pv 9) pa_nil))) (pa_cons (pv 4) (pa_cons (pe_op op_sub (pv 5) pe_int) pa_nil))))))) pa_nil)))) pss_nil)))) pss_nil)
      (pss_one (ps_ret (pe_tup (pa_cons (pv 7) (pa_cons (pv 8) pa_nil))))))))), ?_⟩
    have hLn : (lyr cs z).Nodup := hnd.filter _
    have hLl : (lyr cs z).length ≤ 64 := Nat.le_trans (List.length_filter_le _ _) h64
    have hFl : (fre cs z).length ≤ 64 := Nat.le_trans (List.length_filter_le _ _) (Nat.le_trans (List.length_filter_le _ _) h64)
    refine ⟨_, rfl, _, rfl, _, rfl, _, rfl, .ref ua, .ref va, .ref pa, lyr cs z, fre cs z, props, nn, rfl, cellsL_of hu ui, cellsL_of hv vi, cellsL_of hw wi', hLn, hLl, hnn, fun H1 rs rys k1 n1 h1 i1 => ?_⟩
    have i1 : Items K H1 rys (hangL cs z nn props) := i1
    have rl := i1.length
    have hhl : (hangL cs z nn props).length ≤ 64 := Nat.le_trans (List.length_filter_le _ _) hLl
    refine ⟨_, rfl, (by show 0 ≤ sizeLine; decide), fun e0 he0 => ?_⟩
    have k2 : Kp [] H1 (upd H1 e0 (.lst [])) := Kp.new he0
    have e2 : upd H1 e0 (.lst []) e0 = some (.lst []) := upd_same
    generalize upd H1 e0 (.lst []) = H2 at k2 e2 ⊢
    have k02 := k1.trans k2
    have h2 := k2.lst h1 List.not_mem_nil
    have i2 := items_mono k2 i1
    refine ⟨.list ((hangL cs z nn props).map cD), .list [], cellsL_of h2 i2, .lst (SqL.of e2) .nil, cDs_shapedL _, ints_shaped [], _, rfl, ?_⟩
    have eqv : PyData.eqv (.list ((hangL cs z nn props).map cD)) (.list []) = decide (hangL cs z nn props = []) := by
      cases hangL cs z nn props <;> simp [PyData.eqv, PyData.eqvAll]
    rw [eqv]
    by_cases hz : hangL cs z nn props = []
    · refine iteT' (decide_eq_true hz) ⟨(by show 3 ≤ sizeLine; decide), fun t1 ht1 => ⟨(by show 0 ≤ sizeLine; decide), fun q1 hq1 => ⟨(by show 2 ≤ sizeLine; decide), fun t2 ht2 => ?_⟩⟩⟩
      have k3 : Kp [] H2 (upd H2 t1 (.tup [.int 0, .int 0, .int 0])) := Kp.new ht1
      have e3 : SqT K (upd H2 t1 (.tup [.int 0, .int 0, .int 0])) t1 [.int 0, .int 0, .int 0] := SqT.of upd_same
      generalize upd H2 t1 (.tup [.int 0, .int 0, .int 0]) = H3 at k3 e3 hq1 ht2 ⊢
      have k4 : Kp [] H3 (upd H3 q1 (.lst [])) := Kp.new hq1
      have k5 := Kp.new (S := []) (o := .tup [.ref t1, .ref q1]) ht2
      have k05 := ((k02.trans k3).trans k4).trans k5
      refine q _ (.ref t2) (.mk (0, 0, 0) []) k05.w0 (s0.mono0 k05) (.mk (SqT.of upd_same) (dp_c (c := (0, 0, 0)) (k5.sqT (k4.sqT e3))) (k5.lst upd_same List.not_mem_nil) ((k02.trans k3).free q1 hq1) .nil) ⟨Nat.zero_le _, fun q hq => by cases hq⟩
    refine iteF' (decide_eq_false hz) ?_
    have hpos : 0 < rys.length := by
      have := List.length_pos_iff.mpr hz
      omega
    have s2 := s0.mono0 k02
    have nrs : rs ∉ [h, l] := s0.apart n1
    refine ⟨_, rfl, _, rfl, _, rfl, rs, rys, rfl, .inl (SqL.of h2), h, l, (rys.length : Int), rfl, by omega, by omega, s2, fun H3 w k3 s3 w0 w1 => ?_⟩
    obtain ⟨wn, rfl⟩ : ∃ wn : Nat, w = (wn : Int) := ⟨w.toNat, by omega⟩
    obtain ⟨pc, c, ex, ec, hc⟩ := Items.at i2 (show wn < (hangL cs z nn props).length by omega)
    have hin : c ∈ hangL cs z nn props := List.mem_of_getElem? ec
    have hcL : c ∈ lyr cs z := (List.mem_filter.mp hin).1
    have hc3 : SqT K H3 pc [.int c.1, .int c.2.1, .int c.2.2] := k3.sqT hc
    refine ⟨rs, rys, _, _, rfl, rfl, SqL.of (k3.lst h2 nrs), atI_nat ex, ?_⟩
    refine ⟨(by show 0 ≤ sizeLine; decide), fun D hD => ?_⟩
    have k4 : Kp [] H3 (upd H3 D (.lst [])) := Kp.new hD
    have eD : upd H3 D (.lst []) D = some (.lst []) := upd_same
    have nD3 : H3 D = none := hD
    generalize upd H3 D (.lst []) = H4 at k4 eD ⊢
    have k03 : Kp [h, l] H H3 := k02.w0.trans k3
    have k04 : Kp [h, l] H H4 := k03.trans k4.w0
    have s4 := s3.mono0 k4
    have nDS : D ∉ [h, l] := s3.apart hD
    have hDH : H D = none := k03.free D hD
    refine ⟨_, rfl, _, _, rfl, rfl, _, rfl, ?_⟩
    cases m with
    | zero =>
      refine itD0 (by decide) ⟨_, rfl, _, rfl, (by show 2 ≤ sizeLine; decide), fun t ht => ?_⟩
      have k5 := Kp.new (S := []) (o := .tup [.ref pc, .ref D]) ht
      refine q _ (.ref t) (.mk c []) (k04.trans k5.w0) (s4.mono0 k5) (.mk (SqT.of upd_same) (dp_c (k5.sqT (k4.sqT hc3))) (k5.lst eD List.not_mem_nil) hDH .nil) ⟨Nat.zero_le _, fun q hq => by cases hq⟩
    | succ m =>
      refine itD1 (by omega) ?_
      refine ⟨_, rfl, _, rfl, _, rfl, _, rfl, .ref ua, .ref va, .ref pc, lyr cs z, fre cs z, c, nn, rfl, cellsL_of (k04.lst hu nu) (items_mono k04 ui), cellsL_of (k04.lst hv nv) (items_mono k04 vi), dp_c (k4.sqT hc3), hLn, hLl, hFl, (fun d hd => fre_lyr hd), hcL, hnn, fun H5 nl nys k5 n5 h5 i5 => ?_⟩
      have i5 : Items K H5 nys (nearL cs z nn c) := i5
      have nln := i5.length
      have hnl : (nearL cs z nn c).length ≤ 64 := Nat.le_trans (List.length_filter_le _ _) hFl
      have nnS : nl ∉ [h, l] := s4.apart n5
      have nnD : nl ≠ D := fun e => by rw [e, eD] at n5; cases n5
      have eD5 := k5.lst eD List.not_mem_nil
      have k05 : Kp [h, l] H H5 := k04.trans k5.w0
      have k35 : Kp [h, l] H3 H5 := (k4.trans k5).w0
      refine ⟨nl, rfl, ⟨_, SqL.of h5⟩, for_list (K := K) (a := nl) (xs := nys) (fun i σ H' => Kp [h, l] H3 H' ∧ Sta H' h l ∧ H' nl = some (.lst nys) ∧ Items K H' nys (nearL cs z nn c) ∧ ∃ (o9 : Option V) (acc : List V) (ps : List Paper), σ = [some (.ref h), some (.ref ua), some (.ref va), some (.ref pa), some (.int (nn : Int)), some (.int ((m + 1 : Nat) : Int)), some (.ref rs), some (.ref pc), some (.ref D), o9] ∧ H' D = some (.lst acc) ∧ PAts K H' (fun b => H b = none ∧ b ≠ D) acc ps ∧ ps.length ≤ i ∧ ∀ q ∈ ps, PB 64 (m + 1) q)
        ⟨k35, s4.mono0 k5, h5, i5, none, [], [], rfl, eD5, .nil, Nat.le_refl _, fun q hq => by cases hq⟩ (fun i σ H' _ pv => SqL.of pv.2.2.1) (fun i x σ H' hx pv => ?turn) (fun σ H' pv => ?fin)⟩
      case fin =>
        obtain ⟨k6, s6, h6, i6, o9, acc, ps, rfl, hA, hps, hpn, hpb⟩ := pv
        refine ⟨_, rfl, _, rfl, (by show 2 ≤ sizeLine; decide), fun t ht => ?_⟩
        have k7 := Kp.new (S := []) (o := .tup [.ref pc, .ref D]) ht
        refine q _ (.ref t) (.mk c ps) ((k03.trans k6).trans k7.w0) (s6.mono0 k7) (.mk (SqT.of upd_same) (dp_c (k7.sqT (k6.sqT hc3))) (k7.lst hA List.not_mem_nil) hDH (PAts.imp (fun b hb => hb.1) ps (PAts.mono k7 (fun b _ => List.not_mem_nil) ps hps))) ⟨by show ps.length ≤ 64; omega, hpb⟩
      case turn =>
        obtain ⟨k6, s6, h6, i6, o9, acc, ps, rfl, hA, hps, hpn, hpb⟩ := pv
        have hil := (List.getElem?_eq_some_iff.mp hx).1
        obtain ⟨pd, d, ex', ed, hd⟩ := Items.at i6 (show i < (nearL cs z nn c).length by omega)
        rw [hx] at ex'
        have ex' : x = .ref pd := Option.some.inj ex'
        subst ex'
        have k06 : Kp [h, l] H H' := k03.trans k6
        have hw6 := k06.lst hw np
        refine ⟨_, rfl, _, rfl, cD d, props.map cD, dp_c hd, cellsL_of hw6 (items_mono k06 wi'), cD_shaped d, cDs_shapedL _, _, rfl, ?_⟩
        rw [any_eqv]
        cases e : decide (d ∈ props) with
        | true => exact iteF ⟨k6, s6, h6, i6, _, acc, ps, rfl, hA, hps, by omega, hpb⟩
        | false =>
          refine iteT ⟨_, rfl, .inl ⟨rfl, _, SqL.of hA⟩, ?_⟩
          refine ⟨_, rfl, _, rfl, _, rfl, _, rfl, _, rfl, (by show 1 ≤ sizeLine; decide), fun l1 hl1 => ?_⟩
          have k7 : Kp [] H' (upd H' l1 (.lst [.ref pd])) := Kp.new hl1
          have e7 : upd H' l1 (.lst [.ref pd]) l1 = some (.lst [.ref pd]) := upd_same
          generalize upd H' l1 (.lst [.ref pd]) = H7 at k7 e7 ⊢
          have hwl := wi'.length
          refine ⟨pa, l1, ws, _, rfl, rfl, k7.lst hw6 List.not_mem_nil, e7, Nat.le_of_lt (small_size (by show ws.length + 1 ≤ _; omega)), fun l2 hl2 => ?_⟩
          have k8 : Kp [] H7 (upd H7 l2 (.lst (ws ++ [.ref pd]))) := Kp.new hl2
          have e8 : upd H7 l2 (.lst (ws ++ [.ref pd])) l2 = some (.lst (ws ++ [.ref pd])) := upd_same
          have n2 : l2 ∉ [h, l] := (s6.mono0 k7).apart hl2
          generalize upd H7 l2 (.lst (ws ++ [.ref pd])) = H8 at k8 e8 ⊢
          have k68 := k7.trans k8
          have k08 : Kp [h, l] H H8 := k06.trans k68.w0
          refine ⟨_, rfl, _, rfl, _, _, rfl, rfl, h, l, ua, va, l2, us, fs, ws ++ [.ref pd], cs, z, nn, props ++ [d], m, by show [V.ref h, .ref ua, .ref va, V.ref l2, V.int (nn : Int), V.int (((m + 1 : Nat) : Int) - 1)] = _; rw [show (((m + 1 : Nat) : Int) - 1) = (m : Int) by omega], s6.mono0 k68, k08.lst hu nu, items_mono k08 ui, k08.lst hv nv, items_mono k08 vi, e8, Items.append (items_mono k08 wi') (Items.one (dp_c (k68.sqT hd))), nu, nv, n2, hnd, h64, hnn, (by rw [List.length_append]; show props.length + 1 + m ≤ 100; omega), by omega, fun H9 v9 p9 k9 s9 hp9 hb9 => ?_⟩
          have k69 : Kp [h, l] H' H9 := k68.w0.trans k9
          have hA9 := k69.lst hA nDS
          have k09 : Kp [h, l] H H9 := k06.trans k69
          have pl := hps.length
          have kc : Kp [D] H9 (upd H9 D (.lst (acc ++ [v9]))) := Kp.chg hA9 (List.mem_singleton.mpr rfl)
          have nDb : ∀ b, (H b = none ∧ b ≠ D) → b ∉ [D] := fun b hb m => hb.2 (List.mem_singleton.mp m)
          have nSb : ∀ b, (H b = none ∧ b ≠ D) → b ∉ [h, l] := fun b hb => s0.apart hb.1
          have hA8 : H8 D = some (.lst acc) := k68.lst hA List.not_mem_nil
          have g9 : ∀ b, H8 b = none → H b = none ∧ b ≠ D := fun b hb => ⟨k08.free b hb, fun e => by rw [e, hA8] at hb; cases hb⟩
          refine ⟨D, acc, _, rfl, rfl, hA9, small_size (by omega), (k6.trans k69).chg0 nD3 hA9, ?_, ?_, items_mono kc (items_mono k69 i6), _, acc ++ [v9], ps ++ [p9], rfl, upd_same, ?_, ?_, ?_⟩
          · exact s9.mono kc (fun m => nDS (by rw [← List.mem_singleton.mp m]; exact List.mem_cons_self)) (fun m => nDS (by rw [← List.mem_singleton.mp m]; exact List.mem_cons_of_mem _ List.mem_cons_self))
          · rw [upd_ne nnD]; exact k69.lst h6 nnS
          · exact PAts.append (PAts.mono kc nDb ps (PAts.mono k69 nSb ps hps)) (.cons (PAt.mono kc nDb p9 (PAt.imp g9 p9 hp9)) .nil)
          · rw [List.length_append]; show ps.length + 1 ≤ i + 1; omega
          · intro q' hq'
            rcases List.mem_append.mp hq' with z' | z'
            · exact hpb q' z'
            · rw [List.mem_singleton.mp z']; exact hb9
theorem ok_lpaper {f fX fH fN : Addr} {fd dX dH dN : FuncData} (F : Fun K "_law_paper" "_law_paper" lPaper f fd) (T : Nm K mg) (NX : Fn K mg "_law_next" fX dX ["_law_h", "_law_many"]) (GX : FnOk P W0 K mg base CX0 1 fX dX ["_law_h", "_law_many"] spNext)
    (NH : Fn K mg "_law_hung" fH dH ["_law_layer_here", "_law_free_here", "_law_props", "_law_reach"]) (GH : FnOk P W0 K mg base CX0 3 fH dH ["_law_layer_here", "_law_free_here", "_law_props", "_law_reach"] (spLHung K))
    (NN : Fn K mg "_law_near" fN dN ["_law_layer_here", "_law_free_here", "_law_cell", "_law_reach"]) (GN : FnOk P W0 K mg base CX0 3 fN dN ["_law_layer_here", "_law_free_here", "_law_cell", "_law_reach"] (spLNear K))
    (NR : Fn K mg "_law_paper" f fd pLPaper) : ∀ n : Nat, FnOk P W0 K mg base CX0 (n + 4) f fd pLPaper (spLPaper K n)
  | 0 => lpaper_none
  | n + 1 => lpaper_step (r := n + 4) (by omega) F T NX GX NH GH NN GN NR (ok_lpaper F T NX GX NH GH NN GN NR n)
end
end LP
end

section
set_option Elab.async false
set_option linter.all false
set_option maxRecDepth 100000
set_option maxHeartbeats 4000000
/-! _law_turned, _law_copied: papers told otherwise, and copied -/
namespace LP
open PySem PySem.Spec PyProof.Rows L2 Ly GY
section
variable [LamTab] {P : Program} {W0 : World} {K : PySem.W.Frag} {mg : Str → Option Value} {base : Heap}
/-- at a stands a list of so many papers, so wide and so deep -/
def PLB (K : PySem.W.Frag) (H : Hp) (G : Addr → Prop) (a : Addr) (w d n : Nat) : Prop := ∃ zs ps, H a = some (.lst zs) ∧ PAts K H G zs ps ∧ G a ∧ ps.length ≤ n ∧ ∀ q ∈ ps, PB w d q
theorem PLB.mono {S : List Addr} {H H' : Hp} {G : Addr → Prop} {a : Addr} {w d n : Nat} (x : PLB K H G a w d n) (k : Kp S H H') (g : ∀ b, G b → b ∉ S) : PLB K H' G a w d n := by
  obtain ⟨zs, ps, h1, h2, h3, h4, h5⟩ := x
  exact ⟨zs, ps, k.lst h1 (g a h3), PAts.mono k g ps h2, h3, h4, h5⟩
theorem PLB.weak {H : Hp} {G : Addr → Prop} {a : Addr} {w d n w' d' n' : Nat} (x : PLB K H G a w d n) (hw : w ≤ w') (hd : d ≤ d') (hn : n ≤ n') : PLB K H G a w' d' n' := by
  obtain ⟨zs, ps, h1, h2, h3, h4, h5⟩ := x
  exact ⟨zs, ps, h1, h2, h3, Nat.le_trans h4 hn, fun q hq => (h5 q hq).mono hw hd⟩
theorem PLB.cut {H : Hp} {G : Addr → Prop} {a : Addr} {w d n : Nat} (x : PLB K H G a w d n) : ∃ zs, H a = some (.lst zs) ∧ ∀ (i j : Option Int) (p : Addr), H p = none → G p → PLB K (upd H p (.lst (cutV zs i j))) G p w d n := by
  obtain ⟨zs, ps, h1, h2, h3, h4, h5⟩ := x
  refine ⟨zs, h1, fun i j p hp gp => ?_⟩
  have kn : Kp [] H (upd H p (.lst (cutV zs i j))) := Kp.new hp
  refine ⟨_, (ps.drop (HT.sIx zs.length 0 i)).take (HT.sIx zs.length zs.length j - HT.sIx zs.length 0 i), upd_same, ?_, gp, ?_, fun q hq => h5 q (List.mem_of_mem_drop (List.mem_of_mem_take hq))⟩
  · exact PAts.mono kn (fun b _ => List.not_mem_nil) _ (PAts.take _ (PAts.drop _ h2))
  · rw [List.length_take, List.length_drop]
    omega
theorem PLB.cat {H : Hp} {G : Addr → Prop} {a b : Addr} {w d n m : Nat} (x : PLB K H G a w d n) (y : PLB K H G b w d m) (hz : n + m ≤ 100000) : ∃ xs ys, H a = some (.lst xs) ∧ H b = some (.lst ys) ∧ xs.length + ys.length ≤ sizeLine ∧ ∀ p : Addr, H p = none → G p → PLB K (upd H p (.lst (xs ++ ys))) G p w d (n + m) := by
  obtain ⟨zs, ps, h1, h2, h3, h4, h5⟩ := x
  obtain ⟨ys, qs, g1, g2, g3, g4, g5⟩ := y
  have l1 := h2.length
  have l2 := g2.length
  refine ⟨zs, ys, h1, g1, Nat.le_of_lt (small_size (by omega)), fun p hp gp => ?_⟩
  have kn : Kp [] H (upd H p (.lst (zs ++ ys))) := Kp.new hp
  refine ⟨_, ps ++ qs, upd_same, PAts.append (PAts.mono kn (fun b _ => List.not_mem_nil) _ h2) (PAts.mono kn (fun b _ => List.not_mem_nil) _ g2), gp, by rw [List.length_append]; omega, fun q hq => ?_⟩
  rcases List.mem_append.mp hq with z | z
  · exact h5 q z
  · exact g5 q z
theorem PLB.one {H : Hp} {G : Addr → Prop} {v : V} {q : Paper} {w d : Nat} {p : Addr} (hq : PAt K H G v q) (hb : PB w d q) (hp : H p = none) (gp : G p) : PLB K (upd H p (.lst [v])) G p w d 1 := by
  have kn : Kp [] H (upd H p (.lst [v])) := Kp.new hp
  exact ⟨_, [q], upd_same, .cons (PAt.mono kn (fun b _ => List.not_mem_nil) q hq) .nil, gp, Nat.le_refl _, fun r hr => by rw [List.mem_singleton.mp hr]; exact hb⟩
theorem PLB.cutAt {H : Hp} {G : Addr → Prop} {a : Addr} {w d n : Nat} {zs : List V} (x : PLB K H G a w d n) (h : H a = some (.lst zs)) (i j : Option Int) {p : Addr} (hp : H p = none) (gp : G p) : PLB K (upd H p (.lst (cutV zs i j))) G p w d n := by
  obtain ⟨zs', h1, f⟩ := x.cut
  have e : zs' = zs := by rw [h1] at h; injection h with h; injection h
  subst e
  exact f i j p hp gp
theorem byTail {B G : Prop} (t : B) (f : B → G) : G := f t
def spLTurnedP (K : PySem.W.Frag) (n : Nat) : Sp := fun vs H Q _ => ∃ (h l : Addr) (v : V) (p : Paper) (w d : Nat), vs = [.ref h, v] ∧ Sta H h l ∧ PAt K H (fun b => b ∉ [h, l]) v p ∧ PB w d p ∧ w ≤ 400 ∧ d ≤ 20 ∧ d < n ∧
  ∀ (H' : Hp) (v' : V) (p' : Paper), Kp [h, l] H H' → Sta H' h l → PAt K H' (fun b => b ∉ [h, l]) v' p' → PB (2 * w + 1) (d + 1) p' → Q v' H'
abbrev nLTurnedP : List Str := ["_law_h", "_law_paper_here", "_law_cell", "_law_papers", "_law_k", "_law_way"]
theorem scLTurnedP : FnScope nLTurnedP ["_law_h", "_law_paper_here"] (defScope lTurned) := ⟨rfl, rfl, rfl, by decide +kernel, rfl, by decide +kernel, by decide +kernel⟩
theorem lturnedp_none {f : Addr} {fd : FuncData} : FnOk P W0 K mg base CX0 2 f fd ["_law_h", "_law_paper_here"] (spLTurnedP K 0) := by
  have no : ∀ vs H Q E, ¬ spLTurnedP K 0 vs H Q E := fun vs H Q E h => by
    obtain ⟨_, _, _, _, _, _, _, _, _, _, _, _, hn, _⟩ := h
    omega
  exact ⟨fun vs H Q E h => absurd h (no vs H Q E), fun A outer s H args us vs Q E _ _ _ _ h => absurd h (no vs H Q E)⟩
theorem lturnedp_step {n r : Nat} {f fX : Addr} {fd dX : FuncData} (hr0 : 2 ≤ r) (F : Fun K "_law_turned" "_law_turned" lTurned f fd) (T : Nm K mg) (U : Nl K mg) (NX : Fn K mg "_law_next" fX dX ["_law_h", "_law_many"]) (GX : FnOk P W0 K mg base CX0 1 fX dX ["_law_h", "_law_many"] spNext)
    (NR : Fn K mg "_law_turned" f fd ["_law_h", "_law_paper_here"]) (GR : FnOk P W0 K mg base CX0 r f fd ["_law_h", "_law_paper_here"] (spLTurnedP K n)) : FnOk P W0 K mg base CX0 (r + 1) f fd ["_law_h", "_law_paper_here"] (spLTurnedP K (n + 1)) := by
  refine F.ok scLTurnedP (fun vs H Q E h => ?_) (fun cdv A outer s H vs Q E hr h => ?_)
  · obtain ⟨h, l, v, p, w, d, rfl, _⟩ := h
    rfl
  · obtain ⟨h, l, v, p, w, d, rfl, s0, hp, hb, hw, h20, hd, q⟩ := h
    have hr1 : Room 1 _ := hr.mono (by omega)
    refine ⟨_, pss_cons (ps_asg (pv 1) (pg_tup rfl (pgs_cons (pg_name (i := 2) scLTurnedP.nd rfl (.inl rfl)) (pgs_cons (pg_name (i := 3) scLTurnedP.nd rfl (.inl rfl)) pgs_nil))))
      (pss_cons (ps_set (i := 4) scLTurnedP.nd rfl (.inl rfl) (pe_call GX hr1 (by rfl) NX.m NX.kp NX.b .nil pass0 (pa_cons (pv 0) (pa_cons (pe_callB (call_max2 rfl) (by rfl) U.max (by decide +kernel) (pa_cons pe_int (pa_cons (pe_callB call_len_seq (by rfl) T.len PySem.boot_len (pa_cons (pv 3) pa_nil)) pa_nil))) pa_nil))))
      (pss_cons (ps_set (i := 5) scLTurnedP.nd rfl (.inl rfl) (pe_call GX hr1 (by rfl) NX.m NX.kp NX.b .nil pass0 (pa_cons (pv 0) (pa_cons pe_int pa_nil))))
      (pss_cons (ps_if (PW.pt (pw_and (pt_cmpR (op_neD hr.units) (pv 3) (pe_lst pa_nil) (nomark _)) (pw_and1 (pt_cmpR op_lt (pv 5) pe_int (nomark _)))))
        (pss_one (ps_ret (pe_tup (pa_cons (pv 2) (pa_cons (pe_op op_cat (pe_op op_cat (pe_slice sl_list (pv 3) po_none (po_some (pv 4))) (pe_lst (pa_cons (pe_call GR hr (by rfl) NR.m NR.kp NR.b .nil pass0 (pa_cons (pv 0) (pa_cons (pe_ix (r := rIxL K) ix_list (pv 3) (pv 4) (fun _ _ => rfl)) pa_nil))) pa_nil))) (pe_slice sl_list (pv 3) (po_some (pe_op op_add (pv 4) pe_int)) po_none)) pa_nil))))) pss_nil)
      (pss_cons (ps_if (pt_cmpR op_eq (pv 5) pe_int (nomark _)) (pss_one (ps_ret (pe_tup (pa_cons (pv 2) (pa_cons (pe_op op_cat (pe_slice sl_list (pv 3) po_none (po_some (pv 4))) (pe_slice sl_list (pv 3) (po_some (pe_op op_add (pv 4) pe_int)) po_none)) pa_nil))))) pss_nil)
      (pss_cons (ps_if (pt_cmpR op_eq (pv 5) pe_int (nomark _)) (pss_one (ps_ret (pe_tup (pa_cons (pv 2) (pa_cons (pe_op op_cat (pe_op op_cat (pe_slice sl_list (pv 3) po_none (po_some (pv 4))) (pe_lst (pa_cons (pe_tup (pa_cons (pe_tup (pa_cons (pe_call GX hr1 (by rfl) NX.m NX.kp NX.b .nil pass0 (pa_cons (pv 0) (pa_cons pe_int pa_nil))) (pa_cons (pe_call GX hr1 (by rfl) NX.m NX.kp NX.b .nil pass0 (pa_cons (pv 0) (pa_cons pe_int pa_nil))) (pa_cons (pe_call GX hr1 (by rfl) NX.m NX.kp NX.b .nil pass0 (pa_cons (pv 0) (pa_cons pe_int pa_nil))) pa_nil)))) (pa_cons (pe_lst pa_nil) pa_nil))) pa_nil))) (pe_slice sl_list (pv 3) (po_some (pv 4)) po_none)) pa_nil))))) pss_nil)
      (pss_cons (ps_if (pt_cmpR op_eq (pv 5) pe_int (nomark _)) (pss_one (ps_ret (pe_tup (pa_cons (pv 2) (pa_cons (pe_op op_cat (pe_slice sl_list (pv 3) (po_some pe_int) po_none) (pe_slice sl_list (pv 3) po_none (po_some pe_int))) pa_nil))))) pss_nil)
      (pss_one (ps_ret (pe_tup (pa_cons (pe_tup (pa_cons (pe_call GX hr1 (by rfl) NX.m NX.kp NX.b .nil pass0 (pa_cons (pv 0) (pa_cons pe_int pa_nil))) (pa_cons (pe_ix (r := rIxT K) ix_tup (pv 2) pe_int (fun _ _ => rfl)) (pa_cons (pe_call GX hr1 (by rfl) NX.m NX.kp NX.b .nil pass0 (pa_cons (pv 0) (pa_cons pe_int pa_nil))) pa_nil)))) (pa_cons (pv 3) pa_nil))))))))))), ?_⟩
    cases d with
    | zero => exact hb.elim
    | succ d =>
    cases hp with
    | mk h1 h2 h3 h4 h5 =>
    rename_i t x b zs c ps
    obtain ⟨pc, rfl, hpc⟩ := of_dp_c h2
    have zl := h5.length
    have hbl : ps.length ≤ w := hb.1
    have x0 : PLB K H (fun b => b ∉ [h, l]) b w d w := ⟨zs, ps, h3, h5, h4, hbl, hb.2⟩
    have fr : ∀ {H' : Hp} {p : Addr}, Sta H' h l → H' p = none → p ∉ [h, l] := fun s hp => s.apart hp
    refine ⟨_, rfl, t, _, rfl, h1, rfl, _, _, rfl, _, _, rfl, rfl, ?_⟩
    refine ⟨_, rfl, _, rfl, b, zs, rfl, .inl (SqL.of h3), 1, _, rfl, ?_⟩
    have hmx : (0 : Int) < (if (zs.length : Int) > 1 then (zs.length : Int) else 1) := by split <;> omega
    refine ⟨h, l, _, rfl, hmx, (by split <;> omega), s0, fun H1 kk k1 s1 k0 kl => ?_⟩
    refine ⟨_, rfl, h, l, 6, rfl, by decide, by decide, s1, fun H2 wy k2 s2 w0 w6 => ?_⟩
    have k02 := k1.trans k2
    have x2 := x0.mono k02 (fun b hb => hb)
    have hpc2 := k02.sqT hpc
    have h32 := k02.lst h3 h4
    have fin : ∀ (H' : Hp) (c' : C3) (pc' b' t' : Addr), Kp [h, l] H H' → Sta H' h l → SqT K H' pc' [.int c'.1, .int c'.2.1, .int c'.2.2] → PLB K H' (fun b => b ∉ [h, l]) b' (2 * w + 1) (d + 1) (2 * w + 1) → H' t' = none → Q (.ref t') (upd H' t' (.tup [.ref pc', .ref b'])) := fun H' c' pc' b' t' kH sH hc' hl' ht' => by
      have kt := Kp.new (S := []) (o := .tup [.ref pc', .ref b']) ht'
      obtain ⟨zs', ps', g1, g2, g3, g4, g5⟩ := hl'.mono kt (fun b _ => List.not_mem_nil)
      exact q _ _ (.mk c' ps') (kH.trans kt.w0) (sH.mono0 kt) (.mk (SqT.of upd_same) (dp_c (kt.sqT hc')) g1 g3 g2) ⟨g4, g5⟩
    refine ⟨_, rfl, (by show 0 ≤ sizeLine; decide), fun e0 he0 => ?_⟩
    have k3 : Kp [] H2 (upd H2 e0 (.lst [])) := Kp.new he0
    have e3 : upd H2 e0 (.lst []) e0 = some (.lst []) := upd_same
    generalize upd H2 e0 (.lst []) = H3 at k3 e3 ⊢
    have s3 := s2.mono0 k3
    have k03 : Kp [h, l] H H3 := k02.trans k3.w0
    have x3 := x2.mono k3 (fun b _ => List.not_mem_nil)
    have hpc3 := k3.sqT hpc2
    have h33 := k3.lst h32 List.not_mem_nil
    have hdp3 : DpAll K H3 zs (pps ps) := by
      obtain ⟨zs', ps', g1, g2, g3, g4, g5⟩ := x3
      exact PAts.dp ps (PAts.mono k03 (fun b hb => hb) ps h5)
    have hdep : PyData.depthAll (pps ps) ≤ 60 := by
      have hp2 := PB.dep (p := .mk c ps) (w := w) (d := d + 1) hb
      have := pp_dep c ps
      omega
    refine ⟨.list (pps ps), .list [], .lst (SqL.of h33) hdp3, .lst (SqL.of e3) .nil, pps_shaped hdep, ints_shaped [], _, rfl, ?_⟩
    rw [pps_eqv]
    have h2w : (4 : Int) ≤ 4 := Int.le_refl _
    have hk1 : ((zs.length : Int) = 0 ∧ kk = 0) ∨ (0 ≤ kk ∧ kk < (zs.length : Int)) := by
      have := kl
      split at this <;> omega
    apply byTail
    case f =>
      intro tail
      cases he : ps.isEmpty with
      | true => exact iteF' rfl tail
      | false =>
      refine iteT' rfl ⟨_, rfl, _, _, rfl, rfl, _, rfl, ?_⟩
      by_cases w2 : wy < 2
      case neg => exact itD0 w2 tail
      refine itD1 w2 ?_
      have hkb : 0 ≤ kk ∧ kk < (zs.length : Int) := by
        rcases hk1 with ⟨z1, _⟩ | z
        · have : ps = [] := List.length_eq_zero_iff.mp (by omega)
          rw [this] at he
          cases he
        · exact z
      obtain ⟨m, rfl⟩ : ∃ m : Nat, kk = (m : Int) := ⟨kk.toNat, by omega⟩
      refine ⟨_, rfl, _, rfl, _, rfl, _, rfl, b, zs, rfl, SqL.of h33, fun q1 hq1 => ?_⟩
      have y1 := x3.cutAt h33 none (some (m : Int)) hq1 (fr s3 hq1)
      have k4 : Kp [] H3 (upd H3 q1 (.lst (cutV zs none (some (m : Int))))) := Kp.new hq1
      generalize upd H3 q1 (.lst (cutV zs none (some (m : Int)))) = H4 at k4 y1 ⊢
      have h44 := k4.lst h33 List.not_mem_nil
      have s4 := s3.mono0 k4
      have k04 := k03.trans k4.w0
      obtain ⟨zv, hzv⟩ : ∃ zv, zs[m]? = some zv := ⟨_, List.getElem?_eq_getElem (by omega)⟩
      obtain ⟨q, hqm, hpq⟩ := PAts.at h5 hzv
      refine ⟨_, rfl, _, rfl, _, rfl, b, zs, (m : Int), zv, rfl, rfl, SqL.of h44, atI_nat hzv, h, l, zv, q, w, d, rfl, s4, PAt.mono k04 (fun b hb => hb) q hpq, hb.2 q (List.mem_of_getElem? hqm), hw, by omega, by omega, fun H5 v5 p5 k5 s5 hp5 hb5 => ⟨(by show 1 ≤ sizeLine; decide), fun e6 he6 => ?_⟩⟩
      have y2 := y1.mono k5 (fun b hb => hb)
      have h55 := k5.lst h44 h4
      have k05 := k04.trans k5
      have y3 := PLB.one hp5 hb5 he6 (fr s5 he6)
      have k6 : Kp [] H5 (upd H5 e6 (.lst [v5])) := Kp.new he6
      generalize upd H5 e6 (.lst [v5]) = H6 at k6 y3 ⊢
      have y2' := y2.mono k6 (fun b _ => List.not_mem_nil)
      have h66 := k6.lst h55 List.not_mem_nil
      have s6 := s5.mono0 k6
      have k06 := k05.trans k6.w0
      obtain ⟨xs1, ys1, g1, g2, g3, g4⟩ := PLB.cat (y2'.weak (w' := 2 * w + 1) (d' := d + 1) (by omega) (by omega) (Nat.le_refl _)) y3 (by omega)
      refine ⟨q1, e6, xs1, ys1, rfl, rfl, g1, g2, g3, fun q7 hq7 => ?_⟩
      have y7 := g4 q7 hq7 (fr s6 hq7)
      have k7 : Kp [] H6 (upd H6 q7 (.lst (xs1 ++ ys1))) := Kp.new hq7
      generalize upd H6 q7 (.lst (xs1 ++ ys1)) = H7 at k7 y7 ⊢
      have h77 := k7.lst h66 List.not_mem_nil
      have s7 := s6.mono0 k7
      have k07 := k06.trans k7.w0
      refine ⟨_, rfl, _, rfl, _, _, rfl, rfl, _, rfl, b, zs, rfl, SqL.of h77, fun q8 hq8 => ?_⟩
      have x7 := (((x3.mono k4 (fun b _ => List.not_mem_nil)).mono k5 (fun b hb => hb)).mono k6 (fun b _ => List.not_mem_nil)).mono k7 (fun b _ => List.not_mem_nil)
      have y8 := x7.cutAt h77 (some ((m : Int) + 1)) none hq8 (fr s7 hq8)
      have k8 : Kp [] H7 (upd H7 q8 (.lst (cutV zs (some ((m : Int) + 1)) none))) := Kp.new hq8
      generalize upd H7 q8 (.lst (cutV zs (some ((m : Int) + 1)) none)) = H8 at k8 y8 ⊢
      have s8 := s7.mono0 k8
      have k08 := k07.trans k8.w0
      have y78 := y7.mono k8 (fun b _ => List.not_mem_nil)
      obtain ⟨xs2, ys2, g5, g6, g7, g8⟩ := PLB.cat y78 (y8.weak (w' := 2 * w + 1) (d' := d + 1) (by omega) (by omega) (Nat.le_refl _)) (by omega)
      refine ⟨q7, q8, xs2, ys2, rfl, rfl, g5, g6, g7, fun q9 hq9 => ?_⟩
      have y9 := g8 q9 hq9 (fr s8 hq9)
      have k9 : Kp [] H8 (upd H8 q9 (.lst (xs2 ++ ys2))) := Kp.new hq9
      generalize upd H8 q9 (.lst (xs2 ++ ys2)) = H9 at k9 y9 ⊢
      have s9 := s8.mono0 k9
      have k09 := k08.trans k9.w0
      exact ⟨(by show 2 ≤ sizeLine; decide), fun t ht => fin H9 c pc q9 t k09 s9 (k09.sqT hpc) (y9.weak (by omega) (by omega) (by omega)) ht⟩
    case t =>
    refine ⟨_, rfl, rfl, _, rfl, ?_⟩
    by_cases w2 : V.int wy = V.int 2
    · refine itD1 w2 ⟨_, rfl, _, rfl, _, rfl, _, rfl, b, zs, rfl, SqL.of h33, fun q1 hq1 => ?_⟩
      have y1 := x3.cutAt h33 none (some kk) hq1 (fr s3 hq1)
      have k4 : Kp [] H3 (upd H3 q1 (.lst (cutV zs none (some kk)))) := Kp.new hq1
      generalize upd H3 q1 (.lst (cutV zs none (some kk))) = H4 at k4 y1 ⊢
      have h44 := k4.lst h33 List.not_mem_nil
      have s4 := s3.mono0 k4
      have k04 := k03.trans k4.w0
      refine ⟨_, rfl, _, rfl, _, _, rfl, rfl, _, rfl, b, zs, rfl, SqL.of h44, fun q8 hq8 => ?_⟩
      have y8 := (x3.mono k4 (fun b _ => List.not_mem_nil)).cutAt h44 (some (kk + 1)) none hq8 (fr s4 hq8)
      have k8 : Kp [] H4 (upd H4 q8 (.lst (cutV zs (some (kk + 1)) none))) := Kp.new hq8
      generalize upd H4 q8 (.lst (cutV zs (some (kk + 1)) none)) = H8 at k8 y8 ⊢
      have s8 := s4.mono0 k8
      have k08 := k04.trans k8.w0
      obtain ⟨xs2, ys2, g5, g6, g7, g8⟩ := PLB.cat (y1.mono k8 (fun b _ => List.not_mem_nil)) y8 (by omega)
      refine ⟨q1, q8, xs2, ys2, rfl, rfl, g5, g6, g7, fun q9 hq9 => ?_⟩
      have y9 := g8 q9 hq9 (fr s8 hq9)
      have k9 : Kp [] H8 (upd H8 q9 (.lst (xs2 ++ ys2))) := Kp.new hq9
      generalize upd H8 q9 (.lst (xs2 ++ ys2)) = H9 at k9 y9 ⊢
      have s9 := s8.mono0 k9
      have k09 := k08.trans k9.w0
      exact ⟨(by show 2 ≤ sizeLine; decide), fun t ht => fin H9 c pc q9 t k09 s9 (k09.sqT hpc) (y9.weak (by omega) (by omega) (by omega)) ht⟩
    refine itD0 w2 ⟨_, rfl, rfl, _, rfl, ?_⟩
    by_cases w3 : V.int wy = V.int 3
    · refine itD1 w3 ⟨_, rfl, _, rfl, _, rfl, _, rfl, b, zs, rfl, SqL.of h33, fun q1 hq1 => ?_⟩
      have y1 := x3.cutAt h33 none (some kk) hq1 (fr s3 hq1)
      have k4 : Kp [] H3 (upd H3 q1 (.lst (cutV zs none (some kk)))) := Kp.new hq1
      generalize upd H3 q1 (.lst (cutV zs none (some kk))) = H4 at k4 y1 ⊢
      have h44 := k4.lst h33 List.not_mem_nil
      have s4 := s3.mono0 k4
      have k04 := k03.trans k4.w0
      have x4 := x3.mono k4 (fun b _ => List.not_mem_nil)
      refine ⟨_, rfl, h, l, 4, rfl, by decide, by decide, s4, fun H5 r1 k5 s5 _ _ => ⟨_, rfl, h, l, 4, rfl, by decide, by decide, s5, fun H6 r2 k6 s6 _ _ => ⟨_, rfl, h, l, 4, rfl, by decide, by decide, s6, fun H7 r3 k7 s7 _ _ => ⟨(by show 3 ≤ sizeLine; decide), fun t1 ht1 => ?_⟩⟩⟩⟩
      have k47 := (k5.trans k6).trans k7
      have y7 := y1.mono k47 (fun b hb => hb)
      have x7 := x4.mono k47 (fun b hb => hb)
      have h77 := k47.lst h44 h4
      have k07 := k04.trans k47
      have kt : Kp [] H7 (upd H7 t1 (.tup [.int r1, .int r2, .int r3])) := Kp.new ht1
      have et : SqT K (upd H7 t1 (.tup [.int r1, .int r2, .int r3])) t1 [.int r1, .int r2, .int r3] := SqT.of upd_same
      generalize upd H7 t1 (.tup [.int r1, .int r2, .int r3]) = H8 at kt et ⊢
      have s8 := s7.mono0 kt
      refine ⟨(by show 0 ≤ sizeLine; decide), fun e1 he1 => ?_⟩
      have ke : Kp [] H8 (upd H8 e1 (.lst [])) := Kp.new he1
      have ee : upd H8 e1 (.lst []) e1 = some (.lst []) := upd_same
      have e1A := fr s8 he1
      generalize upd H8 e1 (.lst []) = H9 at ke ee ⊢
      have s9 := s8.mono0 ke
      refine ⟨(by show 2 ≤ sizeLine; decide), fun t2 ht2 => ?_⟩
      have kt2 : Kp [] H9 (upd H9 t2 (.tup [.ref t1, .ref e1])) := Kp.new ht2
      have et2 : SqT K (upd H9 t2 (.tup [.ref t1, .ref e1])) t2 [.ref t1, .ref e1] := SqT.of upd_same
      generalize upd H9 t2 (.tup [.ref t1, .ref e1]) = H10 at kt2 et2 ⊢
      have s10 := s9.mono0 kt2
      have hpq : PAt K H10 (fun b => b ∉ [h, l]) (.ref t2) (.mk (r1, r2, r3) []) := .mk et2 (dp_c (p := t1) (c := (r1, r2, r3)) (kt2.sqT (ke.sqT et))) (kt2.lst ee List.not_mem_nil) e1A .nil
      refine ⟨(by show 1 ≤ sizeLine; decide), fun e6 he6 => ?_⟩
      have y3 := PLB.one (w := 2 * w + 1) (d := d + 1) hpq (by exact ⟨Nat.zero_le _, fun q hq => by cases hq⟩) he6 (fr s10 he6)
      have k11 : Kp [] H10 (upd H10 e6 (.lst [.ref t2])) := Kp.new he6
      generalize upd H10 e6 (.lst [.ref t2]) = H11 at k11 y3 ⊢
      have k711 := ((kt.trans ke).trans kt2).trans k11
      have s11 := s7.mono0 k711
      have y11 := y7.mono k711 (fun b _ => List.not_mem_nil)
      have x11 := x7.mono k711 (fun b _ => List.not_mem_nil)
      have h111 := k711.lst h77 List.not_mem_nil
      have k011 := k07.trans k711.w0
      obtain ⟨xs1, ys1, g1, g2, g3, g4⟩ := PLB.cat (y11.weak (w' := 2 * w + 1) (d' := d + 1) (by omega) (by omega) (Nat.le_refl _)) y3 (by omega)
      refine ⟨q1, e6, xs1, ys1, rfl, rfl, g1, g2, g3, fun q7 hq7 => ?_⟩
      have z7 := g4 q7 hq7 (fr s11 hq7)
      have k12 : Kp [] H11 (upd H11 q7 (.lst (xs1 ++ ys1))) := Kp.new hq7
      generalize upd H11 q7 (.lst (xs1 ++ ys1)) = H12 at k12 z7 ⊢
      have s12 := s11.mono0 k12
      have h122 := k12.lst h111 List.not_mem_nil
      have k012 := k011.trans k12.w0
      refine ⟨_, rfl, _, rfl, _, rfl, b, zs, rfl, SqL.of h122, fun q8 hq8 => ?_⟩
      have y8 := (x11.mono k12 (fun b _ => List.not_mem_nil)).cutAt h122 (some kk) none hq8 (fr s12 hq8)
      have k13 : Kp [] H12 (upd H12 q8 (.lst (cutV zs (some kk) none))) := Kp.new hq8
      generalize upd H12 q8 (.lst (cutV zs (some kk) none)) = H13 at k13 y8 ⊢
      have s13 := s12.mono0 k13
      have k013 := k012.trans k13.w0
      obtain ⟨xs2, ys2, g5, g6, g7, g8⟩ := PLB.cat (z7.mono k13 (fun b _ => List.not_mem_nil)) (y8.weak (w' := 2 * w + 1) (d' := d + 1) (by omega) (by omega) (Nat.le_refl _)) (by omega)
      refine ⟨q7, q8, xs2, ys2, rfl, rfl, g5, g6, g7, fun q9 hq9 => ?_⟩
      have y9 := g8 q9 hq9 (fr s13 hq9)
      have k9 : Kp [] H13 (upd H13 q9 (.lst (xs2 ++ ys2))) := Kp.new hq9
      generalize upd H13 q9 (.lst (xs2 ++ ys2)) = H14 at k9 y9 ⊢
      have s14 := s13.mono0 k9
      have k014 := k013.trans k9.w0
      exact ⟨(by show 2 ≤ sizeLine; decide), fun t ht => fin H14 c pc q9 t k014 s14 (k014.sqT hpc) (y9.weak (by omega) (by omega) (by omega)) ht⟩
    refine itD0 w3 ⟨_, rfl, rfl, _, rfl, ?_⟩
    by_cases w4 : V.int wy = V.int 4
    · refine itD1 w4 ⟨_, rfl, _, rfl, 1, rfl, b, zs, rfl, SqL.of h33, fun q1 hq1 => ?_⟩
      have y1 := x3.cutAt h33 (some 1) none hq1 (fr s3 hq1)
      have k4 : Kp [] H3 (upd H3 q1 (.lst (cutV zs (some 1) none))) := Kp.new hq1
      generalize upd H3 q1 (.lst (cutV zs (some 1) none)) = H4 at k4 y1 ⊢
      have h44 := k4.lst h33 List.not_mem_nil
      have s4 := s3.mono0 k4
      have k04 := k03.trans k4.w0
      refine ⟨_, rfl, 1, rfl, b, zs, rfl, SqL.of h44, fun q8 hq8 => ?_⟩
      have y8 := (x3.mono k4 (fun b _ => List.not_mem_nil)).cutAt h44 none (some 1) hq8 (fr s4 hq8)
      have k8 : Kp [] H4 (upd H4 q8 (.lst (cutV zs none (some 1)))) := Kp.new hq8
      generalize upd H4 q8 (.lst (cutV zs none (some 1))) = H8 at k8 y8 ⊢
      have s8 := s4.mono0 k8
      have k08 := k04.trans k8.w0
      obtain ⟨xs2, ys2, g5, g6, g7, g8⟩ := PLB.cat (y1.mono k8 (fun b _ => List.not_mem_nil)) y8 (by omega)
      refine ⟨q1, q8, xs2, ys2, rfl, rfl, g5, g6, g7, fun q9 hq9 => ?_⟩
      have y9 := g8 q9 hq9 (fr s8 hq9)
      have k9 : Kp [] H8 (upd H8 q9 (.lst (xs2 ++ ys2))) := Kp.new hq9
      generalize upd H8 q9 (.lst (xs2 ++ ys2)) = H9 at k9 y9 ⊢
      have s9 := s8.mono0 k9
      have k09 := k08.trans k9.w0
      exact ⟨(by show 2 ≤ sizeLine; decide), fun t ht => fin H9 c pc q9 t k09 s9 (k09.sqT hpc) (y9.weak (by omega) (by omega) (by omega)) ht⟩
    refine itD0 w4 ?_
    refine ⟨_, rfl, h, l, 5, rfl, by decide, by decide, s3, fun H5 r1 k5 s5 _ _ => ⟨_, rfl, pc, _, 1, _, rfl, rfl, k5.sqT hpc3, rfl, _, rfl, h, l, 4, rfl, by decide, by decide, s5, fun H6 r2 k6 s6 _ _ => ⟨(by show 3 ≤ sizeLine; decide), fun t1 ht1 => ?_⟩⟩⟩
    have kt : Kp [] H6 (upd H6 t1 (.tup [.int r1, .int c.2.1, .int r2])) := Kp.new ht1
    have et : SqT K (upd H6 t1 (.tup [.int r1, .int c.2.1, .int r2])) t1 [.int r1, .int c.2.1, .int r2] := SqT.of upd_same
    have x6 := (x3.mono (k5.trans k6) (fun b hb => hb)).mono kt (fun b _ => List.not_mem_nil)
    generalize upd H6 t1 (.tup [.int r1, .int c.2.1, .int r2]) = H7 at kt et x6 ⊢
    have s7 := s6.mono0 kt
    have k07 := ((k03.trans k5).trans k6).trans kt.w0
    exact ⟨_, rfl, (by show 2 ≤ sizeLine; decide), fun t ht => fin H7 (r1, c.2.1, r2) t1 b t k07 s7 et (x6.weak (by omega) (by omega) (by omega)) ht⟩
theorem ok_lturnedp {f fX : Addr} {fd dX : FuncData} (F : Fun K "_law_turned" "_law_turned" lTurned f fd) (T : Nm K mg) (U : Nl K mg) (NX : Fn K mg "_law_next" fX dX ["_law_h", "_law_many"]) (GX : FnOk P W0 K mg base CX0 1 fX dX ["_law_h", "_law_many"] spNext)
    (NR : Fn K mg "_law_turned" f fd ["_law_h", "_law_paper_here"]) : ∀ n : Nat, FnOk P W0 K mg base CX0 (n + 2) f fd ["_law_h", "_law_paper_here"] (spLTurnedP K n)
  | 0 => lturnedp_none
  | n + 1 => lturnedp_step (by omega) F T U NX GX NR (ok_lturnedp F T U NX GX NR n)
end
end LP
end

section
set_option Elab.async false
set_option linter.all false
set_option maxRecDepth 100000
set_option maxHeartbeats 4000000
/-! _law_copied: a paper copied -/
namespace LP
open PySem PySem.Spec PyProof.Rows L2 Ly GY
section
variable [LamTab] {P : Program} {W0 : World} {K : PySem.W.Frag} {mg : Str → Option Value} {base : Heap}
def spLCop (K : PySem.W.Frag) (n : Nat) : Sp := fun vs H Q _ => ∃ (v : V) (p : Paper) (G : Addr → Prop) (w d : Nat), vs = [v] ∧ PAt K H G v p ∧ PB w d p ∧ w ≤ 1000 ∧ d < n ∧
  ∀ (H' : Hp) (v' : V), Kp [] H H' → PAt K H' (fun b => H b = none) v' p → Q v' H'
abbrev nLCop : List Str := ["_law_paper_here", "_law_one"]
theorem scLCop : FnScope nLCop ["_law_paper_here"] (defScope lCopied) := ⟨rfl, rfl, rfl, by decide +kernel, rfl, by decide +kernel, by decide +kernel⟩
theorem lcop_none {f : Addr} {fd : FuncData} : FnOk P W0 K mg base CX0 0 f fd ["_law_paper_here"] (spLCop K 0) := by
  have no : ∀ vs H Q E, ¬ spLCop K 0 vs H Q E := fun vs H Q E h => by
    obtain ⟨_, _, _, _, _, _, _, _, _, hn, _⟩ := h
    omega
  exact ⟨fun vs H Q E h => absurd h (no vs H Q E), fun A outer s H args us vs Q E _ _ _ _ h => absurd h (no vs H Q E)⟩
theorem lcop_step {n r : Nat} {f : Addr} {fd : FuncData} (F : Fun K "_law_copied" "_law_copied" lCopied f fd)
    (NR : Fn K mg "_law_copied" f fd ["_law_paper_here"]) (GR : FnOk P W0 K mg base CX0 r f fd ["_law_paper_here"] (spLCop K n)) : FnOk P W0 K mg base CX0 (r + 1) f fd ["_law_paper_here"] (spLCop K (n + 1)) := by
  refine F.ok scLCop (fun vs H Q E h => ?_) (fun cdv A outer s H vs Q E hr h => ?_)
  · obtain ⟨v, p, G, w, d, rfl, _⟩ := h
    rfl
  · obtain ⟨v, p, G, w, d, rfl, hp, hb, hw, hd, q⟩ := h
    refine ⟨_, pss_one (ps_ret (pe_tup (pa_cons (pe_ix (r := rIxT K) ix_tup (pv 0) pe_int (fun _ _ => rfl)) (pa_cons (pe_lc (own := [("_law_one", 1)]) (g := gName 1) rfl scLCop.nd (pi_list (pe_ix (r := rIxT K) ix_tup (pv 0) pe_int (fun _ _ => rfl))) (blkOk_by (own := [("_law_one", 1)]) (N := nLCop) (sc := defScope lCopied) (by decide +kernel))
      (fun _ _ _ _ _ => pg_name (i := 1) scLCop.nd rfl (.inl rfl)) (fun _ _ _ _ _ => pts_nil) (fun _ _ _ _ _ => pe_call GR hr (by rfl) NR.m NR.kp NR.b .nil pass0 (pa_cons (pv 1) pa_nil))) pa_nil)))), ?_⟩
    cases d with
    | zero => exact hb.elim
    | succ d =>
    cases hp with
    | mk h1 h2 h3 h4 h5 =>
    rename_i t x b zs c ps
    have zl := h5.length
    have hbl : ps.length ≤ w := hb.1
    refine ⟨_, rfl, t, _, 0, _, rfl, rfl, h1, rfl, _, rfl, t, _, 1, _, rfl, rfl, h1, rfl, b, rfl, ⟨_, SqL.of h3⟩, fun D hD => lc_list (K := K) (a := b) (xs := zs) (fun i H' => Kp [] H H' ∧ ∃ acc, H' D = some (.lst acc) ∧ PAts K H' (fun a => H a = none ∧ a ≠ D) acc (ps.take i))
      ⟨Kp.new hD, [], upd_same, .nil⟩ (fun i H' _ pv => SqL.of (pv.1.lst h3 List.not_mem_nil)) (fun i y H' hy pv => ?sel) (fun H8 pv => ?sdn)⟩
    case sel =>
      obtain ⟨kk, acc, hA, hps⟩ := pv
      have hal := hps.length
      rw [List.length_take] at hal
      obtain ⟨q1, hq1, hpq⟩ := PAts.at h5 hy
      refine ⟨rfl, yesI ⟨_, rfl, y, q1, G, w, d, rfl, PAt.mono kk (fun a _ => List.not_mem_nil) q1 hpq, hb.2 q1 (List.mem_of_getElem? hq1), hw, by omega, fun H2 v2 k2 hp2 => ?_⟩⟩
      have hA2 := k2.lst hA List.not_mem_nil
      have hps2 := PAts.mono k2 (fun a _ => List.not_mem_nil) _ hps
      have hp2' : PAt K H2 (fun a => H a = none ∧ a ≠ D) v2 q1 := PAt.imp (fun a ha => ⟨kk.free a ha, fun e => by rw [e, hA] at ha; cases ha⟩) q1 hp2
      have kc : Kp [D] H2 (upd H2 D (.lst (acc ++ [v2]))) := Kp.chg hA2 (List.mem_singleton.mpr rfl)
      have nD : ∀ a, (H a = none ∧ a ≠ D) → a ∉ [D] := fun a ha m => ha.2 (List.mem_singleton.mp m)
      refine ⟨acc, hA2, small_size (by omega), (kk.trans k2).chg0 hD hA2, _, upd_same, ?_⟩
      rw [List.take_add_one, hq1]
      exact PAts.append (PAts.mono kc nD _ hps2) (.cons (PAt.mono kc nD q1 hp2') .nil)
    case sdn =>
      obtain ⟨kk, acc, hA, hps⟩ := pv
      rw [zl, List.take_of_length_le (Nat.le_refl ps.length)] at hps
      refine ⟨(by show 2 ≤ sizeLine; decide), fun t9 ht9 => ?_⟩
      have k9 : Kp [] H8 (upd H8 t9 (.tup [x, .ref D])) := Kp.new ht9
      refine q _ _ (kk.trans k9) (.mk (SqT.of upd_same) (c_mono (kk.trans k9) h2) (k9.lst hA List.not_mem_nil) hD ?_)
      exact PAts.mono k9 (fun a _ => List.not_mem_nil) _ (PAts.imp (fun a ha => ha.1) _ hps)
theorem ok_lcop {f : Addr} {fd : FuncData} (F : Fun K "_law_copied" "_law_copied" lCopied f fd) (NR : Fn K mg "_law_copied" f fd ["_law_paper_here"]) : ∀ n : Nat, FnOk P W0 K mg base CX0 n f fd ["_law_paper_here"] (spLCop K n)
  | 0 => lcop_none
  | n + 1 => lcop_step F NR (ok_lcop F NR n)
end
end LP
end

section
set_option Elab.async false
set_option linter.all false
set_option maxRecDepth 100000
set_option maxHeartbeats 4000000
/-! law_k06, its end -/
namespace LP
open PySem PySem.Spec PyProof.Rows L2 Ly GY
section
variable [LamTab]
structure KF6 (K : PySem.W.Frag) (mg : Str → Option Value) where
  (CP CB CO CL CN CR CK CT : Addr)
  n : KindN mg CP CB CO CL CN CR CK CT
  fK : Addr
  (dVK kVK docK pmK cdvK ctK ocK : Value)
  (anK odK : Option Addr)
  oslK : Array (Option Value)
  mK : mg "_law_kind" = some (.ref fK)
  kK : PySem.W.keepIn K (.ref fK) = true
  lK : K.lookup fK = some ⟨ocK, odK, .func (PySem.W.fnOf "_law_kind" "_law_kind" (defArgs lKind) (defBody lKind) (defScope lKind) dVK kVK docK pmK anK cdvK ctK), oslK⟩
  cK : PySem.W.codeIn K cdvK "_law_kind" = true
  bK : Binds K (PySem.W.fnOf "_law_kind" "_law_kind" (defArgs lKind) (defBody lKind) (defScope lKind) dVK kVK docK pmK anK cdvK ctK) ["_law_work"] []
abbrev KF6.at {K : PySem.W.Frag} {mg : Str → Option Value} (k : KF6 K mg) (C : Addr) (j : Fin 7) : Prop := KindAt K k.CP k.CB k.CO k.CL k.CN k.CR k.CK k.CT C j
/-- a list of cells that the drawing does not touch -/
def Lc6 (K : PySem.W.Frag) (h l : Addr) (H : Hp) (a : Addr) (cs : List C3) : Prop := ∃ xs, H a = some (.lst xs) ∧ Items K H xs cs ∧ a ∉ [h, l]
theorem Lc6.mono {K : PySem.W.Frag} {h l a : Addr} {cs : List C3} {H H' : Hp} (x : Lc6 K h l H a cs) (k : Kp [h, l] H H') : Lc6 K h l H' a cs := by
  obtain ⟨xs, e, i, n⟩ := x
  exact ⟨xs, k.lst e n, items_mono k i, n⟩
theorem Lc6.toC {K : PySem.W.Frag} {h l a : Addr} {cs : List C3} {H : Hp} (x : Lc6 K h l H a cs) : CellsL K H (.ref a) cs := by
  obtain ⟨xs, e, i, n⟩ := x
  exact cellsL_of e i
structure LF6 (P : Program) (W0 : World) (K : PySem.W.Frag) (mg : Str → Option Value) (base : Heap) where
  (Pt Pr Ph Pg : Addr)
  (fM fX fA fL fB fF fy fs fp ft fc fw : Addr)
  (dM dX dA dL dB dF dy ds dp dt dc dw : FuncData)
  nM : Fn K mg "_law_mix" fM dM ["_law_script", "_law_seed"]
  gM : FnOk P W0 K mg base CX0 1 fM dM ["_law_script", "_law_seed"] (spMix K)
  nX : Fn K mg "_law_next" fX dX ["_law_h", "_law_many"]
  gX : FnOk P W0 K mg base CX0 1 fX dX ["_law_h", "_law_many"] spNext
  nA : Fn K mg "_law_alike" fA dA ["_law_found", "_law_due"]
  gA : FnOk P W0 K mg base CX0 (1 + 10) fA dA ["_law_found", "_law_due"] (spAlike K 10)
  nL : Fn K mg "_law_all" fL dL ["_law_body_here"]
  gL : FnOk P W0 K mg base CX0 21 fL dL ["_law_body_here"] (spAll K)
  nB : Fn K mg "_law_body" fB dB ["_law_h", "_law_deep"]
  gB : FnOk P W0 K mg base CX0 (21 + 5) fB dB ["_law_h", "_law_deep"] (spLBody K 5)
  nF : Fn K mg "_law_free" fF dF ["_law_some"]
  gF : FnOk P W0 K mg base CX0 1 fF dF ["_law_some"] (spLFree K)
  ny : Fn K mg "_law_layer" fy dy ["_law_some", "_law_z"]
  gy : FnOk P W0 K mg base CX0 2 fy dy ["_law_some", "_law_z"] (spLLayer K)
  ns : Fn K mg "_law_shown" fs ds ["_law_layer_here", "_law_free_here", "_law_props", "_law_reach", "_law_many", "_law_paper_here"]
  gs : FnOk P W0 K mg base CX0 (5 + 4) fs ds ["_law_layer_here", "_law_free_here", "_law_props", "_law_reach", "_law_many", "_law_paper_here"] (spLShown K 5)
  np : Fn K mg "_law_paper" fp dp pLPaper
  gp : FnOk P W0 K mg base CX0 (4 + 4) fp dp pLPaper (spLPaper K 4)
  nt : Fn K mg "_law_turned" ft dt ["_law_h", "_law_paper_here"]
  gt : FnOk P W0 K mg base CX0 (8 + 2) ft dt ["_law_h", "_law_paper_here"] (spLTurnedP K 8)
  nc : Fn K mg "_law_copied" fc dc ["_law_paper_here"]
  gc : FnOk P W0 K mg base CX0 8 fc dc ["_law_paper_here"] (spLCop K 8)
  T : Nm K mg
  U : Nl K mg
  k : KF6 K mg
  aR : k.at k.CR 4
  aL : k.at k.CL 2
  nw : Fn K mg "shows" fw dw ["body", "reach", "z", "many", "paper"]
  gw : FnOk P W0 K mg base (L2.CX P W0) 28 fw dw ["body", "reach", "z", "many", "paper"] (spShows K Pt Pr Ph Pg k.CR k.CL)
variable {P : Program} {W0 : World} {K : PySem.W.Frag} {mg : Str → Option Value} {base : Heap}
structure Liv6 (H : Hp) (Pt Pr Ph Pg : Addr) : Prop where
  tb : Tb H Pt Pr Ph
  g : TGen H Pg
  l : LamX.TabS H LamTab.P LamTab.q
theorem Liv6.mono {S : List Addr} {H H' : Hp} {Pt Pr Ph Pg : Addr} (v : Liv6 H Pt Pr Ph Pg) (k : Kp S H H') : Liv6 H' Pt Pr Ph Pg := ⟨v.tb.mono k, k.tab _ v.g, k.lam v.l⟩
abbrev LF6.Liv (F : LF6 P W0 K mg base) (H : Hp) : Prop := Liv6 H F.Pt F.Pr F.Ph F.Pg
def lawLoop6 : List Stmt := match stOf lLaw 1 with
  | .For _ _ b _ _ => b
  | _ => []
def lawIn6 : List Stmt := match lawLoop6.drop 3 with
  | .For _ _ b _ _ :: _ => b
  | _ => []
abbrev names6 : List Str := ["_law_script", "_law_h", "_law_turn", "_law_body_here", "_law_some", "_law_reach", "_law_again", "_law_z", "_law_many", "_law_layer_here", "_law_free_here", "_law_paper_here", "_law_k", "_law_told", "_law_there", "_law_handed", "_law_due", "_law_far", "_law_cell"]
theorem scLaw6 : FnScope names6 ["_law_script"] (defScope lLaw) := ⟨rfl, rfl, rfl, by decide +kernel, rfl, by decide +kernel, by decide +kernel⟩
abbrev lawX6 (P : Program) (W0 : World) (K : PySem.W.Frag) (mg : Str → Option Value) (base : Heap) (f c : Addr) (A : Around) (outer : List Env) (s : Shared) (H : Hp) (E : XK) : Cx := (cxOf CX0 P W0 K mg base names6 "law" (defScope lLaw) f (.ref c) A outer s H E).nox
structure B6 (F : LF6 P W0 K mg base) (h l : Addr) (H0 : Hp) (v : V) (b : Bd) (du : Addr) (n : Int) (H : Hp) : Prop where
  k : Kp [h, l] H0 H
  s : Sta H h l
  lv : F.Liv H
  hB : Body K H v b
  hg : Good b
  hn : nb b ≤ 20
  hd : Lc6 K h l H du (all b)
  n0 : 0 ≤ n
  n2 : n ≤ 2
theorem B6.mono {F : LF6 P W0 K mg base} {h l : Addr} {H0 H H' : Hp} {v : V} {b : Bd} {du : Addr} {n : Int} (x : B6 F h l H0 v b du n H) (k : Kp [h, l] H H') (s : Sta H' h l) : B6 F h l H0 v b du n H' := ⟨x.k.trans k, s, x.lv.mono k, body_mono k x.hB, x.hg, x.hn, x.hd.mono k, x.n0, x.n2⟩
theorem B6.mono0 {F : LF6 P W0 K mg base} {h l : Addr} {H0 H H' : Hp} {v : V} {b : Bd} {du : Addr} {n : Int} (x : B6 F h l H0 v b du n H) (k : Kp [] H H') : B6 F h l H0 v b du n H' := x.mono k.w0 (x.s.mono0 k)
theorem pap0_dep : (pp (.mk (0, 0, 0) [])).depth ≤ 60 := by
  simp [pp, pps, cD, PyData.depth, PyData.depthAll]
theorem pap0 {H : Hp} {t1 e0 t2 : Addr} (h1 : H t1 = none) (h2 : upd H t1 (.tup [.int 0, .int 0, .int 0]) e0 = none) (h3 : upd (upd H t1 (.tup [.int 0, .int 0, .int 0])) e0 (.lst []) t2 = none) :
    Kp [] H (upd (upd (upd H t1 (.tup [.int 0, .int 0, .int 0])) e0 (.lst [])) t2 (.tup [.ref t1, .ref e0])) ∧ Dp K (upd (upd (upd H t1 (.tup [.int 0, .int 0, .int 0])) e0 (.lst [])) t2 (.tup [.ref t1, .ref e0])) (.ref t2) (pp (.mk (0, 0, 0) [])) := by
  have k1 : Kp [] H (upd H t1 (.tup [.int 0, .int 0, .int 0])) := Kp.new h1
  have g1 : SqT K (upd H t1 (.tup [.int 0, .int 0, .int 0])) t1 [.int 0, .int 0, .int 0] := SqT.of upd_same
  generalize upd H t1 (.tup [.int 0, .int 0, .int 0]) = G1 at k1 g1 h2 h3 ⊢
  have k2 : Kp [] G1 (upd G1 e0 (.lst [])) := Kp.new h2
  have g2 : SqL K (upd G1 e0 (.lst [])) e0 [] := SqL.of upd_same
  generalize upd G1 e0 (.lst []) = G2 at k2 g2 h3 ⊢
  have k3 : Kp [] G2 (upd G2 t2 (.tup [.ref t1, .ref e0])) := Kp.new h3
  have g3 : SqT K (upd G2 t2 (.tup [.ref t1, .ref e0])) t2 [.ref t1, .ref e0] := SqT.of upd_same
  refine ⟨(k1.trans k2).trans k3, ?_⟩
  simp only [pp, pps]
  exact .tup g3 (.cons (dp_c (p := t1) (c := (0, 0, 0)) (k3.sqT (k2.sqT g1))) (.cons (.lst (k3.sqL g2 List.not_mem_nil) .nil) .nil))
/-- the frame of a turn -/
def Fr6 (F : LF6 P W0 K mg base) (a h l : Addr) (H0 : Hp) (v : V) (b : Bd) (du : Addr) (n : Int) (σ : L2.St) (H : Hp) : Prop :=
  (∃ (o2 : Option V) (σ' : L2.St), σ = some (.ref a) :: some (.ref h) :: o2 :: some v :: some (.ref du) :: some (.int n) :: σ' ∧ σ'.length = 13) ∧ B6 F h l H0 v b du n H
mutual
theorem pp_self : ∀ p : Paper, PyData.eqv (pp p) (pp p) = true
  | .mk c ps => by
    simp only [pp, PyData.eqv, PyData.eqvAll, Bool.and_eq_true]
    exact ⟨by simp [cD, PyData.eqv, PyData.eqvAll], pps_self ps, trivial⟩
theorem pps_self : ∀ ps : List Paper, PyData.eqvAll (pps ps) (pps ps) = true
  | [] => by simp [pps, PyData.eqvAll]
  | p :: ps => by
    simp only [pps, PyData.eqvAll, Bool.and_eq_true]
    exact ⟨pp_self p, pps_self ps⟩
end
theorem pp_shaped {p : Paper} (h : (pp p).depth ≤ 60) : SeqAt.shaped (pp p) = true := by
  show (PyData.canLay0 (pp p) && decide (PyData.depth (pp p) ≤ 64)) = true
  rw [Bool.and_eq_true]
  exact ⟨pp_lay p, decide_eq_true (by omega)⟩
section
variable (F : LF6 P W0 K mg base) {f c : Addr} {A : Around} {outer : List Env} {s : Shared} {H : Hp} {E : XK}
  (hr : Room 30 (A.deeper (envOfC "law" (defScope lLaw) s.heap.objs.size f (.ref c)))) (TB : LamX.TabB base mg c LamTab.P) (hq : LamTab.q = (envOfC "law" (defScope lLaw) s.heap.objs.size f (.ref c)).qual ++ "<lambda>")
include hr TB hq
theorem part6_f : ∃ t, PSs (lawX6 P W0 K mg base f c A outer s H E) ((defBody lLaw).drop 2) t ∧ ∀ (a h l : Addr) (H0 : Hp) (v : V) (b : Bd) (du : Addr) (n : Int) (D : Ends) (o2 o6 o7 o8 o9 o10 o11 o12 o13 o14 o15 o16 o17 o18 : Option V) (H1 : Hp), B6 F h l H0 v b du n H1 → (∀ H', D.rt (.bl true) H') →
    t D [some (.ref a), some (.ref h), o2, some v, some (.ref du), some (.int n), o6, o7, o8, o9, o10, o11, o12, o13, o14, o15, o16, o17, o18] H1 := by
  have hr1 : Room 1 _ := hr.mono (by decide)
  refine ⟨_, pss_cons (ps_set (i := 17) scLaw6.nd rfl (.inr rfl) (pe_ix (r := rIxL K) ix_list (pe_lst (pa_cons (pe_un un_neg pe_int) (pa_cons pe_int (pa_cons (pe_op op_add pe_int (pe_call F.gX hr1 (by rfl) F.nX.m F.nX.kp F.nX.b .nil pass0 (pa_cons (pv 1) (pa_cons (pe_op op_pow pe_int pe_int) pa_nil)))) pa_nil))))
      (pe_call F.gX hr1 (by rfl) F.nX.m F.nX.kp F.nX.b .nil pass0 (pa_cons (pv 1) (pa_cons pe_int pa_nil))) (fun _ _ => rfl)))
    (pss_cons (ps_if (pt_cmpR op_ne (pe_lam3 (k := 28) (by rfl) F.k.mK F.k.kK F.k.lK F.k.cK F.k.bK scKind rfl (.inl rfl) (kind_gives2 F.T F.k.n F.aR) TB rfl hr (LamX.lamS_by (sc := defScope lLaw) (by decide +kernel)) rfl (fun _ _ _ _ _ => rfl)
      (fun A outer s H E f c' hr2 => pe_callS F.gw (hr2.mono (by decide)) (by rfl) F.nw.m F.nw.kp F.nw.b (fun σ => L2.passAt (takes_of rfl rfl rfl rfl) σ) (pa_cons (pv 3) (pa_cons (pv 17) (pa_cons (pe_op op_add (pv 17) pe_int) (pa_cons pe_int (pa_cons (pe_tup (pa_cons (pe_tup (pa_cons pe_int (pa_cons pe_int (pa_cons pe_int pa_nil)))) (pa_cons (pe_lst pa_nil) pa_nil))) pa_nil))))))) pe_str (nomark _)) (pss_one (ps_ret pe_bl)) pss_nil)
    (pss_one (ps_ret (pe_cmpR op_eq (pe_lam3 (k := 28) (by rfl) F.k.mK F.k.kK F.k.lK F.k.cK F.k.bK scKind rfl (.inl rfl) (kind_gives2 F.T F.k.n F.aL) TB rfl hr (LamX.lamS_by (sc := defScope lLaw) (by decide +kernel)) rfl (fun _ _ _ _ _ => rfl)
      (fun A outer s H E f c' hr2 => pe_callS F.gw (hr2.mono (by decide)) (by rfl) F.nw.m F.nw.kp F.nw.b (fun σ => L2.passAt (takes_of rfl rfl rfl rfl) σ) (pa_cons (pv 3) (pa_cons (pv 5) (pa_cons (pe_ix (r := rIxL K) ix_list (pe_lst (pa_cons (pe_un un_neg pe_int) (pa_cons pe_int (pa_cons (pe_op op_add pe_int (pv 17)) pa_nil)))) (pe_call F.gX (hr2.mono (by decide)) (by rfl) F.nX.m F.nX.kp F.nX.b .nil pass0 (pa_cons (pv 1) (pa_cons pe_int pa_nil))) (fun _ _ => rfl)) (pa_cons pe_int (pa_cons (pe_tup (pa_cons (pe_tup (pa_cons pe_int (pa_cons pe_int (pa_cons pe_int pa_nil)))) (pa_cons (pe_lst pa_nil) pa_nil))) pa_nil))))))) pe_str (nomark _))))), ?_⟩
  intro a h l H0 v b du n D o2 o6 o7 o8 o9 o10 o11 o12 o13 o14 o15 o16 o17 o18 H1 x1 nx
  refine ⟨1, rfl, ?_⟩
  refine ⟨_, rfl, _, _, rfl, rfl, ⟨by decide, by decide, by decide⟩, h, l, _, rfl, (by show (0 : Int) < 10 ^ 6; decide), (by show (10 ^ 6 : Int) < 1073741824; decide), x1.s, fun H2 r k2 s2 f0 f1 => ?_⟩
  have x2 := x1.mono k2 s2
  refine ⟨_, _, rfl, rfl, (by show 3 ≤ sizeLine; decide), fun lo hlo => ?_⟩
  have k3 : Kp [] H2 (upd H2 lo (.lst [.int (-1), .int 3, .int (3 + r)])) := Kp.new hlo
  have e3 : upd H2 lo (.lst [.int (-1), .int 3, .int (3 + r)]) lo = some (.lst [.int (-1), .int 3, .int (3 + r)]) := upd_same
  have x3 := x2.mono0 k3
  have hloA := x2.s.apart hlo
  generalize upd H2 lo (.lst [.int (-1), .int 3, .int (3 + r)]) = H3 at k3 e3 x3 ⊢
  refine ⟨_, rfl, h, l, 3, rfl, by decide, by decide, x3.s, fun H4 i k4 s4 i0 i3 => ?_⟩
  have x4 := x3.mono k4 s4
  obtain ⟨far, hfz, hfn⟩ : ∃ far, atI [V.int (-1), .int 3, .int (3 + r)] i = some (.int far) ∧ (far = -1 ∨ 3 ≤ far) := by
    rcases (show i = 0 ∨ i = 1 ∨ i = 2 by omega) with rfl | rfl | rfl
    · exact ⟨-1, rfl, .inl rfl⟩
    · exact ⟨3, rfl, .inr (by decide)⟩
    · exact ⟨3 + r, rfl, .inr (by omega)⟩
  refine ⟨lo, _, i, _, rfl, rfl, SqL.of (k4.lst e3 hloA), hfz, ?_⟩
  have tabq := x4.lv.l
  rw [hq] at tabq
  refine ⟨tabq, fun H5 oth tab5 => ?_⟩
  have k5 : Kp [] H4 H5 := Kp.oth oth (by obtain ⟨ps, e, _⟩ := tabq; exact ⟨ps, e⟩) (fun _ => by rw [hq]; exact tab5)
  have x5 := x4.mono0 k5
  refine ⟨_, rfl, _, rfl, _, rfl, _, _, rfl, rfl, (by show 3 ≤ sizeLine; decide), fun t1 ht1 => ⟨(by show 0 ≤ sizeLine; decide), fun e0 he0 => ⟨(by show 2 ≤ sizeLine; decide), fun t2 ht2 => ?_⟩⟩⟩
  obtain ⟨k6, hp6⟩ := pap0 ht1 he0 ht2
  have x6 := x5.mono0 k6
  generalize upd (upd (upd H5 t1 (.tup [.int 0, .int 0, .int 0])) e0 (.lst [])) t2 (.tup [.ref t1, .ref e0]) = H6 at k6 hp6 x6 ⊢
  refine ⟨v, b, far, far + 4, 0, .ref t2, .mk (0, 0, 0) [], rfl, x6.hB, x6.hg, x6.hn, x6.lv.tb, x6.lv.g, hp6, pap0_dep, by decide, fun _ H7 k7 => ⟨rfl, rfl, fun H8 k8 => ?_⟩, fun hh => absurd hh (by omega), fun hh => absurd hh (by omega)⟩
  refine ⟨rfl, _, rfl, iteF' (by decide +kernel) ?_⟩
  have x8 := x6.mono0 (k7.trans k8)
  have tabq2 := x8.lv.l
  rw [hq] at tabq2
  refine ⟨tabq2, fun H9 oth tab9 => ?_⟩
  have k9 : Kp [] H8 H9 := Kp.oth oth (by obtain ⟨ps, e, _⟩ := tabq2; exact ⟨ps, e⟩) (fun _ => by rw [hq]; exact tab9)
  have x9 := x8.mono0 k9
  refine ⟨_, rfl, _, rfl, 1, rfl, _, rfl, _, _, rfl, rfl, (by show 3 ≤ sizeLine; decide), fun lo2 hlo2 => ?_⟩
  have k10 : Kp [] H9 (upd H9 lo2 (.lst [.int (-1), .int 4, .int (5 + far)])) := Kp.new hlo2
  have e10 : upd H9 lo2 (.lst [.int (-1), .int 4, .int (5 + far)]) lo2 = some (.lst [.int (-1), .int 4, .int (5 + far)]) := upd_same
  have x10 := x9.mono0 k10
  have lo2A := x9.s.apart hlo2
  generalize upd H9 lo2 (.lst [.int (-1), .int 4, .int (5 + far)]) = H10 at k10 e10 x10 ⊢
  refine ⟨_, rfl, h, l, 3, rfl, by decide, by decide, x10.s, fun H11 w k11 s11 w0 w3 => ?_⟩
  have x11 := x10.mono k11 s11
  obtain ⟨z, hz, hzn⟩ : ∃ z, atI [V.int (-1), .int 4, .int (5 + far)] w = some (.int z) ∧ ¬ (0 ≤ z ∧ z ≤ 3) := by
    rcases (show w = 0 ∨ w = 1 ∨ w = 2 by omega) with rfl | rfl | rfl
    · exact ⟨-1, rfl, by decide⟩
    · exact ⟨4, rfl, by decide⟩
    · exact ⟨5 + far, rfl, by omega⟩
  refine ⟨lo2, _, w, _, rfl, rfl, SqL.of (k11.lst e10 lo2A), hz, (by show 3 ≤ sizeLine; decide), fun t3 ht3 => ⟨(by show 0 ≤ sizeLine; decide), fun e4 he4 => ⟨(by show 2 ≤ sizeLine; decide), fun t5 ht5 => ?_⟩⟩⟩
  obtain ⟨k12, hp12⟩ := pap0 ht3 he4 ht5
  have x12 := x11.mono0 k12
  generalize upd (upd (upd H11 t3 (.tup [.int 0, .int 0, .int 0])) e4 (.lst [])) t5 (.tup [.ref t3, .ref e4]) = H12 at k12 hp12 x12 ⊢
  refine ⟨v, b, n, z, 0, .ref t5, .mk (0, 0, 0) [], rfl, x12.hB, x12.hg, x12.hn, x12.lv.tb, x12.lv.g, hp12, pap0_dep, by decide, fun hh => absurd ⟨x12.n0, x12.n2⟩ hh, fun _ _ H13 k13 => ⟨rfl, rfl, fun H14 k14 => ?_⟩, fun _ hh => absurd hh hzn⟩
  refine ⟨rfl, ?_⟩
  have hx := nx H14
  exact hx
end
end
end LP
end

section
set_option Elab.async false
set_option linter.all false
set_option maxRecDepth 100000
set_option maxHeartbeats 4000000
/-! law_k06, a paper told and shown -/
namespace LP
open PySem PySem.Spec PyProof.Rows L2 Ly GY
section
variable [LamTab] {P : Program} {W0 : World} {K : PySem.W.Frag} {mg : Str → Option Value} {base : Heap}
variable (F : LF6 P W0 K mg base) {f c : Addr} {A : Around} {outer : List Env} {s : Shared} {H : Hp} {E : XK}
  (hr : Room 30 (A.deeper (envOfC "law" (defScope lLaw) s.heap.objs.size f (.ref c))))
include hr
theorem part6_d : ∃ t, PSs (lawX6 P W0 K mg base f c A outer s H E) (lawIn6.drop 5) t ∧ ∀ (a h l : Addr) (H0 : Hp) (v : V) (b : Bd) (du : Addr) (n z : Int) (m : Nat) (w : V) (p : Paper) (wd dd : Nat) (D : Ends) (o2 o6 o9 o10 o12 o13 o14 o15 o16 o17 o18 : Option V) (H1 : Hp), B6 F h l H0 v b du n H1 → (0 ≤ z ∧ z ≤ 3) → m ≤ 3 →
    PAt K H1 (fun a => a ∉ [h, l]) w p → PB wd dd p → wd ≤ 1000 → dd ≤ 7 → (∀ σ' H', Fr6 F a h l H0 v b du n σ' H' → D.nx σ' H') →
    t D [some (.ref a), some (.ref h), o2, some v, some (.ref du), some (.int n), o6, some (.int z), some (.int (m : Int)), o9, o10, some w, o12, o13, o14, o15, o16, o17, o18] H1 := by
  have hr1 : Room 1 _ := hr.mono (by decide)
  have hr2 : Room 2 _ := hr.mono (by decide)
  have hr8 : Room 8 _ := hr.mono (by decide)
  have hr9 : Room (5 + 4) _ := hr.mono (by decide)
  have hr11 : Room 11 _ := hr.mono (by decide)
  have hr28 : Room 28 _ := hr.mono (by decide)
  refine ⟨_, pss_cons (ps_set (i := 13) scLaw6.nd rfl (.inl rfl) (pe_callB (call_max2 rfl) (by rfl) F.U.max (by decide +kernel) (pa_cons pe_int (pa_cons (pe_op op_add (pv 8) (pe_ix (r := rIxL K) ix_list (pe_lst (pa_cons pe_int (pa_cons pe_int (pa_cons pe_int (pa_cons pe_int (pa_cons (pe_un un_neg pe_int) pa_nil))))))
      (pe_call F.gX hr1 (by rfl) F.nX.m F.nX.kp F.nX.b .nil pass0 (pa_cons (pv 1) (pa_cons pe_int pa_nil))) (fun _ _ => rfl))) pa_nil))))
    (pss_cons (ps_set (i := 14) scLaw6.nd rfl (.inl rfl) (pe_ix (r := rIxL K) ix_list (pe_lst (pa_cons (pv 7) (pa_cons (pv 7) (pa_cons (pv 7) (pa_cons (pe_call F.gX hr1 (by rfl) F.nX.m F.nX.kp F.nX.b .nil pass0 (pa_cons (pv 1) (pa_cons pe_int pa_nil))) pa_nil)))))
      (pe_call F.gX hr1 (by rfl) F.nX.m F.nX.kp F.nX.b .nil pass0 (pa_cons (pv 1) (pa_cons pe_int pa_nil))) (fun _ _ => rfl)))
    (pss_cons (ps_asg (pe_call F.gy hr2 (by rfl) F.ny.m F.ny.kp F.ny.b .nil pass0 (pa_cons (pv 4) (pa_cons (pv 14) pa_nil))) (pg_tup rfl (pgs_cons (pg_name (i := 9) scLaw6.nd rfl (.inl rfl)) (pgs_cons (pg_name (i := 10) scLaw6.nd rfl (.inl rfl)) pgs_nil))))
    (pss_cons (ps_set (i := 15) scLaw6.nd rfl (.inl rfl) (pe_call F.gc hr8 (by rfl) F.nc.m F.nc.kp F.nc.b .nil pass0 (pa_cons (pv 11) pa_nil)))
    (pss_cons (ps_set (i := 16) scLaw6.nd rfl (.inl rfl) (pe_call F.gs hr9 (by rfl) F.ns.m F.ns.kp F.ns.b .nil pass0 (pa_cons (pv 9) (pa_cons (pv 10) (pa_cons (pe_lst pa_nil) (pa_cons (pv 5) (pa_cons (pv 13) (pa_cons (pv 11) pa_nil))))))))
    (pss_one (ps_if (PW.pt (pw_or (pt_not (pt_val (pe_call F.gA hr11 (by rfl) F.nA.m F.nA.kp F.nA.b .nil pass0 (pa_cons (pe_call F.gw hr28 (by rfl) F.nw.m F.nw.kp F.nw.b .nil passL (pa_cons (pv 3) (pa_cons (pv 5) (pa_cons (pv 14) (pa_cons (pv 13) (pa_cons (pv 15) pa_nil)))))) (pa_cons (pv 16) pa_nil))))) (pw_or1 (pt_cmpR (op_neD hr.units) (pv 15) (pv 11) (nomark _))))) (pss_one (ps_ret pe_bl)) pss_nil)))))), ?_⟩
  intro a h l H0 v b du n z m w p wd dd D o2 o6 o9 o10 o12 o13 o14 o15 o16 o17 o18 H1 x1 hz hm hp hb hwd hdd nx
  refine ⟨_, rfl, 1, rfl, (by show 5 ≤ sizeLine; decide), fun lo hlo => ?_⟩
  have k2 : Kp [] H1 (upd H1 lo (.lst [.int 0, .int 0, .int 0, .int 1, .int (-1)])) := Kp.new hlo
  have e2 : upd H1 lo (.lst [.int 0, .int 0, .int 0, .int 1, .int (-1)]) lo = some (.lst [.int 0, .int 0, .int 0, .int 1, .int (-1)]) := upd_same
  have x2 := x1.mono0 k2
  have hp2 := PAt.mono k2 (fun b _ => List.not_mem_nil) p hp
  have loA := x1.s.apart hlo
  generalize upd H1 lo (.lst [.int 0, .int 0, .int 0, .int 1, .int (-1)]) = H2 at k2 e2 x2 hp2 ⊢
  refine ⟨_, rfl, h, l, 5, rfl, by decide, by decide, x2.s, fun H3 g k3 s3 g0 g5 => ?_⟩
  have x3 := x2.mono k3 s3
  have hp3 := PAt.mono k3 (fun b hb => hb) p hp2
  obtain ⟨ad, hat, ha1⟩ : ∃ ad : Int, atI [V.int 0, .int 0, .int 0, .int 1, .int (-1)] g = some (.int ad) ∧ ad ≤ 1 := by
    rcases (show g = 0 ∨ g = 1 ∨ g = 2 ∨ g = 3 ∨ g = 4 by omega) with rfl | rfl | rfl | rfl | rfl
    · exact ⟨0, rfl, by decide⟩
    · exact ⟨0, rfl, by decide⟩
    · exact ⟨0, rfl, by decide⟩
    · exact ⟨1, rfl, by decide⟩
    · exact ⟨-1, rfl, by decide⟩
  refine ⟨lo, _, g, _, rfl, rfl, SqL.of (k3.lst e2 loA), hat, _, _, rfl, rfl, 0, _, rfl, ?_⟩
  obtain ⟨tn, htn, ht4⟩ : ∃ tn : Nat, (if (m : Int) + ad > 0 then (m : Int) + ad else 0) = (tn : Int) ∧ tn ≤ 4 := by
    refine ⟨(if (m : Int) + ad > 0 then (m : Int) + ad else 0).toNat, ?_, ?_⟩ <;> split <;> omega
  rw [htn]
  obtain ⟨nn, rfl⟩ : ∃ nn : Nat, n = (nn : Int) := ⟨n.toNat, by have := x1.n0; omega⟩
  have hn2 : nn ≤ 2 := by have := x1.n2; omega
  refine ⟨_, rfl, _, rfl, _, rfl, _, rfl, h, l, 4, rfl, by decide, by decide, s3, fun H4 y k4 s4 y0 y4 => ⟨(by show 4 ≤ sizeLine; decide), fun l2 hl2 => ?_⟩⟩
  have x4 := x3.mono k4 s4
  have hp4 := PAt.mono k4 (fun b hb => hb) p hp3
  have k5 : Kp [] H4 (upd H4 l2 (.lst [.int z, .int z, .int z, .int y])) := Kp.new hl2
  have e5 : upd H4 l2 (.lst [.int z, .int z, .int z, .int y]) l2 = some (.lst [.int z, .int z, .int z, .int y]) := upd_same
  have x5 := x4.mono0 k5
  have hp5 := PAt.mono k5 (fun b _ => List.not_mem_nil) p hp4
  have l2A := x4.s.apart hl2
  generalize upd H4 l2 (.lst [.int z, .int z, .int z, .int y]) = H5 at k5 e5 x5 hp5 ⊢
  refine ⟨_, rfl, h, l, 4, rfl, by decide, by decide, x5.s, fun H6 g2 k6 s6 g20 g24 => ?_⟩
  have x6 := x5.mono k6 s6
  have hp6 := PAt.mono k6 (fun b hb => hb) p hp5
  obtain ⟨tz, hat2, htz⟩ : ∃ tz : Int, atI [V.int z, .int z, .int z, .int y] g2 = some (.int tz) ∧ (0 ≤ tz ∧ tz ≤ 3) := by
    rcases (show g2 = 0 ∨ g2 = 1 ∨ g2 = 2 ∨ g2 = 3 by omega) with rfl | rfl | rfl | rfl
    · exact ⟨z, rfl, hz⟩
    · exact ⟨z, rfl, hz⟩
    · exact ⟨z, rfl, hz⟩
    · exact ⟨y, rfl, by omega⟩
  refine ⟨l2, _, g2, _, rfl, rfl, SqL.of (k6.lst e5 l2A), hat2, _, rfl, _, rfl, .ref du, all b, tz, rfl, x6.hd.toC, all_len b, fun H7 t7 ua va us fs k7 et n1 n2 hus ius hfs ifs => ?_⟩
  have x7 := x6.mono0 k7
  have hp7 := PAt.mono k7 (fun b _ => List.not_mem_nil) p hp6
  refine ⟨t7, _, rfl, et, rfl, _, _, rfl, _, _, rfl, rfl, ?_⟩
  refine ⟨_, rfl, w, p, fun a => a ∉ [h, l], wd, dd, rfl, hp7, hb, hwd, by omega, fun H8 v8 k8 hp8 => ?_⟩
  have x8 := x7.mono0 k8
  have hw8 := (PAt.mono k8 (fun b _ => List.not_mem_nil) p hp7).dp
  have hus8 := k8.lst hus List.not_mem_nil
  have hfs8 := k8.lst hfs List.not_mem_nil
  have ius8 := items_mono k8 ius
  have ifs8 := items_mono k8 ifs
  refine ⟨_, rfl, _, rfl, (by show 0 ≤ sizeLine; decide), fun e9 he9 => ?_⟩
  have k9 : Kp [] H8 (upd H8 e9 (.lst [])) := Kp.new he9
  have e9' : upd H8 e9 (.lst []) e9 = some (.lst []) := upd_same
  have x9 := x8.mono0 k9
  have hp9 := PAt.mono k9 (fun b _ => List.not_mem_nil) p hp8
  have hw9 := (PAt.mono k9 (fun b _ => List.not_mem_nil) p (PAt.mono k8 (fun b _ => List.not_mem_nil) p hp7))
  have hus9 := k9.lst hus8 List.not_mem_nil
  have hfs9 := k9.lst hfs8 List.not_mem_nil
  have ius9 := items_mono k9 ius8
  have ifs9 := items_mono k9 ifs8
  generalize upd H8 e9 (.lst []) = H9 at k9 e9' x9 hp9 hw9 hus9 hfs9 ius9 ifs9 ⊢
  have hIn : ∀ c ∈ all b, InR c := fun c hc => (mem_all.mp hc).1
  have hdep : (pp p).depth ≤ 60 := by
    have := PB.dep (p := p) hb
    omega
  refine ⟨_, rfl, _, rfl, _, rfl, .ref ua, .ref va, w, e9, [], all b, tz, nn, [], tn, p, rfl, cellsL_of hus9 ius9, cellsL_of hfs9 ifs9, e9', .nil, asc_nodup (all_asc b), all_len b, hn2, (by show 0 + tn ≤ 100; omega), hw9.dp, by omega, fun H10 k10 => ?_⟩
  have x10 := x9.mono0 k10
  have hp10 := PAt.mono k10 (fun b _ => List.not_mem_nil) p hp9
  have hw10 := PAt.mono k10 (fun b _ => List.not_mem_nil) p hw9
  refine ⟨_, rfl, _, rfl, _, rfl, _, rfl, _, rfl, v, b, (nn : Int), tz, tn, v8, p, rfl, x10.hB, x10.hg, x10.hn, x10.lv.tb, x10.lv.g, hp10.dp, hdep, by omega, fun hh => absurd ⟨x10.n0, x10.n2⟩ hh, fun _ hh => absurd htz hh, fun _ _ H11 k11 => ?_⟩
  have x11 := x10.mono0 k11
  have hp11 := PAt.mono k11 (fun b _ => List.not_mem_nil) p hp10
  have hw11 := PAt.mono k11 (fun b _ => List.not_mem_nil) p hw10
  have hsl : shP (wi (all b) ((nn : Int)).toNat) tn (helpK (all b) ((nn : Int)).toNat tz) p = lsP (hangL (all b) tz nn) (someL (all b) tz nn) tn [] p := sh_law (n := nn) (fun c hc => (hIn c hc).2.2.1) tn p
  rw [hsl]
  refine ⟨_, rfl, _, _, .bool _, rfl, .bl _, .bl _, rfl, by show (PyData.bool _).depth < 10; simp [PyData.depth], fun H12 k12 => ⟨true, rfl, iteF ?_⟩⟩
  have x12 := x11.mono0 k12
  have hp12 := PAt.mono k12 (fun b _ => List.not_mem_nil) p hp11
  have hw12 := PAt.mono k12 (fun b _ => List.not_mem_nil) p hw11
  refine ⟨_, rfl, _, rfl, pp p, pp p, hp12.dp, hw12.dp, pp_shaped hdep, pp_shaped hdep, _, rfl, iteF' (by rw [pp_self]; rfl) (nx _ _ ?_)⟩
  exact ⟨⟨_, _, rfl, rfl⟩, x12⟩
end
end LP
end

section
set_option Elab.async false
set_option linter.all false
set_option maxRecDepth 100000
set_option maxHeartbeats 4000000
/-! law_k06 -/
namespace LP
open PySem PySem.Spec PyProof.Rows L2 Ly GY
section
variable [LamTab] {P : Program} {W0 : World} {K : PySem.W.Frag} {mg : Str → Option Value} {base : Heap}
def Nxt6 (F : LF6 P W0 K mg base) (a h l : Addr) (H0 : Hp) (i : Nat) (σ : L2.St) (H : Hp) : Prop :=
  ((∃ σ', σ = some (.ref a) :: some (.ref h) :: σ' ∧ σ'.length = 17) ∧ Kp [h, l] H0 H ∧ Sta H h l ∧ F.Liv H) ∧ (0 < i → ∃ v b du n, Fr6 F a h l H0 v b du n σ H)
section
variable (F : LF6 P W0 K mg base) {f c : Addr} {A : Around} {outer : List Env} {s : Shared} {H : Hp} {E : XK}
  (hr : Room 30 (A.deeper (envOfC "law" (defScope lLaw) s.heap.objs.size f (.ref c))))
include hr
theorem part6_c : ∃ t, PSs (lawX6 P W0 K mg base f c A outer s H E) (lawIn6.drop 0) t ∧ ∀ (a h l : Addr) (H0 : Hp) (v : V) (b : Bd) (du : Addr) (n : Int) (D : Ends) (σ : L2.St) (H1 : Hp), Fr6 F a h l H0 v b du n σ H1 → (∀ σ' H', Fr6 F a h l H0 v b du n σ' H' → D.nx σ' H') →
    t D σ H1 := by
  obtain ⟨td, pd, qd⟩ := part6_d F hr (H := H) (E := E) (outer := outer)
  have hr1 : Room 1 _ := hr.mono (by decide)
  have hr2 : Room 2 _ := hr.mono (by decide)
  have hr8 : Room (4 + 4) _ := hr.mono (by decide)
  have hr10 : Room (8 + 2) _ := hr.mono (by decide)
  have hU : (A.deeper (envOfC "law" (defScope lLaw) s.heap.objs.size f (.ref c))).units + 64 < cLine := by have := u65 hr; omega
  refine ⟨_, pss_cons (ps_set (i := 7) scLaw6.nd rfl (.inl rfl) (pe_ix (r := rIxL K) ix_list (pe_lst (pa_cons (pe_call F.gX hr1 (by rfl) F.nX.m F.nX.kp F.nX.b .nil pass0 (pa_cons (pv 1) (pa_cons pe_int pa_nil))) (pa_cons (pe_callBK (GW.cr_maxD rfl hU) (by rfl) F.U.max (by decide +kernel) (pa_cons
          (pe_lc (own := [("_law_cell", 18)]) (g := gName 18) rfl scLaw6.nd (pi_list (pe_call F.gF hr1 (by rfl) F.nF.m F.nF.kp F.nF.b .nil pass0 (pa_cons (pv 4) pa_nil))) (blkOk_by (own := [("_law_cell", 18)]) (N := names6) (sc := defScope lLaw) (by decide +kernel)) (fun _ _ _ _ _ => pg_name (i := 18) scLaw6.nd rfl (.inl rfl)) (fun _ _ _ _ _ => pts_nil) (fun _ _ _ _ _ => pe_ix (r := rIxT K) ix_tup (pv 18) pe_int (fun _ _ => rfl))) pa_nil)
          (pk_cons pe_int pk_nil)) pa_nil)))
        (pe_call F.gX hr1 (by rfl) F.nX.m F.nX.kp F.nX.b .nil pass0 (pa_cons (pv 1) (pa_cons pe_int pa_nil))) (fun _ _ => rfl)))
    (pss_cons (ps_set (i := 8) scLaw6.nd rfl (.inl rfl) (pe_call F.gX hr1 (by rfl) F.nX.m F.nX.kp F.nX.b .nil pass0 (pa_cons (pv 1) (pa_cons (pe_ix (r := rIxL K) ix_list (pe_lst (pa_cons pe_int (pa_cons pe_int (pa_cons pe_int pa_nil)))) (pv 5) (fun _ _ => rfl)) pa_nil))))
    (pss_cons (ps_asg (pe_call F.gy hr2 (by rfl) F.ny.m F.ny.kp F.ny.b .nil pass0 (pa_cons (pv 4) (pa_cons (pv 7) pa_nil))) (pg_tup rfl (pgs_cons (pg_name (i := 9) scLaw6.nd rfl (.inl rfl)) (pgs_cons (pg_name (i := 10) scLaw6.nd rfl (.inl rfl)) pgs_nil))))
    (pss_cons (ps_set (i := 11) scLaw6.nd rfl (.inl rfl) (pe_call F.gp hr8 (by rfl) F.np.m F.np.kp F.np.b .nil pass0 (pa_cons (pv 1) (pa_cons (pv 9) (pa_cons (pv 10) (pa_cons (pe_lst pa_nil) (pa_cons (pv 5) (pa_cons (pv 8) pa_nil))))))))
    (pss_cons (ps_for PassesOwn.never rfl (pi_range1 (by rfl) F.T.range (pa_cons (pe_call F.gX hr1 (by rfl) F.nX.m F.nX.kp F.nX.b .nil pass0 (pa_cons (pv 1) (pa_cons pe_int pa_nil))) pa_nil)) (pg_name (i := 12) scLaw6.nd rfl (.inl rfl))
      (pss_one (ps_set (i := 11) scLaw6.nd rfl (.inl rfl) (pe_call F.gt hr10 (by rfl) F.nt.m F.nt.kp F.nt.b .nil pass0 (pa_cons (pv 1) (pa_cons (pv 11) pa_nil)))))) pd)))), ?_⟩
  intro a h l H0 v b du n D σ H1 hfr nx
  obtain ⟨⟨o2, σ', rfl, hlen⟩, x1⟩ := hfr
  match σ', hlen with
  | [o6, o7, o8, o9, o10, o11, o12, o13, o14, o15, o16, o17, o18], _ =>
  have hIn : ∀ c ∈ all b, InR c := fun c hc => (mem_all.mp hc).1
  refine ⟨_, rfl, h, l, 4, rfl, by decide, by decide, x1.s, fun H2 z0 k2 s2 za zb => ?_⟩
  have x2 := x1.mono k2 s2
  have hfl : (frees (all b)).length ≤ 64 := Nat.le_trans (List.length_filter_le _ _) (all_len b)
  refine ⟨_, rfl, .ref du, all b, rfl, x2.hd.toC, all_len b, fun H3 r ys k3 n3 h3 i3 => ⟨r, rfl, ⟨_, SqL.of h3⟩, fun D1 hD1 => lc_dataL (K := K) (frees (all b)) cD (fun _ => true) (fun c => .int c.2.2) noL_c (fun _ _ => rfl) hD1 (SqL.of h3) i3 (by omega) (fun c x H' Nx Z _ k hx nx _ => ?cel) (fun H4 zs k4 h4 d4 => ?cdn)⟩⟩
  case cel =>
    obtain ⟨pc, rfl, hp⟩ := of_dp_c hx
    refine ⟨rfl, yesI ?_⟩
    exact ⟨_, rfl, pc, _, 2, _, rfl, rfl, hp, rfl, nx _ _ (Kp.refl _ _) rfl (.int _)⟩
  case cdn =>
  have e : ((frees (all b)).filter fun _ => true).map (fun c : C3 => PyData.int c.2.2) = ((frees (all b)).map fun c => c.2.2).map PyData.int := by
    rw [List.filter_eq_self.mpr fun _ _ => rfl, List.map_map]
    rfl
  rw [e] at d4
  have e2 := dps_ints d4
  subst e2
  dsimp only [tNil, tCons, tC]
  refine maxR (SqL.of h4) fun mz hmz => ?_
  have hmz3 : 0 ≤ mz ∧ mz ≤ 3 := by
    rcases hmz with ⟨_, h2⟩ | ⟨h1, _⟩
    · omega
    · obtain ⟨q, hq, rfl⟩ := List.mem_map.mp h1
      exact (hIn q (List.mem_filter.mp hq).1).2.2
  have k24 := k3.trans k4
  have x4 := x2.mono0 k24
  refine ⟨(by show 2 ≤ sizeLine; decide), fun lo hlo => ?_⟩
  have k5 : Kp [] H4 (upd H4 lo (.lst [.int z0, .int mz])) := Kp.new hlo
  have e5 : upd H4 lo (.lst [.int z0, .int mz]) lo = some (.lst [.int z0, .int mz]) := upd_same
  have x5 := x4.mono0 k5
  have loA := x4.s.apart hlo
  generalize upd H4 lo (.lst [.int z0, .int mz]) = H5 at k5 e5 x5 ⊢
  refine ⟨_, rfl, h, l, 2, rfl, by decide, by decide, x5.s, fun H6 g k6 s6 g0 g2 => ?_⟩
  have x6 := x5.mono k6 s6
  obtain ⟨z, hat, hz⟩ : ∃ z : Int, atI [V.int z0, .int mz] g = some (.int z) ∧ (0 ≤ z ∧ z ≤ 3) := by
    rcases (show g = 0 ∨ g = 1 by omega) with rfl | rfl
    · exact ⟨z0, rfl, by omega⟩
    · exact ⟨mz, rfl, hmz3⟩
  refine ⟨lo, _, g, _, rfl, rfl, SqL.of (k6.lst e5 loA), hat, ?_⟩
  refine ⟨_, rfl, (by show 3 ≤ sizeLine; decide), fun l3 hl3 => ?_⟩
  have k7 : Kp [] H6 (upd H6 l3 (.lst [.int 4, .int 4, .int 3])) := Kp.new hl3
  have e7 : upd H6 l3 (.lst [.int 4, .int 4, .int 3]) l3 = some (.lst [.int 4, .int 4, .int 3]) := upd_same
  have x7 := x6.mono0 k7
  generalize upd H6 l3 (.lst [.int 4, .int 4, .int 3]) = H7 at k7 e7 x7 ⊢
  obtain ⟨mm, hat2, hmm⟩ : ∃ mm : Int, atI [V.int 4, .int 4, .int 3] n = some (.int mm) ∧ (0 < mm ∧ mm ≤ 4) := by
    have h0 := x7.n0
    have h2 := x7.n2
    rcases (show n = 0 ∨ n = 1 ∨ n = 2 by omega) with rfl | rfl | rfl
    · exact ⟨4, rfl, by decide⟩
    · exact ⟨4, rfl, by decide⟩
    · exact ⟨3, rfl, by decide⟩
  obtain ⟨nn, rfl⟩ : ∃ nn : Nat, n = (nn : Int) := ⟨n.toNat, by have := x1.n0; omega⟩
  have hn2 : nn ≤ 2 := by have := x1.n2; omega
  refine ⟨_, rfl, l3, _, _, _, rfl, rfl, SqL.of e7, hat2, h, l, mm, rfl, hmm.1, (by omega), x7.s, fun H8 mi k8 s8 m0 m4 => ?_⟩
  have x8 := x7.mono k8 s8
  obtain ⟨m, rfl⟩ : ∃ m : Nat, mi = (m : Int) := ⟨mi.toNat, by omega⟩
  refine ⟨_, rfl, _, rfl, .ref du, all b, z, rfl, x8.hd.toC, all_len b, fun H9 t9 ua va us fs k9 et n1 n2 hus ius hfs ifs => ⟨t9, _, rfl, et, rfl, _, _, rfl, _, _, rfl, rfl, ?_⟩⟩
  have x9 := x8.mono0 k9
  have uaA := x8.s.apart n1
  have vaA := x8.s.apart n2
  refine ⟨_, rfl, _, rfl, _, rfl, (by show 0 ≤ sizeLine; decide), fun e10 he10 => ?_⟩
  have k10 : Kp [] H9 (upd H9 e10 (.lst [])) := Kp.new he10
  have ee : upd H9 e10 (.lst []) e10 = some (.lst []) := upd_same
  have x10 := x9.mono0 k10
  have eA := x9.s.apart he10
  have hus10 := k10.lst hus List.not_mem_nil
  have hfs10 := k10.lst hfs List.not_mem_nil
  have ius10 := items_mono k10 ius
  have ifs10 := items_mono k10 ifs
  generalize upd H9 e10 (.lst []) = H10 at k10 ee x10 hus10 hfs10 ius10 ifs10 ⊢
  refine ⟨_, rfl, _, rfl, h, l, ua, va, e10, us, fs, [], all b, z, nn, [], m, rfl, x10.s, hus10, ius10, hfs10, ifs10, ee, .nil, uaA, vaA, eA, asc_nodup (all_asc b), all_len b, hn2, (by show 0 + m ≤ 100; omega), by omega, fun H11 w p k11 s11 hp hb => ?_⟩
  have x11 := x10.mono k11 s11
  have hp11 : PAt K H11 (fun a => a ∉ [h, l]) w p := PAt.imp (fun b hb => x10.s.apart hb) p hp
  refine ⟨_, rfl, h, l, 3, rfl, by decide, by decide, x11.s, fun H12 ri k12 s12 r0 r3 => ?_⟩
  have x12 := x11.mono k12 s12
  have hp12 := PAt.mono k12 (fun b hb => hb) p hp11
  obtain ⟨rn, rfl⟩ : ∃ rn : Nat, ri = (rn : Int) := ⟨ri.toNat, by omega⟩
  refine ⟨_, rfl, by omega, by omega, for_range (lo := 0) (n := rn) (fun i σ H' => B6 F h l H0 v b du (nn : Int) H' ∧ ∃ (o12 : Option V) (w : V) (p : Paper) (wd dd : Nat), PAt K H' (fun a => a ∉ [h, l]) w p ∧ PB wd dd p ∧ wd + 1 ≤ 65 * 2 ^ i ∧ dd ≤ 4 + i ∧
      σ = [some (.ref a), some (.ref h), o2, some v, some (.ref du), some (.int (nn : Int)), o6, some (.int z), some (.int (m : Int)), some (.ref ua), some (.ref va), some w, o12, o13, o14, o15, o16, o17, o18])
    ⟨x12, o12, w, p, 64, m + 1, hp12, hb, by decide, by omega, rfl⟩ (fun i σ H' hi hv => ?_) (fun σ H' hv => ?_)⟩
  · obtain ⟨y1, o12', w1, p1, wd, dd, hp1, hb1, hwd, hdd, rfl⟩ := hv
    have hw400 : wd ≤ 400 := by
      rcases (show i = 0 ∨ i = 1 by omega) with rfl | rfl <;> omega
    refine ⟨_, rfl, _, rfl, h, l, w1, p1, wd, dd, rfl, y1.s, hp1, hb1, hw400, by omega, by omega, fun H14 v2 p2 k14 s14 hp2 hb2 => ?_⟩
    exact ⟨y1.mono k14 s14, _, v2, p2, _, _, hp2, hb2, by rw [Nat.pow_succ]; omega, by omega, rfl⟩
  · obtain ⟨y1, o12', w1, p1, wd, dd, hp1, hb1, hwd, hdd, rfl⟩ := hv
    have hw : wd ≤ 1000 := by
      rcases (show rn = 0 ∨ rn = 1 ∨ rn = 2 by omega) with rfl | rfl | rfl <;> omega
    exact qd a h l H0 v b du (nn : Int) z m w1 p1 wd dd D o2 o6 _ _ o12' o13 o14 o15 o16 o17 o18 H' y1 hz (by omega) hp1 hb1 hw (by omega) nx
theorem part6_a : ∃ t, PSs (lawX6 P W0 K mg base f c A outer s H E) (lawLoop6.drop 0) t ∧ ∀ (a h l : Addr) (H0 : Hp) (D : Ends) (σ : L2.St) (H1 : Hp), ((∃ σ', σ = some (.ref a) :: some (.ref h) :: σ' ∧ σ'.length = 17) ∧ Kp [h, l] H0 H1 ∧ Sta H1 h l ∧ F.Liv H1) → (∀ v b du n σ' H', Fr6 F a h l H0 v b du n σ' H' → D.nx σ' H') → t D σ H1 := by
  obtain ⟨tc, pc, qc⟩ := part6_c F hr (H := H) (E := E) (outer := outer)
  have hr1 : Room 1 _ := hr.mono (by decide)
  have hr21 : Room 21 _ := hr.mono (by decide)
  have hr26 : Room (21 + 5) _ := hr.mono (by decide)
  refine ⟨_, pss_cons (ps_set (i := 3) scLaw6.nd rfl (.inr rfl) (pe_call F.gB hr26 (by rfl) F.nB.m F.nB.kp F.nB.b .nil pass0 (pa_cons (pv 1) (pa_cons pe_int pa_nil))))
    (pss_cons (ps_set (i := 4) scLaw6.nd rfl (.inl rfl) (pe_call F.gL hr21 (by rfl) F.nL.m F.nL.kp F.nL.b .nil pass0 (pa_cons (pv 3) pa_nil)))
    (pss_cons (ps_set (i := 5) scLaw6.nd rfl (.inr rfl) (pe_call F.gX hr1 (by rfl) F.nX.m F.nX.kp F.nX.b .nil pass0 (pa_cons (pv 1) (pa_cons pe_int pa_nil))))
    (pss_one (ps_for PassesOwn.never rfl (pi_range1 (by rfl) F.T.range (pa_cons pe_int pa_nil)) (pg_name (i := 6) scLaw6.nd rfl (.inl rfl)) pc)))), ?_⟩
  intro a h l H0 D σ H1 hat nx
  obtain ⟨⟨σ', rfl, hlen⟩, k1, s1, v1⟩ := hat
  match σ', hlen with
  | [o2, o3, o4, o5, o6, o7, o8, o9, o10, o11, o12, o13, o14, o15, o16, o17, o18], _ =>
  refine ⟨_, rfl, h, l, 3, rfl, by decide, by decide, s1, fun H2 v b k2 s2 hB hg hd => ?_⟩
  have hnb := nb_of_dp hd
  refine ⟨_, rfl, v, b, rfl, hB, by omega, fun H3 du dys k3 n3 h3 i3 => ?_⟩
  have duA := s2.apart n3
  refine ⟨_, rfl, h, l, 3, rfl, by decide, by decide, s2.mono0 k3, fun H4 r k4 s4 r0 r3 => ?_⟩
  have x4 : B6 F h l H0 v b du r H4 := ⟨(k1.trans k2).trans (k3.w0.trans k4), s4, ((v1.mono k2).mono k3).mono k4, body_mono (k3.w0.trans k4) hB, hg, by omega, ⟨dys, k4.lst h3 duA, items_mono k4 i3, duA⟩, r0, by omega⟩
  refine ⟨3, rfl, by decide, by decide, for_range (lo := 0) (n := 3) (fun i σ H' => Fr6 F a h l H0 v b du r σ H') ⟨⟨_, _, rfl, rfl⟩, x4⟩ (fun i σ H5 hi hat => ?_) (fun σ H5 hat => nx v b du r σ H5 hat)⟩
  obtain ⟨⟨p2, σ', rfl, hlen⟩, x5⟩ := hat
  match σ', hlen with
  | o6 :: σ'', hlen =>
  exact qc a h l H0 v b du r _ _ H5 ⟨⟨_, _, rfl, hlen⟩, x5⟩ fun σ' H' z => z
end
def spLaw6 (F : LF6 P W0 K mg base) : Sp := fun vs H Q _ => ∃ (a : Addr) (ns : List Int), vs = [.ref a] ∧ SqL K H a (ns.map V.int) ∧ ns.length ≤ 63 ∧ F.Liv H ∧ ∀ H', Q (.bl true) H'
theorem ok_law6 (F : LF6 P W0 K mg base) {f c : Addr} {fd : FuncData} (G : FunC K "law" "law" lLaw f fd c) (TB : LamX.TabB base mg c LamTab.P) (hq : LamTab.q = "law.<locals>.<lambda>") : FnOk P W0 K mg base CX0 31 f fd ["_law_script"] (spLaw6 F) := by
  refine G.ok scLaw6 (fun vs H Q E h => ?_) (fun A outer s H vs Q E hr h => ?_)
  · obtain ⟨a, ns, rfl, _⟩ := h
    rfl
  · obtain ⟨a, ns, rfl, hL, h63, v0, q⟩ := h
    have hr1 : Room 1 _ := hr.mono (by decide)
    obtain ⟨tb, pb, qb⟩ := part6_a F hr (H := H) (E := E) (outer := outer)
    obtain ⟨tf, pf, qf⟩ := part6_f F hr TB (by rw [hq]; show ("law.<locals>.<lambda>" : Str) = (("law" : Str) ++ (".<locals>." : Str)) ++ ("<lambda>" : Str); decide +kernel) (H := H) (E := E) (outer := outer)
    refine ⟨_, pss_cons (ps_set (i := 1) scLaw6.nd rfl (.inr rfl) (pe_call F.gM hr1 (by rfl) F.nM.m F.nM.kp F.nM.b .nil pass0 (pa_cons (pv 0) (pa_cons pe_int pa_nil))))
      (pss_cons (ps_for PassesOwn.never rfl (pi_range1 (by rfl) F.T.range (pa_cons pe_int pa_nil)) (pg_name (i := 2) scLaw6.nd rfl (.inl rfl)) pb) pf), ?_⟩
    refine ⟨_, rfl, a, ns, 17, rfl, hL, by omega, by decide, by decide, fun H1 h l k1 n1 n2 s1 => ?_⟩
    refine ⟨2, rfl, by decide, by decide, for_range (lo := 0) (n := 2) (fun i σ H' => Nxt6 F a h l H1 i σ H') ⟨⟨⟨_, rfl, rfl⟩, Kp.refl _ _, s1, v0.mono k1⟩, fun hh => absurd hh (by decide)⟩ (fun i σ H2 hi hat => ?_) (fun σ H2 hat => ?_)⟩
    · obtain ⟨⟨⟨σ', rfl, hlen⟩, k2, s2, v2⟩, _⟩ := hat
      match σ', hlen with
      | o2 :: σ'', hlen =>
      refine qb a h l H1 _ _ H2 ⟨⟨_, rfl, hlen⟩, k2, s2, v2⟩ fun v b du n σ' H' z => ?_
      obtain ⟨⟨p2, σ3, e3, hl3⟩, x3⟩ := z
      exact ⟨⟨⟨_, e3, by show σ3.length + 4 = 17; omega⟩, x3.k, x3.s, x3.lv⟩, fun _ => ⟨v, b, du, n, ⟨p2, σ3, e3, hl3⟩, x3⟩⟩
    · obtain ⟨v, b, du, n, ⟨p2, σ3, rfl, hl3⟩, x3⟩ := hat.2 (by decide)
      match σ3, hl3 with
      | [o6, o7, o8, o9, o10, o11, o12, o13, o14, o15, o16, o17, o18], _ =>
      exact qf a h l H1 v b du n _ p2 o6 o7 o8 o9 o10 o11 o12 o13 o14 o15 o16 o17 o18 H2 x3 q
end
end LP
end

section
set_option Elab.async false
set_option linter.all false
set_option maxRecDepth 100000
set_option maxHeartbeats 4000000
/-! the end: what the top leaves -/
namespace LP
open PySem PySem.Spec PyProof.Rows L2 Ly GY
theorem fun_of {K : PySem.W.Frag} {x : Str} {st : Stmt} {f : Addr} {fd : FuncData} (F : FunD K x x (defArgs st) (defBody st) (defScope st) [] [] f fd) : Fun K x x st f fd := by
  obtain ⟨oc, od, dV, kV, doc, pm, an, cdv, ct, osl, e, lk, hcd, hD, hK⟩ := F.ex
  rcases hD with ⟨_, rfl⟩ | ⟨z, _⟩
  · exact ⟨⟨oc, od, kV, doc, pm, an, cdv, ct, osl, e, lk, hcd⟩, F.kp⟩
  · exact absurd rfl z
theorem funC_of {K : PySem.W.Frag} {x : Str} {p : He.Defn} {st : Stmt} {fd : FuncData} (F : FunD K x x (defArgs st) (defBody st) (defScope st) [] [] (He.fAd K p) fd) : FunC K x x st (He.fAd K p) fd (He.cT K p).1 := by
  obtain ⟨oc, od, dV, kV, doc, pm, an, cdv, ct, osl, e, lk, hcd, hD, hK⟩ := F.ex
  rcases hD with ⟨_, rfl⟩ | ⟨z, _⟩
  · obtain ⟨c, rfl⟩ := He.codeIn_ref hcd
    have q : (He.cT K p).1 = c := He.codeOf_eq lk (by rw [e])
    rw [q]
    exact ⟨oc, od, kV, doc, pm, an, ct, osl, e, lk, hcd⟩
  · exact absurd rfl z
def defs : List He.DefD := [⟨("is_body", none), "is_body", "is_body", defArgs sIsBody, defBody sIsBody, defScope sIsBody, [], []⟩, ⟨("cells", none), "cells", "cells", defArgs sCells, defBody sCells, defScope sCells, [], []⟩, ⟨("check_layer", none), "check_layer", "check_layer", defArgs sChk, defBody sChk, defScope sChk, [], []⟩, ⟨("is_number", none), "is_number", "is_number", defArgs sNum, defBody sNum, defScope sNum, [], []⟩, ⟨("is_rising", none), "is_rising", "is_rising", defArgs sRising, defBody sRising, defScope sRising, [], []⟩, ⟨("quarter", none), "quarter", "quarter", defArgs sQuarter, defBody sQuarter, defScope sQuarter, [], []⟩, ⟨("shifted", none), "shifted", "shifted", defArgs sShifted, defBody sShifted, defScope sShifted, [], []⟩, ⟨("_is_formed", none), "_is_formed", "_is_formed", defArgs sFormed, defBody sFormed, defScope sFormed, [], []⟩, ⟨("_places_within", none), "_places_within", "_places_within", defArgs sPlaces, defBody sPlaces, defScope sPlaces, [], []⟩, ⟨("_is_triple", none), "_is_triple", "_is_triple", defArgs sTri, defBody sTri, defScope sTri, [], []⟩, ⟨("_are_rising_cells", none), "_are_rising_cells", "_are_rising_cells", defArgs sRise, defBody sRise, defScope sRise, [], []⟩, ⟨("_held", none), "_held", "_held", defArgs sHeld, defBody sHeld, defScope sHeld, [], []⟩, ⟨("_block_cells", none), "_block_cells", "_block_cells", defArgs sBlock, defBody sBlock, defScope sBlock, [], []⟩, ⟨("_joined", none), "_joined", "_joined", defArgs sJoined, defBody sJoined, defScope sJoined, [], []⟩, ⟨("check_reach", none), "check_reach", "check_reach", defArgs sChkR, defBody sChkR, defScope sChkR, [], []⟩, ⟨("hanging_cells", none), "hanging_cells", "hanging_cells", defArgs sHangC, defBody sHangC, defScope sHangC, [], []⟩, ⟨("beside", none), "beside", "beside", defArgs sBeside, defBody sBeside, defScope sBeside, [], []⟩, ⟨("_is_carried", none), "_is_carried", "_is_carried", defArgs sCarried, defBody sCarried, defScope sCarried, [], []⟩, ⟨("_ways", none), "_ways", "_ways", defArgs sWays, defBody sWays, defScope sWays, [], []⟩, ⟨("shows", none), "shows", "shows", defArgs sShows, defBody sShows, defScope sShows, [], []⟩, ⟨("_helps", none), "_helps", "_helps", defArgs sHelps, defBody sHelps, defScope sHelps, [], []⟩, ⟨("_within", none), "_within", "_within", defArgs sWithin, defBody sWithin, defScope sWithin, [], []⟩, ⟨("_still_hanging", none), "_still_hanging", "_still_hanging", defArgs sStill, defBody sStill, defScope sStill, [], []⟩, ⟨("_is_shown", none), "_is_shown", "_is_shown", defArgs sIsShown, defBody sIsShown, defScope sIsShown, [], []⟩, ⟨("_law_mix", none), "_law_mix", "_law_mix", defArgs lMix, defBody lMix, defScope lMix, [], []⟩, ⟨("_law_next", none), "_law_next", "_law_next", defArgs lNext, defBody lNext, defScope lNext, [], []⟩, ⟨("_law_alike", none), "_law_alike", "_law_alike", defArgs lAlike, defBody lAlike, defScope lAlike, [], []⟩, ⟨("_law_inside", none), "_law_inside", "_law_inside", defArgs lInside, defBody lInside, defScope lInside, [], []⟩, ⟨("_law_all", none), "_law_all", "_law_all", defArgs lAll, defBody lAll, defScope lAll, [], []⟩, ⟨("_law_body", none), "_law_body", "_law_body", defArgs lBody, defBody lBody, defScope lBody, [], []⟩, ⟨("_law_kind", none), "_law_kind", "_law_kind", defArgs lKind, defBody lKind, defScope lKind, [], []⟩, ⟨("_law_beside", none), "_law_beside", "_law_beside", defArgs lBeside, defBody lBeside, defScope lBeside, [], []⟩, ⟨("_law_free", none), "_law_free", "_law_free", defArgs lFree, defBody lFree, defScope lFree, [], []⟩, ⟨("_law_ways", none), "_law_ways", "_law_ways", defArgs lWays, defBody lWays, defScope lWays, [], []⟩, ⟨("_law_layer", none), "_law_layer", "_law_layer", defArgs lLayer, defBody lLayer, defScope lLayer, [], []⟩, ⟨("_law_hung", none), "_law_hung", "_law_hung", defArgs lHung, defBody lHung, defScope lHung, [], []⟩, ⟨("_law_near", none), "_law_near", "_law_near", defArgs lNear, defBody lNear, defScope lNear, [], []⟩, ⟨("_law_shown", none), "_law_shown", "_law_shown", defArgs lShown, defBody lShown, defScope lShown, [], []⟩, ⟨("_law_paper", none), "_law_paper", "_law_paper", defArgs lPaper, defBody lPaper, defScope lPaper, [], []⟩, ⟨("_law_turned", none), "_law_turned", "_law_turned", defArgs lTurned, defBody lTurned, defScope lTurned, [], []⟩, ⟨("_law_copied", none), "_law_copied", "_law_copied", defArgs lCopied, defBody lCopied, defScope lCopied, [], []⟩, ⟨("law", none), "law", "law", defArgs lLaw, defBody lLaw, defScope lLaw, [], []⟩]
def fa : List He.Fa := [.glo "is_body", .glo "cells", .glo "check_layer", .glo "is_number", .glo "is_rising", .glo "quarter", .glo "shifted", .glo "_is_formed", .glo "_places_within", .glo "_is_triple", .glo "_are_rising_cells", .glo "_held", .glo "_block_cells", .glo "_joined", .glo "check_reach", .glo "hanging_cells", .glo "beside", .glo "_is_carried", .glo "_ways", .glo "shows", .glo "_helps", .glo "_within", .glo "_still_hanging", .glo "_is_shown", .glo "_law_mix", .glo "_law_next", .glo "_law_alike", .glo "_law_inside", .glo "_law_all", .glo "_law_body", .glo "_law_kind", .glo "_law_beside", .glo "_law_free", .glo "_law_ways", .glo "_law_layer", .glo "_law_hung", .glo "_law_near", .glo "_law_shown", .glo "_law_paper", .glo "_law_turned", .glo "_law_copied", .glo "law", .glo "PrintError", .glo "NoBody", .glo "Outside", .glo "NoLayer", .glo "NoProp", .glo "BadReach", .glo "BadPlace", .glo "BadText", .glo "EDGES", .glo "JOINS", .free "isinstance", .free "int", .free "bool", .free "tuple", .free "list", .free "set", .free "len", .free "all", .free "range", .free "sorted", .free "max", .free "min", .free "str", .free "ValueError", .free "sum", .free "enumerate", .free "dict", .free "zip", .int "SIDE" 4, .int "LAST" 3, .int "MOST_BODIES" 20, .int "FARTHEST" 2, .exc "NoLayer", .exm "NoLayer" "PrintError" true, .exc "BadReach", .exm "BadReach" "PrintError" true]
def tf : List He.Defn := [("is_rising", none), ("_is_triple", none), ("_are_rising_cells", none), ("_held", none), ("_is_shown", none), ("law", none)]
def ex (K : PySem.W.Frag) : Bool := (He.tupB K "EDGES" [.str "x", .str "y", .str "z"] && (He.tupB K "JOINS" [.str "with", .str "common", .str "less"] && (decide (PySem.W.findIn K (.ref (He.ga K "NoLayer")) "__getattribute__" = some (some (.builtin "BaseException.__getattribute__"))) && (decide (PySem.W.findIn K (.ref (He.ga K "NoLayer")) "__getattr__" = some none) && (decide (PySem.W.hasDictIn K (He.ga K "NoLayer") = true) && (decide (PySem.W.findIn K (.ref (He.ga K "NoLayer")) "__class__" = some (some (.builtin "object.__class__"))) && (decide (PySem.W.mroIn K (He.ga K "NoLayer") (.type "object") = some true) && (decide (PySem.W.kitOne K (.ref (He.ga K "NoLayer")) (.ref (He.ga K "NoBody")) = some false) && (decide (PySem.W.kitOne K (.ref (He.ga K "NoLayer")) (.ref (He.ga K "Outside")) = some false) && (decide (PySem.W.kitOne K (.ref (He.ga K "NoLayer")) (.ref (He.ga K "NoLayer")) = some true) && (decide (PySem.W.kitOne K (.ref (He.ga K "NoLayer")) (.ref (He.ga K "NoProp")) = some false) && (decide (PySem.W.kitOne K (.ref (He.ga K "NoLayer")) (.ref (He.ga K "BadReach")) = some false) && (decide (PySem.W.kitOne K (.ref (He.ga K "NoLayer")) (.ref (He.ga K "BadPlace")) = some false) && (decide (PySem.W.kitOne K (.ref (He.ga K "NoLayer")) (.ref (He.ga K "BadText")) = some false) && (decide (PySem.W.kitOne K (.ref (He.ga K "NoLayer")) (.type "ValueError") = some true) && (decide (PySem.W.findIn K (.ref (He.ga K "BadReach")) "__getattribute__" = some (some (.builtin "BaseException.__getattribute__"))) && (decide (PySem.W.findIn K (.ref (He.ga K "BadReach")) "__getattr__" = some none) && (decide (PySem.W.hasDictIn K (He.ga K "BadReach") = true) && (decide (PySem.W.findIn K (.ref (He.ga K "BadReach")) "__class__" = some (some (.builtin "object.__class__"))) && (decide (PySem.W.mroIn K (He.ga K "BadReach") (.type "object") = some true) && (decide (PySem.W.kitOne K (.ref (He.ga K "BadReach")) (.ref (He.ga K "NoBody")) = some false) && (decide (PySem.W.kitOne K (.ref (He.ga K "BadReach")) (.ref (He.ga K "Outside")) = some false) && (decide (PySem.W.kitOne K (.ref (He.ga K "BadReach")) (.ref (He.ga K "NoLayer")) = some false) && (decide (PySem.W.kitOne K (.ref (He.ga K "BadReach")) (.ref (He.ga K "NoProp")) = some false) && (decide (PySem.W.kitOne K (.ref (He.ga K "BadReach")) (.ref (He.ga K "BadReach")) = some true) && (decide (PySem.W.kitOne K (.ref (He.ga K "BadReach")) (.ref (He.ga K "BadPlace")) = some false) && (decide (PySem.W.kitOne K (.ref (He.ga K "BadReach")) (.ref (He.ga K "BadText")) = some false) && (decide (PySem.W.kitOne K (.ref (He.ga K "BadReach")) (.type "ValueError") = some true) && (decide (PySem.W.specialIn K (.builtin "object.__class__") "__get__" = some (some (.builtin "getset_descriptor.__get__"))) && (decide (PySem.W.takesIn K (.builtin "object.__class__") = some true) && (decide ((He.cT K ("is_rising", none)).2 ≠ (He.cT K ("law", none)).2) && (decide ((He.cT K ("_is_triple", none)).2 ≠ (He.cT K ("law", none)).2) && (decide ((He.cT K ("_are_rising_cells", none)).2 ≠ (He.cT K ("law", none)).2) && (decide ((He.cT K ("_held", none)).2 ≠ (He.cT K ("law", none)).2) && decide ((He.cT K ("_is_shown", none)).2 ≠ (He.cT K ("law", none)).2)))))))))))))))))))))))))))))))))))
structure Ex1 (K : PySem.W.Frag) : Prop where
  tEDGES : He.tupB K "EDGES" [.str "x", .str "y", .str "z"] = true
  tJOINS : He.tupB K "JOINS" [.str "with", .str "common", .str "less"] = true
  e1NoLayer : PySem.W.findIn K (.ref (He.ga K "NoLayer")) "__getattribute__" = some (some (.builtin "BaseException.__getattribute__"))
  e2NoLayer : PySem.W.findIn K (.ref (He.ga K "NoLayer")) "__getattr__" = some none
  e3NoLayer : PySem.W.hasDictIn K (He.ga K "NoLayer") = true
  e4NoLayer : PySem.W.findIn K (.ref (He.ga K "NoLayer")) "__class__" = some (some (.builtin "object.__class__"))
  e7NoLayer : PySem.W.mroIn K (He.ga K "NoLayer") (.type "object") = some true
  k0NoLayer : PySem.W.kitOne K (.ref (He.ga K "NoLayer")) (.ref (He.ga K "NoBody")) = some false
  k1NoLayer : PySem.W.kitOne K (.ref (He.ga K "NoLayer")) (.ref (He.ga K "Outside")) = some false
  k2NoLayer : PySem.W.kitOne K (.ref (He.ga K "NoLayer")) (.ref (He.ga K "NoLayer")) = some true
  k3NoLayer : PySem.W.kitOne K (.ref (He.ga K "NoLayer")) (.ref (He.ga K "NoProp")) = some false
  k4NoLayer : PySem.W.kitOne K (.ref (He.ga K "NoLayer")) (.ref (He.ga K "BadReach")) = some false
  k5NoLayer : PySem.W.kitOne K (.ref (He.ga K "NoLayer")) (.ref (He.ga K "BadPlace")) = some false
  k6NoLayer : PySem.W.kitOne K (.ref (He.ga K "NoLayer")) (.ref (He.ga K "BadText")) = some false
  k7NoLayer : PySem.W.kitOne K (.ref (He.ga K "NoLayer")) (.type "ValueError") = some true
  e1BadReach : PySem.W.findIn K (.ref (He.ga K "BadReach")) "__getattribute__" = some (some (.builtin "BaseException.__getattribute__"))
  e2BadReach : PySem.W.findIn K (.ref (He.ga K "BadReach")) "__getattr__" = some none
  e3BadReach : PySem.W.hasDictIn K (He.ga K "BadReach") = true
  e4BadReach : PySem.W.findIn K (.ref (He.ga K "BadReach")) "__class__" = some (some (.builtin "object.__class__"))
  e7BadReach : PySem.W.mroIn K (He.ga K "BadReach") (.type "object") = some true
  k0BadReach : PySem.W.kitOne K (.ref (He.ga K "BadReach")) (.ref (He.ga K "NoBody")) = some false
  k1BadReach : PySem.W.kitOne K (.ref (He.ga K "BadReach")) (.ref (He.ga K "Outside")) = some false
  k2BadReach : PySem.W.kitOne K (.ref (He.ga K "BadReach")) (.ref (He.ga K "NoLayer")) = some false
  k3BadReach : PySem.W.kitOne K (.ref (He.ga K "BadReach")) (.ref (He.ga K "NoProp")) = some false
  k4BadReach : PySem.W.kitOne K (.ref (He.ga K "BadReach")) (.ref (He.ga K "BadReach")) = some true
  k5BadReach : PySem.W.kitOne K (.ref (He.ga K "BadReach")) (.ref (He.ga K "BadPlace")) = some false
  k6BadReach : PySem.W.kitOne K (.ref (He.ga K "BadReach")) (.ref (He.ga K "BadText")) = some false
  k7BadReach : PySem.W.kitOne K (.ref (He.ga K "BadReach")) (.type "ValueError") = some true
  e5 : PySem.W.specialIn K (.builtin "object.__class__") "__get__" = some (some (.builtin "getset_descriptor.__get__"))
  e6 : PySem.W.takesIn K (.builtin "object.__class__") = some true
  disrising : (He.cT K ("is_rising", none)).2 ≠ (He.cT K ("law", none)).2
  distriple : (He.cT K ("_is_triple", none)).2 ≠ (He.cT K ("law", none)).2
  darerisingcells : (He.cT K ("_are_rising_cells", none)).2 ≠ (He.cT K ("law", none)).2
  dheld : (He.cT K ("_held", none)).2 ≠ (He.cT K ("law", none)).2
  disshown : (He.cT K ("_is_shown", none)).2 ≠ (He.cT K ("law", none)).2
theorem ex1_of {K : PySem.W.Frag} (h : ex K = true) : Ex1 K := by
  unfold ex at h
  obtain ⟨h0, h⟩ := He.ba h
  obtain ⟨h1, h⟩ := He.ba h
  obtain ⟨h2, h⟩ := He.ba h
  obtain ⟨h3, h⟩ := He.ba h
  obtain ⟨h4, h⟩ := He.ba h
  obtain ⟨h5, h⟩ := He.ba h
  obtain ⟨h6, h⟩ := He.ba h
  obtain ⟨h7, h⟩ := He.ba h
  obtain ⟨h8, h⟩ := He.ba h
  obtain ⟨h9, h⟩ := He.ba h
  obtain ⟨h10, h⟩ := He.ba h
  obtain ⟨h11, h⟩ := He.ba h
  obtain ⟨h12, h⟩ := He.ba h
  obtain ⟨h13, h⟩ := He.ba h
  obtain ⟨h14, h⟩ := He.ba h
  obtain ⟨h15, h⟩ := He.ba h
  obtain ⟨h16, h⟩ := He.ba h
  obtain ⟨h17, h⟩ := He.ba h
  obtain ⟨h18, h⟩ := He.ba h
  obtain ⟨h19, h⟩ := He.ba h
  obtain ⟨h20, h⟩ := He.ba h
  obtain ⟨h21, h⟩ := He.ba h
  obtain ⟨h22, h⟩ := He.ba h
  obtain ⟨h23, h⟩ := He.ba h
  obtain ⟨h24, h⟩ := He.ba h
  obtain ⟨h25, h⟩ := He.ba h
  obtain ⟨h26, h⟩ := He.ba h
  obtain ⟨h27, h⟩ := He.ba h
  obtain ⟨h28, h⟩ := He.ba h
  obtain ⟨h29, h⟩ := He.ba h
  obtain ⟨h30, h⟩ := He.ba h
  obtain ⟨h31, h⟩ := He.ba h
  obtain ⟨h32, h⟩ := He.ba h
  obtain ⟨h33, h⟩ := He.ba h
  exact ⟨h0, h1, of_decide_eq_true h2, of_decide_eq_true h3, of_decide_eq_true h4, of_decide_eq_true h5, of_decide_eq_true h6, of_decide_eq_true h7, of_decide_eq_true h8, of_decide_eq_true h9, of_decide_eq_true h10, of_decide_eq_true h11, of_decide_eq_true h12, of_decide_eq_true h13, of_decide_eq_true h14, of_decide_eq_true h15, of_decide_eq_true h16, of_decide_eq_true h17, of_decide_eq_true h18, of_decide_eq_true h19, of_decide_eq_true h20, of_decide_eq_true h21, of_decide_eq_true h22, of_decide_eq_true h23, of_decide_eq_true h24, of_decide_eq_true h25, of_decide_eq_true h26, of_decide_eq_true h27, of_decide_eq_true h28, of_decide_eq_true h29, of_decide_eq_true h30, of_decide_eq_true h31, of_decide_eq_true h32, of_decide_eq_true h33, of_decide_eq_true h⟩
section
variable {P : Program} {w : World} {K : PySem.W.Frag} {h : Heap} {mg : Str → Option Value}
theorem nm_of (X : K.In h) (G : h.Ns mainGlobals mg) (c : He.SaysD fa defs K) (e : Ex1 K) : Nm K mg where
  isinstance := He.free_ok X G (c.fact 52 (f := .free "isinstance") rfl)
  int := He.free_ok X G (c.fact 53 (f := .free "int") rfl)
  bool := He.free_ok X G (c.fact 54 (f := .free "bool") rfl)
  tuple := He.free_ok X G (c.fact 55 (f := .free "tuple") rfl)
  list := He.free_ok X G (c.fact 56 (f := .free "list") rfl)
  set := He.free_ok X G (c.fact 57 (f := .free "set") rfl)
  len := He.free_ok X G (c.fact 58 (f := .free "len") rfl)
  all := He.free_ok X G (c.fact 59 (f := .free "all") rfl)
  range := He.free_ok X G (c.fact 60 (f := .free "range") rfl)
  sorted := He.free_ok X G (c.fact 61 (f := .free "sorted") rfl)
  side := He.int_ok X G (c.fact 70 (f := .int "SIDE" 4) rfl)
  last := He.int_ok X G (c.fact 71 (f := .int "LAST" 3) rfl)
  most := He.int_ok X G (c.fact 72 (f := .int "MOST_BODIES" 20) rfl)
  edges := ⟨_, He.glo_ok X G (c.fact 50 (f := .glo "EDGES") rfl), fun H => He.tupB_ok e.tEDGES H⟩
  joins := ⟨_, He.glo_ok X G (c.fact 51 (f := .glo "JOINS") rfl), fun H => He.tupB_ok e.tJOINS H⟩
theorem nl_of (X : K.In h) (G : h.Ns mainGlobals mg) (c : He.SaysD fa defs K) : Nl K mg where
  max := He.free_ok X G (c.fact 62 (f := .free "max") rfl)
  min := He.free_ok X G (c.fact 63 (f := .free "min") rfl)
  str := He.free_ok X G (c.fact 64 (f := .free "str") rfl)
theorem ex_ofNoLayer (X : K.In h) (G : h.Ns mainGlobals mg) (c : He.SaysD fa defs K) : Ex K mg "NoLayer" (He.ga K "NoLayer") := by
  obtain ⟨h1, h2, h3, h4⟩ := He.exc_ok (c.fact 74 (f := .exc "NoLayer") rfl)
  exact ⟨He.glo_ok X G (c.fact 45 (f := .glo "NoLayer") rfl), h1, h2, h3, h4⟩
theorem exc_ofNoLayer (X : K.In h) (G : h.Ns mainGlobals mg) (c : He.SaysD fa defs K) (e : Ex1 K) : ExcC K (He.ga K "NoLayer") := ⟨e.e1NoLayer, e.e2NoLayer, (ex_ofNoLayer X G c).b, e.e3NoLayer, e.e4NoLayer, e.e5, e.e6, e.e7NoLayer⟩
theorem ex_ofBadReach (X : K.In h) (G : h.Ns mainGlobals mg) (c : He.SaysD fa defs K) : Ex K mg "BadReach" (He.ga K "BadReach") := by
  obtain ⟨h1, h2, h3, h4⟩ := He.exc_ok (c.fact 76 (f := .exc "BadReach") rfl)
  exact ⟨He.glo_ok X G (c.fact 47 (f := .glo "BadReach") rfl), h1, h2, h3, h4⟩
theorem exc_ofBadReach (X : K.In h) (G : h.Ns mainGlobals mg) (c : He.SaysD fa defs K) (e : Ex1 K) : ExcC K (He.ga K "BadReach") := ⟨e.e1BadReach, e.e2BadReach, (ex_ofBadReach X G c).b, e.e3BadReach, e.e4BadReach, e.e5, e.e6, e.e7BadReach⟩
theorem nh_of (X : K.In h) (G : h.Ns mainGlobals mg) (c : He.SaysD fa defs K) : Nh K mg where
  far := He.int_ok X G (c.fact 73 (f := .int "FARTHEST" 2) rfl)
  sum := He.free_ok X G (c.fact 66 (f := .free "sum") rfl)
  enumerate := He.free_ok X G (c.fact 67 (f := .free "enumerate") rfl)
  dict := He.free_ok X G (c.fact 68 (f := .free "dict") rfl)
theorem nozip (X : K.In h) (G : h.Ns mainGlobals mg) (c : He.SaysD fa defs K) : mg "zip" = none := He.free_ok X G (c.fact 69 (f := .free "zip") rfl)
theorem kindn_of (X : K.In h) (G : h.Ns mainGlobals mg) (c : He.SaysD fa defs K) : KindN mg (He.ga K "PrintError") (He.ga K "NoBody") (He.ga K "Outside") (He.ga K "NoLayer") (He.ga K "NoProp") (He.ga K "BadReach") (He.ga K "BadPlace") (He.ga K "BadText") where
  gP := He.glo_ok X G (c.fact 42 (f := .glo "PrintError") rfl)
  gB := He.glo_ok X G (c.fact 43 (f := .glo "NoBody") rfl)
  gO := He.glo_ok X G (c.fact 44 (f := .glo "Outside") rfl)
  gL := He.glo_ok X G (c.fact 45 (f := .glo "NoLayer") rfl)
  gN := He.glo_ok X G (c.fact 46 (f := .glo "NoProp") rfl)
  gR := He.glo_ok X G (c.fact 47 (f := .glo "BadReach") rfl)
  gK := He.glo_ok X G (c.fact 48 (f := .glo "BadPlace") rfl)
  gT := He.glo_ok X G (c.fact 49 (f := .glo "BadText") rfl)
  gV := He.free_ok X G (c.fact 65 (f := .free "ValueError") rfl)
theorem kat_ofNoLayer (X : K.In h) (G : h.Ns mainGlobals mg) (c : He.SaysD fa defs K) (e : Ex1 K) : KindAt K (He.ga K "PrintError") (He.ga K "NoBody") (He.ga K "Outside") (He.ga K "NoLayer") (He.ga K "NoProp") (He.ga K "BadReach") (He.ga K "BadPlace") (He.ga K "BadText") (He.ga K "NoLayer") 2 where
  e := He.exm_ok (c.fact 75 (f := .exm "NoLayer" "PrintError" true) rfl)
  x := exc_ofNoLayer X G c e
  iB := e.k0NoLayer
  iO := e.k1NoLayer
  iL := e.k2NoLayer
  iN := e.k3NoLayer
  iR := e.k4NoLayer
  iK := e.k5NoLayer
  iT := e.k6NoLayer
  iV := e.k7NoLayer
theorem kat_ofBadReach (X : K.In h) (G : h.Ns mainGlobals mg) (c : He.SaysD fa defs K) (e : Ex1 K) : KindAt K (He.ga K "PrintError") (He.ga K "NoBody") (He.ga K "Outside") (He.ga K "NoLayer") (He.ga K "NoProp") (He.ga K "BadReach") (He.ga K "BadPlace") (He.ga K "BadText") (He.ga K "BadReach") 4 where
  e := He.exm_ok (c.fact 77 (f := .exm "BadReach" "PrintError" true) rfl)
  x := exc_ofBadReach X G c e
  iB := e.k0BadReach
  iO := e.k1BadReach
  iL := e.k2BadReach
  iN := e.k3BadReach
  iR := e.k4BadReach
  iK := e.k5BadReach
  iT := e.k6BadReach
  iV := e.k7BadReach
theorem fn_of' {x : Str} {st : Stmt} {ps : List Str} {fd : FuncData} (F : FunD K x x (defArgs st) (defBody st) (defScope st) [] [] (He.ga K x) fd) (m : mg x = some (.ref (He.ga K x)))
    (h : ∀ (kV doc pm : Value) (an : Option Addr) (cdv ct : Value) (us : List Value), us.length = ps.length → bindArgs (PySem.W.fnOf x x (defArgs st) (defBody st) (defScope st) .none kV doc pm an cdv ct) ⟨us, []⟩ = pure (ps.zip us)) : Fn K mg x (He.ga K x) fd ps :=
  ⟨F.kp, (fun_of F).binds h, m⟩
/-- what is asked of the heap at the law's call -/
def spLawA [LamTab] (K : PySem.W.Frag) (Pisrising Pistriple Parerisingcells Pheld Pisshown : Addr) : Sp := fun vs H Q _ => ∃ (a : Addr) (ns : List Int), vs = [.ref a] ∧ SqL K H a (ns.map V.int) ∧ ns.length ≤ 63 ∧ (TGen H Pisrising ∧ TGen H Pistriple ∧ TGen H Parerisingcells ∧ TGen H Pheld ∧ TGen H Pisshown ∧ LamX.TabS H LamTab.P LamTab.q) ∧ ∀ H', Q (.bl true) H'
theorem all_of (X : K.In h) (G : h.Ns mainGlobals mg) (c : He.SaysX fa defs [] tf ex w h K) : ∃ (lt : LamTab) (fd : FuncData), lt = ⟨(He.cT K ("law", none)).2, "law.<locals>.<lambda>", (He.cT K ("is_rising", none)).2⟩ ∧ (∀ (s : Shared) (u : Value), BindsTo s fd ⟨[u], []⟩ [("_law_script", u)]) ∧
    ∀ base : Heap, K.In base → base.Ns mainGlobals mg → (∀ p ∈ tf.map (He.cT K), LamX.TabB base mg p.1 p.2) → FnOk P w K mg base CX0 31 (He.ga K "law") fd ["_law_script"] (@spLawA lt K (He.cT K ("is_rising", none)).2 (He.cT K ("_is_triple", none)).2 (He.cT K ("_are_rising_cells", none)).2 (He.cT K ("_held", none)).2 (He.cT K ("_is_shown", none)).2) := by
  have d := c.t.d
  have e := ex1_of c.more
  have T := nm_of X G d e
  have U := nl_of X G d
  have Uh := nh_of X G d
  obtain ⟨d_isbody, F_isbody⟩ := d.def_ 0 (d := ⟨("is_body", none), "is_body", "is_body", defArgs sIsBody, defBody sIsBody, defScope sIsBody, [], []⟩) rfl
  have N_isbody := fn_of' (x := "is_body") (st := sIsBody) (ps := ["body"]) (mg := mg) F_isbody (He.glo_ok X G (d.fact 0 (f := .glo "is_body") rfl)) (fun _ _ _ _ _ _ us hl => match us, hl with | [_], _ => rfl)
  obtain ⟨d_cells, F_cells⟩ := d.def_ 1 (d := ⟨("cells", none), "cells", "cells", defArgs sCells, defBody sCells, defScope sCells, [], []⟩) rfl
  have N_cells := fn_of' (x := "cells") (st := sCells) (ps := ["body"]) (mg := mg) F_cells (He.glo_ok X G (d.fact 1 (f := .glo "cells") rfl)) (fun _ _ _ _ _ _ us hl => match us, hl with | [_], _ => rfl)
  obtain ⟨d_checklayer, F_checklayer⟩ := d.def_ 2 (d := ⟨("check_layer", none), "check_layer", "check_layer", defArgs sChk, defBody sChk, defScope sChk, [], []⟩) rfl
  have N_checklayer := fn_of' (x := "check_layer") (st := sChk) (ps := ["z"]) (mg := mg) F_checklayer (He.glo_ok X G (d.fact 2 (f := .glo "check_layer") rfl)) (fun _ _ _ _ _ _ us hl => match us, hl with | [_], _ => rfl)
  obtain ⟨d_isnumber, F_isnumber⟩ := d.def_ 3 (d := ⟨("is_number", none), "is_number", "is_number", defArgs sNum, defBody sNum, defScope sNum, [], []⟩) rfl
  have N_isnumber := fn_of' (x := "is_number") (st := sNum) (ps := ["value", "low", "high"]) (mg := mg) F_isnumber (He.glo_ok X G (d.fact 3 (f := .glo "is_number") rfl)) (fun _ _ _ _ _ _ us hl => match us, hl with | [_, _, _], _ => rfl)
  obtain ⟨d_isrising, F_isrising⟩ := d.def_ 4 (d := ⟨("is_rising", none), "is_rising", "is_rising", defArgs sRising, defBody sRising, defScope sRising, [], []⟩) rfl
  have N_isrising := fn_of' (x := "is_rising") (st := sRising) (ps := ["values"]) (mg := mg) F_isrising (He.glo_ok X G (d.fact 4 (f := .glo "is_rising") rfl)) (fun _ _ _ _ _ _ us hl => match us, hl with | [_], _ => rfl)
  obtain ⟨d_quarter, F_quarter⟩ := d.def_ 5 (d := ⟨("quarter", none), "quarter", "quarter", defArgs sQuarter, defBody sQuarter, defScope sQuarter, [], []⟩) rfl
  have N_quarter := fn_of' (x := "quarter") (st := sQuarter) (ps := ["edge", "held"]) (mg := mg) F_quarter (He.glo_ok X G (d.fact 5 (f := .glo "quarter") rfl)) (fun _ _ _ _ _ _ us hl => match us, hl with | [_, _], _ => rfl)
  obtain ⟨d_shifted, F_shifted⟩ := d.def_ 6 (d := ⟨("shifted", none), "shifted", "shifted", defArgs sShifted, defBody sShifted, defScope sShifted, [], []⟩) rfl
  have N_shifted := fn_of' (x := "shifted") (st := sShifted) (ps := ["far", "held"]) (mg := mg) F_shifted (He.glo_ok X G (d.fact 6 (f := .glo "shifted") rfl)) (fun _ _ _ _ _ _ us hl => match us, hl with | [_, _], _ => rfl)
  obtain ⟨d_isformed, F_isformed⟩ := d.def_ 7 (d := ⟨("_is_formed", none), "_is_formed", "_is_formed", defArgs sFormed, defBody sFormed, defScope sFormed, [], []⟩) rfl
  have N_isformed := fn_of' (x := "_is_formed") (st := sFormed) (ps := ["body"]) (mg := mg) F_isformed (He.glo_ok X G (d.fact 7 (f := .glo "_is_formed") rfl)) (fun _ _ _ _ _ _ us hl => match us, hl with | [_], _ => rfl)
  obtain ⟨d_placeswithin, F_placeswithin⟩ := d.def_ 8 (d := ⟨("_places_within", none), "_places_within", "_places_within", defArgs sPlaces, defBody sPlaces, defScope sPlaces, [], []⟩) rfl
  have N_placeswithin := fn_of' (x := "_places_within") (st := sPlaces) (ps := ["body"]) (mg := mg) F_placeswithin (He.glo_ok X G (d.fact 8 (f := .glo "_places_within") rfl)) (fun _ _ _ _ _ _ us hl => match us, hl with | [_], _ => rfl)
  obtain ⟨d_istriple, F_istriple⟩ := d.def_ 9 (d := ⟨("_is_triple", none), "_is_triple", "_is_triple", defArgs sTri, defBody sTri, defScope sTri, [], []⟩) rfl
  have N_istriple := fn_of' (x := "_is_triple") (st := sTri) (ps := ["value", "low", "high"]) (mg := mg) F_istriple (He.glo_ok X G (d.fact 9 (f := .glo "_is_triple") rfl)) (fun _ _ _ _ _ _ us hl => match us, hl with | [_, _, _], _ => rfl)
  obtain ⟨d_arerisingcells, F_arerisingcells⟩ := d.def_ 10 (d := ⟨("_are_rising_cells", none), "_are_rising_cells", "_are_rising_cells", defArgs sRise, defBody sRise, defScope sRise, [], []⟩) rfl
  have N_arerisingcells := fn_of' (x := "_are_rising_cells") (st := sRise) (ps := ["value"]) (mg := mg) F_arerisingcells (He.glo_ok X G (d.fact 10 (f := .glo "_are_rising_cells") rfl)) (fun _ _ _ _ _ _ us hl => match us, hl with | [_], _ => rfl)
  obtain ⟨d_held, F_held⟩ := d.def_ 11 (d := ⟨("_held", none), "_held", "_held", defArgs sHeld, defBody sHeld, defScope sHeld, [], []⟩) rfl
  have N_held := fn_of' (x := "_held") (st := sHeld) (ps := ["body"]) (mg := mg) F_held (He.glo_ok X G (d.fact 11 (f := .glo "_held") rfl)) (fun _ _ _ _ _ _ us hl => match us, hl with | [_], _ => rfl)
  obtain ⟨d_blockcells, F_blockcells⟩ := d.def_ 12 (d := ⟨("_block_cells", none), "_block_cells", "_block_cells", defArgs sBlock, defBody sBlock, defScope sBlock, [], []⟩) rfl
  have N_blockcells := fn_of' (x := "_block_cells") (st := sBlock) (ps := ["corner", "size"]) (mg := mg) F_blockcells (He.glo_ok X G (d.fact 12 (f := .glo "_block_cells") rfl)) (fun _ _ _ _ _ _ us hl => match us, hl with | [_, _], _ => rfl)
  obtain ⟨d_joined, F_joined⟩ := d.def_ 13 (d := ⟨("_joined", none), "_joined", "_joined", defArgs sJoined, defBody sJoined, defScope sJoined, [], []⟩) rfl
  have N_joined := fn_of' (x := "_joined") (st := sJoined) (ps := ["word", "first", "second"]) (mg := mg) F_joined (He.glo_ok X G (d.fact 13 (f := .glo "_joined") rfl)) (fun _ _ _ _ _ _ us hl => match us, hl with | [_, _, _], _ => rfl)
  obtain ⟨d_checkreach, F_checkreach⟩ := d.def_ 14 (d := ⟨("check_reach", none), "check_reach", "check_reach", defArgs sChkR, defBody sChkR, defScope sChkR, [], []⟩) rfl
  have N_checkreach := fn_of' (x := "check_reach") (st := sChkR) (ps := ["reach"]) (mg := mg) F_checkreach (He.glo_ok X G (d.fact 14 (f := .glo "check_reach") rfl)) (fun _ _ _ _ _ _ us hl => match us, hl with | [_], _ => rfl)
  obtain ⟨d_hangingcells, F_hangingcells⟩ := d.def_ 15 (d := ⟨("hanging_cells", none), "hanging_cells", "hanging_cells", defArgs sHangC, defBody sHangC, defScope sHangC, [], []⟩) rfl
  have N_hangingcells := fn_of' (x := "hanging_cells") (st := sHangC) (ps := ["held", "props", "reach"]) (mg := mg) F_hangingcells (He.glo_ok X G (d.fact 15 (f := .glo "hanging_cells") rfl)) (fun _ _ _ _ _ _ us hl => match us, hl with | [_, _, _], _ => rfl)
  obtain ⟨d_beside, F_beside⟩ := d.def_ 16 (d := ⟨("beside", none), "beside", "beside", defArgs sBeside, defBody sBeside, defScope sBeside, [], []⟩) rfl
  have N_beside := fn_of' (x := "beside") (st := sBeside) (ps := ["cell"]) (mg := mg) F_beside (He.glo_ok X G (d.fact 16 (f := .glo "beside") rfl)) (fun _ _ _ _ _ _ us hl => match us, hl with | [_], _ => rfl)
  obtain ⟨d_iscarried, F_iscarried⟩ := d.def_ 17 (d := ⟨("_is_carried", none), "_is_carried", "_is_carried", defArgs sCarried, defBody sCarried, defScope sCarried, [], []⟩) rfl
  have N_iscarried := fn_of' (x := "_is_carried") (st := sCarried) (ps := ["held", "cell"]) (mg := mg) F_iscarried (He.glo_ok X G (d.fact 17 (f := .glo "_is_carried") rfl)) (fun _ _ _ _ _ _ us hl => match us, hl with | [_, _], _ => rfl)
  obtain ⟨d_ways, F_ways⟩ := d.def_ 18 (d := ⟨("_ways", none), "_ways", "_ways", defArgs sWays, defBody sWays, defScope sWays, [], []⟩) rfl
  have N_ways := fn_of' (x := "_ways") (st := sWays) (ps := ["held", "props"]) (mg := mg) F_ways (He.glo_ok X G (d.fact 18 (f := .glo "_ways") rfl)) (fun _ _ _ _ _ _ us hl => match us, hl with | [_, _], _ => rfl)
  obtain ⟨d_shows, F_shows⟩ := d.def_ 19 (d := ⟨("shows", none), "shows", "shows", defArgs sShows, defBody sShows, defScope sShows, [], []⟩) rfl
  have N_shows := fn_of' (x := "shows") (st := sShows) (ps := ["body", "reach", "z", "many", "paper"]) (mg := mg) F_shows (He.glo_ok X G (d.fact 19 (f := .glo "shows") rfl)) (fun _ _ _ _ _ _ us hl => match us, hl with | [_, _, _, _, _], _ => rfl)
  obtain ⟨d_helps, F_helps⟩ := d.def_ 20 (d := ⟨("_helps", none), "_helps", "_helps", defArgs sHelps, defBody sHelps, defScope sHelps, [], []⟩) rfl
  have N_helps := fn_of' (x := "_helps") (st := sHelps) (ps := ["held", "reach", "z"]) (mg := mg) F_helps (He.glo_ok X G (d.fact 20 (f := .glo "_helps") rfl)) (fun _ _ _ _ _ _ us hl => match us, hl with | [_, _, _], _ => rfl)
  obtain ⟨d_within, F_within⟩ := d.def_ 21 (d := ⟨("_within", none), "_within", "_within", defArgs sWithin, defBody sWithin, defScope sWithin, [], []⟩) rfl
  have N_within := fn_of' (x := "_within") (st := sWithin) (ps := ["held", "cell", "reach"]) (mg := mg) F_within (He.glo_ok X G (d.fact 21 (f := .glo "_within") rfl)) (fun _ _ _ _ _ _ us hl => match us, hl with | [_, _, _], _ => rfl)
  obtain ⟨d_stillhanging, F_stillhanging⟩ := d.def_ 22 (d := ⟨("_still_hanging", none), "_still_hanging", "_still_hanging", defArgs sStill, defBody sStill, defScope sStill, [], []⟩) rfl
  have N_stillhanging := fn_of' (x := "_still_hanging") (st := sStill) (ps := ["helps", "prop"]) (mg := mg) F_stillhanging (He.glo_ok X G (d.fact 22 (f := .glo "_still_hanging") rfl)) (fun _ _ _ _ _ _ us hl => match us, hl with | [_, _], _ => rfl)
  obtain ⟨d_isshown, F_isshown⟩ := d.def_ 23 (d := ⟨("_is_shown", none), "_is_shown", "_is_shown", defArgs sIsShown, defBody sIsShown, defScope sIsShown, [], []⟩) rfl
  have N_isshown := fn_of' (x := "_is_shown") (st := sIsShown) (ps := ["helps", "many", "paper"]) (mg := mg) F_isshown (He.glo_ok X G (d.fact 23 (f := .glo "_is_shown") rfl)) (fun _ _ _ _ _ _ us hl => match us, hl with | [_, _, _], _ => rfl)
  obtain ⟨d_lawmix, F_lawmix⟩ := d.def_ 24 (d := ⟨("_law_mix", none), "_law_mix", "_law_mix", defArgs lMix, defBody lMix, defScope lMix, [], []⟩) rfl
  have N_lawmix := fn_of' (x := "_law_mix") (st := lMix) (ps := ["_law_script", "_law_seed"]) (mg := mg) F_lawmix (He.glo_ok X G (d.fact 24 (f := .glo "_law_mix") rfl)) (fun _ _ _ _ _ _ us hl => match us, hl with | [_, _], _ => rfl)
  obtain ⟨d_lawnext, F_lawnext⟩ := d.def_ 25 (d := ⟨("_law_next", none), "_law_next", "_law_next", defArgs lNext, defBody lNext, defScope lNext, [], []⟩) rfl
  have N_lawnext := fn_of' (x := "_law_next") (st := lNext) (ps := ["_law_h", "_law_many"]) (mg := mg) F_lawnext (He.glo_ok X G (d.fact 25 (f := .glo "_law_next") rfl)) (fun _ _ _ _ _ _ us hl => match us, hl with | [_, _], _ => rfl)
  obtain ⟨d_lawalike, F_lawalike⟩ := d.def_ 26 (d := ⟨("_law_alike", none), "_law_alike", "_law_alike", defArgs lAlike, defBody lAlike, defScope lAlike, [], []⟩) rfl
  have N_lawalike := fn_of' (x := "_law_alike") (st := lAlike) (ps := ["_law_found", "_law_due"]) (mg := mg) F_lawalike (He.glo_ok X G (d.fact 26 (f := .glo "_law_alike") rfl)) (fun _ _ _ _ _ _ us hl => match us, hl with | [_, _], _ => rfl)
  obtain ⟨d_lawinside, F_lawinside⟩ := d.def_ 27 (d := ⟨("_law_inside", none), "_law_inside", "_law_inside", defArgs lInside, defBody lInside, defScope lInside, [], []⟩) rfl
  have N_lawinside := fn_of' (x := "_law_inside") (st := lInside) (ps := ["_law_body_here", "_law_cell"]) (mg := mg) F_lawinside (He.glo_ok X G (d.fact 27 (f := .glo "_law_inside") rfl)) (fun _ _ _ _ _ _ us hl => match us, hl with | [_, _], _ => rfl)
  obtain ⟨d_lawall, F_lawall⟩ := d.def_ 28 (d := ⟨("_law_all", none), "_law_all", "_law_all", defArgs lAll, defBody lAll, defScope lAll, [], []⟩) rfl
  have N_lawall := fn_of' (x := "_law_all") (st := lAll) (ps := ["_law_body_here"]) (mg := mg) F_lawall (He.glo_ok X G (d.fact 28 (f := .glo "_law_all") rfl)) (fun _ _ _ _ _ _ us hl => match us, hl with | [_], _ => rfl)
  obtain ⟨d_lawbody, F_lawbody⟩ := d.def_ 29 (d := ⟨("_law_body", none), "_law_body", "_law_body", defArgs lBody, defBody lBody, defScope lBody, [], []⟩) rfl
  have N_lawbody := fn_of' (x := "_law_body") (st := lBody) (ps := ["_law_h", "_law_deep"]) (mg := mg) F_lawbody (He.glo_ok X G (d.fact 29 (f := .glo "_law_body") rfl)) (fun _ _ _ _ _ _ us hl => match us, hl with | [_, _], _ => rfl)
  obtain ⟨d_lawkind, F_lawkind⟩ := d.def_ 30 (d := ⟨("_law_kind", none), "_law_kind", "_law_kind", defArgs lKind, defBody lKind, defScope lKind, [], []⟩) rfl
  have N_lawkind := fn_of' (x := "_law_kind") (st := lKind) (ps := ["_law_work"]) (mg := mg) F_lawkind (He.glo_ok X G (d.fact 30 (f := .glo "_law_kind") rfl)) (fun _ _ _ _ _ _ us hl => match us, hl with | [_], _ => rfl)
  obtain ⟨d_lawbeside, F_lawbeside⟩ := d.def_ 31 (d := ⟨("_law_beside", none), "_law_beside", "_law_beside", defArgs lBeside, defBody lBeside, defScope lBeside, [], []⟩) rfl
  have N_lawbeside := fn_of' (x := "_law_beside") (st := lBeside) (ps := ["_law_some", "_law_cell"]) (mg := mg) F_lawbeside (He.glo_ok X G (d.fact 31 (f := .glo "_law_beside") rfl)) (fun _ _ _ _ _ _ us hl => match us, hl with | [_, _], _ => rfl)
  obtain ⟨d_lawfree, F_lawfree⟩ := d.def_ 32 (d := ⟨("_law_free", none), "_law_free", "_law_free", defArgs lFree, defBody lFree, defScope lFree, [], []⟩) rfl
  have N_lawfree := fn_of' (x := "_law_free") (st := lFree) (ps := ["_law_some"]) (mg := mg) F_lawfree (He.glo_ok X G (d.fact 32 (f := .glo "_law_free") rfl)) (fun _ _ _ _ _ _ us hl => match us, hl with | [_], _ => rfl)
  obtain ⟨d_lawways, F_lawways⟩ := d.def_ 33 (d := ⟨("_law_ways", none), "_law_ways", "_law_ways", defArgs lWays, defBody lWays, defScope lWays, [], []⟩) rfl
  have N_lawways := fn_of' (x := "_law_ways") (st := lWays) (ps := ["_law_some", "_law_begins"]) (mg := mg) F_lawways (He.glo_ok X G (d.fact 33 (f := .glo "_law_ways") rfl)) (fun _ _ _ _ _ _ us hl => match us, hl with | [_, _], _ => rfl)
  obtain ⟨d_lawlayer, F_lawlayer⟩ := d.def_ 34 (d := ⟨("_law_layer", none), "_law_layer", "_law_layer", defArgs lLayer, defBody lLayer, defScope lLayer, [], []⟩) rfl
  have N_lawlayer := fn_of' (x := "_law_layer") (st := lLayer) (ps := ["_law_some", "_law_z"]) (mg := mg) F_lawlayer (He.glo_ok X G (d.fact 34 (f := .glo "_law_layer") rfl)) (fun _ _ _ _ _ _ us hl => match us, hl with | [_, _], _ => rfl)
  obtain ⟨d_lawhung, F_lawhung⟩ := d.def_ 35 (d := ⟨("_law_hung", none), "_law_hung", "_law_hung", defArgs lHung, defBody lHung, defScope lHung, [], []⟩) rfl
  have N_lawhung := fn_of' (x := "_law_hung") (st := lHung) (ps := ["_law_layer_here", "_law_free_here", "_law_props", "_law_reach"]) (mg := mg) F_lawhung (He.glo_ok X G (d.fact 35 (f := .glo "_law_hung") rfl)) (fun _ _ _ _ _ _ us hl => match us, hl with | [_, _, _, _], _ => rfl)
  obtain ⟨d_lawnear, F_lawnear⟩ := d.def_ 36 (d := ⟨("_law_near", none), "_law_near", "_law_near", defArgs lNear, defBody lNear, defScope lNear, [], []⟩) rfl
  have N_lawnear := fn_of' (x := "_law_near") (st := lNear) (ps := ["_law_layer_here", "_law_free_here", "_law_cell", "_law_reach"]) (mg := mg) F_lawnear (He.glo_ok X G (d.fact 36 (f := .glo "_law_near") rfl)) (fun _ _ _ _ _ _ us hl => match us, hl with | [_, _, _, _], _ => rfl)
  obtain ⟨d_lawshown, F_lawshown⟩ := d.def_ 37 (d := ⟨("_law_shown", none), "_law_shown", "_law_shown", defArgs lShown, defBody lShown, defScope lShown, [], []⟩) rfl
  have N_lawshown := fn_of' (x := "_law_shown") (st := lShown) (ps := ["_law_layer_here", "_law_free_here", "_law_props", "_law_reach", "_law_many", "_law_paper_here"]) (mg := mg) F_lawshown (He.glo_ok X G (d.fact 37 (f := .glo "_law_shown") rfl)) (fun _ _ _ _ _ _ us hl => match us, hl with | [_, _, _, _, _, _], _ => rfl)
  obtain ⟨d_lawpaper, F_lawpaper⟩ := d.def_ 38 (d := ⟨("_law_paper", none), "_law_paper", "_law_paper", defArgs lPaper, defBody lPaper, defScope lPaper, [], []⟩) rfl
  have N_lawpaper := fn_of' (x := "_law_paper") (st := lPaper) (ps := ["_law_h", "_law_layer_here", "_law_free_here", "_law_props", "_law_reach", "_law_many"]) (mg := mg) F_lawpaper (He.glo_ok X G (d.fact 38 (f := .glo "_law_paper") rfl)) (fun _ _ _ _ _ _ us hl => match us, hl with | [_, _, _, _, _, _], _ => rfl)
  obtain ⟨d_lawturned, F_lawturned⟩ := d.def_ 39 (d := ⟨("_law_turned", none), "_law_turned", "_law_turned", defArgs lTurned, defBody lTurned, defScope lTurned, [], []⟩) rfl
  have N_lawturned := fn_of' (x := "_law_turned") (st := lTurned) (ps := ["_law_h", "_law_paper_here"]) (mg := mg) F_lawturned (He.glo_ok X G (d.fact 39 (f := .glo "_law_turned") rfl)) (fun _ _ _ _ _ _ us hl => match us, hl with | [_, _], _ => rfl)
  obtain ⟨d_lawcopied, F_lawcopied⟩ := d.def_ 40 (d := ⟨("_law_copied", none), "_law_copied", "_law_copied", defArgs lCopied, defBody lCopied, defScope lCopied, [], []⟩) rfl
  have N_lawcopied := fn_of' (x := "_law_copied") (st := lCopied) (ps := ["_law_paper_here"]) (mg := mg) F_lawcopied (He.glo_ok X G (d.fact 40 (f := .glo "_law_copied") rfl)) (fun _ _ _ _ _ _ us hl => match us, hl with | [_], _ => rfl)
  obtain ⟨d_law, F_law⟩ := d.def_ 41 (d := ⟨("law", none), "law", "law", defArgs lLaw, defBody lLaw, defScope lLaw, [], []⟩) rfl
  have N_law := fn_of' (x := "law") (st := lLaw) (ps := ["_law_script"]) (mg := mg) F_law (He.glo_ok X G (d.fact 41 (f := .glo "law") rfl)) (fun _ _ _ _ _ _ us hl => match us, hl with | [_], _ => rfl)
  refine ⟨⟨(He.cT K ("law", none)).2, "law.<locals>.<lambda>", (He.cT K ("is_rising", none)).2⟩, d_law, rfl, fun s u => FunD.bindsA (ps := ["_law_script"]) F_law (fun _ _ _ _ _ _ us hl => match us, hl with | [_], _ => rfl) s [u] rfl, fun base KB GB TB => ?_⟩
  letI : LamTab := ⟨(He.cT K ("law", none)).2, "law.<locals>.<lambda>", (He.cT K ("is_rising", none)).2⟩
  have tb : ∀ p ∈ tf, GxR.TabB base mg (He.cT K p).1 (He.cT K p).2 := fun p hp => by
    have t := TB _ (List.mem_map.mpr ⟨p, hp, rfl⟩)
    exact ⟨t.code, t.bm, t.gP⟩
  have g_num := ok_num (P := P) (w := w) (base := base) (fun_of F_isnumber) T
  have g_tri := ok_tri (base := base) (funC_of (p := ("_is_triple", none)) F_istriple) (tb _ (by simp [tf])) T N_isnumber g_num
  have g_rising := ok_rising (P := P) (w := w) (base := base) (funC_of (p := ("is_rising", none)) F_isrising) (tb _ (by simp [tf])) T
  have g_rise := ok_rise (base := base) (funC_of (p := ("_are_rising_cells", none)) F_arerisingcells) (tb _ (by simp [tf])) T N_istriple g_tri N_isrising g_rising
  have g_form := ok_form (fun_of F_isformed) T N_istriple g_tri N_arerisingcells g_rise
  have g_places := ok_places (P := P) (w := w) (base := base) (fun_of F_placeswithin) T
  have g_isbody := ok_isbody (fun_of F_isbody) T N_isformed g_form N_placeswithin g_places
  have g_quarter := ok_quarter (P := P) (w := w) (base := base) (fun_of F_quarter) T
  have g_shifted := ok_shifted (P := P) (w := w) (mg := mg) (base := base) (fun_of F_shifted)
  have g_block := ok_block (P := P) (w := w) (base := base) (fun_of F_blockcells) T
  have g_joined := ok_joined (P := P) (W0 := w) (base := base) (fun_of F_joined) T
  have g_held := ok_held (base := base) (funC_of (p := ("_held", none)) F_held) (tb _ (by simp [tf])) T ⟨N_istriple, g_tri, N_blockcells, g_block, N_shifted, g_shifted, N_quarter, g_quarter, N_joined, g_joined⟩ N_held 20
  have g_cells := ok_cells (fun_of F_cells) N_isbody g_isbody N_held g_held
  have g_chk := ok_chk (P := P) (W0 := w) (base := base) (fun_of F_checklayer) T (ex_ofNoLayer X G d) N_isnumber g_num
  have g_mix := ok_mix (P := P) (W0 := w) (base := base) (fun_of F_lawmix) T
  have g_next := ok_next (P := P) (W0 := w) (base := base) (fun_of F_lawnext) T U
  have g_alike := ok_alike (P := P) (W0 := w) (base := base) (fun_of F_lawalike) T U N_lawalike 10
  have g_inside := ok_inside (P := P) (W0 := w) (base := base) (fun_of F_lawinside) T N_lawinside 20
  have g_all := ok_all (fun_of F_lawall) T N_lawinside g_inside
  have g_body := ok_lbody (fun_of F_lawbody) T U N_lawbody N_lawnext g_next N_lawall g_all 5
  have g_chklay := ok_chk (fun_of F_checklayer) T (ex_ofNoLayer X G d) N_isnumber g_num
  have g_reach := ok_chkr (P := P) (W0 := w) (base := base) (fun_of F_checkreach) Uh (ex_ofBadReach X G d) N_isnumber g_num
  have g_beside := ok_beside (P := P) (W0 := w) (base := base) (mg := mg) (fun_of F_beside)
  have g_carried := ok_carried (P := P) (W0 := w) (base := base) (mg := mg) (fun_of F_iscarried)
  have g_ways := ok_ways (fun_of F_ways) T N_iscarried g_carried N_beside g_beside
  have g_hangc := ok_hangc (fun_of F_hangingcells) N_ways g_ways
  have g_within := ok_within (fun_of F_within) T N_beside g_beside
  have g_helps := ok_helps (fun_of F_helps) N_hangingcells g_hangc N_within g_within
  have g_still := ok_still (P := P) (W0 := w) (base := base) (mg := mg) (fun_of F_stillhanging)
  have g_shown := ok_shown (base := base) (funC_of (p := ("_is_shown", none)) F_isshown) (tb _ (by simp [tf])) T (nozip X G d) N_stillhanging g_still N_isshown 6
  have g_shows := ok_shows (fun_of F_shows) N_cells g_cells N_checkreach g_reach N_checklayer g_chklay N_helps g_helps N_isshown g_shown
  have g_lbes := ok_lbes (P := P) (W0 := w) (base := base) (mg := mg) (fun_of F_lawbeside)
  have g_lfree := ok_lfree (P := P) (W0 := w) (base := base) (mg := mg) (fun_of F_lawfree)
  have g_lways := ok_lways (fun_of F_lawways) T U Uh N_lawbeside g_lbes
  have g_llay := ok_llayer (fun_of F_lawlayer) N_lawfree g_lfree
  have g_lhung := ok_lhung (fun_of F_lawhung) N_lawways g_lways
  have g_lnear := ok_lnear (fun_of F_lawnear) N_lawways g_lways
  have g_lshown := ok_lshown (fun_of F_lawshown) T N_lawhung g_lhung N_lawnear g_lnear N_lawshown 5
  have g_lpaper := ok_lpaper (fun_of F_lawpaper) T N_lawnext g_next N_lawhung g_lhung N_lawnear g_lnear N_lawpaper 4
  have g_lturned := ok_lturnedp (fun_of F_lawturned) T U N_lawnext g_next N_lawturned 8
  have g_lcop := ok_lcop (P := P) (W0 := w) (base := base) (fun_of F_lawcopied) N_lawcopied 8
  obtain ⟨oc, od, dV, kV, doc, pm, an, cdv, ct, osl, ek, lk, hcd, hD, hK⟩ := F_lawkind.ex
  subst ek
  let F0 : LF6 P w K mg base := { fM := _, fX := _, fA := _, fL := _, fB := _, fF := _, fy := _, fs := _, fp := _, ft := _, fc := _, fw := _, dM := _, dX := _, dA := _, dL := _, dB := _, dF := _, dy := _, ds := _, dp := _, dt := _, dc := _, dw := _, Pt := (He.cT K ("_is_triple", none)).2, Pr := (He.cT K ("_are_rising_cells", none)).2, Ph := (He.cT K ("_held", none)).2, Pg := (He.cT K ("_is_shown", none)).2, nM := N_lawmix, gM := g_mix, nX := N_lawnext, gX := g_next, nA := N_lawalike, gA := g_alike, nL := N_lawall, gL := g_all, nB := N_lawbody, gB := g_body, nF := N_lawfree, gF := g_lfree, ny := N_lawlayer, gy := g_llay, ns := N_lawshown, gs := g_lshown, np := N_lawpaper, gp := g_lpaper, nt := N_lawturned, gt := g_lturned, nc := N_lawcopied, gc := g_lcop, T := T, U := U, k := { CP := _, CB := _, CO := _, CL := _, CN := _, CR := _, CK := _, CT := _, n := kindn_of X G d, fK := _, dVK := _, kVK := _, docK := _, pmK := _, cdvK := _, ctK := _, ocK := _, anK := _, odK := _, oslK := _, mK := N_lawkind.m, kK := N_lawkind.kp, lK := lk, cK := hcd, bK := N_lawkind.b }, aR := kat_ofBadReach X G d e, aL := kat_ofNoLayer X G d e, nw := N_shows, gw := g_shows }
  have gl := ok_law6 F0 (funC_of (p := ("law", none)) F_law) (TB _ (List.mem_map.mpr ⟨("law", none), by simp [tf], rfl⟩)) rfl
  exact gl.imp fun vs H Q E ⟨a, ns, e, hs, hl, ⟨tisrising, tistriple, tarerisingcells, theld, tisshown, tlam⟩, q⟩ => ⟨a, ns, e, hs, hl, ⟨⟨tistriple, ⟨tarerisingcells, tisrising⟩, theld⟩, tisshown, tlam⟩, q⟩
end
end LP
end

section
set_option Elab.async false
set_option linter.all false
set_option maxRecDepth 100000
set_option maxHeartbeats 0
namespace LP
open PySem PySem.Spec PyProof.Rows L2
abbrev R : PySem.W.OpenRow := PySem.W.OpenLaw.row PySem.Challenge.rw_layerprint_k06_papers_judged
abbrev theHook : PySem.W.Hook := He.hookX 6 fa defs [] tf ex
def theOb (s : PySem.W.SharedT) : He.AlX := He.obsX 6 fa defs [] tf ex (HandSHeadRun.getT s)
theorem theOb_eq (s : PySem.W.SharedT) : theOb s = theHook.obs s.abs := He.obsX_eq (HandSHeadRun.getT_eq s)
def names : List PySem.Str := [("PrintError" : PySem.Str), ("NoBody" : PySem.Str), ("Outside" : PySem.Str), ("NoLayer" : PySem.Str), ("NoProp" : PySem.Str), ("BadReach" : PySem.Str), ("BadPlace" : PySem.Str), ("BadText" : PySem.Str), ("SIDE" : PySem.Str), ("LAST" : PySem.Str), ("MOST_BODIES" : PySem.Str), ("EDGES" : PySem.Str), ("JOINS" : PySem.Str), ("is_body" : PySem.Str), ("cells" : PySem.Str), ("check_layer" : PySem.Str), ("is_number" : PySem.Str), ("is_rising" : PySem.Str), ("quarter" : PySem.Str), ("shifted" : PySem.Str), ("_is_formed" : PySem.Str), ("_places_within" : PySem.Str), ("_is_triple" : PySem.Str), ("_are_rising_cells" : PySem.Str), ("_held" : PySem.Str), ("_block_cells" : PySem.Str), ("_joined" : PySem.Str), ("FARTHEST" : PySem.Str), ("check_reach" : PySem.Str), ("hanging_cells" : PySem.Str), ("beside" : PySem.Str), ("_is_carried" : PySem.Str), ("_ways" : PySem.Str), ("shows" : PySem.Str), ("_helps" : PySem.Str), ("_within" : PySem.Str), ("_still_hanging" : PySem.Str), ("_is_shown" : PySem.Str), ("_law_mix" : PySem.Str), ("_law_next" : PySem.Str), ("_law_alike" : PySem.Str), ("_law_inside" : PySem.Str), ("_law_all" : PySem.Str), ("_law_body" : PySem.Str), ("_law_kind" : PySem.Str), ("_law_beside" : PySem.Str), ("_law_free" : PySem.Str), ("_law_ways" : PySem.Str), ("_law_layer" : PySem.Str), ("_law_hung" : PySem.Str), ("_law_near" : PySem.Str), ("_law_shown" : PySem.Str), ("_law_paper" : PySem.Str), ("_law_turned" : PySem.Str), ("_law_copied" : PySem.Str)]
theorem run (w : World) : HandSHeadRun.RunEq R (PySem.W.view R.prog [60]) theHook theOb 6000 names w := by
  intro os
  kernel_rfl
end LP
end

section
set_option Elab.async false
set_option linter.all false
set_option maxRecDepth 100000
set_option maxHeartbeats 0
namespace LP
open PySem PySem.Spec PyProof.Rows L2
theorem law_at {w : World} {K : PySem.W.Frag} {h : Heap} {mg : Str → Option Value} {f : Addr} (X : K.In h) (G : h.Ns mainGlobals mg) (hf : mg "law" = some (.ref f)) (c : He.SaysX fa defs [] tf ex w h K) : LamX.LawAtS PySem.Challenge.rw_layerprint_k06_papers_judged w K L2.CX0 31 63 "_law_script" mg f h := by
  obtain ⟨lt, fd, elt, hb, hF⟩ := all_of (P := (PySem.Challenge.rw_layerprint_k06_papers_judged).prog) X G c
  have ef := hf.symm.trans (He.glo_ok X G (c.t.d.fact 41 (f := .glo "law") rfl))
  cases ef
  subst elt
  have e := ex1_of c.more
  letI : LamTab := ⟨(He.cT K ("law", none)).2, "law.<locals>.<lambda>", (He.cT K ("is_rising", none)).2⟩
  have key : ∀ {A : Addr × Addr → Prop}, (∀ p ∈ tf, A (He.cT K p)) → ∀ p ∈ tf.map (He.cT K), A p := fun hA p hp => by
    obtain ⟨q, hq, rfl⟩ := List.mem_map.mp hp
    exact hA q hq
  refine ⟨fd, tf.map (He.cT K), _, key (fun p hp => c.empty p hp), key (fun p hp => c.out p hp), key (fun p hp => PySem.W.codeHd_of_K X (c.hd p hp)), hb, ?_, hF⟩
  intro H a ns hl _ hT hS
  have tt : ∀ p ∈ tf, H (He.cT K p).2 = some (.tbl #[]) := fun p hp => hT _ (List.mem_map.mpr ⟨p, hp, rfl⟩)
  have tg : ∀ p ∈ tf, GxR.TabG H (He.cT K p).2 := fun p hp => ⟨#[], tt p hp, True.intro⟩
  exact ⟨a, ns, rfl, hS, hl, ⟨⟨tg _ (by simp [tf]), e.disrising⟩, ⟨tg _ (by simp [tf]), e.distriple⟩, ⟨tg _ (by simp [tf]), e.darerisingcells⟩, ⟨tg _ (by simp [tf]), e.dheld⟩, ⟨tg _ (by simp [tf]), e.disshown⟩, LamX.TabS.nil (tt _ (by simp [tf]))⟩, fun _ => rfl⟩
end LP
end

section
set_option Elab.async false
set_option linter.all false
set_option maxRecDepth 100000
set_option maxHeartbeats 0
open PySem PySem.W PySem.Calls PyProof.Rows
theorem PySem.Challenge.cw_layerprint_k06_papers_judged_holds : PySem.Challenge.rw_layerprint_k06_papers_judged.Holds := by
  w_on; o_law
  refine HandSHeadRun.head_any (r := OpenLaw.row PySem.Challenge.rw_layerprint_k06_papers_judged) (q := view (OpenLaw.row PySem.Challenge.rw_layerprint_k06_papers_judged).prog [60]) (H := LP.theHook) (ob := LP.theOb) (M := 6000) (loose := LP.names) (d := HandSHeadRun.topDef (OpenLaw.row PySem.Challenge.rw_layerprint_k06_papers_judged).prog 60) (kwd := []) LP.theOb_eq
    (by kernel_rfl) (fun s => by kernel_rfl) LP.run (by kernel_rfl) (by kernel_rfl) (by kernel_rfl) (by rfl) (by first | assumption | decide +kernel) (by decide +kernel) ⟨rfl, rfl, rfl, rfl, rfl, by decide +kernel⟩ ?hw ?hc
  case hw => w_witness2
  case hc =>
    refine LamX.walk_ofTsE (l := PySem.Challenge.rw_layerprint_k06_papers_judged) (n := 63) (k := 31) (x := "_law_script") (CX := fun _ => L2.CX0) rfl (by decide) (by kernel_rfl) ⟨rfl, by decide, by decide⟩ ?F (fun _ _ _ _ _ z => z)
    intro w mg fa h Y G hmg0
    obtain ⟨K, KX, c⟩ := Y
    have hmg : mg ("law" : PySem.Str) = some (.ref fa) := by
      have e : (HandSHeadRun.topDef (OpenLaw.row PySem.Challenge.rw_layerprint_k06_papers_judged).prog 60).name = ("law" : PySem.Str) := by kernel_rfl
      rw [← e]
      exact hmg0
    exact ⟨K, KX, LP.law_at KX G hmg c⟩
end
