import PyProof.Rows.All
import Wide.All
import OpenK.AllK
import Wide.FinOn
import HandS.ForMost
import HandS.GenList
import HandS.AnyAll
import HandS.JoinGen
import PyProof.CollectWalk
import PyProof.TupleOfGen
import HandS.TupSets
import HandS.Deep
import KE.SortData
import PyProof.WalksMore
import PyProof.FactsAll.subtypes_4
import HandS.SortKw
import KE.DatumOrd
import HandS.Wide
import HandS.IsInst
import HandS.Lambda
import HandS.Flow
import HandS.ForExc
import PySem.Challenge.RW_layerprint_k03_whole_turnings
import HandS.DictComp
import KE.KDictKeyed
import KE.GoesSet
import KE.KDictPairs
import HandS.Iter
import HandS.Walk
import HandS.TupLen
import PyProof.Transfer
import HandS.Head0
import HandS.Head1
import HandS.Head2
import HandS.HeadEnd
import HandS.HeadHook1
import HandS.HeadHook2
import HandS.HeadHook3
import HandS.HeadHook4
import HandS.HeadWalk
import HandS.EndTab
section
set_option Elab.async false
set_option linter.all false
set_option maxRecDepth 100000
set_option maxHeartbeats 2000000
/-! Generator expressions whose element is any expression of the layer: all(..), tuple(..), sep.join(..) of them. -/
namespace GX
open PySem PySem.Spec PyProof.Rows L2 GenW

/-- the names of a generator expression: its own x (and the walked thing), or captured ones of the def -/
structure GOk (N : List Str) (sc scope : Scope) (x : Str) : Prop where
  kind : scope.kind = .function
  co : scope.isCoroutine = false
  nocell : ∀ y ∈ scope.names, y.2 ≠ .cell
  dot : scope.names.lookup (".0" : Str) = some NameKind.local
  loc : scope.names.lookup x = some .local
  uniq : ∀ y ∈ scope.names, scope.names.lookup y.1 = some y.2
  free : ∀ y ∈ scope.names, y.2 = .free → sc.names.lookup y.1 = some .cell ∨ sc.names.lookup y.1 = some .free
  own : ∀ y ∈ scope.names, y.2 = .local → y.1 ∉ N
  xd : x ≠ ".0"

/-- the context of a generator expression's frame -/
def gcx (X : Cx) (scope : Scope) (x : Str) (A : Around) (s : Shared) (H : Hp) (C : Addr) (code : Value) (fp : List Addr) : Cx where
  prog := X.prog
  w := X.w
  K := X.K
  mg := X.mg
  base := X.base
  A := A.deeper (genEnv scope (cloFrom X.env.cells scope.names []) C code builtinsNs X.env)
  N := X.N ++ [x]
  s_0 := s
  H_0 := H
  env := genEnv scope (cloFrom X.env.cells scope.names []) C code builtinsNs X.env
  outer := X.stack
  stack := genEnv scope (cloFrom X.env.cells scope.names []) C code builtinsNs X.env :: X.stack
  ex := fp
  fn := fun _ => false
  calm := true
  pn := []
  xe := fun _ _ => False

theorem over_loop_gen {A : Around} {elt : Expr} {gs : List Comprehension} {scope : Scope} {pos : Pos} {it acc : Value} {env : Env} : A.over (.compLoop (.GeneratorExp elt gs scope pos) 0 it acc env) [] = A.deeper env := by
  first
    | rfl
    | (obtain ⟨hd, d, fr, gs, u⟩ := A; simp [Around.over, Around.deeper, marksOver, frameCount, unitsOf, envsOf, guardsOf, pushEnvs, pushGuards, Code.envs, Code.env?, Code.isFrame, Code.guards, Code.isGuard, Code.weight, Code.frames, Code.isCreation, Code.isCaller, Code.cUnits])
theorem over_start_gen {A : Around} {elt : Expr} {gs : List Comprehension} {scope : Scope} {pos : Pos} {it acc : Value} {env : Env} : A.over (.compStart (.GeneratorExp elt gs scope pos) 0 it acc env) [] = A.deeper env := by
  first
    | rfl
    | (obtain ⟨hd, d, fr, gs, u⟩ := A; simp [Around.over, Around.deeper, marksOver, frameCount, unitsOf, envsOf, guardsOf, pushEnvs, pushGuards, Code.envs, Code.env?, Code.isFrame, Code.guards, Code.isGuard, Code.weight, Code.frames, Code.isCreation, Code.isCaller, Code.cUnits])

section
variable {X : Cx} {pins : List (Addr × Obj)} {σ : L2.St} {H : Hp} {s : Shared}
theorem gen_start {scope : Scope} {x : Str} {A : Around} {code : Value} {fp : List Addr} {s' : Shared} {it : Value} (I : Inv X pins σ H s) (ok : GOk X.N X.env.scope scope x) (hfp : ∀ b ∈ fp, FpOk X pins H b ∧ b < s.heap.objs.size)
    (hh : A.handled = none) (hfr : A.frames = some X.stack) (hos : s'.os = s.os) (hb : AllBare s'.gens) (kp : ∀ b o, s.heap.get? b = some o → s'.heap.get? b = some o)
    (hn : s'.heap.Ns s.heap.objs.size (fun y => if y = ".0" then some it else none)) :
    Inv (gcx X scope x A s H s.heap.objs.size code fp) [] (σ ++ [none]) H s' := by
  have hfree : ∀ y ∈ scope.names, y.2 = .free → ∃ c, X.env.cells.lookup y.1 = some c := fun y hy e => by
    rcases ok.free y hy e with k | k
    · exact I.ok.has _ (.inl k)
    · exact I.ok.has _ (.inr k)
  have cm : ∀ {y c}, (y, c) ∈ cloFrom X.env.cells scope.names [] → X.env.cells.lookup y = some c ∧ c < s.heap.objs.size := fun {y c} hm => by
    rcases cloFrom_mem hm with hm | ⟨h1, rfl⟩
    · cases hm
    · obtain ⟨c, hc⟩ := hfree _ h1 rfl
      rw [hc]
      obtain ⟨w, z⟩ := I.cell _ _ hc
      exact ⟨rfl, z.lt⟩
  have cl : ∀ {y c}, (cloFrom X.env.cells scope.names []).lookup y = some c → X.env.cells.lookup y = some c ∧ c < s.heap.objs.size := fun {y c} e => cm (PySem.mem_of_lookup e)
  have look : ∀ {y}, scope.names.lookup y = some .free → ∃ c, (cloFrom X.env.cells scope.names []).lookup y = some c ∧ X.env.cells.lookup y = some c := fun {y} hl => by
    have hy : (y, NameKind.free) ∈ scope.names := PySem.mem_of_lookup hl
    obtain ⟨c', e'⟩ := mem_lookup (cloFrom_has (cells := X.env.cells) (acc := []) hy)
    exact ⟨c', e', (cl e').1⟩
  have okB : (gcx X scope x A s H s.heap.objs.size code fp).Ok := by
    refine ⟨I.ok.mod, ok.kind, I.ok.glob, rfl, Nat.le_refl _, fun y z c e1 e2 => I.ok.inj y z c (cl e1).1 (cl e2).1, fun y hy => ?_, fun y c z _ => ?_, fun _ => hh, Around.frames_deeper hfr, .inr ⟨rfl, rfl⟩,
      fun b hb => ⟨Nat.ne_of_lt (hfp b hb).2, fun y c e => (hfp b hb).1.2.2.2.2.1 y c (cl e).1⟩, I.bs, Nat.le_trans I.ok.bsz I.sz, fun b o e hb => ?_, fun b hb z => ?_, I.stack, I.stkFree⟩
    · have hy : scope.names.lookup y = some .cell ∨ scope.names.lookup y = some .free := hy
      rcases hy with hy | hy
      · exact absurd rfl (ok.nocell _ (PySem.mem_of_lookup hy))
      · obtain ⟨c, h1, _⟩ := look hy
        exact ⟨c, h1⟩
    · exact absurd (show (false : Bool) = true from z) Bool.false_ne_true
    · rcases (hfp b hb).1.2.2.2.1 with z | z
      · exact I.ok.noex b o e z
      · exact absurd (Nat.lt_of_lt_of_le (Heap.lt_size e) (Nat.le_trans I.ok.bsz z)) (Nat.lt_irrefl _)
    · rcases List.mem_cons.mp (I.stkSub b z) with z | z
      · exact (hfp b hb).1.2.1 z
      · exact (hfp b hb).1.2.2.1 z
  refine ⟨okB, hos, hb, Un.kept kp, ⟨_, hn, fun i y v e1 e2 e3 => ?_⟩, fun y c e => ?_, I.hok.fresh (Nat.le_refl _), fun y c e => I.freeC y c (cl e).1, fun p hp => absurd (show p ∈ ([] : List (Addr × Obj)) ++ [] from hp) (by simp), I.hok.kept kp, ?_⟩
  · have e1 : (X.N ++ [x])[i]? = some y := e1
    have hl : σ.length = X.N.length := I.len
    have hi : i < σ.length := by
      rcases Nat.lt_or_ge i σ.length with h | h
      · exact h
      · rw [List.getElem?_append_right h] at e2
        rcases Nat.eq_zero_or_pos (i - σ.length) with z | z
        · rw [z] at e2; cases e2
        · rw [List.getElem?_eq_none (by simp; omega)] at e2; cases e2
    rw [List.getElem?_append_left (by omega)] at e1
    rw [List.getElem?_append_left hi] at e2
    have hyN : y ∈ X.N := List.mem_of_getElem? e1
    have hf : scope.names.lookup y = some .free := by
      have e3 : Vis scope y := e3
      rcases e3 with e3 | e3 | e3
      · exact absurd hyN (ok.own _ (PySem.mem_of_lookup e3) rfl)
      · exact absurd rfl (ok.nocell _ (PySem.mem_of_lookup e3))
      · exact e3
    obtain ⟨m, hn', hl'⟩ := I.loc
    have hsc := ok.free _ (PySem.mem_of_lookup hf) rfl
    have hvis : Vis X.env.scope y := hsc.elim (fun k => .inr (.inl k)) (fun k => .inr (.inr k))
    obtain ⟨w, r, q⟩ := hl' i y v e1 e2 hvis
    refine ⟨w, r, .inr ⟨.inr hf, ?_⟩⟩
    obtain ⟨c, h1, h2⟩ := look hf
    rcases q with ⟨k, _⟩ | ⟨_, c', e', z⟩
    · have k : X.env.scope.names.lookup y = some .local := k
      rcases hsc with k' | k' <;> rw [show X.env.scope.names.lookup y = _ from k'] at k <;> cases k
    · rw [h2] at e'; cases e'
      exact ⟨c, h1, z.keeps kp⟩
  · obtain ⟨w, z⟩ := I.cell y c (cl e).1
    exact ⟨w, z.keeps kp⟩
  · show (σ ++ [none]).length = (X.N ++ [x]).length
    have hl : σ.length = X.N.length := I.len
    simp [hl]
end

/-- while the generator sleeps: what stands at S may change, all else is kept -/
structure Slept (S : List Addr) (s s' : Shared) : Prop where
  os : s'.os = s.os
  bare : AllBare s'.gens
  keep : ∀ b o, b ∉ S → s.heap.get? b = some o → s'.heap.get? b = some o
  there : ∀ b ∈ S, ∃ o, s'.heap.get? b = some o ∧ ∀ v, o.data ≠ .cell v

/-- what the generator's run leans on: X' its context, a its object, fp its iterator's objects -/
structure GX1 (X' : Cx) (S : List Addr) (a : Addr) (fp : List Addr) : Prop where
  apart : ∀ b ∈ S, X'.s_0.heap.objs.size ≤ b ∧ b ≠ X'.env.locals ∧ (∀ x c, X'.env.cells.lookup x = some c → c ≠ b) ∧ b ≠ a ∧ b ∉ fp ∧ b ∉ X'.fs
  pn : X'.pn = []
section
variable {X' : Cx} {S : List Addr} {a : Addr} {go : Obj} {fp : List Addr} {σ : L2.St} {H : Hp} {s s' s₀ : Shared}
theorem woken (g : GX1 X' S a fp) (I : Inv X' ((a, go) :: pinsAt S s₀.heap) σ H s) (hS0 : ∀ b ∈ S, ∃ o, s₀.heap.get? b = some o) (z : Slept S s s') :
    Inv X' ((a, go) :: pinsAt S s'.heap) σ H s' := by
  have hSH : ∀ b ∈ S, H b = none := fun b hb => by
    obtain ⟨o, e⟩ := hS0 b hb
    exact (I.pin (b, o) (List.mem_append_right _ (List.mem_cons_of_mem _ (mem_pinsAt hb e)))).2.1
  have ha := I.pin (a, go) (List.mem_append_right _ List.mem_cons_self)
  have I0 : Inv X' [(a, go)] σ H s := I.pins_of fun p hp => by
    rw [List.mem_singleton.mp hp]
    exact ha
  have nt : ∀ b u, H b = some u → b ∉ S := fun b u q hb => by rw [hSH b hb] at q; cases q
  have nc : ∀ x c, X'.env.cells.lookup x = some c → c ∉ S := fun x c e hc => (g.apart c hc).2.2.1 x c e rfl
  have J : Inv X' [(a, go)] σ H s' := by
    obtain ⟨hh, gg, d, t, o⟩ := s'
    have ho : o = s.os := z.os
    subst ho
    refine I0.step (g' := gg) (t' := t) (d' := d) (ch := S) (fun b hb => ⟨.inr (g.apart b hb).1, (g.apart b hb).2.1, (g.apart b hb).2.2.1, fun p hp => ?_⟩)
      (fun b ob _ _ hc q _ => z.keep b ob hc q) (fun b ob _ _ hc q _ => ⟨ob.slots, z.keep b ob hc q⟩) (fun _ _ _ _ n => n) (fun b ob hc q => ⟨ob, z.keep b ob hc q⟩)
      (fun _ _ q => q) (fun _ _ _ q => q) (fun b ps q => ⟨#[], by rw [q]; simp⟩) (fun m hm => ?_) (fun b u q => ?_) z.bare
    · rw [g.pn] at hp
      rw [List.mem_singleton.mp hp]
      exact Ne.symm (g.apart b hb).2.2.2.1
    · obtain ⟨ob, es, ep, ho, r⟩ := hm
      exact ⟨ob, es, ep, z.keep _ ob (fun hb => (g.apart _ hb).2.1 rfl) ho, r⟩
    · refine (I0.hok b u q).stay (fun c v hc y => z.keep c v ?_ y) (fun _ y => y) fun _ _ y => y
      rcases hc with y | y
      · rw [y]; exact nt b u q
      · exact nt c _ y
  refine J.pins_of fun p hp => ?_
  rcases List.mem_cons.mp hp with hp | hp
  · rw [hp]
    exact J.pin (a, go) (List.mem_append_right _ List.mem_cons_self)
  · obtain ⟨hb, e⟩ := of_pinsAt hp
    obtain ⟨o, e', d⟩ := z.there _ hb
    rw [e] at e'; cases e'
    exact ⟨e, hSH _ hb, (g.apart _ hb).2.1, (g.apart _ hb).2.2.2.2.2, d⟩
end
end GX
end

section
set_option Elab.async false
set_option linter.all false
set_option maxRecDepth 100000
set_option maxHeartbeats 2000000
namespace GX
open PySem PySem.Spec PyProof.Rows L2 GenW

/-- an item is handed out: its number i, its value y; N items in all; W: what holds ahead of the turn i; Yv: what holds of the item -/
def YG (X' : Cx) (S : List Addr) (a : Addr) (go : Obj) (fp : List Addr) (tn : Nat → Heap → Prop) (σ : L2.St) (N : Nat) (W : Nat → Hp → Prop) (Yv : Nat → V → Hp → Prop) : Protocol := fun n s₀ v s kap =>
  ∃ i y o H, i + (n + 1) = N ∧ RelV y v ∧ Inv X' ((a, go) :: pinsAt S s₀.heap) (σ ++ [o]) H s ∧ Yv i y H ∧ (∀ s'', Slept S s s'' → W (i + 1) H → kap (.send .none) s'')
def RG (X' : Cx) (S : List Addr) (a : Addr) (go : Obj) (σ : L2.St) (N : Nat) (W : Nat → Hp → Prop) (Qe : Hp → Prop) : GenEnd := fun n s₀ r s =>
  r = .ok .next ∧ (n = 0 ∧ ∃ o H, Inv X' ((a, go) :: pinsAt S s₀.heap) (σ ++ [o]) H s ∧ Qe H)
/-- the reading: by the turn -/
def GTurn (J : It) (te : TE) (σ : L2.St) (N : Nat) (W : Nat → Hp → Prop) (Yv : Nat → V → Hp → Prop) (Qe : Hp → Prop) : Prop :=
  ∀ i H, W i H → (i = N ∧ J.stop i H ∧ Qe H) ∨ (i < N ∧ J.go i H ∧ ∀ x H', J.yld i H x H' → te (σ ++ [some x]) H' fun y H3 => Yv i y H3)

section
variable {X' : Cx} {S : List Addr} {a it : Addr} {go : Obj} {fp : List Addr} {tn : Nat → Heap → Prop} {σ : L2.St} {N : Nat} {W : Nat → Hp → Prop} {Yv : Nat → V → Hp → Prop} {Qe : Hp → Prop} {J : It} {te : TE}
  {elt iter : Expr} {x : Str} {px gpos : Pos} {scope : Scope} {A : Around}
theorem loop_gen (g : GX1 X' S a fp) (hA : X'.A = A.deeper X'.env) (hcalm : X'.calm = true) (hN : X'.N.Nodup) (hlen : X'.N.length = σ.length + 1) (hx : X'.N[σ.length]? = some x) (hloc : X'.env.scope.names.lookup x = some .local) (hco : X'.env.scope.isCoroutine = false)
    (T : Turn X'.prog X'.w X'.K (.Name x px) J fp it tn) (hel : PE X' elt te) (hxe : X'.xe = fun _ _ => False) (hex : X'.ex = fp) (hafp : a ∉ fp)
    (R : GTurn J te σ N W Yv Qe) :
    ∀ (n i : Nat) (s₀ s : Shared) (o : Option V) (H : Hp), i + n = N → Inv X' ((a, go) :: pinsAt S s₀.heap) (σ ++ [o]) H s → tn i s.heap → (∀ b ∈ fp, H b = none) → (∀ b ∈ S, ∃ o, s₀.heap.get? b = some o) → W i H →
      Seg (model X'.prog X'.w) A (RG X' S a go σ N W Qe) (YG X' S a go fp tn σ N W Yv) n s₀ (.compLoop (.GeneratorExp elt [⟨.Name x px, iter, [], 0⟩] scope gpos) 0 (.ref it) .none X'.env)
        ((model X'.prog X'.w).den (.compLoop (.GeneratorExp elt [⟨.Name x px, iter, [], 0⟩] scope gpos) 0 (.ref it) .none X'.env)) [] s := by
  have stat : ∀ {pl : List (Addr × Obj)} {σ' : L2.St} {H' : Hp} {s' : Shared}, Inv X' pl σ' H' s' → (∀ p ∈ pl, p.1 ∉ fp) → (∀ b ∈ fp, H' b = none) → ∀ b ∈ fp, FpOk X' pl H' b := fun {pl σ' H' s'} I' hpl hn b hb =>
    ⟨hn b hb, (I'.ok.exf b (by rw [hex]; exact hb)).1, I'.ok.exfs b (by rw [hex]; exact hb), .inl (by rw [hex]; exact hb), fun y c e => (I'.ok.exf b (by rw [hex]; exact hb)).2 y c e, fun p hp z => by
      rw [g.pn] at hp
      exact hpl p hp (by rw [z]; exact hb)⟩
  have plo : ∀ {h : Heap}, ∀ p ∈ (a, go) :: pinsAt S h, p.1 ∉ fp := fun {h} p hp => by
    rcases List.mem_cons.mp hp with hp | hp
    · rw [hp]; exact hafp
    · exact (g.apart _ (of_pinsAt hp).1).2.2.2.2.1
  have xeF : ∀ {α : Type} {m : Sem α} {Q Q' : α → Shared → Prop} {E : Value → Shared → Prop} {s : Shared}, wpAny (model X'.prog X'.w) X'.A m Q X'.xe s → (∀ b s, Q b s → Q' b s) → wpAny (model X'.prog X'.w) X'.A m Q' E s := fun h hQ => by
    rw [hxe] at h
    exact thnF h hQ
  intro n
  induction n with
  | zero =>
    intro i s₀ s o H hi I st nfp hS w
    show Seg _ A _ _ _ s₀ _ ((compTurn (.GeneratorExp elt [⟨.Name x px, iter, [], 0⟩] scope gpos) 0 (.ref it) .none X'.env).onRaise (leaving X'.env)) [] s
    rw [compTurn_gen, Sem.onRaise_eq_wrap]
    refine seg_bind_wrap (wpAny_standAt ?_)
    rcases R i H w with ⟨ei, stop, hq⟩ | ⟨lt, _⟩
    · refine seg_bind_wrap ?_
      rw [over_loop_gen, ← hA]
      refine thnF (T.done X' rfl rfl rfl hcalm i _ s _ H (fun _ _ => False) I (stat I plo nfp) st stop) fun r s1 ⟨hr, I1⟩ => ?_
      subst hr
      exact seg_end (.ok .next) ⟨rfl, rfl, o, H, I1, hq⟩
    · omega
  | succ n ih =>
    intro i s₀ s o H hi I st nfp hS w
    show Seg _ A _ _ _ s₀ _ ((compTurn (.GeneratorExp elt [⟨.Name x px, iter, [], 0⟩] scope gpos) 0 (.ref it) .none X'.env).onRaise (leaving X'.env)) [] s
    rw [compTurn_gen, Sem.onRaise_eq_wrap]
    refine seg_bind_wrap (wpAny_standAt ?_)
    rcases R i H w with ⟨ei, stop, hq⟩ | ⟨lt, hgo, step⟩
    · omega
    · refine seg_bind_wrap ?_
      rw [over_loop_gen, ← hA]
      refine thnF (T.item X' rfl rfl rfl hcalm i _ s _ H (fun _ _ => False) I (stat I plo nfp) st hgo) fun r s1 ⟨u, hr, h1⟩ => ?_
      subst hr
      refine seg_bind_wrap ?_
      rw [over_loop_gen, ← hA]
      refine thnF h1 fun _ s2 ⟨v, H2, I2, r2, y2, st2, nfp2⟩ => ?_
      have I2' : Inv X' (((a, go) :: pinsAt S s₀.heap) ++ pinsAt fp s2.heap) (σ ++ [o]) H2 s2 := I2.pinned (stat I2 plo nfp2) (T.obj _ _ st2)
      refine seg_bind_wrap ?_
      rw [over_loop_gen, ← hA]
      have pg : PG X' (.Name x px) (gName σ.length) := pg_name hN hx (.inl hloc) (.inr hloc)
      have eset : (σ ++ [o]).set σ.length (some v) = σ ++ [some v] := by
        rw [List.set_append_right _ _ (Nat.le_refl _)]
        simp
      refine xeF (pg.run _ s2 _ H2 v u (fun σ' H' => σ' = σ ++ [some v] ∧ H' = H2) I2' r2 ⟨eset, rfl⟩) fun _ s3 ⟨σ3, H3, I3, e3, e3'⟩ => ?_
      subst e3
      subst e3'
      refine seg_bind_wrap ?_
      simp only [List.forIn_nil]
      refine wpAny_pure ?_
      simp only [if_true]
      have hy : ∀ v, yieldOut X'.env v = yieldValue v := fun v => by simp only [yieldOut, hco, Bool.false_eq_true, if_false]
      simp only [hy]
      rw [Sem.bind_eq_wrap', Sem.bind_eq_wrap', Sem.wrap_wrap, Sem.wrap_wrap]
      refine seg_wrap ?_
      rw [over_loop_gen, ← hA]
      refine xeF (hel.run _ s3 _ H3 _ I3 (step v H3 y2)) fun yv s4 ⟨y, H4, I4, r4, q4⟩ => ?_
      have pin4 : ∀ b ∈ fp, ∀ o, s2.heap.get? b = some o → s4.heap.get? b = some o ∧ H4 b = none := fun b hb o e =>
        let z := I4.pin (b, o) (List.mem_append_right _ (List.mem_append_right _ (mem_pinsAt hb e)))
        ⟨z.1, z.2.1⟩
      have I5 : Inv X' ((a, go) :: pinsAt S s₀.heap) (σ ++ [some v]) H4 s4 := I4.unpinned
      have st5 : tn (i + 1) s4.heap := T.keep _ _ _ st2 fun b hb o e => (pin4 b hb o e).1
      have nfp5 : ∀ b ∈ fp, H4 b = none := fun b hb => by
        obtain ⟨o, e, _⟩ := T.obj _ _ st2 b hb
        exact (pin4 b hb o e).2
      refine seg_at (seg_yield rfl rfl rfl ⟨i, y, some v, H4, hi, r4, I5, q4, fun s'' z w' => ?_⟩)
      have I6 := woken g I5 hS z
      refine seg_again rfl (ih (i + 1) s'' s'' (some v) H4 (by omega) I6 ?_ nfp5 (fun b hb => ?_) w')
      · refine T.keep _ _ _ st5 fun b hb o e => z.keep b o (fun hb' => (g.apart b hb').2.2.2.2.1 hb) e
      · obtain ⟨o, e, _⟩ := z.there b hb
        exact ⟨o, e⟩
theorem begin_gen (g : GX1 X' S a fp) (hA : X'.A = A.deeper X'.env) (hcalm : X'.calm = true) (hN : X'.N.Nodup) (hlen : X'.N.length = σ.length + 1) (hx : X'.N[σ.length]? = some x) (hloc : X'.env.scope.names.lookup x = some .local) (hco : X'.env.scope.isCoroutine = false)
    (T : Turn X'.prog X'.w X'.K (.Name x px) J fp it tn) (hel : PE X' elt te) (hxe : X'.xe = fun _ _ => False) (hex : X'.ex = fp) (hafp : a ∉ fp)
    (R : GTurn J te σ N W Yv Qe) (s₀ s : Shared) (o : Option V) (H : Hp) (I : Inv X' ((a, go) :: pinsAt S s₀.heap) (σ ++ [o]) H s) (st : tn 0 s.heap) (nfp : ∀ b ∈ fp, H b = none) (hS : ∀ b ∈ S, ∃ o, s₀.heap.get? b = some o) (w : W 0 H) :
    Seg (model X'.prog X'.w) A (RG X' S a go σ N W Qe) (YG X' S a go fp tn σ N W Yv) N s₀ (.compStart (.GeneratorExp elt [⟨.Name x px, iter, [], 0⟩] scope gpos) 0 (.ref it) .none X'.env)
      ((model X'.prog X'.w).den (.compStart (.GeneratorExp elt [⟨.Name x px, iter, [], 0⟩] scope gpos) 0 (.ref it) .none X'.env)) [] s := by
  have loop := loop_gen (A := A) (iter := iter) (scope := scope) (gpos := gpos) (go := go) g hA hcalm hN hlen hx hloc hco T hel hxe hex hafp R N 0 s₀ s o H (Nat.zero_add _) I st nfp hS w
  show Seg _ A _ _ _ s₀ _ ((compStart (.GeneratorExp elt [⟨.Name x px, iter, [], 0⟩] scope gpos) 0 (.ref it) .none X'.env).onRaise (leaving X'.env)) [] s
  unfold compStart
  rw [Sem.onRaise_eq_wrap]
  show Seg _ A _ _ _ s₀ _ ((ask >>= _).wrap _ _ _ _) [] s
  refine seg_bind_wrap (wpAny_askSetting ?_)
  split
  · exact seg_again rfl loop
  · first
      | exact seg_bind_wrap (wpAny_rule (seg_bind_wrap (wpAny_standAt (seg_bind_wrap (T.self _ 0 s _ _ st (seg_again rfl loop))))))
      | (refine seg_bind_wrap (wpAny_rule ?_); show Seg _ A _ _ _ s₀ _ ((standAt iter.pos >>= _).wrap _ _ _ _) [] s; exact seg_bind_wrap (wpAny_standAt (seg_bind_wrap (T.self _ 0 s _ _ st (seg_again rfl loop)))))
end
end GX
end

section
set_option Elab.async false
set_option linter.all false
set_option maxRecDepth 100000
set_option maxHeartbeats 2000000
namespace GX
open PySem PySem.Spec PyProof.Rows L2 GenW

/-- a generator that has been made and not begun: its object a (obj go), its number g; s4: the state behind the making of its code, s5: now -/
structure Made (X : Cx) (pins : List (Addr × Obj)) (σ : L2.St) (scope : Scope) (x : Str) (elt iter : Expr) (px gpos : Pos) (H : Hp) (J : It) (s4 s5 : Shared) (a it : Addr) (g : Nat) (go : Obj) (code : Value) (fp : List Addr) (tn : Nat → Heap → Prop) : Prop where
  inv : Inv X pins σ H s4
  gen : s5.heap.IsGen a g
  lim : s5.heap.NoLimit
  sz : s4.heap.objs.size < a
  sz5 : s5.heap.objs.size = a + 1
  fresh : s5.gens[g]? = some (.fresh (.compStart (.GeneratorExp elt [⟨.Name x px, iter, [], 0⟩] scope gpos) 0 (.ref it) .none (genEnv scope (cloFrom X.env.cells scope.names []) s4.heap.objs.size code builtinsNs X.env)))
  bare : AllBare s5.gens
  os : s5.os = s4.os
  keep : ∀ b o, s4.heap.get? b = some o → s5.heap.get? b = some o
  ns : s5.heap.Ns s4.heap.objs.size (fun y => if y = ".0" then some (.ref it) else none)
  fpo : ∀ b ∈ fp, FpOk X pins H b ∧ b < s4.heap.objs.size
  turn : Turn X.prog X.w X.K (.Name x px) J fp it tn
  st : tn 0 s4.heap
  obj : s5.heap.get? a = some go
  objd : ∀ v, go.data ≠ .cell v

section
variable {X : Cx} {pins : List (Addr × Obj)} {σ : L2.St} {H : Hp} {s : Shared}
theorem make_gen {c P : Addr} {elt iter : Expr} {x : Str} {px gpos : Pos} {scope : Scope} {wi : TI} {Q' : Value → Shared → Prop} {R : It → Hp → Prop}
    (hh : X.A.handled = none) (hd : X.A.depth < recursionLimit) (TB : GxR.TabB X.base X.mg c P) (hcode : X.env.code = .ref c) (ok : GOk X.N X.env.scope scope x) (hi : PI X (.Name x px) iter wi)
    (hs : ∀ v, genFold iter X.env v = pure v) (I : Inv X pins σ H s) (h : wi σ H fun J H1 => GxR.TabG H1 P ∧ R J H1)
    (hQ : ∀ J H1 H2 s4 s5 a it g go code fp tn, R J H1 → GxR.Tabbed P H1 H2 → Made X pins σ scope x elt iter px gpos H2 J s4 s5 a it g go code fp tn → Q' (.ref a) s5) :
    wpAny (model X.prog X.w) X.A (eval (.GeneratorExp elt [⟨.Name x px, iter, [], 0⟩] scope gpos) X.env) Q' X.xe s := by
  have hfree : ∀ y ∈ scope.names, y.2 = .free → ∃ c, X.env.cells.lookup y.1 = some c := fun y hy e => by
    rcases ok.free y hy e with k | k
    · exact I.ok.has _ (.inl k)
    · exact I.ok.has _ (.inr k)
  refine wpAny_GeneratorExp_make ok.co (closure_ok hfree) ok.nocell ok.dot ok.kind hd ?_ hs
  refine thn (hi.run pins s σ H _ I h) fun xv s1 hx => thn hx fun itv s2 h2 => ?_
  obtain ⟨it, fp, tn, J, H1, e, I1, T, st2, f2, ⟨ps, hP, ht⟩, q1⟩ := h2
  subst e
  have hPs : s2.heap.get? P = some { cls := .none, data := .fields ps } := I1.hok P _ hP
  have cd : PySem.W.CodeHd s2.heap c P := TB.code.keeps fun b u e => I1.bk b u e
  have sz : ∀ b ∈ fp, b < s2.heap.objs.size := fun b hb => by
    obtain ⟨o, e, _⟩ := T.obj _ _ st2 b hb
    exact Heap.lt_size e
  refine ⟨I1.nolimit, ?_⟩
  have cont : ∀ (code : Value) (h3 : Heap) (tk : Nat) (ps' : Array Value), Heap.ExtBut P s2.heap h3 → h3.get? P = some { cls := .none, data := .fields ps' } → (∃ more, ps' = ps ++ more) → TriplesOk ps'.toList →
      wpAny (model X.prog X.w) X.A (builtinsFor X.env.globals X.env.builtins) (fun bi s₄ =>
        ∀ h', h'.Ns s₄.heap.objs.size (fun y => if y = ".0" then some (.ref it) else none) → Heap.SameBut s₄.heap.objs.size (s₄.heap.push { cls := .type "frame", data := .dict #[] }) h' →
          Q' (.ref h'.objs.size) { s₄ with
            gens := s₄.gens.push (.fresh (.compStart (.GeneratorExp elt [⟨.Name x px, iter, [], 0⟩] scope gpos) 0 (.ref it) .none (genEnv scope (cloFrom X.env.cells scope.names []) s₄.heap.objs.size code bi X.env))),
            toks := s₄.toks + 1 + 1 + 1,
            heap := h'.push { cls := .type "generator", data := .fields #[.int s₄.gens.size 0, .str "<genexpr>" (s₄.toks + 1), .str (X.env.qual ++ "<genexpr>") (s₄.toks + 1 + 1)] } }) X.xe { s2 with heap := h3, toks := tk } := by
    intro code h3 tk ps' hx hP3 hmore ht3
    obtain ⟨more, em⟩ := hmore
    obtain ⟨bm, ob, e1, e2, e3, e4, e5, e6, e7, e8⟩ := TB.bm
    have keep3 : ∀ b u, b ≠ P → s2.heap.get? b = some u → h3.get? b = some u := fun b u hb e => hx b u hb e
    have I3 := GxR.inv_tab (more := more) (h' := h3) (g' := s2.gens) (d' := s2.drawn) (t' := tk) I1 hP keep3 (by rw [← em]; exact hP3) I1.bare
    have I3' : Inv X pins σ (upd H1 P (.tbl (ps ++ more))) { s2 with heap := h3, toks := tk } := I3
    refine wpAny_builtinsFor (m := X.mg) (by rw [I1.ok.glob]; exact (I1.mod.glob.keeps I1.bk).extBut hx TB.gP) e1 e2 (keep3 _ _ e4 (I1.bk _ _ e5)) e6 e7 e8 ?_
    intro h' hn' hs'
    generalize hs4 : ({ s2 with heap := h3, toks := tk } : Shared) = s4 at I3' hn' hs' ⊢
    have h4 : s4.heap = h3 := by rw [← hs4]
    have hsz : h'.objs.size = s4.heap.objs.size + 1 := by rw [hs'.1, Heap.size_push]
    have keep' : ∀ b o, s4.heap.get? b = some o → h'.get? b = some o := fun b o e => hs'.extBut b o (Nat.ne_of_lt (Heap.lt_size e)) (Heap.get?_push_of_some _ e)
    have stay : ∀ b ∈ fp, ∀ o, s2.heap.get? b = some o → s4.heap.get? b = some o := fun b hb o e => by
      rw [h4]
      refine keep3 b o (fun z => ?_) e
      have := (f2 b hb).1
      rw [z, hP] at this
      cases this
    refine hQ J H1 (upd H1 P (.tbl (ps ++ more))) s4 _ h'.objs.size it s4.gens.size _ code fp tn q1 ⟨⟨ps ++ more, upd_same, by rw [← em]; exact ht3⟩, fun b hb => upd_ne hb⟩
      ⟨I3', ⟨_, _, _, Heap.get?_push_size _ rfl, rfl, rfl, rfl⟩, I3'.nolimit.keeps fun b o e => Heap.get?_push_of_some _ (keep' b o e), by omega, by rw [Heap.size_push], Array.getElem?_push_size .., AllBare.push (by rw [← hs4]; exact I1.bare) rfl, rfl,
        fun b o e => Heap.get?_push_of_some _ (keep' b o e), hn'.push _, fun b hb => ⟨⟨?_, (f2 b hb).2⟩, ?_⟩, T, T.keep _ _ _ st2 stay, Heap.get?_push_size _ rfl, fun v q => by cases q⟩
    · rw [upd_ne (fun z => by have := (f2 b hb).1; rw [z, hP] at this; cases this)]
      exact (f2 b hb).1
    · obtain ⟨o, e, _⟩ := T.obj _ _ st2 b hb
      exact Heap.lt_size (stay b hb o e)
  cases hf : codeAmong gpos ps.toList with
  | none =>
    refine wpAny_genexprCodeX hcode (cd.code hPs ht) (cd.tab hPs) hf fun c' h' tk hx hge hlt hco' _ htab' _ => ?_
    obtain ⟨o1, vs, f1, tf, fl, tg, inF, tx, tt, op, _, _, _, _, _, _, _, _, _, htr, _⟩ := hco'
    exact cont _ h' tk _ hx htab'.2 ⟨_, rfl⟩ htr
  | some cv =>
    refine wpAny_genexprCode_hit hcode (cd.code hPs ht) hf ?_
    exact cont cv s2.heap s2.toks ps (Heap.ExtBut.refl _ _) hPs ⟨#[], by simp⟩ ht

variable {scope : Scope} {x : Str} {elt iter : Expr} {px gpos : Pos} {J : It} {s4 s5 : Shared} {a it : Addr} {g : Nat} {go : Obj} {code : Value} {fp : List Addr} {tn : Nat → Heap → Prop} {te : TE} {N : Nat} {W : Nat → Hp → Prop} {Yv : Nat → V → Hp → Prop} {Qe : Hp → Prop}
theorem Made.ap (m : Made X pins σ scope x elt iter px gpos H J s4 s5 a it g go code fp tn) {A : Around} {S : List Addr} (hS : ∀ b ∈ S, a < b) :
    GX1 (gcx X scope x A s4 H s4.heap.objs.size code fp) S a fp := by
  have hsz := m.sz
  refine ⟨fun b hb => ?_, rfl⟩
  have hab := hS b hb
  have hb4 : s4.heap.objs.size < b := Nat.lt_trans hsz hab
  refine ⟨Nat.le_of_lt hb4, Nat.ne_of_gt hb4, fun y c e z => ?_, Nat.ne_of_gt hab, fun hm => ?_, fun hm => ?_⟩
  · rcases cloFrom_mem (PySem.mem_of_lookup e) with hm | ⟨h1, h2⟩
    · cases hm
    · cases hc : X.env.cells.lookup y with
      | none =>
        rw [hc] at h2
        have h2 : c = 0 := h2
        rw [← z, h2] at hb4
        exact absurd hb4 (Nat.not_lt_zero _)
      | some c0 =>
        rw [hc] at h2
        have h2 : c = c0 := h2
        obtain ⟨w, zz⟩ := m.inv.cell _ _ hc
        have := zz.lt
        rw [← h2, z] at this
        exact absurd (Nat.lt_trans this hb4) (Nat.lt_irrefl _)
  · exact absurd (Nat.lt_trans (m.fpo b hm).2 hb4) (Nat.lt_irrefl _)
  · have hm : b ∈ frs X.stack := hm
    obtain ⟨_, o, ho, _⟩ := m.inv.stack.mem hm
    exact absurd (Nat.lt_trans (Heap.lt_size ho) hb4) (Nat.lt_irrefl _)
/-- the first wake -/
theorem Made.seg (m : Made X pins σ scope x elt iter px gpos H J s4 s5 a it g go code fp tn) (ok : GOk X.N X.env.scope scope x) (hN : X.N.Nodup) (hxN : x ∉ X.N) {A : Around} (hh : A.handled = none) (hfr : A.frames = some X.stack)
    (hel : PE (gcx X scope x A s4 H s4.heap.objs.size code fp) elt te) {S : List Addr} (hS : ∀ b ∈ S, a < b) (R : GTurn J te σ N W Yv Qe) (w : W 0 H) (s6 : Shared) (hos : s6.os = s5.os) (hb : AllBare s6.gens)
    (kp : ∀ b o, s5.heap.get? b = some o → s6.heap.get? b = some o) (hSo : ∀ b ∈ S, ∃ o, s6.heap.get? b = some o ∧ ∀ v, o.data ≠ .cell v) :
    Seg (model X.prog X.w) A (RG (gcx X scope x A s4 H s4.heap.objs.size code fp) S a go σ N W Qe) (YG (gcx X scope x A s4 H s4.heap.objs.size code fp) S a go fp tn σ N W Yv) N s6
      (.compStart (.GeneratorExp elt [⟨.Name x px, iter, [], 0⟩] scope gpos) 0 (.ref it) .none (genEnv scope (cloFrom X.env.cells scope.names []) s4.heap.objs.size code builtinsNs X.env))
      ((model X.prog X.w).den (.compStart (.GeneratorExp elt [⟨.Name x px, iter, [], 0⟩] scope gpos) 0 (.ref it) .none (genEnv scope (cloFrom X.env.cells scope.names []) s4.heap.objs.size code builtinsNs X.env))) [] s6 := by
  have kp4 : ∀ b o, s4.heap.get? b = some o → s6.heap.get? b = some o := fun b o e => kp b o (m.keep b o e)
  have I0 : Inv (gcx X scope x A s4 H s4.heap.objs.size code fp) [] (σ ++ [none]) H s6 := gen_start m.inv ok m.fpo hh hfr (hos.trans m.os) hb kp4 (m.ns.keeps kp)
  have hsz := m.sz
  have ap := m.ap (A := A) hS
  have fre : ∀ b, s4.heap.objs.size ≤ b → H b = none := fun b hb => m.inv.hok.fresh hb
  have anf : a ∉ (gcx X scope x A s4 H s4.heap.objs.size code fp).fs := fun hm => by
    have hm : a ∈ frs X.stack := hm
    obtain ⟨_, o, ho, _⟩ := m.inv.stack.mem hm
    exact absurd (Nat.lt_trans (Heap.lt_size ho) hsz) (Nat.lt_irrefl _)
  have I : Inv (gcx X scope x A s4 H s4.heap.objs.size code fp) ((a, go) :: pinsAt S s6.heap) (σ ++ [none]) H s6 := I0.pins_of fun p hp => by
    rcases List.mem_cons.mp hp with hp | hp
    · rw [hp]
      exact ⟨kp _ _ m.obj, fre a (Nat.le_of_lt hsz), Nat.ne_of_gt hsz, anf, m.objd⟩
    · obtain ⟨hbS, e⟩ := of_pinsAt hp
      obtain ⟨o, e', d⟩ := hSo _ hbS
      rw [e] at e'; cases e'
      exact ⟨e, fre _ (ap.apart _ hbS).1, (ap.apart _ hbS).2.1, (ap.apart _ hbS).2.2.2.2.2, d⟩
  have hlen : X.N.length = σ.length := m.inv.len.symm
  refine begin_gen (X' := gcx X scope x A s4 H s4.heap.objs.size code fp) (go := go) (N := N) (W := W) (Yv := Yv) (Qe := Qe) ap rfl rfl ?_ ?_ ?_ ok.loc ok.co m.turn hel rfl rfl (fun hm => ?_) R s6 s6 none H I ?_ (fun b hb => (m.fpo b hb).1.1) (fun b hb => ?_) w
  · show (X.N ++ [x]).Nodup
    rw [List.nodup_append]
    exact ⟨hN, by simp, fun y hy z hz e => hxN (by rw [List.mem_singleton.mp hz] at e; rw [← e]; exact hy)⟩
  · show (X.N ++ [x]).length = _
    simp [hlen]
  · show (X.N ++ [x])[σ.length]? = some x
    rw [List.getElem?_append_right (by omega)]
    simp [hlen]
  · exact absurd (Nat.lt_trans (m.fpo a hm).2 hsz) (Nat.lt_irrefl _)
  · exact m.turn.keep _ _ _ m.st fun b _ o e => kp4 b o e
  · obtain ⟨o, e, _⟩ := hSo b hb
    exact ⟨o, e⟩
/-- back in the def -/
theorem Made.back (m : Made X pins σ scope x elt iter px gpos H J s4 s5 a it g go code fp tn) {A : Around} {pl : List (Addr × Obj)} {σ' : L2.St} {H' : Hp} {s6 s7 : Shared} (I : Inv (gcx X scope x A s4 H s4.heap.objs.size code fp) pl σ' H' s6)
    (hos : s7.os = s6.os) (hb : AllBare s7.gens) (kp : ∀ b o, s6.heap.get? b = some o → s7.heap.get? b = some o) : Inv X pins σ H' s7 :=
  m.inv.call' (ch := fp) (hos.trans I.os) (I.base.trans (Un.kept kp)) (I.hok.kept kp) hb fun b hb => ⟨(m.fpo b hb).1.2.2.2.1, (m.fpo b hb).1.2.1, (m.fpo b hb).1.2.2.2.2.1, (m.fpo b hb).1.2.2.2.2.2⟩
end
end GX
end

section
set_option Elab.async false
set_option linter.all false
set_option maxRecDepth 100000
set_option maxHeartbeats 2000000
namespace GX
open PySem PySem.Spec PyProof.Rows L2 GenW

section
variable {X : Cx} {pins : List (Addr × Obj)} {σ : L2.St} {H : Hp}
  {scope : Scope} {x : Str} {elt iter : Expr} {px gpos : Pos} {J : It} {s4 s5 : Shared} {a it : Addr} {g : Nat} {go : Obj} {code : Value} {fp : List Addr} {tn : Nat → Heap → Prop} {te : TE} {N : Nat} {W : Nat → Hp → Prop}

theorem entry_all : entryFor table "all" = some Builtin.«all» := PySem.F.entry_all

/-- one turn of all(..) -/
theorem all_turn (m : Made X pins σ scope x elt iter px gpos H J s4 s5 a it g go code fp tn) {A : Around} {Q : VK} {Rr : Result → Shared → Prop} (hh : A.handled = none) (hd : A.depth < recursionLimit)
    (hR : ∀ b s', EP X pins σ Q (.bool b) s' → Rr (.ok (.ret (.bool b))) s') (n : Nat) (s : Shared) (hg : s.heap.IsGen a g) (hl : s.heap.NoLimit)
    (h : ∃ gs, s.gens[g]? = some gs ∧ gs.Goes (model X.prog X.w) A.in1.in1 (RG (gcx X scope x A.in1.in1 s4 H s4.heap.objs.size code fp) [] a go σ N W (fun H3 => Q (.bl true) H3))
        (YG (gcx X scope x A.in1.in1 s4 H s4.heap.objs.size code fp) [] a go fp tn σ N W (fun i y H3 => ∃ b, y = .bl b ∧ if b = true then W (i + 1) H3 else Q (.bl false) H3)) n (.send .none) (s.setGen g .running))
    (again : ∀ (m : Nat) (s1 : Shared) (gs' : GenState), n = m + 1 → s1.heap.IsGen a g → s1.heap.NoLimit → g < s1.gens.size →
        gs'.Goes (model X.prog X.w) A.in1.in1 (RG (gcx X scope x A.in1.in1 s4 H s4.heap.objs.size code fp) [] a go σ N W (fun H3 => Q (.bl true) H3))
          (YG (gcx X scope x A.in1.in1 s4 H s4.heap.objs.size code fp) [] a go fp tn σ N W (fun i y H3 => ∃ b, y = .bl b ∧ if b = true then W (i + 1) H3 else Q (.bl false) H3)) m (.send .none) ((s1.setGen g gs').setGen g .running) →
        codeAny (model X.prog X.w) A (.builtin "all.loop" ⟨[.ref a], []⟩) Rr (s1.setGen g gs')) :
    codeAny (model X.prog X.w) A (.builtin "all.loop" ⟨[.ref a], []⟩) Rr s := by
  obtain ⟨gs, hgs, hgo⟩ := h
  have hgl : g < s.gens.size := (Array.getElem?_eq_some_iff.mp hgs).1
  refine codeAny_builtin PySem.F.entry_all_loop ?_
  rw [Around.under_plainId PySem.F.plain_all_loop _]
  show wpAny _ A.in1 (pyNext (.ref a) >>= _) _ _ s
  refine wpAny_bind (wpAny_gsz (n := g + 1) hgl (wpAny_pyNext_genexpQ (A := A.in1) hh hl hd hg hgs hgo (fun v s1 gs' hb hv => ?_) (fun s1 hp h' hk => ?_)))
  · intro hsz
    have hsz1 : g < s1.gens.size := by
      have q : (s1.setGen g gs').gens.size = s1.gens.size := setGen_size _ _ _
      have hsz' : g + 1 ≤ (s1.setGen g gs').gens.size := hsz
      omega
    obtain ⟨i, y, o, H3, hi, rv, I, ⟨b, ey, hy⟩, hkap⟩ := hv
    subst ey
    obtain rfl : v = Value.bool b := rv
    refine wpAny_bind (wpAny_holding (wpAny_truthy_bool ?_))
    refine wpAny_bind (wpAny_letGo ?_)
    have hp := I.pin (a, go) (List.mem_append_right _ List.mem_cons_self)
    have hg1 : s1.heap.IsGen a g := by
      obtain ⟨o5, nm5, qn5, ho5, r5⟩ := m.gen
      rw [m.obj] at ho5
      cases ho5
      exact ⟨go, nm5, qn5, hp.1, r5⟩
    have hb1 : AllBare (s1.setGen g gs').gens := allBare_setGen I.bare hb
    cases b with
    | true =>
      simp only [if_true] at hy ⊢
      have hz : Slept [] s1 ((s1.setGen g gs').setGen g .running) := ⟨rfl, allBare_setGen hb1 rfl, fun _ _ _ e => e, fun b z => by cases z⟩
      have k := hkap _ hz hy
      refine wpAny_pure ⟨plainId_quiet PySem.F.plain_all_loop _, ?_⟩
      cases n with
      | zero => exact False.elim k
      | succ m' => exact again m' s1 gs' rfl hg1 I.nolimit hsz1 k
    | false =>
      simp only [Bool.false_eq_true, if_false] at hy ⊢
      refine wpAny_bind (wpAny_rule (wpAny_pure (hR _ _ ?_)))
      exact ⟨.bl false, H3, m.back I rfl hb1 fun _ _ e => e, rfl, hy⟩
  · intro _
    obtain ⟨hn, o, H3, I, q⟩ := hp
    refine wpAny_bind (wpAny_rule (wpAny_pure (hR _ _ ?_)))
    exact ⟨.bl true, H3, m.back I rfl (allBare_setGen I.bare rfl) hk, rfl, q⟩
theorem all_loop (m : Made X pins σ scope x elt iter px gpos H J s4 s5 a it g go code fp tn) {A : Around} {Q : VK} {Rr : Result → Shared → Prop} (hh : A.handled = none) (hd : A.depth < recursionLimit)
    (hR : ∀ b s', EP X pins σ Q (.bool b) s' → Rr (.ok (.ret (.bool b))) s') :
    ∀ (n : Nat) (s : Shared), s.heap.IsGen a g → s.heap.NoLimit →
      (∃ gs, s.gens[g]? = some gs ∧ gs.Goes (model X.prog X.w) A.in1.in1 (RG (gcx X scope x A.in1.in1 s4 H s4.heap.objs.size code fp) [] a go σ N W (fun H3 => Q (.bl true) H3))
        (YG (gcx X scope x A.in1.in1 s4 H s4.heap.objs.size code fp) [] a go fp tn σ N W (fun i y H3 => ∃ b, y = .bl b ∧ if b = true then W (i + 1) H3 else Q (.bl false) H3)) n (.send .none) (s.setGen g .running)) →
      codeAny (model X.prog X.w) A (.builtin "all.loop" ⟨[.ref a], []⟩) Rr s := by
  intro n
  induction n with
  | zero => exact fun s hg hl h => all_turn m hh hd hR 0 s hg hl h fun m' _ _ e => by omega
  | succ n ih =>
    intro s hg hl h
    refine all_turn m hh hd hR (n + 1) s hg hl h fun m' s1 gs' e hg1 hl1 hsz hgo => ?_
    obtain rfl : n = m' := by omega
    exact ih (s1.setGen g gs') hg1 hl1 ⟨gs', setGen_at hsz, hgo⟩
end

/-! ### all(elt for x in iter) -/
section
variable {X : Cx}
def tAllG (P : Addr) (wi : TI) (te : TE) : TE := fun σ H Q => wi σ H fun J H1 => GxR.TabG H1 P ∧ ∀ H2, GxR.Tabbed P H1 H2 → ∃ (N : Nat) (W : Nat → Hp → Prop), W 0 H2 ∧
  GTurn J te σ N W (fun i y H3 => ∃ b, y = .bl b ∧ if b = true then W (i + 1) H3 else Q (.bl false) H3) (fun H3 => Q (.bl true) H3)
theorem pe_allG {c P : Addr} {elt iter : Expr} {x : Str} {px p pos gpos : Pos} {scope : Scope} {wi : TI} {te : TE} {k : Nat}
    (hr : Room (k + 2) X.A) (hg : Gl X "all") (hm : X.mg "all" = none) (TB : GxR.TabB X.base X.mg c P) (hcode : X.env.code = .ref c) (hN : X.N.Nodup) (hfr : X.A.frames = some X.stack) (ok : GOk X.N X.env.scope scope x) (hxN : x ∉ X.N) (hi : PI X (.Name x px) iter wi)
    (hel : ∀ (A : Around) (s : Shared) (H : Hp) (C : Addr) (code : Value) (fp : List Addr), Room k (gcx X scope x A s H C code fp).A → PE (gcx X scope x A s H C code fp) elt te)
    (hs : ∀ v, genFold iter X.env v = pure v := by intro _; rfl)
    (he : starEach [.GeneratorExp elt [⟨.Name x px, iter, [], 0⟩] scope gpos] X.env = (false, eval (.GeneratorExp elt [⟨.Name x px, iter, [], 0⟩] scope gpos) X.env) :: starEach [] X.env := by rfl) :
    PE X (.Call (.Name "all" p) [.GeneratorExp elt [⟨.Name x px, iter, [], 0⟩] scope gpos] [] pos) (tAllG P wi te) := by
  refine ⟨fun pins s σ H Q I h => ?_⟩
  refine wpAny_Call_Name_kw (ld_blt I hg hm (show bootBuiltins "all" = some (.builtin "all") by decide +kernel) ?_)
  refine PyProof.Rows.callWith_builtin1 ?_ he (by rfl)
  rw [he]
  show wpAny _ _ (spliced ((false, eval (.GeneratorExp elt [⟨.Name x px, iter, [], 0⟩] scope gpos) X.env) :: backTo pos (starEach [] X.env))) _ _ s
  refine Calls.spliced_cons (make_gen hr.hd hr.depth TB hcode ok hi hs I h fun J H1 H2 s4 s5 a it g go code fp tn hR hT m => ?_)
  refine Calls.spliced_nil ?_
  obtain ⟨N, W, w0, R⟩ := hR H2 hT
  refine call_function_tree PySem.F.kind_all PySem.F.plain_all PySem.F.entry_all (PySem.F.args_all1 _) ?_
  unfold Builtin.«all»
  refine wpAny_bind (m := oneArg "all" _) (wpAny_pure ?_)
  refine wpAny_bind (wpAny_pyIter_gen m.gen ?_)
  refine wpAny_pure ⟨plainId_quiet PySem.F.plain_all_loop _, ?_⟩
  refine all_loop (N := N) (W := W) (Q := Q) (Rr := fun r s' => match r with | .ok (.ret v) => EP X pins σ Q v s' | .ok _ => False | .error e => X.xe e s') m hr.hd hr.depth (fun b s' h => h) N s5 m.gen m.lim ⟨_, m.fresh, rfl, ?_⟩
  refine m.seg ok hN hxN (A := X.A.in1.in1) hr.hd hfr (hel _ _ _ _ _ _ ?_) (S := []) (fun b z => by cases z) R w0 (s5.setGen g .running) rfl (allBare_setGen m.bare rfl) (fun _ _ e => e) (fun b z => by cases z)
  refine ⟨hr.hd, ?_, ?_⟩
  · have := hr.dp
    show X.A.depth + 1 + 3 * k + 5 < _
    omega
  · have := hr.un
    show X.A.units + 1 + 1 + 3 + 16 * k + 200 < _
    omega
end
end GX
end

section
set_option Elab.async false
set_option linter.all false
set_option maxRecDepth 100000
set_option maxHeartbeats 2000000
namespace GX
open PySem PySem.Spec PyProof.Rows L2 GenW

section
variable {X : Cx} {pins : List (Addr × Obj)} {σ : L2.St} {H : Hp}
  {scope : Scope} {x : Str} {elt iter : Expr} {px gpos : Pos} {J : It} {s4 s5 : Shared} {a it : Addr} {g : Nat} {go : Obj} {code : Value} {fp : List Addr} {tn : Nat → Heap → Prop} {te : TE} {W : Nat → Hp → Prop} {ys : List V} {Qe : Hp → Prop}

/-- one turn of filling the consumer's list at S -/
theorem ext_turn (m : Made X pins σ scope x elt iter px gpos H J s4 s5 a it g go code fp tn) {A : Around} {S : Addr} {res : Value} {Rr : Result → Shared → Prop} (hh : A.handled = none) (hd : A.depth < recursionLimit) (hz : ys.length ≤ sizeLine) (hSa : S ≠ a)
    (hR : ∀ s' acc c H', Inv X pins σ H' s' → s'.heap.get? S = some (lstObj acc c) → Vals ys acc.toList → Qe H' → Rr (.ok (.ret res)) s') (n : Nat) (s : Shared) (acc : Array Value) (c : Nat) (hg : s.heap.IsGen a g) (hl : s.heap.NoLimit)
    (eS : s.heap.get? S = some (lstObj acc c)) (hacc : Vals (ys.take (ys.length - n)) acc.toList) (hn : n ≤ ys.length)
    (h : ∃ gs, s.gens[g]? = some gs ∧ gs.Goes (model X.prog X.w) A.in1.in1 (RG (gcx X scope x A.in1.in1 s4 H s4.heap.objs.size code fp) [S] a go σ ys.length W Qe)
        (YG (gcx X scope x A.in1.in1 s4 H s4.heap.objs.size code fp) [S] a go fp tn σ ys.length W (fun i y H3 => ys[i]? = some y ∧ W (i + 1) H3)) n (.send .none) (s.setGen g .running))
    (again : ∀ (m : Nat) (s2 : Shared) (acc : Array Value) (c : Nat), n = m + 1 → s2.heap.IsGen a g → s2.heap.NoLimit → s2.heap.get? S = some (lstObj acc c) → Vals (ys.take (ys.length - m)) acc.toList →
        (∃ gs, s2.gens[g]? = some gs ∧ gs.Goes (model X.prog X.w) A.in1.in1 (RG (gcx X scope x A.in1.in1 s4 H s4.heap.objs.size code fp) [S] a go σ ys.length W Qe)
          (YG (gcx X scope x A.in1.in1 s4 H s4.heap.objs.size code fp) [S] a go fp tn σ ys.length W (fun i y H3 => ys[i]? = some y ∧ W (i + 1) H3)) m (.send .none) (s2.setGen g .running)) →
        codeAny (model X.prog X.w) A (.builtin "list.extend.loop" ⟨[.ref S, .ref a, res], []⟩) Rr s2) :
    codeAny (model X.prog X.w) A (.builtin "list.extend.loop" ⟨[.ref S, .ref a, res], []⟩) Rr s := by
  obtain ⟨gs, hgs, hgo⟩ := h
  have hgl : g < s.gens.size := (Array.getElem?_eq_some_iff.mp hgs).1
  have hasz : acc.size = ys.length - n := by
    have e1 := hacc.length
    have e2 : acc.toList.length = acc.size := by simp
    rw [List.length_take] at e1
    omega
  refine codeAny_builtin PySem.F.entry_extend_loop ?_
  rw [Around.under_plainId PySem.F.plain_extend_loop _]
  show wpAny _ A.in1 (pyNext (.ref a) >>= _) _ _ s
  refine wpAny_bind (wpAny_gsz (n := g + 1) hgl (wpAny_pyNext_genexpQ (A := A.in1) hh hl hd hg hgs hgo (fun v s1 gs' hb hv => ?_) (fun s1 hp h' hk => ?_)))
  · intro hsz
    have hsz1 : g < s1.gens.size := by
      have q : (s1.setGen g gs').gens.size = s1.gens.size := setGen_size _ _ _
      have hsz' : g + 1 ≤ (s1.setGen g gs').gens.size := hsz
      omega
    obtain ⟨i, y, o, H3, hi, rv, I, ⟨hy, hw⟩, hkap⟩ := hv
    have hlt : i < ys.length := (List.getElem?_eq_some_iff.mp hy).1
    have hp := I.pin (a, go) (List.mem_append_right _ List.mem_cons_self)
    have pS := I.pin (S, lstObj acc c) (List.mem_append_right _ (List.mem_cons_of_mem _ (mem_pinsAt List.mem_cons_self eS)))
    have eS1 : s1.heap.get? S = some (lstObj acc c) := pS.1
    have hg1 : s1.heap.IsGen a g := by
      obtain ⟨o5, nm5, qn5, ho5, r5⟩ := m.gen
      rw [m.obj] at ho5
      cases ho5
      exact ⟨go, nm5, qn5, hp.1, r5⟩
    have hb1 : AllBare (s1.setGen g gs').gens := allBare_setGen I.bare hb
    have hSn : ∀ b ∈ ([S] : List Addr), b = S := fun b z => List.mem_singleton.mp z
    have keep3 : ∀ b o, b ≠ S → s1.heap.get? b = some o → (s1.heap.update S (Obj.mapSeq (·.push v))).get? b = some o := fun b o hbS e => (Heap.get?_update_other _ _ (Ne.symm hbS)).trans e
    have eS2 := Heap.get?_update_self (Obj.mapSeq (·.push v)) eS1 rfl
    have hz2 : Slept [S] s1 (({ s1.setGen g gs' with heap := s1.heap.update S (Obj.mapSeq (·.push v)) } : Shared).setGen g .running) := ⟨rfl, allBare_setGen (s := { s1.setGen g gs' with heap := _ }) hb1 rfl, fun b o hb e => keep3 b o (fun z => hb (by rw [z]; exact List.mem_cons_self)) e, fun b hb => by
      rw [hSn b hb]
      exact ⟨_, eS2, fun v q => by cases q⟩⟩
    have k := hkap _ hz2 hw
    cases n with
    | zero => exact False.elim k
    | succ m' =>
      have hi2 : i = ys.length - (m' + 1) := by omega
      show wpAny _ A.in1 (updateSeq S (·.push v) >>= _) _ _ _
      refine wpAny_bind ?_
      refine wpAny_updateSeq eS1 rfl (wpAny_pure ⟨plainId_quiet PySem.F.plain_extend_loop _, ?_⟩) (by omega) (by show (acc.push v).size ≤ sizeLine + 1; rw [Array.size_push]; omega)
      refine again m' { s1.setGen g gs' with heap := s1.heap.update S (Obj.mapSeq (·.push v)) } (acc.push v) _ rfl ?_ ?_ eS2 ?_ ⟨gs', setGen_at hsz1, k⟩
      · obtain ⟨o', nm, qn, ho, r⟩ := hg1
        exact ⟨o', nm, qn, keep3 a o' (Ne.symm hSa) ho, r⟩
      · have hl1 := I.nolimit
        obtain ⟨mc, hns, hnn⟩ := hl1
        refine ⟨mc, hns.at' fun o e => keep3 _ o (fun z => ?_) e, hnn⟩
        obtain ⟨o2, es, ep, ho2, hd2, _⟩ := hns
        rw [z, eS1] at ho2
        cases ho2
        cases hd2
      · have e1 : ys.take (ys.length - m') = ys.take (ys.length - (m' + 1)) ++ [y] := by
          rw [show ys.length - m' = (ys.length - (m' + 1)) + 1 by omega, List.take_add_one, ← hi2, hy]
          rfl
        rw [e1, Array.toList_push]
        exact hacc.append (.cons rv .nil)
  · intro _
    obtain ⟨hn0, o, H3, I, q⟩ := hp
    have pS := I.pin (S, lstObj acc c) (List.mem_append_right _ (List.mem_cons_of_mem _ (mem_pinsAt List.mem_cons_self eS)))
    refine wpAny_pure (hR _ acc c H3 (m.back I rfl (allBare_setGen I.bare rfl) hk) (hk _ _ pS.1) ?_ q)
    subst hn0
    rw [Nat.sub_zero, List.take_length] at hacc
    exact hacc
theorem ext_loop (m : Made X pins σ scope x elt iter px gpos H J s4 s5 a it g go code fp tn) {A : Around} {S : Addr} {res : Value} {Rr : Result → Shared → Prop} (hh : A.handled = none) (hd : A.depth < recursionLimit) (hz : ys.length ≤ sizeLine) (hSa : S ≠ a)
    (hR : ∀ s' acc c H', Inv X pins σ H' s' → s'.heap.get? S = some (lstObj acc c) → Vals ys acc.toList → Qe H' → Rr (.ok (.ret res)) s') :
    ∀ (n : Nat) (s : Shared) (acc : Array Value) (c : Nat), s.heap.IsGen a g → s.heap.NoLimit → s.heap.get? S = some (lstObj acc c) → Vals (ys.take (ys.length - n)) acc.toList → n ≤ ys.length →
      (∃ gs, s.gens[g]? = some gs ∧ gs.Goes (model X.prog X.w) A.in1.in1 (RG (gcx X scope x A.in1.in1 s4 H s4.heap.objs.size code fp) [S] a go σ ys.length W Qe)
        (YG (gcx X scope x A.in1.in1 s4 H s4.heap.objs.size code fp) [S] a go fp tn σ ys.length W (fun i y H3 => ys[i]? = some y ∧ W (i + 1) H3)) n (.send .none) (s.setGen g .running)) →
      codeAny (model X.prog X.w) A (.builtin "list.extend.loop" ⟨[.ref S, .ref a, res], []⟩) Rr s := by
  intro n
  induction n with
  | zero => exact fun s acc c hg hl eS hacc hn h => ext_turn m hh hd hz hSa hR 0 s acc c hg hl eS hacc hn h fun m' _ _ _ e => absurd e (by omega)
  | succ n ih =>
    intro s acc c hg hl eS hacc hn h
    refine ext_turn m hh hd hz hSa hR (n + 1) s acc c hg hl eS hacc hn h fun m' s2 acc2 c2 e hg2 hl2 eS2 hacc2 h2 => ?_
    obtain rfl : n = m' := by omega
    exact ih s2 acc2 c2 hg2 hl2 eS2 hacc2 (by omega) h2

/-- all items collected -/
theorem collect_gen (m : Made X pins σ scope x elt iter px gpos H J s4 s5 a it g go code fp tn) {A : Around} {E : Value → Shared → Prop} {Q : List Value → Shared → Prop} {k : Nat} (hr : Room (k + 1) A.in1.in1) (hfr : A.frames = some X.stack) (hz : ys.length ≤ sizeLine)
    (ok : GOk X.N X.env.scope scope x) (hN : X.N.Nodup) (hxN : x ∉ X.N) (hel : ∀ (A : Around), Room k (gcx X scope x A s4 H s4.heap.objs.size code fp).A → PE (gcx X scope x A s4 H s4.heap.objs.size code fp) elt te)
    (R : GTurn J te σ ys.length W (fun i y H3 => ys[i]? = some y ∧ W (i + 1) H3) Qe) (w : W 0 H)
    (hQ : ∀ s' us H', Inv X pins σ H' s' → Vals ys us → Qe H' → Q us s') :
    wpAny (model X.prog X.w) A (collect (.ref a)) Q E s5 := by
  have ha : a < s5.heap.objs.size := Nat.lt_of_lt_of_eq (Nat.lt_succ_self a) m.sz5.symm
  have hSa : s5.heap.objs.size ≠ a := Nat.ne_of_gt ha
  have hT : ∀ {h : Heap}, (∀ b o, s5.heap.get? b = some o → h.get? b = some o) → h.IsGen a g := fun q => m.gen.keeps q
  unfold collect
  refine wpAny_bind (wpAny_runValue (codeAny_builtin PySem.F.entry_proto_collect ?_))
  rw [Around.under_plainId PySem.F.plain_proto_collect _]
  show wpAny _ A.in1 (newList [] >>= fun l => again (.builtin "list.__iadd__" ⟨[l, .ref a], []⟩)) _ _ s5
  refine wpAny_bind (wpAny_newObj_type ?_ (by show 0 ≤ sizeLine; decide))
  refine wpAny_pure ⟨plainId_quiet PySem.F.plain_list_iadd _, codeAny_builtin PySem.F.entry_list_iadd ?_⟩
  rw [Around.under_plainId PySem.F.plain_list_iadd _]
  show wpAny _ A.in1 (Builtin.List.listExtendWith (.ref s5.heap.objs.size) (.ref a) (.ref s5.heap.objs.size)) _ _ _
  unfold Builtin.List.listExtendWith
  have k1 : ∀ b o, s5.heap.get? b = some o → (s5.heap.push { cls := .type "list", data := .seq ([] : List Value).toArray }).get? b = some o := fun b o e => Heap.get?_push_of_some _ e
  refine wpAny_bind (wpAny_typeOf (Heap.IsGen.typeIs (s := { s5 with heap := _ }) (hT k1)) ?_)
  have h1 : Builtin.List.listSameRef (.ref s5.heap.objs.size) (.ref a) = false := by simp [Builtin.List.listSameRef, hSa]
  have h2 : (Value.type "generator" == Value.type "list") = false := by decide
  have h3 : (Value.type "generator" == Value.type "tuple") = false := by decide
  simp only [h1, h2, h3, Bool.or_false, Bool.false_eq_true, if_false]
  refine wpAny_bind (wpAny_pyIter_gen (s := { s5 with heap := _ }) (hT k1) ?_)
  refine wpAny_bind (wpAny_holding ?_)
  unfold Builtin.List.listLengthHint
  refine wpAny_bind (wpAny_specialOf (Heap.IsGen.typeIs (s := { s5 with heap := _ }) (hT k1)) PySem.F.gen_no_len ?_)
  show wpAny _ A.in1 (specialOf (Value.ref a) (Str.ofString "__length_hint__") >>= _) _ _ _
  refine wpAny_bind (wpAny_specialOf (Heap.IsGen.typeIs (s := { s5 with heap := _ }) (hT k1)) PySem.F.gen_no_hint ?_)
  refine wpAny_pure ?_
  show wpAny _ A.in1 (rule "list.extend.makes-room" >>= fun _ => Builtin.List.listTouch (.ref s5.heap.objs.size) >>= fun _ =>
    again (.builtin "list.extend.loop" ⟨[.ref s5.heap.objs.size, .ref a, .ref s5.heap.objs.size], []⟩)) _ _ _
  refine wpAny_bind (wpAny_rule ?_)
  have hS1 : (s5.heap.push { cls := .type "list", data := .seq ([] : List Value).toArray }).get? s5.heap.objs.size = some { cls := .type "list", data := .seq ([] : List Value).toArray } := Heap.get?_push_size _ rfl
  refine wpAny_bind ?_
  show wpAny _ A.in1 (updateSeq s5.heap.objs.size (·.push .none) >>= fun _ => updateSeq s5.heap.objs.size (·.pop)) _ _ _
  refine wpAny_bind (wpAny_updateSeq hS1 rfl ?_)
  have hS2 := Heap.get?_update_self (Obj.mapSeq (·.push Value.none)) hS1 rfl
  refine wpAny_updateSeq hS2 rfl ?_
  have hS3 := Heap.get?_update_self (Obj.mapSeq (·.pop)) hS2 rfl
  have up : ∀ (h : Heap) (f : Obj → Obj), (∀ b o, s5.heap.get? b = some o → h.get? b = some o) → ∀ b o, s5.heap.get? b = some o → (h.update s5.heap.objs.size f).get? b = some o := fun h f q b o e =>
    (Heap.get?_update_other _ _ (Ne.symm (Nat.ne_of_lt (Heap.lt_size e)))).trans (q b o e)
  have k3 := up _ (Obj.mapSeq (·.pop)) (up _ (Obj.mapSeq (·.push Value.none)) k1)
  refine wpAny_pure ⟨plainId_quiet PySem.F.plain_extend_loop _, ext_loop (ys := ys) (W := W) (Qe := Qe) m (A := A) hr.hd (by have h : A.depth + 3 * (k + 1) + 5 < recursionLimit := hr.dp; omega) hz hSa (fun s' acc c H' I eS hv q => ?_) ys.length _ #[] _ (hT k3) (m.lim.keeps k3) hS3 (by rw [Nat.sub_self]; exact .nil) (Nat.le_refl _) ⟨_, m.fresh, rfl, ?_⟩⟩
  · show wpAny _ A (load s5.heap.objs.size >>= _) _ _ s'
    refine wpAny_bind (wpAny_load eS ?_)
    exact wpAny_pure (hQ s' _ H' I hv q)
  · refine m.seg ok hN hxN (A := A.in1.in1) hr.hd hfr (hel _ ?_) (S := [s5.heap.objs.size]) (fun b z => by rw [List.mem_singleton.mp z]; exact ha) R w _ rfl (allBare_setGen (s := { s5 with heap := _ }) m.bare rfl) k3 (fun b z => by rw [List.mem_singleton.mp z]; exact ⟨_, hS3, fun v q => by cases q⟩)
    exact hr.deeper _
end
end GX
end

section
set_option Elab.async false
set_option linter.all false
set_option maxRecDepth 100000
set_option maxHeartbeats 2000000
namespace GX
open PySem PySem.Spec PyProof.Rows L2 GenW
open AutoSeq1 (wpAny_loadPart')
section
variable {X : Cx}
theorem room4 {k : Nat} {A : Around} (r : Room (k + 2) A) : Room (k + 1) A.in1.in1.in1.in1 :=
  ⟨r.hd, by have h : A.depth + 3 * (k + 2) + 5 < recursionLimit := r.dp; show A.depth + 3 * (k + 1) + 5 < _; omega, by have h : A.units + 16 * (k + 2) + 200 < cLine := r.un; show A.units + 1 + 1 + 1 + 1 + 16 * (k + 1) + 200 < _; omega⟩
theorem room3 {k : Nat} {A : Around} (r : Room (k + 2) A) : Room (k + 1) A.in1.in1.in1 :=
  ⟨r.hd, by have h : A.depth + 3 * (k + 2) + 5 < recursionLimit := r.dp; show A.depth + 3 * (k + 1) + 5 < _; omega, by have h : A.units + 16 * (k + 2) + 200 < cLine := r.un; show A.units + 1 + 1 + 1 + 16 * (k + 1) + 200 < _; omega⟩
/-- what is handed out, in order, is ys; then Qe -/
def tSeqG (P : Addr) (wi : TI) (te : TE) (Qf : List V → Hp → Prop) : L2.St → Hp → Prop := fun σ H => wi σ H fun J H1 => GxR.TabG H1 P ∧ ∀ H2, GxR.Tabbed P H1 H2 → ∃ (ys : List V) (W : Nat → Hp → Prop), ys.length ≤ sizeLine ∧ W 0 H2 ∧
  GTurn J te σ ys.length W (fun i y H3 => ys[i]? = some y ∧ W (i + 1) H3) (Qf ys)
def tTupG (P : Addr) (wi : TI) (te : TE) : TE := fun σ H Q => tSeqG P wi te (fun ys H3 => ∀ p, H3 p = none → Q (.ref p) (upd H3 p (.tup ys))) σ H
/-- tuple(elt for x in iter) -/
theorem pe_tupG {c P : Addr} {elt iter : Expr} {x : Str} {px p pos gpos : Pos} {scope : Scope} {wi : TI} {te : TE} {k : Nat}
    (hr : Room (k + 2) X.A) (hg : Gl X "tuple") (hm : X.mg "tuple" = none) (TB : GxR.TabB X.base X.mg c P) (hcode : X.env.code = .ref c) (hN : X.N.Nodup) (hfr : X.A.frames = some X.stack) (ok : GOk X.N X.env.scope scope x) (hxN : x ∉ X.N) (hi : PI X (.Name x px) iter wi)
    (hel : ∀ (A : Around) (s : Shared) (H : Hp) (C : Addr) (code : Value) (fp : List Addr), Room k (gcx X scope x A s H C code fp).A → PE (gcx X scope x A s H C code fp) elt te)
    (hs : ∀ v, genFold iter X.env v = pure v := by intro _; rfl)
    (he : starEach [.GeneratorExp elt [⟨.Name x px, iter, [], 0⟩] scope gpos] X.env = (false, eval (.GeneratorExp elt [⟨.Name x px, iter, [], 0⟩] scope gpos) X.env) :: starEach [] X.env := by rfl) :
    PE X (.Call (.Name "tuple" p) [.GeneratorExp elt [⟨.Name x px, iter, [], 0⟩] scope gpos] [] pos) (tTupG P wi te) := by
  refine ⟨fun pins s σ H Q I h => ?_⟩
  refine wpAny_Call_Name_kw (ld_blt I hg hm (show bootBuiltins "tuple" = some (.type "tuple") by decide +kernel) ?_)
  refine PyProof.Rows.callWith_type1 ?_ he rfl
  rw [he]
  show wpAny _ _ (spliced ((false, eval (.GeneratorExp elt [⟨.Name x px, iter, [], 0⟩] scope gpos) X.env) :: backTo pos (starEach [] X.env))) _ _ s
  refine Calls.spliced_cons (make_gen hr.hd hr.depth TB hcode ok hi hs I h fun J H1 H2 s4 s5 a it g go code fp tn hR hT m => ?_)
  refine Calls.spliced_nil ?_
  obtain ⟨ys, W, hz, w0, R⟩ := hR H2 hT
  refine callType_codes (Q₁ := fun obj s₁ => s₁.TypeIs obj "tuple" ∧ EP X pins σ Q obj s₁) PySem.F.called_tuple (PySem.F.typeCall_tuple_1 _) PySem.F.entry_object_init ?_ fun obj s₁ h₁ =>
    ⟨h₁.1, PySem.F.args_object_init_2 obj _, object_init_meets PySem.F.called_tuple.init.lookup PySem.F.called_tuple.made (by decide) X.prog X.w X.A.in1 _ s₁ ⟨h₁.1, rfl, h₁.2⟩⟩
  refine codeAny_of_tree ?_
  show wpAny _ X.A.in1.in1 (do checkBuiltinCall "tuple.__new__" ⟨[.type "tuple", .ref a], []⟩; again (.builtin "tuple.__new__" ⟨[.type "tuple", .ref a], []⟩)) _ _ s5
  refine wpAny_bind (wpAny_of_eq (PySem.F.newCall_tuple_1 _) (wpAny_pure ⟨plainId_quiet PySem.F.plain_tuple_new _, codeAny_builtin PySem.F.entry_tuple_new ?_⟩))
  rw [Around.under_plainId PySem.F.plain_tuple_new _]
  have hsub := sub_tuple_self
  have hinit := init_tuple_lookup
  have hmh := madeHere_tuple
  have hTI : s5.TypeIs (.ref a) "generator" := Heap.IsGen.typeIs (s := s5) m.gen
  wp_walk using wpAny_typeOf hTI, collect_gen (ys := ys) (W := W) (k := k) m (A := X.A.in1.in1) (room4 hr) hfr hz ok hN hxN (fun A hA => hel A s4 H2 s4.heap.objs.size code fp hA) R w0
  intro s' us H' I' hv q
  show wpAny _ _ (Builtin.Tuple.tupleExact us.toArray >>= fun v => ret v) _ _ _
  unfold Builtin.Tuple.tupleExact
  refine wpAny_bind (wpAny_newObj_type ?_ (by have := hv.length; first | omega | (show us.toArray.size ≤ sizeLine; rw [List.size_toArray]; omega)))
  refine wpAny_pure ?_
  refine ⟨⟨_, Heap.get?_push_size _ rfl, rfl⟩, .ref s'.heap.objs.size, upd H' s'.heap.objs.size (.tup ys), I'.laid (t' := s'.toks) (fun b u e => Heap.get?_push_of_some _ e) (Nat.le_refl _) ?_, rfl, q _ (I'.hok.fresh (Nat.le_refl _))⟩
  exact ⟨hz, us, hv, ⟨_, Heap.get?_push_size _ rfl, rfl, _, rfl⟩⟩
/-- sep.join(elt for x in iter) -/
def tJoinG (P : Addr) (to : TE) (wi : TI) (te : TE) : TE := fun σ H Q => to σ H fun v H1 => ∃ sep : Str, v = .str sep ∧ tSeqG P wi te (fun ys H3 => ∃ ws : List Str, ys = ws.map V.str ∧ JoinOk sep ws = true ∧ Q (.str (Txt.join sep ws)) H3) σ H1
theorem strs_of : ∀ {ws : List Str} {us : List Value}, Vals (ws.map V.str) us → ∃ l : List (Str × Tok), strValues l = us ∧ l.map (·.1) = ws
  | [], _, r => by
    cases r
    exact ⟨[], rfl, rfl⟩
  | w :: ws, us, r => by
    cases r with
    | cons r1 r2 =>
      obtain ⟨t, rfl⟩ := r1
      obtain ⟨l, e1, e2⟩ := strs_of r2
      refine ⟨(w, t) :: l, ?_, ?_⟩
      · rw [← e1]; rfl
      · rw [← e2]; rfl
theorem pe_joinG {c P : Addr} {o elt iter : Expr} {x : Str} {px apos cpos gpos : Pos} {scope : Scope} {to : TE} {wi : TI} {te : TE} {k : Nat}
    (hr : Room (k + 2) X.A) (TB : GxR.TabB X.base X.mg c P) (hcode : X.env.code = .ref c) (hN : X.N.Nodup) (hfr : X.A.frames = some X.stack) (ok : GOk X.N X.env.scope scope x) (hxN : x ∉ X.N) (ho : PE X o to) (hi : PI X (.Name x px) iter wi)
    (hel : ∀ (A : Around) (s : Shared) (H : Hp) (C : Addr) (code : Value) (fp : List Addr), Room k (gcx X scope x A s H C code fp).A → PE (gcx X scope x A s H C code fp) elt te)
    (hs : ∀ v, genFold iter X.env v = pure v := by intro _; rfl) (hbase : attributeBase o "join" X.env (eval o X.env) = eval o X.env := by rfl)
    (hfew : ((backTo cpos (starEach [.GeneratorExp elt [⟨.Name x px, iter, [], 0⟩] scope gpos] X.env)).all (fun x => !x.1) && (backToKw cpos (keywordEach [] X.env)).all (fun x => x.1.isSome)
      && decide (([.GeneratorExp elt [⟨.Name x px, iter, [], 0⟩] scope gpos] : List Expr).length + ([] : List Keyword).length + (if ([] : List Keyword).isEmpty then 0 else 1) < 30)) = true := by rfl)
    (hline : (apos.endLine == cpos.line) = true := by rfl)
    (he : starEach [.GeneratorExp elt [⟨.Name x px, iter, [], 0⟩] scope gpos] X.env = (false, eval (.GeneratorExp elt [⟨.Name x px, iter, [], 0⟩] scope gpos) X.env) :: starEach [] X.env := by rfl)
    (hplain : (backTo cpos (starEach [] X.env)).any (·.1) = false := by rfl) :
    PE X (.Call (.Attribute o "join" apos) [.GeneratorExp elt [⟨.Name x px, iter, [], 0⟩] scope gpos] [] cpos) (tJoinG P to wi te) := by
  refine ⟨fun pins s σ H Q I h => ?_⟩
  refine wpAny_Call_method_late hbase hfew hline rfl (thn (ho.run pins s σ H _ I h) fun v s1 ⟨x', H1, I1, r1, sep, ex, q1⟩ => ?_)
  subst ex
  obtain ⟨tk, rfl⟩ := (show ∃ t, v = Value.str sep t from r1)
  refine ⟨"str", _, PySem.F.plainAttrs_str, PySem.F.slot_str_join, PySem.F.type_str_join, typeIs_str _ _ _, (fun _ e => nomatch e), ?_⟩
  rw [he]
  refine Calls.callWith_builtin (by show (false || (backTo cpos (starEach [] X.env)).any (·.1)) = false; rw [hplain] <;> rfl) (Calls.evalArgs_plain ?_)
  show wpAny _ _ (spliced ((false, eval (.GeneratorExp elt [⟨.Name x px, iter, [], 0⟩] scope gpos) X.env) :: backTo cpos (starEach [] X.env))) _ _ s1
  refine Calls.spliced_cons (make_gen hr.hd hr.depth TB hcode ok hi hs I1 q1 fun J H1 H2 s4 s5 a it g go code fp tn hR hT m => ?_)
  refine Calls.spliced_nil ?_
  obtain ⟨ys, W, hz, w0, R⟩ := hR H2 hT
  refine wpAny_call (codeAny_call_builtin PySem.F.slot_str_join.plain PySem.F.entry_str_join (PySem.F.slot_str_join.check _ _ _ _ _ _ _ _ (typeIs_str _ _ _) (PySem.F.args_str_join_2 _ _) ?_))
  show wpAny _ X.A.in1 (Builtin.«str.join» ⟨[.str sep tk, .ref a], []⟩) _ _ s5
  rw [join_tree_other]
  refine wpAny_bind (wpAny_typeOf (Heap.IsGen.typeIs (s := s5) m.gen) ?_)
  show wpAny _ X.A.in1 ((pyIter (.ref a)).tryCatch _ >>= fun it => collect it >>= fun items => joinTail sep items) _ _ s5
  refine wpAny_bind (wpAny_tryCatch (wpAny_pyIter_gen m.gen ?_))
  refine wpAny_bind (collect_gen (ys := ys) (W := W) (k := k) m (A := X.A.in1) (room3 hr) hfr hz ok hN hxN (fun A hA => hel A s4 H2 s4.heap.objs.size code fp hA) R w0 fun s' us H' I' hv q => ?_)
  obtain ⟨ws, ey, jok, q⟩ := q
  subst ey
  obtain ⟨l, hl, hlw⟩ := strs_of hv
  rw [← hl]
  have hok : JoinOk sep (l.map (·.1)) = true := by rw [hlw]; exact jok
  unfold JoinOk at hok
  rw [Bool.not_eq_true'] at hok
  have g0 : Gives (joinTail sep (strValues l)) (joinMade sep l) := by
    have g0 := gives_joinTail sep l hok
    cases l with
    | nil => exact g0
    | cons p r => cases r with
      | nil => exact g0
      | cons q r' => exact g0
  refine g0 X.prog X.w X.A (wants (EP X pins σ Q) X.xe) s' (post_join l ⟨joinFit_length hok, fun t' k' => ?_⟩)
  rw [hlw]
  exact ⟨.str _, H', I'.tok k', ⟨t', rfl⟩, q⟩

/-! ### the turns one uses -/
theorem turn_tup {K : PySem.W.Frag} {a : Addr} {xs : List V} {te : TE} {σ : L2.St} {Yv : Nat → V → Hp → Prop} {Qe : Hp → Prop} {N : Nat} (Pv : Nat → Hp → Prop) (hN : N = xs.length) (hl : ∀ i H, i ≤ xs.length → Pv i H → SqT K H a xs)
    (hs : ∀ i x H, xs[i]? = some x → Pv i H → te (σ ++ [some x]) H fun y H3 => Yv i y H3) (hd : ∀ H, Pv xs.length H → Qe H) : GTurn (Itt K a) te σ N (fun i H => i ≤ xs.length ∧ Pv i H) Yv Qe := by
  subst hN
  rintro i H ⟨hi, p⟩
  have q := hl i H hi p
  by_cases hlt : i < xs.length
  · refine .inr ⟨hlt, ⟨xs, xs[i], q, by simp [hlt]⟩, fun x H' y => ?_⟩
    obtain ⟨e, y⟩ := y
    subst e
    exact hs i x _ (y xs q) p
  · have e : i = xs.length := by omega
    subst e
    exact .inl ⟨rfl, ⟨xs, q, Nat.le_refl _⟩, hd H p⟩
theorem turn_lst {K : PySem.W.Frag} {a : Addr} {xs : List V} {te : TE} {σ : L2.St} {Yv : Nat → V → Hp → Prop} {Qe : Hp → Prop} {N : Nat} (Pv : Nat → Hp → Prop) (hN : N = xs.length) (hl : ∀ i H, i ≤ xs.length → Pv i H → SqL K H a xs)
    (hs : ∀ i x H, xs[i]? = some x → Pv i H → te (σ ++ [some x]) H fun y H3 => Yv i y H3) (hd : ∀ H, Pv xs.length H → Qe H) : GTurn (Itl K a) te σ N (fun i H => i ≤ xs.length ∧ Pv i H) Yv Qe := by
  subst hN
  rintro i H ⟨hi, p⟩
  have q := hl i H hi p
  by_cases hlt : i < xs.length
  · refine .inr ⟨hlt, ⟨xs, xs[i], q, by simp [hlt]⟩, fun x H' y => ?_⟩
    obtain ⟨e, y⟩ := y
    subst e
    exact hs i x _ (y xs q) p
  · have e : i = xs.length := by omega
    subst e
    exact .inl ⟨rfl, ⟨xs, q, Nat.le_refl _⟩, hd H p⟩
theorem turn_rng {lo : Int} {n N : Nat} {te : TE} {σ : L2.St} {Yv : Nat → V → Hp → Prop} {Qe : Hp → Prop} (Pv : Nat → Hp → Prop) (hN : N = n)
    (hs : ∀ i H, i < n → Pv i H → te (σ ++ [some (.int (lo + i))]) H fun y H3 => Yv i y H3) (hd : ∀ H, Pv n H → Qe H) : GTurn (Itr lo n) te σ N (fun i H => i ≤ n ∧ Pv i H) Yv Qe := by
  subst hN
  rintro i H ⟨hi, p⟩
  by_cases hlt : i < N
  · refine .inr ⟨hlt, hlt, fun x H' y => ?_⟩
    obtain ⟨e, y⟩ := y
    subst e y
    exact hs i _ hlt p
  · have e : i = N := by omega
    subst e
    exact .inl ⟨rfl, Nat.le_refl _, hd H p⟩
end
end GX
end

section
set_option linter.all false
set_option maxRecDepth 100000
/-! The mathematics of bodies: cells, bodies, what is inside; plain Lean. -/
namespace Ly
abbrev C3 := Int × Int × Int
def lt3 (a b : C3) : Prop := a.1 < b.1 ∨ (a.1 = b.1 ∧ (a.2.1 < b.2.1 ∨ (a.2.1 = b.2.1 ∧ a.2.2 < b.2.2)))
instance (a b : C3) : Decidable (lt3 a b) := by unfold lt3; infer_instance
theorem lt3_irrefl (a : C3) : ¬ lt3 a a := by unfold lt3; omega
theorem lt3_trans {a b c : C3} (h : lt3 a b) (k : lt3 b c) : lt3 a c := by unfold lt3 at *; omega
theorem lt3_asymm {a b : C3} (h : lt3 a b) : ¬ lt3 b a := by unfold lt3 at *; omega
theorem c3_ext {a b : C3} (h1 : a.1 = b.1) (h2 : a.2.1 = b.2.1) (h3 : a.2.2 = b.2.2) : a = b := by
  obtain ⟨x, y, z⟩ := a
  obtain ⟨x', y', z'⟩ := b
  simp only at h1 h2 h3
  rw [h1, h2, h3]
theorem lt3_tri {a b : C3} (h : ¬ lt3 a b) (n : a ≠ b) : lt3 b a := by
  have q : ¬ (a.1 = b.1 ∧ a.2.1 = b.2.1 ∧ a.2.2 = b.2.2) := fun ⟨h1, h2, h3⟩ => n (c3_ext h1 h2 h3)
  unfold lt3 at *
  omega
def Asc (l : List C3) : Prop := l.Pairwise lt3
theorem asc_cons {a : C3} {l : List C3} : Asc (a :: l) ↔ (∀ b ∈ l, lt3 a b) ∧ Asc l := List.pairwise_cons
theorem asc_ext : ∀ {l m : List C3}, Asc l → Asc m → (∀ c, c ∈ l ↔ c ∈ m) → l = m
  | [], [], _, _, _ => rfl
  | [], b :: m, _, _, h => absurd ((h b).mpr List.mem_cons_self) (by simp)
  | a :: l, [], _, _, h => absurd ((h a).mp List.mem_cons_self) (by simp)
  | a :: l, b :: m, hl, hm, h => by
    obtain ⟨h1, h2⟩ := asc_cons.mp hl
    obtain ⟨k1, k2⟩ := asc_cons.mp hm
    have e : a = b := by
      rcases List.mem_cons.mp ((h a).mp List.mem_cons_self) with e | e
      · exact e
      · rcases List.mem_cons.mp ((h b).mpr List.mem_cons_self) with e' | e'
        · exact e'.symm
        · exact absurd (h1 b e') (lt3_asymm (k1 a e))
    subst e
    rw [asc_ext h2 k2 fun c => ⟨fun hc => ?_, fun hc => ?_⟩]
    · rcases List.mem_cons.mp ((h c).mp (List.mem_cons_of_mem _ hc)) with e | e
      · subst e; exact absurd (h1 _ hc) (lt3_irrefl _)
      · exact e
    · rcases List.mem_cons.mp ((h c).mpr (List.mem_cons_of_mem _ hc)) with e | e
      · subst e; exact absurd (k1 _ hc) (lt3_irrefl _)
      · exact e
theorem asc_nodup {l : List C3} (h : Asc l) : l.Nodup := List.Pairwise.imp (fun {a b} q e => by subst e; exact lt3_irrefl _ q) h
/-- in order and each once: rising -/
theorem asc_of {l : List C3} (h : l.Pairwise fun a b => ¬ lt3 b a) (n : l.Nodup) : Asc l := by
  induction l with
  | nil => exact List.Pairwise.nil
  | cons a l ih =>
    obtain ⟨h1, h2⟩ := List.pairwise_cons.mp h
    obtain ⟨n1, n2⟩ := List.nodup_cons.mp n
    refine asc_cons.mpr ⟨fun b hb => ?_, ih h2 n2⟩
    exact lt3_tri (h1 b hb) fun e => n1 (e ▸ hb)
theorem asc_filter {l : List C3} {p : C3 → Bool} (h : Asc l) : Asc (l.filter p) := List.Pairwise.filter p h
theorem asc_map {l : List C3} {f : C3 → C3} (h : Asc l) (hf : ∀ a b, lt3 a b → lt3 (f a) (f b)) : Asc (l.map f) := List.Pairwise.map f hf h

/-- in the room -/
def InR (c : C3) : Prop := (0 ≤ c.1 ∧ c.1 ≤ 3) ∧ (0 ≤ c.2.1 ∧ c.2.1 ≤ 3) ∧ (0 ≤ c.2.2 ∧ c.2.2 ≤ 3)
instance (c : C3) : Decidable (InR c) := by unfold InR; infer_instance
def roomAt (k : Nat) : C3 := (((k : Int) / 16, (k : Int) / 4 % 4, (k : Int) % 4) : C3)
def room : List C3 := (List.range 64).map roomAt
theorem room_asc : Asc room := by
  have h : (List.range 64).Pairwise (· < ·) := List.pairwise_lt_range
  refine List.Pairwise.map roomAt ?_ (List.Pairwise.and_mem.mp h)
  intro a b ⟨ha, hb, hab⟩
  have ha := List.mem_range.mp ha
  have hb := List.mem_range.mp hb
  unfold lt3 roomAt
  simp only
  omega
theorem mem_room {c : C3} : c ∈ room ↔ InR c := by
  constructor
  · intro h
    obtain ⟨k, hk, e⟩ := List.mem_map.mp h
    have hk := List.mem_range.mp hk
    subst e
    unfold InR roomAt
    simp only
    omega
  · intro h
    obtain ⟨x, y, z⟩ := c
    unfold InR at h
    simp only at h
    refine List.mem_map.mpr ⟨(16 * x + 4 * y + z).toNat, List.mem_range.mpr (by omega), ?_⟩
    unfold roomAt
    refine c3_ext ?_ ?_ ?_ <;> simp only <;> omega

inductive Bd where
  | block (x y z a b c : Int)
  | cells (cs : List C3)
  | wth (p q : Bd)
  | common (p q : Bd)
  | less (p q : Bd)
  | moved (d : C3) (p : Bd)
  | turnX (p : Bd)
  | turnY (p : Bd)
  | turnZ (p : Bd)
/-- how many bodies -/
def nb : Bd → Nat
  | .block .. => 1
  | .cells _ => 1
  | .wth p q => 1 + nb p + nb q
  | .common p q => 1 + nb p + nb q
  | .less p q => 1 + nb p + nb q
  | .moved _ p => 1 + nb p
  | .turnX p => 1 + nb p
  | .turnY p => 1 + nb p
  | .turnZ p => 1 + nb p
/-- how deep within one another -/
def dp : Bd → Nat
  | .block .. => 1
  | .cells _ => 1
  | .wth p q => 1 + max (dp p) (dp q)
  | .common p q => 1 + max (dp p) (dp q)
  | .less p q => 1 + max (dp p) (dp q)
  | .moved _ p => 1 + dp p
  | .turnX p => 1 + dp p
  | .turnY p => 1 + dp p
  | .turnZ p => 1 + dp p
theorem nb_pos : ∀ b : Bd, 1 ≤ nb b
  | .block .. => Nat.le_refl _
  | .cells _ => Nat.le_refl _
  | .wth p q => by unfold nb; omega
  | .common p q => by unfold nb; omega
  | .less p q => by unfold nb; omega
  | .moved _ p => by unfold nb; omega
  | .turnX p => by unfold nb; omega
  | .turnY p => by unfold nb; omega
  | .turnZ p => by unfold nb; omega
theorem dp_pos : ∀ b : Bd, 1 ≤ dp b
  | .block .. => Nat.le_refl _
  | .cells _ => Nat.le_refl _
  | .wth p q => by unfold dp; omega
  | .common p q => by unfold dp; omega
  | .less p q => by unfold dp; omega
  | .moved _ p => by unfold dp; omega
  | .turnX p => by unfold dp; omega
  | .turnY p => by unfold dp; omega
  | .turnZ p => by unfold dp; omega
theorem dp_le_nb : ∀ b : Bd, dp b ≤ nb b
  | .block .. => Nat.le_refl _
  | .cells _ => Nat.le_refl _
  | .wth p q => by have h1 := dp_le_nb p; have h2 := dp_le_nb q; unfold nb dp; omega
  | .common p q => by have h1 := dp_le_nb p; have h2 := dp_le_nb q; unfold nb dp; omega
  | .less p q => by have h1 := dp_le_nb p; have h2 := dp_le_nb q; unfold nb dp; omega
  | .moved _ p => by have h1 := dp_le_nb p; unfold nb dp; omega
  | .turnX p => by have h1 := dp_le_nb p; unfold nb dp; omega
  | .turnY p => by have h1 := dp_le_nb p; unfold nb dp; omega
  | .turnZ p => by have h1 := dp_le_nb p; unfold nb dp; omega

def add3 (d c : C3) : C3 := (c.1 + d.1, c.2.1 + d.2.1, c.2.2 + d.2.2)
def sub3 (d c : C3) : C3 := (c.1 - d.1, c.2.1 - d.2.1, c.2.2 - d.2.2)
def tX (c : C3) : C3 := (c.1, 3 - c.2.2, c.2.1)
def tY (c : C3) : C3 := (c.2.2, c.2.1, 3 - c.1)
def tZ (c : C3) : C3 := (3 - c.2.1, c.1, c.2.2)
def uX (c : C3) : C3 := (c.1, c.2.2, 3 - c.2.1)
def uY (c : C3) : C3 := (3 - c.2.2, c.2.1, c.1)
def uZ (c : C3) : C3 := (c.2.1, 3 - c.1, c.2.2)
/-- whether a cell is a body's -/
def inside : Bd → C3 → Bool
  | .block x y z a b c, k => decide ((0 ≤ k.1 - x ∧ k.1 - x < a) ∧ (0 ≤ k.2.1 - y ∧ k.2.1 - y < b) ∧ (0 ≤ k.2.2 - z ∧ k.2.2 - z < c))
  | .cells cs, k => decide (k ∈ cs)
  | .wth p q, k => inside p k || inside q k
  | .common p q, k => inside p k && inside q k
  | .less p q, k => inside p k && !inside q k
  | .moved d p, k => inside p (sub3 d k)
  | .turnX p, k => inside p (uX k)
  | .turnY p, k => inside p (uY k)
  | .turnZ p, k => inside p (uZ k)
def all (b : Bd) : List C3 := room.filter (inside b)
theorem all_asc (b : Bd) : Asc (all b) := asc_filter room_asc
theorem mem_all {b : Bd} {c : C3} : c ∈ all b ↔ InR c ∧ inside b c = true := by
  unfold all
  rw [List.mem_filter, mem_room]
theorem all_len (b : Bd) : (all b).length ≤ 64 := by
  have h := List.length_filter_le (inside b) room
  have e : room.length = 64 := by unfold room; simp
  unfold all
  omega
def Far (d : C3) : Prop := (-3 ≤ d.1 ∧ d.1 ≤ 3) ∧ (-3 ≤ d.2.1 ∧ d.2.1 ≤ 3) ∧ (-3 ≤ d.2.2 ∧ d.2.2 ≤ 3)
/-- a body of the document that stays in the room -/
def Good : Bd → Prop
  | .block x y z a b c => InR (x, y, z) ∧ (1 ≤ a ∧ x + a ≤ 4) ∧ (1 ≤ b ∧ y + b ≤ 4) ∧ (1 ≤ c ∧ z + c ≤ 4)
  | .cells cs => Asc cs ∧ ∀ c ∈ cs, InR c
  | .wth p q => Good p ∧ Good q
  | .common p q => Good p ∧ Good q
  | .less p q => Good p ∧ Good q
  | .moved d p => Far d ∧ Good p ∧ ∀ c, inside p c = true → InR (add3 d c)
  | .turnX p => Good p
  | .turnY p => Good p
  | .turnZ p => Good p
theorem add_sub (d c : C3) : add3 d (sub3 d c) = c := by
  unfold add3 sub3
  refine c3_ext ?_ ?_ ?_ <;> simp only <;> omega
theorem sub_add (d c : C3) : sub3 d (add3 d c) = c := by
  unfold add3 sub3
  refine c3_ext ?_ ?_ ?_ <;> simp only <;> omega
theorem tuX (c : C3) : tX (uX c) = c := by unfold tX uX; refine c3_ext ?_ ?_ ?_ <;> simp only <;> omega
theorem utX (c : C3) : uX (tX c) = c := by unfold tX uX; refine c3_ext ?_ ?_ ?_ <;> simp only <;> omega
theorem tuY (c : C3) : tY (uY c) = c := by unfold tY uY; refine c3_ext ?_ ?_ ?_ <;> simp only <;> omega
theorem utY (c : C3) : uY (tY c) = c := by unfold tY uY; refine c3_ext ?_ ?_ ?_ <;> simp only <;> omega
theorem tuZ (c : C3) : tZ (uZ c) = c := by unfold tZ uZ; refine c3_ext ?_ ?_ ?_ <;> simp only <;> omega
theorem utZ (c : C3) : uZ (tZ c) = c := by unfold tZ uZ; refine c3_ext ?_ ?_ ?_ <;> simp only <;> omega
theorem good_in : ∀ {b : Bd} {k : C3}, Good b → inside b k = true → InR k
  | .block x y z a b c, k, g, h => by
    unfold inside at h
    rw [decide_eq_true_eq] at h
    obtain ⟨g1, g2, g3, g4⟩ := g
    unfold InR at g1 ⊢
    simp only at g1
    omega
  | .cells cs, k, g, h => by
    unfold inside at h
    rw [decide_eq_true_eq] at h
    exact g.2 k h
  | .wth p q, k, g, h => by
    unfold inside at h
    rw [Bool.or_eq_true] at h
    rcases h with h | h
    · exact good_in g.1 h
    · exact good_in g.2 h
  | .common p q, k, g, h => by
    unfold inside at h
    rw [Bool.and_eq_true] at h
    exact good_in g.1 h.1
  | .less p q, k, g, h => by
    unfold inside at h
    rw [Bool.and_eq_true] at h
    exact good_in g.1 h.1
  | .moved d p, k, g, h => by
    have q := g.2.2 (sub3 d k) h
    rw [add_sub] at q
    exact q
  | .turnX p, k, g, h => by
    have q : InR (uX k) := good_in (b := p) g h
    unfold InR uX at *
    simp only at q
    omega
  | .turnY p, k, g, h => by
    have q : InR (uY k) := good_in (b := p) g h
    unfold InR uY at *
    simp only at q
    omega
  | .turnZ p, k, g, h => by
    have q : InR (uZ k) := good_in (b := p) g h
    unfold InR uZ at *
    simp only at q
    omega
theorem mem_good {b : Bd} (g : Good b) {c : C3} : c ∈ all b ↔ inside b c = true := by
  rw [mem_all]
  exact ⟨fun h => h.2, fun h => ⟨good_in g h, h⟩⟩
/-- what tells the cells of a body: rising, and just those inside -/
theorem all_of {b : Bd} (g : Good b) {l : List C3} (h : Asc l) (m : ∀ c, c ∈ l ↔ inside b c = true) : l = all b :=
  asc_ext h (all_asc b) fun c => (m c).trans (mem_good g).symm
theorem all_cells {cs : List C3} (g : Good (.cells cs)) : cs = all (.cells cs) := all_of g g.1 fun c => by
  unfold inside
  rw [decide_eq_true_eq]
theorem all_moved {d : C3} {p : Bd} (g : Good (.moved d p)) : (all p).map (add3 d) = all (.moved d p) := by
  refine all_of g (asc_map (all_asc p) fun a b h => ?_) fun c => ?_
  · unfold lt3 add3 at *
    simp only
    omega
  · rw [List.mem_map]
    constructor
    · rintro ⟨k, hk, rfl⟩
      show inside p (sub3 d (add3 d k)) = true
      rw [sub_add]
      exact (mem_good g.2.1).mp hk
    · intro h
      exact ⟨sub3 d c, (mem_good g.2.1).mpr h, add_sub d c⟩
theorem all_common {p q : Bd} (g : Good (.common p q)) : (all p).filter (fun c => decide (c ∈ all q)) = all (.common p q) := by
  refine all_of g (asc_filter (all_asc p)) fun c => ?_
  rw [List.mem_filter, decide_eq_true_eq, mem_good g.1, mem_good g.2]
  show _ ↔ (inside p c && inside q c) = true
  rw [Bool.and_eq_true]
theorem all_less {p q : Bd} (g : Good (.less p q)) : (all p).filter (fun c => !decide (c ∈ all q)) = all (.less p q) := by
  refine all_of g (asc_filter (all_asc p)) fun c => ?_
  rw [List.mem_filter, Bool.not_eq_true', decide_eq_false_iff_not, mem_good g.1, mem_good g.2]
  show _ ↔ (inside p c && !inside q c) = true
  rw [Bool.and_eq_true, Bool.not_eq_true', Bool.not_eq_true]
/-- of any arrangement in order, each once -/
theorem all_wth {p q : Bd} (g : Good (.wth p q)) {l : List C3} (h : l.Pairwise fun a b => ¬ lt3 b a) (n : l.Nodup) (m : ∀ c, c ∈ l ↔ c ∈ all p ++ all q) : l = all (.wth p q) := by
  refine all_of g (asc_of h n) fun c => ?_
  rw [m, List.mem_append, mem_good g.1, mem_good g.2]
  show _ ↔ (inside p c || inside q c) = true
  rw [Bool.or_eq_true]
theorem nodup_map {l : List C3} {f u : C3 → C3} (hu : ∀ c, u (f c) = c) (n : l.Nodup) : (l.map f).Nodup := by
  refine List.Pairwise.map f (fun a b h e => h ?_) n
  rw [← hu a, ← hu b, e]
theorem all_turnX {p : Bd} (g : Good (.turnX p)) {l : List C3} (h : l.Pairwise fun a b => ¬ lt3 b a) (m : l.Perm ((all p).map tX)) : l = all (.turnX p) := by
  have gp : Good p := g
  refine all_of g (asc_of h (m.nodup_iff.mpr (nodup_map utX (asc_nodup (all_asc p))))) fun c => ?_
  rw [m.mem_iff, List.mem_map]
  exact ⟨fun ⟨k, hk, e⟩ => by subst e; show inside p (uX (tX k)) = true; rw [utX]; exact (mem_good gp).mp hk, fun hc => ⟨uX c, (mem_good gp).mpr hc, tuX c⟩⟩
theorem all_turnY {p : Bd} (g : Good (.turnY p)) {l : List C3} (h : l.Pairwise fun a b => ¬ lt3 b a) (m : l.Perm ((all p).map tY)) : l = all (.turnY p) := by
  have gp : Good p := g
  refine all_of g (asc_of h (m.nodup_iff.mpr (nodup_map utY (asc_nodup (all_asc p))))) fun c => ?_
  rw [m.mem_iff, List.mem_map]
  exact ⟨fun ⟨k, hk, e⟩ => by subst e; show inside p (uY (tY k)) = true; rw [utY]; exact (mem_good gp).mp hk, fun hc => ⟨uY c, (mem_good gp).mpr hc, tuY c⟩⟩
theorem all_turnZ {p : Bd} (g : Good (.turnZ p)) {l : List C3} (h : l.Pairwise fun a b => ¬ lt3 b a) (m : l.Perm ((all p).map tZ)) : l = all (.turnZ p) := by
  have gp : Good p := g
  refine all_of g (asc_of h (m.nodup_iff.mpr (nodup_map utZ (asc_nodup (all_asc p))))) fun c => ?_
  rw [m.mem_iff, List.mem_map]
  exact ⟨fun ⟨k, hk, e⟩ => by subst e; show inside p (uZ (tZ k)) = true; rw [utZ]; exact (mem_good gp).mp hk, fun hc => ⟨uZ c, (mem_good gp).mpr hc, tuZ c⟩⟩
/-- a block's cells, as three loops tell them -/
def blk1 (x y z : Int) (c : Nat) : List C3 := (List.range c).map fun (k : Nat) => ((x, y, z + (k : Int)) : C3)
def blk2 (x y z : Int) (b c : Nat) : List C3 := (List.range b).flatMap fun (j : Nat) => blk1 x (y + (j : Int)) z c
def blk3 (x y z : Int) (a b c : Nat) : List C3 := (List.range a).flatMap fun (i : Nat) => blk2 (x + (i : Int)) y z b c
theorem mem_blk3 {x y z : Int} {a b c : Nat} {k : C3} : k ∈ blk3 x y z a b c ↔ inside (.block x y z a b c) k = true := by
  unfold inside
  rw [decide_eq_true_eq]
  constructor
  · intro h
    unfold blk3 blk2 blk1 at h
    simp only [List.mem_flatMap, List.mem_map, List.mem_range] at h
    obtain ⟨i, hi, j, hj, l, hl, e⟩ := h
    subst e
    simp only
    omega
  · intro h
    unfold blk3 blk2 blk1
    simp only [List.mem_flatMap, List.mem_map, List.mem_range]
    refine ⟨(k.1 - x).toNat, by omega, (k.2.1 - y).toNat, by omega, (k.2.2 - z).toNat, by omega, ?_⟩
    refine c3_ext ?_ ?_ ?_ <;> simp only <;> omega
theorem asc_append {l m : List C3} (h1 : Asc l) (h2 : Asc m) (h : ∀ a ∈ l, ∀ b ∈ m, lt3 a b) : Asc (l ++ m) := List.pairwise_append.mpr ⟨h1, h2, h⟩
theorem asc_blk1 (x y z : Int) (c : Nat) : Asc (blk1 x y z c) := by
  refine List.Pairwise.map (fun (k : Nat) => ((x, y, z + (k : Int)) : C3)) (fun i j h => ?_) (List.pairwise_lt_range (n := c))
  exact .inr ⟨rfl, .inr ⟨rfl, by show z + (i : Int) < z + (j : Int); omega⟩⟩
theorem asc_flat {n : Nat} {f : Nat → List C3} (h1 : ∀ i, i < n → Asc (f i)) (h2 : ∀ i j, i < j → j < n → ∀ a ∈ f i, ∀ b ∈ f j, lt3 a b) : Asc ((List.range n).flatMap f) := by
  induction n with
  | zero => exact List.Pairwise.nil
  | succ n ih =>
    rw [List.range_succ, List.flatMap_append]
    refine asc_append (ih (fun i hi => h1 i (by omega)) fun i j hij hj => h2 i j hij (by omega)) ?_ fun a ha b hb => ?_
    · rw [List.flatMap_singleton]
      exact h1 n (by omega)
    · rw [List.flatMap_singleton] at hb
      obtain ⟨i, hi, ha⟩ := List.mem_flatMap.mp ha
      exact h2 i n (List.mem_range.mp hi) (by omega) a ha b hb
theorem mem_blk1 {x y z : Int} {c : Nat} {k : C3} (h : k ∈ blk1 x y z c) : k.1 = x ∧ k.2.1 = y := by
  obtain ⟨l, _, e⟩ := List.mem_map.mp h
  subst e
  exact ⟨rfl, rfl⟩
theorem mem_blk2 {x y z : Int} {b c : Nat} {k : C3} (h : k ∈ blk2 x y z b c) : k.1 = x := by
  obtain ⟨l, _, e⟩ := List.mem_flatMap.mp h
  exact (mem_blk1 e).1
theorem asc_blk2 (x y z : Int) (b c : Nat) : Asc (blk2 x y z b c) := by
  refine asc_flat (fun i _ => asc_blk1 ..) fun i j hij _ k hk l hl => ?_
  have h1 : k.1 = x ∧ k.2.1 = y + (i : Int) := mem_blk1 hk
  have h2 : l.1 = x ∧ l.2.1 = y + (j : Int) := mem_blk1 hl
  show k.1 < l.1 ∨ (k.1 = l.1 ∧ (k.2.1 < l.2.1 ∨ (k.2.1 = l.2.1 ∧ k.2.2 < l.2.2)))
  omega
theorem asc_blk3 (x y z : Int) (a b c : Nat) : Asc (blk3 x y z a b c) := by
  refine asc_flat (fun i _ => asc_blk2 ..) fun i j hij _ k hk l hl => ?_
  have h1 : k.1 = x + (i : Int) := mem_blk2 hk
  have h2 : l.1 = x + (j : Int) := mem_blk2 hl
  show k.1 < l.1 ∨ (k.1 = l.1 ∧ (k.2.1 < l.2.1 ∨ (k.2.1 = l.2.1 ∧ k.2.2 < l.2.2)))
  omega
theorem all_block {x y z : Int} {a b c : Nat} (g : Good (.block x y z a b c)) : blk3 x y z a b c = all (.block x y z a b c) := all_of g (asc_blk3 ..) fun _ => mem_blk3
end Ly
end

section
set_option Elab.async false
set_option linter.all false
set_option maxRecDepth 100000
set_option maxHeartbeats 2000000
/-! Lists of cells: sorted at any length, membership, equality. -/
namespace GY
open PySem PySem.Spec PyProof.Rows L2 Ly
/-- a cell as data -/
def cD (c : C3) : PyData := .tuple [.int c.1, .int c.2.1, .int c.2.2]
theorem dataLt_c (a b : C3) : PySem.W.dataLt (cD a) (cD b) = decide (lt3 a b) := by
  unfold cD
  rw [PySem.W.dataLt_tuple, PySem.W.dataLt_cons (by simp [PySem.W.alike]), PySem.W.dataLt_cons (by simp [PySem.W.alike]), PySem.W.dataLt_cons (by simp [PySem.W.alike]), PySem.W.dataLt_int, PySem.W.dataLt_int, PySem.W.dataLt_int]
  have e : PyProof.Rows.lexLt itemOrd (PySem.W.keyToksAll []) (PySem.W.keyToksAll []) = false := lex_irrefl _
  rw [e]
  simp only [PyData.eqv, beq_iff_eq]
  unfold lt3
  by_cases h1 : a.1 = b.1 <;> by_cases h2 : a.2.1 = b.2.1 <;> by_cases h3 : a.2.2 = b.2.2 <;> simp [h1, h2, h3]
theorem cD_alike (a b : C3) : PySem.W.alike (cD a) (cD b) = true := by simp [cD, PySem.W.alike, PySem.W.alikeAll]
theorem cD_depth (a : C3) : (cD a).depth = 1 := by simp [cD, PyData.depth, PyData.depthAll]
theorem cD_lay (a : C3) : (cD a).canLay0 = true := by simp [cD, PyData.canLay0, PyData.canLayAll0]
theorem cD_shaped (a : C3) : SeqAt.shaped (cD a) = true := by
  show ((cD a).canLay0 && decide ((cD a).depth ≤ 64)) = true
  rw [cD_lay, cD_depth]
  rfl
theorem cDs_lay : ∀ cs : List C3, PyData.canLayAll0 (cs.map cD) = true
  | [] => by simp [PyData.canLayAll0]
  | c :: cs => by simp [PyData.canLayAll0, cD_lay c, cDs_lay cs]
theorem cDs_depth : ∀ cs : List C3, PyData.depthAll (cs.map cD) ≤ 1
  | [] => by simp [PyData.depthAll]
  | c :: cs => by
    have h1 := cDs_depth cs
    have h2 := cD_depth c
    simp only [List.map_cons, PyData.depthAll]
    omega
theorem cDs_shapedL (cs : List C3) : SeqAt.shaped (.list (cs.map cD)) = true := by
  have h1 := cDs_depth cs
  have h2 : PyData.depth (.list (cs.map cD)) ≤ 64 := by
    simp only [PyData.depth]
    omega
  show (PyData.canLay0 (.list (cs.map cD)) && decide (PyData.depth (.list (cs.map cD)) ≤ 64)) = true
  rw [Bool.and_eq_true]
  exact ⟨by simp only [PyData.canLay0]; exact cDs_lay cs, decide_eq_true h2⟩
theorem cDs_shapedT (cs : List C3) : SeqAt.shaped (.tuple (cs.map cD)) = true := by
  have h1 := cDs_depth cs
  have h2 : PyData.depth (.tuple (cs.map cD)) ≤ 64 := by
    simp only [PyData.depth]
    omega
  show (PyData.canLay0 (.tuple (cs.map cD)) && decide (PyData.depth (.tuple (cs.map cD)) ≤ 64)) = true
  rw [Bool.and_eq_true]
  exact ⟨by simp only [PyData.canLay0]; exact cDs_lay cs, decide_eq_true h2⟩
theorem cD_eqv (a b : C3) : PyData.eqv (cD a) (cD b) = decide (a = b) := by
  have e : PyData.eqv (cD a) (cD b) = ((a.1 == b.1) && ((a.2.1 == b.2.1) && ((a.2.2 == b.2.2) && true))) := by simp only [cD, PyData.eqv, PyData.eqvAll]
  rw [e]
  by_cases h : a = b
  · subst h
    simp
  · rw [decide_eq_false h]
    by_cases h1 : a.1 = b.1
    · by_cases h2 : a.2.1 = b.2.1
      · by_cases h3 : a.2.2 = b.2.2
        · exact absurd (c3_ext h1 h2 h3) h
        · simp [h3]
      · simp [h2]
    · simp [h1]
theorem any_eqv (c : C3) (cs : List C3) : ((cs.map cD).any fun z => PyData.eqv z (cD c)) = decide (c ∈ cs) := by
  induction cs with
  | nil => simp
  | cons b cs ih =>
    rw [List.map_cons, List.any_cons, ih, cD_eqv]
    by_cases h : b = c
    · subst h; simp
    · have h' : ¬ c = b := fun e => h e.symm
      simp [h, h']
/-- the list (the tuple) of these cells -/
abbrev CellsL (K : PySem.W.Frag) (H : Hp) (v : V) (cs : List C3) : Prop := Dp K H v (.list (cs.map cD))
abbrev CellsT (K : PySem.W.Frag) (H : Hp) (v : V) (cs : List C3) : Prop := Dp K H v (.tuple (cs.map cD))
/-- item by item -/
def Items (K : PySem.W.Frag) (H : Hp) (xs : List V) (cs : List C3) : Prop := DpAll K H xs (cs.map cD)
theorem Items.length {K : PySem.W.Frag} {H : Hp} : ∀ {xs : List V} {cs : List C3}, Items K H xs cs → xs.length = cs.length
  | [], [], _ => rfl
  | [], _ :: _, h => by cases h
  | _ :: _, [], h => by cases h
  | x :: xs, c :: cs, h => by
    cases h with
    | cons h1 h2 =>
      have e := Items.length (xs := xs) (cs := cs) h2
      simp [e]
theorem Items.get {K : PySem.W.Frag} {H : Hp} : ∀ {xs : List V} {cs : List C3} {i : Nat} {x : V}, Items K H xs cs → xs[i]? = some x → ∃ c, cs[i]? = some c ∧ Dp K H x (cD c)
  | [], _, _, _, _, e => by simp at e
  | _ :: _, [], _, _, h, _ => by cases h
  | y :: xs, c :: cs, i, x, h, e => by
    cases h with
    | cons h1 h2 =>
      cases i with
      | zero =>
        have e : y = x := by simpa using e
        subst e
        exact ⟨c, rfl, h1⟩
      | succ i => exact Items.get (xs := xs) (cs := cs) h2 (by simpa using e)
theorem Items.append {K : PySem.W.Frag} {H : Hp} : ∀ {xs ys : List V} {cs ds : List C3}, Items K H xs cs → Items K H ys ds → Items K H (xs ++ ys) (cs ++ ds)
  | [], _, [], _, _, h => h
  | [], _, _ :: _, _, h, _ => by cases h
  | _ :: _, _, [], _, h, _ => by cases h
  | x :: xs, ys, c :: cs, ds, h, k => by
    cases h with
    | cons h1 h2 => exact .cons h1 (Items.append (xs := xs) (cs := cs) h2 k)
theorem Items.one {K : PySem.W.Frag} {H : Hp} {x : V} {c : C3} (h : Dp K H x (cD c)) : Items K H [x] [c] := .cons h .nil
/-- the triple of three ints -/
theorem dp_c {K : PySem.W.Frag} {H : Hp} {p : Addr} {c : C3} (h : SqT K H p [.int c.1, .int c.2.1, .int c.2.2]) : Dp K H (.ref p) (cD c) := .tup h (.cons (.int _) (.cons (.int _) (.cons (.int _) .nil)))
theorem of_dp_c {K : PySem.W.Frag} {H : Hp} {v : V} {c : C3} (h : Dp K H v (cD c)) : ∃ p, v = .ref p ∧ SqT K H p [.int c.1, .int c.2.1, .int c.2.2] := by
  cases h with
  | tup hs ha =>
    cases ha with
    | cons a1 a2 =>
      cases a2 with
      | cons b1 b2 =>
        cases b2 with
        | cons c1 c2 =>
          cases c2
          cases a1
          cases b1
          cases c1
          exact ⟨_, rfl, hs⟩
theorem of_cellsL {K : PySem.W.Frag} {H : Hp} {v : V} {cs : List C3} (h : CellsL K H v cs) : ∃ p xs, v = .ref p ∧ SqL K H p xs ∧ Items K H xs cs := by
  have h : Dp K H v (.list (cs.map cD)) := h
  cases h with
  | lst hs ha => exact ⟨_, _, rfl, hs, ha⟩
theorem of_cellsT {K : PySem.W.Frag} {H : Hp} {v : V} {cs : List C3} (h : CellsT K H v cs) : ∃ p xs, v = .ref p ∧ SqT K H p xs ∧ Items K H xs cs := by
  have h : Dp K H v (.tuple (cs.map cD)) := h
  cases h with
  | tup hs ha => exact ⟨_, _, rfl, hs, ha⟩

section
variable {X : Cx}
/-- x in t, t a tuple of data -/
def rInDT (K : PySem.W.Frag) : R2 := fun x y H Q => ∃ d ds, Dp K H x d ∧ Dp K H y (.tuple ds) ∧ SeqAt.shaped d = true ∧ SeqAt.shaped (.tuple ds) = true ∧ Q (.bl (ds.any fun z => PyData.eqv z d)) H
theorem op_inDT (hu : X.A.units + 65 < cLine) : OpR X (compareOp .In) (rInDT X.K) := by
  intro pins s σ H x y v u Q I rx ry h
  obtain ⟨d, ds, hd, he, sd, se, q⟩ := h
  obtain ⟨as, r1⟩ := Dp.reads I d x v hd rx
  obtain ⟨bs, r2⟩ := Dp.reads I (.tuple ds) y u he ry
  exact SeqAt.in_tuple_reads r2 r1 (SeqAt.canLay_of_shaped se) (SeqAt.canLay_of_shaped sd) (room_in_shaped sd hu) ⟨.bl _, H, I, rfl, q⟩

/-! ### sorted -/
theorem le_trans3 : ∀ a b c : C3, decide (¬ lt3 b a) = true → decide (¬ lt3 c b) = true → decide (¬ lt3 c a) = true := by
  intro a b c h1 h2
  rw [decide_eq_true_eq] at *
  intro h
  unfold lt3 at *
  omega
theorem le_total3 : ∀ a b : C3, (decide (¬ lt3 b a) || decide (¬ lt3 a b)) = true := by
  intro a b
  rw [Bool.or_eq_true, decide_eq_true_eq, decide_eq_true_eq]
  by_cases h : lt3 b a
  · exact .inr (lt3_asymm h)
  · exact .inl h
theorem leC {β : Type} (k : β → C3) : PySem.W.dataLe false (fun b => cD (k b)) = fun a b => decide (¬ lt3 (k b) (k a)) := by
  rw [PySem.W.dataLe_eq]
  funext a b
  show (!PySem.W.dataLt (cD (k b)) (cD (k a))) = _
  rw [dataLt_c]
  simp
/-- sorted(xs) of cells, any length: some arrangement in order -/
def rSortC (K : PySem.W.Frag) : List V → Hp → VK → Prop := fun vs H Q => ∃ (v : V) (cs : List C3), vs = [v] ∧ CellsL K H v cs ∧ cs.length ≤ sizeLine ∧
  ∀ (ys : List V) (ds : List C3) (p : Addr), ds.Perm cs → (ds.Pairwise fun a b => ¬ lt3 b a) → Items K H ys ds → H p = none → Q (.ref p) (upd H p (.lst ys))
theorem each_of {K : PySem.W.Frag} {H : Hp} : ∀ {xs : List V} {us : List Value} {cs : List C3}, Vals xs us → Items K H xs cs → PySem.W.EachIs (fun (u : Value) (b : V × C3) => RelV b.1 u ∧ Dp K H b.1 (cD b.2)) us (xs.zip cs)
  | [], _, _, r, h => by
    cases r
    exact .nil
  | _ :: _, _, [], _, h => by cases h
  | x :: xs, _, c :: cs, r, h => by
    cases r with
    | cons r1 r2 =>
      cases h with
      | cons h1 h2 => exact .cons ⟨r1, h1⟩ (each_of (xs := xs) (cs := cs) r2 h2)
theorem of_each {K : PySem.W.Frag} {H : Hp} : ∀ {us : List Value} {bs : List (V × C3)}, PySem.W.EachIs (fun (u : Value) (b : V × C3) => RelV b.1 u ∧ Dp K H b.1 (cD b.2)) us bs → Vals (bs.map (·.1)) us ∧ Items K H (bs.map (·.1)) (bs.map (·.2))
  | _, _, .nil => ⟨.nil, .nil⟩
  | _, _, .cons h t => ⟨.cons h.1 (of_each t).1, .cons h.2 (of_each t).2⟩
theorem zip_snd : ∀ {xs : List V} {cs : List C3}, xs.length = cs.length → (xs.zip cs).map (·.2) = cs
  | [], [], _ => rfl
  | [], _ :: _, h => by simp at h
  | _ :: _, [], h => by simp at h
  | x :: xs, c :: cs, h => by
    have e := zip_snd (xs := xs) (cs := cs) (by simpa using h)
    simp [e]
theorem cr_sortC (hu : X.A.units + 64 < cLine) : CallR X (.builtin "sorted") (rSortC X.K) := by
  intro pins s σ H vs us Q I r h
  obtain ⟨v, cs, rfl, hc, hl, q⟩ := h
  obtain ⟨a, xs, rfl, hs, hi⟩ := of_cellsL hc
  cases r with
  | cons r1 r2 =>
    cases r2
    cases r1
    obtain ⟨its, rv, pl, hz⟩ := I.list hs
    have hlen := hi.length
    have e := each_of rv hi
    have er : PySem.W.EachIs (fun v b => ∃ as, Reads s.heap v ((fun b : V × C3 => cD b.2) b) as) its (xs.zip cs) := e.mono fun u b h => Dp.reads I (cD b.2) b.1 u h.2 h.1
    have hbl : (xs.zip cs).length = cs.length := by rw [List.length_zip, hlen, Nat.min_self]
    refine PySem.W.sorted_data (enc := fun b : V × C3 => cD b.2) pl.isList e er (PySem.W.AllAlike.of fun b b' => cD_alike _ _) (PySem.W.Sortable.tuples fun b => ⟨_, _, rfl⟩) (by rw [hbl]; exact hl)
      (fun b _ => by rw [cD_depth]; omega) fun out ho eo => ?_
    obtain ⟨c, hc2⟩ := sortedAll_at s.heap its (List.toArray out)
    rw [leC] at eo
    have pm := List.mergeSort_perm (xs.zip cs) (fun a b => decide (¬ lt3 b.2 a.2))
    have so := List.pairwise_mergeSort (le := fun (a b : V × C3) => decide (¬ lt3 b.2 a.2)) (fun a b c => le_trans3 a.2 b.2 c.2) (fun a b => le_total3 a.2 b.2) (xs.zip cs)
    obtain ⟨ev, ei⟩ := of_each eo
    have ky : ∀ b o, s.heap.get? b = some o → (sortedAll s.heap its (List.toArray out)).get? b = some o := fun _ _ => sortedAll_old
    have hlz : ((List.mergeSort (xs.zip cs) fun a b => decide (¬ lt3 b.2 a.2)).map (·.1)).length ≤ sizeLine := by
      rw [List.length_map, pm.length_eq, hbl]
      exact hl
    have hnew : H (s.heap.objs.size + 1) = none := I.hok.fresh (Nat.le_succ _)
    refine ⟨.ref (s.heap.objs.size + 1), _, I.laid (t' := s.toks) (o := .lst ((List.mergeSort (xs.zip cs) fun a b => decide (¬ lt3 b.2 a.2)).map (·.1))) ky (Nat.le_succ _) ⟨hlz, out, c, ev, hc2⟩, rfl, ?_⟩
    refine q _ _ _ ?_ ?_ ei hnew
    · have := pm.map (·.2)
      rw [zip_snd hlen] at this
      exact this
    · refine List.Pairwise.map _ (fun a b h => ?_) so
      simpa using h
end
end GY
end

section
set_option Elab.async false
set_option linter.all false
set_option maxRecDepth 100000
set_option maxHeartbeats 2000000
/-! Sets of tuples with up to 64 of them (the library's: below 64): one more put, found ones. -/
namespace GZ
open PySem PySem.Spec PyProof.Rows L2
section
variable {P : Program} {w : World} {A : Around} {E : Value → Shared → Prop} {s : Shared}
/-- the set at a holds L, at most 64 -/
structure SQ (P : Program) (w : World) (h : Heap) (a : Addr) (L : List (Addr × List Int)) (es : Array (Int × Value)) (ep : Nat) (t : SetTable) : Prop where
  ob : ∃ o, h.get? a = some o ∧ o.ExactSet ∧ o.data = .set es ep t
  rows : es.toList = rowsOf P w L
  tab : TabOk t (L.map fun p => thash P w p.2)
  nd : (L.map (·.2)).Nodup
  tup : ∀ p ∈ L, IsT P w h p.2 p.1
  plain : t.plain = true
  led : w.params.followText "set-order" = true ∨ t.led = true
  room : L.length * 5 < t.mask * 3
  few : L.length ≤ 64
variable {a : Addr} {L : List (Addr × List Int)} {es : Array (Int × Value)} {ep : Nat} {t : SetTable}
theorem SQ.of (R : SetTR P w s.heap a L es ep t) : SQ P w s.heap a L es ep t := ⟨R.ob, R.rows, R.tab, R.nd, R.tup, R.plain, R.led, R.room, Nat.le_of_lt R.few⟩
theorem SQ.tr (R : SQ P w s.heap a L es ep t) (h : L.length < 64) : SetTR P w s.heap a L es ep t := ⟨R.ob, R.rows, R.tab, R.nd, R.tup, R.plain, R.led, R.room, h⟩
theorem SQ.keep {h h' : Heap} (R : SQ P w h a L es ep t) (ha : ∀ o, h.get? a = some o → h'.get? a = some o) (ht : ∀ p ∈ L, IsT P w h' p.2 p.1) : SQ P w h' a L es ep t := by
  obtain ⟨o, ho, r⟩ := R.ob
  exact ⟨⟨o, ha o ho, r⟩, R.rows, R.tab, R.nd, ht, R.plain, R.led, R.room, R.few⟩
theorem SQ.size {h : Heap} (R : SQ P w h a L es ep t) : es.size = L.length := by
  have q := congrArg List.length R.rows
  unfold rowsOf at q
  rw [Array.length_toList, List.length_map] at q
  exact q
theorem SQ.psz {h : Heap} (R : SQ P w h a L es ep t) : t.place.size = L.length := by
  have q := R.tab.sz
  rw [List.length_map] at q
  exact q
theorem SQ.fits {h : Heap} (R : SQ P w h a L es ep t) : t.fits es.size = true := by
  have h1 := R.psz
  have h2 := R.size
  have h3 := R.room
  unfold SetTable.fits SetTable.fill
  rw [R.tab.dm, Bool.and_eq_true, beq_iff_eq, decide_eq_true_eq]
  refine ⟨by omega, ?_⟩
  show t.place.size + 0 ≤ t.mask
  omega
theorem SQ.at {h : Heap} (R : SQ P w h a L es ep t) {i : Nat} {p : Addr × List Int} (q : L[i]? = some p) : es[i]? = some (thash P w p.2, Value.ref p.1) := by
  rw [← Array.getElem?_toList, R.rows]
  unfold rowsOf
  rw [List.getElem?_map, q] <;> rfl
theorem SQ.gw {h : Heap} (R : SQ P w h a L es ep t) : ¬ t.gaveWay = true := by
  unfold SetTable.gaveWay
  rw [mask_odd R.tab.mok]
  decide

/-- a tuple that is in is found -/
theorem found_from (R : SQ P w s.heap a L es ep t) {x : Addr} {k : List Int} (hx : IsT P w s.heap k x) (hu : A.units < cLine) {K c0 i0 : Nat} {p0 : Addr × List Int} (hKf : K < 10 * SetTable.turns t.mask)
    (hK : way t.mask (thash P w k) K ∉ t.place.toList) (hKb : ∀ c, c < K → way t.mask (thash P w k) c ∈ t.place.toList) (h0 : L[i0]? = some p0) (hk0 : p0.2 = k) (hc0 : t.place.toList[i0]? = some (way t.mask (thash P w k) c0)) (hcK : c0 < K)
    {Q : SetFound → Shared → Prop} (hin : Q (.there none) s) :
    ∀ (f c : Nat) (stand : Option SetTable.Probe), stand.getD (t.probeStart (thash P w k)) = nth t.mask (runAt t.mask (SetTable.bits (thash P w k) % (t.mask + 1)) (SetTable.bits (thash P w k))) c → c ≤ c0 → K - c < f →
      wpAny (model P w) A (setSearchFrom a (.ref x) (thash P w k) true f stand) Q E s := by
  intro f
  induction f with
  | zero => exact fun c stand _ _ hf => absurd hf (Nat.not_lt_zero _)
  | succ f ih =>
    intro c stand hst hc hf
    obtain ⟨o, ho, hex, hd⟩ := R.ob
    rw [setSearchFrom_succ]
    refine wpAny_bind (wpAny_setState_of ho hd R.fits ?_)
    dsimp only
    refine wp_if_neg R.gw ?_
    try refine wpAny_bind (wpAny_pure ?_)
    generalize hB : runAt t.mask (SetTable.bits (thash P w k) % (t.mask + 1)) (SetTable.bits (thash P w k)) = B at hst
    have hB0 : B.dummy = none := by rw [← hB] <;> rfl
    have dn : ∀ (n : Nat) (p : SetTable.Probe), p.dummy = none → (nth t.mask p n).dummy = none := by
      intro n
      induction n with
      | zero => exact fun p h => h
      | succ n ih2 =>
        intro p h
        refine ih2 (adv t.mask p) ?_
        unfold adv
        split <;> exact h
    have wj : ∀ q, (nth t.mask (nth t.mask B c) q).j = way t.mask (thash P w k) (c + q) := fun q => by
      rw [← nth_add t.mask c B q, ← hB] <;> rfl
    have hash_of : ∀ (i : Nat) p, L[i]? = some p → (fun i => (es[i]?.map (·.1)).getD 0) i = thash P w p.2 := fun i p hp => by
      show (es[i]?.map (·.1)).getD 0 = _
      rw [R.at hp] <;> rfl
    have sp := go_spec t R.tab.ris R.tab.dm (fun i => (es[i]?.map (·.1)).getD 0) (thash P w k) (10 * SetTable.turns t.mask) (K - c) _ (dn c B hB0) (by omega)
      (fun q hq => by rw [wj]; exact hKb (c + q) (by omega)) (by rw [wj, show c + (K - c) = K by omega]; exact hK)
    have met : (fun i => (es[i]?.map (·.1)).getD 0) i0 = thash P w k := (hash_of i0 p0 h0).trans (congrArg (thash P w) hk0)
    rcases sp with ⟨q, i, hq, hi, hh, hno, hpr⟩ | ⟨hno, hpr⟩
    · have hcq : c + q ≤ c0 := by
        rcases Nat.lt_or_ge c0 (c + q) with z | z
        · exact absurd met (hno (c0 - c) i0 (by omega) (by rw [wj, show c + (c0 - c) = c0 by omega]; exact hc0))
        · exact z
      have hpr2 : t.probe (fun i => (es[i]?.map (·.1)).getD 0) (thash P w k) (stand.getD (t.probeStart (thash P w k))) = some (.candidate (way t.mask (thash P w k) (c + q)) i (nth t.mask B (c + (q + 1)))) := by
        rw [hst, ← wj, nth_add t.mask c B (q + 1)]
        exact hpr
      rw [hpr2]
      dsimp only
      rw [wj] at hi
      have hil : i < L.length := by
        have h1 : i < t.place.toList.length := (List.getElem?_eq_some_iff.mp hi).1
        have h2 := R.psz
        rw [Array.length_toList] at h1
        omega
      have hp : L[i]? = some L[i] := List.getElem?_eq_getElem hil
      generalize hpe : L[i] = p at hp
      have hpt := R.tup p (List.mem_of_getElem? hp)
      have slotq : t.slot (way t.mask (thash P w k) (c + q)) = .live i := slot_live R.tab.ris hi
      have go : wpAny (model P w) A (searchRest a (.ref x) (thash P w k) true f es t (way t.mask (thash P w k) (c + q)) i (nth t.mask B (c + (q + 1)))) Q E s := by
        unfold searchRest
        rw [R.at hp]
        dsimp only
        refine wpAny_bind (wpAny_holding (wpAny_eqBool_tuple hu hpt hx ?_))
        refine wpAny_bind (wpAny_setState_of ho hd R.fits ?_)
        dsimp only
        by_cases hkk : p.2 = k
        · refine wp_if_pos (by simp [hkk]) ?_
          exact wpAny_pure hin
        · have hlt : c + q < c0 := by
            rcases Nat.lt_or_ge (c + q) c0 with z | z
            · exact z
            · exfalso
              have e : c0 = c + q := Nat.le_antisymm z hcq
              have s0 := slot_live R.tab.ris hc0
              rw [e, slotq] at s0
              injection s0 with s0
              rw [← s0, hp] at h0
              exact hkk ((congrArg Prod.snd (Option.some.inj h0)).trans hk0)
          refine wp_if_neg (by simp [hkk]) ?_
          try refine wpAny_bind (wpAny_pure ?_)
          rw [sameMem]
          dsimp only
          simp only [if_true, slotq, R.at hp]
          refine wpAny_bind (wpAny_isSame_ref_self (wpAny_bind (wpAny_pure ?_)))
          simp only [if_true]
          refine wp_if_neg (by simp [hkk]) ?_
          exact ih (c + (q + 1)) _ (by rw [hB]; rfl) (by omega) (by omega)
      by_cases hl : t.led = true
      · refine wp_if_neg (by simp [hl]) ?_
        try refine wpAny_bind (wpAny_pure ?_)
        exact go
      · refine wp_if_pos (by simp [hl]) ?_
        refine wpAny_bind (seen_tup hx (fun y hy => ?_) ?_)
        · obtain ⟨e, he, ee⟩ := List.mem_map.mp hy
          have he1 : e ∈ es ∧ e.1 = thash P w k := by simpa using he
          have he2 : e ∈ es.toList := by simpa using he1.1
          rw [R.rows] at he2
          obtain ⟨p2, hp2, e2⟩ := List.mem_map.mp he2
          exact ⟨p2.2, p2.1, by rw [← ee, ← e2], R.tup p2 hp2⟩
        · refine wp_if_neg (by decide) ?_
          try refine wpAny_bind (wpAny_pure ?_)
          exact go
    · exact absurd met (hno (c0 - c) i0 (by omega) (by rw [wj, show c + (c0 - c) = c0 by omega]; exact hc0))
theorem found_at (R : SQ P w s.heap a L es ep t) {x : Addr} {k : List Int} (hx : IsT P w s.heap k x) (hu : A.units < cLine) (hm : k ∈ L.map (·.2)) {Q : SetFound → Shared → Prop} (hin : Q (.there none) s) :
    wpAny (model P w) A (setSearch a (.ref x) (thash P w k) true) Q E s := by
  have hroom := R.room
  obtain ⟨K, hKf, hK, hKb⟩ := R.tab.first (by rw [List.length_map]; omega) (thash P w k)
  have hbig : K < 100000 := by
    have : 10 * SetTable.turns t.mask ≤ 1420 := by
      unfold SetTable.turns
      rcases R.tab.mok with e | e | e <;> omega
    omega
  obtain ⟨p0, hp0, hk0⟩ := List.mem_map.mp hm
  obtain ⟨i0, hi0, e0⟩ := List.getElem_of_mem hp0
  have h00 : L[i0]? = some p0 := by rw [List.getElem?_eq_getElem hi0, e0]
  have hi : (L.map fun p => thash P w p.2)[i0]? = some (thash P w k) := by rw [List.getElem?_map, h00, ← hk0] <;> rfl
  have hil : i0 < t.place.toList.length := by
    have h2 := R.psz
    rw [Array.length_toList]
    omega
  have hj := List.getElem?_eq_getElem hil
  obtain ⟨c0, hc0, e⟩ := R.tab.before hK hi hj
  unfold setSearch
  exact found_from R hx hu hKf hK hKb h00 hk0 (by rw [hj, e]) hc0 hin 100000 0 none rfl (Nat.zero_le _) (by omega)
end
end GZ
end

section
set_option Elab.async false
set_option linter.all false
set_option maxRecDepth 100000
set_option maxHeartbeats 2000000
namespace GZ
open PySem PySem.Spec PyProof.Rows L2
section
variable {P : Program} {w : World} {A : Around} {E : Value → Shared → Prop} {s : Shared}
variable {a : Addr} {L : List (Addr × List Int)} {es : Array (Int × Value)} {ep : Nat} {t : SetTable}
theorem SQ.ofH {h : Heap} (R : SetTR P w h a L es ep t) : SQ P w h a L es ep t := ⟨R.ob, R.rows, R.tab, R.nd, R.tup, R.plain, R.led, R.room, Nat.le_of_lt R.few⟩
theorem SQ.trH {h : Heap} (R : SQ P w h a L es ep t) (q : L.length < 64) : SetTR P w h a L es ep t := ⟨R.ob, R.rows, R.tab, R.nd, R.tup, R.plain, R.led, R.room, q⟩
/-- one that is in is added: nothing changes -/
theorem add_found (R : SQ P w s.heap a L es ep t) {x : Addr} {k : List Int} (hx : IsT P w s.heap k x) (hu : A.units < cLine) (hm : k ∈ L.map (·.2)) {Q : Bool → Shared → Prop} (hQ : Q false s) :
    wpAny (model P w) A (setAddHashed a (.ref x) (thash P w k)) Q E s := by
  obtain ⟨o, ho, hex, hd⟩ := R.ob
  unfold setAddHashed
  refine wpAny_holding ?_
  rw [show (100000 : Nat) = 99999 + 1 from rfl, setAddHashedIn_succ]
  refine wpAny_bind (wpAny_setState_of ho hd R.fits ?_)
  dsimp only
  refine wp_if_neg (by simp [byScan, Value.scannable]) ?_
  try refine wpAny_bind (wpAny_pure ?_)
  refine wpAny_bind (found_at R hx hu hm ?_)
  dsimp only
  exact wpAny_pure hQ
/-- the 64th is added: the table is as large as before -/
theorem add_last (R : SetTR P w s.heap a L es ep t) {x : Addr} {k : List Int} (hx : IsT P w s.heap k x) (hu : A.units < cLine) (hl : L.length = 63) (hn : k ∉ L.map (·.2)) {Q : Bool → Shared → Prop}
    (hQ : ∀ h' L' es' ep' t', Heap.SameBut a s.heap h' → SQ P w h' a L' es' ep' t' → L'.Perm ((x, k) :: L) → Q true { s with heap := h' }) :
    wpAny (model P w) A (setAddHashed a (.ref x) (thash P w k)) Q E s := by
  obtain ⟨o, ho, hex, hd⟩ := R.ob
  have hsl := R.size
  have hroom := R.room
  have hmask : t.mask = 127 := by
    rcases R.tab.mok with e | e | e
    · rw [e] at hroom; omega
    · rw [e] at hroom; omega
    · exact e
  unfold setAddHashed
  refine wpAny_holding ?_
  rw [show (100000 : Nat) = 99999 + 1 from rfl, setAddHashedIn_succ]
  refine wpAny_bind (wpAny_setState_of ho hd R.fits ?_)
  dsimp only
  refine wp_if_neg (by simp [byScan, Value.scannable]) ?_
  try refine wpAny_bind (wpAny_pure ?_)
  refine wpAny_bind (search_at R hx hu (fun hm => absurd hm hn) fun K hm hK hb => ?_)
  dsimp only
  refine wpAny_bind (wpAny_setState_of ho hd R.fits ?_)
  dsimp only
  obtain ⟨q1, q2, q3, q4, q5, q6, q7, q8, q9⟩ := R.tab.put hK hb
  have hp1 : (t.put (way t.mask (thash P w k) K)).1.plain = true := by rw [q6]; exact R.plain
  generalize hpt : t.put (way t.mask (thash P w k) K) = pt at q1 q3 q4 q5 q6 q7 q8 q9 hp1 ⊢
  obtain ⟨t1, p⟩ := pt
  dsimp only at q1 q3 q4 q5 q6 q7 q8 q9 hp1 ⊢
  subst q1
  first
    | (refine wpAny_bind ?_; refine wp_if_pos hp1 ?_; refine hashBy_tup hx ?_)
    | refine wp_if_pos hp1 (wpAny_bind (hashBy_tup hx ?_))
  simp only [if_true]
  have hin : (SetTable.insertAt es (SetTable.below t.place (way t.mask (thash P w k) K)) (thash P w k, Value.ref x)).toList = rowsOf P w (L.take (SetTable.below t.place (way t.mask (thash P w k) K)) ++ (x, k) :: L.drop (SetTable.below t.place (way t.mask (thash P w k) K))) := by
    rw [SetTable.toList_insertAt, rows_put, R.rows]
  generalize SetTable.below t.place (way t.mask (thash P w k) K) = b at q2 q3 hin ⊢
  have pm := put_perm L b (x, k)
  have hlen : (L.take b ++ (x, k) :: L.drop b).length = 64 := by rw [pm.length_eq, List.length_cons, hl]
  have hhs : (L.take b ++ (x, k) :: L.drop b).map (fun p => thash P w p.2) = (L.map fun p => thash P w p.2).take b ++ thash P w k :: (L.map fun p => thash P w p.2).drop b := by
    rw [List.map_append, List.map_cons, List.map_take, List.map_drop]
  rw [← hhs] at q3
  have nd1 : ((L.take b ++ (x, k) :: L.drop b).map (·.2)).Nodup := by
    refine (pm.map (·.2)).nodup_iff.mpr ?_
    rw [List.map_cons]
    exact List.nodup_cons.mpr ⟨hm, R.nd⟩
  have hes : (SetTable.insertAt es b (thash P w k, Value.ref x)).size = 64 := by
    have h := congrArg List.length hin
    unfold rowsOf at h
    rw [Array.length_toList, List.length_map, hlen] at h
    exact h
  generalize SetTable.insertAt es b (thash P w k, Value.ref x) = es1 at hin hes ⊢
  generalize L.take b ++ (x, k) :: L.drop b = L1 at pm hlen q3 nd1 hin
  refine wpAny_bind (wpAny_storeSet_of ho hd ?_ (by rw [hes, sizeLine_eq]; omega))
  have sb : Heap.SameBut a s.heap (s.heap.update a (Obj.putSet es1 t1)) := Heap.SameBut.update ..
  have ho1 := store_at (es' := es1) (t' := t1) ho hd
  generalize s.heap.update a (Obj.putSet es1 t1) = h1 at sb ho1 ⊢
  have tup1 : ∀ p ∈ L1, IsT P w h1 p.2 p.1 := fun p hp => by
    rcases List.mem_cons.mp (pm.mem_iff.mp hp) with e | hp
    · rw [e]; exact isT_same hx ho hd sb
    · exact isT_same (R.tup p hp) ho hd sb
  have hf : t1.tooFull = false := by
    unfold SetTable.tooFull
    rw [q9, List.length_map, q4, hmask, hl]
    decide
  first
    | refine wp_if_neg (by simp [hf]) ?_
    | (refine wpAny_bind ?_; refine wp_if_neg (by simp [hf]) ?_; refine wpAny_pure ?_)
  refine wpAny_pure (hQ h1 L1 es1 (ep + 1) t1 sb ⟨⟨_, ho1, ⟨hex.1, hex.2.1, hex.2.2⟩, rfl⟩, hin, q3, nd1, tup1, hp1, by rw [q5]; exact R.led, by rw [hlen, q4, hmask]; decide, by omega⟩ pm)
/-- any is added, as long as there is room below 64 -/
theorem add_any (R : SQ P w s.heap a L es ep t) {x : Addr} {k : List Int} (hx : IsT P w s.heap k x) (hu : A.units < cLine) (hr : k ∈ L.map (·.2) ∨ L.length < 64) {Q : Bool → Shared → Prop}
    (hQ : ∀ b h' L' es' ep' t', Heap.SameBut a s.heap h' → SQ P w h' a L' es' ep' t' → (k ∈ L.map (·.2) → L' = L) → (k ∉ L.map (·.2) → L'.Perm ((x, k) :: L)) → Q b { s with heap := h' }) :
    wpAny (model P w) A (setAddHashed a (.ref x) (thash P w k)) Q E s := by
  by_cases hm : k ∈ L.map (·.2)
  · exact add_found R hx hu hm (hQ false s.heap L es ep t (Heap.SameBut.refl a s.heap) R (fun _ => rfl) fun z => absurd hm z)
  · have hl : L.length < 64 := hr.resolve_left hm
    rcases Nat.lt_or_ge (L.length + 1) 64 with z | z
    · exact add_at (R.trH hl) hx hu z fun b h' L' es' ep' t' sb R' c1 c2 => hQ b h' L' es' ep' t' sb (SQ.ofH R') c1 c2
    · exact add_last (R.trH hl) hx hu (by omega) hm fun h' L' es' ep' t' sb R' pm => hQ true h' L' es' ep' t' sb R' (fun z => absurd z hm) fun _ => pm
end
end GZ
end

section
set_option Elab.async false
set_option linter.all false
set_option maxRecDepth 100000
set_option maxHeartbeats 3200000
namespace GZ
open PySem PySem.Spec PyProof.Rows L2
theorem nodup_le {α : Type} [DecidableEq α] : ∀ {l U : List α}, l.Nodup → (∀ x ∈ l, x ∈ U) → l.length ≤ U.length
  | [], _, _, _ => Nat.zero_le _
  | x :: l, U, n, h => by
    obtain ⟨n1, n2⟩ := List.nodup_cons.mp n
    have hx := h x List.mem_cons_self
    have ih := nodup_le (l := l) (U := U.erase x) n2 fun y hy => by
      have hne : y ≠ x := fun e => n1 (e ▸ hy)
      exact (List.mem_erase_of_ne hne).mpr (h y (List.mem_cons_of_mem _ hy))
    rw [List.length_erase_of_mem hx] at ih
    have hp : 0 < U.length := List.length_pos_of_mem hx
    rw [List.length_cons]
    omega
section
variable {P : Program} {w : World} {A : Around} {E : Value → Shared → Prop} {s : Shared}
/-- the loop of set.update, the keys among at most 64 -/
theorem upd_loop {I : Addr} {fp wr : List Addr} {G : Array GenState → Array GenState → Prop} {n : Nat} {Pv : Nat → Value → Prop} {St : Nat → Shared → Prop} {R : Result → Shared → Prop}
    (W : WalksS P w A.in1 I fp wr G n Pv St) (S : Addr) (hSf : S ∉ fp) (ks : List (Addr × List Int)) (U : List (List Int)) (hU : U.length ≤ 64) (hkU : ∀ p ∈ ks, p.2 ∈ U) (hn : n = ks.length) (hval : ∀ i v, Pv i v → ∃ p, ks[i]? = some p ∧ v = .ref p.1)
    (h0 : Heap) (hk : ∀ p ∈ ks, IsT P w h0 p.2 p.1) (hS0 : h0.get? S = none) (hw0 : ∀ b ∈ wr, h0.get? b = none) (hu : A.in1.units < cLine) :
    ∀ (k i : Nat) (s : Shared), n - i = k → i ≤ n → St i s → (∀ b o, h0.get? b = some o → s.heap.get? b = some o) → (∃ L es ep t, SQ P w s.heap S L es ep t ∧ Got ks i L) →
      (∀ s' L es ep t, Moved (S :: wr) G s s' → SQ P w s'.heap S L es ep t → Got ks n L → (∀ b o, h0.get? b = some o → s'.heap.get? b = some o) → R (.ok (.ret .none)) s') →
      codeAny (model P w) A (.builtin "set.update.loop" ⟨[.ref S, .ref I], []⟩) R s := by
  have hSw : S ∉ wr := fun h => hSf (W.sub _ h)
  have hsub : ∀ b ∈ wr, b ∈ S :: wr := fun b hb => List.mem_cons_of_mem _ hb
  have keepM : ∀ {s s' : Shared}, Moved wr G s s' → (∀ b o, h0.get? b = some o → s.heap.get? b = some o) → ∀ b o, h0.get? b = some o → s'.heap.get? b = some o := fun hm hkp b o e =>
    hm.heap b o (fun hb => by rw [hw0 b hb] at e; cases e) (hkp b o e)
  have few : ∀ {i : Nat} {L : List (Addr × List Int)} {p : Addr × List Int}, Got ks i L → (L.map (·.2)).Nodup → p ∈ ks → p.2 ∈ L.map (·.2) ∨ L.length < 64 := fun {i L p} g nd hp => by
    by_cases c : p.2 ∈ L.map (·.2)
    · exact .inl c
    · have q := nodup_le (l := p.2 :: L.map (·.2)) (U := U) (List.nodup_cons.mpr ⟨c, nd⟩) fun y hy => by
        rcases List.mem_cons.mp hy with e | hy
        · rw [e]; exact hkU p hp
        · obtain ⟨z, hz, e⟩ := List.mem_map.mp hy
          rw [← e]
          exact hkU z (List.mem_of_mem_take (g.sub z hz))
      rw [List.length_cons, List.length_map] at q
      exact .inr (by omega)
  intro k
  induction k with
  | zero =>
    intro i s hk' hi hst hkp ⟨L, es, ep, t, hS, g⟩ hR
    obtain rfl : i = n := by omega
    refine codeAny_builtin PyProof.Rows.F.entry_set_update_loop ?_
    rw [Around.under_plainId PyProof.Rows.F.plain_set_update_loop _]
    show wpAny _ A.in1 (pyNext (.ref I) >>= _) _ _ s
    refine wpAny_bind (W.done s _ _ hst fun s' hm => ?_)
    show wpAny _ A.in1 (ret Value.none) _ _ s'
    have hkp' := keepM hm hkp
    exact wpAny_pure (hR s' L es ep t (hm.mono hsub) (hS.keep (fun o e => hm.heap S o hSw e) fun p hp => isT_keep (hk p (List.mem_of_mem_take (g.sub p hp))) hkp') g hkp')
  | succ k ih =>
    intro i s hk' hi hst hkp ⟨L, es, ep, t, hS, g⟩ hR
    have hlt : i < n := by omega
    refine codeAny_builtin PyProof.Rows.F.entry_set_update_loop ?_
    rw [Around.under_plainId PyProof.Rows.F.plain_set_update_loop _]
    show wpAny _ A.in1 (pyNext (.ref I) >>= _) _ _ s
    refine wpAny_bind (W.item i s _ _ hlt hst fun v s' hP hst' hm => ?_)
    obtain ⟨p, hp, rfl⟩ := hval i v hP
    have hkp' := keepM hm hkp
    have hS' : SQ P w s'.heap S L es ep t := hS.keep (fun o e => hm.heap S o hSw e) fun q hq => isT_keep (hk q (List.mem_of_mem_take (g.sub q hq))) hkp'
    have hpm : p ∈ ks := List.mem_of_getElem? hp
    have hx : IsT P w s'.heap p.2 p.1 := isT_keep (hk p hpm) hkp'
    show wpAny _ A.in1 (holding [Value.ref p.1] (setAdd S (.ref p.1)) >>= _) _ _ s'
    refine wpAny_bind (wpAny_holding ?_)
    unfold setAdd
    refine wpAny_holding ?_
    refine wpAny_bind (wpAny_pyHash_tuple hu hx ?_)
    refine add_any (s := { s' with toks := s'.toks + (p.2.length + 1) }) hS' hx hu (few g hS'.nd hpm) fun b h' L' es' ep' t' hsb hS2 c1 c2 => ?_
    have g' : Got ks (i + 1) L' := by
      by_cases c : p.2 ∈ L.map (·.2)
      · rw [c1 c]; exact g.same hp c
      · exact g.more hp (c2 c)
    have hkp2 : ∀ b o, h0.get? b = some o → h'.get? b = some o := fun b o e => (hsb.2 b (fun z => by rw [z, hS0] at e; cases e)).trans (hkp' b o e)
    refine wpAny_pure ⟨plainId_quiet PyProof.Rows.F.plain_set_update_loop _, ih (i + 1) _ (by omega) hlt (W.frame _ s' _ _ hst' (Nat.le_add_right _ _) fun b hb o e => ?_) hkp2 ⟨L', es', ep', t', hS2, g'⟩ fun s'' L2 es2 ep2 t2 hm'' hS'' g'' hkp'' => ?_⟩
    · rw [hsb.2 b (fun h : b = S => hSf (by rw [← h]; exact hb))]
      exact e
    · refine hR s'' L2 es2 ep2 t2 (Moved.trans W.gtrans ((hm.mono hsub).then_heap (Nat.le_add_right _ _) fun b o hb e => ?_) hm'') hS'' g'' hkp''
      rw [hsb.2 b (fun h : b = S => hb (by rw [h]; exact List.mem_cons_self))]
      exact e

/-- what a new set is -/
abbrev newSetObj (w : World) : Obj := { cls := .type "set", dict := none, data := .set #[] 0 (.fresh 0 0 (!w.params.followText "set-order")) }
/-- its filling: what set.__init__ does with a list or a tuple that is walked by W -/
theorem set_of {vv : Value} {items : Array Value} (ks : List (Addr × List Int)) (U : List (List Int)) (hU : U.length ≤ 64) (hkU : ∀ p ∈ ks, p.2 ∈ U) {Q : Value → Shared → Prop}
    (hu : A.units + 3 < cLine)
    (hinit : ∀ (R : Result → Shared → Prop), (∀ (h' : Heap) (tk : Nat) L es ep t, SQ P w h' s.heap.objs.size L es ep t → Got ks ks.length L → (∀ b o, s.heap.get? b = some o → h'.get? b = some o) → R (.ok (.ret .none)) { s with heap := h', toks := tk }) →
      wpAny (model P w) A.in1.in1 (Builtin.«set.__init__» ⟨[.ref s.heap.objs.size, vv], []⟩) (fun fin s' => match fin with | .done f => R (.ok f) s' | .again c' => c'.quiet = true ∧ codeAny (model P w) A.in1 c' R s') (fun e s' => R (.error e) s') { s with heap := s.heap.push (newSetObj w) })
    (h : ∀ (h' : Heap) (tk : Nat) L es ep t, SQ P w h' s.heap.objs.size L es ep t → Got ks ks.length L → (∀ b o, s.heap.get? b = some o → h'.get? b = some o) → Q (.ref s.heap.objs.size) { s with heap := h', toks := tk }) :
    wpAny (model P w) A (call (.type "set") [vv]) Q E s := by
  obtain ⟨c, tl, hmro⟩ := PySem.F.called_set.mro
  have hmade := PySem.F.called_set.made
  have hsub := PySem.F.called_set.sub
  refine wpAny_call (codeAny_of_tree ?_)
  show wpAny _ _ (callAny (.type "set") _) _ _ _
  refine wpAny_pure ⟨Code.quiet_builtin _ (by decide +kernel), codeAny_builtin PySem.F.entry_type_call ?_⟩
  rw [Around.under_plain (weight_type_call_type "set" [vv] []) rfl]
  have h1 := PySem.F.called_set.notType
  have h2 := PySem.F.called_set.canCreate
  have hct := PySem.F.typeCall_set_1 vv
  repeat (any_goals (first | assumption | wp_step))
  refine codeAny_mono (code_set_led1 vv (E := E) (Q₁ := fun obj s₁ => obj = .ref s.heap.objs.size ∧ s₁ = { s with heap := s.heap.push (newSetObj w) }) ⟨rfl, rfl⟩) fun r s₁ hr => ?_
  cases r with
  | error e => exact hr
  | ok fl =>
    cases fl with
    | ret obj =>
      obtain ⟨rfl, rfl⟩ := hr
      have hS : (s.heap.push (newSetObj w)).get? s.heap.objs.size = some (newSetObj w) := Heap.get?_push_size _ rfl
      have hT : Shared.TypeIs { s with heap := s.heap.push (newSetObj w) } (.ref s.heap.objs.size) "set" := ⟨_, hS, rfl⟩
      have hli := PySem.F.called_set.init.lookup
      have hbi := PySem.F.called_set.init.bind (.ref s.heap.objs.size)
      repeat (any_goals (first | assumption | wp_step))
      refine codeAny_mono (codeAny_call_builtin (R := wants (fun r s₂ => r = .none ∧ ∃ h' tk L es ep t, s₂ = { s with heap := h', toks := tk } ∧ SQ P w h' s.heap.objs.size L es ep t ∧ Got ks ks.length L ∧
          (∀ b o, s.heap.get? b = some o → h'.get? b = some o)) E) PySem.F.called_set.init.plain PySem.F.entry_set_init (check_set_init_1 hT ?_)) fun r₂ s₂ hr₂ => ?_
      · exact hinit _ fun h' tk L es ep t a1 a2 a3 => ⟨rfl, h', tk, L, es, ep, t, rfl, a1, a2, a3⟩
      · cases r₂ with
        | error e => exact hr₂
        | ok fl₂ =>
          cases fl₂ with
          | ret r =>
            obtain ⟨rfl, h', tk, L, es, ep, t, rfl, hS', g', hk'⟩ := hr₂
            repeat (any_goals (first | assumption | wp_step))
            exact h _ _ _ _ _ _ hS' g' hk'
          | _ => exact hr₂.elim
    | _ => exact hr.elim
end
end GZ
end

section
set_option Elab.async false
set_option linter.all false
set_option maxRecDepth 100000
set_option maxHeartbeats 3200000
namespace GZ
open PySem PySem.Spec PyProof.Rows L2
section
variable {P : Program} {w : World} {A : Around} {E : Value → Shared → Prop} {s : Shared}

/-- set(xs), xs a list of tuples of ints, among at most 64 -/
theorem call_set_lst {l : Addr} {items : Array Value} (ks : List (Addr × List Int)) (U : List (List Int)) (hU : U.length ≤ 64) (hkU : ∀ p ∈ ks, p.2 ∈ U) {Q : Value → Shared → Prop} (hh : A.handled = none) (hl : s.heap.IsList l items) (hit : items.toList = ks.map fun p => Value.ref p.1)
    (hk : ∀ p ∈ ks, IsT P w s.heap p.2 p.1) (hu : A.units + 3 < cLine)
    (h : ∀ (h' : Heap) (tk : Nat) L es ep t, SQ P w h' s.heap.objs.size L es ep t → Got ks ks.length L → (∀ b o, s.heap.get? b = some o → h'.get? b = some o) → Q (.ref s.heap.objs.size) { s with heap := h', toks := tk }) :
    wpAny (model P w) A (call (.type "set") [.ref l]) Q E s := by
  have hisz : items.size = ks.length := by
    have q := congrArg List.length hit
    rw [Array.length_toList, List.length_map] at q
    exact q
  refine set_of (items := items) ks U hU hkU hu (fun R hR => ?_) h
  have hl0 := hl
  obtain ⟨ol, hol, hcl, nl, hdl⟩ := hl
  obtain ⟨ocls, odict, odata, oslots⟩ := ol
  simp only at hcl hdl
  subst hcl
  subst hdl
  have hol' : (s.heap.push (newSetObj w)).get? l = some { cls := .type "list", dict := odict, data := .seq items nl, slots := oslots } := Heap.get?_push_of_some _ hol
  have hsls := PySem.F.sub_list_set
  have hslf := PySem.F.sub_list_frozenset
  have hne : (Value.type "list" == Value.type "dict") = false := by decide
  have hl1 : (s.heap.push (newSetObj w)).IsList l items := ⟨_, hol', rfl, nl, rfl⟩
  unfold Builtin.«set.__init__» noKeywords Builtin.Frozenset.updateFrom
  generalize hPI : pyIter = PI
  wp_walk
  subst hPI
  refine wpAny_pyIter_list hl1 ?_
  refine wpAny_bind (wpAny_runValue ?_)
  have hlS : l < s.heap.objs.size := Heap.lt_size hol
  have hh3 : A.in1.in1.in1.handled = none := by simp [hh]
  have hneI : l ≠ (s.heap.push (newSetObj w)).objs.size := by
    rw [Heap.size_push]; exact Nat.ne_of_lt (Nat.lt_succ_of_lt hlS)
  have hSf : s.heap.objs.size ∉ [(s.heap.push (newSetObj w)).objs.size, l] := by
    rw [Heap.size_push]; simp only [List.mem_cons, List.mem_singleton, List.not_mem_nil, or_false, not_or]
    exact ⟨Nat.ne_of_lt (Nat.lt_succ_self _), Nat.ne_of_gt hlS⟩
  have hval : ∀ (i : Nat) (v : Value), items[i]? = some v → ∃ p, ks[i]? = some p ∧ v = .ref p.1 := fun i v hv => by
    have q : items.toList[i]? = some v := by rw [Array.getElem?_toList]; exact hv
    rw [hit, List.getElem?_map] at q
    cases hq : ks[i]? with
    | none => rw [hq] at q; cases q
    | some p =>
      rw [hq] at q
      exact ⟨p, rfl, (Option.some.inj q).symm⟩
  have none_of : ∀ b, s.heap.objs.size ≤ b → s.heap.get? b = none := fun b hb => by
    cases q : s.heap.get? b with
    | none => rfl
    | some o => exact absurd (Nat.lt_of_lt_of_le (Heap.lt_size q) hb) (Nat.lt_irrefl _)
  refine upd_loop ((Walks.list hh3 _ l hneI items).toS) s.heap.objs.size
    hSf ks U hU hkU hisz hval s.heap hk (none_of _ (Nat.le_refl _)) (fun b hb => none_of b (by
      rw [List.mem_singleton.mp hb, Heap.size_push]
      exact Nat.le_succ _)) hu (items.size - 0) 0 _ (by omega) (Nat.zero_le _)
    ⟨⟨_, Heap.get?_push_size _ rfl, rfl, rfl⟩, (hl1.push _)⟩ (fun b o e => Heap.get?_push_of_some _ (Heap.get?_push_of_some _ e)) ?hS0 ?hR
  case hS0 =>
    have hget : ((s.heap.push (newSetObj w)).push { cls := .type "list_iterator", data := .fields #[.ref l, .int 0 0] }).get? s.heap.objs.size = some (newSetObj w) := Heap.get?_push_of_some _ (Heap.get?_push_size _ rfl)
    exact ⟨[], #[], 0, _, SQ.ofH (setTR_fresh hget), Got.zero ks⟩
  case hR =>
    intro s' L es ep t hm hS' g' hkp
    obtain ⟨h', g2, d', tk', os'⟩ := s'
    have eg : g2 = s.gens := hm.gens
    have ed : d' = s.drawn := hm.drawn
    have eo : os' = s.os := hm.os
    subst eg
    subst ed
    subst eo
    show wpAny _ _ _ _ _ _
    refine wpAny_pure ?_
    show wpAny _ _ (ret Value.none) _ _ _
    rw [hisz] at g'
    exact wpAny_pure (hR h' tk' L es ep t hS' g' hkp)

/-- set(xs), xs a tuple of tuples of ints, among at most 64 -/
theorem call_set_tup {l : Addr} {items : Array Value} (ks : List (Addr × List Int)) (U : List (List Int)) (hU : U.length ≤ 64) (hkU : ∀ p ∈ ks, p.2 ∈ U) {Q : Value → Shared → Prop} (hh : A.handled = none) (hl : s.heap.IsTuple l items) (hit : items.toList = ks.map fun p => Value.ref p.1)
    (hk : ∀ p ∈ ks, IsT P w s.heap p.2 p.1) (hu : A.units + 3 < cLine)
    (h : ∀ (h' : Heap) (tk : Nat) L es ep t, SQ P w h' s.heap.objs.size L es ep t → Got ks ks.length L → (∀ b o, s.heap.get? b = some o → h'.get? b = some o) → Q (.ref s.heap.objs.size) { s with heap := h', toks := tk }) :
    wpAny (model P w) A (call (.type "set") [.ref l]) Q E s := by
  have hisz : items.size = ks.length := by
    have q := congrArg List.length hit
    rw [Array.length_toList, List.length_map] at q
    exact q
  refine set_of (items := items) ks U hU hkU hu (fun R hR => ?_) h
  have hl0 := hl
  obtain ⟨ol, hol, hcl, nl, hdl⟩ := hl
  obtain ⟨ocls, odict, odata, oslots⟩ := ol
  simp only at hcl hdl
  subst hcl
  subst hdl
  have hol' : (s.heap.push (newSetObj w)).get? l = some { cls := .type "tuple", dict := odict, data := .seq items nl, slots := oslots } := Heap.get?_push_of_some _ hol
  have hsls := PySem.F.sub_tuple_set
  have hslf := PySem.F.sub_tuple_frozenset
  have hne : (Value.type "tuple" == Value.type "dict") = false := by decide
  have hl1 : (s.heap.push (newSetObj w)).IsTuple l items := ⟨_, hol', rfl, nl, rfl⟩
  unfold Builtin.«set.__init__» noKeywords Builtin.Frozenset.updateFrom
  generalize hPI : pyIter = PI
  wp_walk
  subst hPI
  refine wpAny_pyIter_tuple hl1 ?_
  refine wpAny_bind (wpAny_runValue ?_)
  have hlS : l < s.heap.objs.size := Heap.lt_size hol
  have hh3 : A.in1.in1.in1.handled = none := by simp [hh]
  have hneI : l ≠ (s.heap.push (newSetObj w)).objs.size := by
    rw [Heap.size_push]; exact Nat.ne_of_lt (Nat.lt_succ_of_lt hlS)
  have hSf : s.heap.objs.size ∉ [(s.heap.push (newSetObj w)).objs.size, l] := by
    rw [Heap.size_push]; simp only [List.mem_cons, List.mem_singleton, List.not_mem_nil, or_false, not_or]
    exact ⟨Nat.ne_of_lt (Nat.lt_succ_self _), Nat.ne_of_gt hlS⟩
  have hval : ∀ (i : Nat) (v : Value), items[i]? = some v → ∃ p, ks[i]? = some p ∧ v = .ref p.1 := fun i v hv => by
    have q : items.toList[i]? = some v := by rw [Array.getElem?_toList]; exact hv
    rw [hit, List.getElem?_map] at q
    cases hq : ks[i]? with
    | none => rw [hq] at q; cases q
    | some p =>
      rw [hq] at q
      exact ⟨p, rfl, (Option.some.inj q).symm⟩
  have none_of : ∀ b, s.heap.objs.size ≤ b → s.heap.get? b = none := fun b hb => by
    cases q : s.heap.get? b with
    | none => rfl
    | some o => exact absurd (Nat.lt_of_lt_of_le (Heap.lt_size q) hb) (Nat.lt_irrefl _)
  refine upd_loop ((Walks.tuple hh3 _ l hneI items).toS) s.heap.objs.size
    hSf ks U hU hkU hisz hval s.heap hk (none_of _ (Nat.le_refl _)) (fun b hb => none_of b (by
      rw [List.mem_singleton.mp hb, Heap.size_push]
      exact Nat.le_succ _)) hu (items.size - 0) 0 _ (by omega) (Nat.zero_le _)
    ⟨⟨_, Heap.get?_push_size _ rfl, rfl, rfl⟩, (hl1.push _)⟩ (fun b o e => Heap.get?_push_of_some _ (Heap.get?_push_of_some _ e)) ?hS0 ?hR
  case hS0 =>
    have hget : ((s.heap.push (newSetObj w)).push { cls := .type "tuple_iterator", data := .fields #[.ref l, .int 0 0] }).get? s.heap.objs.size = some (newSetObj w) := Heap.get?_push_of_some _ (Heap.get?_push_size _ rfl)
    exact ⟨[], #[], 0, _, SQ.ofH (setTR_fresh hget), Got.zero ks⟩
  case hR =>
    intro s' L es ep t hm hS' g' hkp
    obtain ⟨h', g2, d', tk', os'⟩ := s'
    have eg : g2 = s.gens := hm.gens
    have ed : d' = s.drawn := hm.drawn
    have eo : os' = s.os := hm.os
    subst eg
    subst ed
    subst eo
    show wpAny _ _ _ _ _ _
    refine wpAny_pure ?_
    show wpAny _ _ (ret Value.none) _ _ _
    rw [hisz] at g'
    exact wpAny_pure (hR h' tk' L es ep t hS' g' hkp)
end
end GZ
end

section
set_option Elab.async false
set_option linter.all false
set_option maxRecDepth 100000
set_option maxHeartbeats 3200000
namespace GZ
open PySem PySem.Spec PyProof.Rows L2 Ly GY
def kOf (c : C3) : List Int := [c.1, c.2.1, c.2.2]
theorem kOf_inj {a b : C3} (h : kOf a = kOf b) : a = b := by
  unfold kOf at h
  injection h with h1 h2
  injection h2 with h2 h3
  injection h3 with h3 _
  exact c3_ext h1 h2 h3
abbrev kL (L : List (Addr × C3)) : List (Addr × List Int) := L.map fun p => (p.1, kOf p.2)
section
variable {P : Program} {w : World} {A : Around} {E : Value → Shared → Prop} {s : Shared}
theorem reads_c {h : Heap} {b : Addr} {c : C3} (x : IsT P w h (kOf c) b) : Reads h (.ref b) (cD c) [] := by
  obtain ⟨o, items, n, ho, hc, hd, hi⟩ := x
  refine .tuple ho hc hd ?_
  have hi2 : IntsAre items.toList (kOf c) := ints_of_items hi
  generalize items.toList = vs at hi2
  unfold kOf at hi2
  cases hi2 with
  | cons n1 t1 h2 =>
    cases h2 with
    | cons n2 t2 h3 =>
      cases h3 with
      | cons n3 t3 h4 =>
        cases h4
        exact .cons (.int _ _) (.cons (.int _ _) (.cons (.int _ _) .nil))
/-- sorted of a set of cells -/
theorem sorted_q {a : Addr} {L : List (Addr × C3)} {es : Array (Int × Value)} {ep : Nat} {t : SetTable} {Q : Value → Shared → Prop} (R : SQ P w s.heap a (kL L) es ep t) (hh : A.handled = none) (hu : A.units + 8 < cLine)
    (hQ : ∀ s' p (out : Array Value) (c : Nat) (L' : List (Addr × C3)), (∀ b o, s.heap.get? b = some o → s'.heap.get? b = some o) → s'.gens = s.gens → s'.os = s.os → s.heap.objs.size ≤ p →
      s'.heap.get? p = some (seqObj "list" out c) → out.toList = L'.map (fun q => Value.ref q.1) → L'.Perm L → L'.Pairwise (fun q r => ¬ lt3 r.2 q.2) → Q (.ref p) s') :
    wpAny (model P w) A (call (.builtin "sorted") [.ref a]) Q E s := by
  obtain ⟨o, ho, hex, hd⟩ := R.ob
  have hsz := R.size
  have hfew := R.few
  rw [List.length_map] at hsz hfew
  refine Calls.call_function_entry kind_sorted plain_sorted entry_sorted (args_sorted1 _) ?_
  unfold Builtin.«sorted»
  refine wpAny_bind (m := checkCount "sorted" 1 1 _) (wpAny_pure ?_)
  refine wpAny_bind (collect_set (A := A.in1) hh ⟨o, ho, hex.1, hd⟩ R.fits (by unfold scanBound; omega) R.tab.ris R.led fun s1 vs k1 hz g1 o1 pm => ?_)
  have hes : es.toList.map (·.2) = L.map fun q => Value.ref q.1 := by
    rw [R.rows]
    unfold rowsOf
    rw [List.map_map, List.map_map] <;> rfl
  rw [hes] at pm
  have ord : ∀ vs : List Value, (∀ v ∈ vs, ∃ q ∈ L, v = Value.ref q.1) → ∃ L1 : List (Addr × C3), vs = L1.map (fun q => Value.ref q.1) ∧ ∀ q ∈ L1, q ∈ L := by
    intro vs
    induction vs with
    | nil => exact fun _ => ⟨[], rfl, fun q hq => (by cases hq)⟩
    | cons v vs ih =>
      intro hv
      obtain ⟨q, hq, e⟩ := hv v List.mem_cons_self
      obtain ⟨L1, e1, hs⟩ := ih fun u hu => hv u (List.mem_cons_of_mem _ hu)
      refine ⟨q :: L1, by rw [List.map_cons, e, e1], fun r hr => ?_⟩
      rcases List.mem_cons.mp hr with z | z
      · rw [z]; exact hq
      · exact hs r z
  have tupL : ∀ q ∈ L, IsT P w s.heap (kOf q.2) q.1 := fun q hq => R.tup (q.1, kOf q.2) (List.mem_map.mpr ⟨q, hq, rfl⟩)
  have one : ∀ q ∈ L, ∀ r ∈ L, q.1 = r.1 → q = r := fun q hq r hr e => by
    have a1 := tupL q hq
    have a2 := tupL r hr
    rw [e] at a1
    exact Prod.ext e (kOf_inj (a1.inj a2))
  have nL : L.Nodup := by
    have q := nodup_of_map R.nd
    exact nodup_of_map q
  have nref : (L.map fun q => Value.ref q.1).Nodup := by
    refine List.pairwise_map.mpr (List.Pairwise.imp_of_mem (fun {q r} hq hr hne e => ?_) nL)
    injection e with e
    exact hne (one q hq r hr e)
  have perm_of : ∀ L1 : List (Addr × C3), (∀ q ∈ L1, q ∈ L) → (L1.map (fun q => Value.ref q.1)).Perm (L.map fun q => Value.ref q.1) → L1.Perm L := by
    intro L1 hs pm1
    have n1 : L1.Nodup := nodup_of_map (pm1.nodup_iff.mpr nref)
    refine (List.perm_ext_iff_of_nodup n1 nL).mpr fun q => ⟨hs q, fun hq => ?_⟩
    have hm : Value.ref q.1 ∈ L1.map (fun q => Value.ref q.1) := pm1.mem_iff.mpr (List.mem_map.mpr ⟨q, hq, rfl⟩)
    obtain ⟨r, hr, e⟩ := List.mem_map.mp hm
    injection e with e
    rw [← one r (hs r hr) q hq e]
    exact hr
  obtain ⟨L1, e1, hs1⟩ := ord vs fun v hv => by
    obtain ⟨q, hq, e⟩ := List.mem_map.mp (pm.mem_iff.mp hv)
    exact ⟨q, hq, e.symm⟩
  have pm1 : L1.Perm L := perm_of L1 hs1 (by rw [← e1]; exact pm)
  have hvl : vs.length ≤ 64 := by rw [pm.length_eq, List.length_map]; exact hfew
  refine wpAny_bind (wpAny_newList ?_ (by rw [sizeLine_eq]; omega))
  have hoL : (s1.heap.push (seqObj "list" vs.toArray 0)).get? s1.heap.objs.size = some (seqObj "list" vs.toArray 0) := Heap.get?_push_size _ rfl
  have tk : ∀ q ∈ L, Reads (s1.heap.push (seqObj "list" vs.toArray 0)) (.ref q.1) (cD q.2) [] := fun q hq => reads_c (P := P) (w := w) (isT_keep (tupL q hq) fun b u e => Heap.get?_push_of_some _ (k1 b u e))
  have ea : ∀ (L1 : List (Addr × C3)), PySem.W.EachIs (fun (v : Value) (b : Addr × C3) => v = .ref b.1) (L1.map fun q => Value.ref q.1) L1 := by
    intro L1
    induction L1 with
    | nil => exact .nil
    | cons q L1 ih => exact .cons rfl ih
  have er : ∀ (L1 : List (Addr × C3)), (∀ q ∈ L1, q ∈ L) → PySem.W.EachIs (fun (v : Value) (b : Addr × C3) => ∃ as, Reads (s1.heap.push (seqObj "list" vs.toArray 0)) v ((fun b : Addr × C3 => cD b.2) b) as ∧ s1.heap.objs.size ∉ as) (L1.map fun q => Value.ref q.1) L1 := by
    intro L1
    induction L1 with
    | nil => exact fun _ => .nil
    | cons q L1 ih => exact fun hs => .cons ⟨[], tk q (hs q List.mem_cons_self), by simp⟩ (ih fun r hr => hs r (List.mem_cons_of_mem _ hr))
  have hl1 : L1.length = vs.length := by rw [e1, List.length_map]
  refine wpAny_bind (wpAny_holding (PySem.W.list_sort_data (s := { s1 with heap := s1.heap.push (seqObj "list" vs.toArray 0) }) (enc := fun b : Addr × C3 => cD b.2) (R := fun (v : Value) (b : Addr × C3) => v = .ref b.1) (bs := L1) (vs := vs) hoL (by rw [e1]; exact ea L1) (by have q := er L1 hs1; rw [← e1] at q; exact q)
    (PySem.W.AllAlike.of fun b b' => cD_alike _ _) (PySem.W.Sortable.tuples fun b => ⟨_, _, rfl⟩) (by rw [hl1, sizeLine_eq]; omega) (fun b _ => by rw [cD_depth]; show A.units + 1 + 1 + 1 < _; omega) fun out ho2 eo => ?_))
  obtain ⟨c, hc⟩ := sortedHeap_at (vs := vs) (out := out.toArray) hoL
  rw [leC] at eo
  have pm2 := List.mergeSort_perm L1 (fun a b => decide (¬ lt3 b.2 a.2))
  have so := List.pairwise_mergeSort (le := fun (a b : Addr × C3) => decide (¬ lt3 b.2 a.2)) (fun a b c => le_trans3 a.2 b.2 c.2) (fun a b => le_total3 a.2 b.2) L1
  have out_of : ∀ {us : List Value} {bs : List (Addr × C3)}, PySem.W.EachIs (fun (v : Value) (b : Addr × C3) => v = .ref b.1) us bs → us = bs.map fun q => Value.ref q.1 := by
    intro us bs h
    induction h with
    | nil => rfl
    | cons h1 _ ih => rw [h1, ih] <;> rfl
  refine wpAny_pure ⟨_, rfl, hQ _ s1.heap.objs.size out.toArray c _ (fun b u e => ?_) g1 o1 hz hc (by rw [List.toList_toArray]; exact out_of eo) (pm2.trans pm1) (List.Pairwise.imp (fun {a b} h => by simpa using h) so)⟩
  have q := k1 b u e
  have hlt := Heap.lt_size q
  show (sortedHeap (s1.heap.push (seqObj "list" vs.toArray 0)) s1.heap.objs.size vs out.toArray).get? b = some u
  rw [sortedHeap_old (Nat.ne_of_lt hlt) (by rw [size_push']; exact Nat.lt_succ_of_lt hlt)]
  exact Heap.get?_push_of_some _ q
end

/-! ### over the layer -/
structure SQ0 (P : Program) (w : World) (h : Heap) (a : Addr) (L : List (Addr × C3)) : Prop where
  ex : ∃ (es : Array (Int × Value)) (ep : Nat) (t : SetTable), (∃ o, h.get? a = some o ∧ o.ExactSet ∧ o.data = .set es ep t) ∧ es.toList = rowsOf P w (kL L) ∧ TabOk t ((kL L).map fun p => thash P w p.2) ∧ ((kL L).map (·.2)).Nodup ∧ t.plain = true ∧
    (w.params.followText "set-order" = true ∨ t.led = true) ∧ (kL L).length * 5 < t.mask * 3 ∧ (kL L).length ≤ 64
def SQO (P : Program) (w : World) (a : Addr) (L : List (Addr × C3)) : HO := .ext fun h => SQ0 P w h a L
theorem SQ.t0 {P : Program} {w : World} {h : Heap} {a : Addr} {L : List (Addr × C3)} {es : Array (Int × Value)} {ep : Nat} {t : SetTable} (R : SQ P w h a (kL L) es ep t) : SQ0 P w h a L :=
  ⟨es, ep, t, R.ob, R.rows, R.tab, R.nd, R.plain, R.led, R.room, R.few⟩
theorem SQ0.full {P : Program} {w : World} {h : Heap} {a : Addr} {L : List (Addr × C3)} (R : SQ0 P w h a L) (ht : ∀ p ∈ kL L, IsT P w h p.2 p.1) : ∃ es ep t, SQ P w h a (kL L) es ep t := by
  obtain ⟨es, ep, t, h1, h2, h3, h4, h5, h6, h7, h8⟩ := R.ex
  exact ⟨es, ep, t, h1, h2, h3, h4, ht, h5, h6, h7, h8⟩
theorem sqo_new {P : Program} {w : World} {H : Hp} {h : Heap} {a : Addr} {L : List (Addr × C3)} (R : SQ0 P w h a L) : ObjOk P w H h a (SQO P w a L) := by
  have ⟨es, ep, t, ⟨o, ho, r⟩, q⟩ := R.ex
  refine ⟨R, ⟨o, ho⟩, fun h1 h2 p k => ?_⟩
  have ⟨es', ep', t', ⟨o', ho', r'⟩, q'⟩ := SQ0.ex p
  exact ⟨es', ep', t', ⟨o', k o' ho', r'⟩, q'⟩
/-- the addresses of the cells -/
theorem addrs_of {K : PySem.W.Frag} {H : Hp} : ∀ {xs : List V} {cs : List C3}, Items K H xs cs → ∃ L : List (Addr × C3), xs = L.map (fun p => V.ref p.1) ∧ L.map (·.2) = cs ∧ ∀ p ∈ L, SqT K H p.1 ((kOf p.2).map V.int)
  | [], [], _ => ⟨[], rfl, rfl, fun p hp => (by cases hp)⟩
  | [], _ :: _, h => by cases h
  | _ :: _, [], h => by cases h
  | x :: xs, c :: cs, h => by
    cases h with
    | cons h1 h2 =>
      obtain ⟨p, e, hs⟩ := of_dp_c h1
      obtain ⟨L, e1, e2, e3⟩ := addrs_of (xs := xs) (cs := cs) h2
      refine ⟨(p, c) :: L, by rw [e, e1] <;> rfl, by rw [← e2] <;> rfl, fun q hq => ?_⟩
      rcases List.mem_cons.mp hq with z | z
      · rw [z]; exact hs
      · exact e3 q z
section
variable {X : Cx}
theorem roomK : (room.map kOf).length ≤ 64 := by
  rw [List.length_map]
  unfold room
  simp
/-- set(xs), xs a list or a tuple of cells in the room -/
def rSetC (K : PySem.W.Frag) (P : Program) (w : World) : List V → Hp → VK → Prop := fun vs H Q => ∃ (v : V) (cs : List C3), vs = [v] ∧ (CellsL K H v cs ∨ CellsT K H v cs) ∧ (∀ c ∈ cs, InR c) ∧
  ∀ a (L : List (Addr × C3)), H a = none → (∀ p ∈ L, p.2 ∈ cs ∧ SqT K H p.1 ((kOf p.2).map V.int)) → (∀ c ∈ cs, c ∈ L.map (·.2)) → Q (.ref a) (upd H a (SQO P w a L))
theorem unk {ks L : List (Addr × C3)} {M : List (Addr × List Int)} (g : Got (kL ks) (kL ks).length M) : ∃ L : List (Addr × C3), M = kL L ∧ (∀ p ∈ L, p ∈ ks) ∧ ∀ p ∈ ks, p.2 ∈ L.map (·.2) := by
  have key : ∀ M : List (Addr × List Int), (∀ p ∈ M, p ∈ kL ks) → ∃ L : List (Addr × C3), M = kL L ∧ ∀ p ∈ L, p ∈ ks := by
    intro M
    induction M with
    | nil => exact fun _ => ⟨[], rfl, fun p hp => (by cases hp)⟩
    | cons m M ih =>
      intro h
      obtain ⟨p, hp, e⟩ := List.mem_map.mp (h m List.mem_cons_self)
      obtain ⟨L, e1, e2⟩ := ih fun q hq => h q (List.mem_cons_of_mem _ hq)
      refine ⟨p :: L, by rw [← e, e1] <;> rfl, fun q hq => ?_⟩
      rcases List.mem_cons.mp hq with z | z
      · rw [z]; exact hp
      · exact e2 q z
  obtain ⟨L, e1, e2⟩ := key M fun p hp => List.mem_of_mem_take (g.sub p hp)
  refine ⟨L, e1, e2, fun p hp => ?_⟩
  have q := g.all (p.1, kOf p.2) (by rw [List.take_length]; exact List.mem_map.mpr ⟨p, hp, rfl⟩)
  rw [e1] at q
  obtain ⟨m, hm, e⟩ := List.mem_map.mp q
  obtain ⟨r, hr, e3⟩ := List.mem_map.mp hm
  refine List.mem_map.mpr ⟨r, hr, kOf_inj ?_⟩
  rw [← e3] at e
  exact e
theorem cr_setC (hc : X.calm = true) (hu : X.A.units + 64 < cLine) : CallR X (.type "set") (rSetC X.K X.prog X.w) := by
  intro pins s σ H xs us Q I r h
  obtain ⟨v, cs, rfl, hcs, hin, q⟩ := h
  have hn : H s.heap.objs.size = none := I.hok.fresh (Nat.le_refl _)
  have fin : ∀ (ks : List (Addr × C3)), ks.map (·.2) = cs → (∀ p ∈ ks, SqT X.K H p.1 ((kOf p.2).map V.int)) → ∀ (h' : Heap) (tk : Nat) M es ep t, SQ X.prog X.w h' s.heap.objs.size M es ep t → Got (kL ks) (kL ks).length M → (∀ b o, s.heap.get? b = some o → h'.get? b = some o) →
      EP X pins σ Q (.ref s.heap.objs.size) { s with heap := h', toks := tk } := fun ks ek hk h' tk M es ep t R g k => by
    obtain ⟨L, e1, e2, e3⟩ := unk (L := []) g
    subst e1
    refine ⟨.ref s.heap.objs.size, upd H s.heap.objs.size (SQO X.prog X.w s.heap.objs.size L), I.laid (t' := tk) k (Nat.le_refl _) (sqo_new R.t0), rfl, q _ L hn (fun p hp => ⟨?_, hk p (e2 p hp)⟩) fun c hc => ?_⟩
    · rw [← ek]
      exact List.mem_map.mpr ⟨p, e2 p hp, rfl⟩
    · rw [← ek] at hc
      obtain ⟨p, hp, e⟩ := List.mem_map.mp hc
      rw [← e]
      exact e3 p hp
  have inU : ∀ (ks : List (Addr × C3)), ks.map (·.2) = cs → ∀ p ∈ kL ks, p.2 ∈ room.map kOf := fun ks ek p hp => by
    obtain ⟨r, hr, e⟩ := List.mem_map.mp hp
    rw [← e]
    exact List.mem_map.mpr ⟨r.2, mem_room.mpr (hin r.2 (by rw [← ek]; exact List.mem_map.mpr ⟨r, hr, rfl⟩)), rfl⟩
  have isTs : ∀ (ks : List (Addr × C3)), (∀ p ∈ ks, SqT X.K H p.1 ((kOf p.2).map V.int)) → ∀ p ∈ kL ks, IsT X.prog X.w s.heap p.2 p.1 := fun ks hk p hp => by
    obtain ⟨r, hr, e⟩ := List.mem_map.mp hp
    rw [← e]
    exact I.isT (hk r hr)
  have refs : ∀ (ks : List (Addr × C3)) {its : List Value}, Vals (ks.map fun p => V.ref p.1) its → its = (kL ks).map fun p => Value.ref p.1 := by
    intro ks
    induction ks with
    | nil =>
      intro its h
      cases h
      rfl
    | cons p ks ih =>
      intro its h
      cases h with
      | cons h1 h2 =>
        cases h1
        rw [ih h2] <;> rfl
  cases r with
  | cons r1 r2 =>
    cases r2
    rcases hcs with hcs | hcs
    · obtain ⟨l, xs, rfl, hs, hi⟩ := of_cellsL hcs
      cases r1
      obtain ⟨ks, e1, e2, hk⟩ := addrs_of hi
      subst e1
      obtain ⟨its, rv, pl, hz⟩ := I.list hs
      exact call_set_lst (P := X.prog) (w := X.w) (kL ks) (room.map kOf) roomK (inU ks e2) (I.ok.hd hc) pl.isList (by simpa using refs ks rv) (isTs ks hk) (by omega) (fin ks e2 hk)
    · obtain ⟨l, xs, rfl, hs, hi⟩ := of_cellsT hcs
      cases r1
      obtain ⟨ks, e1, e2, hk⟩ := addrs_of hi
      subst e1
      obtain ⟨its, rv, pl, hz⟩ := I.tuple hs
      exact call_set_tup (P := X.prog) (w := X.w) (kL ks) (room.map kOf) roomK (inU ks e2) (I.ok.hd hc) (show s.heap.IsTuple l its.toArray from pl) (by simpa using refs ks rv) (isTs ks hk) (by omega) (fin ks e2 hk)
/-- sorted(set) -/
def rSortedQ (K : PySem.W.Frag) (P : Program) (w : World) : List V → Hp → VK → Prop := fun vs H Q => ∃ (a : Addr) (L : List (Addr × C3)), vs = [V.ref a] ∧ H a = some (SQO P w a L) ∧ (∀ p ∈ L, SqT K H p.1 ((kOf p.2).map V.int)) ∧
  ∀ (ys : List V) (ds : List C3) (p : Addr), ds.Perm (L.map (·.2)) → ds.Nodup → (ds.Pairwise fun a b => ¬ lt3 b a) → ds.length ≤ 64 → Items K H ys ds → H p = none → Q (.ref p) (upd H p (.lst ys))
theorem items_of {K : PySem.W.Frag} {H : Hp} : ∀ {L : List (Addr × C3)}, (∀ p ∈ L, SqT K H p.1 ((kOf p.2).map V.int)) → Items K H (L.map fun p => V.ref p.1) (L.map (·.2))
  | [], _ => .nil
  | p :: L, h => .cons (dp_c (h p List.mem_cons_self)) (items_of fun q hq => h q (List.mem_cons_of_mem _ hq))
theorem refs_vals : ∀ (L : List (Addr × C3)), Vals (L.map fun p => V.ref p.1) (L.map fun p => Value.ref p.1)
  | [] => .nil
  | p :: L => .cons rfl (refs_vals L)
theorem cr_sortedQ (hc : X.calm = true) (hu : X.A.units + 64 < cLine) : CallR X (.builtin "sorted") (rSortedQ X.K X.prog X.w) := by
  intro pins s σ H vs us Q I r h
  obtain ⟨a, L, rfl, ha, hk, q⟩ := h
  have R0 : SQ0 X.prog X.w s.heap a L := (I.hok a _ ha).1
  obtain ⟨es, ep, t, R⟩ := R0.full fun p hp => by
    obtain ⟨r, hr, e⟩ := List.mem_map.mp hp
    rw [← e]
    exact I.isT (hk r hr)
  cases r with
  | cons r1 r2 =>
    cases r2
    cases r1
    refine sorted_q R (I.ok.hd hc) (by omega) fun s' p out c L' k g o hp hg hout pm pw => ?_
    have hfew : L'.length ≤ 64 := by
      have q := R.few
      rw [List.length_map] at q
      rw [pm.length_eq]
      exact q
    have hlen : (L'.map fun q => V.ref q.1).length ≤ sizeLine := by rw [List.length_map, sizeLine_eq]; omega
    have hn : H p = none := I.hok.fresh hp
    have hv : Vals (L'.map fun q => V.ref q.1) out.toList := by rw [hout]; exact refs_vals L'
    have J : Inv X pins σ (upd H p (.lst (L'.map fun q => V.ref q.1))) { s with heap := s'.heap, gens := s'.gens, drawn := s'.drawn, toks := s'.toks } :=
      I.call (ch := []) (Un.laid k hp hn) (I.hok.laid k hp ⟨hlen, out.toList, c, hv, hg⟩) (by rw [g]; exact I.bare) (fun _ z => nomatch z)
    have e : s' = { s with heap := s'.heap, gens := s'.gens, drawn := s'.drawn, toks := s'.toks } := by
      cases s'
      cases s
      cases o
      rfl
    rw [e]
    have nd : (L.map (·.2)).Nodup := by
      have q := R.nd
      have e : (kL L).map (·.2) = (L.map (·.2)).map kOf := by simp [kL]
      rw [e] at q
      exact nodup_of_map q
    refine ⟨.ref p, _, J, rfl, q _ (L'.map (·.2)) p (pm.map (·.2)) ((pm.map (·.2)).nodup_iff.mpr nd) ?_ (by rw [List.length_map]; exact hfew) (items_of fun q hq => hk q (pm.mem_iff.mp hq)) hn⟩
    exact List.Pairwise.map _ (fun a b h => h) pw
end
end GZ
end

section
set_option Elab.async false
set_option linter.all false
set_option maxRecDepth 100000
set_option maxHeartbeats 2000000
/-! min, max of a list of ints with default=. -/
namespace GW
open PySem PySem.Spec PyProof.Rows L2
theorem ints_at {vs : List Value} {ns : List Int} (h : IntsAre vs ns) : ∀ {i : Nat} {v : Value}, vs[i]? = some v → ∃ n t, ns[i]? = some n ∧ v = Value.int n t := by
  induction h with
  | nil => exact fun e => by simp at e
  | @cons n t vs ns _ ih =>
    intro i v e
    cases i with
    | zero =>
      have e : Value.int n t = v := by simpa using e
      exact ⟨n, t, rfl, e.symm⟩
    | succ i => exact ih (i := i) (by simpa using e)
theorem minI : ∀ (ys : List Int) (y : Int), PySem.W.minOf y ys ∈ y :: ys ∧ ∀ j ∈ y :: ys, PySem.W.minOf y ys ≤ j
  | [], y => ⟨List.mem_cons_self, fun j hj => by
      have e : j = y := List.mem_singleton.mp hj
      rw [e]
      exact Int.le_refl _⟩
  | z :: ys, y => by
    have e : PySem.W.minOf y (z :: ys) = PySem.W.minOf (if PySem.W.DatumOrd.lt z y = true then z else y) ys := rfl
    have hl : PySem.W.DatumOrd.lt z y = decide (z < y) := rfl
    rw [e, hl]
    obtain ⟨h1, h2⟩ := minI ys (if decide (z < y) = true then z else y)
    have h3 := h2 _ List.mem_cons_self
    refine ⟨?_, fun j hj => ?_⟩
    · rcases List.mem_cons.mp h1 with q | q
      · rw [q]
        split
        · exact List.mem_cons_of_mem _ List.mem_cons_self
        · exact List.mem_cons_self
      · exact List.mem_cons_of_mem _ (List.mem_cons_of_mem _ q)
    · rcases List.mem_cons.mp hj with q | q
      · subst q
        refine Int.le_trans h3 ?_
        split
        · rename_i c
          have := of_decide_eq_true c
          omega
        · exact Int.le_refl _
      · rcases List.mem_cons.mp q with q | q
        · subst q
          refine Int.le_trans h3 ?_
          split
          · exact Int.le_refl _
          · rename_i c
            have c : ¬ j < y := fun z => c (decide_eq_true z)
            omega
        · exact h2 j (List.mem_cons_of_mem _ q)
theorem maxI : ∀ (ys : List Int) (y : Int), PySem.W.maxOf y ys ∈ y :: ys ∧ ∀ j ∈ y :: ys, j ≤ PySem.W.maxOf y ys
  | [], y => ⟨List.mem_cons_self, fun j hj => by
      have e : j = y := List.mem_singleton.mp hj
      rw [e]
      exact Int.le_refl _⟩
  | z :: ys, y => by
    have e : PySem.W.maxOf y (z :: ys) = PySem.W.maxOf (if PySem.W.DatumOrd.lt y z = true then z else y) ys := rfl
    have hl : PySem.W.DatumOrd.lt y z = decide (y < z) := rfl
    rw [e, hl]
    obtain ⟨h1, h2⟩ := maxI ys (if decide (y < z) = true then z else y)
    have h3 := h2 _ List.mem_cons_self
    refine ⟨?_, fun j hj => ?_⟩
    · rcases List.mem_cons.mp h1 with q | q
      · rw [q]
        split
        · exact List.mem_cons_of_mem _ List.mem_cons_self
        · exact List.mem_cons_self
      · exact List.mem_cons_of_mem _ (List.mem_cons_of_mem _ q)
    · rcases List.mem_cons.mp hj with q | q
      · subst q
        refine Int.le_trans ?_ h3
        split
        · rename_i c
          have := of_decide_eq_true c
          omega
        · exact Int.le_refl _
      · rcases List.mem_cons.mp q with q | q
        · subst q
          refine Int.le_trans ?_ h3
          split
          · exact Int.le_refl _
          · rename_i c
            have c : ¬ y < j := fun z => c (decide_eq_true z)
            omega
        · exact h2 j (List.mem_cons_of_mem _ q)
section
variable {X : Cx}
def rMinD (K : PySem.W.Frag) : List V → List V → Hp → VK → Prop := fun xs zs H Q => ∃ (a : Addr) (ns : List Int) (d : Int), xs = [.ref a] ∧ zs = [.int d] ∧ SqL K H a (ns.map V.int) ∧ (ns = [] → Q (.int d) H) ∧ ∀ m, m ∈ ns → (∀ j ∈ ns, m ≤ j) → Q (.int m) H
def rMaxD (K : PySem.W.Frag) : List V → List V → Hp → VK → Prop := fun xs zs H Q => ∃ (a : Addr) (ns : List Int) (d : Int), xs = [.ref a] ∧ zs = [.int d] ∧ SqL K H a (ns.map V.int) ∧ (ns = [] → Q (.int d) H) ∧ ∀ m, m ∈ ns → (∀ j ∈ ns, j ≤ m) → Q (.int m) H
theorem ints_vals : ∀ {ns : List Int} {us : List Value}, Vals (ns.map V.int) us → IntsAre us ns
  | [], _, .nil => .nil
  | n :: ns, _, .cons r t => by
    obtain ⟨tk, rfl⟩ := r
    exact .cons n tk (ints_vals t)
theorem cr_minD (hc : X.calm = true) (hu : X.A.units + 64 < cLine) : CallRK X (.builtin "min") ["default"] (rMinD X.K) := by
  intro pins s σ H xs zs us ws Q I r1 r2 h
  obtain ⟨a, ns, d, rfl, rfl, hs, q0, q1⟩ := h
  cases r1 with
  | cons r1 t1 =>
    cases t1
    cases r1
    cases r2 with
    | cons r2 t2 =>
      cases t2
      obtain ⟨td, rfl⟩ := r2
      obtain ⟨its, rv, pl, hz⟩ := I.list hs
      have ia := ints_vals rv
      refine PySem.W.min_list_datum_default (α := Int) (xs := ns) (I.ok.hd hc) pl.isList (PySem.W.HoldAll.of_ints (by simpa using ia)) (by show X.A.units + 1 + 0 < cLine; omega) (fun e h' tk k => ?_) fun y ys i v h' tk e hi hh k => ?_
      · exact ⟨.int d, H, I.kept (t' := tk) k, ⟨td, rfl⟩, q0 e⟩
      · obtain ⟨n, t, hn, rfl⟩ := ints_at ia (i := i) (v := v) (by simpa using hi)
        have e2 : n = PySem.W.minOf y ys := by
          obtain ⟨as, rd⟩ := hh
          have rd : Reads h' (Value.int n t) (.int (PySem.W.minOf y ys)) as := rd
          cases rd
          rfl
        obtain ⟨m1, m2⟩ := minI ys y
        subst e
        exact ⟨.int n, H, I.kept (t' := tk) k, ⟨t, rfl⟩, q1 n (by rw [e2]; exact m1) (by rw [e2]; exact m2)⟩
theorem cr_maxD (hc : X.calm = true) (hu : X.A.units + 64 < cLine) : CallRK X (.builtin "max") ["default"] (rMaxD X.K) := by
  intro pins s σ H xs zs us ws Q I r1 r2 h
  obtain ⟨a, ns, d, rfl, rfl, hs, q0, q1⟩ := h
  cases r1 with
  | cons r1 t1 =>
    cases t1
    cases r1
    cases r2 with
    | cons r2 t2 =>
      cases t2
      obtain ⟨td, rfl⟩ := r2
      obtain ⟨its, rv, pl, hz⟩ := I.list hs
      have ia := ints_vals rv
      refine PySem.W.max_list_datum_default (α := Int) (xs := ns) (I.ok.hd hc) pl.isList (PySem.W.HoldAll.of_ints (by simpa using ia)) (by show X.A.units + 1 + 0 < cLine; omega) (fun e h' tk k => ?_) fun y ys i v h' tk e hi hh k => ?_
      · exact ⟨.int d, H, I.kept (t' := tk) k, ⟨td, rfl⟩, q0 e⟩
      · obtain ⟨n, t, hn, rfl⟩ := ints_at ia (i := i) (v := v) (by simpa using hi)
        have e2 : n = PySem.W.maxOf y ys := by
          obtain ⟨as, rd⟩ := hh
          have rd : Reads h' (Value.int n t) (.int (PySem.W.maxOf y ys)) as := rd
          cases rd
          rfl
        obtain ⟨m1, m2⟩ := maxI ys y
        subst e
        exact ⟨.int n, H, I.kept (t' := tk) k, ⟨t, rfl⟩, q1 n (by rw [e2]; exact m1) (by rw [e2]; exact m2)⟩
end
end GW
end

section
set_option Elab.async false
set_option linter.all false
set_option maxRecDepth 100000
set_option maxHeartbeats 2000000
/-! A list comprehension of three clauses, plain names as targets, no tests. -/
namespace GV
open PySem PySem.Spec PyProof.Rows L2
/-- what σ knows, σ' knows too -/
def Sub (σ σ' : L2.St) : Prop := σ.length = σ'.length ∧ ∀ (j : Nat) v, σ[j]? = some (some v) → σ'[j]? = some (some v)
theorem Sub.refl (σ : L2.St) : Sub σ σ := ⟨rfl, fun _ _ h => h⟩
theorem Sub.set {σ : L2.St} {i : Nat} {v : V} (h : σ[i]? = some none) : Sub σ (σ.set i (some v)) := by
  refine ⟨by simp, fun j u e => ?_⟩
  have hj : i ≠ j := fun z => by rw [z, e] at h; cases h
  rw [List.getElem?_set_ne hj]
  exact e
section
variable {B : Cx} {pl : List (Addr × Obj)} {σ : L2.St} {e0 : Expr} {lvl i : Nat} {x : Str} {px ip : Pos} {J : It} {it : Addr} {fp : List Addr} {tn : Nat → Heap → Prop} {acc : Value} {N : Nat} {W : Nat → Hp → Prop} {We : Hp → Prop} {bd : Sem Unit}
/-- one clause's loop: bd what is done with each item -/
theorem each {elt : Expr} {gs : List Comprehension} {scope : Scope} {pos : Pos} (hc : B.calm = true) (hN : B.N.Nodup) (hxe : B.xe = fun _ _ => False)
    (hturn : compTurn (.ListComp elt gs scope pos) lvl (.ref it) acc B.env = (do
      standAt ip
      match ← pyNext (.ref it) with
      | none => pure (.done .next)
      | some v => do
        letOwnedTupleGo (.Name x px) (.ref it) v
        assign (.Name x px) B.env v
        bd
        again (.compLoop (.ListComp elt gs scope pos) lvl (.ref it) acc B.env)))
    (T : Turn B.prog B.w B.K (.Name x px) J fp it tn) (pg : PG B (.Name x px) (gName i)) (hi : σ[i]? = some none)
    (fpo : ∀ {H' : Hp}, (∀ b ∈ fp, H' b = none) → ∀ b ∈ fp, FpOk B pl H' b)
    (turn : ∀ j H, W j H → (j = N ∧ J.stop j H ∧ We H) ∨ (j < N ∧ J.go j H ∧ ∀ y H', J.yld j H y H' → ∀ (pl' : List (Addr × Obj)) (s : Shared), Inv B (pl ++ pl') (σ.set i (some y)) H' s →
      wpAny (model B.prog B.w) B.A bd (fun _ s' => ∃ H2, Inv B (pl ++ pl') (σ.set i (some y)) H2 s' ∧ W (j + 1) H2) (fun _ _ => False) s))
    {Rr : Result → Shared → Prop} (hR : ∀ s' H', Inv B pl σ H' s' → We H' → Rr (.ok .next) s') (s : Shared) (H : Hp) (I : Inv B pl σ H s) (st : tn 0 s.heap) (nfp : ∀ b ∈ fp, H b = none) (w : W 0 H) :
    codeAny (model B.prog B.w) B.A (.compLoop (.ListComp elt gs scope pos) lvl (.ref it) acc B.env) Rr s := by
  refine codeAny_loop rfl (fun n s' => ∃ j H', Inv B pl σ H' s' ∧ tn j s'.heap ∧ (∀ b ∈ fp, H' b = none) ∧ W j H' ∧ j ≤ N ∧ n = N - j) ?_ (N - 0) ⟨0, H, I, st, nfp, w, Nat.zero_le _, rfl⟩
  rintro n s1 ⟨j, H1, I1, st1, n1, w1, hj, hn⟩
  show wpAny _ B.A ((compTurn (.ListComp elt gs scope pos) lvl (.ref it) acc B.env).onRaise (fun x => do noteFrame x B.env; theTreesLotGoes x)) _ _ s1
  refine wpAny_noted ?_
  rw [hturn]
  refine wpAny_bind (wpAny_standAt (wpAny_bind ?_))
  rcases turn j H1 w1 with ⟨ej, stop, we⟩ | ⟨lt, go, step⟩
  · refine thnF (T.done B rfl rfl rfl hc j pl s1 σ H1 (fun _ _ => False) I1 (fpo n1) st1 stop) fun r s2 ⟨hr, I2⟩ => ?_
    subst hr
    exact wpAny_pure (hR s2 H1 I2 we)
  · refine thnF (T.item B rfl rfl rfl hc j pl s1 σ H1 (fun _ _ => False) I1 (fpo n1) st1 go) fun r s2 ⟨u, hr, h2⟩ => ?_
    subst hr
    refine wpAny_bind (thnF h2 fun _ s3 ⟨y, H3, I3, r3, y3, st3, n3⟩ => ?_)
    have I3' := I3.pinned (fpo n3) (T.obj _ _ st3)
    have pr := pg.run _ s3 σ H3 y u (fun σ' H' => σ' = σ.set i (some y) ∧ H' = H3) I3' r3 ⟨rfl, rfl⟩
    rw [hxe] at pr
    refine wpAny_bind (thnF pr fun _ s4 ⟨σ4, H4, I4, e4, e4'⟩ => ?_)
    subst e4
    subst e4'
    refine wpAny_bind (thnF (step y H4 y3 _ s4 I4) fun _ s5 ⟨H5, I5, w5⟩ => ?_)
    refine wpAny_pure ⟨rfl, N - (j + 1), by omega, j + 1, H5, ?_, ?_, fun b hb => ?_, w5, lt, rfl⟩
    · have sb := Sub.set (v := y) hi
      exact (I5.unpinned).weak sb.1 sb.2
    · exact T.keep _ _ _ st3 fun b hb o e => (I5.pin (b, o) (List.mem_append_right _ (List.mem_append_right _ (mem_pinsAt hb e)))).1
    · obtain ⟨o, e, _⟩ := T.obj _ _ st3 b hb
      exact (I5.pin (b, o) (List.mem_append_right _ (List.mem_append_right _ (mem_pinsAt hb e)))).2.1
end

section
variable {elt i0 i1 i2 : Expr} {x0 x1 x2 : Str} {p0 p1 p2 pos : Pos} {scope : Scope}
abbrev lc3e (elt : Expr) (x0 : Str) (p0 : Pos) (i0 : Expr) (x1 : Str) (p1 : Pos) (i1 : Expr) (x2 : Str) (p2 : Pos) (i2 : Expr) (scope : Scope) (pos : Pos) : Expr :=
  .ListComp elt [⟨.Name x0 p0, i0, [], 0⟩, ⟨.Name x1 p1, i1, [], 0⟩, ⟨.Name x2 p2, i2, [], 0⟩] scope pos
/-- the next clause begins -/
def nextClause (e : Expr) (lvl : Nat) (i : Expr) (acc : Value) (env : Env) : Sem Unit := do
  let x ← eval i env
  standAt i.pos
  let x ← foldedSetIterable i env x
  let _ ← runOwn (.compStart e lvl (← holding [x] (pyIter x)) acc env) env
theorem turn0 (it acc : Value) (env : Env) : compTurn (lc3e elt x0 p0 i0 x1 p1 i1 x2 p2 i2 scope pos) 0 it acc env = (do
    standAt i0.pos
    match ← pyNext it with
    | none => pure (.done .next)
    | some v => do
      letOwnedTupleGo (.Name x0 p0) it v
      assign (.Name x0 p0) env v
      nextClause (lc3e elt x0 p0 i0 x1 p1 i1 x2 p2 i2 scope pos) 1 i1 acc env
      again (.compLoop (lc3e elt x0 p0 i0 x1 p1 i1 x2 p2 i2 scope pos) 0 it acc env)) := by
  refine Eq.trans (b := (do
    standAt i0.pos
    match ← pyNext it with
    | none => pure (.done .next)
    | some v => do
      letOwnedTupleGo (.Name x0 p0) it v
      assign (.Name x0 p0) env v
      let x ← eval i1 env
      standAt i1.pos
      let x ← foldedSetIterable i1 env x
      let _ ← runOwn (.compStart (lc3e elt x0 p0 i0 x1 p1 i1 x2 p2 i2 scope pos) 1 (← holding [x] (pyIter x)) acc env) env
      again (.compLoop (lc3e elt x0 p0 i0 x1 p1 i1 x2 p2 i2 scope pos) 0 it acc env))) (by rfl) ?_
  simp only [nextClause, bind_assoc, pure_bind]
theorem turn1 (it acc : Value) (env : Env) : compTurn (lc3e elt x0 p0 i0 x1 p1 i1 x2 p2 i2 scope pos) 1 it acc env = (do
    standAt i1.pos
    match ← pyNext it with
    | none => pure (.done .next)
    | some v => do
      letOwnedTupleGo (.Name x1 p1) it v
      assign (.Name x1 p1) env v
      nextClause (lc3e elt x0 p0 i0 x1 p1 i1 x2 p2 i2 scope pos) 2 i2 acc env
      again (.compLoop (lc3e elt x0 p0 i0 x1 p1 i1 x2 p2 i2 scope pos) 1 it acc env)) := by
  refine Eq.trans (b := (do
    standAt i1.pos
    match ← pyNext it with
    | none => pure (.done .next)
    | some v => do
      letOwnedTupleGo (.Name x1 p1) it v
      assign (.Name x1 p1) env v
      let x ← eval i2 env
      standAt i2.pos
      let x ← foldedSetIterable i2 env x
      let _ ← runOwn (.compStart (lc3e elt x0 p0 i0 x1 p1 i1 x2 p2 i2 scope pos) 2 (← holding [x] (pyIter x)) acc env) env
      again (.compLoop (lc3e elt x0 p0 i0 x1 p1 i1 x2 p2 i2 scope pos) 1 it acc env))) (by rfl) ?_
  simp only [nextClause, bind_assoc, pure_bind]
theorem turn2 (it acc : Value) (env : Env) : compTurn (lc3e elt x0 p0 i0 x1 p1 i1 x2 p2 i2 scope pos) 2 it acc env = (do
    standAt i2.pos
    match ← pyNext it with
    | none => pure (.done .next)
    | some v => do
      letOwnedTupleGo (.Name x2 p2) it v
      assign (.Name x2 p2) env v
      (do let _ ← call (.builtin "list.append") [acc, ← eval elt env])
      again (.compLoop (lc3e elt x0 p0 i0 x1 p1 i1 x2 p2 i2 scope pos) 2 it acc env)) := by rfl
variable {prog : Program} {w : World} {A : Around} {R : Result → Shared → Prop} {s : Shared} {it acc : Value} {env : Env}
theorem cstart1 (h0 : codeAny (model prog w) A (.compLoop (lc3e elt x0 p0 i0 x1 p1 i1 x2 p2 i2 scope pos) 1 it acc env) R s)
    (h : wpAny (model prog w) A (pyIter it) (fun it' s' => codeAny (model prog w) A (.compLoop (lc3e elt x0 p0 i0 x1 p1 i1 x2 p2 i2 scope pos) 1 it' acc env) R s') (notedBy (model prog w) A env fun x s' => R (.error x) s') s) :
    codeAny (model prog w) A (.compStart (lc3e elt x0 p0 i0 x1 p1 i1 x2 p2 i2 scope pos) 1 it acc env) R s := by
  refine codeAny_of_tree ?_
  show wpAny _ _ ((compStart (lc3e elt x0 p0 i0 x1 p1 i1 x2 p2 i2 scope pos) 1 it acc env).onRaise (fun x => do noteFrame x env; standAt theWindowsPlace)) _ _ s
  refine wpAny_notedAt ?_
  unfold compStart
  show wpAny _ _ (ask >>= _) _ _ s
  refine wpAny_bind (wpAny_askSetting (wpAny_ite ?_))
  split
  · first
      | exact wpAny_bind (wpAny_pure (wpAny_pure (And.intro rfl h0)))
      | exact wpAny_pure (And.intro rfl h0)
  · first
      | exact wpAny_bind (wpAny_rule (wpAny_bind (wpAny_standAt (wpAny_bind (wpAny_mono h (fun it' s' h' => wpAny_pure (And.intro rfl h')) fun _ _ x => x)))))
      | (refine wpAny_bind (wpAny_rule ?_); show wpAny _ _ (standAt i1.pos >>= _) _ _ s; exact wpAny_bind (wpAny_standAt (wpAny_bind (wpAny_mono h (fun it' s' h' => wpAny_pure (And.intro rfl h')) fun _ _ x => x))))
theorem cstart2 (h0 : codeAny (model prog w) A (.compLoop (lc3e elt x0 p0 i0 x1 p1 i1 x2 p2 i2 scope pos) 2 it acc env) R s)
    (h : wpAny (model prog w) A (pyIter it) (fun it' s' => codeAny (model prog w) A (.compLoop (lc3e elt x0 p0 i0 x1 p1 i1 x2 p2 i2 scope pos) 2 it' acc env) R s') (notedBy (model prog w) A env fun x s' => R (.error x) s') s) :
    codeAny (model prog w) A (.compStart (lc3e elt x0 p0 i0 x1 p1 i1 x2 p2 i2 scope pos) 2 it acc env) R s := by
  refine codeAny_of_tree ?_
  show wpAny _ _ ((compStart (lc3e elt x0 p0 i0 x1 p1 i1 x2 p2 i2 scope pos) 2 it acc env).onRaise (fun x => do noteFrame x env; standAt theWindowsPlace)) _ _ s
  refine wpAny_notedAt ?_
  unfold compStart
  show wpAny _ _ (ask >>= _) _ _ s
  refine wpAny_bind (wpAny_askSetting (wpAny_ite ?_))
  split
  · first
      | exact wpAny_bind (wpAny_pure (wpAny_pure (And.intro rfl h0)))
      | exact wpAny_pure (And.intro rfl h0)
  · first
      | exact wpAny_bind (wpAny_rule (wpAny_bind (wpAny_standAt (wpAny_bind (wpAny_mono h (fun it' s' h' => wpAny_pure (And.intro rfl h')) fun _ _ x => x)))))
      | (refine wpAny_bind (wpAny_rule ?_); show wpAny _ _ (standAt i2.pos >>= _) _ _ s; exact wpAny_bind (wpAny_standAt (wpAny_bind (wpAny_mono h (fun it' s' h' => wpAny_pure (And.intro rfl h')) fun _ _ x => x))))
end

/-! ### the rule -/
section
variable {X : Cx}
/-- a, b, c: the slots of the three names -/
def tLc3 (wi0 wi1 wi2 : TI) (te : TE) (vs : List Nat) (a b c : Nat) : TE := fun σ H Q => wi0 σ H fun J H1 => ∀ D, H1 D = none → ∃ (N : Nat) (W : Nat → Hp → Prop), W 0 (upd H1 D (.lst [])) ∧ ∀ i H, W i H →
  (i = N ∧ J.stop i H ∧ Q (.ref D) H) ∨ (i < N ∧ J.go i H ∧ ∀ x H', J.yld i H x H' → wi1 ((wipe σ vs).set a (some x)) H' fun J1 H2 => ∃ (N1 : Nat) (W1 : Nat → Hp → Prop), W1 0 H2 ∧ ∀ j H, W1 j H →
    (j = N1 ∧ J1.stop j H ∧ W (i + 1) H) ∨ (j < N1 ∧ J1.go j H ∧ ∀ y H', J1.yld j H y H' → wi2 (((wipe σ vs).set a (some x)).set b (some y)) H' fun J2 H3 => ∃ (N2 : Nat) (W2 : Nat → Hp → Prop), W2 0 H3 ∧ ∀ k H, W2 k H →
      (k = N2 ∧ J2.stop k H ∧ W1 (j + 1) H) ∨ (k < N2 ∧ J2.go k H ∧ ∀ z H', J2.yld k H z H' → te ((((wipe σ vs).set a (some x)).set b (some y)).set c (some z)) H' fun v H4 => ∃ acc, H4 D = some (.lst acc) ∧ acc.length < sizeLine ∧ W2 (k + 1) (upd H4 D (.lst (acc ++ [v]))))))
/-- a clause within: its own walk, then its loop -/
theorem clause {B : Cx} {pl : List (Addr × Obj)} {σ : L2.St} {H : Hp} {s : Shared} {elt it1e : Expr} {gs : List Comprehension} {scope : Scope} {pos : Pos} {lvl : Nat} {tg : Expr} {wi : TI} {D : Addr} {Wn : Hp → Prop} {Rj : It → Hp → Prop} (hxe : B.xe = fun _ _ => False)
    (hi : PI B tg it1e wi) (I : Inv B pl σ H s) (h : wi σ H Rj) (hs : ∀ x, foldedSetIterable it1e B.env x = pure x)
    (loop : ∀ (it : Addr) (fp : List Addr) (tn : Nat → Heap → Prop) (J : It) (H' : Hp) (s2 : Shared), Inv B pl σ H' s2 → Turn B.prog B.w B.K tg J fp it tn → tn 0 s2.heap → (∀ b ∈ fp, FpOk B pl H' b) → Rj J H' →
      codeAny (model B.prog B.w) B.A (.compStart (.ListComp elt gs scope pos) lvl (.ref it) (.ref D) B.env) (fun r s' => ∃ f, r = .ok f ∧ ∃ H2, Inv B pl σ H2 s' ∧ Wn H2) s2) :
    wpAny (model B.prog B.w) B.A (nextClause (.ListComp elt gs scope pos) lvl it1e (.ref D) B.env) (fun _ s' => ∃ H2, Inv B pl σ H2 s' ∧ Wn H2) (fun _ _ => False) s := by
  unfold nextClause
  have q := hi.run pl s σ H _ I h
  rw [hxe] at q
  refine wpAny_bind (thnF q fun xv s1 hx => ?_)
  refine wpAny_bind (wpAny_standAt (wpAny_bind (wpAny_of_eq (hs xv) (wpAny_bind (wpAny_holding (thnF hx fun itv s2 h2 => ?_))))))
  obtain ⟨it, fp, tn, J, H', e, I2, T, st2, f2, r2⟩ := h2
  subst e
  refine wpAny_bind (wpAny_runOwn ?_)
  rw [Around.mark_none]
  refine codeAny_mono (loop it fp tn J H' s2 I2 T st2 f2 r2) fun r s' ⟨f, hr, hq⟩ => ?_
  subst hr
  exact wpAny_pure hq
theorem pe_lc3 {elt i0 i1 i2 : Expr} {x0 x1 x2 : Str} {p0 p1 p2 pos : Pos} {scope : Scope} {own : List (Str × Nat)} {wi0 wi1 wi2 : TI} {te : TE} {a b c : Nat} (hc : X.calm = true) (hN : X.N.Nodup) (ok : BlkOk X.N X.env.scope scope own)
    (ha : X.N[a]? = some x0) (hb : X.N[b]? = some x1) (hcc : X.N[c]? = some x2) (ho : a ∈ own.map (·.2) ∧ b ∈ own.map (·.2) ∧ c ∈ own.map (·.2)) (hd : a ≠ b ∧ a ≠ c ∧ b ≠ c)
    (hi : PI X (.Name x0 p0) i0 wi0)
    (hi1 : ∀ (s : Shared) (H : Hp) (C : Addr) (cl : List (Str × Addr)) (fp : List Addr), PI (X.blk s H scope (compEnvC scope cl C X.env) fp) (.Name x1 p1) i1 wi1)
    (hi2 : ∀ (s : Shared) (H : Hp) (C : Addr) (cl : List (Str × Addr)) (fp : List Addr), PI (X.blk s H scope (compEnvC scope cl C X.env) fp) (.Name x2 p2) i2 wi2)
    (hg : ∀ (s : Shared) (H : Hp) (C : Addr) (cl : List (Str × Addr)) (fp : List Addr), PG (X.blk s H scope (compEnvC scope cl C X.env) fp) (.Name x0 p0) (gName a) ∧ PG (X.blk s H scope (compEnvC scope cl C X.env) fp) (.Name x1 p1) (gName b) ∧ PG (X.blk s H scope (compEnvC scope cl C X.env) fp) (.Name x2 p2) (gName c))
    (he : ∀ (s : Shared) (H : Hp) (C : Addr) (cl : List (Str × Addr)) (fp : List Addr), PE (X.blk s H scope (compEnvC scope cl C X.env) fp) elt te)
    (hs : ∀ x, foldedSetIterable i0 X.env x = pure x := by intro _; rfl) (hs1 : ∀ env x, foldedSetIterable i1 env x = pure x := by intro _ _; rfl) (hs2 : ∀ env x, foldedSetIterable i2 env x = pure x := by intro _ _; rfl) :
    PE X (lc3e elt x0 p0 i0 x1 p1 i1 x2 p2 i2 scope pos) (tLc3 wi0 wi1 wi2 te (own.map (·.2)) a b c) := by
  refine ⟨fun pins s σ H Q I h => ?_⟩
  rw [eval_ListComp]
  have hfree : ∀ y ∈ scope.names, y.2 = .free → ∃ c, X.env.cells.lookup y.1 = some c := fun y hy e => by
    rcases ok.free y hy e with k | k
    · exact I.ok.has _ (.inl k)
    · exact I.ok.has _ (.inr k)
  refine wpAny_comprehension_free (use := none) rfl hs (closure_ok hfree) ok.kind (fun y hy e => by rw [ok.uniq y hy, e])
    (thn (hi.run pins s σ H _ I h) fun xv s1 hx => thn hx fun itv s2 h2 => ?_)
  obtain ⟨it, fp, tn, J, H2, e, I2, T, st2, f2, q⟩ := h2
  subst e
  refine wpAny_newObj_type (newEnv_comp ?_) (by show 0 ≤ sizeLine; decide)
  generalize hD : s2.heap.objs.size = D
  have hDn : H2 D = none := I2.hok.fresh (Nat.le_of_eq hD)
  obtain ⟨N, W, w0, turn⟩ := q D hDn
  generalize hs3 : ({ s2 with heap := s2.heap.push { cls := .type "list", data := .seq ([] : List Value).toArray } } : Shared) = s3
  have h3 : s3.heap = s2.heap.push { cls := .type "list", data := .seq ([] : List Value).toArray } := by rw [← hs3]
  have I3 : Inv X pins σ (upd H2 D (.lst [])) s3 := by
    rw [← hs3]
    refine I2.laid (t' := s2.toks) (fun b o e => Heap.get?_push_of_some _ e) (Nat.le_of_eq hD) ⟨Nat.zero_le _, [], 0, .nil, ?_⟩
    rw [← hD]
    exact Heap.get?_push_size _ rfl
  have f3 : ∀ b ∈ fp, FpOk X pins (upd H2 D (.lst [])) b ∧ b < s3.heap.objs.size := fun b hb => by
    obtain ⟨o, e, _⟩ := T.obj _ _ st2 b hb
    have hlt := Heap.lt_size e
    refine ⟨⟨?_, (f2 b hb).2⟩, by rw [h3, Heap.size_push]; exact Nat.lt_succ_of_lt hlt⟩
    rw [upd_ne (by rw [← hD]; exact Nat.ne_of_lt hlt)]
    exact (f2 b hb).1
  have st3 : tn 0 s3.heap := T.keep _ _ _ st2 fun b _ o e => by rw [h3]; exact Heap.get?_push_of_some _ e
  have I4 := block_start I3 ok hN f3
  have pe := he s3 (upd H2 D (.lst [])) s3.heap.objs.size (cellsFrom (s3.heap.objs.size + 1) scope.names (cloFrom X.env.cells scope.names [])) fp
  have pi1 := hi1 s3 (upd H2 D (.lst [])) s3.heap.objs.size (cellsFrom (s3.heap.objs.size + 1) scope.names (cloFrom X.env.cells scope.names [])) fp
  have pi2 := hi2 s3 (upd H2 D (.lst [])) s3.heap.objs.size (cellsFrom (s3.heap.objs.size + 1) scope.names (cloFrom X.env.cells scope.names [])) fp
  obtain ⟨pga, pgb, pgc⟩ := hg s3 (upd H2 D (.lst [])) s3.heap.objs.size (cellsFrom (s3.heap.objs.size + 1) scope.names (cloFrom X.env.cells scope.names [])) fp
  have hsc : (compEnvC scope (cellsFrom (s3.heap.objs.size + 1) scope.names (cloFrom X.env.cells scope.names [])) s3.heap.objs.size X.env).locals = s3.heap.objs.size := rfl
  show codeAny _ _ (.compStart (lc3e elt x0 p0 i0 x1 p1 i1 x2 p2 i2 scope pos) 0 (.ref it) (.ref D) (compEnvC scope (cellsFrom (s3.heap.objs.size + 1) scope.names (cloFrom X.env.cells scope.names [])) s3.heap.objs.size X.env)) (compPost (model X.prog X.w) X.A X.xe none (EP X pins σ Q) (.ref D) s3.heap.objs.size) { s3 with heap := pushCells (s3.heap.push { cls := .type "dict", data := .dict #[] }) scope.names }
  generalize hce : compEnvC scope (cellsFrom (s3.heap.objs.size + 1) scope.names (cloFrom X.env.cells scope.names [])) s3.heap.objs.size X.env = ce at I4 pe pi1 pi2 pga pgb pgc hsc ⊢
  have nfp : ∀ b ∈ fp, (upd H2 D (.lst [])) b = none := fun b hb => (f3 b hb).1.1
  generalize hH3 : upd H2 D (.lst []) = H3 at I3 I4 pe pi1 pi2 pga pgb pgc w0 nfp f3
  generalize hs4 : ({ s3 with heap := pushCells (s3.heap.push { cls := .type "dict", data := .dict #[] }) scope.names } : Shared) = s4 at I4 ⊢
  have st4 : tn 0 s4.heap := T.keep _ _ _ st3 fun b _ o e => by rw [← hs4]; exact pushCells_keeps _ _ _ _ (Heap.get?_push_of_some _ e)
  generalize hσ : wipe σ (own.map (·.2)) = σ0 at I4 turn
  have len0 : σ0.length = X.N.length := by rw [← hσ, wipe_length]; exact I.len
  have free0 : ∀ {i : Nat} {y : Str}, X.N[i]? = some y → i ∈ own.map (·.2) → σ0[i]? = some none := fun {i y} hy hio => by
    have hil : i < σ0.length := by
      rw [len0]
      exact (List.getElem?_eq_some_iff.mp hy).1
    cases hq : σ0[i]? with
    | none => rw [List.getElem?_eq_none_iff] at hq; omega
    | some o =>
      cases o with
      | none => rfl
      | some v =>
        rw [← hσ] at hq
        exact absurd hio (wipe_some hq).2
  have fpB : ∀ {H' : Hp}, (∀ b ∈ fp, H' b = none) → ∀ b ∈ fp, FpOk (X.blk s3 H3 scope ce fp) [] H' b := fun {H'} hn b hb =>
    ⟨hn b hb, (I4.ok.exf b hb).1, I4.ok.exfs b hb, .inl hb, fun x c e => (I4.ok.exf b hb).2 x c e, fun p hp => absurd (show p ∈ ([] : List (Addr × Obj)) ++ [] from hp) (by simp)⟩
  have loop : codeAny (model X.prog X.w) X.A (.compLoop (lc3e elt x0 p0 i0 x1 p1 i1 x2 p2 i2 scope pos) 0 (.ref it) (.ref D) ce) (compPost (model X.prog X.w) X.A X.xe none (EP X pins σ Q) (.ref D) s3.heap.objs.size) s4 := by
    refine each (B := X.blk s3 H3 scope ce fp) (pl := []) (σ := σ0) (i := a) (N := N) (W := W) (We := fun H => Q (.ref D) H) hc hN rfl (turn0 (.ref it) (.ref D) ce) T pga (free0 ha ho.1) fpB (fun j H w => ?_) (fun s' H' I' hq => ?_) s4 H3 I4 st4 nfp w0
    · rcases turn j H w with z | ⟨lt, go, step⟩
      · exact .inl z
      · refine .inr ⟨lt, go, fun y H' hy pl' s5 I5 => ?_⟩
        refine clause (B := X.blk s3 H3 scope ce fp) rfl pi1 I5 (step y H' hy) (hs1 ce) fun it1 fp1 tn1 J1 H6 s6 I6 T1 st6 f6 hq => ?_
        obtain ⟨N1, W1, w1, turn1'⟩ := hq
        have l1 : codeAny (model X.prog X.w) X.A (.compLoop (lc3e elt x0 p0 i0 x1 p1 i1 x2 p2 i2 scope pos) 1 (.ref it1) (.ref D) ce) (fun r s' => ∃ f, r = .ok f ∧ ∃ H2, Inv (X.blk s3 H3 scope ce fp) ([] ++ pl') (σ0.set a (some y)) H2 s' ∧ W (j + 1) H2) s6 := by
          refine each (B := X.blk s3 H3 scope ce fp) (pl := [] ++ pl') (σ := σ0.set a (some y)) (i := b) (N := N1) (W := W1) (We := fun H => W (j + 1) H) hc hN rfl (turn1 (.ref it1) (.ref D) ce) T1 pgb (by rw [List.getElem?_set_ne hd.1]; exact free0 hb ho.2.1)
            (fun {H'} hn b hb => ⟨hn b hb, (f6 b hb).2⟩) (fun k H w => ?_) (fun s' H' I' hq => ⟨_, rfl, H', I', hq⟩) s6 H6 I6 st6 (fun b hb => (f6 b hb).1) w1
          rcases turn1' k H w with z | ⟨lt, go, step⟩
          · exact .inl z
          · refine .inr ⟨lt, go, fun y1 H' hy1 pl1 s7 I7 => ?_⟩
            refine clause (B := X.blk s3 H3 scope ce fp) rfl pi2 I7 (step y1 H' hy1) (hs2 ce) fun it2 fp2 tn2 J2 H8 s8 I8 T2 st8 f8 hq => ?_
            obtain ⟨N2, W2, w2, turn2'⟩ := hq
            have l2 : codeAny (model X.prog X.w) X.A (.compLoop (lc3e elt x0 p0 i0 x1 p1 i1 x2 p2 i2 scope pos) 2 (.ref it2) (.ref D) ce) (fun r s' => ∃ f, r = .ok f ∧ ∃ H2, Inv (X.blk s3 H3 scope ce fp) ([] ++ pl' ++ pl1) ((σ0.set a (some y)).set b (some y1)) H2 s' ∧ W1 (k + 1) H2) s8 := by
              refine each (B := X.blk s3 H3 scope ce fp) (pl := [] ++ pl' ++ pl1) (σ := (σ0.set a (some y)).set b (some y1)) (i := c) (N := N2) (W := W2) (We := fun H => W1 (k + 1) H) hc hN rfl (turn2 (.ref it2) (.ref D) ce) T2 pgc (by rw [List.getElem?_set_ne hd.2.2, List.getElem?_set_ne hd.2.1]; exact free0 hcc ho.2.2)
                (fun {H'} hn b hb => ⟨hn b hb, (f8 b hb).2⟩) (fun l H w => ?_) (fun s' H' I' hq => ⟨_, rfl, H', I', hq⟩) s8 H8 I8 st8 (fun b hb => (f8 b hb).1) w2
              rcases turn2' l H w with z | ⟨lt, go, step⟩
              · exact .inl z
              · refine .inr ⟨lt, go, fun y2 H' hy2 pl2 s9 I9 => ?_⟩
                refine wpAny_bind (thnF (pe.run _ s9 _ H' _ I9 (step y2 H' hy2)) fun z s10 ⟨yv, H10, I10, r10, acc, hD10, hz10, nx⟩ => ?_)
                refine wpAny_bind (app_ok (X := X.blk s3 H3 scope ce fp) I10 hD10 hz10 r10 fun s11 I11 => ?_)
                exact wpAny_pure ⟨_, I11, nx⟩
            exact cstart2 l2 (T2.self X.A 0 _ _ _ st8 l2)
        exact cstart1 l1 (T1.self X.A 0 _ _ _ st6 l1)
    · have I7 : Inv X pins σ H' s' := I3.call' (ch := fp) I'.os I'.base I'.hok I'.bare fun b hb => ⟨(f3 b hb).1.2.2.2.1, (f3 b hb).1.2.1, (f3 b hb).1.2.2.2.2.1, (f3 b hb).1.2.2.2.2.2⟩
      have nC : H' s3.heap.objs.size = none := by
        have z : H' ce.locals = none := I'.free
        rw [hsc] at z
        exact z
      obtain ⟨m, hn, _⟩ := I'.loc
      have hn : s'.heap.Ns ce.locals m := hn
      rw [hsc] at hn
      refine ⟨m, hn, fun h'' sb => ?_⟩
      obtain ⟨f0, f1, f2, f3', f4, f5⟩ := I3.fpOk (H' := H') (Nat.le_refl _) nC
      exact ⟨.ref D, H', I7.turned (t' := s'.toks) (fun b o hb e => (sb.2 b hb).trans e) f0 f1 f3' f4 f5, rfl, hq⟩
  exact codeAny_compStart_list loop (T.self X.A 0 _ _ _ st4 loop)
end
end GV
end

section
set_option Elab.async false
set_option linter.all false
set_option maxRecDepth 100000
set_option maxHeartbeats 2000000
/-! The program's text by places, the relation of heaps, bodies as data. -/
namespace LP
open PySem PySem.Spec PyProof.Rows L2 Ly GY
def top (i : Nat) : Stmt := PySem.Challenge.pw_layerprint_k03_whole_turnings.main.body.getD i (.Pass ⟨0, 0, 0, 0⟩)
abbrev sIsBody : Stmt := top 10
abbrev sCells : Stmt := top 11
-- slice_at: not in this statement
-- check_layer: not in this statement
abbrev sQuarter : Stmt := top 14
abbrev sShifted : Stmt := top 15
abbrev sFormed : Stmt := top 16
abbrev sPlaces : Stmt := top 17
abbrev sNum : Stmt := top 12
abbrev sTri : Stmt := top 18
abbrev sRise : Stmt := top 19
abbrev sHeld : Stmt := top 20
abbrev sBlock : Stmt := top 21
abbrev sJoined : Stmt := top 22
-- _row: not in this statement
abbrev sRising : Stmt := top 13
-- layer_count: not in this statement
-- is_place: not in this statement
-- drawn_next: not in this statement
-- written: not in this statement
-- read: not in this statement
-- _check_rows: not in this statement
-- _can_stand: not in this statement
-- table: not in this statement
-- holds: not in this statement
-- _least: not in this statement
-- _are_strokes: not in this statement
-- _is_low_enough: not in this statement
-- strokes: not in this statement
-- _runs: not in this statement
-- hanging: not in this statement
-- filled: not in this statement
-- check_reach: not in this statement
-- hanging_cells: not in this statement
-- fill: not in this statement
-- beside: not in this statement
-- _check_props: not in this statement
-- _is_carried: not in this statement
-- _fill_under: not in this statement
-- _ways: not in this statement
-- check_place: not in this statement
-- _best_orders: not in this statement
-- _best_rest: not in this statement
-- _ends: not in this statement
-- _steps: not in this statement
-- best_order: not in this statement
-- printed: not in this statement

/-- the tables of the defs that make lambdas: the law's, and others -/
class LamTab where
  P : Addr
  q : Str
  /-- the table of is_rising -/
  Z : Addr
  /-- tables of other defs that make lambdas -/
  Ts : List (Addr × Str) := []
/-- they are apart -/
class LamOk [LamTab] : Prop where
  inj : ∀ a ∈ (LamTab.P, LamTab.q) :: LamTab.Ts, ∀ b ∈ (LamTab.P, LamTab.q) :: LamTab.Ts, a.1 = b.1 → a = b
def NeAll (x : Addr) : List (Addr × Str) → Prop
  | [] => True
  | p :: l => x ≠ p.1 ∧ NeAll x l
theorem ne_all {x : Addr} : ∀ {l : List (Addr × Str)}, NeAll x l → ∀ p ∈ l, x ≠ p.1
  | [], _, p, h => by cases h
  | q :: l, n, p, h => by
    rcases List.mem_cons.mp h with e | e
    · rw [e]; exact n.1
    · exact ne_all n.2 p e
def Apart : List (Addr × Str) → Prop
  | [] => True
  | p :: l => NeAll p.1 l ∧ Apart l
theorem apart_ok : ∀ {l : List (Addr × Str)}, Apart l → ∀ a ∈ l, ∀ b ∈ l, a.1 = b.1 → a = b
  | [], _, a, ha, _, _, _ => by cases ha
  | q :: l, n, a, ha, b, hb, e => by
    rcases List.mem_cons.mp ha with x | x
    · rcases List.mem_cons.mp hb with y | y
      · rw [x, y]
      · rw [x] at e
        exact absurd e (ne_all n.1 b y)
    · rcases List.mem_cons.mp hb with y | y
      · rw [y] at e
        exact absurd e.symm (ne_all n.1 a x)
      · exact apart_ok n.2 a x b y e
section
variable [LamTab]
/-- a table of a def with generator expressions -/
def TGen (H : Hp) (P : Addr) : Prop := GxR.TabG H P ∧ ∀ p ∈ (LamTab.P, LamTab.q) :: LamTab.Ts, P ≠ p.1
end
/-! ### what a call keeps: all but what stands at S; tables are filled -/
structure Kp [LamTab] (S : List Addr) (H H' : Hp) : Prop where
  keep : ∀ b o, H b = some o → b ∉ S → (∀ ps, o ≠ .tbl ps) → H' b = some o
  tup : ∀ b xs, H b = some (.tup xs) → H' b = some (.tup xs)
  tab : ∀ b, TGen H b → TGen H' b
  frz : ∀ b o u, H b = some (.frz o u) → H' b = some (.frz o u)
  free : ∀ b, H' b = none → H b = none
  lams : ∀ p ∈ (LamTab.P, LamTab.q) :: LamTab.Ts, LamX.TabS H p.1 p.2 → LamX.TabS H' p.1 p.2
theorem free_upd {H : Hp} {a : Addr} {o : HO} {b : Addr} (h : upd H a o b = none) : b ≠ a ∧ H b = none := by
  by_cases e : b = a
  · rw [e, upd_same] at h
    cases h
  · rw [upd_ne e] at h
    exact ⟨e, h⟩
variable [LamTab] {S S' : List Addr} {H H' H'' : Hp} {K : PySem.W.Frag}
theorem Kp.refl (S : List Addr) (H : Hp) : Kp S H H := ⟨fun _ _ e _ _ => e, fun _ _ e => e, fun _ e => e, fun _ _ _ e => e, fun _ e => e, fun _ _ e => e⟩
theorem Kp.lam (k : Kp S H H') : LamX.TabS H LamTab.P LamTab.q → LamX.TabS H' LamTab.P LamTab.q := k.lams _ List.mem_cons_self
theorem Kp.trans (k : Kp S H H') (k' : Kp S H' H'') : Kp S H H'' :=
  ⟨fun b o e n t => k'.keep b o (k.keep b o e n t) n t, fun b xs e => k'.tup b xs (k.tup b xs e), fun b e => k'.tab b (k.tab b e), fun b o u e => k'.frz b o u (k.frz b o u e), fun b e => k.free b (k'.free b e), fun p hp e => k'.lams p hp (k.lams p hp e)⟩
theorem Kp.weak (k : Kp S H H') (h : ∀ b ∈ S, b ∈ S') : Kp S' H H' := ⟨fun b o e n t => k.keep b o e (fun q => n (h b q)) t, k.tup, k.tab, k.frz, k.free, k.lams⟩
theorem Kp.w0 (k : Kp [] H H') : Kp S H H' := k.weak fun b z => by cases z
/-- all but what stands at a stays as it is; a holds nothing that is kept -/
theorem Kp.but {a : Addr} (e : ∀ b, b ≠ a → H' b = H b) (some_a : H' a ≠ none) (k : ∀ o, H a = some o → a ∈ S ∨ ∃ ps, o = .tbl ps) (t : ∀ xs, H a ≠ some (.tup xs)) (f : ∀ o u, H a ≠ some (.frz o u)) (c : ∀ q, H a ≠ some (LamX.CodeO a q)) (g : TGen H a → TGen H' a)
    (l : ∀ ps, H a = some (.tbl ps) → ∀ p ∈ (LamTab.P, LamTab.q) :: LamTab.Ts, a ≠ p.1) : Kp S H H' := by
  refine ⟨fun b o q n tb => ?_, fun b xs q => ?_, fun b q => ?_, fun b o u q => ?_, fun b q => ?_, fun p hp ⟨ps, h1, h2, h3⟩ => ?_⟩
  · by_cases z : b = a
    · subst z
      rcases k o q with z | ⟨ps, z⟩
      · exact absurd z n
      · exact absurd z (tb ps)
    · rw [e b z]
      exact q
  · by_cases z : b = a
    · subst z
      exact absurd q (t xs)
    · rw [e b z]
      exact q
  · by_cases z : b = a
    · subst z
      exact g q
    · obtain ⟨⟨ps, q1, q2⟩, q3⟩ := q
      exact ⟨⟨ps, by rw [e b z]; exact q1, q2⟩, q3⟩
  · by_cases z : b = a
    · subst z
      exact absurd q (f o u)
    · rw [e b z]
      exact q
  · by_cases z : b = a
    · subst z
      exact absurd q some_a
    · rw [e b z] at q
      exact q
  · have n : p.1 ≠ a := fun z => l ps (by rw [← z]; exact h1) p hp z.symm
    refine ⟨ps, by rw [e _ n]; exact h1, h2, fun pos cv hcv => ?_⟩
    obtain ⟨c0, e1, e2⟩ := h3 pos cv hcv
    refine ⟨c0, e1, ?_⟩
    by_cases z : c0 = a
    · subst z
      exact absurd e2 (c _)
    · rw [e _ z]
      exact e2
/-- the tables of _are_rising_cells and of is_rising -/
def TR (H : Hp) (P : Addr) : Prop := TGen H P ∧ TGen H LamTab.Z
theorem Kp.tabr (k : Kp S H H') {P : Addr} (h : TR H P) : TR H' P := ⟨k.tab _ h.1, k.tab _ h.2⟩
theorem Kp.new {a : Addr} {o : HO} (h : H a = none) : Kp S H (upd H a o) := by
  have no : ∀ u, H a ≠ some u := fun u z => by rw [h] at z; cases z
  exact Kp.but (fun b n => upd_ne n) (by rw [upd_same]; exact fun z => by cases z) (fun u z => absurd z (no u)) (fun xs => no _) (fun _ _ => no _) (fun _ => no _) (fun ⟨⟨ps, q1, _⟩, _⟩ => absurd q1 (no _)) fun ps z => absurd z (no _)
theorem Kp.tabbed {P : Addr} (h : TGen H P) (k : GxR.Tabbed P H H') : Kp S H H' := by
  obtain ⟨⟨ps, e, _⟩, n⟩ := h
  have eq : ∀ u, H P = some u → u = .tbl ps := fun u z => by
    rw [e] at z
    exact (Option.some.inj z).symm
  obtain ⟨ps', e', t'⟩ := k.1
  exact Kp.but k.2 (by rw [e']; exact fun z => by cases z) (fun u z => .inr ⟨ps, eq u z⟩) (fun xs z => by cases eq _ z) (fun _ _ z => by cases eq _ z) (fun _ z => by cases eq _ z) (fun _ => ⟨⟨ps', e', t'⟩, n⟩) fun _ _ => n
/-- a list that stands at S, changed -/
theorem Kp.chg {a : Addr} {xs ys : List V} (h : H a = some (.lst xs)) (m : a ∈ S) : Kp S H (upd H a (.lst ys)) := by
  have eq : ∀ u, H a = some u → u = .lst xs := fun u z => by
    rw [h] at z
    exact (Option.some.inj z).symm
  exact Kp.but (fun b n => upd_ne n) (by rw [upd_same]; exact fun z => by cases z) (fun u z => .inl m) (fun xs z => by cases eq _ z) (fun _ _ z => by cases eq _ z) (fun _ z => by cases eq _ z) (fun ⟨⟨ps, q1, _⟩, _⟩ => by cases eq _ q1) fun ps z => by cases eq _ z
theorem Kp.chgD {a : Addr} {k1 k2 : List (Key × V)} (h : H a = some (.dK k1)) (m : a ∈ S) : Kp S H (upd H a (.dK k2)) := by
  have eq : ∀ u, H a = some u → u = .dK k1 := fun u z => by
    rw [h] at z
    exact (Option.some.inj z).symm
  exact Kp.but (fun b n => upd_ne n) (by rw [upd_same]; exact fun z => by cases z) (fun u z => .inl m) (fun xs z => by cases eq _ z) (fun _ _ z => by cases eq _ z) (fun _ z => by cases eq _ z) (fun ⟨⟨ps, q1, _⟩, _⟩ => by cases eq _ q1) fun ps z => by cases eq _ z
theorem Kp.lst {a : Addr} {xs : List V} (k : Kp S H H') (h : H a = some (.lst xs)) (n : a ∉ S) : H' a = some (.lst xs) := k.keep a _ h n fun ps z => by cases z
theorem Kp.sqT {a : Addr} {xs : List V} (k : Kp S H H') (h : SqT K H a xs) : SqT K H' a xs := by
  rcases h with h | h
  · rcases h with h | ⟨o, h⟩
    · exact .inl (.inl (k.tup a xs h))
    · exact .inl (.inr ⟨o, k.frz a _ _ h⟩)
  · exact .inr h
theorem Kp.sqL {a : Addr} {xs : List V} (k : Kp S H H') (h : SqL K H a xs) (n : a ∉ S) : SqL K H' a xs := by
  rcases h with h | h
  · rcases h with h | ⟨o, h⟩
    · exact .inl (.inl (k.lst h n))
    · exact .inl (.inr ⟨o, k.frz a _ _ h⟩)
  · exact .inr h

/-! ### data that holds no list is kept by any call -/
mutual
def noL : PyData → Bool
  | .list _ => false
  | .tuple ds => noLs ds
  | _ => true
def noLs : List PyData → Bool
  | [] => true
  | d :: ds => noL d && noLs ds
end
mutual
theorem dp_mono (k : Kp S H H') : ∀ (d : PyData) {v : V}, Dp K H v d → (noL d = true ∨ S = []) → Dp K H' v d
  | .none, _, h, _ => by cases h; exact .non
  | .bool _, _, h, _ => by cases h; exact .bl _
  | .int _, _, h, _ => by cases h; exact .int _
  | .str _, _, h, _ => by cases h; exact .str _
  | .list ds, _, h, n => by
    rcases n with n | n
    · exact absurd n (by unfold noL; decide)
    · cases h with
      | lst hs ha => exact .lst (k.sqL hs (by rw [n]; exact List.not_mem_nil)) (dps_mono k ds ha (.inr n))
  | .tuple ds, _, h, n => by
    cases h with
    | tup hs ha => exact .tup (k.sqT hs) (dps_mono k ds ha (n.imp_left fun q => by unfold noL at q; exact q))
  | .dict _, _, h, _ => by cases h
theorem dps_mono (k : Kp S H H') : ∀ (ds : List PyData) {vs : List V}, DpAll K H vs ds → (noLs ds = true ∨ S = []) → DpAll K H' vs ds
  | [], _, h, _ => by cases h; exact .nil
  | d :: ds, _, h, n => by
    cases h with
    | cons h1 h2 => exact .cons (dp_mono k d h1 (n.imp_left fun q => by unfold noLs at q; exact (Bool.and_eq_true_iff.mp q).1)) (dps_mono k ds h2 (n.imp_left fun q => by unfold noLs at q; exact (Bool.and_eq_true_iff.mp q).2))
end
theorem noL_c (c : C3) : noL (cD c) = true := rfl
theorem noLs_cs : ∀ cs : List C3, noLs (cs.map cD) = true
  | [] => rfl
  | c :: cs => by
    show (noL (cD c) && noLs (cs.map cD)) = true
    rw [noLs_cs cs, noL_c]
    rfl
theorem cellsL_mono {v : V} {cs : List C3} (k : Kp [] H H') (h : CellsL K H v cs) : CellsL K H' v cs := dp_mono k _ h (.inr rfl)
theorem cellsT_mono {v : V} {cs : List C3} (k : Kp S H H') (h : CellsT K H v cs) : CellsT K H' v cs := dp_mono k _ h (.inl (noLs_cs cs))
theorem c_mono {v : V} {c : C3} (k : Kp S H H') (h : Dp K H v (cD c)) : Dp K H' v (cD c) := dp_mono k _ h (.inl (noL_c c))
theorem items_mono {xs : List V} {cs : List C3} (k : Kp S H H') (h : Items K H xs cs) : Items K H' xs cs := dps_mono k _ h (.inl (noLs_cs cs))
/-- a list of cells at a -/
theorem cellsL_of {a : Addr} {xs : List V} {cs : List C3} (h : H a = some (.lst xs)) (k : Items K H xs cs) : CellsL K H (.ref a) cs := .lst (SqL.of h) k

/-! ### bodies as data -/
def bD : Bd → PyData
  | .block x y z a b c => .tuple [.str "block", cD (x, y, z), cD (a, b, c)]
  | .cells cs => .tuple [.str "cells", .tuple (cs.map cD)]
  | .wth p q => .tuple [.str "with", bD p, bD q]
  | .common p q => .tuple [.str "common", bD p, bD q]
  | .less p q => .tuple [.str "less", bD p, bD q]
  | .moved d p => .tuple [.str "moved", cD d, bD p]
  | .turnX p => .tuple [.str "turned", .str "x", bD p]
  | .turnY p => .tuple [.str "turned", .str "y", bD p]
  | .turnZ p => .tuple [.str "turned", .str "z", bD p]
theorem noL_b : ∀ b : Bd, noL (bD b) = true
  | .block .. => rfl
  | .cells cs => by show (true && (noLs (cs.map cD) && true)) = true; rw [noLs_cs]; rfl
  | .wth p q => by show (true && (noL (bD p) && (noL (bD q) && true))) = true; rw [noL_b p, noL_b q]; rfl
  | .common p q => by show (true && (noL (bD p) && (noL (bD q) && true))) = true; rw [noL_b p, noL_b q]; rfl
  | .less p q => by show (true && (noL (bD p) && (noL (bD q) && true))) = true; rw [noL_b p, noL_b q]; rfl
  | .moved d p => by show (true && (true && (noL (bD p) && true))) = true; rw [noL_b p]; rfl
  | .turnX p => by show (true && (true && (noL (bD p) && true))) = true; rw [noL_b p]; rfl
  | .turnY p => by show (true && (true && (noL (bD p) && true))) = true; rw [noL_b p]; rfl
  | .turnZ p => by show (true && (true && (noL (bD p) && true))) = true; rw [noL_b p]; rfl
abbrev Body (K : PySem.W.Frag) (H : Hp) (v : V) (b : Bd) : Prop := Dp K H v (bD b)
theorem body_mono {v : V} {b : Bd} (k : Kp S H H') (h : Body K H v b) : Body K H' v b := dp_mono k _ h (.inl (noL_b b))
theorem of_dp2 {v : V} {d e : PyData} (h : Dp K H v (.tuple [d, e])) : ∃ p x y, v = .ref p ∧ SqT K H p [x, y] ∧ Dp K H x d ∧ Dp K H y e := by
  cases h with
  | tup hs ha =>
    cases ha with
    | cons h1 ha =>
      cases ha with
      | cons h2 ha =>
        cases ha
        exact ⟨_, _, _, rfl, hs, h1, h2⟩
theorem of_dp3 {v : V} {d e g : PyData} (h : Dp K H v (.tuple [d, e, g])) : ∃ p x y z, v = .ref p ∧ SqT K H p [x, y, z] ∧ Dp K H x d ∧ Dp K H y e ∧ Dp K H z g := by
  cases h with
  | tup hs ha =>
    cases ha with
    | cons h1 ha =>
      cases ha with
      | cons h2 ha =>
        cases ha with
        | cons h3 ha =>
          cases ha
          exact ⟨_, _, _, _, rfl, hs, h1, h2, h3⟩
theorem of_dps {v : V} {x : Str} (h : Dp K H v (.str x)) : v = .str x := by cases h; rfl
theorem of_dpi {v : V} {i : Int} (h : Dp K H v (.int i)) : v = .int i := by cases h; rfl
/-- a body whose three places are these -/
theorem of_body3 {v : V} {w : Str} {e g : PyData} (h : Dp K H v (.tuple [.str w, e, g])) : ∃ p y z, v = .ref p ∧ SqT K H p [.str w, y, z] ∧ Dp K H y e ∧ Dp K H z g := by
  obtain ⟨p, x, y, z, e1, h1, h2, h3, h4⟩ := of_dp3 h
  have q := of_dps h2
  subst q
  exact ⟨p, y, z, e1, h1, h3, h4⟩
theorem of_body2 {v : V} {w : Str} {e : PyData} (h : Dp K H v (.tuple [.str w, e])) : ∃ p y, v = .ref p ∧ SqT K H p [.str w, y] ∧ Dp K H y e := by
  obtain ⟨p, x, y, e1, h1, h2, h3⟩ := of_dp2 h
  have q := of_dps h2
  subst q
  exact ⟨p, y, e1, h1, h3⟩
theorem ty_tup {a : Addr} {xs : List V} (h : SqT K H a xs) : TyX K H (.ref a) (.type "tuple") := by
  rcases h with h | ⟨o, its, n, lk, hc, _⟩
  · rcases h with h | ⟨o, h⟩
    · exact .base (.tup h)
    · exact .fTuple h
  · exact .kTuple lk hc
theorem ty_lst {a : Addr} {xs : List V} (h : SqL K H a xs) : TyX K H (.ref a) (.type "list") := by
  rcases h with h | ⟨o, its, n, lk, hc, _⟩
  · rcases h with h | ⟨o, h⟩
    · exact .base (.lst h)
    · exact .base (.frz h)
  · exact .kList lk hc
/-! ### names -/
structure Fn (K : PySem.W.Frag) (mg : Str → Option Value) (name : Str) (f : Addr) (fd : FuncData) (ps : List Str) : Prop where
  kp : PySem.W.keepIn K (.ref f) = true
  b : Binds K fd ps []
  m : mg name = some (.ref f)
/-- the built-ins whose names the program takes, its constants -/
structure Nm (K : PySem.W.Frag) (mg : Str → Option Value) : Prop where
  isinstance : mg "isinstance" = none
  int : mg "int" = none
  bool : mg "bool" = none
  tuple : mg "tuple" = none
  list : mg "list" = none
  set : mg "set" = none
  len : mg "len" = none
  all : mg "all" = none
  range : mg "range" = none
  sorted : mg "sorted" = none
  side : ∃ t, mg "SIDE" = some (.int 4 t)
  last : ∃ t, mg "LAST" = some (.int 3 t)
  most : ∃ t, mg "MOST_BODIES" = some (.int 20 t)
  edges : ∃ a, mg "EDGES" = some (.ref a) ∧ ∀ H, SqT K H a [.str "x", .str "y", .str "z"]
  joins : ∃ a, mg "JOINS" = some (.ref a) ∧ ∀ H, SqT K H a [.str "with", .str "common", .str "less"]
/-- a def whose code object is at c -/
structure FunC (K : PySem.W.Frag) (x qual : Str) (st : Stmt) (f : Addr) (fd : FuncData) (c : Addr) : Prop where
  ex : ∃ (oc : Value) (od : Option Addr) (kV doc pm : Value) (an : Option Addr) (ct : Value) (osl : Array (Option Value)),
    fd = PySem.W.fnOf x qual (defArgs st) (defBody st) (defScope st) .none kV doc pm an (.ref c) ct ∧ K.lookup f = some ⟨oc, od, .func fd, osl⟩ ∧ PySem.W.codeIn K (.ref c) qual = true
section
variable {P : Program} {w : World} {mg : Str → Option Value} {base : Heap}
theorem FunC.ok {x qual : Str} {st : Stmt} {f c : Addr} {fd : FuncData} {N ps : List Str} {k : Nat} {sp : Sp} (F : FunC K x qual st f fd c) (S : FnScope N ps (defScope st)) (len : ∀ vs H Q E, sp vs H Q E → vs.length = ps.length)
    (hbody : ∀ (A : Around) (outer : List Env) (s : Shared) (H : Hp) (vs : List V) (Q : VK) (E : XK), Room k (A.deeper (envOfC qual (defScope st) s.heap.objs.size f (.ref c))) → sp vs H Q E →
      ∃ t, PSs (cxOf CX0 P w K mg base N qual (defScope st) f (.ref c) A outer s H E).nox (defBody st) t ∧ t { nx := fun _ H' => Q .non H', rt := Q } (start N vs) H) : FnOk P w K mg base CX0 (k + 1) f fd ps sp := by
  obtain ⟨oc, od, kV, doc, pm, an, ct, osl, rfl, lk, hcd⟩ := F.ex
  refine fn_of lk hcd S len fun A outer s H vs Q E hr hsp => ?_
  obtain ⟨t, h, q⟩ := hbody A outer s H vs Q E hr hsp
  exact ⟨t, h.nox, q⟩
theorem FunC.okX {x qual : Str} {st : Stmt} {f c : Addr} {fd : FuncData} {N ps : List Str} {k : Nat} {sp : Sp} (F : FunC K x qual st f fd c) (S : FnScope N ps (defScope st)) (len : ∀ vs H Q E, sp vs H Q E → vs.length = ps.length)
    (hbody : ∀ (A : Around) (outer : List Env) (s : Shared) (H : Hp) (vs : List V) (Q : VK) (E : XK), Room k (A.deeper (envOfC qual (defScope st) s.heap.objs.size f (.ref c))) → sp vs H Q E →
      ∃ t, PSs (cxOf (L2.CX P w) P w K mg base N qual (defScope st) f (.ref c) A outer s H E) (defBody st) t ∧ t { nx := fun _ H' => Q .non H', rt := Q } (start N vs) H) : FnOk P w K mg base (L2.CX P w) (k + 1) f fd ps sp := by
  obtain ⟨oc, od, kV, doc, pm, an, ct, osl, rfl, lk, hcd⟩ := F.ex
  exact fn_of lk hcd S len fun A outer s H vs Q E hr hsp => hbody A outer s H vs Q E hr hsp
theorem fun_mkC {x qual : Str} {st : Stmt} {f c : Addr} {oc : Value} {od an : Option Addr} {osl : Array (Option Value)} {kV doc pm ct : Value} (l : K.lookup f = some ⟨oc, od, .func (PySem.W.fnOf x qual (defArgs st) (defBody st) (defScope st) .none kV doc pm an (.ref c) ct), osl⟩)
    (cd : PySem.W.codeIn K (.ref c) qual = true) : FunC K x qual st f (PySem.W.fnOf x qual (defArgs st) (defBody st) (defScope st) .none kV doc pm an (.ref c) ct) c := ⟨⟨oc, od, kV, doc, pm, an, ct, osl, rfl, l, cd⟩⟩
end
section
variable {X : Cx}
/-- what stands in the invariant may be used -/
theorem pe_fr {e : Expr} {t : TE} (h : X.A.frames = some X.stack → PE X e t) : PE X e t := ⟨fun pins s σ H Q I q => (h I.ok.frames).run pins s σ H Q I q⟩
end
end LP
end

section
set_option Elab.async false
set_option linter.all false
set_option maxRecDepth 100000
set_option maxHeartbeats 2000000
/-! is_number, _is_triple, _are_rising_cells -/
namespace LP
open PySem PySem.Spec PyProof.Rows L2 Ly GY
variable [LamTab] {P : Program} {w : World} {K : PySem.W.Frag} {mg : Str → Option Value} {base : Heap}
def btw (lo hi i : Int) : Bool := decide (lo ≤ i) && decide (i ≤ hi)
def tri (lo hi : Int) (c : C3) : Bool := btw lo hi c.1 && (btw lo hi c.2.1 && btw lo hi c.2.2)
theorem tri_room {c : C3} : tri 0 3 c = true ↔ InR c := by
  unfold tri btw InR
  simp only [Bool.and_eq_true, decide_eq_true_eq]
def spNum : Sp := fun vs H Q _ => ∃ v lo hi : Int, vs = [.int v, .int lo, .int hi] ∧ Q (.bl (btw lo hi v)) H
theorem scNum : FnScope ["value", "low", "high"] ["value", "low", "high"] (defScope sNum) := ⟨rfl, rfl, rfl, by decide +kernel, rfl, by decide +kernel, by decide +kernel⟩
theorem ok_num {f : Addr} {fd : FuncData} (F : Fun K "is_number" "is_number" sNum f fd) (T : Nm K mg) : FnOk P w K mg base CX0 1 f fd ["value", "low", "high"] spNum := by
  refine F.ok scNum (fun vs H Q E h => ?_) (fun cdv A outer s H vs Q E hr h => ?_)
  · obtain ⟨v, lo, hi, rfl, _⟩ := h
    rfl
  · obtain ⟨v, lo, hi, rfl, q⟩ := h
    refine ⟨_, pss_one (ps_ret (pe_and (pe_callB call_isi (by rfl) T.isinstance (by decide +kernel) (pa_cons (pv 0) (pa_cons (pe_bltn (by rfl) T.int (by decide +kernel) (v := .ty "int") rfl) pa_nil)))
      (pe_and (pe_not (pe_callB call_isi (by rfl) T.isinstance (by decide +kernel) (pa_cons (pv 0) (pa_cons (pe_bltn (by rfl) T.bool (by decide +kernel) (v := .ty "bool") rfl) pa_nil))))
        (pe_one (pe_chain op_le op_le (pv 1) (pv 0) (pv 2)))))), ?_⟩
    refine ⟨_, rfl, _, _, _, _, _, rfl, .ty _, .base (.int _), kit_ty (r := true) (by decide +kernel), true, rfl, iteT ?_⟩
    refine ⟨_, rfl, _, _, _, _, _, rfl, .ty _, .base (.int _), kit_ty (r := false) (by decide +kernel), false, rfl, true, rfl, iteT ?_⟩
    refine ⟨_, rfl, _, rfl, _, _, rfl, rfl, _, rfl, ?_⟩
    have e : btw lo hi v = (decide (lo ≤ v) && decide (v ≤ hi)) := rfl
    rw [e] at q
    cases h1 : decide (lo ≤ v) with
    | true =>
      rw [h1] at q
      exact iteT ⟨_, rfl, _, _, rfl, rfl, q⟩
    | false =>
      rw [h1] at q
      exact iteF q

/-! ### _is_triple -/
def spTri (K : PySem.W.Frag) (Pt : Addr) : Sp := fun vs H Q _ => ∃ (a : Addr) (c : C3) (lo hi : Int), vs = [.ref a, .int lo, .int hi] ∧ SqT K H a [.int c.1, .int c.2.1, .int c.2.2] ∧ TGen H Pt ∧ ∀ H', Kp [] H H' → Q (.bl (tri lo hi c)) H'
theorem scTri : FnScope ["value", "low", "high"] ["value", "low", "high"] (defScope sTri) := ⟨rfl, rfl, rfl, by decide +kernel, rfl, by decide +kernel, by decide +kernel⟩
/-- the scope of the one generator expression in a return -/
def genOf : Stmt → Scope
  | .Return (some (.Call _ [.GeneratorExp _ _ sc _] _ _)) _ => sc
  | .Return (some (.BoolOp _ [_, .Call _ [.GeneratorExp _ _ sc _] _ _] _)) _ => sc
  | .Return (some (.BoolOp _ [.Call _ [.GeneratorExp _ _ sc _] _ _, _] _)) _ => sc
  | .If (.BoolOp _ [_, .UnaryOp _ (.Call _ [.GeneratorExp _ _ sc _] _ _) _] _) _ _ _ => sc
  | .If (.UnaryOp _ (.Call _ [.GeneratorExp _ _ sc _] _ _) _) _ _ _ => sc
  | _ => { kind := .function, names := [], isGenerator := false, isCoroutine := false }
def stOf (st : Stmt) (i : Nat) : Stmt := (defBody st).getD i (.Pass ⟨0, 0, 0, 0⟩)
theorem gTri : GX.GOk ["value", "low", "high"] (defScope sTri) (genOf (stOf sTri 1)) "part" := ⟨rfl, rfl, by decide +kernel, rfl, rfl, by decide +kernel, by decide +kernel, by decide +kernel, by decide⟩
theorem btw_all {lo hi : Int} {ns : List Int} {i : Nat} {n : Int} (h : ns[i]? = some n) (p : (ns.take i).all (btw lo hi) = true) :
    (btw lo hi n = true → (ns.take (i + 1)).all (btw lo hi) = true) ∧ (btw lo hi n = false → ns.all (btw lo hi) = false) := by
  refine ⟨fun q => ?_, fun q => ?_⟩
  · rw [List.take_add_one, h]
    show (ns.take i ++ [n]).all _ = true
    rw [List.all_append, p]
    show (true && (btw lo hi n && true)) = true
    rw [q]
    rfl
  · cases e : ns.all (btw lo hi) with
    | false => rfl
    | true =>
      have := List.all_eq_true.mp e n (List.mem_of_getElem? h)
      rw [q] at this
      cases this
theorem int_at {ns : List Int} {i : Nat} {x : V} (h : (ns.map V.int)[i]? = some x) : ∃ n, ns[i]? = some n ∧ x = .int n := by
  rw [List.getElem?_map] at h
  cases e : ns[i]? with
  | none => rw [e] at h; cases h
  | some n => rw [e] at h; exact ⟨n, rfl, (Option.some.inj h).symm⟩
theorem ok_tri {f c Pt fN : Addr} {fd fdN : FuncData} (F : FunC K "_is_triple" "_is_triple" sTri f fd c) (TB : GxR.TabB base mg c Pt) (T : Nm K mg) (N : Fn K mg "is_number" fN fdN ["value", "low", "high"]) (G : FnOk P w K mg base CX0 1 fN fdN ["value", "low", "high"] spNum) :
    FnOk P w K mg base CX0 4 f fd ["value", "low", "high"] (spTri K Pt) := by
  refine F.ok scTri (fun vs H Q E h => ?_) (fun A outer s H vs Q E hr h => ?_)
  · obtain ⟨a, c, lo, hi, rfl, _⟩ := h
    rfl
  · obtain ⟨a, c, lo, hi, rfl, hT, hP, q⟩ := h
    refine ⟨_, pss_cons (ps_if (PW.pt (pw_or (pt_not (pt_val (pe_callB call_isi (by rfl) T.isinstance (by decide +kernel) (pa_cons (pv 0) (pa_cons (pe_bltn (by rfl) T.tuple (by decide +kernel) (v := .ty "tuple") rfl) pa_nil)))))
        (pw_or1 (pt_cmpR op_ne (pe_callB call_len_seq (by rfl) T.len PySem.boot_len (pa_cons (pv 0) pa_nil)) pe_int (nomark _))))) (pss_one (ps_ret pe_bl)) pss_nil)
      (pss_one (ps_ret (pe_fr fun hf => GX.pe_allG (k := 1) hr (by rfl) T.all TB rfl scTri.nd hf gTri (show ("part" : Str) ∉ (["value", "low", "high"] : List Str) by decide) (pi_tup (pv 0))
        (fun A s H C code fp hr1 => pe_call G hr1 (by rfl) N.m N.kp N.b .nil pass0 (pa_cons (pv 3) (pa_cons (pv 1) (pa_cons (pv 2) pa_nil))))))), ?_⟩
    refine ⟨_, rfl, _, _, _, _, _, rfl, .ty _, ty_tup hT, kit_ty (r := true) (by decide +kernel), true, rfl, iteF ?_⟩
    refine ⟨_, rfl, a, _, rfl, .inr hT, rfl, _, rfl, iteF ?_⟩
    refine ⟨_, rfl, a, rfl, ⟨_, hT⟩, hP.1, fun H2 tb => ?_⟩
    have k2 : Kp [] H H2 := Kp.tabbed hP tb
    refine ⟨_, _, ⟨Nat.zero_le _, ?p0⟩, GX.turn_tup (xs := [c.1, c.2.1, c.2.2].map V.int) (fun i H' => Kp [] H H' ∧ ([c.1, c.2.1, c.2.2].take i).all (btw lo hi) = true) rfl (fun i H' _ k => k.1.sqT hT) (fun i x H' hx ⟨k, p⟩ => ?ps) (fun H' ⟨k, p⟩ => ?pd)⟩
    case p0 => exact ⟨k2, rfl⟩
    case ps =>
      obtain ⟨n, hn, rfl⟩ := int_at hx
      refine ⟨_, rfl, _, rfl, _, rfl, n, lo, hi, rfl, _, rfl, ?_⟩
      have z := btw_all hn p
      have hi' : i < ([c.1, c.2.1, c.2.2].map V.int).length := (List.getElem?_eq_some_iff.mp hx).1
      cases e : btw lo hi n with
      | true => exact iteT ⟨hi', k, z.1 e⟩
      | false =>
        have q1 := q H' k
        rw [show tri lo hi c = false from by
          have := z.2 e
          unfold tri
          simpa using this] at q1
        exact iteF q1
    case pd =>
      have q1 := q H' k
      rw [show tri lo hi c = true from by
        unfold tri
        simpa using p] at q1
      exact q1
end LP
end

section
set_option Elab.async false
set_option linter.all false
set_option maxRecDepth 100000
set_option maxHeartbeats 2000000
/-! _are_rising_cells -/
namespace LP
open PySem PySem.Spec PyProof.Rows L2 Ly GY
variable [LamTab] {P : Program} {w : World} {K : PySem.W.Frag} {mg : Str → Option Value} {base : Heap}
theorem lex_c {a b : C3} (h : lt3 a b) : HT.lexLt [a.1, a.2.1, a.2.2] [b.1, b.2.1, b.2.2] = true := by
  unfold lt3 at h
  rw [HT.lexLt_cons, HT.lexLt_cons, HT.lexLt_cons, HT.lexLt_nil_nil]
  rcases h with h | ⟨h1, h | ⟨h2, h3⟩⟩
  · rw [if_neg (by omega)]
    exact decide_eq_true h
  · rw [if_pos h1, if_neg (by omega)]
    exact decide_eq_true h
  · rw [if_pos h1, if_pos h2, if_neg (by omega)]
    exact decide_eq_true h3
theorem asc_at {cs : List C3} (h : Asc cs) {i j : Nat} {a b : C3} (hi : cs[i]? = some a) (hj : cs[j]? = some b) (hl : i < j) : lt3 a b := by
  obtain ⟨h1, rfl⟩ := List.getElem?_eq_some_iff.mp hi
  obtain ⟨h2, rfl⟩ := List.getElem?_eq_some_iff.mp hj
  exact List.pairwise_iff_getElem.mp h i j h1 h2 hl
theorem Items.at {K : PySem.W.Frag} {H : Hp} : ∀ {xs : List V} {cs : List C3} {i : Nat}, Items K H xs cs → i < cs.length → ∃ p c, xs[i]? = some (.ref p) ∧ cs[i]? = some c ∧ SqT K H p [.int c.1, .int c.2.1, .int c.2.2] := by
  intro xs cs i h hi
  have hl := h.length
  have hx : xs[i]? = some xs[i] := List.getElem?_eq_getElem (by omega)
  obtain ⟨c, hc, hd⟩ := h.get hx
  obtain ⟨p, e, hs⟩ := of_dp_c hd
  exact ⟨p, c, by rw [hx, e], hc, hs⟩
/-! ### is_rising, of cells -/
def spRising (K : PySem.W.Frag) : Sp := fun vs H Q _ => ∃ (v : V) (cs : List C3), vs = [v] ∧ CellsT K H v cs ∧ Asc cs ∧ cs.length ≤ 64 ∧ TGen H LamTab.Z ∧ ∀ H', Kp [] H H' → Q (.bl true) H'
theorem scRising : FnScope ["values"] ["values"] (defScope sRising) := ⟨rfl, rfl, rfl, by decide +kernel, rfl, by decide +kernel, by decide +kernel⟩
theorem gRising : GX.GOk ["values"] (defScope sRising) (genOf (stOf sRising 0)) "k" := ⟨rfl, rfl, by decide +kernel, rfl, rfl, by decide +kernel, by decide +kernel, by decide +kernel, by decide⟩
theorem ok_rising {f c : Addr} {fd : FuncData} (F : FunC K "is_rising" "is_rising" sRising f fd c) (TB : GxR.TabB base mg c LamTab.Z) (T : Nm K mg) : FnOk P w K mg base CX0 4 f fd ["values"] (spRising K) := by
  refine F.ok scRising (fun vs H Q E h => ?_) (fun A outer s H vs Q E hr h => ?_)
  · obtain ⟨v, cs, rfl, _⟩ := h
    rfl
  · obtain ⟨v, cs, rfl, hC, hA, h64, hPr, q⟩ := h
    refine ⟨_, pss_one (ps_ret (pe_fr fun hf => GX.pe_allG (k := 1) hr (by rfl) T.all TB rfl scRising.nd hf gRising (show ("k" : Str) ∉ (["values"] : List Str) by decide) (pi_range2 (by rfl) T.range (pa_cons pe_int (pa_cons (pe_callB call_len_seq (by rfl) T.len PySem.boot_len (pa_cons (pv 0) pa_nil)) pa_nil)))
        (fun A s H C code fp hr1 => pe_cmpR (r := rLtT K) (op_ltT hr1.units0) (pe_ix (r := rIxT K) ix_tup (pv 0) (pe_op op_sub (pv 1) pe_int) (fun _ _ => rfl)) (pe_ix (r := rIxT K) ix_tup (pv 0) (pv 1) (fun _ _ => rfl)) (nomark _)))), ?_⟩
    obtain ⟨a, xs, rfl, hT, hI⟩ := of_cellsT hC
    have hl := hI.length
    refine ⟨_, rfl, a, _, rfl, .inr hT, 1, (xs.length : Int), rfl, ⟨by decide, by decide, by omega, by omega⟩, hPr.1, fun H3 tb3 => ?_⟩
    have k3 : Kp [] H H3 := Kp.tabbed hPr tb3
    refine ⟨_, _, ⟨Nat.zero_le _, ?p0⟩, GX.turn_rng (lo := 1) (fun i H' => Kp [] H H') rfl (fun i H' hx k => ?ps) (fun H' k => ?pd)⟩
    case p0 => exact k3
    case ps =>
      obtain ⟨p1, c1, hx1, hc1, hs1⟩ := Items.at hI (show i < cs.length by omega)
      obtain ⟨p2, c2, hx2, hc2, hs2⟩ := Items.at hI (show i + 1 < cs.length by omega)
      refine ⟨_, rfl, _, rfl, _, _, rfl, rfl, a, xs, _, _, rfl, rfl, k.sqT hT, (by rw [show (1 : Int) + (i : Int) - 1 = ((i : Nat) : Int) by omega]; exact atI_nat hx1), ?_⟩
      refine ⟨_, rfl, _, rfl, a, xs, _, _, rfl, rfl, k.sqT hT, (by rw [show (1 : Int) + (i : Int) = ((i + 1 : Nat) : Int) by omega]; exact atI_nat hx2), ?_⟩
      refine ⟨p1, p2, [c1.1, c1.2.1, c1.2.2], [c2.1, c2.2.1, c2.2.2], rfl, rfl, k.sqT hs1, k.sqT hs2, _, rfl, ?_⟩
      rw [lex_c (asc_at hA hc1 hc2 (by omega))]
      exact iteT ⟨by omega, k⟩
    case pd => exact q H' k
def spRise (K : PySem.W.Frag) (Pt Pr : Addr) : Sp := fun vs H Q _ => ∃ (v : V) (cs : List C3), vs = [v] ∧ CellsT K H v cs ∧ Asc cs ∧ (∀ c ∈ cs, InR c) ∧ cs.length ≤ 64 ∧ TGen H Pt ∧ TR H Pr ∧ ∀ H', Kp [] H H' → Q (.bl true) H'
theorem scRise : FnScope ["value"] ["value"] (defScope sRise) := ⟨rfl, rfl, rfl, by decide +kernel, rfl, by decide +kernel, by decide +kernel⟩
theorem gRise1 : GX.GOk ["value"] (defScope sRise) (genOf (stOf sRise 0)) "part" := ⟨rfl, rfl, by decide +kernel, rfl, rfl, by decide +kernel, by decide +kernel, by decide +kernel, by decide⟩
theorem ok_rise {f c Pt Pr fT fZ : Addr} {fd fdT fdZ : FuncData} (F : FunC K "_are_rising_cells" "_are_rising_cells" sRise f fd c) (TB : GxR.TabB base mg c Pr) (T : Nm K mg) (N : Fn K mg "_is_triple" fT fdT ["value", "low", "high"]) (G : FnOk P w K mg base CX0 4 fT fdT ["value", "low", "high"] (spTri K Pt))
    (NZ : Fn K mg "is_rising" fZ fdZ ["values"]) (GZ : FnOk P w K mg base CX0 4 fZ fdZ ["values"] (spRising K)) :
    FnOk P w K mg base CX0 7 f fd ["value"] (spRise K Pt Pr) := by
  obtain ⟨tl, mL⟩ := T.last
  refine F.ok scRise (fun vs H Q E h => ?_) (fun A outer s H vs Q E hr h => ?_)
  · obtain ⟨v, cs, rfl, _⟩ := h
    rfl
  · obtain ⟨v, cs, rfl, hC, hA, hR, h64, hPt, hPr, q⟩ := h
    have hr4 : Room 4 _ := hr.mono (by decide)
    refine ⟨_, pss_cons (ps_if (PW.pt (pw_or (pt_not (pt_val (pe_callB call_isi (by rfl) T.isinstance (by decide +kernel) (pa_cons (pv 0) (pa_cons (pe_bltn (by rfl) T.tuple (by decide +kernel) (v := .ty "tuple") rfl) pa_nil)))))
        (pw_or1 (pt_not (pt_val (pe_fr fun hf => GX.pe_allG (k := 4) hr (by rfl) T.all TB rfl scRise.nd hf gRise1 (show ("part" : Str) ∉ (["value"] : List Str) by decide) (pi_tup (pv 0))
          (fun A s H C code fp hr1 => pe_call G hr1 (by rfl) N.m N.kp N.b .nil pass0 (pa_cons (pv 1) (pa_cons pe_int (pa_cons (pe_glob (v := .int 3) rfl mL ⟨_, rfl⟩) pa_nil)))))))))) (pss_one (ps_ret pe_bl)) pss_nil)
      (pss_one (ps_ret (pe_call GZ hr4 (by rfl) NZ.m NZ.kp NZ.b .nil pass0 (pa_cons (pv 0) pa_nil)))), ?_⟩
    obtain ⟨a, xs, rfl, hT, hI⟩ := of_cellsT hC
    have hl := hI.length
    refine ⟨_, rfl, _, _, _, _, _, rfl, .ty _, ty_tup hT, kit_ty (r := true) (by decide +kernel), true, rfl, iteF ?_⟩
    refine ⟨_, rfl, a, rfl, ⟨_, hT⟩, hPr.1.1, fun H2 tb => ?_⟩
    refine ⟨_, _, ⟨Nat.zero_le _, ?p0⟩, GX.turn_tup (xs := xs) (fun i H' => Kp [] H H') rfl (fun i H' _ k => k.sqT hT) (fun i x H' hx k => ?ps) (fun H' k => ?pd)⟩
    case p0 => exact Kp.tabbed hPr.1 tb
    case ps =>
      obtain ⟨c, hc, hd⟩ := hI.get hx
      obtain ⟨p, rfl, hs⟩ := of_dp_c hd
      refine ⟨_, rfl, p, c, 0, 3, rfl, k.sqT hs, k.tab _ hPt, fun H3 k3 => ⟨_, rfl, ?_⟩⟩
      rw [tri_room.mpr (hR c (List.mem_of_getElem? hc))]
      exact iteT ⟨(List.getElem?_eq_some_iff.mp hx).1, k.trans k3⟩
    case pd =>
      refine ⟨_, rfl, iteF ?_⟩
      exact ⟨_, rfl, _, cs, rfl, cellsT_mono k hC, hA, h64, k.tab _ hPr.2, fun H3 k3 => q H3 (k.trans k3)⟩
end LP
end

section
set_option Elab.async false
set_option linter.all false
set_option maxRecDepth 100000
set_option maxHeartbeats 2000000
/-! _is_formed, _places_within -/
namespace LP
open PySem PySem.Spec PyProof.Rows L2 Ly GY
variable [LamTab] {P : Program} {w : World} {K : PySem.W.Frag} {mg : Str → Option Value} {base : Heap}
theorem itD0 {c A B : Prop} [Decidable c] (h : ¬ c) (b : B) : if decide c = true then A else B := by
  rw [decide_eq_false h]
  exact iteF b
theorem itD1 {c A B : Prop} [Decidable c] (h : c) (a : A) : if decide c = true then A else B := by
  rw [decide_eq_true h]
  exact iteT a
theorem few {cs : List C3} (h : Asc cs) (k : ∀ c ∈ cs, InR c) : cs.length ≤ 64 := by
  have := GZ.nodup_le (asc_nodup h) (fun x hx => mem_room.mpr (k x hx))
  have e : room.length = 64 := by unfold room; rw [List.length_map, List.length_range]
  omega
def spForm (K : PySem.W.Frag) (Pt Pr : Addr) : Sp := fun vs H Q _ => ∃ (v : V) (b : Bd), vs = [v] ∧ Body K H v b ∧ Good b ∧ TGen H Pt ∧ TR H Pr ∧ ∀ H', Kp [] H H' → Q (.bl true) H'
theorem scForm : FnScope ["body", "word"] ["body"] (defScope sFormed) := ⟨rfl, rfl, rfl, by decide +kernel, rfl, by decide +kernel, by decide +kernel⟩
theorem ok_form {f Pt Pr fT fR : Addr} {fd fdT fdR : FuncData} (F : Fun K "_is_formed" "_is_formed" sFormed f fd) (T : Nm K mg)
    (NT : Fn K mg "_is_triple" fT fdT ["value", "low", "high"]) (GT : FnOk P w K mg base CX0 4 fT fdT ["value", "low", "high"] (spTri K Pt))
    (NR : Fn K mg "_are_rising_cells" fR fdR ["value"]) (GR : FnOk P w K mg base CX0 7 fR fdR ["value"] (spRise K Pt Pr)) :
    FnOk P w K mg base CX0 8 f fd ["body"] (spForm K Pt Pr) := by
  obtain ⟨tl, mL⟩ := T.last
  obtain ⟨ts, mS⟩ := T.side
  obtain ⟨aE, mE, hE⟩ := T.edges
  obtain ⟨aJ, mJ, hJ⟩ := T.joins
  refine F.ok scForm (fun vs H Q E h => ?_) (fun cdv A outer s H vs Q E hr h => ?_)
  · obtain ⟨v, b, rfl, _⟩ := h
    rfl
  · obtain ⟨v, b, rfl, hB, hg, hPt, hPr, q⟩ := h
    have hr4 : Room 4 _ := hr.mono (by decide)
    refine ⟨_, pss_cons (ps_if (PW.pt (pw_or (pt_not (pt_val (pe_callB call_isi (by rfl) T.isinstance (by decide +kernel) (pa_cons (pv 0) (pa_cons (pe_bltn (by rfl) T.tuple (by decide +kernel) (v := .ty "tuple") rfl) pa_nil)))))
        (pw_or1 (pt_cmpR op_notIn_seq (pe_callB call_len_seq (by rfl) T.len PySem.boot_len (pa_cons (pv 0) pa_nil)) (pe_tup (pa_cons pe_int (pa_cons pe_int pa_nil))) (by rfl))))) (pss_one (ps_ret pe_bl)) pss_nil)
      (pss_cons (ps_set (i := 1) scForm.nd rfl (.inl rfl) (pe_ix ix_tup (pv 0) pe_int (fun _ _ => rfl)))
      (pss_cons (ps_if (pt_cmpR op_eq (pe_callB call_len_seq (by rfl) T.len PySem.boot_len (pa_cons (pv 0) pa_nil)) pe_int (nomark _))
        (pss_one (ps_ret (pe_and (pe_cmpR op_eq (pv 1) pe_str (nomark _)) (pe_one (pe_call GR hr (by rfl) NR.m NR.kp NR.b .nil pass0 (pa_cons (pe_ix ix_tup (pv 0) pe_int (fun _ _ => rfl)) pa_nil)))))) pss_nil)
      (pss_cons (ps_if (pt_cmpR op_eq (pv 1) pe_str (nomark _))
        (pss_one (ps_ret (pe_and (pe_call GT hr4 (by rfl) NT.m NT.kp NT.b .nil pass0 (pa_cons (pe_ix ix_tup (pv 0) pe_int (fun _ _ => rfl)) (pa_cons pe_int (pa_cons (pe_glob (v := .int 3) rfl mL ⟨_, rfl⟩) pa_nil))))
          (pe_one (pe_call GT hr4 (by rfl) NT.m NT.kp NT.b .nil pass0 (pa_cons (pe_ix ix_tup (pv 0) pe_int (fun _ _ => rfl)) (pa_cons pe_int (pa_cons (pe_glob (v := .int 4) rfl mS ⟨_, rfl⟩) pa_nil)))))))) pss_nil)
      (pss_cons (ps_if (pt_cmpR op_eq (pv 1) pe_str (nomark _))
        (pss_one (ps_ret (pe_call GT hr4 (by rfl) NT.m NT.kp NT.b .nil pass0 (pa_cons (pe_ix ix_tup (pv 0) pe_int (fun _ _ => rfl)) (pa_cons (pe_un un_neg (pe_glob (v := .int 3) rfl mL ⟨_, rfl⟩)) (pa_cons (pe_glob (v := .int 3) rfl mL ⟨_, rfl⟩) pa_nil)))))) pss_nil)
      (pss_cons (ps_if (pt_cmpR op_eq (pv 1) pe_str (nomark _)) (pss_one (ps_ret (pe_cmpR op_in_seq (pe_ix ix_tup (pv 0) pe_int (fun _ _ => rfl)) (pe_glob (v := .ref aE) rfl mE rfl) (by rfl)))) pss_nil)
      (pss_one (ps_ret (pe_cmpR op_in_seq (pv 1) (pe_glob (v := .ref aJ) rfl mJ rfl) (by rfl))))))))), ?_⟩
    cases b with
    | block x y z a b c =>
      obtain ⟨p, y1, z1, rfl, hT, h1, h2⟩ := of_body3 hB
      refine ⟨_, rfl, _, _, _, _, _, rfl, .ty _, ty_tup hT, kit_ty (r := true) (by decide +kernel), true, rfl, iteF ?_⟩
      refine ⟨_, rfl, p, _, rfl, .inr hT, (by show 2 ≤ sizeLine; decide), fun t ht => ⟨t, _, rfl, .inr (SqT.of upd_same), rfl, rfl, _, rfl, iteF ?_⟩⟩
      have k1 : Kp [] H (upd H t (.tup [.int 2, .int 3])) := Kp.new ht
      generalize upd H t (.tup [.int 2, .int 3]) = H1 at k1 ⊢
      refine ⟨_, rfl, p, _, _, _, rfl, rfl, k1.sqT hT, rfl, ?_⟩
      refine ⟨_, rfl, p, _, rfl, .inr (k1.sqT hT), rfl, _, rfl, itD0 (show ¬ V.int 3 = V.int 2 by decide) ?_⟩
      refine ⟨_, rfl, rfl, _, rfl, itD1 (by decide +kernel) ?_⟩
      obtain ⟨p1, rfl, hs1⟩ := of_dp_c h1
      obtain ⟨p2, rfl, hs2⟩ := of_dp_c h2
      obtain ⟨⟨g1, g2, g3⟩, ga, gb, gc⟩ := hg
      refine ⟨_, rfl, p, _, _, _, rfl, rfl, k1.sqT hT, rfl, p1, (x, y, z), 0, 3, rfl, k1.sqT hs1, k1.tab _ hPt, fun H2 k2 => ⟨_, rfl, ?_⟩⟩
      rw [tri_room.mpr ⟨g1, g2, g3⟩]
      refine iteT ⟨_, rfl, p, _, _, _, rfl, rfl, k2.sqT (k1.sqT hT), rfl, p2, (a, b, c), 1, 4, rfl, k2.sqT (k1.sqT hs2), k2.tab _ (k1.tab _ hPt), fun H3 k3 => ?_⟩
      have e : tri 1 4 (a, b, c) = true := by
        unfold tri btw
        simp only [Bool.and_eq_true, decide_eq_true_eq]
        simp only at g1 g2 g3
        omega
      rw [e]
      exact q H3 ((k1.trans k2).trans k3)
    | cells cs =>
      obtain ⟨p, y1, rfl, hT, h1⟩ := of_body2 hB
      refine ⟨_, rfl, _, _, _, _, _, rfl, .ty _, ty_tup hT, kit_ty (r := true) (by decide +kernel), true, rfl, iteF ?_⟩
      refine ⟨_, rfl, p, _, rfl, .inr hT, (by show 2 ≤ sizeLine; decide), fun t ht => ⟨t, _, rfl, .inr (SqT.of upd_same), rfl, rfl, _, rfl, iteF ?_⟩⟩
      have k1 : Kp [] H (upd H t (.tup [.int 2, .int 3])) := Kp.new ht
      generalize upd H t (.tup [.int 2, .int 3]) = H1 at k1 ⊢
      refine ⟨_, rfl, p, _, _, _, rfl, rfl, k1.sqT hT, rfl, ?_⟩
      refine ⟨_, rfl, p, _, rfl, .inr (k1.sqT hT), rfl, _, rfl, itD1 (show V.int 2 = V.int 2 from rfl) ?_⟩
      refine ⟨_, rfl, rfl, _, rfl, itD1 (by decide +kernel) ?_⟩
      exact ⟨_, rfl, p, _, _, _, rfl, rfl, k1.sqT hT, rfl, y1, cs, rfl, cellsT_mono k1 h1, hg.1, hg.2, few hg.1 hg.2, k1.tab _ hPt, k1.tabr hPr, fun H3 k3 => q H3 (k1.trans k3)⟩
    | wth b1 b2 =>
      obtain ⟨p, y1, z1, rfl, hT, h1, h2⟩ := of_body3 hB
      refine ⟨_, rfl, _, _, _, _, _, rfl, .ty _, ty_tup hT, kit_ty (r := true) (by decide +kernel), true, rfl, iteF ?_⟩
      refine ⟨_, rfl, p, _, rfl, .inr hT, (by show 2 ≤ sizeLine; decide), fun t ht => ⟨t, _, rfl, .inr (SqT.of upd_same), rfl, rfl, _, rfl, iteF ?_⟩⟩
      have k1 : Kp [] H (upd H t (.tup [.int 2, .int 3])) := Kp.new ht
      generalize upd H t (.tup [.int 2, .int 3]) = H1 at k1 ⊢
      refine ⟨_, rfl, p, _, _, _, rfl, rfl, k1.sqT hT, rfl, ?_⟩
      refine ⟨_, rfl, p, _, rfl, .inr (k1.sqT hT), rfl, _, rfl, itD0 (show ¬ V.int 3 = V.int 2 by decide) ?_⟩
      refine ⟨_, rfl, rfl, _, rfl, itD0 (by decide +kernel) ?_⟩
      refine ⟨_, rfl, rfl, _, rfl, itD0 (by decide +kernel) ?_⟩
      refine ⟨_, rfl, rfl, _, rfl, itD0 (by decide +kernel) ?_⟩
      exact ⟨_, rfl, aJ, _, rfl, .inr (hJ _), rfl, rfl, q H1 k1⟩
    | common b1 b2 =>
      obtain ⟨p, y1, z1, rfl, hT, h1, h2⟩ := of_body3 hB
      refine ⟨_, rfl, _, _, _, _, _, rfl, .ty _, ty_tup hT, kit_ty (r := true) (by decide +kernel), true, rfl, iteF ?_⟩
      refine ⟨_, rfl, p, _, rfl, .inr hT, (by show 2 ≤ sizeLine; decide), fun t ht => ⟨t, _, rfl, .inr (SqT.of upd_same), rfl, rfl, _, rfl, iteF ?_⟩⟩
      have k1 : Kp [] H (upd H t (.tup [.int 2, .int 3])) := Kp.new ht
      generalize upd H t (.tup [.int 2, .int 3]) = H1 at k1 ⊢
      refine ⟨_, rfl, p, _, _, _, rfl, rfl, k1.sqT hT, rfl, ?_⟩
      refine ⟨_, rfl, p, _, rfl, .inr (k1.sqT hT), rfl, _, rfl, itD0 (show ¬ V.int 3 = V.int 2 by decide) ?_⟩
      refine ⟨_, rfl, rfl, _, rfl, itD0 (by decide +kernel) ?_⟩
      refine ⟨_, rfl, rfl, _, rfl, itD0 (by decide +kernel) ?_⟩
      refine ⟨_, rfl, rfl, _, rfl, itD0 (by decide +kernel) ?_⟩
      exact ⟨_, rfl, aJ, _, rfl, .inr (hJ _), rfl, rfl, q H1 k1⟩
    | less b1 b2 =>
      obtain ⟨p, y1, z1, rfl, hT, h1, h2⟩ := of_body3 hB
      refine ⟨_, rfl, _, _, _, _, _, rfl, .ty _, ty_tup hT, kit_ty (r := true) (by decide +kernel), true, rfl, iteF ?_⟩
      refine ⟨_, rfl, p, _, rfl, .inr hT, (by show 2 ≤ sizeLine; decide), fun t ht => ⟨t, _, rfl, .inr (SqT.of upd_same), rfl, rfl, _, rfl, iteF ?_⟩⟩
      have k1 : Kp [] H (upd H t (.tup [.int 2, .int 3])) := Kp.new ht
      generalize upd H t (.tup [.int 2, .int 3]) = H1 at k1 ⊢
      refine ⟨_, rfl, p, _, _, _, rfl, rfl, k1.sqT hT, rfl, ?_⟩
      refine ⟨_, rfl, p, _, rfl, .inr (k1.sqT hT), rfl, _, rfl, itD0 (show ¬ V.int 3 = V.int 2 by decide) ?_⟩
      refine ⟨_, rfl, rfl, _, rfl, itD0 (by decide +kernel) ?_⟩
      refine ⟨_, rfl, rfl, _, rfl, itD0 (by decide +kernel) ?_⟩
      refine ⟨_, rfl, rfl, _, rfl, itD0 (by decide +kernel) ?_⟩
      exact ⟨_, rfl, aJ, _, rfl, .inr (hJ _), rfl, rfl, q H1 k1⟩
    | moved d b1 =>
      obtain ⟨p, y1, z1, rfl, hT, h1, h2⟩ := of_body3 hB
      refine ⟨_, rfl, _, _, _, _, _, rfl, .ty _, ty_tup hT, kit_ty (r := true) (by decide +kernel), true, rfl, iteF ?_⟩
      refine ⟨_, rfl, p, _, rfl, .inr hT, (by show 2 ≤ sizeLine; decide), fun t ht => ⟨t, _, rfl, .inr (SqT.of upd_same), rfl, rfl, _, rfl, iteF ?_⟩⟩
      have k1 : Kp [] H (upd H t (.tup [.int 2, .int 3])) := Kp.new ht
      generalize upd H t (.tup [.int 2, .int 3]) = H1 at k1 ⊢
      refine ⟨_, rfl, p, _, _, _, rfl, rfl, k1.sqT hT, rfl, ?_⟩
      refine ⟨_, rfl, p, _, rfl, .inr (k1.sqT hT), rfl, _, rfl, itD0 (show ¬ V.int 3 = V.int 2 by decide) ?_⟩
      refine ⟨_, rfl, rfl, _, rfl, itD0 (by decide +kernel) ?_⟩
      refine ⟨_, rfl, rfl, _, rfl, itD1 (by decide +kernel) ?_⟩
      obtain ⟨p1, rfl, hs1⟩ := of_dp_c h1
      refine ⟨_, rfl, p, _, _, _, rfl, rfl, k1.sqT hT, rfl, 3, rfl, p1, d, -3, 3, rfl, k1.sqT hs1, k1.tab _ hPt, fun H2 k2 => ?_⟩
      have e : tri (-3) 3 d = true := by
        have := hg.1
        unfold Far at this
        unfold tri btw
        simp only [Bool.and_eq_true, decide_eq_true_eq]
        omega
      rw [e]
      exact q H2 (k1.trans k2)
    | turnX b1 =>
      obtain ⟨p, y1, z1, rfl, hT, h1, h2⟩ := of_body3 hB
      refine ⟨_, rfl, _, _, _, _, _, rfl, .ty _, ty_tup hT, kit_ty (r := true) (by decide +kernel), true, rfl, iteF ?_⟩
      refine ⟨_, rfl, p, _, rfl, .inr hT, (by show 2 ≤ sizeLine; decide), fun t ht => ⟨t, _, rfl, .inr (SqT.of upd_same), rfl, rfl, _, rfl, iteF ?_⟩⟩
      have k1 : Kp [] H (upd H t (.tup [.int 2, .int 3])) := Kp.new ht
      generalize upd H t (.tup [.int 2, .int 3]) = H1 at k1 ⊢
      refine ⟨_, rfl, p, _, _, _, rfl, rfl, k1.sqT hT, rfl, ?_⟩
      refine ⟨_, rfl, p, _, rfl, .inr (k1.sqT hT), rfl, _, rfl, itD0 (show ¬ V.int 3 = V.int 2 by decide) ?_⟩
      refine ⟨_, rfl, rfl, _, rfl, itD0 (by decide +kernel) ?_⟩
      refine ⟨_, rfl, rfl, _, rfl, itD0 (by decide +kernel) ?_⟩
      refine ⟨_, rfl, rfl, _, rfl, itD1 (by decide +kernel) ?_⟩
      obtain rfl := of_dps h1
      exact ⟨_, rfl, p, _, _, _, rfl, rfl, k1.sqT hT, rfl, aE, _, rfl, .inr (hE _), rfl, rfl, q H1 k1⟩
    | turnY b1 =>
      obtain ⟨p, y1, z1, rfl, hT, h1, h2⟩ := of_body3 hB
      refine ⟨_, rfl, _, _, _, _, _, rfl, .ty _, ty_tup hT, kit_ty (r := true) (by decide +kernel), true, rfl, iteF ?_⟩
      refine ⟨_, rfl, p, _, rfl, .inr hT, (by show 2 ≤ sizeLine; decide), fun t ht => ⟨t, _, rfl, .inr (SqT.of upd_same), rfl, rfl, _, rfl, iteF ?_⟩⟩
      have k1 : Kp [] H (upd H t (.tup [.int 2, .int 3])) := Kp.new ht
      generalize upd H t (.tup [.int 2, .int 3]) = H1 at k1 ⊢
      refine ⟨_, rfl, p, _, _, _, rfl, rfl, k1.sqT hT, rfl, ?_⟩
      refine ⟨_, rfl, p, _, rfl, .inr (k1.sqT hT), rfl, _, rfl, itD0 (show ¬ V.int 3 = V.int 2 by decide) ?_⟩
      refine ⟨_, rfl, rfl, _, rfl, itD0 (by decide +kernel) ?_⟩
      refine ⟨_, rfl, rfl, _, rfl, itD0 (by decide +kernel) ?_⟩
      refine ⟨_, rfl, rfl, _, rfl, itD1 (by decide +kernel) ?_⟩
      obtain rfl := of_dps h1
      exact ⟨_, rfl, p, _, _, _, rfl, rfl, k1.sqT hT, rfl, aE, _, rfl, .inr (hE _), rfl, rfl, q H1 k1⟩
    | turnZ b1 =>
      obtain ⟨p, y1, z1, rfl, hT, h1, h2⟩ := of_body3 hB
      refine ⟨_, rfl, _, _, _, _, _, rfl, .ty _, ty_tup hT, kit_ty (r := true) (by decide +kernel), true, rfl, iteF ?_⟩
      refine ⟨_, rfl, p, _, rfl, .inr hT, (by show 2 ≤ sizeLine; decide), fun t ht => ⟨t, _, rfl, .inr (SqT.of upd_same), rfl, rfl, _, rfl, iteF ?_⟩⟩
      have k1 : Kp [] H (upd H t (.tup [.int 2, .int 3])) := Kp.new ht
      generalize upd H t (.tup [.int 2, .int 3]) = H1 at k1 ⊢
      refine ⟨_, rfl, p, _, _, _, rfl, rfl, k1.sqT hT, rfl, ?_⟩
      refine ⟨_, rfl, p, _, rfl, .inr (k1.sqT hT), rfl, _, rfl, itD0 (show ¬ V.int 3 = V.int 2 by decide) ?_⟩
      refine ⟨_, rfl, rfl, _, rfl, itD0 (by decide +kernel) ?_⟩
      refine ⟨_, rfl, rfl, _, rfl, itD0 (by decide +kernel) ?_⟩
      refine ⟨_, rfl, rfl, _, rfl, itD1 (by decide +kernel) ?_⟩
      obtain rfl := of_dps h1
      exact ⟨_, rfl, p, _, _, _, rfl, rfl, k1.sqT hT, rfl, aE, _, rfl, .inr (hE _), rfl, rfl, q H1 k1⟩
end LP
end

section
set_option Elab.async false
set_option linter.all false
set_option maxRecDepth 100000
set_option maxHeartbeats 2000000
/-! _places_within, is_body -/
namespace LP
open PySem PySem.Spec PyProof.Rows L2 Ly GY
variable [LamTab] {P : Program} {w : World} {K : PySem.W.Frag} {mg : Str → Option Value} {base : Heap}
theorem itB0 {c : Bool} {A B : Prop} (h : c = false) (b : B) : if c = true then A else B := by
  subst h
  exact iteF b
theorem itB1 {c : Bool} {A B : Prop} (h : c = true) (a : A) : if c = true then A else B := by
  subst h
  exact iteT a
def subs : Bd → List Bd
  | .wth p q => [p, q]
  | .common p q => [p, q]
  | .less p q => [p, q]
  | .moved _ p => [p]
  | .turnX p => [p]
  | .turnY p => [p]
  | .turnZ p => [p]
  | _ => []
abbrev Bodies (K : PySem.W.Frag) (H : Hp) (vs : List V) (bs : List Bd) : Prop := DpAll K H vs (bs.map bD)
theorem noLs_bs : ∀ bs : List Bd, noLs (bs.map bD) = true
  | [] => rfl
  | c :: cs => by
    show (noL (bD c) && noLs (cs.map bD)) = true
    rw [noLs_bs cs, noL_b]
    rfl
theorem bodies_mono {S : List Addr} {H H' : Hp} {vs : List V} {bs : List Bd} (k : Kp S H H') (h : Bodies K H vs bs) : Bodies K H' vs bs := dps_mono k _ h (.inl (noLs_bs bs))
theorem Bodies.length {H : Hp} : ∀ {vs : List V} {bs : List Bd}, Bodies K H vs bs → vs.length = bs.length
  | _, [], h => by cases h; rfl
  | _, _ :: _, h => by
    cases h with
    | cons _ t => exact congrArg (· + 1) (Bodies.length t)
theorem Bodies.append {H : Hp} : ∀ {vs : List V} {bs : List Bd} {ws : List V} {cs : List Bd}, Bodies K H vs bs → Bodies K H ws cs → Bodies K H (vs ++ ws) (bs ++ cs)
  | _, [], _, _, h, k => by cases h; exact k
  | _, _ :: _, _, _, h, k => by
    cases h with
    | cons a t => exact .cons a (Bodies.append t k)
/-- the last of them -/
theorem Bodies.last {H : Hp} : ∀ {vs : List V} {bs : List Bd}, Bodies K H vs bs → bs ≠ [] → ∃ v b, vs[vs.length - 1]? = some v ∧ bs = bs.dropLast ++ [b] ∧ Body K H v b ∧ Bodies K H vs.dropLast bs.dropLast
  | _, [], _, n => absurd rfl n
  | _, [b], h, _ => by
    cases h with
    | cons a t =>
      cases t
      exact ⟨_, b, rfl, rfl, a, .nil⟩
  | _, b :: c :: r, h, _ => by
    cases h with
    | @cons v vs' _ _ a t =>
      obtain ⟨x, d, h1, h2, h3, h4⟩ := Bodies.last t (by simp)
      have hl := Bodies.length (bs := c :: r) t
      obtain ⟨y, ys, rfl⟩ : ∃ y ys, vs' = y :: ys := by
        cases vs' with
        | nil => cases hl
        | cons y ys => exact ⟨y, ys, rfl⟩
      refine ⟨x, d, ?_, ?_, h3, .cons a h4⟩
      · simpa using h1
      · show b :: (c :: r) = b :: (c :: r).dropLast ++ [d]
        rw [List.cons_append, ← h2]
def spPlaces (K : PySem.W.Frag) : Sp := fun vs H Q _ => ∃ (v : V) (b : Bd), vs = [v] ∧ Body K H v b ∧ ∀ H' l us, Kp [] H H' → H l = none → H' l = some (.lst us) → Bodies K H' us (subs b) → Q (.ref l) H'
theorem scPlaces : FnScope ["body", "word"] ["body"] (defScope sPlaces) := ⟨rfl, rfl, rfl, by decide +kernel, rfl, by decide +kernel, by decide +kernel⟩
theorem ok_places {f : Addr} {fd : FuncData} (F : Fun K "_places_within" "_places_within" sPlaces f fd) (T : Nm K mg) : FnOk P w K mg base CX0 1 f fd ["body"] (spPlaces K) := by
  obtain ⟨aJ, mJ, hJ⟩ := T.joins
  refine F.ok scPlaces (fun vs H Q E h => ?_) (fun cdv A outer s H vs Q E hr h => ?_)
  · obtain ⟨v, b, rfl, _⟩ := h
    rfl
  · obtain ⟨v, b, rfl, hB, q⟩ := h
    refine ⟨_, pss_cons (ps_set (i := 1) scPlaces.nd rfl (.inl rfl) (pe_ix ix_tup (pv 0) pe_int (fun _ _ => rfl)))
      (pss_cons (ps_if (pt_cmpR op_in_seq (pv 1) (pe_glob (v := .ref aJ) rfl mJ rfl) (by rfl)) (pss_one (ps_ret (pe_lst (pa_cons (pe_ix ix_tup (pv 0) pe_int (fun _ _ => rfl)) (pa_cons (pe_ix ix_tup (pv 0) pe_int (fun _ _ => rfl)) pa_nil))))) pss_nil)
      (pss_cons (ps_if (pt_cmpR op_in_seq (pv 1) (pe_tup (pa_cons pe_str (pa_cons pe_str pa_nil))) (by rfl)) (pss_one (ps_ret (pe_lst (pa_cons (pe_ix ix_tup (pv 0) pe_int (fun _ _ => rfl)) pa_nil)))) pss_nil)
      (pss_one (ps_ret (pe_lst pa_nil))))), ?_⟩
    cases b with
    | block x y z a b c =>
      obtain ⟨p, y1, z1, rfl, hT, h1, h2⟩ := of_body3 hB
      refine ⟨_, rfl, p, _, _, _, rfl, rfl, hT, rfl, ?_⟩
      refine ⟨_, rfl, aJ, _, rfl, .inr (hJ _), rfl, rfl, _, rfl, itB0 (by decide +kernel) ?_⟩
      refine ⟨_, rfl, (by show 2 ≤ sizeLine; decide), fun t ht => ⟨t, _, rfl, .inr (SqT.of upd_same), rfl, rfl, _, rfl, itB0 (by decide +kernel) ?_⟩⟩
      have k1 : Kp [] H (upd H t (.tup [.str "moved", .str "turned"])) := Kp.new ht
      generalize upd H t (.tup [.str "moved", .str "turned"]) = H1 at k1 ⊢
      exact ⟨Nat.zero_le _, fun l hl => q _ l _ (k1.trans (Kp.new hl)) (k1.free _ hl) upd_same .nil⟩
    | cells cs =>
      obtain ⟨p, y1, rfl, hT, h1⟩ := of_body2 hB
      refine ⟨_, rfl, p, _, _, _, rfl, rfl, hT, rfl, ?_⟩
      refine ⟨_, rfl, aJ, _, rfl, .inr (hJ _), rfl, rfl, _, rfl, itB0 (by decide +kernel) ?_⟩
      refine ⟨_, rfl, (by show 2 ≤ sizeLine; decide), fun t ht => ⟨t, _, rfl, .inr (SqT.of upd_same), rfl, rfl, _, rfl, itB0 (by decide +kernel) ?_⟩⟩
      have k1 : Kp [] H (upd H t (.tup [.str "moved", .str "turned"])) := Kp.new ht
      generalize upd H t (.tup [.str "moved", .str "turned"]) = H1 at k1 ⊢
      exact ⟨Nat.zero_le _, fun l hl => q _ l _ (k1.trans (Kp.new hl)) (k1.free _ hl) upd_same .nil⟩
    | wth b1 b2 =>
      obtain ⟨p, y1, z1, rfl, hT, h1, h2⟩ := of_body3 hB
      refine ⟨_, rfl, p, _, _, _, rfl, rfl, hT, rfl, ?_⟩
      refine ⟨_, rfl, aJ, _, rfl, .inr (hJ _), rfl, rfl, _, rfl, itB1 (by decide +kernel) ?_⟩
      refine ⟨_, rfl, p, _, _, _, rfl, rfl, hT, rfl, _, rfl, p, _, _, _, rfl, rfl, hT, rfl, (by show 2 ≤ sizeLine; decide), fun l hl => ?_⟩
      have k1 : Kp [] H (upd H l (.lst [y1, z1])) := Kp.new hl
      exact q _ l _ k1 hl upd_same (.cons (body_mono k1 h1) (.cons (body_mono k1 h2) .nil))
    | common b1 b2 =>
      obtain ⟨p, y1, z1, rfl, hT, h1, h2⟩ := of_body3 hB
      refine ⟨_, rfl, p, _, _, _, rfl, rfl, hT, rfl, ?_⟩
      refine ⟨_, rfl, aJ, _, rfl, .inr (hJ _), rfl, rfl, _, rfl, itB1 (by decide +kernel) ?_⟩
      refine ⟨_, rfl, p, _, _, _, rfl, rfl, hT, rfl, _, rfl, p, _, _, _, rfl, rfl, hT, rfl, (by show 2 ≤ sizeLine; decide), fun l hl => ?_⟩
      have k1 : Kp [] H (upd H l (.lst [y1, z1])) := Kp.new hl
      exact q _ l _ k1 hl upd_same (.cons (body_mono k1 h1) (.cons (body_mono k1 h2) .nil))
    | less b1 b2 =>
      obtain ⟨p, y1, z1, rfl, hT, h1, h2⟩ := of_body3 hB
      refine ⟨_, rfl, p, _, _, _, rfl, rfl, hT, rfl, ?_⟩
      refine ⟨_, rfl, aJ, _, rfl, .inr (hJ _), rfl, rfl, _, rfl, itB1 (by decide +kernel) ?_⟩
      refine ⟨_, rfl, p, _, _, _, rfl, rfl, hT, rfl, _, rfl, p, _, _, _, rfl, rfl, hT, rfl, (by show 2 ≤ sizeLine; decide), fun l hl => ?_⟩
      have k1 : Kp [] H (upd H l (.lst [y1, z1])) := Kp.new hl
      exact q _ l _ k1 hl upd_same (.cons (body_mono k1 h1) (.cons (body_mono k1 h2) .nil))
    | moved d b1 =>
      obtain ⟨p, y1, z1, rfl, hT, h1, h2⟩ := of_body3 hB
      refine ⟨_, rfl, p, _, _, _, rfl, rfl, hT, rfl, ?_⟩
      refine ⟨_, rfl, aJ, _, rfl, .inr (hJ _), rfl, rfl, _, rfl, itB0 (by decide +kernel) ?_⟩
      refine ⟨_, rfl, (by show 2 ≤ sizeLine; decide), fun t ht => ⟨t, _, rfl, .inr (SqT.of upd_same), rfl, rfl, _, rfl, itB1 (by decide +kernel) ?_⟩⟩
      have k1 : Kp [] H (upd H t (.tup [.str "moved", .str "turned"])) := Kp.new ht
      generalize upd H t (.tup [.str "moved", .str "turned"]) = H1 at k1 ⊢
      refine ⟨_, rfl, p, _, _, _, rfl, rfl, k1.sqT hT, rfl, (by show 1 ≤ sizeLine; decide), fun l hl => ?_⟩
      have k2 : Kp [] H (upd H1 l (.lst [z1])) := k1.trans (Kp.new hl)
      exact q _ l _ k2 (k1.free _ hl) upd_same (.cons (body_mono k2 h2) .nil)
    | turnX b1 =>
      obtain ⟨p, y1, z1, rfl, hT, h1, h2⟩ := of_body3 hB
      refine ⟨_, rfl, p, _, _, _, rfl, rfl, hT, rfl, ?_⟩
      refine ⟨_, rfl, aJ, _, rfl, .inr (hJ _), rfl, rfl, _, rfl, itB0 (by decide +kernel) ?_⟩
      refine ⟨_, rfl, (by show 2 ≤ sizeLine; decide), fun t ht => ⟨t, _, rfl, .inr (SqT.of upd_same), rfl, rfl, _, rfl, itB1 (by decide +kernel) ?_⟩⟩
      have k1 : Kp [] H (upd H t (.tup [.str "moved", .str "turned"])) := Kp.new ht
      generalize upd H t (.tup [.str "moved", .str "turned"]) = H1 at k1 ⊢
      refine ⟨_, rfl, p, _, _, _, rfl, rfl, k1.sqT hT, rfl, (by show 1 ≤ sizeLine; decide), fun l hl => ?_⟩
      have k2 : Kp [] H (upd H1 l (.lst [z1])) := k1.trans (Kp.new hl)
      exact q _ l _ k2 (k1.free _ hl) upd_same (.cons (body_mono k2 h2) .nil)
    | turnY b1 =>
      obtain ⟨p, y1, z1, rfl, hT, h1, h2⟩ := of_body3 hB
      refine ⟨_, rfl, p, _, _, _, rfl, rfl, hT, rfl, ?_⟩
      refine ⟨_, rfl, aJ, _, rfl, .inr (hJ _), rfl, rfl, _, rfl, itB0 (by decide +kernel) ?_⟩
      refine ⟨_, rfl, (by show 2 ≤ sizeLine; decide), fun t ht => ⟨t, _, rfl, .inr (SqT.of upd_same), rfl, rfl, _, rfl, itB1 (by decide +kernel) ?_⟩⟩
      have k1 : Kp [] H (upd H t (.tup [.str "moved", .str "turned"])) := Kp.new ht
      generalize upd H t (.tup [.str "moved", .str "turned"]) = H1 at k1 ⊢
      refine ⟨_, rfl, p, _, _, _, rfl, rfl, k1.sqT hT, rfl, (by show 1 ≤ sizeLine; decide), fun l hl => ?_⟩
      have k2 : Kp [] H (upd H1 l (.lst [z1])) := k1.trans (Kp.new hl)
      exact q _ l _ k2 (k1.free _ hl) upd_same (.cons (body_mono k2 h2) .nil)
    | turnZ b1 =>
      obtain ⟨p, y1, z1, rfl, hT, h1, h2⟩ := of_body3 hB
      refine ⟨_, rfl, p, _, _, _, rfl, rfl, hT, rfl, ?_⟩
      refine ⟨_, rfl, aJ, _, rfl, .inr (hJ _), rfl, rfl, _, rfl, itB0 (by decide +kernel) ?_⟩
      refine ⟨_, rfl, (by show 2 ≤ sizeLine; decide), fun t ht => ⟨t, _, rfl, .inr (SqT.of upd_same), rfl, rfl, _, rfl, itB1 (by decide +kernel) ?_⟩⟩
      have k1 : Kp [] H (upd H t (.tup [.str "moved", .str "turned"])) := Kp.new ht
      generalize upd H t (.tup [.str "moved", .str "turned"]) = H1 at k1 ⊢
      refine ⟨_, rfl, p, _, _, _, rfl, rfl, k1.sqT hT, rfl, (by show 1 ≤ sizeLine; decide), fun l hl => ?_⟩
      have k2 : Kp [] H (upd H1 l (.lst [z1])) := k1.trans (Kp.new hl)
      exact q _ l _ k2 (k1.free _ hl) upd_same (.cons (body_mono k2 h2) .nil)
def total (bs : List Bd) : Nat := (bs.map nb).sum
theorem total_append (bs cs : List Bd) : total (bs ++ cs) = total bs + total cs := by unfold total; rw [List.map_append, List.sum_append]
theorem total_subs (b : Bd) : total (subs b) + 1 = nb b := by
  cases b <;> simp only [subs, total, nb, List.map, List.sum_cons, List.sum_nil] <;> omega
theorem good_subs {b : Bd} (g : Good b) : ∀ c ∈ subs b, Good c := by
  intro c hc
  cases b <;> simp only [subs, List.mem_cons, List.not_mem_nil, or_false] at hc
  · rcases hc with rfl | rfl
    · exact g.1
    · exact g.2
  · rcases hc with rfl | rfl
    · exact g.1
    · exact g.2
  · rcases hc with rfl | rfl
    · exact g.1
    · exact g.2
  · subst hc; exact g.2.1
  · subst hc; exact g
  · subst hc; exact g
  · subst hc; exact g
theorem len_total (bs : List Bd) : bs.length ≤ total bs := by
  induction bs with
  | nil => exact Nat.zero_le _
  | cons b t ih =>
    have := nb_pos b
    show t.length + 1 ≤ nb b + total t
    omega
end LP
end

section
set_option Elab.async false
set_option linter.all false
set_option maxRecDepth 100000
set_option maxHeartbeats 2000000
/-! is_body -/
namespace LP
open PySem PySem.Spec PyProof.Rows L2 Ly GY
variable [LamTab] {P : Program} {w : World} {K : PySem.W.Frag} {mg : Str → Option Value} {base : Heap}
/-- what was made since may change -/
theorem Kp.off {S : List Addr} {H H1 H2 : Hp} {l : Addr} (k : Kp S H H1) (h : H l = none) (k' : Kp (l :: S) H1 H2) : Kp S H H2 :=
  ⟨fun b o e n t => k'.keep b o (k.keep b o e n t) (fun z => by
      rcases List.mem_cons.mp z with z | z
      · rw [z, h] at e; cases e
      · exact n z) t, fun b xs e => k'.tup b xs (k.tup b xs e), fun b e => k'.tab b (k.tab b e), fun b o u e => k'.frz b o u (k.frz b o u e), fun b e => k.free b (k'.free b e), fun p hp e => k'.lams p hp (k.lams p hp e)⟩
theorem Kp.chg0 {S : List Addr} {H H1 : Hp} {l : Addr} {xs ys : List V} (k : Kp S H H1) (h : H l = none) (e : H1 l = some (.lst xs)) : Kp S H (upd H1 l (.lst ys)) :=
  k.off h (Kp.chg e (List.mem_cons_self))
theorem seqI {t u : TS} {D : Ends} {σ : L2.St} {H : Hp} (h : t { D with nx := u D } σ H) : tSeq t u D σ H := h
theorem asgC {i : Nat} {v : V} {u : TS} {D : Ends} {σ : L2.St} {H : Hp} (h : u D (σ.set i (some v)) H) : tSeq (tAsg (tC v) (gName i)) u D σ H := h
theorem seqW {c : TT} {tb u : TS} {D : Ends} {σ : L2.St} {H : Hp} (h : tWhile c tb { D with nx := u D } σ H) : tSeq (tWhile c tb) u D σ H := h
theorem nameI {i : Nat} {v : V} {Q : L2.St → Hp → Prop} {σ : L2.St} {H : Hp} (h : Q (σ.set i (some v)) H) : gName i v σ H Q := h
def spIsBody (K : PySem.W.Frag) (Pt Pr : Addr) : Sp := fun vs H Q _ => ∃ (v : V) (b : Bd), vs = [v] ∧ Body K H v b ∧ Good b ∧ nb b ≤ 20 ∧ TGen H Pt ∧ TR H Pr ∧ ∀ H', Kp [] H H' → Q (.bl true) H'
theorem scIsBody : FnScope ["body", "waiting", "many", "one"] ["body"] (defScope sIsBody) := ⟨rfl, rfl, rfl, by decide +kernel, rfl, by decide +kernel, by decide +kernel⟩
theorem ok_isbody {f Pt Pr fF fW : Addr} {fd fdF fdW : FuncData} (F : Fun K "is_body" "is_body" sIsBody f fd) (T : Nm K mg)
    (NF : Fn K mg "_is_formed" fF fdF ["body"]) (GF : FnOk P w K mg base CX0 8 fF fdF ["body"] (spForm K Pt Pr))
    (NW : Fn K mg "_places_within" fW fdW ["body"]) (GW : FnOk P w K mg base CX0 1 fW fdW ["body"] (spPlaces K)) :
    FnOk P w K mg base CX0 9 f fd ["body"] (spIsBody K Pt Pr) := by
  obtain ⟨tm, mM⟩ := T.most
  refine F.ok scIsBody (fun vs H Q E h => ?_) (fun cdv A outer s H vs Q E hr h => ?_)
  · obtain ⟨v, b, rfl, _⟩ := h
    rfl
  · obtain ⟨v, b, rfl, hB, hg, hn, hPt, hPr, q⟩ := h
    have hr1 : Room 1 _ := hr.mono (by decide)
    refine ⟨_, pss_cons (ps_set (i := 1) scIsBody.nd rfl (.inl rfl) (pe_lst (pa_cons (pv 0) pa_nil)))
      (pss_cons (ps_set (i := 2) scIsBody.nd rfl (.inl rfl) pe_int)
      (pss_cons (ps_while PassesOwn.never (pt_truth (pv 1) (by intro _; rfl))
        (pss_cons (ps_set (i := 3) scIsBody.nd rfl (.inl rfl) (pe_bm0 PySem.F.plainAttrs_list PySem.F.slot_list_pop PySem.F.type_list_pop mt_pop (pv 1)))
        (pss_cons (ps_aug (i := 2) scIsBody.nd rfl (.inl rfl) pe_int ip_add)
        (pss_cons (ps_if (PW.pt (pw_or (pt_cmpR op_gt (pv 2) (pe_glob (v := .int 20) rfl mM ⟨_, rfl⟩) (nomark _)) (pw_or1 (pt_not (pt_val (pe_call GF hr (by rfl) NF.m NF.kp NF.b .nil pass0 (pa_cons (pv 3) pa_nil))))))) (pss_one (ps_ret pe_bl)) pss_nil)
        (pss_one (ps_expr (pe_bm PySem.F.plainAttrs_list PySem.F.slot_list_extend PySem.F.type_list_extend mt_extend (pv 1) (pa_cons (pe_call GW hr1 (by rfl) NW.m NW.kp NW.b .nil pass0 (pa_cons (pv 3) pa_nil)) pa_nil))))))))
      (pss_one (ps_ret pe_bl)))), ?_⟩
    refine ⟨_, rfl, (by show 1 ≤ sizeLine; decide), fun l hl => ?_⟩
    have hb := nb_pos b
    refine nameI (i := 1) (v := .ref l) (σ := [some v, none, none, none]) ?_
    refine asgC (i := 2) (v := .int 0) (σ := [some v, some (.ref l), none, none]) ?_
    dsimp only
    refine seqW ?_
    refine while_by (σ := [some v, some (.ref l), some (.int 0), none]) (fun σ H' => Kp [] H H' ∧ ∃ (many : Nat) (us : List V) (bs : List Bd) (o : Option V), σ = [some v, some (.ref l), some (.int (many : Int)), o] ∧ H' l = some (.lst us) ∧ Bodies K H' us bs ∧ (∀ c ∈ bs, Good c) ∧ many + total bs = nb b)
      (fun σ H' => match σ with | [_, _, some (.int m), _] => 20 - m.toNat | _ => 0) ⟨Kp.new hl, 0, _, [b], none, rfl, upd_same, .cons (body_mono (Kp.new hl (S := [])) hB) .nil, fun c hc => ?g0, ?t0⟩ (fun σ H' pv => ?st) (fun σ H' Q Q' hq ⟨v, e, k, t, q⟩ => ⟨v, e, k, t, hq _ _ q⟩)
    case g0 =>
      rw [List.mem_singleton.mp hc]
      exact hg
    case t0 =>
      show 0 + (nb b + 0) = nb b
      omega
    case st =>
      obtain ⟨k, many, us, bs, o, rfl, hL, hBs, hG, hT⟩ := pv
      refine ⟨_, rfl, _, .inl ⟨us, SqL.of hL, rfl⟩, ?_⟩
      by_cases hbs : bs = []
      · subst hbs
        have hl0 := hBs.length
        obtain rfl : us = [] := List.eq_nil_of_length_eq_zero hl0
        exact iteF (q H' k)
      · obtain ⟨x, c, hx, hsp, hc, hrest⟩ := Bodies.last hBs hbs
        have hune : (!us.isEmpty) = true := by
          cases us with
          | nil => cases hx
          | cons _ _ => rfl
        rw [hune]
        refine iteT ?_
        have hcm : c ∈ bs := by rw [hsp]; exact List.mem_append_right _ (List.mem_singleton.mpr rfl)
        have hcT : total bs = total bs.dropLast + nb c := by
          conv => lhs; rw [hsp]
          rw [total_append]
          show _ + (nb c + 0) = _
          omega
        have hnc := nb_pos c
        refine ⟨_, rfl, .inl ⟨rfl, _, SqL.of hL⟩, l, us, x, rfl, rfl, hL, hx, ?_⟩
        have k1 : Kp [] H (upd H' l (.lst us.dropLast)) := k.chg0 hl hL
        have kS : Kp [l] H' (upd H' l (.lst us.dropLast)) := Kp.chg hL (List.mem_singleton.mpr rfl)
        have hc1 := body_mono kS hc
        have hr1 := bodies_mono kS hrest
        have hL1 : upd H' l (.lst us.dropLast) l = some (.lst us.dropLast) := upd_same
        generalize upd H' l (.lst us.dropLast) = H1 at k1 hc1 hr1 hL1 ⊢
        refine ⟨_, rfl, _, _, rfl, rfl, ?_⟩
        refine ⟨_, rfl, _, _, rfl, rfl, _, rfl, itD0 (show ¬ ((many : Int) + 1 > 20) by omega) ?_⟩
        refine ⟨_, rfl, x, c, rfl, hc1, hG c hcm, k1.tab _ hPt, k1.tabr hPr, fun H2 k2 => ⟨true, rfl, iteF ?_⟩⟩
        have hL2 := k2.lst hL1 List.not_mem_nil
        refine ⟨_, rfl, .inl ⟨rfl, _, SqL.of hL2⟩, _, rfl, x, c, rfl, body_mono k2 hc1, fun H3 l3 us3 k3 n3 h3 b3 => ?_⟩
        have hL3 := k3.lst hL2 List.not_mem_nil
        have hlen := hr1.length
        have hlen3 := b3.length
        have h1 := len_total bs.dropLast
        have h2 := len_total (subs c)
        have h3' := total_subs c
        refine ⟨l, l3, us.dropLast, us3, rfl, rfl, hL3, h3, ?sz, ⟨((k1.trans k2).trans k3).chg0 hl hL3, many + 1, _, bs.dropLast ++ subs c, _, rfl, upd_same, ?bb, ?gg, ?tt⟩, ?mm⟩
        case sz =>
          have : (64 : Nat) ≤ sizeLine := by decide
          omega
        case bb =>
          have kS3 : Kp [l] H3 (upd H3 l (.lst (us.dropLast ++ us3))) := Kp.chg hL3 (List.mem_singleton.mpr rfl)
          exact Bodies.append (bodies_mono kS3 (bodies_mono k3 (bodies_mono k2 hr1))) (bodies_mono kS3 b3)
        case gg =>
          intro d hd
          rcases List.mem_append.mp hd with z | z
          · exact hG d (List.dropLast_subset _ z)
          · exact good_subs (hG c hcm) d z
        case tt =>
          rw [total_append]
          omega
        case mm =>
          show 20 - ((many : Int) + 1).toNat < 20 - ((many : Int)).toNat
          omega
end LP
end

section
set_option Elab.async false
set_option linter.all false
set_option maxRecDepth 100000
set_option maxHeartbeats 2000000
/-! comprehensions over cells; quarter, shifted -/
namespace LP
open PySem PySem.Spec PyProof.Rows L2 Ly GY
variable [LamTab] {P : Program} {w : World} {K : PySem.W.Frag} {mg : Str → Option Value} {base : Heap}
theorem one_map {f : C3 → C3} {cs : List C3} {i : Nat} {c : C3} (h : cs[i]? = some c) : (cs.take (i + 1)).map f = (cs.take i).map f ++ [f c] := by
  rw [List.take_add_one, h, List.map_append]
  rfl
/-- a list comprehension over a list of cells, without a test: cells are made of cells -/
theorem lc_map {a D : Addr} {xs : List V} {cs : List C3} {H H1 : Hp} {g : TG} {tt : TT} {te : TE} {vs : List Nat} {σ : L2.St} {Qd : Hp → Prop} (f : C3 → C3) (k1 : Kp [] H H1) (hD : H1 D = none) (hT : SqL K H1 a xs) (hI : Items K H1 xs cs) (hz : cs.length ≤ 64)
    (hs : ∀ (c : C3) (p : Addr) (H' : Hp) (Nx : V → Hp → Prop) (Z : Hp → Prop), Kp [] H H' → SqT K H' p [.int c.1, .int c.2.1, .int c.2.2] →
      (∀ (q : Addr) (H'' : Hp), Kp [] H' H'' → SqT K H'' q [.int (f c).1, .int (f c).2.1, .int (f c).2.2] → Nx (.ref q) H'') →
      g (.ref p) (wipe σ vs) H' fun σ2 H2 => wipe σ2 vs = wipe σ vs ∧ tt σ2 H2 fun b H3 => if b = true then te σ2 H3 Nx else Z H3)
    (hd : ∀ (H' : Hp) (ys : List V), Kp [] H H' → H' D = some (.lst ys) → Items K H' ys (cs.map f) → Qd H') :
    ∃ W : Nat → Nat → Hp → Prop, (∃ m, W 0 m (upd H1 D (.lst []))) ∧ ∀ i m H, W i m H →
      ((Itl K a).stop i H ∧ Qd H) ∨ ((Itl K a).go i H ∧ ∃ Nx : Hp → Prop, (∀ H', Nx H' → ∃ m', m' < m ∧ W (i + 1) m' H') ∧ ∀ x H', (Itl K a).yld i H x H' → g x (wipe σ vs) H' fun σ2 H2 => wipe σ2 vs = wipe σ vs ∧ tt σ2 H2 fun b H3 =>
        if b = true then te σ2 H3 fun y H4 => ∃ acc, H4 D = some (.lst acc) ∧ acc.length < sizeLine ∧ Nx (upd H4 D (.lst (acc ++ [y]))) else Nx H3) := by
  have hl := hI.length
  have hDa : ∀ H', Kp [] H1 H' → SqL K H' a xs := fun H' k => k.sqL hT List.not_mem_nil
  refine lc_list (K := K) (a := a) (xs := xs) (fun i H' => Kp [] H1 H' ∧ ∃ acc, H' D = some (.lst acc) ∧ Items K H' acc ((cs.take i).map f)) ⟨Kp.new hD, [], upd_same, .nil⟩ (fun i H' _ k => hDa H' k.1) (fun i x H' hx pv => ?_) (fun H' pv => ?_)
  · obtain ⟨k, acc, hA, hAi⟩ := pv
    obtain ⟨c, hc, hd'⟩ := (items_mono k hI).get hx
    obtain ⟨p, rfl, hp⟩ := of_dp_c hd'
    refine hs c p H' _ _ (k1.trans k) hp fun q H'' k'' hq => ?_
    have hA2 := k''.lst hA List.not_mem_nil
    have hi : i < cs.length := (List.getElem?_eq_some_iff.mp hc).1
    have hAl := hAi.length
    rw [List.length_map, List.length_take] at hAl
    have kc : Kp [D] H'' (upd H'' D (.lst (acc ++ [V.ref q]))) := Kp.chg hA2 (List.mem_singleton.mpr rfl)
    refine ⟨acc, hA2, ?_, (k.trans k'').chg0 hD hA2, _, upd_same, ?_⟩
    · have : (64 : Nat) < sizeLine := by decide
      omega
    · rw [one_map hc]
      exact Items.append (items_mono kc (items_mono k'' hAi)) (Items.one (dp_c (kc.sqT hq)))
  · obtain ⟨k, acc, hA, hAi⟩ := pv
    rw [hl, List.take_length] at hAi
    exact hd H' acc (k1.trans k) hA hAi
theorem yesI {te : TE} {σ : L2.St} {H : Hp} {Nx : V → Hp → Prop} {Z : Hp → Prop} (h : te σ H Nx) : tYes σ H fun b H3 => if b = true then te σ H3 Nx else Z H3 := by
  show (if true = true then te σ H Nx else Z H)
  rw [if_pos rfl]
  exact h
def isTurn (e : Str) (f : C3 → C3) : Prop := (e = "x" ∧ f = tX) ∨ (e = "y" ∧ f = tY) ∨ (e = "z" ∧ f = tZ)
def spQuarter (K : PySem.W.Frag) : Sp := fun vs H Q _ => ∃ (e : Str) (f : C3 → C3) (v : V) (cs : List C3), vs = [.str e, v] ∧ isTurn e f ∧ CellsL K H v cs ∧ cs.length ≤ 64 ∧
  ∀ (H' : Hp) (p : Addr) (ys : List V) (ds : List C3), Kp [] H H' → H p = none → H' p = some (.lst ys) → Items K H' ys ds → ds.Perm (cs.map f) → (ds.Pairwise fun a b => ¬ lt3 b a) → Q (.ref p) H'
theorem scQuarter : FnScope ["edge", "held", "x", "y", "z"] ["edge", "held"] (defScope sQuarter) := ⟨rfl, rfl, rfl, by decide +kernel, rfl, by decide +kernel, by decide +kernel⟩
theorem ok_quarter {f : Addr} {fd : FuncData} (F : Fun K "quarter" "quarter" sQuarter f fd) (T : Nm K mg) : FnOk P w K mg base CX0 1 f fd ["edge", "held"] (spQuarter K) := by
  obtain ⟨tl, mL⟩ := T.last
  refine F.ok scQuarter (fun vs H Q E h => ?_) (fun cdv A outer s H vs Q E hr h => ?_)
  · obtain ⟨e, f, v, cs, rfl, _⟩ := h
    rfl
  · obtain ⟨e, f, v, cs, rfl, ht, hC, h64, q⟩ := h
    refine ⟨_, pss_cons (ps_if (pt_cmpR op_eq (pv 0) pe_str (nomark _)) (pss_one (ps_ret (pe_callB (cr_sortC hr.units) (by rfl) T.sorted (by decide +kernel) (pa_cons
        (pe_lc (own := [("x", 2), ("y", 3), ("z", 4)]) (g := gTup K 3 (gCons (gName 2) (gCons (gName 3) (gCons (gName 4) gNil)))) rfl scQuarter.nd (pi_list (pv 1)) (blkOk_by (own := [("x", 2), ("y", 3), ("z", 4)]) (N := ["edge", "held", "x", "y", "z"]) (sc := defScope sQuarter) (by decide +kernel))
          (fun _ _ _ _ _ => pg_tup rfl (pgs_cons (pg_name (i := 2) scQuarter.nd rfl (.inl rfl)) (pgs_cons (pg_name (i := 3) scQuarter.nd rfl (.inl rfl)) (pgs_cons (pg_name (i := 4) scQuarter.nd rfl (.inl rfl)) pgs_nil)))) (fun _ _ _ _ _ => pts_nil)
          (fun _ _ _ _ _ => pe_tup (pa_cons (pv 2) (pa_cons (pe_op op_sub (pe_glob (v := .int 3) rfl mL ⟨_, rfl⟩) (pv 4)) (pa_cons (pv 3) pa_nil))))) pa_nil)))) pss_nil)
      (pss_cons (ps_if (pt_cmpR op_eq (pv 0) pe_str (nomark _)) (pss_one (ps_ret (pe_callB (cr_sortC hr.units) (by rfl) T.sorted (by decide +kernel) (pa_cons
        (pe_lc (own := [("x", 2), ("y", 3), ("z", 4)]) (g := gTup K 3 (gCons (gName 2) (gCons (gName 3) (gCons (gName 4) gNil)))) rfl scQuarter.nd (pi_list (pv 1)) (blkOk_by (own := [("x", 2), ("y", 3), ("z", 4)]) (N := ["edge", "held", "x", "y", "z"]) (sc := defScope sQuarter) (by decide +kernel))
          (fun _ _ _ _ _ => pg_tup rfl (pgs_cons (pg_name (i := 2) scQuarter.nd rfl (.inl rfl)) (pgs_cons (pg_name (i := 3) scQuarter.nd rfl (.inl rfl)) (pgs_cons (pg_name (i := 4) scQuarter.nd rfl (.inl rfl)) pgs_nil)))) (fun _ _ _ _ _ => pts_nil)
          (fun _ _ _ _ _ => pe_tup (pa_cons (pv 4) (pa_cons (pv 3) (pa_cons (pe_op op_sub (pe_glob (v := .int 3) rfl mL ⟨_, rfl⟩) (pv 2)) pa_nil))))) pa_nil)))) pss_nil)
      (pss_one (ps_ret (pe_callB (cr_sortC hr.units) (by rfl) T.sorted (by decide +kernel) (pa_cons
        (pe_lc (own := [("x", 2), ("y", 3), ("z", 4)]) (g := gTup K 3 (gCons (gName 2) (gCons (gName 3) (gCons (gName 4) gNil)))) rfl scQuarter.nd (pi_list (pv 1)) (blkOk_by (own := [("x", 2), ("y", 3), ("z", 4)]) (N := ["edge", "held", "x", "y", "z"]) (sc := defScope sQuarter) (by decide +kernel))
          (fun _ _ _ _ _ => pg_tup rfl (pgs_cons (pg_name (i := 2) scQuarter.nd rfl (.inl rfl)) (pgs_cons (pg_name (i := 3) scQuarter.nd rfl (.inl rfl)) (pgs_cons (pg_name (i := 4) scQuarter.nd rfl (.inl rfl)) pgs_nil)))) (fun _ _ _ _ _ => pts_nil)
          (fun _ _ _ _ _ => pe_tup (pa_cons (pe_op op_sub (pe_glob (v := .int 3) rfl mL ⟨_, rfl⟩) (pv 3)) (pa_cons (pv 2) (pa_cons (pv 4) pa_nil))))) pa_nil))))), ?_⟩
    obtain ⟨a, xs, rfl, hT, hI⟩ := of_cellsL hC
    have hz : cs.length ≤ sizeLine := Nat.le_trans h64 (by decide)
    have fin : ∀ (D : Addr) (f' : C3 → C3), f' = f → H D = none → ∀ (H' : Hp) (ys : List V), Kp [] H H' → H' D = some (.lst ys) → Items K H' ys (cs.map f') → rSortC K [V.ref D] H' Q := by
      intro D f' ef hD H' ys k hy hi
      subst ef
      refine ⟨.ref D, cs.map f', rfl, cellsL_of hy hi, (by rw [List.length_map]; exact hz), fun zs ds p hp hs hit hn => ?_⟩
      have kn : Kp [] H' (upd H' p (.lst zs)) := Kp.new hn
      exact q _ p zs ds (k.trans kn) (k.free p hn) upd_same (items_mono kn hit) hp hs
    rcases ht with ⟨rfl, rfl⟩ | ⟨rfl, rfl⟩ | ⟨rfl, rfl⟩
    · refine ⟨_, rfl, rfl, _, rfl, itD1 (by decide +kernel) ?_⟩
      refine ⟨_, rfl, a, rfl, ⟨_, hT⟩, fun D hD => lc_map (K := K) tX (Kp.refl _ _) hD hT hI h64 (fun c p H' Nx Z k hp nx => ?_) (fin D tX rfl hD)⟩
      refine ⟨p, _, rfl, hp, rfl, _, _, rfl, _, _, rfl, _, _, rfl, rfl, rfl, ?_⟩
      refine yesI ?_
      refine ⟨_, rfl, _, rfl, _, _, rfl, rfl, _, rfl, (by show 3 ≤ sizeLine; decide), fun t ht => ?_⟩
      exact nx t _ (Kp.new ht) (SqT.of upd_same)
    · refine ⟨_, rfl, rfl, _, rfl, itD0 (by decide +kernel) ?_⟩
      refine ⟨_, rfl, rfl, _, rfl, itD1 (by decide +kernel) ?_⟩
      refine ⟨_, rfl, a, rfl, ⟨_, hT⟩, fun D hD => lc_map (K := K) tY (Kp.refl _ _) hD hT hI h64 (fun c p H' Nx Z k hp nx => ?_) (fin D tY rfl hD)⟩
      refine ⟨p, _, rfl, hp, rfl, _, _, rfl, _, _, rfl, _, _, rfl, rfl, rfl, ?_⟩
      refine yesI ?_
      refine ⟨_, rfl, _, rfl, _, rfl, _, _, rfl, rfl, (by show 3 ≤ sizeLine; decide), fun t ht => ?_⟩
      exact nx t _ (Kp.new ht) (SqT.of upd_same)
    · refine ⟨_, rfl, rfl, _, rfl, itD0 (by decide +kernel) ?_⟩
      refine ⟨_, rfl, rfl, _, rfl, itD0 (by decide +kernel) ?_⟩
      refine ⟨_, rfl, a, rfl, ⟨_, hT⟩, fun D hD => lc_map (K := K) tZ (Kp.refl _ _) hD hT hI h64 (fun c p H' Nx Z k hp nx => ?_) (fin D tZ rfl hD)⟩
      refine ⟨p, _, rfl, hp, rfl, _, _, rfl, _, _, rfl, _, _, rfl, rfl, rfl, ?_⟩
      refine yesI ?_
      refine ⟨_, rfl, _, _, rfl, rfl, _, rfl, _, rfl, (by show 3 ≤ sizeLine; decide), fun t ht => ?_⟩
      exact nx t _ (Kp.new ht) (SqT.of upd_same)
end LP
end

section
set_option Elab.async false
set_option linter.all false
set_option maxRecDepth 100000
set_option maxHeartbeats 2000000
/-! shifted, _block_cells -/
namespace LP
open PySem PySem.Spec PyProof.Rows L2 Ly GY
variable [LamTab] {P : Program} {w : World} {K : PySem.W.Frag} {mg : Str → Option Value} {base : Heap}
def spShifted (K : PySem.W.Frag) : Sp := fun vs H Q _ => ∃ (e : V) (d : C3) (v : V) (cs : List C3), vs = [e, v] ∧ Dp K H e (cD d) ∧ CellsL K H v cs ∧ cs.length ≤ 64 ∧
  ∀ (H' : Hp) (p : Addr) (ys : List V), Kp [] H H' → H p = none → H' p = some (.lst ys) → Items K H' ys (cs.map (add3 d)) → Q (.ref p) H'
theorem scShifted : FnScope ["far", "held", "far_x", "far_y", "far_z", "x", "y", "z"] ["far", "held"] (defScope sShifted) := ⟨rfl, rfl, rfl, by decide +kernel, rfl, by decide +kernel, by decide +kernel⟩
theorem ok_shifted {f : Addr} {fd : FuncData} (F : Fun K "shifted" "shifted" sShifted f fd) : FnOk P w K mg base CX0 1 f fd ["far", "held"] (spShifted K) := by
  refine F.ok scShifted (fun vs H Q E h => ?_) (fun cdv A outer s H vs Q E hr h => ?_)
  · obtain ⟨e, d, v, cs, rfl, _⟩ := h
    rfl
  · obtain ⟨e, d, v, cs, rfl, he, hC, h64, q⟩ := h
    refine ⟨_, pss_cons (ps_asg (pv 0) (pg_tup rfl (pgs_cons (pg_name (i := 2) scShifted.nd rfl (.inr rfl)) (pgs_cons (pg_name (i := 3) scShifted.nd rfl (.inr rfl)) (pgs_cons (pg_name (i := 4) scShifted.nd rfl (.inr rfl)) pgs_nil)))))
      (pss_one (ps_ret (pe_lc (own := [("x", 5), ("y", 6), ("z", 7)]) (g := gTup K 3 (gCons (gName 5) (gCons (gName 6) (gCons (gName 7) gNil)))) rfl scShifted.nd (pi_list (pv 1)) (blkOk_by (own := [("x", 5), ("y", 6), ("z", 7)]) (N := ["far", "held", "far_x", "far_y", "far_z", "x", "y", "z"]) (sc := defScope sShifted) (by decide +kernel))
          (fun _ _ _ _ _ => pg_tup rfl (pgs_cons (pg_name (i := 5) scShifted.nd rfl (.inl rfl)) (pgs_cons (pg_name (i := 6) scShifted.nd rfl (.inl rfl)) (pgs_cons (pg_name (i := 7) scShifted.nd rfl (.inl rfl)) pgs_nil)))) (fun _ _ _ _ _ => pts_nil)
          (fun _ _ _ _ _ => pe_tup (pa_cons (pe_op op_add (pv 5) (pv 2)) (pa_cons (pe_op op_add (pv 6) (pv 3)) (pa_cons (pe_op op_add (pv 7) (pv 4)) pa_nil))))))), ?_⟩
    obtain ⟨pd, rfl, hpd⟩ := of_dp_c he
    obtain ⟨a, xs, rfl, hT, hI⟩ := of_cellsL hC
    refine ⟨_, rfl, pd, _, rfl, hpd, rfl, _, _, rfl, _, _, rfl, _, _, rfl, rfl, ?_⟩
    refine ⟨_, rfl, a, rfl, ⟨_, hT⟩, fun D hD => lc_map (K := K) (add3 d) (Kp.refl _ _) hD hT hI h64 (fun c p H' Nx Z k hp nx => ?_) (fun H' ys k hy hi => q H' D ys k hD hy hi)⟩
    refine ⟨p, _, rfl, hp, rfl, _, _, rfl, _, _, rfl, _, _, rfl, rfl, rfl, ?_⟩
    refine yesI ?_
    refine ⟨_, rfl, _, rfl, _, _, rfl, rfl, _, rfl, _, rfl, _, _, rfl, rfl, _, rfl, _, rfl, _, _, rfl, rfl, (by show 3 ≤ sizeLine; decide), fun t ht => ?_⟩
    exact nx t _ (Kp.new ht) (SqT.of upd_same)

/-! ### _block_cells -/
theorem len_flat {f : Nat → List C3} {m : Nat} (h : ∀ i, (f i).length = m) : ∀ n : Nat, ((List.range n).flatMap f).length = n * m
  | 0 => by simp
  | n + 1 => by
    rw [List.range_succ, List.flatMap_append, List.length_append, len_flat h n, List.flatMap_cons, List.flatMap_nil, List.append_nil, h, Nat.succ_mul]
theorem flat_succ (f : Nat → List C3) (n : Nat) : (List.range (n + 1)).flatMap f = (List.range n).flatMap f ++ f n := by
  rw [List.range_succ, List.flatMap_append, List.flatMap_cons, List.flatMap_nil, List.append_nil]
theorem len_blk1 (x y z : Int) (c : Nat) : (blk1 x y z c).length = c := by unfold blk1; rw [List.length_map, List.length_range]
theorem len_blk2 (x y z : Int) (b c : Nat) : (blk2 x y z b c).length = b * c := len_flat (fun _ => len_blk1 ..) b
theorem blk1_succ (x y z : Int) (c : Nat) : blk1 x y z (c + 1) = blk1 x y z c ++ [(x, y, z + (c : Int))] := by
  unfold blk1
  rw [List.range_succ, List.map_append]
  rfl
theorem size_ok {a b c i j k : Nat} (hi : i < a) (ha : a ≤ 4) (hb : b ≤ 4) (hc : c ≤ 4) (hj : j < b) (hk : k < c) : i * (b * c) + j * c + k < sizeLine := by
  have h1 : b * c ≤ 4 * 4 := Nat.mul_le_mul hb hc
  have h2 : i * (b * c) ≤ 4 * (4 * 4) := Nat.mul_le_mul (by omega) h1
  have h3 : j * c ≤ 4 * 4 := Nat.mul_le_mul (by omega) hc
  have h4 : (100 : Nat) < sizeLine := by decide
  omega
def spBlock (K : PySem.W.Frag) : Sp := fun vs H Q _ => ∃ (e g : V) (x y z : Int) (a b c : Nat), vs = [e, g] ∧ Dp K H e (cD (x, y, z)) ∧ Dp K H g (cD (a, b, c)) ∧ (a ≤ 4 ∧ b ≤ 4 ∧ c ≤ 4) ∧
  ∀ (H' : Hp) (p : Addr) (ys : List V), Kp [] H H' → H p = none → H' p = some (.lst ys) → Items K H' ys (blk3 x y z a b c) → Q (.ref p) H'
theorem scBlock : FnScope ["corner", "size", "x", "y", "z", "along_x", "along_y", "along_z", "i", "j", "k"] ["corner", "size"] (defScope sBlock) := ⟨rfl, rfl, rfl, by decide +kernel, rfl, by decide +kernel, by decide +kernel⟩
theorem ok_block {f : Addr} {fd : FuncData} (F : Fun K "_block_cells" "_block_cells" sBlock f fd) (T : Nm K mg) : FnOk P w K mg base CX0 1 f fd ["corner", "size"] (spBlock K) := by
  refine F.ok scBlock (fun vs H Q E h => ?_) (fun cdv A outer s H vs Q E hr h => ?_)
  · obtain ⟨e, g, x, y, z, a, b, c, rfl, _⟩ := h
    rfl
  · obtain ⟨e, g, x, y, z, a, b, c, rfl, he, hg, hsz, q⟩ := h
    refine ⟨_, pss_cons (ps_asg (pv 0) (pg_tup rfl (pgs_cons (pg_name (i := 2) scBlock.nd rfl (.inr rfl)) (pgs_cons (pg_name (i := 3) scBlock.nd rfl (.inr rfl)) (pgs_cons (pg_name (i := 4) scBlock.nd rfl (.inr rfl)) pgs_nil)))))
      (pss_cons (ps_asg (pv 1) (pg_tup rfl (pgs_cons (pg_name (i := 5) scBlock.nd rfl (.inl rfl)) (pgs_cons (pg_name (i := 6) scBlock.nd rfl (.inr rfl)) (pgs_cons (pg_name (i := 7) scBlock.nd rfl (.inr rfl)) pgs_nil)))))
      (pss_one (ps_ret (GV.pe_lc3 (own := [("i", 8), ("j", 9), ("k", 10)]) (a := 8) (b := 9) (c := 10) rfl scBlock.nd (blkOk_by (own := [("i", 8), ("j", 9), ("k", 10)]) (N := ["corner", "size", "x", "y", "z", "along_x", "along_y", "along_z", "i", "j", "k"]) (sc := defScope sBlock) (by decide +kernel)) rfl rfl rfl (by decide) (by decide)
          (pi_range1 (by rfl) T.range (pa_cons (pv 5) pa_nil)) (fun _ _ _ _ _ => pi_range1 (by rfl) T.range (pa_cons (pv 6) pa_nil)) (fun _ _ _ _ _ => pi_range1 (by rfl) T.range (pa_cons (pv 7) pa_nil))
          (fun _ _ _ _ _ => ⟨pg_name (i := 8) scBlock.nd rfl (.inl rfl), pg_name (i := 9) scBlock.nd rfl (.inl rfl), pg_name (i := 10) scBlock.nd rfl (.inl rfl)⟩)
          (fun _ _ _ _ _ => pe_tup (pa_cons (pe_op op_add (pv 2) (pv 8)) (pa_cons (pe_op op_add (pv 3) (pv 9)) (pa_cons (pe_op op_add (pv 4) (pv 10)) pa_nil)))))))), ?_⟩
    obtain ⟨p1, rfl, h1⟩ := of_dp_c he
    obtain ⟨p2, rfl, h2⟩ := of_dp_c hg
    have h1 : SqT K H p1 [.int x, .int y, .int z] := h1
    have h2 : SqT K H p2 [.int (a : Int), .int (b : Int), .int (c : Int)] := h2
    refine ⟨_, rfl, p1, _, rfl, h1, rfl, _, _, rfl, _, _, rfl, _, _, rfl, rfl, ?_⟩
    refine ⟨_, rfl, p2, _, rfl, h2, rfl, _, _, rfl, _, _, rfl, _, _, rfl, rfl, ?_⟩
    obtain ⟨ha, hb, hc⟩ := hsz
    refine ⟨_, rfl, _, rfl, (by omega), (by omega), fun D hD => ?_⟩
    refine ⟨a, fun i H' => i ≤ a ∧ Kp [] H H' ∧ ∃ acc, H' D = some (.lst acc) ∧ Items K H' acc ((List.range i).flatMap fun i : Nat => blk2 (x + (i : Int)) y z b c), ⟨Nat.zero_le _, Kp.new hD, [], upd_same, .nil⟩, fun i H0 w => ?_⟩
    obtain ⟨hi, k0, acc0, hA0, hI0⟩ := w
    by_cases hlt : i < a
    · refine .inr ⟨hlt, hlt, fun u H1 yy => ?_⟩
      obtain ⟨e1, yy⟩ := yy
      subst e1 yy
      refine ⟨_, rfl, _, rfl, (by omega), (by omega), b, fun j H' => j ≤ b ∧ Kp [] H H' ∧ ∃ acc, H' D = some (.lst acc) ∧ Items K H' acc (((List.range i).flatMap fun i : Nat => blk2 (x + (i : Int)) y z b c) ++ ((List.range j).flatMap fun j : Nat => blk1 (x + (i : Int)) (y + (j : Int)) z c)), ⟨Nat.zero_le _, k0, acc0, hA0, by simpa using hI0⟩, fun j H2 w => ?_⟩
      obtain ⟨hj, k2, acc2, hA2, hI2⟩ := w
      by_cases hlt2 : j < b
      · refine .inr ⟨hlt2, hlt2, fun u H3 yy => ?_⟩
        obtain ⟨e1, yy⟩ := yy
        subst e1 yy
        refine ⟨_, rfl, _, rfl, (by omega), (by omega), c, fun k H' => k ≤ c ∧ Kp [] H H' ∧ ∃ acc, H' D = some (.lst acc) ∧ Items K H' acc ((((List.range i).flatMap fun i : Nat => blk2 (x + (i : Int)) y z b c) ++ ((List.range j).flatMap fun j : Nat => blk1 (x + (i : Int)) (y + (j : Int)) z c)) ++ blk1 (x + (i : Int)) (y + (j : Int)) z k), ⟨Nat.zero_le _, k2, acc2, hA2, by simpa [blk1] using hI2⟩, fun k H4 w => ?_⟩
        obtain ⟨hk, k4, acc4, hA4, hI4⟩ := w
        by_cases hlt3 : k < c
        · refine .inr ⟨hlt3, hlt3, fun u H5 yy => ?_⟩
          obtain ⟨e1, yy⟩ := yy
          subst e1 yy
          refine ⟨_, rfl, _, rfl, _, _, rfl, rfl, _, rfl, _, rfl, _, _, rfl, rfl, _, rfl, _, rfl, _, _, rfl, rfl, (by show 3 ≤ sizeLine; decide), fun t ht => ?_⟩
          have kt : Kp [] H5 (upd H5 t (.tup [.int (x + (0 + (i : Int))), .int (y + (0 + (j : Int))), .int (z + (0 + (k : Int)))])) := Kp.new ht
          have hA5 := kt.lst hA4 List.not_mem_nil
          have hl4 := hI4.length
          rw [List.length_append, List.length_append, len_flat (fun _ => len_blk2 ..), len_flat (fun _ => len_blk1 ..), len_blk1] at hl4
          have hq : SqT K (upd H5 t (.tup [.int (x + (0 + (i : Int))), .int (y + (0 + (j : Int))), .int (z + (0 + (k : Int)))])) t [.int (x + (i : Int)), .int (y + (j : Int)), .int (z + (k : Int))] := by
            refine SqT.of ?_
            rw [upd_same, Int.zero_add, Int.zero_add, Int.zero_add]
          have hit := items_mono kt hI4
          refine ⟨acc4, hA5, (by rw [hl4]; exact size_ok hlt ha hb hc hlt2 hlt3), hlt3, (k4.trans kt).chg0 hD hA5, _, upd_same, ?_⟩
          have kc := Kp.chg (S := [D]) (ys := acc4 ++ [V.ref t]) hA5 (List.mem_singleton.mpr rfl)
          rw [blk1_succ, ← List.append_assoc]
          exact Items.append (items_mono kc hit) (Items.one (dp_c (c := (x + (i : Int), y + (j : Int), z + (k : Int))) (kc.sqT hq)))
        · have e : k = c := by omega
          subst e
          refine .inl ⟨rfl, Nat.le_refl _, hlt2, k4, acc4, hA4, ?_⟩
          rw [flat_succ, ← List.append_assoc]
          exact hI4
      · have e : j = b := by omega
        subst e
        refine .inl ⟨rfl, Nat.le_refl _, hlt, k2, acc2, hA2, ?_⟩
        rw [flat_succ]
        exact hI2
    · have e : i = a := by omega
      subst e
      exact .inl ⟨rfl, Nat.le_refl _, q H0 D acc0 k0 hD hA0 hI0⟩
end LP
end

section
set_option Elab.async false
set_option linter.all false
set_option maxRecDepth 100000
set_option maxHeartbeats 2000000
/-! _joined -/
namespace LP
open PySem PySem.Spec PyProof.Rows L2 Ly GY
variable [LamTab] {P : Program} {W0 : World} {K : PySem.W.Frag} {mg : Str → Option Value} {base : Heap}
theorem u65 {k : Nat} {A : Around} (r : Room k A) : A.units + 65 < cLine := by have := r.un; omega
theorem one_filter {keep : C3 → Bool} {cs : List C3} {i : Nat} {c : C3} (h : cs[i]? = some c) : (cs.take (i + 1)).filter keep = (cs.take i).filter keep ++ (if keep c = true then [c] else []) := by
  rw [List.take_add_one, h, List.filter_append]
  congr 1
  show List.filter keep [c] = _
  rw [List.filter_cons]
  simp
/-- a list comprehension over a list of cells with a test, each cell that passes kept as it is -/
theorem lc_filter {a D : Addr} {xs : List V} {cs : List C3} {H H1 : Hp} {g : TG} {tt : TT} {te : TE} {vs : List Nat} {σ : L2.St} {Qd : Hp → Prop} (keep : C3 → Bool) (k1 : Kp [] H H1) (hD : H1 D = none) (hT : SqL K H1 a xs) (hI : Items K H1 xs cs) (hz : cs.length ≤ 64)
    (hs : ∀ (c : C3) (p : Addr) (H' : Hp) (Nx : V → Hp → Prop) (Z : Hp → Prop), c ∈ cs → Kp [] H H' → SqT K H' p [.int c.1, .int c.2.1, .int c.2.2] →
      (∀ H'', Kp [] H' H'' → keep c = true → Nx (.ref p) H'') → (∀ H'', Kp [] H' H'' → keep c = false → Z H'') →
      g (.ref p) (wipe σ vs) H' fun σ2 H2 => wipe σ2 vs = wipe σ vs ∧ tt σ2 H2 fun b H3 => if b = true then te σ2 H3 Nx else Z H3)
    (hd : ∀ (H' : Hp) (ys : List V), Kp [] H H' → H' D = some (.lst ys) → Items K H' ys (cs.filter keep) → Qd H') :
    ∃ W : Nat → Nat → Hp → Prop, (∃ m, W 0 m (upd H1 D (.lst []))) ∧ ∀ i m H, W i m H →
      ((Itl K a).stop i H ∧ Qd H) ∨ ((Itl K a).go i H ∧ ∃ Nx : Hp → Prop, (∀ H', Nx H' → ∃ m', m' < m ∧ W (i + 1) m' H') ∧ ∀ x H', (Itl K a).yld i H x H' → g x (wipe σ vs) H' fun σ2 H2 => wipe σ2 vs = wipe σ vs ∧ tt σ2 H2 fun b H3 =>
        if b = true then te σ2 H3 fun y H4 => ∃ acc, H4 D = some (.lst acc) ∧ acc.length < sizeLine ∧ Nx (upd H4 D (.lst (acc ++ [y]))) else Nx H3) := by
  have hl := hI.length
  have hDa : ∀ H', Kp [] H1 H' → SqL K H' a xs := fun H' k => k.sqL hT List.not_mem_nil
  refine lc_list (K := K) (a := a) (xs := xs) (fun i H' => Kp [] H1 H' ∧ ∃ acc, H' D = some (.lst acc) ∧ Items K H' acc ((cs.take i).filter keep)) ⟨Kp.new hD, [], upd_same, .nil⟩ (fun i H' _ k => hDa H' k.1) (fun i x H' hx pv => ?_) (fun H' pv => ?_)
  · obtain ⟨k, acc, hA, hAi⟩ := pv
    obtain ⟨c, hc, hd'⟩ := (items_mono k hI).get hx
    obtain ⟨p, rfl, hp⟩ := of_dp_c hd'
    refine hs c p H' _ _ (List.mem_of_getElem? hc) (k1.trans k) hp (fun H'' k'' hk => ?_) (fun H'' k'' hk => ?_)
    · have hA2 := k''.lst hA List.not_mem_nil
      have hi : i < cs.length := (List.getElem?_eq_some_iff.mp hc).1
      have hAl := hAi.length
      have hfl := List.length_filter_le keep (cs.take i)
      rw [List.length_take] at hfl
      have kc : Kp [D] H'' (upd H'' D (.lst (acc ++ [V.ref p]))) := Kp.chg hA2 (List.mem_singleton.mpr rfl)
      refine ⟨acc, hA2, ?_, (k.trans k'').chg0 hD hA2, _, upd_same, ?_⟩
      · have : (64 : Nat) < sizeLine := by decide
        omega
      · rw [one_filter hc, if_pos hk]
        exact Items.append (items_mono kc (items_mono k'' hAi)) (Items.one (dp_c (kc.sqT (k''.sqT hp))))
    · refine ⟨k.trans k'', acc, k''.lst hA List.not_mem_nil, ?_⟩
      rw [one_filter hc, hk, if_neg (by decide), List.append_nil]
      exact items_mono k'' hAi
  · obtain ⟨k, acc, hA, hAi⟩ := pv
    rw [hl, List.take_length] at hAi
    exact hd H' acc (k1.trans k) hA hAi
def JoinIs (w : Str) (p q ds : List C3) : Prop :=
  (w = "with" ∧ (ds.Pairwise fun a b => ¬ lt3 b a) ∧ ds.Nodup ∧ ∀ c, c ∈ ds ↔ c ∈ p ++ q) ∨
  (w = "common" ∧ ds = p.filter fun c => decide (c ∈ q)) ∨ (w = "less" ∧ ds = p.filter fun c => !decide (c ∈ q))
def spJoined (K : PySem.W.Frag) : Sp := fun vs H Q _ => ∃ (w : Str) (a b : Addr) (xs ys : List V) (p q : List C3), vs = [.str w, .ref a, .ref b] ∧ (w = "with" ∨ w = "common" ∨ w = "less") ∧ H a = some (.lst xs) ∧ H b = some (.lst ys) ∧ Items K H xs p ∧ Items K H ys q ∧
  p.length ≤ 64 ∧ q.length ≤ 64 ∧ (∀ c ∈ p, InR c) ∧ (∀ c ∈ q, InR c) ∧ ∀ (H' : Hp) (r : Addr) (zs : List V) (ds : List C3), Kp [] H H' → H r = none → H' r = some (.lst zs) → Items K H' zs ds → JoinIs w p q ds → Q (.ref r) H'
theorem scJoined : FnScope ["word", "first", "second", "cell"] ["word", "first", "second"] (defScope sJoined) := ⟨rfl, rfl, rfl, by decide +kernel, rfl, by decide +kernel, by decide +kernel⟩
theorem ok_joined {f : Addr} {fd : FuncData} (F : Fun K "_joined" "_joined" sJoined f fd) (T : Nm K mg) : FnOk P W0 K mg base CX0 1 f fd ["word", "first", "second"] (spJoined K) := by
  refine F.ok scJoined (fun vs H Q E h => ?_) (fun cdv A outer s H vs Q E hr h => ?_)
  · obtain ⟨w, a, b, xs, ys, p, q, rfl, _⟩ := h
    rfl
  · obtain ⟨w, a, b, xs, ys, p, q, rfl, hw, hA, hB, hIp, hIq, lp, lq, rp, rq, k⟩ := h
    refine ⟨_, pss_cons (ps_if (pt_cmpR op_eq (pv 0) pe_str (nomark _)) (pss_one (ps_ret (pe_callB (GZ.cr_sortedQ rfl hr.units) (by rfl) T.sorted (by decide +kernel) (pa_cons
        (pe_callTy (GZ.cr_setC rfl hr.units) (by rfl) T.set (by decide +kernel) (pa_cons (pe_op op_cat (pv 1) (pv 2)) pa_nil)) pa_nil)))) pss_nil)
      (pss_cons (ps_if (pt_cmpR op_eq (pv 0) pe_str (nomark _)) (pss_one (ps_ret (pe_lc (own := [("cell", 3)]) (g := gName 3) rfl scJoined.nd (pi_list (pv 1)) (blkOk_by (own := [("cell", 3)]) (N := ["word", "first", "second", "cell"]) (sc := defScope sJoined) (by decide +kernel))
          (fun _ _ _ _ _ => pg_name (i := 3) scJoined.nd rfl (.inl rfl)) (fun _ _ _ _ _ => pts_one (pt_cmpR (r := rInD K) (op_inD (u65 hr)) (pv 3) (pv 2) (by rfl))) (fun _ _ _ _ _ => pv 3)))) pss_nil)
      (pss_one (ps_ret (pe_lc (own := [("cell", 3)]) (g := gName 3) rfl scJoined.nd (pi_list (pv 1)) (blkOk_by (own := [("cell", 3)]) (N := ["word", "first", "second", "cell"]) (sc := defScope sJoined) (by decide +kernel))
          (fun _ _ _ _ _ => pg_name (i := 3) scJoined.nd rfl (.inl rfl)) (fun _ _ _ _ _ => pts_one (pt_cmpR (r := rNotInD K) (op_notInD (u65 hr)) (pv 3) (pv 2) (by rfl))) (fun _ _ _ _ _ => pv 3))))), ?_⟩
    rcases hw with rfl | rfl | rfl
    · refine ⟨_, rfl, rfl, _, rfl, itD1 (by decide +kernel) ?_⟩
      have hl1 := hIp.length
      have hl2 := hIq.length
      have hsz : xs.length + ys.length ≤ sizeLine := by
        have : (128 : Nat) ≤ sizeLine := by decide
        omega
      refine ⟨_, rfl, _, rfl, a, b, xs, ys, rfl, rfl, hA, hB, hsz, fun t ht => ?_⟩
      have kt : Kp [] H (upd H t (.lst (xs ++ ys))) := Kp.new ht
      refine ⟨.ref t, p ++ q, rfl, .inl (cellsL_of upd_same (Items.append (items_mono kt hIp) (items_mono kt hIq))), fun c hc => ?_, fun e L he h1 h2 => ?_⟩
      · rcases List.mem_append.mp hc with z | z
        · exact rp c z
        · exact rq c z
      · have ke : Kp [] (upd H t (.lst (xs ++ ys))) (upd (upd H t (.lst (xs ++ ys))) e (GZ.SQO P W0 e L)) := Kp.new he
        refine ⟨e, L, rfl, upd_same, fun z hz => ke.sqT (h1 z hz).2, fun zs ds r hp hn hs hlen hit hr' => ?_⟩
        have kr := Kp.new (S := []) (o := .lst zs) hr'
        refine k _ r zs ds ((kt.trans ke).trans kr) ((kt.trans ke).free r hr') upd_same (items_mono kr hit) (.inl ⟨rfl, hs, hn, fun c => ?_⟩)
        rw [hp.mem_iff]
        refine ⟨fun hc => ?_, fun hc => h2 c hc⟩
        obtain ⟨z, hz, rfl⟩ := List.mem_map.mp hc
        exact (h1 z hz).1
    · refine ⟨_, rfl, rfl, _, rfl, itD0 (by decide +kernel) ?_⟩
      refine ⟨_, rfl, rfl, _, rfl, itD1 (by decide +kernel) ?_⟩
      refine ⟨_, rfl, a, rfl, ⟨_, SqL.of hA⟩, fun D hD => lc_filter (K := K) (fun c => decide (c ∈ q)) (Kp.refl _ _) hD (SqL.of hA) hIp lp (fun c z H' Nx Z hc kk hz n1 n2 => ?_) (fun H' zs kk hy hi => k H' D zs _ kk hD hy hi (.inr (.inl ⟨rfl, rfl⟩)))⟩
      refine ⟨rfl, _, rfl, _, rfl, cD c, q.map cD, dp_c hz, cellsL_of (kk.lst hB List.not_mem_nil) (items_mono kk hIq), cD_shaped c, cDs_shapedL q, _, rfl, ?_⟩
      rw [any_eqv]
      cases e : decide (c ∈ q) with
      | true => exact iteT ⟨_, rfl, n1 H' (Kp.refl _ _) e⟩
      | false => exact iteF (n2 H' (Kp.refl _ _) e)
    · refine ⟨_, rfl, rfl, _, rfl, itD0 (by decide +kernel) ?_⟩
      refine ⟨_, rfl, rfl, _, rfl, itD0 (by decide +kernel) ?_⟩
      refine ⟨_, rfl, a, rfl, ⟨_, SqL.of hA⟩, fun D hD => lc_filter (K := K) (fun c => !decide (c ∈ q)) (Kp.refl _ _) hD (SqL.of hA) hIp lp (fun c z H' Nx Z hc kk hz n1 n2 => ?_) (fun H' zs kk hy hi => k H' D zs _ kk hD hy hi (.inr (.inr ⟨rfl, rfl⟩)))⟩
      refine ⟨rfl, _, rfl, _, rfl, cD c, q.map cD, dp_c hz, cellsL_of (kk.lst hB List.not_mem_nil) (items_mono kk hIq), cD_shaped c, cDs_shapedL q, _, rfl, ?_⟩
      rw [any_eqv]
      cases e : decide (c ∈ q) with
      | true => exact iteF (n2 H' (Kp.refl _ _) (by rw [e]; rfl))
      | false => exact iteT ⟨_, rfl, n1 H' (Kp.refl _ _) (by rw [e]; rfl)⟩
end LP
end

section
set_option Elab.async false
set_option linter.all false
set_option maxRecDepth 100000
set_option maxHeartbeats 2000000
/-! _held -/
namespace LP
open PySem PySem.Spec PyProof.Rows L2 Ly GY
variable [LamTab] {P : Program} {W0 : World} {K : PySem.W.Frag} {mg : Str → Option Value} {base : Heap}
def spHeld (K : PySem.W.Frag) (Pt Ph : Addr) (n : Nat) : Sp := fun vs H Q _ => ∃ (v : V) (b : Bd), vs = [v] ∧ Body K H v b ∧ Good b ∧ dp b ≤ n ∧ TGen H Pt ∧ TGen H Ph ∧
  ∀ (H' : Hp) (r : Addr) (zs : List V), Kp [] H H' → H r = none → H' r = some (.lst zs) → Items K H' zs (all b) → Q (.ref r) H'
theorem scHeld : FnScope ["body", "word", "held"] ["body"] (defScope sHeld) := ⟨rfl, rfl, rfl, by decide +kernel, rfl, by decide +kernel, by decide +kernel⟩
theorem gHeld : GX.GOk ["body", "word", "held"] (defScope sHeld) (genOf (stOf sHeld 2)) "cell" := ⟨rfl, rfl, by decide +kernel, rfl, rfl, by decide +kernel, by decide +kernel, by decide +kernel, by decide⟩
theorem in_all {b : Bd} {c : C3} (h : c ∈ all b) : InR c := (mem_all.mp h).1
structure HeldFns (P : Program) (W0 : World) (K : PySem.W.Frag) (mg : Str → Option Value) (base : Heap) (Pt : Addr) (fT fB fS fQ fJ : Addr) (dT dB dS dQ dJ : FuncData) : Prop where
  nT : Fn K mg "_is_triple" fT dT ["value", "low", "high"]
  gT : FnOk P W0 K mg base CX0 4 fT dT ["value", "low", "high"] (spTri K Pt)
  nB : Fn K mg "_block_cells" fB dB ["corner", "size"]
  gB : FnOk P W0 K mg base CX0 1 fB dB ["corner", "size"] (spBlock K)
  nS : Fn K mg "shifted" fS dS ["far", "held"]
  gS : FnOk P W0 K mg base CX0 1 fS dS ["far", "held"] (spShifted K)
  nQ : Fn K mg "quarter" fQ dQ ["edge", "held"]
  gQ : FnOk P W0 K mg base CX0 1 fQ dQ ["edge", "held"] (spQuarter K)
  nJ : Fn K mg "_joined" fJ dJ ["word", "first", "second"]
  gJ : FnOk P W0 K mg base CX0 1 fJ dJ ["word", "first", "second"] (spJoined K)
theorem held_step {n : Nat} {f c Pt Ph fT fB fS fQ fJ : Addr} {fd dT dB dS dQ dJ : FuncData} (F : FunC K "_held" "_held" sHeld f fd c) (TB : GxR.TabB base mg c Ph) (T : Nm K mg) (Z : HeldFns P W0 K mg base Pt fT fB fS fQ fJ dT dB dS dQ dJ)
    (N : Fn K mg "_held" f fd ["body"]) (G : FnOk P W0 K mg base CX0 (6 + n) f fd ["body"] (spHeld K Pt Ph n)) : FnOk P W0 K mg base CX0 (6 + n + 1) f fd ["body"] (spHeld K Pt Ph (n + 1)) := by
  obtain ⟨tl, mL⟩ := T.last
  refine F.ok scHeld (fun vs H Q E h => ?_) (fun A outer s H vs Q E hr h => ?_)
  · obtain ⟨v, b, rfl, _⟩ := h
    rfl
  · obtain ⟨v, b, rfl, hB, hg, hn, hPt, hPh, q⟩ := h
    have hr1 : Room 1 _ := hr.mono (by omega)
    have hr6 : Room 6 _ := hr.mono (by omega)
    refine ⟨_, pss_cons (ps_set (i := 1) scHeld.nd rfl (.inl rfl) (pe_ix ix_tup (pv 0) pe_int (fun _ _ => rfl)))
      (pss_cons (ps_if (pt_cmpR op_eq (pv 1) pe_str (nomark _)) (pss_one (ps_set (i := 2) scHeld.nd rfl (.inl rfl) (pe_call Z.gB hr1 (by rfl) Z.nB.m Z.nB.kp Z.nB.b .nil pass0 (pa_cons (pe_ix ix_tup (pv 0) pe_int (fun _ _ => rfl)) (pa_cons (pe_ix ix_tup (pv 0) pe_int (fun _ _ => rfl)) pa_nil)))))
        (pss_one (ps_if (pt_cmpR op_eq (pv 1) pe_str (nomark _)) (pss_one (ps_set (i := 2) scHeld.nd rfl (.inl rfl) (pe_callTy call_list_of (by rfl) T.list (by decide +kernel) (pa_cons (pe_ix ix_tup (pv 0) pe_int (fun _ _ => rfl)) pa_nil))))
        (pss_one (ps_if (pt_cmpR op_eq (pv 1) pe_str (nomark _)) (pss_one (ps_set (i := 2) scHeld.nd rfl (.inl rfl) (pe_call Z.gS hr1 (by rfl) Z.nS.m Z.nS.kp Z.nS.b .nil pass0 (pa_cons (pe_ix ix_tup (pv 0) pe_int (fun _ _ => rfl)) (pa_cons (pe_call G hr (by rfl) N.m N.kp N.b .nil pass0 (pa_cons (pe_ix ix_tup (pv 0) pe_int (fun _ _ => rfl)) pa_nil)) pa_nil)))))
        (pss_one (ps_if (pt_cmpR op_eq (pv 1) pe_str (nomark _)) (pss_one (ps_set (i := 2) scHeld.nd rfl (.inl rfl) (pe_call Z.gQ hr1 (by rfl) Z.nQ.m Z.nQ.kp Z.nQ.b .nil pass0 (pa_cons (pe_ix ix_tup (pv 0) pe_int (fun _ _ => rfl)) (pa_cons (pe_call G hr (by rfl) N.m N.kp N.b .nil pass0 (pa_cons (pe_ix ix_tup (pv 0) pe_int (fun _ _ => rfl)) pa_nil)) pa_nil)))))
        (pss_one (ps_set (i := 2) scHeld.nd rfl (.inl rfl) (pe_call Z.gJ hr1 (by rfl) Z.nJ.m Z.nJ.kp Z.nJ.b .nil pass0 (pa_cons (pv 1) (pa_cons (pe_call G hr (by rfl) N.m N.kp N.b .nil pass0 (pa_cons (pe_ix ix_tup (pv 0) pe_int (fun _ _ => rfl)) pa_nil)) (pa_cons (pe_call G hr (by rfl) N.m N.kp N.b .nil pass0 (pa_cons (pe_ix ix_tup (pv 0) pe_int (fun _ _ => rfl)) pa_nil)) pa_nil)))))))))))))
      (pss_cons (ps_if (pt_not (pt_val (pe_fr fun hf => GX.pe_allG (k := 4) hr6 (by rfl) T.all TB rfl scHeld.nd hf gHeld (show ("cell" : Str) ∉ (["body", "word", "held"] : List Str) by decide) (pi_list (pv 2))
          (fun A s H C code fp hr1 => pe_call Z.gT hr1 (by rfl) Z.nT.m Z.nT.kp Z.nT.b .nil pass0 (pa_cons (pv 3) (pa_cons pe_int (pa_cons (pe_glob (v := .int 3) rfl mL ⟨_, rfl⟩) pa_nil))))))) (pss_one ps_never) pss_nil)
      (pss_one (ps_ret (pv 2))))), ?_⟩
    cases b with
    | block x y z a b c =>
      obtain ⟨p, y1, z1, rfl, hT, h1, h2⟩ := of_body3 hB
      refine ⟨_, rfl, p, _, _, _, rfl, rfl, hT, rfl, ?_⟩
      refine ⟨_, rfl, rfl, _, rfl, itD1 (by decide +kernel) ?_⟩
      have hg' := hg
      obtain ⟨g0, ga, gb, gc⟩ := hg
      obtain ⟨g1, g2, g3⟩ := g0
      simp only at g1 g2 g3
      obtain ⟨a', rfl⟩ := Int.eq_ofNat_of_zero_le (show 0 ≤ a by omega)
      obtain ⟨b', rfl⟩ := Int.eq_ofNat_of_zero_le (show 0 ≤ b by omega)
      obtain ⟨c', rfl⟩ := Int.eq_ofNat_of_zero_le (show 0 ≤ c by omega)
      refine ⟨_, rfl, p, _, _, _, rfl, rfl, hT, rfl, _, rfl, p, _, _, _, rfl, rfl, hT, rfl, y1, z1, x, y, z, a', b', c', rfl, h1, h2, ⟨by omega, by omega, by omega⟩, fun H1 r ys k hr' hp hI => ?_⟩
      rw [all_block hg'] at hI
      refine ⟨_, rfl, r, rfl, ⟨_, SqL.of hp⟩, (k.tab _ hPh).1, fun H2 tb => ?_⟩
      refine ⟨_, _, ⟨Nat.zero_le _, ?p0⟩, GX.turn_lst (xs := ys) (fun i H' => Kp [] H1 H') rfl (fun i H' _ k => k.sqL (SqL.of hp) List.not_mem_nil) (fun i x H' hx k' => ?ps) (fun H' k' => ?pd)⟩
      case p0 => exact Kp.tabbed (k.tab _ hPh) tb
      case ps =>
        obtain ⟨c, hc, hd⟩ := hI.get hx
        obtain ⟨p', rfl, hs⟩ := of_dp_c hd
        refine ⟨_, rfl, p', c, 0, 3, rfl, k'.sqT hs, k'.tab _ (k.tab _ hPt), fun H3 k3 => ⟨_, rfl, ?_⟩⟩
        rw [tri_room.mpr (in_all (List.mem_of_getElem? hc))]
        exact iteT ⟨(List.getElem?_eq_some_iff.mp hx).1, k'.trans k3⟩
      case pd =>
        refine ⟨_, rfl, iteF ?_⟩
        exact ⟨_, rfl, q H' r ys (k.trans k') hr' (k'.lst hp List.not_mem_nil) (items_mono k' hI)⟩
    | cells cs =>
      obtain ⟨p, y1, rfl, hT, h1⟩ := of_body2 hB
      refine ⟨_, rfl, p, _, _, _, rfl, rfl, hT, rfl, ?_⟩
      refine ⟨_, rfl, rfl, _, rfl, itD0 (by decide +kernel) ?_⟩
      refine ⟨_, rfl, rfl, _, rfl, itD1 (by decide +kernel) ?_⟩
      obtain ⟨pc, ys, rfl, hTc, hI0⟩ := of_cellsT h1
      refine ⟨_, rfl, p, _, _, _, rfl, rfl, hT, rfl, pc, ys, rfl, .inr hTc, fun r hr' => ?_⟩
      have k : Kp [] H (upd H r (.lst ys)) := Kp.new hr'
      have hp : upd H r (.lst ys) r = some (.lst ys) := upd_same
      have hI := items_mono k hI0
      rw [show cs = all (.cells cs) from all_cells hg] at hI
      generalize upd H r (.lst ys) = H1 at k hp hI ⊢
      refine ⟨_, rfl, r, rfl, ⟨_, SqL.of hp⟩, (k.tab _ hPh).1, fun H2 tb => ?_⟩
      refine ⟨_, _, ⟨Nat.zero_le _, ?p0⟩, GX.turn_lst (xs := ys) (fun i H' => Kp [] H1 H') rfl (fun i H' _ k => k.sqL (SqL.of hp) List.not_mem_nil) (fun i x H' hx k' => ?ps) (fun H' k' => ?pd)⟩
      case p0 => exact Kp.tabbed (k.tab _ hPh) tb
      case ps =>
        obtain ⟨c, hc, hd⟩ := hI.get hx
        obtain ⟨p', rfl, hs⟩ := of_dp_c hd
        refine ⟨_, rfl, p', c, 0, 3, rfl, k'.sqT hs, k'.tab _ (k.tab _ hPt), fun H3 k3 => ⟨_, rfl, ?_⟩⟩
        rw [tri_room.mpr (in_all (List.mem_of_getElem? hc))]
        exact iteT ⟨(List.getElem?_eq_some_iff.mp hx).1, k'.trans k3⟩
      case pd =>
        refine ⟨_, rfl, iteF ?_⟩
        exact ⟨_, rfl, q H' r ys (k.trans k') hr' (k'.lst hp List.not_mem_nil) (items_mono k' hI)⟩
    | moved d b1 =>
      obtain ⟨p, y1, z1, rfl, hT, h1, h2⟩ := of_body3 hB
      refine ⟨_, rfl, p, _, _, _, rfl, rfl, hT, rfl, ?_⟩
      refine ⟨_, rfl, rfl, _, rfl, itD0 (by decide +kernel) ?_⟩
      refine ⟨_, rfl, rfl, _, rfl, itD0 (by decide +kernel) ?_⟩
      refine ⟨_, rfl, rfl, _, rfl, itD1 (by decide +kernel) ?_⟩
      have hdp : dp b1 ≤ n := by
        unfold dp at hn
        omega
      refine ⟨_, rfl, p, _, _, _, rfl, rfl, hT, rfl, _, rfl, p, _, _, _, rfl, rfl, hT, rfl, z1, b1, rfl, h2, hg.2.1, hdp, hPt, hPh, fun H0 r0 ys0 k0 n0 hp0 hI0 => ?_⟩
      refine ⟨y1, d, .ref r0, all b1, rfl, c_mono k0 h1, cellsL_of hp0 hI0, all_len b1, fun H1 r ys k1 n1 hp hI => ?_⟩
      have k := k0.trans k1
      have hr' := k0.free r n1
      rw [all_moved hg] at hI
      refine ⟨_, rfl, r, rfl, ⟨_, SqL.of hp⟩, (k.tab _ hPh).1, fun H2 tb => ?_⟩
      refine ⟨_, _, ⟨Nat.zero_le _, ?p0⟩, GX.turn_lst (xs := ys) (fun i H' => Kp [] H1 H') rfl (fun i H' _ k => k.sqL (SqL.of hp) List.not_mem_nil) (fun i x H' hx k' => ?ps) (fun H' k' => ?pd)⟩
      case p0 => exact Kp.tabbed (k.tab _ hPh) tb
      case ps =>
        obtain ⟨c, hc, hd⟩ := hI.get hx
        obtain ⟨p', rfl, hs⟩ := of_dp_c hd
        refine ⟨_, rfl, p', c, 0, 3, rfl, k'.sqT hs, k'.tab _ (k.tab _ hPt), fun H3 k3 => ⟨_, rfl, ?_⟩⟩
        rw [tri_room.mpr (in_all (List.mem_of_getElem? hc))]
        exact iteT ⟨(List.getElem?_eq_some_iff.mp hx).1, k'.trans k3⟩
      case pd =>
        refine ⟨_, rfl, iteF ?_⟩
        exact ⟨_, rfl, q H' r ys (k.trans k') hr' (k'.lst hp List.not_mem_nil) (items_mono k' hI)⟩
    | turnX b1 =>
      obtain ⟨p, y1, z1, rfl, hT, h1, h2⟩ := of_body3 hB
      refine ⟨_, rfl, p, _, _, _, rfl, rfl, hT, rfl, ?_⟩
      refine ⟨_, rfl, rfl, _, rfl, itD0 (by decide +kernel) ?_⟩
      refine ⟨_, rfl, rfl, _, rfl, itD0 (by decide +kernel) ?_⟩
      refine ⟨_, rfl, rfl, _, rfl, itD0 (by decide +kernel) ?_⟩
      refine ⟨_, rfl, rfl, _, rfl, itD1 (by decide +kernel) ?_⟩
      obtain rfl := of_dps h1
      have hdp : dp b1 ≤ n := by
        unfold dp at hn
        omega
      refine ⟨_, rfl, p, _, _, _, rfl, rfl, hT, rfl, _, rfl, p, _, _, _, rfl, rfl, hT, rfl, z1, b1, rfl, h2, hg, hdp, hPt, hPh, fun H0 r0 ys0 k0 n0 hp0 hI0 => ?_⟩
      refine ⟨"x", tX, .ref r0, all b1, rfl, .inl ⟨rfl, rfl⟩, cellsL_of hp0 hI0, all_len b1, fun H1 r ys ds k1 n1 hp hI hpm hso => ?_⟩
      have k := k0.trans k1
      have hr' := k0.free r n1
      rw [all_turnX hg hso hpm] at hI
      refine ⟨_, rfl, r, rfl, ⟨_, SqL.of hp⟩, (k.tab _ hPh).1, fun H2 tb => ?_⟩
      refine ⟨_, _, ⟨Nat.zero_le _, ?p0⟩, GX.turn_lst (xs := ys) (fun i H' => Kp [] H1 H') rfl (fun i H' _ k => k.sqL (SqL.of hp) List.not_mem_nil) (fun i x H' hx k' => ?ps) (fun H' k' => ?pd)⟩
      case p0 => exact Kp.tabbed (k.tab _ hPh) tb
      case ps =>
        obtain ⟨c, hc, hd⟩ := hI.get hx
        obtain ⟨p', rfl, hs⟩ := of_dp_c hd
        refine ⟨_, rfl, p', c, 0, 3, rfl, k'.sqT hs, k'.tab _ (k.tab _ hPt), fun H3 k3 => ⟨_, rfl, ?_⟩⟩
        rw [tri_room.mpr (in_all (List.mem_of_getElem? hc))]
        exact iteT ⟨(List.getElem?_eq_some_iff.mp hx).1, k'.trans k3⟩
      case pd =>
        refine ⟨_, rfl, iteF ?_⟩
        exact ⟨_, rfl, q H' r ys (k.trans k') hr' (k'.lst hp List.not_mem_nil) (items_mono k' hI)⟩
    | turnY b1 =>
      obtain ⟨p, y1, z1, rfl, hT, h1, h2⟩ := of_body3 hB
      refine ⟨_, rfl, p, _, _, _, rfl, rfl, hT, rfl, ?_⟩
      refine ⟨_, rfl, rfl, _, rfl, itD0 (by decide +kernel) ?_⟩
      refine ⟨_, rfl, rfl, _, rfl, itD0 (by decide +kernel) ?_⟩
      refine ⟨_, rfl, rfl, _, rfl, itD0 (by decide +kernel) ?_⟩
      refine ⟨_, rfl, rfl, _, rfl, itD1 (by decide +kernel) ?_⟩
      obtain rfl := of_dps h1
      have hdp : dp b1 ≤ n := by
        unfold dp at hn
        omega
      refine ⟨_, rfl, p, _, _, _, rfl, rfl, hT, rfl, _, rfl, p, _, _, _, rfl, rfl, hT, rfl, z1, b1, rfl, h2, hg, hdp, hPt, hPh, fun H0 r0 ys0 k0 n0 hp0 hI0 => ?_⟩
      refine ⟨"y", tY, .ref r0, all b1, rfl, .inr (.inl ⟨rfl, rfl⟩), cellsL_of hp0 hI0, all_len b1, fun H1 r ys ds k1 n1 hp hI hpm hso => ?_⟩
      have k := k0.trans k1
      have hr' := k0.free r n1
      rw [all_turnY hg hso hpm] at hI
      refine ⟨_, rfl, r, rfl, ⟨_, SqL.of hp⟩, (k.tab _ hPh).1, fun H2 tb => ?_⟩
      refine ⟨_, _, ⟨Nat.zero_le _, ?p0⟩, GX.turn_lst (xs := ys) (fun i H' => Kp [] H1 H') rfl (fun i H' _ k => k.sqL (SqL.of hp) List.not_mem_nil) (fun i x H' hx k' => ?ps) (fun H' k' => ?pd)⟩
      case p0 => exact Kp.tabbed (k.tab _ hPh) tb
      case ps =>
        obtain ⟨c, hc, hd⟩ := hI.get hx
        obtain ⟨p', rfl, hs⟩ := of_dp_c hd
        refine ⟨_, rfl, p', c, 0, 3, rfl, k'.sqT hs, k'.tab _ (k.tab _ hPt), fun H3 k3 => ⟨_, rfl, ?_⟩⟩
        rw [tri_room.mpr (in_all (List.mem_of_getElem? hc))]
        exact iteT ⟨(List.getElem?_eq_some_iff.mp hx).1, k'.trans k3⟩
      case pd =>
        refine ⟨_, rfl, iteF ?_⟩
        exact ⟨_, rfl, q H' r ys (k.trans k') hr' (k'.lst hp List.not_mem_nil) (items_mono k' hI)⟩
    | turnZ b1 =>
      obtain ⟨p, y1, z1, rfl, hT, h1, h2⟩ := of_body3 hB
      refine ⟨_, rfl, p, _, _, _, rfl, rfl, hT, rfl, ?_⟩
      refine ⟨_, rfl, rfl, _, rfl, itD0 (by decide +kernel) ?_⟩
      refine ⟨_, rfl, rfl, _, rfl, itD0 (by decide +kernel) ?_⟩
      refine ⟨_, rfl, rfl, _, rfl, itD0 (by decide +kernel) ?_⟩
      refine ⟨_, rfl, rfl, _, rfl, itD1 (by decide +kernel) ?_⟩
      obtain rfl := of_dps h1
      have hdp : dp b1 ≤ n := by
        unfold dp at hn
        omega
      refine ⟨_, rfl, p, _, _, _, rfl, rfl, hT, rfl, _, rfl, p, _, _, _, rfl, rfl, hT, rfl, z1, b1, rfl, h2, hg, hdp, hPt, hPh, fun H0 r0 ys0 k0 n0 hp0 hI0 => ?_⟩
      refine ⟨"z", tZ, .ref r0, all b1, rfl, .inr (.inr ⟨rfl, rfl⟩), cellsL_of hp0 hI0, all_len b1, fun H1 r ys ds k1 n1 hp hI hpm hso => ?_⟩
      have k := k0.trans k1
      have hr' := k0.free r n1
      rw [all_turnZ hg hso hpm] at hI
      refine ⟨_, rfl, r, rfl, ⟨_, SqL.of hp⟩, (k.tab _ hPh).1, fun H2 tb => ?_⟩
      refine ⟨_, _, ⟨Nat.zero_le _, ?p0⟩, GX.turn_lst (xs := ys) (fun i H' => Kp [] H1 H') rfl (fun i H' _ k => k.sqL (SqL.of hp) List.not_mem_nil) (fun i x H' hx k' => ?ps) (fun H' k' => ?pd)⟩
      case p0 => exact Kp.tabbed (k.tab _ hPh) tb
      case ps =>
        obtain ⟨c, hc, hd⟩ := hI.get hx
        obtain ⟨p', rfl, hs⟩ := of_dp_c hd
        refine ⟨_, rfl, p', c, 0, 3, rfl, k'.sqT hs, k'.tab _ (k.tab _ hPt), fun H3 k3 => ⟨_, rfl, ?_⟩⟩
        rw [tri_room.mpr (in_all (List.mem_of_getElem? hc))]
        exact iteT ⟨(List.getElem?_eq_some_iff.mp hx).1, k'.trans k3⟩
      case pd =>
        refine ⟨_, rfl, iteF ?_⟩
        exact ⟨_, rfl, q H' r ys (k.trans k') hr' (k'.lst hp List.not_mem_nil) (items_mono k' hI)⟩
    | wth b1 b2 =>
      obtain ⟨p, y1, z1, rfl, hT, h1, h2⟩ := of_body3 hB
      refine ⟨_, rfl, p, _, _, _, rfl, rfl, hT, rfl, ?_⟩
      refine ⟨_, rfl, rfl, _, rfl, itD0 (by decide +kernel) ?_⟩
      refine ⟨_, rfl, rfl, _, rfl, itD0 (by decide +kernel) ?_⟩
      refine ⟨_, rfl, rfl, _, rfl, itD0 (by decide +kernel) ?_⟩
      refine ⟨_, rfl, rfl, _, rfl, itD0 (by decide +kernel) ?_⟩
      have hdp : dp b1 ≤ n ∧ dp b2 ≤ n := by
        unfold dp at hn
        omega
      refine ⟨_, rfl, _, rfl, p, _, _, _, rfl, rfl, hT, rfl, y1, b1, rfl, h1, hg.1, hdp.1, hPt, hPh, fun Ha ra ya ka na pa ia => ?_⟩
      refine ⟨_, rfl, p, _, _, _, rfl, rfl, (ka.sqT hT), rfl, z1, b2, rfl, body_mono ka h2, hg.2, hdp.2, ka.tab _ hPt, ka.tab _ hPh, fun Hb rb yb kb nb' pb ib => ?_⟩
      refine ⟨"with", ra, rb, ya, yb, all b1, all b2, rfl, .inl rfl, kb.lst pa List.not_mem_nil, pb, items_mono kb ia, ib, all_len b1, all_len b2, fun c hc => in_all hc, fun c hc => in_all hc, fun H1 r ys ds k1 n1 hp hI hj => ?_⟩
      have k := (ka.trans kb).trans k1
      have hr' := (ka.trans kb).free r n1
      obtain ⟨_, hso, hnd, hmem⟩ | ⟨e, _⟩ | ⟨e, _⟩ := hj
      rotate_left
      · exact absurd e (by decide +kernel)
      · exact absurd e (by decide +kernel)
      rw [all_wth hg hso hnd hmem] at hI
      refine ⟨_, rfl, r, rfl, ⟨_, SqL.of hp⟩, (k.tab _ hPh).1, fun H2 tb => ?_⟩
      refine ⟨_, _, ⟨Nat.zero_le _, ?p0⟩, GX.turn_lst (xs := ys) (fun i H' => Kp [] H1 H') rfl (fun i H' _ k => k.sqL (SqL.of hp) List.not_mem_nil) (fun i x H' hx k' => ?ps) (fun H' k' => ?pd)⟩
      case p0 => exact Kp.tabbed (k.tab _ hPh) tb
      case ps =>
        obtain ⟨c, hc, hd⟩ := hI.get hx
        obtain ⟨p', rfl, hs⟩ := of_dp_c hd
        refine ⟨_, rfl, p', c, 0, 3, rfl, k'.sqT hs, k'.tab _ (k.tab _ hPt), fun H3 k3 => ⟨_, rfl, ?_⟩⟩
        rw [tri_room.mpr (in_all (List.mem_of_getElem? hc))]
        exact iteT ⟨(List.getElem?_eq_some_iff.mp hx).1, k'.trans k3⟩
      case pd =>
        refine ⟨_, rfl, iteF ?_⟩
        exact ⟨_, rfl, q H' r ys (k.trans k') hr' (k'.lst hp List.not_mem_nil) (items_mono k' hI)⟩
    | common b1 b2 =>
      obtain ⟨p, y1, z1, rfl, hT, h1, h2⟩ := of_body3 hB
      refine ⟨_, rfl, p, _, _, _, rfl, rfl, hT, rfl, ?_⟩
      refine ⟨_, rfl, rfl, _, rfl, itD0 (by decide +kernel) ?_⟩
      refine ⟨_, rfl, rfl, _, rfl, itD0 (by decide +kernel) ?_⟩
      refine ⟨_, rfl, rfl, _, rfl, itD0 (by decide +kernel) ?_⟩
      refine ⟨_, rfl, rfl, _, rfl, itD0 (by decide +kernel) ?_⟩
      have hdp : dp b1 ≤ n ∧ dp b2 ≤ n := by
        unfold dp at hn
        omega
      refine ⟨_, rfl, _, rfl, p, _, _, _, rfl, rfl, hT, rfl, y1, b1, rfl, h1, hg.1, hdp.1, hPt, hPh, fun Ha ra ya ka na pa ia => ?_⟩
      refine ⟨_, rfl, p, _, _, _, rfl, rfl, (ka.sqT hT), rfl, z1, b2, rfl, body_mono ka h2, hg.2, hdp.2, ka.tab _ hPt, ka.tab _ hPh, fun Hb rb yb kb nb' pb ib => ?_⟩
      refine ⟨"common", ra, rb, ya, yb, all b1, all b2, rfl, .inr (.inl rfl), kb.lst pa List.not_mem_nil, pb, items_mono kb ia, ib, all_len b1, all_len b2, fun c hc => in_all hc, fun c hc => in_all hc, fun H1 r ys ds k1 n1 hp hI hj => ?_⟩
      have k := (ka.trans kb).trans k1
      have hr' := (ka.trans kb).free r n1
      obtain ⟨e, _⟩ | ⟨_, rfl⟩ | ⟨e, _⟩ := hj
      · exact absurd e (by decide +kernel)
      rotate_left
      · exact absurd e (by decide +kernel)
      rw [all_common hg] at hI
      refine ⟨_, rfl, r, rfl, ⟨_, SqL.of hp⟩, (k.tab _ hPh).1, fun H2 tb => ?_⟩
      refine ⟨_, _, ⟨Nat.zero_le _, ?p0⟩, GX.turn_lst (xs := ys) (fun i H' => Kp [] H1 H') rfl (fun i H' _ k => k.sqL (SqL.of hp) List.not_mem_nil) (fun i x H' hx k' => ?ps) (fun H' k' => ?pd)⟩
      case p0 => exact Kp.tabbed (k.tab _ hPh) tb
      case ps =>
        obtain ⟨c, hc, hd⟩ := hI.get hx
        obtain ⟨p', rfl, hs⟩ := of_dp_c hd
        refine ⟨_, rfl, p', c, 0, 3, rfl, k'.sqT hs, k'.tab _ (k.tab _ hPt), fun H3 k3 => ⟨_, rfl, ?_⟩⟩
        rw [tri_room.mpr (in_all (List.mem_of_getElem? hc))]
        exact iteT ⟨(List.getElem?_eq_some_iff.mp hx).1, k'.trans k3⟩
      case pd =>
        refine ⟨_, rfl, iteF ?_⟩
        exact ⟨_, rfl, q H' r ys (k.trans k') hr' (k'.lst hp List.not_mem_nil) (items_mono k' hI)⟩
    | less b1 b2 =>
      obtain ⟨p, y1, z1, rfl, hT, h1, h2⟩ := of_body3 hB
      refine ⟨_, rfl, p, _, _, _, rfl, rfl, hT, rfl, ?_⟩
      refine ⟨_, rfl, rfl, _, rfl, itD0 (by decide +kernel) ?_⟩
      refine ⟨_, rfl, rfl, _, rfl, itD0 (by decide +kernel) ?_⟩
      refine ⟨_, rfl, rfl, _, rfl, itD0 (by decide +kernel) ?_⟩
      refine ⟨_, rfl, rfl, _, rfl, itD0 (by decide +kernel) ?_⟩
      have hdp : dp b1 ≤ n ∧ dp b2 ≤ n := by
        unfold dp at hn
        omega
      refine ⟨_, rfl, _, rfl, p, _, _, _, rfl, rfl, hT, rfl, y1, b1, rfl, h1, hg.1, hdp.1, hPt, hPh, fun Ha ra ya ka na pa ia => ?_⟩
      refine ⟨_, rfl, p, _, _, _, rfl, rfl, (ka.sqT hT), rfl, z1, b2, rfl, body_mono ka h2, hg.2, hdp.2, ka.tab _ hPt, ka.tab _ hPh, fun Hb rb yb kb nb' pb ib => ?_⟩
      refine ⟨"less", ra, rb, ya, yb, all b1, all b2, rfl, .inr (.inr rfl), kb.lst pa List.not_mem_nil, pb, items_mono kb ia, ib, all_len b1, all_len b2, fun c hc => in_all hc, fun c hc => in_all hc, fun H1 r ys ds k1 n1 hp hI hj => ?_⟩
      have k := (ka.trans kb).trans k1
      have hr' := (ka.trans kb).free r n1
      obtain ⟨e, _⟩ | ⟨e, _⟩ | ⟨_, rfl⟩ := hj
      · exact absurd e (by decide +kernel)
      · exact absurd e (by decide +kernel)
      rw [all_less hg] at hI
      refine ⟨_, rfl, r, rfl, ⟨_, SqL.of hp⟩, (k.tab _ hPh).1, fun H2 tb => ?_⟩
      refine ⟨_, _, ⟨Nat.zero_le _, ?p0⟩, GX.turn_lst (xs := ys) (fun i H' => Kp [] H1 H') rfl (fun i H' _ k => k.sqL (SqL.of hp) List.not_mem_nil) (fun i x H' hx k' => ?ps) (fun H' k' => ?pd)⟩
      case p0 => exact Kp.tabbed (k.tab _ hPh) tb
      case ps =>
        obtain ⟨c, hc, hd⟩ := hI.get hx
        obtain ⟨p', rfl, hs⟩ := of_dp_c hd
        refine ⟨_, rfl, p', c, 0, 3, rfl, k'.sqT hs, k'.tab _ (k.tab _ hPt), fun H3 k3 => ⟨_, rfl, ?_⟩⟩
        rw [tri_room.mpr (in_all (List.mem_of_getElem? hc))]
        exact iteT ⟨(List.getElem?_eq_some_iff.mp hx).1, k'.trans k3⟩
      case pd =>
        refine ⟨_, rfl, iteF ?_⟩
        exact ⟨_, rfl, q H' r ys (k.trans k') hr' (k'.lst hp List.not_mem_nil) (items_mono k' hI)⟩

theorem held_none {f Pt Ph : Addr} {fd : FuncData} : FnOk P W0 K mg base CX0 6 f fd ["body"] (spHeld K Pt Ph 0) := by
  have no : ∀ vs H Q E, ¬ spHeld K Pt Ph 0 vs H Q E := fun vs H Q E h => by
    obtain ⟨v, b, _, _, _, hn, _⟩ := h
    have := dp_pos b
    omega
  exact ⟨fun vs H Q E h => absurd h (no vs H Q E), fun A outer s H args us vs Q E _ _ _ _ h => absurd h (no vs H Q E)⟩
theorem ok_held {f c Pt Ph fT fB fS fQ fJ : Addr} {fd dT dB dS dQ dJ : FuncData} (F : FunC K "_held" "_held" sHeld f fd c) (TB : GxR.TabB base mg c Ph) (T : Nm K mg) (Z : HeldFns P W0 K mg base Pt fT fB fS fQ fJ dT dB dS dQ dJ) (N : Fn K mg "_held" f fd ["body"]) :
    ∀ n : Nat, FnOk P W0 K mg base CX0 (6 + n) f fd ["body"] (spHeld K Pt Ph n)
  | 0 => held_none
  | n + 1 => held_step F TB T Z N (ok_held F TB T Z N n)
end LP
end

section
set_option Elab.async false
set_option linter.all false
set_option maxRecDepth 100000
set_option maxHeartbeats 2000000
/-! cells -/
namespace LP
open PySem PySem.Spec PyProof.Rows L2 Ly GY
variable [LamTab] {P : Program} {W0 : World} {K : PySem.W.Frag} {mg : Str → Option Value} {base : Heap}
/-- an own class of exceptions over ValueError -/
structure Ex (K : PySem.W.Frag) (mg : Str → Option Value) (x : Str) (C : Addr) : Prop where
  g : mg x = some (.ref C)
  x : PySem.W.excIn K C [.type "ValueError", .type "Exception", .type "BaseException", .type "object"] "ValueError.__new__" = true
  k : PySem.W.keepIn K (.ref C) = true
  b : PySem.W.subIn K (.ref C) (.type "BaseException") = some true
  t : PySem.W.typeIn K (.ref C) = some (.type "type")
theorem btw_iff {lo hi z : Int} : btw lo hi z = true ↔ (lo ≤ z ∧ z ≤ hi) := by
  unfold btw
  simp only [Bool.and_eq_true, decide_eq_true_eq]
/-- the tables of the defs with generator expressions -/
structure Tb (H : Hp) (Pt Pr Ph : Addr) : Prop where
  t : TGen H Pt
  r : TR H Pr
  h : TGen H Ph
theorem Tb.mono {S : List Addr} {H H' : Hp} {Pt Pr Ph : Addr} (b : Tb H Pt Pr Ph) (k : Kp S H H') : Tb H' Pt Pr Ph := ⟨k.tab _ b.t, k.tabr b.r, k.tab _ b.h⟩
def spCells (K : PySem.W.Frag) (Pt Pr Ph : Addr) : Sp := fun vs H Q _ => ∃ (v : V) (b : Bd), vs = [v] ∧ Body K H v b ∧ Good b ∧ nb b ≤ 20 ∧ Tb H Pt Pr Ph ∧
  ∀ (H' : Hp) (r : Addr) (zs : List V), Kp [] H H' → H r = none → H' r = some (.lst zs) → Items K H' zs (all b) → Q (.ref r) H'
theorem scCells : FnScope ["body"] ["body"] (defScope sCells) := ⟨rfl, rfl, rfl, by decide +kernel, rfl, by decide +kernel, by decide +kernel⟩
theorem ok_cells {f Pt Pr Ph fI fH : Addr} {fd dI dH : FuncData} (F : Fun K "cells" "cells" sCells f fd) (NI : Fn K mg "is_body" fI dI ["body"]) (GI : FnOk P W0 K mg base CX0 9 fI dI ["body"] (spIsBody K Pt Pr))
    (NH : Fn K mg "_held" fH dH ["body"]) (GH : FnOk P W0 K mg base CX0 (6 + 20) fH dH ["body"] (spHeld K Pt Ph 20)) : FnOk P W0 K mg base CX0 27 f fd ["body"] (spCells K Pt Pr Ph) := by
  refine F.ok scCells (fun vs H Q E h => ?_) (fun cdv A outer s H vs Q E hr h => ?_)
  · obtain ⟨v, b, rfl, _⟩ := h
    rfl
  · obtain ⟨v, b, rfl, hB, hg, hn, tb, q⟩ := h
    have hr9 : Room 9 _ := hr.mono (by decide)
    refine ⟨_, pss_cons (ps_if (pt_not (pt_val (pe_call GI hr9 (by rfl) NI.m NI.kp NI.b .nil pass0 (pa_cons (pv 0) pa_nil)))) (pss_one ps_never) pss_nil)
      (pss_one (ps_ret (pe_call GH hr (by rfl) NH.m NH.kp NH.b .nil pass0 (pa_cons (pv 0) pa_nil)))), ?_⟩
    refine ⟨_, rfl, v, b, rfl, hB, hg, hn, tb.t, tb.r, fun H1 k1 => ⟨true, rfl, iteF ?_⟩⟩
    have hd := dp_le_nb b
    exact ⟨_, rfl, v, b, rfl, body_mono k1 hB, hg, by omega, k1.tab _ tb.t, k1.tab _ tb.h, fun H2 r zs k2 n2 h2 i2 => q H2 r zs (k1.trans k2) (k1.free r n2) h2 i2⟩
end LP
end

section
set_option Elab.async false
set_option linter.all false
set_option maxRecDepth 100000
set_option maxHeartbeats 2000000
/-! The first words of the states: word by word, all of one length after another; or each state once, in the order in which they are found. Plain Lean. -/
namespace Fw
section
variable {σ ω ε : Type} [DecidableEq σ]
abbrev sts (T : List (ω × σ)) : List σ := T.map (·.2)
def addT (T : List (ω × σ)) (p : ω × σ) : List (ω × σ) := if p.2 ∈ sts T then T else T ++ [p]
theorem addT_mem {T : List (ω × σ)} {p : ω × σ} {s : σ} : s ∈ sts (addT T p) ↔ s ∈ sts T ∨ s = p.2 := by
  unfold addT
  split
  · rename_i h
    exact ⟨.inl, fun q => q.elim id fun e => by rw [e]; exact h⟩
  · unfold sts
    rw [List.map_append, List.mem_append]
    simp
theorem fold_mem {s : σ} : ∀ {V : List (ω × σ)} {T : List (ω × σ)}, s ∈ sts (V.foldl addT T) ↔ s ∈ sts T ∨ s ∈ sts V
  | [], T => by simp
  | p :: V, T => by
    rw [List.foldl_cons, fold_mem (V := V), addT_mem]
    unfold sts
    rw [List.map_cons, List.mem_cons]
    exact or_assoc
theorem fold_same : ∀ {V T : List (ω × σ)}, (∀ p ∈ V, p.2 ∈ sts T) → V.foldl addT T = T
  | [], _, _ => rfl
  | p :: V, T, h => by
    have e : addT T p = T := if_pos (h p List.mem_cons_self)
    rw [List.foldl_cons, e]
    exact fold_same fun r hr => h r (List.mem_cons_of_mem _ hr)
/-- of V the first of each state, without those of D -/
def fo : List σ → List (ω × σ) → List (ω × σ)
  | _, [] => []
  | D, p :: V => if p.2 ∈ D then fo D V else p :: fo (p.2 :: D) V
theorem fo_cons {D : List σ} {p : ω × σ} {V : List (ω × σ)} : fo D (p :: V) = if p.2 ∈ D then fo D V else p :: fo (p.2 :: D) V := rfl
theorem fo_congr : ∀ {V : List (ω × σ)} {D D' : List σ}, (∀ s, s ∈ D ↔ s ∈ D') → fo D V = fo D' V
  | [], _, _, _ => rfl
  | p :: V, D, D', h => by
    unfold fo
    by_cases hp : p.2 ∈ D
    · rw [if_pos hp, if_pos ((h _).mp hp)]
      exact fo_congr h
    · rw [if_neg hp, if_neg (fun z => hp ((h _).mpr z))]
      rw [fo_congr (D := p.2 :: D) (D' := p.2 :: D') fun s => by rw [List.mem_cons, List.mem_cons, h s]]
theorem fold_fo : ∀ {V T : List (ω × σ)}, V.foldl addT T = T ++ fo (sts T) V
  | [], T => (List.append_nil _).symm
  | p :: V, T => by
    rw [List.foldl_cons, fold_fo (V := V), fo_cons]
    by_cases hp : p.2 ∈ sts T
    · rw [if_pos hp]
      have e : addT T p = T := if_pos hp
      rw [e]
    · rw [if_neg hp]
      have e : addT T p = T ++ [p] := if_neg hp
      rw [e, List.append_assoc]
      congr 1
      show p :: fo (sts (T ++ [p])) V = _
      rw [fo_congr (D := sts (T ++ [p])) (D' := p.2 :: sts T) fun s => by
        unfold sts
        rw [List.map_append, List.mem_append, List.mem_cons]
        simp [or_comm]]
theorem fo_sub : ∀ {V : List (ω × σ)} {D : List σ}, ∀ p ∈ fo D V, p ∈ V ∧ p.2 ∉ D
  | [], _, _, h => by cases h
  | q :: V, D, p, h => by
    unfold fo at h
    split at h
    · obtain ⟨a, b⟩ := fo_sub p h
      exact ⟨List.mem_cons_of_mem _ a, b⟩
    · rename_i hq
      rcases List.mem_cons.mp h with e | h
      · rw [e]; exact ⟨List.mem_cons_self, hq⟩
      · obtain ⟨a, b⟩ := fo_sub p h
        exact ⟨List.mem_cons_of_mem _ a, fun z => b (List.mem_cons_of_mem _ z)⟩
theorem fo_nil {V : List (ω × σ)} {D : List σ} (h : ∀ p ∈ V, p.2 ∈ D) : fo D V = [] := by
  cases e : fo D V with
  | nil => rfl
  | cons p l =>
    obtain ⟨a, b⟩ := fo_sub (V := V) (D := D) p (by rw [e]; exact List.mem_cons_self)
    exact absurd (h p a) b
theorem addT_nodup {T : List (ω × σ)} {p : ω × σ} (h : (sts T).Nodup) : (sts (addT T p)).Nodup := by
  unfold addT
  split
  · exact h
  · rename_i hp
    unfold sts at h hp ⊢
    rw [List.map_append]
    refine List.nodup_append.mpr ⟨h, by simp, fun a ha b hb e => ?_⟩
    rw [List.map_cons, List.map_nil, List.mem_singleton] at hb
    rw [e, hb] at ha
    exact hp ha
theorem fold_nodup : ∀ {V T : List (ω × σ)}, (sts T).Nodup → (sts (V.foldl addT T)).Nodup
  | [], _, h => h
  | p :: V, T, h => by
    rw [List.foldl_cons]
    exact fold_nodup (addT_nodup h)
/-! ### behind states -/
variable (q : ε → σ → σ) (ext : ω → ε → ω) (Es : List ε)
def kids (p : ω × σ) : List (ω × σ) := Es.map fun e => (ext p.1 e, q e p.2)
def lev (w0 : ω) (s0 : σ) : Nat → List (ω × σ)
  | 0 => [(w0, s0)]
  | n + 1 => (lev w0 s0 n).flatMap (kids q ext Es)
/-- all words of a length up to n, each state once -/
def F (w0 : ω) (s0 : σ) : Nat → List (ω × σ)
  | 0 => [(w0, s0)]
  | n + 1 => (lev q ext Es w0 s0 (n + 1)).foldl addT (F w0 s0 n)
variable {q ext Es} {w0 : ω} {s0 : σ}
theorem mem_F {s : σ} : ∀ {n : Nat}, s ∈ sts ((F q ext Es w0 s0) n) ↔ ∃ j, j ≤ n ∧ s ∈ sts ((lev q ext Es w0 s0) j)
  | 0 => ⟨fun h => ⟨0, Nat.le_refl _, h⟩, fun ⟨j, h1, h2⟩ => by
    have : j = 0 := by omega
    subst this
    exact h2⟩
  | n + 1 => by
    show s ∈ sts (((lev q ext Es w0 s0) (n + 1)).foldl addT ((F q ext Es w0 s0) n)) ↔ _
    rw [fold_mem, mem_F (n := n)]
    constructor
    · rintro (⟨j, h1, h2⟩ | h)
      · exact ⟨j, by omega, h2⟩
      · exact ⟨n + 1, Nat.le_refl _, h⟩
    · rintro ⟨j, h1, h2⟩
      rcases Nat.lt_or_ge n j with z | z
      · have : j = n + 1 := by omega
        subst this
        exact .inr h2
      · exact .inl ⟨j, z, h2⟩
theorem F_nodup : ∀ n : Nat, (sts ((F q ext Es w0 s0) n)).Nodup
  | 0 => by show (sts [(w0, s0)]).Nodup; simp [sts]
  | n + 1 => fold_nodup (F_nodup n)
/-- the new ones of a length -/
def N (q : ε → σ → σ) (ext : ω → ε → ω) (Es : List ε) (w0 : ω) (s0 : σ) : Nat → List (ω × σ)
  | 0 => [(w0, s0)]
  | n + 1 => fo (sts (F q ext Es w0 s0 n)) (lev q ext Es w0 s0 (n + 1))
theorem F_succ (n : Nat) : (F q ext Es w0 s0) (n + 1) = (F q ext Es w0 s0) n ++ (N q ext Es w0 s0) (n + 1) := fold_fo
theorem kid_lev {n : Nat} {s : σ} (h : s ∈ sts ((lev q ext Es w0 s0) n)) {e : ε} (he : e ∈ Es) : q e s ∈ sts ((lev q ext Es w0 s0) (n + 1)) := by
  obtain ⟨p, hp, rfl⟩ := List.mem_map.mp h
  show _ ∈ sts (((lev q ext Es w0 s0) n).flatMap (kids q ext Es))
  refine List.mem_map.mpr ⟨(ext p.1 e, q e p.2), List.mem_flatMap.mpr ⟨p, hp, List.mem_map.mpr ⟨e, he, rfl⟩⟩, rfl⟩
theorem skip : ∀ {V T : List (ω × σ)} {D : List σ}, (∀ s ∈ D, ∀ e ∈ Es, q e s ∈ sts T) → (V.flatMap (kids q ext Es)).foldl addT T = ((fo D V).flatMap (kids q ext Es)).foldl addT T
  | [], _, _, _ => rfl
  | p :: V, T, D, h => by
    unfold fo
    rw [List.flatMap_cons, List.foldl_append]
    by_cases hp : p.2 ∈ D
    · rw [if_pos hp]
      have e : ((kids q ext Es) p).foldl addT T = T := fold_same fun r hr => by
        obtain ⟨e, he, rfl⟩ := List.mem_map.mp hr
        exact h _ hp e he
      rw [e]
      exact skip h
    · rw [if_neg hp, List.flatMap_cons, List.foldl_append]
      refine skip fun s hs e he => ?_
      rcases List.mem_cons.mp hs with z | z
      · rw [z]
        exact fold_mem.mpr (.inr (List.mem_map.mpr ⟨(ext p.1 e, q e p.2), List.mem_map.mpr ⟨e, he, rfl⟩, rfl⟩))
      · exact fold_mem.mpr (.inl (h s z e he))
/-- only the new ones are to be followed -/
theorem F_next : ∀ n : Nat, (F q ext Es w0 s0) (n + 1) = (((N q ext Es w0 s0) n).flatMap (kids q ext Es)).foldl addT ((F q ext Es w0 s0) n)
  | 0 => by
    show (((lev q ext Es w0 s0) 1).foldl addT ((F q ext Es w0 s0) 0)) = _
    rfl
  | n + 1 => by
    show (((lev q ext Es w0 s0) (n + 1)).flatMap (kids q ext Es)).foldl addT ((F q ext Es w0 s0) (n + 1)) = ((fo (sts ((F q ext Es w0 s0) n)) ((lev q ext Es w0 s0) (n + 1))).flatMap (kids q ext Es)).foldl addT ((F q ext Es w0 s0) (n + 1))
    refine skip fun s hs e he => ?_
    obtain ⟨j, h1, h2⟩ := mem_F.mp hs
    exact mem_F.mpr ⟨j + 1, by omega, kid_lev h2 he⟩
theorem fold_pre : ∀ {V T : List (ω × σ)}, ∃ S, V.foldl addT T = T ++ S := fun {V T} => ⟨_, fold_fo⟩
/-- once nothing is new, nothing more is found -/
theorem F_done {n : Nat} (h : (F q ext Es w0 s0) (n + 1) = (F q ext Es w0 s0) n) : ∀ m : Nat, n ≤ m → (F q ext Es w0 s0) m = (F q ext Es w0 s0) n
  | 0, hm => by
    have : n = 0 := by omega
    subst this
    rfl
  | m + 1, hm => by
    rcases Nat.lt_or_ge m n with z | z
    · have : n = m + 1 := by omega
      subst this
      rfl
    · have ih := F_done h m z
      show ((lev q ext Es w0 s0) (m + 1)).foldl addT ((F q ext Es w0 s0) m) = (F q ext Es w0 s0) n
      rw [ih]
      refine fold_same fun p hp => ?_
      obtain ⟨r, hr, hk⟩ := List.mem_flatMap.mp (show p ∈ ((lev q ext Es w0 s0) m).flatMap (kids q ext Es) from hp)
      obtain ⟨e, he, rfl⟩ := List.mem_map.mp hk
      have hs : r.2 ∈ sts ((F q ext Es w0 s0) m) := mem_F.mpr ⟨m, Nat.le_refl _, List.mem_map.mpr ⟨r, hr, rfl⟩⟩
      rw [ih] at hs
      obtain ⟨j, h1, h2⟩ := mem_F.mp hs
      have : q e r.2 ∈ sts ((F q ext Es w0 s0) (n + 1)) := mem_F.mpr ⟨j + 1, by omega, kid_lev h2 he⟩
      rw [h] at this
      exact this
/-! ### one after another -/
/-- the queue: the first k are followed -/
def At (q : ε → σ → σ) (ext : ω → ε → ω) (Es : List ε) (w0 : ω) (s0 : σ) (T : List (ω × σ)) (k : Nat) : Prop :=
  ∃ n i, T = (((N q ext Es w0 s0 n).take i).flatMap (kids q ext Es)).foldl addT (F q ext Es w0 s0 n) ∧ k + (N q ext Es w0 s0 n).length = (F q ext Es w0 s0 n).length + i ∧ (i < (N q ext Es w0 s0 n).length ∨ (N q ext Es w0 s0 n = [] ∧ i = 0 ∧ ∃ m, n = m + 1))
theorem F_end : ∀ n : Nat, ∃ S, (F q ext Es w0 s0) n = S ++ (N q ext Es w0 s0) n
  | 0 => ⟨[], rfl⟩
  | n + 1 => ⟨(F q ext Es w0 s0) n, F_succ n⟩
theorem At.init : At q ext Es w0 s0 [(w0, s0)] 0 := ⟨0, 0, rfl, rfl, .inl (Nat.zero_lt_one)⟩
theorem At.more {T : List (ω × σ)} {k : Nat} (x : At q ext Es w0 s0 T k) (h : k < T.length) : ∃ p, T[k]? = some p ∧ At q ext Es w0 s0 (((kids q ext Es) p).foldl addT T) (k + 1) := by
  obtain ⟨n, i, e, h1, h2⟩ := x
  obtain ⟨S, hS⟩ := F_end (q := q) (ext := ext) (Es := Es) (w0 := w0) (s0 := s0) n
  have hl := congrArg List.length hS
  rw [List.length_append] at hl
  rcases h2 with h2 | ⟨h2, h3, _⟩
  · have hp : ((N q ext Es w0 s0) n)[i]? = some (((N q ext Es w0 s0) n)[i]) := List.getElem?_eq_getElem h2
    generalize ((N q ext Es w0 s0) n)[i] = p at hp
    have hF : ((F q ext Es w0 s0) n)[k]? = some p := by
      rw [hS, List.getElem?_append_right (by omega)]
      rw [show k - S.length = i by omega]
      exact hp
    have hT : T[k]? = some p := by
      obtain ⟨R, hR⟩ := fold_pre (V := (((N q ext Es w0 s0) n).take i).flatMap (kids q ext Es)) (T := (F q ext Es w0 s0) n)
      rw [e, hR, List.getElem?_append_left (by omega)]
      exact hF
    refine ⟨p, hT, ?_⟩
    have htk : ((N q ext Es w0 s0) n).take (i + 1) = ((N q ext Es w0 s0) n).take i ++ [p] := by rw [List.take_add_one, hp]; rfl
    have e2 : ((kids q ext Es) p).foldl addT T = ((((N q ext Es w0 s0) n).take (i + 1)).flatMap (kids q ext Es)).foldl addT ((F q ext Es w0 s0) n) := by
      rw [htk, List.flatMap_append, List.foldl_append, ← e]
      simp
    rcases Nat.lt_or_ge (i + 1) ((N q ext Es w0 s0) n).length with z | z
    · exact ⟨n, i + 1, e2, by omega, .inl z⟩
    · have hi : i + 1 = ((N q ext Es w0 s0) n).length := by omega
      rw [hi, List.take_length, ← F_next] at e2
      have hs := congrArg List.length (F_succ (q := q) (ext := ext) (Es := Es) (w0 := w0) (s0 := s0) n)
      rw [List.length_append] at hs
      refine ⟨n + 1, 0, by rw [e2]; rfl, by omega, ?_⟩
      cases hN : (N q ext Es w0 s0) (n + 1) with
      | nil => exact .inr ⟨hN ▸ rfl, rfl, n, rfl⟩
      | cons _ _ => exact .inl (Nat.succ_pos _)
  · exfalso
    rw [h2, h3] at h1
    rw [h2] at e
    have : T.length = ((F q ext Es w0 s0) n).length := by rw [e]; simp
    simp at h1
    omega
theorem At.fin {T : List (ω × σ)} {k : Nat} (x : At q ext Es w0 s0 T k) (h : ¬ k < T.length) : ∃ n, T = (F q ext Es w0 s0) n ∧ (F q ext Es w0 s0) (n + 1) = (F q ext Es w0 s0) n := by
  obtain ⟨n, i, e, h1, h2⟩ := x
  rcases h2 with h2 | ⟨h2, h3, m, hm⟩
  · exfalso
    obtain ⟨R, hR⟩ := fold_pre (V := (((N q ext Es w0 s0) n).take i).flatMap (kids q ext Es)) (T := (F q ext Es w0 s0) n)
    have hl : T.length = ((F q ext Es w0 s0) n).length + R.length := by rw [e, hR, List.length_append]
    omega
  · subst hm
    have e2 : T = (F q ext Es w0 s0) (m + 1) := by rw [e, h2]; simp
    have e3 : (F q ext Es w0 s0) (m + 1) = (F q ext Es w0 s0) m := by rw [F_succ, h2, List.append_nil]
    exact ⟨m, by rw [e2, e3], e3⟩
theorem At.grow {T : List (ω × σ)} {k : Nat} (x : At q ext Es w0 s0 T k) : ∃ n, T <+: (F q ext Es w0 s0) n := by
  obtain ⟨n, i, e, h1, h2⟩ := x
  refine ⟨n + 1, ?_⟩
  rw [F_next, e]
  have hs : ((N q ext Es w0 s0) n).flatMap (kids q ext Es) = (((N q ext Es w0 s0) n).take i).flatMap (kids q ext Es) ++ (((N q ext Es w0 s0) n).drop i).flatMap (kids q ext Es) := by rw [← List.flatMap_append, List.take_append_drop]
  rw [hs, List.foldl_append]
  obtain ⟨R, hR⟩ := fold_pre (V := (((N q ext Es w0 s0) n).drop i).flatMap (kids q ext Es)) (T := ((((N q ext Es w0 s0) n).take i).flatMap (kids q ext Es)).foldl addT ((F q ext Es w0 s0) n))
  exact ⟨R, hR.symm⟩
end
end Fw
end

section
set_option Elab.async false
set_option linter.all false
set_option maxRecDepth 100000
set_option maxHeartbeats 2000000
/-! Hitting sets: how few do (greedily), and how many ways a search follows. Plain Lean. -/
namespace Hit
section
variable {α : Type} [DecidableEq α]
def Hits (wf : α → List α) (S hs : List α) : Prop := ∀ c ∈ hs, ∃ d ∈ S, d ∈ wf c
theorem nodup_le : ∀ {l U : List α}, l.Nodup → (∀ x ∈ l, x ∈ U) → l.length ≤ U.length
  | [], _, _, _ => Nat.zero_le _
  | x :: l, U, n, h => by
    obtain ⟨n1, n2⟩ := List.nodup_cons.mp n
    have hx : x ∈ U := h x List.mem_cons_self
    have ih := nodup_le (l := l) (U := U.erase x) n2 fun y hy => (List.mem_erase_of_ne (fun e => n1 (by rw [← e]; exact hy))).2 (h y (List.mem_cons_of_mem _ hy))
    have e := List.length_erase_of_mem hx
    have hp : 0 < U.length := List.length_pos_of_mem hx
    rw [List.length_cons]
    omega
def cnt (wf : α → List α) (hs : List α) (p : α) : Nat := (hs.filter fun c => decide (p ∈ wf c)).length
theorem sum_cons_ite (wf : α → List α) (c : α) (hs : List α) : ∀ U : List α, (U.map (cnt wf (c :: hs))).sum = (U.filter fun p => decide (p ∈ wf c)).length + (U.map (cnt wf hs)).sum
  | [] => rfl
  | p :: U => by
    have ih := sum_cons_ite wf c hs U
    rw [List.map_cons, List.map_cons, List.sum_cons, List.sum_cons, ih, List.filter_cons]
    unfold cnt
    rw [List.filter_cons]
    by_cases h : p ∈ wf c
    · rw [decide_eq_true h]
      simp only [if_true, List.length_cons]
      omega
    · rw [decide_eq_false h]
      simp only [Bool.false_eq_true, if_false]
      omega
theorem count_le {wf : α → List α} {U : List α} {b : Nat} : ∀ {hs : List α}, (∀ c ∈ hs, b ≤ (wf c).length ∧ (wf c).Nodup ∧ ∀ d ∈ wf c, d ∈ U) → b * hs.length ≤ (U.map (cnt wf hs)).sum
  | [], _ => Nat.zero_le _
  | c :: hs, h => by
    have ih := count_le (hs := hs) fun e he => h e (List.mem_cons_of_mem _ he)
    obtain ⟨h1, h2, h3⟩ := h c List.mem_cons_self
    have l : (wf c).length ≤ (U.filter fun p => decide (p ∈ wf c)).length := nodup_le h2 fun x hx => List.mem_filter.mpr ⟨h3 x hx, decide_eq_true hx⟩
    rw [sum_cons_ite, List.length_cons, Nat.mul_add, Nat.mul_one]
    omega
theorem sum_lt {f : α → Nat} {B : Nat} : ∀ {U : List α}, (∀ p ∈ U, 16 * f p + 1 ≤ B) → 16 * (U.map f).sum + U.length ≤ U.length * B
  | [], _ => by simp
  | p :: U, h => by
    have ih := sum_lt (U := U) fun q hq => h q (List.mem_cons_of_mem _ hq)
    have hp := h p List.mem_cons_self
    rw [List.map_cons, List.sum_cons, List.length_cons, Nat.add_mul, Nat.one_mul, Nat.mul_add]
    omega
/-- some prop helps many -/
theorem pick {wf : α → List α} {U : List α} {b : Nat} {hs : List α} (h0 : 0 < b * hs.length) (h : ∀ c ∈ hs, b ≤ (wf c).length ∧ (wf c).Nodup ∧ ∀ d ∈ wf c, d ∈ U) (hU : U.length ≤ 16) : ∃ p ∈ U, b * hs.length ≤ 16 * cnt wf hs p := by
  apply Classical.byContradiction
  intro n
  have hall : ∀ p ∈ U, 16 * cnt wf hs p + 1 ≤ b * hs.length := fun p hp => by
    rcases Nat.lt_or_ge (16 * cnt wf hs p) (b * hs.length) with q | q
    · exact q
    · exact absurd ⟨p, hp, q⟩ n
  have h1 := sum_lt hall
  have h2 := count_le h
  generalize b * hs.length = B at h0 h1 h2
  generalize (U.map (cnt wf hs)).sum = s at h1 h2
  have h3 : U.length * B ≤ 16 * (B - 1) + U.length := by
    obtain ⟨B', rfl⟩ : ∃ B', B = B' + 1 := ⟨B - 1, by omega⟩
    rw [Nat.mul_add, Nat.mul_one, Nat.add_sub_cancel]
    have := Nat.mul_le_mul_right B' hU
    omega
  omega
/-- so many do, if each has at least b helps -/
def G (b : Nat) : Nat → Nat → Nat
  | 0, _ => 0
  | f + 1, u => if u = 0 then 0 else 1 + G b f ((16 - b) * u / 16)
theorem G_mono (b : Nat) : ∀ (f : Nat) {v u : Nat}, v ≤ u → G b f v ≤ G b f u
  | 0, _, _, _ => Nat.le_refl _
  | f + 1, v, u, h => by
    unfold G
    by_cases hv : v = 0
    · rw [if_pos hv]
      exact Nat.zero_le _
    · rw [if_neg hv, if_neg (show ¬ u = 0 by omega)]
      have := G_mono b f (Nat.div_le_div_right (c := 16) (Nat.mul_le_mul_left (16 - b) h))
      omega
theorem filter_split (q : α → Bool) : ∀ l : List α, (l.filter fun c => !q c).length + (l.filter q).length = l.length
  | [] => rfl
  | x :: l => by
    have ih := filter_split q l
    rw [List.filter_cons, List.filter_cons]
    cases q x <;> simp <;> omega
theorem greedy {wf : α → List α} {U : List α} {b : Nat} (hb : 1 ≤ b) (hb16 : b ≤ 16) (hU : U.length ≤ 16) : ∀ (f : Nat) (hs : List α), hs.length ≤ f → (∀ c ∈ hs, b ≤ (wf c).length ∧ (wf c).Nodup ∧ ∀ d ∈ wf c, d ∈ U) → ∃ S, Hits wf S hs ∧ S.length ≤ G b f hs.length
  | f, [], _, _ => ⟨[], fun c h => absurd h List.not_mem_nil, Nat.zero_le _⟩
  | 0, c :: hs, hf, _ => by simp at hf
  | f + 1, c :: hs, hf, h => by
    generalize hl : c :: hs = l at hf h
    have hpos : 0 < l.length := by rw [← hl]; simp
    obtain ⟨p, hp, hc⟩ := pick (Nat.mul_pos hb hpos) h hU
    have hlen : (l.filter fun c => !decide (p ∈ wf c)).length + cnt wf l p = l.length := by
      unfold cnt
      exact filter_split (fun c => decide (p ∈ wf c)) l
    have hle : (l.filter fun c => !decide (p ∈ wf c)).length ≤ (16 - b) * l.length / 16 := by
      rw [Nat.le_div_iff_mul_le (by decide), Nat.sub_mul]
      omega
    have hcp : 0 < cnt wf l p := by
      have : 0 < b * l.length := Nat.mul_pos hb hpos
      omega
    obtain ⟨S, hS, hSl⟩ := greedy hb hb16 hU f (l.filter fun c => !decide (p ∈ wf c)) (by omega) fun e he => h e (List.mem_filter.mp he).1
    refine ⟨p :: S, fun e he => ?_, ?_⟩
    · by_cases z : p ∈ wf e
      · exact ⟨p, List.mem_cons_self, z⟩
      · obtain ⟨d, hd, hd2⟩ := hS e (List.mem_filter.mpr ⟨he, by rw [decide_eq_false z]; rfl⟩)
        exact ⟨d, List.mem_cons_of_mem _ hd, hd2⟩
    · have e1 : G b (f + 1) l.length = 1 + G b f ((16 - b) * l.length / 16) := by
        show (if l.length = 0 then 0 else 1 + G b f ((16 - b) * l.length / 16)) = _
        rw [if_neg (by omega)]
      rw [List.length_cons, e1]
      have := G_mono b f hle
      omega
end
/-! ### how many ways -/
def maxb (k j : Nat) : Nat := ((List.range 17).filter fun b => decide (1 ≤ b) && decide (b + j ≤ 16) && decide (k ≤ G b 16 (16 - j))).foldl max 0
def Lf : Nat → Nat → Nat
  | 0, _ => 1
  | k + 1, j => maxb (k + 1) j * Lf k (j + 1)
theorem foldl_max : ∀ (l : List Nat) (a : Nat), a ≤ l.foldl max a ∧ ∀ b ∈ l, b ≤ l.foldl max a
  | [], a => ⟨Nat.le_refl _, fun b h => by cases h⟩
  | x :: l, a => by
    obtain ⟨h1, h2⟩ := foldl_max l (max a x)
    rw [List.foldl_cons]
    refine ⟨Nat.le_trans (Nat.le_max_left _ _) h1, fun b hb => ?_⟩
    rcases List.mem_cons.mp hb with e | e
    · rw [e]; exact Nat.le_trans (Nat.le_max_right _ _) h1
    · exact h2 b e
theorem le_maxb {k j b : Nat} (h1 : 1 ≤ b) (h2 : b + j ≤ 16) (h3 : k ≤ G b 16 (16 - j)) : b ≤ maxb k j :=
  (foldl_max _ 0).2 b (List.mem_filter.mpr ⟨List.mem_range.mpr (by omega), by rw [decide_eq_true h1, decide_eq_true h2, decide_eq_true h3]; rfl⟩)
theorem Lf_all : ∀ k : Nat, k < 17 → ∀ j : Nat, j < 17 → k + j ≤ 16 → Lf k j ≤ 8294400 := by decide +kernel
theorem Lf_le {k j : Nat} (h : k + j ≤ 16) : Lf k j ≤ 8294400 := Lf_all k (by omega) j (by omega) h
/-- one step's ways -/
theorem Lf_step {α : Type} [DecidableEq α] {wf : α → List α} {U hs : List α} {k j b : Nat} (hU : U.length ≤ 16) (h1 : 1 ≤ b) (h2 : b + j ≤ 16) (hl : hs.length + j ≤ 16) (h : ∀ c ∈ hs, b ≤ (wf c).length ∧ (wf c).Nodup ∧ ∀ d ∈ wf c, d ∈ U)
    (hm : ∀ S, Hits wf S hs → k + 1 ≤ S.length) : b * Lf k (j + 1) ≤ Lf (k + 1) j := by
  obtain ⟨S, hS, hSl⟩ := greedy h1 (by omega) hU 16 hs (by omega) h
  have hk := hm S hS
  have hg := G_mono b 16 (show hs.length ≤ 16 - j by omega)
  exact Nat.mul_le_mul_right _ (le_maxb h1 h2 (by omega))
/-! ### the search -/
section
variable {α : Type} [DecidableEq α]
/-- what the search keeps: the props set are apart from what still hangs -/
structure Kept (wf : α → List α) (U hs props : List α) : Prop where
  u16 : U.length ≤ 16
  ok : ∀ c ∈ hs, 1 ≤ (wf c).length ∧ (wf c).Nodup ∧ ∀ d ∈ wf c, d ∈ U
  nd : props.Nodup
  pu : ∀ p ∈ props, p ∈ U
  ap : ∀ c ∈ hs, ∀ p ∈ props, p ∉ wf c
  hl : hs.length + props.length ≤ 16
abbrev still (wf : α → List α) (p : α) (hs : List α) : List α := hs.filter fun c => !decide (p ∈ wf c)
theorem mem_still {wf : α → List α} {p c : α} {hs : List α} : c ∈ still wf p hs ↔ c ∈ hs ∧ p ∉ wf c := by
  unfold still
  rw [List.mem_filter]
  constructor
  · rintro ⟨h1, h2⟩
    exact ⟨h1, fun z => by rw [decide_eq_true z] at h2; cases h2⟩
  · rintro ⟨h1, h2⟩
    exact ⟨h1, by rw [decide_eq_false h2]; rfl⟩
theorem still_lt {wf : α → List α} {p c : α} {hs : List α} (hc : c ∈ hs) (hp : p ∈ wf c) : (still wf p hs).length + 1 ≤ hs.length := by
  have h := filter_split (fun c => decide (p ∈ wf c)) hs
  have : 0 < (hs.filter fun c => decide (p ∈ wf c)).length := List.length_pos_of_mem (List.mem_filter.mpr ⟨hc, decide_eq_true hp⟩)
  unfold still
  omega
theorem Kept.step {wf : α → List α} {U hs props : List α} (k : Kept wf U hs props) {c p : α} (hc : c ∈ hs) (hp : p ∈ wf c) : Kept wf U (still wf p hs) (props ++ [p]) where
  u16 := k.u16
  ok := fun e he => k.ok e (mem_still.mp he).1
  nd := by
    refine List.nodup_append.mpr ⟨k.nd, by simp, fun a ha b hb e => ?_⟩
    rw [List.mem_singleton.mp hb] at e
    exact k.ap c hc a ha (by rw [e]; exact hp)
  pu := fun q hq => by
    rcases List.mem_append.mp hq with z | z
    · exact k.pu q z
    · rw [List.mem_singleton.mp z]
      exact (k.ok c hc).2.2 p hp
  ap := fun e he q hq => by
    obtain ⟨h1, h2⟩ := mem_still.mp he
    rcases List.mem_append.mp hq with z | z
    · exact k.ap e h1 q z
    · rw [List.mem_singleton.mp z]
      exact h2
  hl := by
    have := still_lt hc hp
    have := k.hl
    rw [List.length_append]
    show _ + (_ + 1) ≤ 16
    omega
theorem Kept.room {wf : α → List α} {U hs props : List α} (k : Kept wf U hs props) {c : α} (hc : c ∈ hs) : (wf c).length + props.length ≤ 16 := by
  have h := nodup_le (l := wf c ++ props) (U := U) (List.nodup_append.mpr ⟨(k.ok c hc).2.1, k.nd, fun a ha b hb e => k.ap c hc b hb (by rw [← e]; exact ha)⟩) fun x hx => by
    rcases List.mem_append.mp hx with z | z
    · exact (k.ok c hc).2.2 x z
    · exact k.pu x z
  rw [List.length_append] at h
  have := k.u16
  omega
/-- so many lists that do, and all that do -/
structure AllOk (wf : α → List α) (hs props : List α) (m : Nat) (Ws : List (List α)) : Prop where
  sound : ∀ W ∈ Ws, ∃ ext, ext.length ≤ m ∧ W.Perm (props ++ ext) ∧ Hits wf ext hs ∧ ∀ d ∈ ext, ∃ c ∈ hs, d ∈ wf c
  full : ∀ S : List α, S.length ≤ m → Hits wf S hs → ∃ W ∈ Ws, ∃ ext, ext.length ≤ m ∧ W.Perm (props ++ ext) ∧ (∀ d ∈ ext, d ∈ S) ∧ Hits wf ext hs
  few : Ws.length ≤ Lf m props.length
theorem AllOk.nil {wf : α → List α} {props W : List α} {m : Nat} (hm : ∀ S, Hits wf S [] → m ≤ S.length) (hW : W.Perm props) : AllOk wf [] props m [W] := by
  have h0 : m = 0 := by
    have : m ≤ 0 := hm [] fun c h => absurd h List.not_mem_nil
    omega
  subst h0
  have hp : W.Perm (props ++ []) := by rw [List.append_nil]; exact hW
  exact ⟨fun V hV => ⟨[], Nat.le_refl _, by rw [List.mem_singleton.mp hV]; exact hp, fun c h => absurd h List.not_mem_nil, fun d h => absurd h List.not_mem_nil⟩,
    fun S _ _ => ⟨W, List.mem_singleton.mpr rfl, [], Nat.le_refl _, hp, fun d h => absurd h List.not_mem_nil, fun c h => absurd h List.not_mem_nil⟩, Nat.le_refl _⟩
theorem AllOk.zero {wf : α → List α} {hs props : List α} (h : hs ≠ []) : AllOk wf hs props 0 [] := by
  refine ⟨fun V hV => (by cases hV), fun S hS hh => ?_, Nat.zero_le _⟩
  have e : S = [] := List.length_eq_zero_iff.mp (Nat.le_zero.mp hS)
  subst e
  cases hs with
  | nil => exact absurd rfl h
  | cons c hs =>
    obtain ⟨d, hd, _⟩ := hh c List.mem_cons_self
    cases hd
/-- when some of the helps have been followed -/
structure PartOk (wf : α → List α) (hs props : List α) (m : Nat) (ps : List α) (Ws : List (List α)) : Prop where
  sound : ∀ W ∈ Ws, ∃ ext, ext.length ≤ m + 1 ∧ W.Perm (props ++ ext) ∧ Hits wf ext hs ∧ ∀ d ∈ ext, ∃ c ∈ hs, d ∈ wf c
  full : ∀ p ∈ ps, ∀ S : List α, S.length ≤ m → Hits wf S (still wf p hs) → ∃ W ∈ Ws, ∃ ext, ext.length ≤ m ∧ W.Perm (props ++ p :: ext) ∧ (∀ d ∈ ext, d ∈ S) ∧ Hits wf ext (still wf p hs)
  few : Ws.length ≤ ps.length * Lf m (props.length + 1)
theorem PartOk.nil {wf : α → List α} {hs props : List α} {m : Nat} : PartOk wf hs props m [] [] :=
  ⟨fun V hV => (by cases hV), fun p hp => (by cases hp), Nat.zero_le _⟩
theorem hits_cons {wf : α → List α} {hs ext : List α} {p : α} (h : Hits wf ext (still wf p hs)) : Hits wf (p :: ext) hs := fun e he => by
  by_cases z : p ∈ wf e
  · exact ⟨p, List.mem_cons_self, z⟩
  · obtain ⟨d, h1, h2⟩ := h e (mem_still.mpr ⟨he, z⟩)
    exact ⟨d, List.mem_cons_of_mem _ h1, h2⟩
theorem PartOk.snoc {wf : α → List α} {hs props ps : List α} {m : Nat} {Ws Vs : List (List α)} {p c : α} (hc : c ∈ hs) (hpc : p ∈ wf c) (x : PartOk wf hs props m ps Ws) (y : AllOk wf (still wf p hs) (props ++ [p]) m Vs) : PartOk wf hs props m (ps ++ [p]) (Ws ++ Vs) := by
  have eq : ∀ ext : List α, props ++ [p] ++ ext = props ++ p :: ext := fun ext => by rw [List.append_assoc]; rfl
  refine ⟨fun W hW => ?_, fun q hq S hS hh => ?_, ?_⟩
  · rcases List.mem_append.mp hW with z | z
    · exact x.sound W z
    · obtain ⟨ext, h1, h2, h3, h4⟩ := y.sound W z
      rw [eq] at h2
      refine ⟨p :: ext, by rw [List.length_cons]; omega, h2, hits_cons h3, fun d hd => ?_⟩
      rcases List.mem_cons.mp hd with e | e
      · rw [e]; exact ⟨c, hc, hpc⟩
      · obtain ⟨c', h5, h6⟩ := h4 d e
        exact ⟨c', (mem_still.mp h5).1, h6⟩
  · rcases List.mem_append.mp hq with z | z
    · obtain ⟨W, h1, h2⟩ := x.full q z S hS hh
      exact ⟨W, List.mem_append_left _ h1, h2⟩
    · have e := List.mem_singleton.mp z
      subst e
      obtain ⟨W, h1, ext, h2, h3, h4, h5⟩ := y.full S hS hh
      rw [eq] at h3
      exact ⟨W, List.mem_append_right _ h1, ext, h2, h3, h4, h5⟩
  · have h1 := x.few
    have h2 := y.few
    rw [List.length_append] at h2 ⊢
    rw [List.length_append, Nat.add_mul]
    show _ ≤ _ + 1 * _
    rw [Nat.one_mul]
    have : (props.length + [p].length) = props.length + 1 := rfl
    rw [this] at h2
    omega
theorem PartOk.all {wf : α → List α} {U hs props : List α} {m : Nat} {Ws : List (List α)} {c : α} (k : Kept wf U hs props) (hc : c ∈ hs) (hl : ∀ e ∈ hs, (wf c).length ≤ (wf e).length) (hm : ∀ S, Hits wf S hs → m + 1 ≤ S.length) (x : PartOk wf hs props m (wf c) Ws) : AllOk wf hs props (m + 1) Ws := by
  refine ⟨x.sound, fun S hS hh => ?_, ?_⟩
  · obtain ⟨p, hp, hpc⟩ := hh c hc
    have hlen := List.length_erase_of_mem hp
    obtain ⟨W, h1, ext, h2, h3, h4, h5⟩ := x.full p hpc (S.erase p) (by omega) fun e he => by
      obtain ⟨g1, g2⟩ := mem_still.mp he
      obtain ⟨d, d1, d2⟩ := hh e g1
      exact ⟨d, (List.mem_erase_of_ne (fun z => g2 (by rw [← z]; exact d2))).2 d1, d2⟩
    refine ⟨W, h1, p :: ext, by rw [List.length_cons]; omega, h3, fun d hd => ?_, hits_cons h5⟩
    rcases List.mem_cons.mp hd with z | z
    · rw [z]; exact hp
    · exact List.mem_of_mem_erase (h4 d z)
  · exact Nat.le_trans x.few (Lf_step k.u16 (k.ok c hc).1 (k.room hc) k.hl (fun e he => ⟨hl e he, (k.ok e he).2⟩) hm)
/-- what is asked of the search behind a prop -/
theorem min_still {wf : α → List α} {hs : List α} {m : Nat} {p : α} (hm : ∀ S, Hits wf S hs → m + 1 ≤ S.length) : ∀ S, Hits wf S (still wf p hs) → m ≤ S.length := fun S hS => by
  have h := hm (p :: S) (hits_cons hS)
  rw [List.length_cons] at h
  omega
end
end Hit
end

section
set_option Elab.async false
set_option linter.all false
set_option maxRecDepth 100000
set_option maxHeartbeats 2000000
/-! The order of rising lists of one length is that of the least element in which they differ; so unions keep it. Plain Lean. -/
namespace Srt
section
variable {α : Type} {lt : α → α → Prop}
structure Lin (lt : α → α → Prop) : Prop where
  irr : ∀ a, ¬ lt a a
  tr : ∀ a b c, lt a b → lt b c → lt a c
  tri : ∀ a b, lt a b ∨ a = b ∨ lt b a
def Lex (lt : α → α → Prop) : List α → List α → Prop
  | [], [] => False
  | [], _ :: _ => True
  | _ :: _, [] => False
  | a :: as, b :: bs => lt a b ∨ (a = b ∧ Lex lt as bs)
abbrev Asc (lt : α → α → Prop) (l : List α) : Prop := l.Pairwise lt
/-- x is the least in which they differ, and it is A's -/
def Dif (lt : α → α → Prop) (A B : List α) : Prop := ∃ x, x ∈ A ∧ x ∉ B ∧ ∀ y, lt y x → (y ∈ A ↔ y ∈ B)
theorem dif_of_lex (L : Lin lt) : ∀ {A B : List α}, Asc lt A → Asc lt B → A.length = B.length → Lex lt A B → Dif lt A B
  | [], [], _, _, _, h => h.elim
  | [], _ :: _, _, _, hl, _ => by simp at hl
  | _ :: _, [], _, _, hl, _ => by simp at hl
  | a :: A, b :: B, hA, hB, hl, h => by
    obtain ⟨a1, a2⟩ := List.pairwise_cons.mp hA
    obtain ⟨b1, b2⟩ := List.pairwise_cons.mp hB
    rcases h with h | ⟨e, h⟩
    · refine ⟨a, List.mem_cons_self, fun m => ?_, fun y hy => ⟨fun m => ?_, fun m => ?_⟩⟩
      · rcases List.mem_cons.mp m with z | z
        · rw [z] at h; exact L.irr _ h
        · exact L.irr _ (L.tr _ _ _ h (b1 a z))
      · rcases List.mem_cons.mp m with z | z
        · rw [z] at hy; exact absurd hy (L.irr _)
        · exact absurd (L.tr _ _ _ hy (a1 y z)) (L.irr _)
      · rcases List.mem_cons.mp m with z | z
        · rw [z] at hy; exact absurd (L.tr _ _ _ hy h) (L.irr _)
        · exact absurd (L.tr _ _ _ (L.tr _ _ _ hy h) (b1 y z)) (L.irr _)
    · subst e
      obtain ⟨x, x1, x2, x3⟩ := dif_of_lex L a2 b2 (by simpa using hl) h
      refine ⟨x, List.mem_cons_of_mem _ x1, fun m => ?_, fun y hy => ?_⟩
      · rcases List.mem_cons.mp m with z | z
        · have := a1 x x1
          rw [z] at this
          exact L.irr _ this
        · exact x2 z
      · rw [List.mem_cons, List.mem_cons, x3 y hy]
theorem lex_of_dif (L : Lin lt) : ∀ {A B : List α}, Asc lt A → Asc lt B → A.length = B.length → Dif lt A B → Lex lt A B
  | [], _, _, _, _, ⟨x, x1, _⟩ => by cases x1
  | _ :: _, [], _, _, hl, _ => by simp at hl
  | a :: A, b :: B, hA, hB, hl, ⟨x, x1, x2, x3⟩ => by
    obtain ⟨a1, a2⟩ := List.pairwise_cons.mp hA
    obtain ⟨b1, b2⟩ := List.pairwise_cons.mp hB
    rcases L.tri a b with h | h | h
    · exact .inl h
    · subst h
      refine .inr ⟨rfl, lex_of_dif L a2 b2 (by simpa using hl) ⟨x, ?_, fun m => x2 (List.mem_cons_of_mem _ m), fun y hy => ?_⟩⟩
      · rcases List.mem_cons.mp x1 with z | z
        · exact absurd (by rw [z]; exact List.mem_cons_self) x2
        · exact z
      · have h3 := x3 y hy
        rw [List.mem_cons, List.mem_cons] at h3
        constructor
        · intro m
          rcases h3.mp (.inr m) with z | z
          · have := a1 y m
            rw [z] at this
            exact absurd this (L.irr _)
          · exact z
        · intro m
          rcases h3.mpr (.inr m) with z | z
          · have := b1 y m
            rw [z] at this
            exact absurd this (L.irr _)
          · exact z
    · have bn : b ∉ a :: A := fun m => by
        rcases List.mem_cons.mp m with z | z
        · rw [z] at h; exact L.irr _ h
        · exact L.irr _ (L.tr _ _ _ h (a1 b z))
      have xb : ¬ lt b x := fun z => bn ((x3 b z).mpr List.mem_cons_self)
      have ax : x = a ∨ lt a x := by
        rcases List.mem_cons.mp x1 with z | z
        · exact .inl z
        · exact .inr (a1 x z)
      rcases ax with z | z
      · rw [z] at xb; exact absurd h xb
      · exact absurd (L.tr _ _ _ h z) xb
/-- with the same more, apart from both -/
theorem lex_union (L : Lin lt) {A B C AC BC : List α} (hA : Asc lt A) (hB : Asc lt B) (hl : A.length = B.length) (hAC : Asc lt AC) (hBC : Asc lt BC) (hlC : AC.length = BC.length) (mA : ∀ x, x ∈ AC ↔ x ∈ A ∨ x ∈ C) (mB : ∀ x, x ∈ BC ↔ x ∈ B ∨ x ∈ C) (ap : ∀ x ∈ A, x ∉ C)
    (h : Lex lt A B) : Lex lt AC BC := by
  obtain ⟨x, x1, x2, x3⟩ := dif_of_lex L hA hB hl h
  refine lex_of_dif L hAC hBC hlC ⟨x, (mA x).mpr (.inl x1), fun m => ?_, fun y hy => ?_⟩
  · rcases (mB x).mp m with z | z
    · exact x2 z
    · exact ap x x1 z
  · rw [mA y, mB y, x3 y hy]
theorem lex_tri (L : Lin lt) : ∀ {A B : List α}, A.length = B.length → Lex lt A B ∨ A = B ∨ Lex lt B A
  | [], [], _ => .inr (.inl rfl)
  | [], _ :: _, h => by simp at h
  | _ :: _, [], h => by simp at h
  | a :: A, b :: B, h => by
    rcases L.tri a b with z | z | z
    · exact .inl (.inl z)
    · subst z
      rcases lex_tri L (A := A) (B := B) (by simpa using h) with y | y | y
      · exact .inl (.inr ⟨rfl, y⟩)
      · exact .inr (.inl (by rw [y]))
      · exact .inr (.inr (.inr ⟨rfl, y⟩))
    · exact .inr (.inr (.inl z))
theorem lex_trans (L : Lin lt) : ∀ {A B C : List α}, Lex lt A B → Lex lt B C → Lex lt A C
  | [], [], _, h, _ => h.elim
  | [], _ :: _, [], _, h => h.elim
  | [], _ :: _, _ :: _, _, _ => trivial
  | _ :: _, [], _, h, _ => h.elim
  | _ :: _, _ :: _, [], _, h => h.elim
  | a :: A, b :: B, c :: C, h1, h2 => by
    rcases h1 with h1 | ⟨e1, h1⟩
    · rcases h2 with h2 | ⟨e2, h2⟩
      · exact .inl (L.tr _ _ _ h1 h2)
      · rw [← e2]; exact .inl h1
    · rcases h2 with h2 | ⟨e2, h2⟩
      · rw [e1]; exact .inl h2
      · exact .inr ⟨e1.trans e2, lex_trans L h1 h2⟩
theorem lex_irr (L : Lin lt) : ∀ {A : List α}, ¬ Lex lt A A
  | [], h => h
  | _ :: _, h => by
    rcases h with h | ⟨_, h⟩
    · exact L.irr _ h
    · exact lex_irr L h
/-- rising lists with the same members are the same -/
theorem asc_ext (L : Lin lt) {A B : List α} (hA : Asc lt A) (hB : Asc lt B) (hl : A.length = B.length) (h : ∀ x, x ∈ A ↔ x ∈ B) : A = B := by
  rcases lex_tri L hl with z | z | z
  · obtain ⟨x, x1, x2, _⟩ := dif_of_lex L hA hB hl z
    exact absurd ((h x).mp x1) x2
  · exact z
  · obtain ⟨x, x1, x2, _⟩ := dif_of_lex L hB hA hl.symm z
    exact absurd ((h x).mpr x1) x2
end
end Srt
end

section
set_option Elab.async false
set_option linter.all false
set_option maxRecDepth 100000
set_option maxHeartbeats 2000000
/-! The best hitting sets (fewest, then least cost, then first), and how they come from pieces. Plain Lean. -/
namespace Srt
open Hit
section
variable {α : Type} [DecidableEq α] {lt : α → α → Prop} {wf : α → List α} {cost : α → Nat}
def csum (cost : α → Nat) (W : List α) : Nat := (W.map cost).sum
structure Best (lt : α → α → Prop) (wf : α → List α) (cost : α → Nat) (hs W : List α) : Prop where
  asc : Asc lt W
  hit : Hits wf W hs
  few : ∀ S, Hits wf S hs → W.length ≤ S.length
  least : ∀ V, Asc lt V → Hits wf V hs → V.length = W.length → csum cost W ≤ csum cost V ∧ (csum cost V = csum cost W → V = W ∨ Lex lt W V)
theorem Best.unique (L : Lin lt) {hs W V : List α} (x : Best lt wf cost hs W) (y : Best lt wf cost hs V) : V = W := by
  have h1 := x.few V y.hit
  have h2 := y.few W x.hit
  obtain ⟨a1, a2⟩ := x.least V y.asc y.hit (by omega)
  obtain ⟨b1, b2⟩ := y.least W x.asc x.hit (by omega)
  rcases a2 (by omega) with e | e
  · exact e
  · rcases b2 (by omega) with e2 | e2
    · exact e2.symm
    · exact absurd (lex_trans L e e2) (lex_irr L)
/-- none of its props is idle -/
theorem Best.used {hs W : List α} (x : Best lt wf cost hs W) {p : α} (hp : p ∈ W) : ∃ c ∈ hs, p ∈ wf c := by
  apply Classical.byContradiction
  intro n
  have h := x.few (W.erase p) fun c hc => by
    obtain ⟨d, d1, d2⟩ := x.hit c hc
    exact ⟨d, (List.mem_erase_of_ne (fun e => n ⟨c, hc, by rw [← e]; exact d2⟩)).2 d1, d2⟩
  have e := List.length_erase_of_mem hp
  have := List.length_pos_of_mem hp
  omega
theorem csum_split (q : α → Bool) : ∀ l : List α, csum cost l = csum cost (l.filter q) + csum cost (l.filter fun x => !q x)
  | [] => rfl
  | x :: l => by
    have ih := csum_split q l
    unfold csum at ih ⊢
    rw [List.filter_cons, List.filter_cons]
    cases q x <;> simp <;> omega
theorem csum_perm {l m : List α} (h : l.Perm m) : csum cost l = csum cost m := (h.map cost).sum_nat
theorem best_nil (L : Lin lt) : Best lt wf cost [] [] := ⟨.nil, fun c h => absurd h List.not_mem_nil, fun S _ => Nat.zero_le _, fun V _ _ hl => by
  have e : V = [] := List.length_eq_zero_iff.mp hl
  subst e
  exact ⟨Nat.le_refl _, fun _ => .inl rfl⟩⟩
/-- two pieces apart -/
theorem best_union (L : Lin lt) {hs h1 h2 W W1 W2 : List α} {U : α → Prop} [DecidablePred U] (mh : ∀ c, c ∈ hs ↔ c ∈ h1 ∨ c ∈ h2) (u1 : ∀ c ∈ h1, ∀ d ∈ wf c, U d) (u2 : ∀ c ∈ h2, ∀ d ∈ wf c, ¬ U d) (x1 : Best lt wf cost h1 W1) (x2 : Best lt wf cost h2 W2) (hW : Asc lt W) (pW : W.Perm (W1 ++ W2)) : Best lt wf cost hs W := by
  have mW : ∀ x, x ∈ W ↔ x ∈ W1 ∨ x ∈ W2 := fun x => by rw [pW.mem_iff, List.mem_append]
  have w1 : ∀ x ∈ W1, U x := fun x hx => by obtain ⟨c, hc, hd⟩ := x1.used hx; exact u1 c hc x hd
  have w2 : ∀ x ∈ W2, ¬ U x := fun x hx => by obtain ⟨c, hc, hd⟩ := x2.used hx; exact u2 c hc x hd
  have lW : W.length = W1.length + W2.length := by rw [pW.length_eq, List.length_append]
  have part : ∀ S, Hits wf S hs → Hits wf (S.filter fun x => decide (U x)) h1 ∧ Hits wf (S.filter fun x => !decide (U x)) h2 := fun S hS =>
    ⟨fun c hc => by
      obtain ⟨d, d1, d2⟩ := hS c ((mh c).mpr (.inl hc))
      exact ⟨d, List.mem_filter.mpr ⟨d1, decide_eq_true (u1 c hc d d2)⟩, d2⟩,
    fun c hc => by
      obtain ⟨d, d1, d2⟩ := hS c ((mh c).mpr (.inr hc))
      exact ⟨d, List.mem_filter.mpr ⟨d1, by rw [decide_eq_false (u2 c hc d d2)]; rfl⟩, d2⟩⟩
  refine ⟨hW, fun c hc => ?_, fun S hS => ?_, fun V aV hV lV => ?_⟩
  · rcases (mh c).mp hc with z | z
    · obtain ⟨d, d1, d2⟩ := x1.hit c z
      exact ⟨d, (mW d).mpr (.inl d1), d2⟩
    · obtain ⟨d, d1, d2⟩ := x2.hit c z
      exact ⟨d, (mW d).mpr (.inr d1), d2⟩
  · obtain ⟨p1, p2⟩ := part S hS
    have a1 := x1.few _ p1
    have a2 := x2.few _ p2
    have a3 := filter_split (fun x => decide (U x)) S
    omega
  · obtain ⟨p1, p2⟩ := part V hV
    have a1 := x1.few _ p1
    have a2 := x2.few _ p2
    have a3 := filter_split (fun x => decide (U x)) V
    have v1 : Asc lt (V.filter fun x => decide (U x)) := aV.sublist List.filter_sublist
    have v2 : Asc lt (V.filter fun x => !decide (U x)) := aV.sublist List.filter_sublist
    obtain ⟨b1, b2⟩ := x1.least _ v1 p1 (by omega)
    obtain ⟨c1, c2⟩ := x2.least _ v2 p2 (by omega)
    have e1 := csum_split (cost := cost) (fun x => decide (U x)) V
    have e2 : csum cost W = csum cost W1 + csum cost W2 := by
      rw [csum_perm pW]
      unfold csum
      rw [List.map_append, List.sum_append]
    refine ⟨by omega, fun he => ?_⟩
    have mV : ∀ x, x ∈ V ↔ x ∈ (V.filter fun x => decide (U x)) ∨ x ∈ (V.filter fun x => !decide (U x)) := fun x => by
      rw [List.mem_filter, List.mem_filter]
      by_cases hu : U x
      · rw [decide_eq_true hu]; simp
      · rw [decide_eq_false hu]; simp
    have n1 : ∀ x ∈ (V.filter fun x => decide (U x)), U x := fun x hx => of_decide_eq_true (List.mem_filter.mp hx).2
    have n2 : ∀ x ∈ (V.filter fun x => !decide (U x)), ¬ U x := fun x hx hu => by
      have := (List.mem_filter.mp hx).2
      rw [decide_eq_true hu] at this
      cases this
    have f1 := b2 (by omega)
    have f2 := c2 (by omega)
    generalize (V.filter fun x => decide (U x)) = V1 at *
    generalize (V.filter fun x => !decide (U x)) = V2 at *
    have g1 : (∀ y, y ∈ W1 ↔ y ∈ V1) ∨ Dif lt W1 V1 := f1.elim (fun e => .inl fun y => by rw [e]) fun h => .inr (dif_of_lex L x1.asc v1 (by omega) h)
    have g2 : (∀ y, y ∈ W2 ↔ y ∈ V2) ∨ Dif lt W2 V2 := f2.elim (fun e => .inl fun y => by rw [e]) fun h => .inr (dif_of_lex L x2.asc v2 (by omega) h)
    have key : ∀ x, (x ∈ W1 ∧ x ∉ V1) ∨ (x ∈ W2 ∧ x ∉ V2) → (∀ y, lt y x → (y ∈ W1 ↔ y ∈ V1)) → (∀ y, lt y x → (y ∈ W2 ↔ y ∈ V2)) → Lex lt W V := fun x hx h1 h2 => by
      refine lex_of_dif L hW aV (by omega) ⟨x, (mW x).mpr (hx.imp (·.1) (·.1)), fun m => ?_, fun y hy => by rw [mW y, mV y, h1 y hy, h2 y hy]⟩
      rcases (mV x).mp m with z | z
      · rcases hx with q | q
        · exact q.2 z
        · exact w2 x q.1 (n1 x z)
      · rcases hx with q | q
        · exact n2 x z (w1 x q.1)
        · exact q.2 z
    rcases g1 with g1 | ⟨x, hx1, hx2, hx3⟩
    · rcases g2 with g2 | ⟨y, hy1, hy2, hy3⟩
      · exact .inl (asc_ext L aV hW (by omega) fun z => by rw [mW z, mV z, g1 z, g2 z])
      · exact .inr (key y (.inr ⟨hy1, hy2⟩) (fun z _ => g1 z) hy3)
    · rcases g2 with g2 | ⟨y, hy1, hy2, hy3⟩
      · exact .inr (key x (.inl ⟨hx1, hx2⟩) hx3 (fun z _ => g2 z))
      · rcases L.tri x y with z | z | z
        · exact .inr (key x (.inl ⟨hx1, hx2⟩) hx3 fun w hw => hy3 w (L.tr _ _ _ hw z))
        · rw [z] at hx1
          exact absurd (w1 y hx1) (w2 y hy1)
        · exact .inr (key y (.inr ⟨hy1, hy2⟩) (fun w hw => hx3 w (L.tr _ _ _ hw z)) hy3)
end
end Srt
end

section
set_option Elab.async false
set_option linter.all false
set_option maxRecDepth 100000
set_option maxHeartbeats 2000000
/-! Cells moved to the corner, turned by quarters: the 24 turnings. Plain Lean. -/
namespace Ly
/-! ### the least -/
def lo (f : C3 → Int) : List C3 → Int
  | [] => 0
  | c :: l => l.foldl (fun m d => min m (f d)) (f c)
theorem lo_fold (f : C3 → Int) : ∀ (l : List C3) (m : Int), (l.foldl (fun m d => min m (f d)) m = m ∨ ∃ d ∈ l, l.foldl (fun m d => min m (f d)) m = f d) ∧ l.foldl (fun m d => min m (f d)) m ≤ m ∧ ∀ d ∈ l, l.foldl (fun m d => min m (f d)) m ≤ f d
  | [], m => ⟨.inl rfl, Int.le_refl _, fun d h => by cases h⟩
  | c :: l, m => by
    obtain ⟨h1, h2, h3⟩ := lo_fold f l (min m (f c))
    rw [List.foldl_cons]
    refine ⟨?_, by omega, fun d hd => ?_⟩
    · rcases h1 with h | ⟨d, hd, h⟩
      · rw [h]
        by_cases z : m ≤ f c
        · exact .inl (by omega)
        · exact .inr ⟨c, List.mem_cons_self, by omega⟩
      · exact .inr ⟨d, List.mem_cons_of_mem _ hd, h⟩
    · rcases List.mem_cons.mp hd with e | hd
      · rw [e]; omega
      · exact h3 d hd
theorem lo_spec (f : C3 → Int) {cs : List C3} (h : cs ≠ []) : (∃ c ∈ cs, f c = lo f cs) ∧ ∀ c ∈ cs, lo f cs ≤ f c := by
  cases cs with
  | nil => exact absurd rfl h
  | cons c l =>
    obtain ⟨h1, h2, h3⟩ := lo_fold f l (f c)
    refine ⟨?_, fun d hd => ?_⟩
    · rcases h1 with h | ⟨d, hd, h⟩
      · exact ⟨c, List.mem_cons_self, h.symm⟩
      · exact ⟨d, List.mem_cons_of_mem _ hd, h.symm⟩
    · rcases List.mem_cons.mp hd with e | hd
      · rw [e]; exact h2
      · exact h3 d hd
theorem lo_is {f : C3 → Int} {cs : List C3} {m : Int} (h1 : ∃ c ∈ cs, f c = m) (h2 : ∀ c ∈ cs, m ≤ f c) : lo f cs = m := by
  obtain ⟨c, hc, e⟩ := h1
  obtain ⟨⟨d, hd, e2⟩, h3⟩ := lo_spec f (cs := cs) (fun z => by rw [z] at hc; cases hc)
  have a1 := h2 d hd
  have a2 := h3 c hc
  omega
theorem lo_perm {f : C3 → Int} {cs ds : List C3} (h : cs.Perm ds) : lo f cs = lo f ds := by
  by_cases e : ds = []
  · subst e
    rw [h.eq_nil]
  · obtain ⟨⟨d, hd, e2⟩, h3⟩ := lo_spec f e
    exact lo_is ⟨d, h.mem_iff.mpr hd, e2⟩ fun c hc => h3 c (h.mem_iff.mp hc)
def lox (cs : List C3) : Int := lo (fun c => c.1) cs
def loy (cs : List C3) : Int := lo (fun c => c.2.1) cs
def loz (cs : List C3) : Int := lo (fun c => c.2.2) cs
def off (cs : List C3) : C3 := (-lox cs, -loy cs, -loz cs)
def corner (cs : List C3) : List C3 := cs.map (add3 (off cs))
theorem add3_add3 (d e c : C3) : add3 d (add3 e c) = add3 (add3 d e) c := by
  unfold add3
  refine c3_ext ?_ ?_ ?_ <;> simp only <;> omega
theorem add3_inj {d a b : C3} (h : add3 d a = add3 d b) : a = b := by
  unfold add3 at h
  injection h with h1 h2
  injection h2 with h2 h3
  exact c3_ext (by omega) (by omega) (by omega)
theorem corner_nodup {cs : List C3} (h : cs.Nodup) : (corner cs).Nodup := h.map _ fun a b ne e => ne (add3_inj e)
theorem corner_perm {cs ds : List C3} (h : cs.Perm ds) : (corner cs).Perm (corner ds) := by
  unfold corner off lox loy loz
  rw [lo_perm h, lo_perm h, lo_perm h]
  exact h.map _
theorem lo_shift {f : C3 → Int} {k : Int} {d : C3} {cs : List C3} (hf : ∀ c, f (add3 d c) = f c + k) (h : cs ≠ []) : lo f (cs.map (add3 d)) = lo f cs + k := by
  obtain ⟨⟨c, hc, e⟩, h2⟩ := lo_spec f h
  refine lo_is ⟨add3 d c, List.mem_map.mpr ⟨c, hc, rfl⟩, by rw [hf, e]⟩ fun x hx => ?_
  obtain ⟨y, hy, e2⟩ := List.mem_map.mp hx
  subst e2
  rw [hf]
  have := h2 y hy
  omega
theorem corner_shift (d : C3) (cs : List C3) : corner (cs.map (add3 d)) = corner cs := by
  by_cases h : cs = []
  · subst h; rfl
  · unfold corner
    rw [List.map_map]
    refine List.map_congr_left fun c hc => ?_
    show add3 (off (cs.map (add3 d))) (add3 d c) = add3 (off cs) c
    rw [add3_add3]
    congr 1
    unfold off lox loy loz
    rw [lo_shift (f := fun c => c.1) (k := d.1) (fun c => rfl) h, lo_shift (f := fun c => c.2.1) (k := d.2.1) (fun c => rfl) h, lo_shift (f := fun c => c.2.2) (k := d.2.2) (fun c => rfl) h]
    unfold add3
    refine c3_ext ?_ ?_ ?_ <;> simp only <;> omega
def srt3 (cs : List C3) : List C3 := cs.mergeSort fun a b => decide (¬ lt3 b a)
theorem le3_trans (a b c : C3) (h : decide (¬ lt3 b a) = true) (k : decide (¬ lt3 c b) = true) : decide (¬ lt3 c a) = true := by
  simp only [decide_eq_true_eq] at *
  unfold lt3 at *
  omega
theorem le3_total (a b : C3) : (decide (¬ lt3 b a) || decide (¬ lt3 a b)) = true := by
  simp only [Bool.or_eq_true, decide_eq_true_eq]
  by_cases h : lt3 b a
  · exact .inr (lt3_asymm h)
  · exact .inl h
theorem srt3_perm (cs : List C3) : (srt3 cs).Perm cs := List.mergeSort_perm _ _
theorem srt3_asc {cs : List C3} (h : cs.Nodup) : Asc (srt3 cs) := by
  have so := List.pairwise_mergeSort (le := fun (a b : C3) => decide (¬ lt3 b a)) le3_trans le3_total cs
  exact asc_of (so.imp fun {a b} h => by simpa using h) ((srt3_perm cs).nodup_iff.mpr h)
/-- laid at the corner, rising -/
def laidL (cs : List C3) : List C3 := srt3 (corner cs)
theorem laid_perm (cs : List C3) : (laidL cs).Perm (corner cs) := srt3_perm _
theorem laid_asc {cs : List C3} (h : cs.Nodup) : Asc (laidL cs) := srt3_asc (corner_nodup h)
theorem laid_is {cs ds : List C3} (h : cs.Nodup) (ha : Asc ds) (hp : ds.Perm (corner cs)) : ds = laidL cs := asc_ext ha (laid_asc h) fun c => (hp.trans (laid_perm cs).symm).mem_iff
theorem laid_of_perm {cs ds : List C3} (h : cs.Nodup) (p : cs.Perm ds) : laidL cs = laidL ds := laid_is (p.nodup_iff.mp h) (laid_asc h) ((laid_perm cs).trans (corner_perm p))
theorem laid_shift {d : C3} {cs : List C3} : laidL (cs.map (add3 d)) = laidL cs := by unfold laidL; rw [corner_shift]
theorem corner_asc {cs : List C3} (h : Asc cs) : corner cs = laidL cs := laid_is (asc_nodup h) (asc_map h fun a b q => by
  unfold lt3 add3 at *
  simp only
  omega) (List.Perm.refl _)
theorem laid_nodup {cs : List C3} (h : cs.Nodup) : (laidL cs).Nodup := asc_nodup (laid_asc h)
/-! ### quarters -/
def tE (e : Fin 3) : C3 → C3 := match e with
  | 0 => tX
  | 1 => tY
  | 2 => tZ
def lE (e : Fin 3) (c : C3) : C3 := match e with
  | 0 => (c.1, -c.2.2, c.2.1)
  | 1 => (c.2.2, c.2.1, -c.1)
  | 2 => (-c.2.1, c.1, c.2.2)
def oE (e : Fin 3) : C3 := match e with
  | 0 => (0, 3, 0)
  | 1 => (0, 0, 3)
  | 2 => (3, 0, 0)
theorem tE_l (e : Fin 3) (c : C3) : tE e c = add3 (oE e) (lE e c) := by
  match e with
  | 0 => unfold tE lE oE tX add3; refine c3_ext ?_ ?_ ?_ <;> simp only <;> omega
  | 1 => unfold tE lE oE tY add3; refine c3_ext ?_ ?_ ?_ <;> simp only <;> omega
  | 2 => unfold tE lE oE tZ add3; refine c3_ext ?_ ?_ ?_ <;> simp only <;> omega
theorem lE_add (e : Fin 3) (d c : C3) : lE e (add3 d c) = add3 (lE e d) (lE e c) := by
  match e with
  | 0 => unfold lE add3; refine c3_ext ?_ ?_ ?_ <;> simp only <;> omega
  | 1 => unfold lE add3; refine c3_ext ?_ ?_ ?_ <;> simp only <;> omega
  | 2 => unfold lE add3; refine c3_ext ?_ ?_ ?_ <;> simp only <;> omega
theorem lE_inj (e : Fin 3) {a b : C3} (h : lE e a = lE e b) : a = b := by
  match e with
  | 0 => unfold lE at h; injection h with h1 h2; injection h2 with h2 h3; exact c3_ext (by omega) (by omega) (by omega)
  | 1 => unfold lE at h; injection h with h1 h2; injection h2 with h2 h3; exact c3_ext (by omega) (by omega) (by omega)
  | 2 => unfold lE at h; injection h with h1 h2; injection h2 with h2 h3; exact c3_ext (by omega) (by omega) (by omega)
theorem tE_inj (e : Fin 3) {a b : C3} (h : tE e a = tE e b) : a = b := by
  rw [tE_l, tE_l] at h
  exact lE_inj e (add3_inj h)
theorem tE_nodup {e : Fin 3} {cs : List C3} (h : cs.Nodup) : (cs.map (tE e)).Nodup := h.map _ fun a b ne q => ne (tE_inj e q)
theorem lE_nodup {e : Fin 3} {cs : List C3} (h : cs.Nodup) : (cs.map (lE e)).Nodup := h.map _ fun a b ne q => ne (lE_inj e q)
theorem laid_tE {e : Fin 3} {cs : List C3} : laidL (cs.map (tE e)) = laidL (cs.map (lE e)) := by
  rw [← laid_shift (d := oE e) (cs := cs.map (lE e)), List.map_map]
  congr 1
  exact List.map_congr_left fun c _ => tE_l e c
/-- what is laid turns as what was laid -/
theorem laid_laid {e : Fin 3} {cs : List C3} (h : cs.Nodup) : laidL ((laidL cs).map (tE e)) = laidL (cs.map (tE e)) := by
  have h1 : ((laidL cs).map (tE e)).Perm ((corner cs).map (tE e)) := (laid_perm cs).map _
  rw [laid_of_perm (tE_nodup (laid_nodup h)) h1]
  have h2 : (corner cs).map (tE e) = (cs.map (tE e)).map (add3 (lE e (off cs))) := by
    unfold corner
    rw [List.map_map, List.map_map]
    refine List.map_congr_left fun c _ => ?_
    show tE e (add3 (off cs) c) = add3 (lE e (off cs)) (tE e c)
    rw [tE_l, tE_l, lE_add, add3_add3, add3_add3]
    congr 1
    unfold add3
    refine c3_ext ?_ ?_ ?_ <;> simp only <;> omega
  rw [h2, laid_shift]
def qE (e : Fin 3) (S : List C3) : List C3 := laidL (S.map (tE e))
/-! ### the 24 -/
abbrev Rot := (Nat × Nat × Nat) × (Int × Int × Int)
def atC (c : C3) (k : Nat) : Int := if k = 0 then c.1 else if k = 1 then c.2.1 else c.2.2
def rot (m : Rot) (c : C3) : C3 := (m.2.1 * atC c m.1.1, m.2.2.1 * atC c m.1.2.1, m.2.2.2 * atC c m.1.2.2)
def opE (e : Fin 3) (m : Rot) : Rot := match e with
  | 0 => ((m.1.1, m.1.2.2, m.1.2.1), (m.2.1, -m.2.2.2, m.2.2.1))
  | 1 => ((m.1.2.2, m.1.2.1, m.1.1), (m.2.2.2, m.2.2.1, -m.2.1))
  | 2 => ((m.1.2.1, m.1.1, m.1.2.2), (-m.2.2.1, m.2.1, m.2.2.2))
theorem lE_rot (e : Fin 3) (m : Rot) (c : C3) : lE e (rot m c) = rot (opE e m) c := by
  match e with
  | 0 => unfold lE rot opE; refine c3_ext ?_ ?_ ?_ <;> simp only [Int.neg_mul]
  | 1 => unfold lE rot opE; refine c3_ext ?_ ?_ ?_ <;> simp only [Int.neg_mul]
  | 2 => unfold lE rot opE; refine c3_ext ?_ ?_ ?_ <;> simp only [Int.neg_mul]
def id3 : Rot := ((0, 1, 2), (1, 1, 1))
def placesL : List (Nat × Nat × Nat) := [(0, 1, 2), (1, 2, 0), (2, 0, 1), (1, 0, 2), (0, 2, 1), (2, 1, 0)]
def signsK (k : Nat) : Int × Int × Int := (1 - 2 * ((k / 4 : Nat) : Int), 1 - 2 * ((k / 2 % 2 : Nat) : Int), 1 - 2 * ((k % 2 : Nat) : Int))
def evenP (p : Nat × Nat × Nat) : Bool := decide (p = (0, 1, 2)) || (decide (p = (1, 2, 0)) || decide (p = (2, 0, 1)))
def goodK (p : Nat × Nat × Nat) (k : Nat) : Bool := decide ((signsK k).1 * (signsK k).2.1 * (signsK k).2.2 = 2 * (if evenP p then 1 else 0) - 1)
def rots : List Rot := placesL.flatMap fun p => ((List.range 8).filter (goodK p)).map fun k => (p, signsK k)
theorem rots_len : rots.length = 24 := by decide +kernel
theorem rots_id : id3 ∈ rots := by decide +kernel
theorem rots_cl : ∀ m ∈ rots, ∀ e : Fin 3, opE e m ∈ rots := by decide +kernel
def ops : List (Fin 3) → Rot → Rot
  | [], m => m
  | e :: es, m => ops es (opE e m)
def words4 : Nat → List (List (Fin 3))
  | 0 => [[]]
  | n + 1 => [] :: (words4 n).flatMap fun w => [0 :: w, 1 :: w, 2 :: w]
theorem rots_reach : ∀ m ∈ rots, ∃ w ∈ words4 4, ops w id3 = m := by decide +kernel
theorem words4_len : ∀ w ∈ words4 4, w.length ≤ 4 := by decide +kernel
theorem rots_inj : ∀ m ∈ rots, ∀ a b : C3, rot m a = rot m b → a = b := by
  have h : ∀ m ∈ rots, (m.1 ∈ placesL) ∧ (m.2.1 = 1 ∨ m.2.1 = -1) ∧ (m.2.2.1 = 1 ∨ m.2.2.1 = -1) ∧ (m.2.2.2 = 1 ∨ m.2.2.2 = -1) := by decide +kernel
  intro m hm a b e
  obtain ⟨h1, h2, h3, h4⟩ := h m hm
  obtain ⟨⟨p0, p1, p2⟩, ⟨s0, s1, s2⟩⟩ := m
  simp only at h1 h2 h3 h4
  unfold rot at e
  injection e with e1 e2
  injection e2 with e2 e3
  simp only at e1 e2 e3
  have c1 : atC a p0 = atC b p0 := by rcases h2 with h | h <;> rw [h] at e1 <;> omega
  have c2 : atC a p1 = atC b p1 := by rcases h3 with h | h <;> rw [h] at e2 <;> omega
  have c3 : atC a p2 = atC b p2 := by rcases h4 with h | h <;> rw [h] at e3 <;> omega
  simp only [placesL, List.mem_cons, Prod.mk.injEq, List.not_mem_nil, or_false] at h1
  rcases h1 with ⟨rfl, rfl, rfl⟩ | ⟨rfl, rfl, rfl⟩ | ⟨rfl, rfl, rfl⟩ | ⟨rfl, rfl, rfl⟩ | ⟨rfl, rfl, rfl⟩ | ⟨rfl, rfl, rfl⟩ <;> simp [atC] at c1 c2 c3 <;> exact c3_ext (by omega) (by omega) (by omega)
def rotL (cs : List C3) (m : Rot) : List C3 := laidL (cs.map (rot m))
theorem rot_id (c : C3) : rot id3 c = c := by unfold rot id3 atC; refine c3_ext ?_ ?_ ?_ <;> simp
theorem rotL_id (cs : List C3) : rotL cs id3 = laidL cs := by
  unfold rotL
  congr 1
  rw [List.map_congr_left (g := id) fun c _ => rot_id c, List.map_id]
theorem qE_rot {cs : List C3} (h : cs.Nodup) {m : Rot} (hm : m ∈ rots) (e : Fin 3) : qE e (rotL cs m) = rotL cs (opE e m) := by
  have hn : (cs.map (rot m)).Nodup := h.map _ fun a b ne q => ne (rots_inj m hm a b q)
  unfold qE rotL
  rw [laid_laid hn, laid_tE, List.map_map]
  congr 1
  exact List.map_congr_left fun c _ => lE_rot e m c
end Ly
end

section
set_option Elab.async false
set_option linter.all false
set_option maxRecDepth 100000
set_option maxHeartbeats 2000000
/-! Dicts whose keys are tuples of any depth: what stands in them, read, asked, stored, made. -/
namespace GD
open PySem PySem.Spec PyProof.Rows L2
abbrev kn (P : Program) (w : World) : HeapKind P w NestedKey := nestedKind P w
abbrev Row := NestedKey × Addr × V
abbrev RowV := NestedKey × Addr × Value
def RelE (p : Row) (q : RowV) : Prop := p.1 = q.1 ∧ p.2.1 = q.2.1 ∧ RelV p.2.2 q.2.2
/-- the entries of the dict's own object -/
def Ent (P : Program) (w : World) (h : Heap) (a : Addr) (xs : List RowV) : Prop :=
  ∃ o es ep, h.get? a = some o ∧ o.ExactDict ∧ o.data = .dict es ep ∧ es.toList = xs.map (entryOfKey (kn P w)) ∧ (xs.map (·.1)).Nodup
def Dn0 (P : Program) (w : World) (h : Heap) (a : Addr) (L : List Row) : Prop := (a == sysModules) = false ∧ L.length ≤ sizeLine ∧ ∃ xs, Paired RelE L xs ∧ Ent P w h a xs
def DNO (P : Program) (w : World) (a : Addr) (L : List Row) : HO := .ext fun h => Dn0 P w h a L
theorem dno_ok {P : Program} {w : World} {H : Hp} {h : Heap} {a : Addr} {L : List Row} (x : Dn0 P w h a L) : ObjOk P w H h a (DNO P w a L) := by
  refine ⟨x, ?_, fun h1 h2 q k => ?_⟩
  · obtain ⟨_, _, xs, _, o, _, _, e, _⟩ := x
    exact ⟨o, e⟩
  · obtain ⟨y, z, xs, r, o, es, ep, e, c⟩ := q
    exact ⟨y, z, xs, r, o, es, ep, k o e, c⟩
theorem not_code {P : Program} {w : World} {h : Heap} {a : Addr} {L : List Row} (x : Dn0 P w h a L) : ∀ q, DNO P w a L ≠ LamX.CodeO a q := by
  intro q e
  have f : (fun h => Dn0 P w h a L) = fun h => ∃ (oc : Obj) (vs : Array Value) (t : Tok), h.get? a = some oc ∧ oc.data = .fields vs ∧ vs[1]? = some (.str q t) := by
    unfold DNO LamX.CodeO at e
    exact HO.ext.inj e
  have g := congrFun f h
  rw [eq_iff_iff] at g
  obtain ⟨oc, vs, t, e1, e2, _⟩ := g.mp x
  obtain ⟨_, _, xs, _, o, es, ep, e3, _, e4, _⟩ := x
  rw [e1] at e3
  cases e3
  rw [e2] at e4
  cases e4
/-- a key that stands at b -/
def KeyD (K : PySem.W.Frag) (H : Hp) (v : V) (k : NestedKey) : Prop := Dp K H v k.data ∧ k.depth ≤ 8 ∧ ∃ ks, k = .tup ks
/-- at a stands a dict of these keys and values -/
def DN (K : PySem.W.Frag) (P : Program) (w : World) (H : Hp) (a : Addr) (kvs : List (NestedKey × V)) : Prop :=
  ∃ (φ : Heap → Prop) (L : List Row), H a = some (.ext φ) ∧ (∀ h, φ h → Dn0 P w h a L) ∧ (L.map fun p => (p.1, p.2.2)) = kvs ∧ (∀ p ∈ L, KeyD K H (.ref p.2.1) p.1) ∧ ∀ q, H a ≠ some (LamX.CodeO a q)
theorem DN.mk0 {K : PySem.W.Frag} {P : Program} {w : World} {H : Hp} {a : Addr} {kvs : List (NestedKey × V)} {L : List Row} (e : H a = some (DNO P w a L)) (ek : (L.map fun p => (p.1, p.2.2)) = kvs) (hk : ∀ p ∈ L, KeyD K H (.ref p.2.1) p.1) (nc : ∀ q, H a ≠ some (LamX.CodeO a q)) : DN K P w H a kvs :=
  ⟨_, L, e, fun _ x => x, ek, hk, nc⟩
def valN (kvs : List (NestedKey × V)) (k : NestedKey) : Option V := (kvs.find? fun p => decide (p.1 = k)).map (·.2)
def putN (kvs : List (NestedKey × V)) (k : NestedKey) (v : V) : List (NestedKey × V) := if (valN kvs k).isSome = true then kvs.map fun p => if p.1 = k then (p.1, v) else p else kvs ++ [(k, v)]
/-- a heap of which only the dict at a is another -/
structure Chg (H H' : Hp) (a : Addr) : Prop where
  but : ∀ b, b ≠ a → H' b = H b
  now : ∃ φ, H' a = some (.ext φ)
  was : ∃ φ, H a = some (.ext φ)
  nc : ∀ q, H a ≠ some (LamX.CodeO a q)
section
variable {X : Cx} {pins : List (Addr × Obj)} {σ : L2.St} {H : Hp} {s : Shared}
mutual
theorem nis (I : Inv X pins σ H s) : ∀ (k : NestedKey) {v : V} {u : Value}, Dp X.K H v k.data → RelV v u → NestedIs s.heap k u
  | .none, v, u, h, r => by
    simp only [NestedKey.data] at h
    cases h
    cases r
    exact .none
  | .num i, v, u, h, r => by
    simp only [NestedKey.data] at h
    cases h
    obtain ⟨t, rfl⟩ := r
    exact .int i t
  | .text x, v, u, h, r => by
    simp only [NestedKey.data] at h
    cases h
    obtain ⟨t, rfl⟩ := r
    exact .text x t
  | .tup ks, v, u, h, r => by
    simp only [NestedKey.data] at h
    cases h with
    | tup hs ha =>
      cases r
      obtain ⟨its, rv, ⟨o, e, c, n, d⟩, _⟩ := I.tuple hs
      exact .tup e c d (by simpa using nisAll I ks ha rv)
theorem nisAll (I : Inv X pins σ H s) : ∀ (ks : List NestedKey) {vs : List V} {us : List Value}, DpAll X.K H vs (NestedKey.datas ks) → Vals vs us → NestedAll s.heap ks us
  | [], vs, us, h, r => by
    simp only [NestedKey.datas] at h
    cases h
    cases r
    exact .nil
  | k :: ks, vs, us, h, r => by
    simp only [NestedKey.datas] at h
    cases h with
    | cons h1 h2 =>
      cases r with
      | cons r1 r2 => exact .cons (nis I k h1 r1) (nisAll I ks h2 r2)
end
theorem KeyD.is (I : Inv X pins σ H s) {b : Addr} {k : NestedKey} (h : KeyD X.K H (.ref b) k) : (kn X.prog X.w).is s.heap k b := ⟨nis I k h.1 rfl, h.2.1⟩
theorem KeyD.ref {K : PySem.W.Frag} {v : V} {k : NestedKey} (h : KeyD K H v k) : ∃ b, v = .ref b := by
  obtain ⟨h1, _, ks, rfl⟩ := h
  simp only [NestedKey.data] at h1
  cases h1
  exact ⟨_, rfl⟩
theorem rows_keys {K : PySem.W.Frag} : ∀ {L : List Row} {xs : List RowV}, Paired RelE L xs → (∀ p ∈ L, KeyD K H (.ref p.2.1) p.1) → ∀ x ∈ xs, KeyD K H (.ref x.2.1) x.1
  | _, _, .nil, _ => fun x hx => nomatch hx
  | p :: L, q :: xs, .cons r t, h => fun x hx => by
    rcases List.mem_cons.mp hx with e | hx
    · have z := h p List.mem_cons_self
      rw [e, ← r.1, ← r.2.1]
      exact z
    · exact rows_keys t (fun p hp => h p (List.mem_cons_of_mem _ hp)) x hx
theorem rows_len {L : List Row} {xs : List RowV} (r : Paired RelE L xs) : L.length = xs.length := Paired.length r
theorem rows_val {k : NestedKey} : ∀ {L : List Row} {xs : List RowV}, Paired RelE L xs → (valN (L.map fun p => (p.1, p.2.2)) k = none ∧ atKey xs k = none) ∨ ∃ v b u, valN (L.map fun p => (p.1, p.2.2)) k = some v ∧ atKey xs k = some (b, u) ∧ RelV v u
  | _, _, .nil => .inl ⟨rfl, rfl⟩
  | p :: L, q :: xs, .cons r t => by
    obtain ⟨r1, r2, r3⟩ := r
    have ih := rows_val (k := k) t
    unfold valN atKey at ih ⊢
    rw [List.map_cons, List.find?_cons, List.find?_cons]
    by_cases e : p.1 = k
    · have e' : q.1 = k := by rw [← r1]; exact e
      simp only [e, e', decide_true]
      exact .inr ⟨_, _, _, rfl, rfl, r3⟩
    · have e' : ¬ q.1 = k := by rw [← r1]; exact e
      simp only [e, e', decide_false]
      exact ih
/-- opened -/
theorem DN.full (I : Inv X pins σ H s) {a : Addr} {kvs : List (NestedKey × V)} (d : DN X.K X.prog X.w H a kvs) : ∃ (L : List Row) (xs : List RowV), (∃ φ, H a = some (.ext φ)) ∧ (L.map fun p => (p.1, p.2.2)) = kvs ∧ (∀ p ∈ L, KeyD X.K H (.ref p.2.1) p.1) ∧
    (a == sysModules) = false ∧ L.length ≤ sizeLine ∧ Paired RelE L xs ∧ s.heap.DictOfH (kn X.prog X.w) a xs := by
  obtain ⟨φ, L, e, hφ, ek, hk, _⟩ := d
  obtain ⟨x, _, _⟩ := I.hok a _ e
  obtain ⟨y, z, xs, r, o, es, ep, h1, h2, h3, h4, h5⟩ := hφ _ x
  exact ⟨L, xs, ⟨φ, e⟩, ek, hk, y, z, r, o, es, ep, h1, h2, h3, h4, fun x hx => (rows_keys r hk x hx).is I, h5⟩
def rInN (K : PySem.W.Frag) (P : Program) (w : World) : R2 := fun x y H Q => ∃ a kvs k, y = .ref a ∧ DN K P w H a kvs ∧ KeyD K H x k ∧ Q (.bl (valN kvs k).isSome) H
theorem op_inN (hu : X.A.units + 64 < cLine) : OpR X (compareOp .In) (rInN X.K X.prog X.w) := by
  intro pins s σ H x y v u Q I rx ry h
  obtain ⟨a, kvs, k, rfl, d, hk, q⟩ := h
  obtain ⟨b, rfl⟩ := hk.ref
  cases rx
  cases ry
  obtain ⟨L, xs, e, ek, hks, hm, z, r, D⟩ := d.full I
  refine wpAny_in_heap (knd := kn X.prog X.w) (by show X.A.units + 1 + 8 < cLine; omega) (hk.is I) hm D ⟨.bl (valN kvs k).isSome, H, I.tok _, ?_, q⟩
  rw [← ek]
  rcases rows_val (k := k) r with ⟨e1, e2⟩ | ⟨v, b, u, e1, e2, _⟩
  · rw [e1, e2]; rfl
  · rw [e1, e2]; rfl
def rIxN (K : PySem.W.Frag) (P : Program) (w : World) : R2 := fun x y H Q => ∃ a kvs k v, x = .ref a ∧ DN K P w H a kvs ∧ KeyD K H y k ∧ valN kvs k = some v ∧ Q v H
theorem getN {Q : VK} {a : Addr} {kvs : List (NestedKey × V)} {k : NestedKey} {y v : V} {u : Value} (hu : X.A.units + 64 < cLine) (I : Inv X pins σ H s) (d : DN X.K X.prog X.w H a kvs) (hk : KeyD X.K H y k) (hv : valN kvs k = some v) (ry : RelV y u) (q : Q v H) :
    s.TypeIs (.ref a) "dict" ∧ wpAny (model X.prog X.w) X.A (getItem (.ref a) u) (EP X pins σ Q) X.xe s := by
  obtain ⟨b, rfl⟩ := hk.ref
  cases ry
  obtain ⟨L, xs, e, ek, hks, hm, z, r, D⟩ := d.full I
  refine ⟨D.typeIs, ?_⟩
  rcases rows_val (k := k) r with ⟨e1, e2⟩ | ⟨v', b', u', e1, e2, e3⟩
  · rw [ek, hv] at e1
    cases e1
  · rw [ek, hv] at e1
    cases e1
    exact wpAny_getItem_heap (knd := kn X.prog X.w) (by show X.A.units + 1 + 8 < cLine; omega) (hk.is I) D e2 ⟨v, H, I.tok _, e3, q⟩
theorem ix_N (hu : X.A.units + 64 < cLine) : IxR X (rIxN X.K X.prog X.w) := by
  intro value slice pins s σ H x y v u Q I rx ry h hs
  obtain ⟨a, kvs, k, z, rfl, d, hk, hv, q⟩ := h
  cases rx
  obtain ⟨t, w⟩ := getN hu I d hk hv ry q
  exact tail_any t PySem.F.slot_dict_getitem.lookup w hs
/-! ### a store -/
theorem nodup_put {xs : List RowV} {k : NestedKey} {b : Addr} {u : Value} (h : (xs.map (·.1)).Nodup) : ((storedH xs k b u).map (·.1)).Nodup := by
  cases e : atKey xs k with
  | some p => rw [storedH_old e, keys_map_putAt]; exact h
  | none =>
    rw [storedH_new e, List.map_append]
    refine List.nodup_append.mpr ⟨h, by simp, fun x hx y hy => ?_⟩
    have hy : y = k := by simpa using hy
    subst hy
    intro z
    subst z
    obtain ⟨q, hq, e2⟩ := List.mem_map.mp hx
    unfold atKey at e
    rw [Option.map_eq_none_iff, List.find?_eq_none] at e
    exact e q hq (by simp [e2])
def putL (L : List Row) (k : NestedKey) (b : Addr) (v : V) : List Row := if (valN (L.map fun p => (p.1, p.2.2)) k).isSome = true then L.map fun p => if p.1 = k then (p.1, p.2.1, v) else p else L ++ [(k, b, v)]
theorem putL_kvs (L : List Row) (k : NestedKey) (b : Addr) (v : V) : (putL L k b v).map (fun p => (p.1, p.2.2)) = putN (L.map fun p => (p.1, p.2.2)) k v := by
  unfold putL putN
  split
  · rw [List.map_map, List.map_map]
    refine List.map_congr_left fun p _ => ?_
    show ((if p.1 = k then (p.1, p.2.1, v) else p : Row).1, (if p.1 = k then (p.1, p.2.1, v) else p : Row).2.2) = if p.1 = k then (p.1, v) else (p.1, p.2.2)
    split <;> rfl
  · rw [List.map_append]
    rfl
theorem putL_len (L : List Row) (k : NestedKey) (b : Addr) (v : V) : (putL L k b v).length ≤ L.length + 1 := by
  unfold putL
  split
  · rw [List.length_map]; omega
  · rw [List.length_append]; exact Nat.le_refl _
theorem rows_map {k : NestedKey} {v : V} {u : Value} (rv : RelV v u) : ∀ {L : List Row} {xs : List RowV}, Paired RelE L xs → Paired RelE (L.map fun p => if p.1 = k then (p.1, p.2.1, v) else p) (xs.map (putAt k u))
  | _, _, .nil => .nil
  | p :: L, q :: xs, .cons r t => by
    refine .cons ?_ (rows_map rv t)
    obtain ⟨r1, r2, r3⟩ := r
    unfold putAt
    show RelE (if p.1 = k then (p.1, p.2.1, v) else p) _
    by_cases e : p.1 = k
    · rw [if_pos e, if_pos (by rw [← r1]; exact e)]
      exact ⟨r1, r2, rv⟩
    · rw [if_neg e, if_neg (by rw [← r1]; exact e)]
      exact ⟨r1, r2, r3⟩
theorem rows_put {L : List Row} {xs : List RowV} {k : NestedKey} {b : Addr} {v : V} {u : Value} (r : Paired RelE L xs) (rv : RelV v u) : Paired RelE (putL L k b v) (storedH xs k b u) := by
  unfold putL
  rcases rows_val (k := k) r with ⟨e1, e2⟩ | ⟨v', b', u', e1, e2, _⟩
  · rw [e1, storedH_new e2, if_neg (by decide)]
    exact Paired.snoc r ⟨rfl, rfl, rv⟩
  · rw [e1, storedH_old e2, if_pos (by rfl)]
    exact rows_map rv r
theorem putL_key {K : PySem.W.Frag} {L : List Row} {k : NestedKey} {b : Addr} {v : V} (h : ∀ p ∈ L, KeyD K H (.ref p.2.1) p.1) (hb : KeyD K H (.ref b) k) : ∀ p ∈ putL L k b v, KeyD K H (.ref p.2.1) p.1 := by
  intro p hp
  unfold putL at hp
  split at hp
  · obtain ⟨q, hq, e⟩ := List.mem_map.mp hp
    have z := h q hq
    split at e
    · rw [← e]; exact z
    · rw [← e]; exact z
  · rcases List.mem_append.mp hp with z | z
    · exact h p z
    · rw [List.mem_singleton.mp z]; exact hb
mutual
/-- a key stays one while the dict at a is changed -/
theorem key_keep {K : PySem.W.Frag} {H' : Hp} {a : Addr} (c : Chg H H' a) : ∀ (k : NestedKey) {v : V}, Dp K H v k.data → Dp K H' v k.data
  | .none, v, h => by simp only [NestedKey.data] at h ⊢; cases h; exact .non
  | .num i, v, h => by simp only [NestedKey.data] at h ⊢; cases h; exact .int i
  | .text x, v, h => by simp only [NestedKey.data] at h ⊢; cases h; exact .str x
  | .tup ks, v, h => by
    simp only [NestedKey.data] at h ⊢
    cases h with
    | tup hs ha =>
      refine .tup ?_ (keys_keep c ks ha)
      rcases hs with (h | ⟨o, h⟩) | h
      · exact .inl (.inl (by rw [c.but _ fun z => ?_]; exact h; rw [z] at h; obtain ⟨φ, e⟩ := c.was; rw [e] at h; cases h))
      · exact .inl (.inr ⟨o, by rw [c.but _ fun z => ?_]; exact h; rw [z] at h; obtain ⟨φ, e⟩ := c.was; rw [e] at h; cases h⟩)
      · exact .inr h
theorem keys_keep {K : PySem.W.Frag} {H' : Hp} {a : Addr} (c : Chg H H' a) : ∀ (ks : List NestedKey) {vs : List V}, DpAll K H vs (NestedKey.datas ks) → DpAll K H' vs (NestedKey.datas ks)
  | [], vs, h => by simp only [NestedKey.datas] at h ⊢; cases h; exact .nil
  | k :: ks, vs, h => by
    simp only [NestedKey.datas] at h ⊢
    cases h with
    | cons h1 h2 => exact .cons (key_keep c k h1) (keys_keep c ks h2)
end
theorem KeyD.chg {K : PySem.W.Frag} {H' : Hp} {a : Addr} {v : V} {k : NestedKey} (c : Chg H H' a) (h : KeyD K H v k) : KeyD K H' v k := ⟨key_keep c k h.1, h.2⟩
/-- d[k] = v, whichever way it is done -/
theorem put_ok {A : Around} {E : Value → Shared → Prop} {a b : Addr} {kvs : List (NestedKey × V)} {k : NestedKey} {v : V} {u : Value} {m : Sem Unit} {Q : Unit → Shared → Prop} (I : Inv X pins σ H s) (d : DN X.K X.prog X.w H a kvs) (hk : KeyD X.K H (.ref b) k) (hz : kvs.length < sizeLine) (rv : RelV v u)
    (hm : ∀ xs : List RowV, xs.length ≤ sizeLine → s.heap.DictOfH (kn X.prog X.w) a xs → (∀ h' tk, h'.DictOfH (kn X.prog X.w) a (storedH xs k b u) → Heap.SameBut a s.heap h' → Q () { s with heap := h', toks := tk }) → wpAny (model X.prog X.w) A m Q E s)
    (h : ∀ s' H', Inv X pins σ H' s' → Chg H H' a → DN X.K X.prog X.w H' a (putN kvs k v) → Q () s') : wpAny (model X.prog X.w) A m Q E s := by
  have ncd := d.choose_spec.choose_spec.2.2.2.2
  obtain ⟨L, xs, ⟨φ0, e⟩, ek, hks, hsm, z, r, D⟩ := d.full I
  have hl := rows_len r
  have hL : L.length = kvs.length := by rw [← ek, List.length_map]
  refine hm xs (by omega) D fun h' tk D' sb => ?_
  have new0 : Dn0 X.prog X.w h' a (putL L k b v) := by
    obtain ⟨o, es, ep, h1, h2, h3, h4, _, h5⟩ := D'
    have := putL_len L k b v
    exact ⟨hsm, by omega, storedH xs k b u, rows_put r rv, o, es, ep, h1, h2, h3, h4, h5⟩
  have he : ∃ q, h'.get? a = some q := by
    obtain ⟨o, es, ep, h1, _⟩ := D'
    exact ⟨o, h1⟩
  have c : Chg H (upd H a (DNO X.prog X.w a (putL L k b v))) a := ⟨fun b n => upd_ne n, ⟨_, upd_same⟩, ⟨_, e⟩, ncd⟩
  refine h _ _ (d_write I (by rw [e]; exact True.intro) sb he (dno_ok new0)) c (.mk0 upd_same (by rw [putL_kvs, ek]) (fun p hp => (putL_key hks hk p hp).chg c) fun q z => ?_)
  rw [upd_same] at z
  exact not_code new0 q (Option.some.inj z)
def rPutN (K : PySem.W.Frag) (P : Program) (w : World) : TSet := fun o i v H Q => ∃ a kvs k, o = .ref a ∧ DN K P w H a kvs ∧ KeyD K H i k ∧ kvs.length < sizeLine ∧ ∀ H', Chg H H' a → DN K P w H' a (putN kvs k v) → Q H'
theorem set_N (hu : X.A.units + 64 < cLine) : PSet X (rPutN X.K X.prog X.w) := by
  intro pins s σ H o i v ov iv u Q I ro ri rv h
  obtain ⟨a, kvs, k, rfl, d, hk, hz, q⟩ := h
  obtain ⟨b, rfl⟩ := hk.ref
  cases ro
  cases ri
  refine put_ok I d hk hz rv (fun xs hsz D g => wpAny_setItem_heap (knd := kn X.prog X.w) (hsz := hsz) (by show X.A.units + 1 + 8 < cLine; omega) (hk.is I) D fun h' D' sb => g h' _ D' sb) fun s' H' I' c d' => ⟨H', I', q H' c d'⟩
end
end GD
end

section
set_option Elab.async false
set_option linter.all false
set_option maxRecDepth 100000
set_option maxHeartbeats 3200000
/-! Looking a tuple up in a set of tuples (without putting it in), the walk over a set that nobody sees. -/
namespace GZ
open PySem PySem.Spec PyProof.Rows L2 Ly GY
section
variable {P : Program} {w : World} {A : Around} {E : Value → Shared → Prop} {s : Shared}
variable {a : Addr} {L : List (Addr × List Int)} {es : Array (Int × Value)} {ep : Nat} {t : SetTable}
/-- asked for from the c-th step on: found, or the K-th slot is free -/
theorem seek_from (R : SQ P w s.heap a L es ep t) {x : Addr} {k : List Int} (hx : IsT P w s.heap k x) (hu : A.units < cLine) {K : Nat} (hKf : K < 10 * SetTable.turns t.mask)
    (hK : way t.mask (thash P w k) K ∉ t.place.toList) (hKb : ∀ c, c < K → way t.mask (thash P w k) c ∈ t.place.toList)
    {Q : SetFound → Shared → Prop} (hin : k ∈ L.map (·.2) → ∀ i, Q (.there (some i)) s) (hout : k ∉ L.map (·.2) → Q (.free (way t.mask (thash P w k) K) false) s) :
    ∀ (f c : Nat) (stand : Option SetTable.Probe), stand.getD (t.probeStart (thash P w k)) = nth t.mask (runAt t.mask (SetTable.bits (thash P w k) % (t.mask + 1)) (SetTable.bits (thash P w k))) c → c ≤ K → K - c < f →
      (∀ (i : Nat) p, L[i]? = some p → p.2 = k → ∃ c0, c ≤ c0 ∧ c0 < K ∧ t.place.toList[i]? = some (way t.mask (thash P w k) c0)) →
      wpAny (model P w) A (setSearchFrom a (.ref x) (thash P w k) false f stand) Q E s := by
  intro f
  induction f with
  | zero => exact fun c stand _ _ hf => absurd hf (Nat.not_lt_zero _)
  | succ f ih =>
    intro c stand hst hc hf hre
    obtain ⟨o, ho, hex, hd⟩ := R.ob
    rw [setSearchFrom_succ]
    refine wpAny_bind (wpAny_setState_of ho hd R.fits ?_)
    dsimp only
    refine wp_if_neg R.gw ?_
    try refine wpAny_bind (wpAny_pure ?_)
    generalize hB : runAt t.mask (SetTable.bits (thash P w k) % (t.mask + 1)) (SetTable.bits (thash P w k)) = B at hst
    have hB0 : B.dummy = none := by rw [← hB] <;> rfl
    have dn : ∀ (n : Nat) (p : SetTable.Probe), p.dummy = none → (nth t.mask p n).dummy = none := by
      intro n
      induction n with
      | zero => exact fun p h => h
      | succ n ih2 =>
        intro p h
        refine ih2 (adv t.mask p) ?_
        unfold adv
        split <;> exact h
    have wj : ∀ q, (nth t.mask (nth t.mask B c) q).j = way t.mask (thash P w k) (c + q) := fun q => by
      rw [← nth_add t.mask c B q, ← hB] <;> rfl
    have hash_of : ∀ (i : Nat) p, L[i]? = some p → (fun i => (es[i]?.map (·.1)).getD 0) i = thash P w p.2 := fun i p hp => by
      show (es[i]?.map (·.1)).getD 0 = _
      rw [R.at hp] <;> rfl
    have sp := go_spec t R.tab.ris R.tab.dm (fun i => (es[i]?.map (·.1)).getD 0) (thash P w k) (10 * SetTable.turns t.mask) (K - c) _ (dn c B hB0) (by omega)
      (fun q hq => by rw [wj]; exact hKb (c + q) (by omega)) (by rw [wj, show c + (K - c) = K by omega]; exact hK)
    have skip : ∀ (q i0 : Nat) (p0 : Addr × List Int), (∀ (k' : Nat) (i : Nat), k' < q → t.place.toList[i]? = some (nth t.mask (nth t.mask B c) k').j → (fun i => (es[i]?.map (·.1)).getD 0) i ≠ thash P w k) → L[i0]? = some p0 → p0.2 = k → ∀ c0, c ≤ c0 → c0 < c + q → t.place.toList[i0]? = some (way t.mask (thash P w k) c0) → False := fun q i0 p0 hno h0 hk0 c0 h1 h2 h3 =>
      hno (c0 - c) i0 (by omega) (by rw [wj, show c + (c0 - c) = c0 by omega]; exact h3) ((hash_of i0 p0 h0).trans (congrArg (thash P w) hk0))
    rcases sp with ⟨q, i, hq, hi, hh, hno, hpr⟩ | ⟨hno, hpr⟩
    · have hpr2 : t.probe (fun i => (es[i]?.map (·.1)).getD 0) (thash P w k) (stand.getD (t.probeStart (thash P w k))) = some (.candidate (way t.mask (thash P w k) (c + q)) i (nth t.mask B (c + (q + 1)))) := by
        rw [hst, ← wj, nth_add t.mask c B (q + 1)]
        exact hpr
      rw [hpr2]
      dsimp only
      rw [wj] at hi
      have hil : i < L.length := by
        have h1 : i < t.place.toList.length := (List.getElem?_eq_some_iff.mp hi).1
        have h2 := R.psz
        rw [Array.length_toList] at h1
        omega
      have hp : L[i]? = some L[i] := List.getElem?_eq_getElem hil
      generalize hpe : L[i] = p at hp
      have hpm := List.mem_of_getElem? hp
      have hpt := R.tup p hpm
      have slotq : t.slot (way t.mask (thash P w k) (c + q)) = .live i := slot_live R.tab.ris hi
      have go : wpAny (model P w) A (searchRest a (.ref x) (thash P w k) false f es t (way t.mask (thash P w k) (c + q)) i (nth t.mask B (c + (q + 1)))) Q E s := by
        unfold searchRest
        rw [R.at hp]
        dsimp only
        refine wpAny_bind (wpAny_holding (wpAny_eqBool_tuple hu hpt hx ?_))
        refine wpAny_bind (wpAny_setState_of ho hd R.fits ?_)
        dsimp only
        refine wp_if_neg (by simp) ?_
        try refine wpAny_bind (wpAny_pure ?_)
        rw [sameMem]
        dsimp only
        simp only [if_true, slotq, R.at hp]
        refine wpAny_bind (wpAny_isSame_ref_self (wpAny_bind (wpAny_pure ?_)))
        simp only [if_true]
        by_cases hkk : p.2 = k
        · refine wp_if_pos (by simp [hkk]) ?_
          exact wpAny_pure (hin (List.mem_map.mpr ⟨p, hpm, hkk⟩) i)
        · refine wp_if_neg (by simp [hkk]) ?_
          refine ih (c + (q + 1)) _ (by rw [hB]; rfl) (by omega) (by omega) fun i0 p0 h0 hk0 => ?_
          obtain ⟨c0, a1, a2, a3⟩ := hre i0 p0 h0 hk0
          refine ⟨c0, ?_, a2, a3⟩
          rcases Nat.lt_or_ge c0 (c + q) with z | z
          · exact (skip q i0 p0 hno h0 hk0 c0 a1 z a3).elim
          · rcases Nat.lt_or_ge (c + q) c0 with y | y
            · omega
            · exfalso
              have e : c0 = c + q := Nat.le_antisymm y z
              have s0 := slot_live R.tab.ris a3
              rw [e, slotq] at s0
              injection s0 with s0
              rw [← s0, hp] at h0
              exact hkk ((congrArg Prod.snd (Option.some.inj h0)).trans hk0)
      by_cases hl : t.led = true
      · refine wp_if_neg (by simp [hl]) ?_
        try refine wpAny_bind (wpAny_pure ?_)
        exact go
      · refine wp_if_pos (by simp [hl]) ?_
        refine wpAny_bind (seen_tup hx (fun y hy => ?_) ?_)
        · obtain ⟨e, he, ee⟩ := List.mem_map.mp hy
          have he1 : e ∈ es ∧ e.1 = thash P w k := by simpa using he
          have he2 : e ∈ es.toList := by simpa using he1.1
          rw [R.rows] at he2
          obtain ⟨p2, hp2, e2⟩ := List.mem_map.mp he2
          exact ⟨p2.2, p2.1, by rw [← ee, ← e2], R.tup p2 hp2⟩
        · refine wp_if_neg (by decide) ?_
          try refine wpAny_bind (wpAny_pure ?_)
          exact go
    · have hpr2 : t.probe (fun i => (es[i]?.map (·.1)).getD 0) (thash P w k) (stand.getD (t.probeStart (thash P w k))) = some (.empty (way t.mask (thash P w k) K) none) := by
        have e2 : way t.mask (thash P w k) K = (nth t.mask (nth t.mask B c) (K - c)).j := by rw [wj, show c + (K - c) = K by omega]
        rw [hst, e2]
        exact hpr
      rw [hpr2]
      dsimp only
      refine wpAny_pure (hout fun hm => ?_)
      obtain ⟨p0, h0, hk0⟩ := List.mem_map.mp hm
      obtain ⟨i0, hi0, e0⟩ := List.getElem_of_mem h0
      have h00 : L[i0]? = some p0 := by rw [List.getElem?_eq_getElem hi0, e0]
      obtain ⟨c0, a1, a2, a3⟩ := hre i0 p0 h00 hk0
      exact skip (K - c) i0 p0 hno h00 hk0 c0 a1 (by omega) a3
theorem find_succ (b : Addr) (y : Value) (g : Int) (n : Nat) : setFindIn b y g (n + 1) = (do
    let (rows, _, _) ← setState b
    if byScan y rows then
      rule "set.find.by-scan"
      match ← setScan b y g false rows with
      | .found i => return some i
      | .absent => return none
      | .anew => return ← setFindIn b y g n
    match ← setSearch b y g with
    | .there i => return i
    | .free .. => return none) := by rfl
theorem find_at (R : SQ P w s.heap a L es ep t) {x : Addr} {k : List Int} (hx : IsT P w s.heap k x) (hu : A.units < cLine) {Q : Option Nat → Shared → Prop}
    (hin : k ∈ L.map (·.2) → ∀ i, Q (some i) s) (hout : k ∉ L.map (·.2) → Q none s) :
    wpAny (model P w) A (setFind a (.ref x) (thash P w k)) Q E s := by
  have hroom := R.room
  obtain ⟨K, hKf, hK, hKb⟩ := R.tab.first (by rw [List.length_map]; omega) (thash P w k)
  have hbig : K < 100000 := by
    have : 10 * SetTable.turns t.mask ≤ 1420 := by
      unfold SetTable.turns
      rcases R.tab.mok with e | e | e <;> omega
    omega
  obtain ⟨o, ho, hex, hd⟩ := R.ob
  unfold setFind
  rw [show (100000 : Nat) = 99999 + 1 from rfl, find_succ]
  refine wpAny_bind (wpAny_setState_of ho hd R.fits ?_)
  dsimp only
  refine wp_if_neg (by simp [byScan, Value.scannable]) ?_
  try refine wpAny_bind (wpAny_pure ?_)
  unfold setSearch
  refine wpAny_bind (seek_from R hx hu hKf hK hKb (fun hm i => ?_) (fun hm => ?_) 100000 0 none rfl (Nat.zero_le _) (by omega) fun i0 p0 h00 hk0 => ?_)
  · exact wpAny_pure (hin hm i)
  · exact wpAny_pure (hout hm)
  · have hi : (L.map fun p => thash P w p.2)[i0]? = some (thash P w k) := by rw [List.getElem?_map, h00, ← hk0] <;> rfl
    have hil : i0 < t.place.toList.length := by
      have h1 : i0 < L.length := (List.getElem?_eq_some_iff.mp h00).1
      have h2 := R.psz
      rw [Array.length_toList]
      omega
    have hj := List.getElem?_eq_getElem hil
    obtain ⟨c0, hc0, e⟩ := R.tab.before hK hi hj
    exact ⟨c0, Nat.zero_le _, hc0, by rw [hj, e]⟩
/-- walked: its entries in some order -/
theorem walk_at (R : SQ P w s.heap a L es ep t) {Q : Array (Int × Value) → Shared → Prop} (hQ : ∀ out : Array (Int × Value), out.toList.Perm (rowsOf P w L) → Q out s) :
    wpAny (model P w) A (setWalk a) Q E s := by
  obtain ⟨o, ho, hex, hd⟩ := R.ob
  unfold setWalk
  refine wpAny_bind (wpAny_setState_of ho hd R.fits ?_)
  dsimp only
  refine wpAny_bind (wpAny_byText ?_)
  by_cases hbt : w.params.followText "set-order" = true
  · refine wp_if_pos hbt ?_
    refine wpAny_bind (wpAny_askSetting (wpAny_pure (hQ _ ?_)))
    rw [← R.rows]
    exact pick_perm _ _
  · have hl : t.led = true := R.led.resolve_left hbt
    refine wp_if_neg hbt ?_
    try refine wpAny_bind (wpAny_pure ?_)
    refine wp_if_neg (by show ¬ ((!t.plain && decide (es.size > 1)) = true); rw [R.plain]; simp) ?_
    try refine wpAny_bind (wpAny_pure ?_)
    refine wpAny_bind (wpAny_of_eq (a := ()) ?_ ?_)
    · show (if (!t.led && decide (es.size > 1)) = true then unsupported "set:maker-not-led" else pure ()) = pure ()
      rw [hl]
      rfl
    · exact wpAny_pure (hQ es (by rw [R.rows]))
theorem unseen_at (R : SQ P w s.heap a L es ep t) {os : List Addr} {r : Option Addr} {Q : Array (Int × Value) → Shared → Prop} (hQ : ∀ out : Array (Int × Value), out.toList.Perm (rowsOf P w L) → Q out s) :
    wpAny (model P w) A (setWalkUnseen a os r) Q E s := by
  obtain ⟨o, ho, hex, hd⟩ := R.ob
  unfold setWalkUnseen
  refine wpAny_bind (wpAny_setState_of ho hd R.fits ?_)
  dsimp only
  refine wpAny_bind (wpAny_byText ?_)
  refine wp_if_pos ?_ (walk_at R hQ)
  rw [R.plain]
  rcases R.led with e | e
  · rw [e]; rfl
  · rw [e]; simp
end
end GZ
end

section
set_option Elab.async false
set_option linter.all false
set_option maxRecDepth 100000
set_option maxHeartbeats 3200000
/-! Sets of nested tuples of whole numbers (at most 60 of them): what is in, searched for. -/
namespace GN
open PySem PySem.Spec PyProof.Rows L2 Ly GY GZ
/-! ### keys without texts -/
mutual
def numK : NestedKey → Bool
  | .num _ => true
  | .tup ks => numKs ks
  | _ => false
def numKs : List NestedKey → Bool
  | [] => true
  | k :: ks => numK k && numKs ks
end
abbrev kn (P : Program) (w : World) : HeapKind P w NestedKey := nestedKind P w
section
variable {P : Program} {w : World} {A : Around} {E : Value → Shared → Prop} {s : Shared}
theorem hashBy_k : ∀ (n : Nat) (k : NestedKey) (v : Value) (Q : Bool → Shared → Prop), NestedIs s.heap k v → k.depth ≤ n → numK k = true → Q true s → wpAny (model P w) A (hashByValue n v) Q E s
  | n, .none, v, Q, _, _, hn, _ => by cases hn
  | n, .text _, v, Q, _, _, hn, _ => by cases hn
  | n, .num i, v, Q, hk, _, _, h => by
    cases hk with
    | bool _ => cases n <;> exact wpAny_pure h
    | int _ t => cases n <;> exact wpAny_pure h
  | 0, .tup ks, v, Q, hk, hd, hn, h => by
    simp only [NestedKey.depth] at hd
    omega
  | n + 1, .tup ks, v, Q, hk, hd, hn, h => by
    cases hk with
    | @tup b o vs m _ h1 h2 h3 h4 =>
        have hT : s.TypeIs (.ref b) "tuple" := ⟨o, h1, h2⟩
        unfold hashByValue
        refine wpAny_bind (wpAny_specialOf hT F.slot_tuple_hash.lookup ?_)
        show wpAny _ _ (seqItems? (.ref b) >>= _) _ _ s
        refine wpAny_bind (wpAny_seqItems h1 h3 ?_)
        refine wpAny_bind ?_
        show wpAny _ _ (forIn vs _ _) _ _ s
        rw [← Array.forIn_toList]
        refine wpAny_forIn_list _ (fun rest r s' => r.1 = none ∧ s' = s ∧ ∃ ks', NestedAll s.heap ks' rest ∧ NestedKey.depthAll ks' ≤ n ∧ numKs ks' = true ∧ ∀ k ∈ ks', k ∈ ks) _ ?_ ?_ _ _ ⟨rfl, rfl, ks, h4, by simp only [NestedKey.depth] at hd; omega, hn, fun k hk => hk⟩
        · rintro x rest r s' ⟨hr, es, ks', hall, hdp, hnum, hsub⟩
          rw [es]
          cases hall with
          | @cons k' _ kt _ g1 g2 =>
            simp only [NestedKey.depthAll] at hdp
            have hnum2 : numK k' = true ∧ numKs kt = true := Bool.and_eq_true_iff.mp hnum
            refine wpAny_bind (hashBy_k n k' x _ g1 (by omega) hnum2.1 ?_)
            simp only [Bool.not_true, Bool.false_eq_true, if_false]
            exact wpAny_pure ⟨rfl, rfl, kt, g2, by omega, hnum2.2, fun k hk => hsub k (List.mem_cons_of_mem _ hk)⟩
        · rintro ⟨r1, r2⟩ s' ⟨hr, rfl, _⟩
          simp only at hr
          subst hr
          exact wpAny_pure h
theorem ofC_k : ∀ (n : Nat) (k : NestedKey) (v : Value) (Q : Bool → Shared → Prop), NestedIs s.heap k v → k.depth ≤ n → numK k = true → Q false s → wpAny (model P w) A (ofAClassStatement n v) Q E s
  | n, .none, v, Q, _, _, hn, _ => by cases hn
  | n, .text _, v, Q, _, _, hn, _ => by cases hn
  | n, .num i, v, Q, hk, _, _, h => by
    cases hk with
    | bool _ => cases n <;> exact wpAny_pure h
    | int _ t => cases n <;> exact wpAny_pure h
  | 0, .tup ks, v, Q, hk, hd, hn, h => by
    simp only [NestedKey.depth] at hd
    omega
  | n + 1, .tup ks, v, Q, hk, hd, hn, h => by
    cases hk with
    | @tup b o vs m _ h1 h2 h3 h4 =>
        have hT : s.TypeIs (.ref b) "tuple" := ⟨o, h1, h2⟩
        unfold ofAClassStatement
        refine wpAny_bind (wpAny_typeOf hT ?_)
        dsimp only
        have e : (("tuple" : String) == "tuple") = true := by decide
        simp only [e, if_true, Bool.not_true, Bool.false_eq_true, if_false]
        try refine wpAny_bind (wpAny_pure ?_)
        try simp only [Bool.not_true, Bool.false_eq_true, if_false]
        show wpAny _ _ (seqItems? (.ref b) >>= _) _ _ s
        refine wpAny_bind (wpAny_seqItems h1 h3 ?_)
        dsimp only
        refine wpAny_bind ?_
        show wpAny _ _ (forIn vs _ _) _ _ s
        rw [← Array.forIn_toList]
        refine wpAny_forIn_list _ (fun rest r s' => r.1 = none ∧ s' = s ∧ ∃ ks', NestedAll s.heap ks' rest ∧ NestedKey.depthAll ks' ≤ n ∧ numKs ks' = true ∧ ∀ k ∈ ks', k ∈ ks) _ ?_ ?_ _ _ ⟨rfl, rfl, ks, h4, by simp only [NestedKey.depth] at hd; omega, hn, fun k hk => hk⟩
        · rintro x rest r s' ⟨hr, es, ks', hall, hdp, hnum, hsub⟩
          rw [es]
          cases hall with
          | @cons k' _ kt _ g1 g2 =>
            simp only [NestedKey.depthAll] at hdp
            have hnum2 : numK k' = true ∧ numKs kt = true := Bool.and_eq_true_iff.mp hnum
            refine wpAny_bind (ofC_k n k' x _ g1 (by omega) hnum2.1 ?_)
            simp only [Bool.false_eq_true, if_false]
            exact wpAny_pure ⟨rfl, rfl, kt, g2, by omega, hnum2.2, fun k hk => hsub k (List.mem_cons_of_mem _ hk)⟩
        · rintro ⟨r1, r2⟩ s' ⟨hr, rfl, _⟩
          simp only at hr
          subst hr
          exact wpAny_pure h
/-- a nested tuple of numbers at an address -/
structure IsN (P : Program) (w : World) (h : Heap) (k : NestedKey) (a : Addr) : Prop where
  is : NestedIs h k (.ref a)
  dep : k.depth ≤ 8
  num : numK k = true
theorem IsN.kn {h : Heap} {k : NestedKey} {a : Addr} (x : IsN P w h k a) : (kn P w).is h k a := ⟨x.is, x.dep⟩
theorem IsN.inj {h : Heap} {x y : NestedKey} {a : Addr} (hx : IsN P w h x a) (hy : IsN P w h y a) : x = y := NestedIs.inj _ _ _ hx.is hy.is
theorem IsN.keep {h h' : Heap} {k : NestedKey} {a : Addr} (x : IsN P w h k a) (hk : ∀ c o, h.get? c = some o → h'.get? c = some o) : IsN P w h' k a := ⟨NestedIs.at (fun b o _ _ hb _ => hk b o hb) k _ x.is, x.dep, x.num⟩
theorem IsN.same {h h' : Heap} {k : NestedKey} {a b : Addr} {o : Obj} {es : Array (Int × Value)} {ep : Nat} {t : SetTable} (x : IsN P w h k b) (ho : h.get? a = some o) (hd : o.data = .set es ep t) (hs : Heap.SameBut a h h') : IsN P w h' k b :=
  ⟨NestedIs.at (fun c u vs n hc hu => (hs.2 c fun e => by
    subst e
    rw [ho] at hc
    cases hc
    rw [hd] at hu
    cases hu).trans hc) k _ x.is, x.dep, x.num⟩
theorem eqBool_n {x y : NestedKey} {a b : Addr} {Q : Bool → Shared → Prop} (hu : A.units + 8 < cLine) (hx : IsN P w s.heap x a) (hy : IsN P w s.heap y b) (h : Q (decide (x = y)) s) : wpAny (model P w) A (eqBool (.ref a) (.ref b)) Q E s := (kn P w).eqBool hu hx.kn hy.kn h
theorem seen_n {k : NestedKey} {b : Addr} {Q : Bool → Shared → Prop} (hk : IsN P w s.heap k b) {ys : List Value} (hy : ∀ y ∈ ys, ∃ k' c, y = Value.ref c ∧ IsN P w s.heap k' c) (h : Q false s) :
    wpAny (model P w) A (searchCouldBeSeen (.ref b) ys) Q E s := by
  unfold searchCouldBeSeen
  refine wpAny_bind ?_
  refine wpAny_forIn_list _ (fun rest r s' => r.1 = none ∧ s' = s ∧ ∀ y ∈ rest, ∃ k' c, y = Value.ref c ∧ IsN P w s.heap k' c) _ ?_ ?_ _ _ ⟨rfl, rfl, hy⟩
  · rintro v rest r s' ⟨hr, rfl, hall⟩
    obtain ⟨k', c, rfl, hc⟩ := hall v List.mem_cons_self
    have go : ∀ y ∈ rest, ∃ k' c, y = Value.ref c ∧ IsN P w s'.heap k' c := fun u hu' => hall u (List.mem_cons_of_mem _ hu')
    dsimp only
    by_cases hv : (b == c || (carriedByValue (.ref b) && carriedByValue (.ref c))) = true
    · exact wp_if_pos hv (wpAny_pure ⟨rfl, rfl, go⟩)
    · refine wp_if_neg hv ?_
      refine wpAny_bind ((kn P w).quiet hk.kn ?_)
      simp only [Bool.not_true, Bool.false_eq_true, if_false]
      refine wpAny_bind ((kn P w).quiet hc.kn ?_)
      simp only [Bool.not_true, Bool.false_eq_true, if_false]
      refine wpAny_bind (ofC_k 8 k _ _ hk.is hk.dep hk.num ?_)
      simp only [Bool.false_eq_true, if_false]
      refine wpAny_bind (ofC_k 8 k' _ _ hc.is hc.dep hc.num ?_)
      simp only [Bool.false_eq_true, if_false]
      exact wpAny_pure ⟨rfl, rfl, go⟩
  · rintro ⟨r1, r2⟩ s' ⟨hr, rfl, _⟩
    simp only at hr
    subst hr
    exact wpAny_pure h
end
end GN
end

section
set_option Elab.async false
set_option linter.all false
set_option maxRecDepth 100000
set_option maxHeartbeats 3200000
/-! A set of nested tuples: searched in, put into, laid anew. -/
namespace GN
open PySem PySem.Spec PyProof.Rows L2 Ly GY GZ
section
variable {P : Program} {w : World} {A : Around} {E : Value → Shared → Prop} {s : Shared}
def rowsN (w : World) (L : List (Addr × NestedKey)) : List (Int × Value) := L.map fun p => (p.2.hash w, Value.ref p.1)
/-- the set at a holds L, below 60 -/
structure SN (P : Program) (w : World) (h : Heap) (a : Addr) (L : List (Addr × NestedKey)) (es : Array (Int × Value)) (ep : Nat) (t : SetTable) : Prop where
  ob : ∃ o, h.get? a = some o ∧ o.ExactSet ∧ o.data = .set es ep t
  rows : es.toList = rowsN w L
  tab : TabOk t (L.map fun p => p.2.hash w)
  nd : (L.map (·.2)).Nodup
  tup : ∀ p ∈ L, IsN P w h p.2 p.1
  plain : t.plain = true
  led : w.params.followText "set-order" = true ∨ t.led = true
  room : L.length * 5 < t.mask * 3
  few : L.length < 60
variable {a : Addr} {L : List (Addr × NestedKey)} {es : Array (Int × Value)} {ep : Nat} {t : SetTable}
theorem SN.keep {h h' : Heap} (R : SN P w h a L es ep t) (ha : ∀ o, h.get? a = some o → h'.get? a = some o) (ht : ∀ p ∈ L, IsN P w h' p.2 p.1) : SN P w h' a L es ep t := by
  obtain ⟨o, ho, r⟩ := R.ob
  exact ⟨⟨o, ha o ho, r⟩, R.rows, R.tab, R.nd, ht, R.plain, R.led, R.room, R.few⟩
theorem rowsN_size {L : List (Addr × NestedKey)} {es : Array (Int × Value)} (h : es.toList = rowsN w L) : es.size = L.length := by
  have q := congrArg List.length h
  unfold rowsN at q
  rw [Array.length_toList, List.length_map] at q
  exact q
theorem SN.size {h : Heap} (R : SN P w h a L es ep t) : es.size = L.length := rowsN_size R.rows
theorem SN.psz {h : Heap} (R : SN P w h a L es ep t) : t.place.size = L.length := by
  have q := R.tab.sz
  rw [List.length_map] at q
  exact q
theorem SN.fits {h : Heap} (R : SN P w h a L es ep t) : t.fits es.size = true := by
  have h1 := R.psz
  have h2 := R.size
  have h3 := R.room
  unfold SetTable.fits SetTable.fill
  rw [R.tab.dm, Bool.and_eq_true, beq_iff_eq, decide_eq_true_eq]
  refine ⟨by omega, ?_⟩
  show t.place.size + 0 ≤ t.mask
  omega
theorem SN.at {h : Heap} (R : SN P w h a L es ep t) {i : Nat} {p : Addr × NestedKey} (q : L[i]? = some p) : es[i]? = some (p.2.hash w, Value.ref p.1) := by
  rw [← Array.getElem?_toList, R.rows]
  unfold rowsN
  rw [List.getElem?_map, q] <;> rfl
theorem SN.gw {h : Heap} (R : SN P w h a L es ep t) : ¬ t.gaveWay = true := by
  unfold SetTable.gaveWay
  rw [mask_odd R.tab.mok]
  decide
theorem SN.ty {h : Heap} (R : SN P w h a L es ep t) {s : Shared} (e : s.heap = h) : s.TypeIs (.ref a) "set" := by
  obtain ⟨o, ho, hex, _⟩ := R.ob
  exact ⟨o, by rw [e]; exact ho, hex.1⟩
/-- asked for from the c-th step on: found, or the K-th slot is free -/
theorem seek_from (R : SN P w s.heap a L es ep t) {x : Addr} {k : NestedKey} (hx : IsN P w s.heap k x) (hu : A.units + 8 < cLine) (adding : Bool) {K : Nat} (hKf : K < 10 * SetTable.turns t.mask)
    (hK : way t.mask (k.hash w) K ∉ t.place.toList) (hKb : ∀ c, c < K → way t.mask (k.hash w) c ∈ t.place.toList)
    {Q : SetFound → Shared → Prop} (hin : k ∈ L.map (·.2) → ∀ i : Option Nat, (adding = false → i ≠ none) → Q (.there i) s) (hout : k ∉ L.map (·.2) → Q (.free (way t.mask (k.hash w) K) false) s) :
    ∀ (f c : Nat) (stand : Option SetTable.Probe), stand.getD (t.probeStart (k.hash w)) = nth t.mask (runAt t.mask (SetTable.bits (k.hash w) % (t.mask + 1)) (SetTable.bits (k.hash w))) c → c ≤ K → K - c < f →
      (∀ (i : Nat) p, L[i]? = some p → p.2 = k → ∃ c0, c ≤ c0 ∧ c0 < K ∧ t.place.toList[i]? = some (way t.mask (k.hash w) c0)) →
      wpAny (model P w) A (setSearchFrom a (.ref x) (k.hash w) adding f stand) Q E s := by
  intro f
  induction f with
  | zero => exact fun c stand _ _ hf => absurd hf (Nat.not_lt_zero _)
  | succ f ih =>
    intro c stand hst hc hf hre
    obtain ⟨o, ho, hex, hd⟩ := R.ob
    rw [setSearchFrom_succ]
    refine wpAny_bind (wpAny_setState_of ho hd R.fits ?_)
    dsimp only
    refine wp_if_neg R.gw ?_
    try refine wpAny_bind (wpAny_pure ?_)
    generalize hB : runAt t.mask (SetTable.bits (k.hash w) % (t.mask + 1)) (SetTable.bits (k.hash w)) = B at hst
    have hB0 : B.dummy = none := by rw [← hB] <;> rfl
    have dn : ∀ (n : Nat) (p : SetTable.Probe), p.dummy = none → (nth t.mask p n).dummy = none := by
      intro n
      induction n with
      | zero => exact fun p h => h
      | succ n ih2 =>
        intro p h
        refine ih2 (adv t.mask p) ?_
        unfold adv
        split <;> exact h
    have wj : ∀ q, (nth t.mask (nth t.mask B c) q).j = way t.mask (k.hash w) (c + q) := fun q => by
      rw [← nth_add t.mask c B q, ← hB] <;> rfl
    have hash_of : ∀ (i : Nat) p, L[i]? = some p → (fun i => (es[i]?.map (·.1)).getD 0) i = p.2.hash w := fun i p hp => by
      show (es[i]?.map (·.1)).getD 0 = _
      rw [R.at hp] <;> rfl
    have sp := go_spec t R.tab.ris R.tab.dm (fun i => (es[i]?.map (·.1)).getD 0) (k.hash w) (10 * SetTable.turns t.mask) (K - c) _ (dn c B hB0) (by omega)
      (fun q hq => by rw [wj]; exact hKb (c + q) (by omega)) (by rw [wj, show c + (K - c) = K by omega]; exact hK)
    have skip : ∀ (q i0 : Nat) (p0 : Addr × NestedKey), (∀ (k' : Nat) (i : Nat), k' < q → t.place.toList[i]? = some (nth t.mask (nth t.mask B c) k').j → (fun i => (es[i]?.map (·.1)).getD 0) i ≠ k.hash w) → L[i0]? = some p0 → p0.2 = k → ∀ c0, c ≤ c0 → c0 < c + q → t.place.toList[i0]? = some (way t.mask (k.hash w) c0) → False := fun q i0 p0 hno h0 hk0 c0 h1 h2 h3 =>
      hno (c0 - c) i0 (by omega) (by rw [wj, show c + (c0 - c) = c0 by omega]; exact h3) ((hash_of i0 p0 h0).trans (congrArg (NestedKey.hash w) hk0))
    rcases sp with ⟨q, i, hq, hi, hh, hno, hpr⟩ | ⟨hno, hpr⟩
    · have hpr2 : t.probe (fun i => (es[i]?.map (·.1)).getD 0) (k.hash w) (stand.getD (t.probeStart (k.hash w))) = some (.candidate (way t.mask (k.hash w) (c + q)) i (nth t.mask B (c + (q + 1)))) := by
        rw [hst, ← wj, nth_add t.mask c B (q + 1)]
        exact hpr
      rw [hpr2]
      dsimp only
      rw [wj] at hi
      have hil : i < L.length := by
        have h1 : i < t.place.toList.length := (List.getElem?_eq_some_iff.mp hi).1
        have h2 := R.psz
        rw [Array.length_toList] at h1
        omega
      have hp : L[i]? = some L[i] := List.getElem?_eq_getElem hil
      generalize hpe : L[i] = p at hp
      have hpm := List.mem_of_getElem? hp
      have hpt := R.tup p hpm
      have slotq : t.slot (way t.mask (k.hash w) (c + q)) = .live i := slot_live R.tab.ris hi
      have go : wpAny (model P w) A (searchRest a (.ref x) (k.hash w) adding f es t (way t.mask (k.hash w) (c + q)) i (nth t.mask B (c + (q + 1)))) Q E s := by
        unfold searchRest
        rw [R.at hp]
        dsimp only
        refine wpAny_bind (wpAny_holding (eqBool_n hu hpt hx ?_))
        refine wpAny_bind (wpAny_setState_of ho hd R.fits ?_)
        dsimp only
        by_cases hak : (adding && decide (p.2 = k)) = true
        · refine wp_if_pos hak ?_
          exact wpAny_pure (hin (List.mem_map.mpr ⟨p, hpm, of_decide_eq_true (Bool.and_eq_true_iff.mp hak).2⟩) none fun z => by rw [z] at hak; cases hak)
        refine wp_if_neg hak ?_
        try refine wpAny_bind (wpAny_pure ?_)
        rw [sameMem]
        dsimp only
        simp only [if_true, slotq, R.at hp]
        refine wpAny_bind (wpAny_isSame_ref_self (wpAny_bind (wpAny_pure ?_)))
        simp only [if_true]
        by_cases hkk : p.2 = k
        · refine wp_if_pos (by simp [hkk]) ?_
          exact wpAny_pure (hin (List.mem_map.mpr ⟨p, hpm, hkk⟩) (some i) fun _ z => by cases z)
        · refine wp_if_neg (by simp [hkk]) ?_
          refine ih (c + (q + 1)) _ (by rw [hB]; rfl) (by omega) (by omega) fun i0 p0 h0 hk0 => ?_
          obtain ⟨c0, a1, a2, a3⟩ := hre i0 p0 h0 hk0
          refine ⟨c0, ?_, a2, a3⟩
          rcases Nat.lt_or_ge c0 (c + q) with z | z
          · exact (skip q i0 p0 hno h0 hk0 c0 a1 z a3).elim
          · rcases Nat.lt_or_ge (c + q) c0 with y | y
            · omega
            · exfalso
              have e : c0 = c + q := Nat.le_antisymm y z
              have s0 := slot_live R.tab.ris a3
              rw [e, slotq] at s0
              injection s0 with s0
              rw [← s0, hp] at h0
              exact hkk ((congrArg Prod.snd (Option.some.inj h0)).trans hk0)
      by_cases hl : t.led = true
      · refine wp_if_neg (by simp [hl]) ?_
        try refine wpAny_bind (wpAny_pure ?_)
        exact go
      · refine wp_if_pos (by simp [hl]) ?_
        refine wpAny_bind (seen_n hx (fun y hy => ?_) ?_)
        · obtain ⟨e, he, ee⟩ := List.mem_map.mp hy
          have he1 : e ∈ es ∧ e.1 = k.hash w := by simpa using he
          have he2 : e ∈ es.toList := by simpa using he1.1
          rw [R.rows] at he2
          obtain ⟨p2, hp2, e2⟩ := List.mem_map.mp he2
          exact ⟨p2.2, p2.1, by rw [← ee, ← e2], R.tup p2 hp2⟩
        · refine wp_if_neg (by decide) ?_
          try refine wpAny_bind (wpAny_pure ?_)
          exact go
    · have hpr2 : t.probe (fun i => (es[i]?.map (·.1)).getD 0) (k.hash w) (stand.getD (t.probeStart (k.hash w))) = some (.empty (way t.mask (k.hash w) K) none) := by
        have e2 : way t.mask (k.hash w) K = (nth t.mask (nth t.mask B c) (K - c)).j := by rw [wj, show c + (K - c) = K by omega]
        rw [hst, e2]
        exact hpr
      rw [hpr2]
      dsimp only
      refine wpAny_pure (hout fun hm => ?_)
      obtain ⟨p0, h0, hk0⟩ := List.mem_map.mp hm
      obtain ⟨i0, hi0, e0⟩ := List.getElem_of_mem h0
      have h00 : L[i0]? = some p0 := by rw [List.getElem?_eq_getElem hi0, e0]
      obtain ⟨c0, a1, a2, a3⟩ := hre i0 p0 h00 hk0
      exact skip (K - c) i0 p0 hno h00 hk0 c0 a1 (by omega) a3
/-- asked for: it is there, or a slot is free -/
theorem seek_at (R : SN P w s.heap a L es ep t) {x : Addr} {k : NestedKey} (hx : IsN P w s.heap k x) (hu : A.units + 8 < cLine) (adding : Bool) {Q : SetFound → Shared → Prop}
    (hin : k ∈ L.map (·.2) → ∀ i : Option Nat, (adding = false → i ≠ none) → Q (.there i) s) (hout : ∀ K, k ∉ L.map (·.2) → way t.mask (k.hash w) K ∉ t.place.toList → (∀ c, c < K → way t.mask (k.hash w) c ∈ t.place.toList) → Q (.free (way t.mask (k.hash w) K) false) s) :
    wpAny (model P w) A (setSearch a (.ref x) (k.hash w) adding) Q E s := by
  have hroom := R.room
  obtain ⟨K, hKf, hK, hKb⟩ := R.tab.first (by rw [List.length_map]; omega) (k.hash w)
  have hbig : K < 100000 := by
    have : 10 * SetTable.turns t.mask ≤ 1420 := by
      unfold SetTable.turns
      rcases R.tab.mok with e | e | e <;> omega
    omega
  unfold setSearch
  refine seek_from R hx hu adding hKf hK hKb hin (fun hm => hout K hm hK hKb) 100000 0 none rfl (Nat.zero_le _) (by omega) fun i0 p0 h00 hk0 => ?_
  have hi : (L.map fun p => p.2.hash w)[i0]? = some (k.hash w) := by rw [List.getElem?_map, h00, ← hk0] <;> rfl
  have hil : i0 < t.place.toList.length := by
    have h1 : i0 < L.length := (List.getElem?_eq_some_iff.mp h00).1
    have h2 := R.psz
    rw [Array.length_toList]
    omega
  have hj := List.getElem?_eq_getElem hil
  obtain ⟨c0, hc0, e⟩ := R.tab.before hK hi hj
  exact ⟨c0, Nat.zero_le _, hc0, by rw [hj, e]⟩
theorem find_n (R : SN P w s.heap a L es ep t) {x : Addr} {k : NestedKey} (hx : IsN P w s.heap k x) (hu : A.units + 8 < cLine) {Q : Option Nat → Shared → Prop}
    (hQ : ∀ o : Option Nat, o.isSome = decide (k ∈ L.map (·.2)) → Q o s) :
    wpAny (model P w) A (setFind a (.ref x) (k.hash w)) Q E s := by
  obtain ⟨o, ho, hex, hd⟩ := R.ob
  unfold setFind
  rw [show (100000 : Nat) = 99999 + 1 from rfl, find_succ]
  refine wpAny_bind (wpAny_setState_of ho hd R.fits ?_)
  dsimp only
  refine wp_if_neg (by simp [byScan, Value.scannable]) ?_
  try refine wpAny_bind (wpAny_pure ?_)
  refine wpAny_bind (seek_at R hx hu false (fun hm i hi => ?_) fun K hm _ _ => ?_)
  · refine wpAny_pure (hQ i ?_)
    rw [decide_eq_true hm]
    cases i with
    | none => exact absurd rfl (hi rfl)
    | some _ => rfl
  · exact wpAny_pure (hQ none (by rw [decide_eq_false hm]; rfl))
theorem order_n (L : List (Addr × NestedKey)) (es : Array (Int × Value)) (order : Array Nat) (hr : es.toList = rowsN w L) (hp : order.toList.Perm (List.range L.length)) :
    ∃ L2, (order.filterMap (es[·]?)).toList = rowsN w L2 ∧ L2.Perm L ∧ (L2.map fun p => p.2.hash w) = order.toList.map fun i => (es.map (·.1)).getD i 0 := by
  have hsz := rowsN_size hr
  have ent : ∀ i : Nat, es[i]? = (L[i]?).map fun p => (p.2.hash w, Value.ref p.1) := fun i => by
    rw [← Array.getElem?_toList, hr]
    unfold rowsN
    rw [List.getElem?_map]
  have e1 : ∀ l : List Nat, (l.filterMap fun i => es[i]?) = rowsN w (l.filterMap fun i => L[i]?) := by
    intro l
    induction l with
    | nil => rfl
    | cons i l ih =>
      rw [List.filterMap_cons, List.filterMap_cons, ent i, ih]
      cases L[i]? <;> rfl
  have e2 : ∀ l : List Nat, (∀ i ∈ l, i < L.length) → ((l.filterMap fun i => L[i]?).map fun p => p.2.hash w) = l.map fun i => (es.map (·.1)).getD i 0 := by
    intro l
    induction l with
    | nil => exact fun _ => rfl
    | cons i l ih =>
      intro h
      have hi := h i List.mem_cons_self
      have g : (es.map (·.1))[i]? = some ((L[i]).2.hash w) := by rw [Array.getElem?_map, ent i, List.getElem?_eq_getElem hi]; rfl
      rw [List.filterMap_cons_some (List.getElem?_eq_getElem hi), List.map_cons, List.map_cons, ih fun j hj => h j (List.mem_cons_of_mem _ hj)]
      congr 1
      simp [Array.getD_eq_getD_getElem?, g]
  have all : (List.range L.length).filterMap (fun i => L[i]?) = L := by
    refine List.ext_getElem? fun i => ?_
    have key : ∀ n, n ≤ L.length → (List.range n).filterMap (fun i => L[i]?) = L.take n := by
      intro n
      induction n with
      | zero => exact fun _ => rfl
      | succ n ih =>
        intro hn
        rw [List.range_succ, List.filterMap_append, ih (by omega), List.take_succ, List.getElem?_eq_getElem (show n < L.length by omega)]
        rw [List.filterMap_cons_some (List.getElem?_eq_getElem (show n < L.length by omega))]
        rfl
    rw [key L.length (Nat.le_refl _), List.take_length]
  refine ⟨order.toList.filterMap fun i => L[i]?, by first | (rw [Array.toList_filterMap]; exact e1 _) | simpa using e1 order.toList, ?_, e2 _ fun i hi => List.mem_range.mp (hp.mem_iff.mp hi)⟩
  have h := hp.filterMap fun i => L[i]?
  rw [all] at h
  exact h
theorem relay_n {o : Obj} (ho : s.heap.get? a = some o) (hex : o.ExactSet) (hd : o.data = .set es ep t) (hrows : es.toList = rowsN w L) (hsz : t.place.size = es.size) (hdm : t.dummies = #[]) (hfl : es.size ≤ t.mask)
    (nd : (L.map (·.2)).Nodup) (tup : ∀ p ∈ L, IsN P w s.heap p.2 p.1) (pl : t.plain = true) (ld : w.params.followText "set-order" = true ∨ t.led = true) (few : L.length < 60) {wanted M : Nat}
    (hw : SetTable.sizeAbove wanted - 1 = M) (hM : MaskOk M) (hw2 : SetTable.sizeAbove wanted ≤ 128) (hn : L.length * 5 < M * 3) {Q : Unit → Shared → Prop}
    (hQ : ∀ h' L' es' ep' t', Heap.SameBut a s.heap h' → SN P w h' a L' es' ep' t' → L'.Perm L → Q () { s with heap := h' }) : wpAny (model P w) A (setRelay a wanted) Q E s := by
  have hsl := rowsN_size hrows
  have hfits : t.fits es.size = true := by
    unfold SetTable.fits SetTable.fill
    rw [hdm, Bool.and_eq_true, beq_iff_eq, decide_eq_true_eq]
    show t.place.size = es.size ∧ t.place.size + 0 ≤ t.mask
    omega
  obtain ⟨t', order, e, hp, T, em, el, ep', ed⟩ := relaid_ok t (hs := es.map (·.1)) (wanted := wanted) hw hM (by rw [Array.size_map, hsl]; omega)
  rw [Array.size_map, hsl] at hp
  obtain ⟨L2, r1, r2, r3⟩ := order_n (w := w) L es order hrows hp
  rw [← r3] at T
  have hs2 : (order.filterMap (es[·]?)).size = es.size := by rw [rowsN_size r1, r2.length_eq, hsl]
  rw [setRelay_eq]
  refine wpAny_bind (wpAny_setState_of ho hd hfits ?_)
  dsimp only
  refine wp_if_neg (by rw [sizeLine_eq]; omega) ?_
  try refine wpAny_bind (wpAny_pure ?_)
  rw [e]
  dsimp only
  refine wpAny_bind ?_
  refine wp_if_neg (by rw [hs2]; simp) ?_
  try refine wpAny_bind (wpAny_pure ?_)
  refine wpAny_pure ?_
  dsimp only
  refine wpAny_storeSet_of ho hd ?_ (by rw [hs2, hsl, sizeLine_eq]; omega)
  have sb : Heap.SameBut a s.heap (s.heap.update a (Obj.putSet (order.filterMap (es[·]?)) t')) := Heap.SameBut.update ..
  exact hQ _ L2 (order.filterMap (es[·]?)) (ep + 1) t' sb ⟨⟨_, store_at ho hd, ⟨hex.1, hex.2.1, hex.2.2⟩, rfl⟩, r1, T, (r2.map (·.2)).nodup_iff.mpr nd, fun p hpm => (tup p (r2.mem_iff.mp hpm)).same ho hd sb, by rw [ep']; exact pl, by rw [el]; exact ld, by rw [r2.length_eq, em]; exact hn, by rw [r2.length_eq]; exact few⟩ r2
theorem rowsN_put (L : List (Addr × NestedKey)) (p : Nat) (x : Addr) (k : NestedKey) : rowsN w (L.take p ++ (x, k) :: L.drop p) = (rowsN w L).take p ++ (k.hash w, Value.ref x) :: (rowsN w L).drop p := by
  unfold rowsN
  rw [List.map_append, List.map_cons, List.map_take, List.map_drop]
/-- put in -/
theorem add_n (R : SN P w s.heap a L es ep t) {x : Addr} {k : NestedKey} (hx : IsN P w s.heap k x) (hu : A.units + 8 < cLine) (hfew : k ∈ L.map (·.2) ∨ L.length + 1 < 60) {Q : Bool → Shared → Prop}
    (hQ : ∀ b h' L' es' ep' t', Heap.SameBut a s.heap h' → SN P w h' a L' es' ep' t' → (k ∈ L.map (·.2) → L' = L) → (k ∉ L.map (·.2) → L'.Perm ((x, k) :: L)) → Q b { s with heap := h' }) :
    wpAny (model P w) A (setAddHashed a (.ref x) (k.hash w)) Q E s := by
  obtain ⟨o, ho, hex, hd⟩ := R.ob
  have hsl := R.size
  have hroom := R.room
  unfold setAddHashed
  refine wpAny_holding ?_
  rw [show (100000 : Nat) = 99999 + 1 from rfl, setAddHashedIn_succ]
  refine wpAny_bind (wpAny_setState_of ho hd R.fits ?_)
  dsimp only
  refine wp_if_neg (by simp [byScan, Value.scannable]) ?_
  try refine wpAny_bind (wpAny_pure ?_)
  refine wpAny_bind (seek_at R hx hu true (fun hm i _ => ?_) fun K hm hK hb => ?_)
  · exact wpAny_pure (hQ false s.heap L es ep t (Heap.SameBut.refl a s.heap) R (fun _ => rfl) fun z => absurd hm z)
  have hfew : L.length + 1 < 60 := hfew.resolve_left hm
  dsimp only
  refine wpAny_bind (wpAny_setState_of ho hd R.fits ?_)
  dsimp only
  obtain ⟨q1, q2, q3, q4, q5, q6, q7, q8, q9⟩ := R.tab.put hK hb
  have hp1 : (t.put (way t.mask (k.hash w) K)).1.plain = true := by rw [q6]; exact R.plain
  generalize hpt : t.put (way t.mask (k.hash w) K) = pt at q1 q3 q4 q5 q6 q7 q8 q9 hp1 ⊢
  obtain ⟨t1, p⟩ := pt
  dsimp only at q1 q3 q4 q5 q6 q7 q8 q9 hp1 ⊢
  subst q1
  first
    | (refine wpAny_bind ?_; refine wp_if_pos hp1 ?_; refine hashBy_k 8 k _ _ hx.is hx.dep hx.num ?_)
    | refine wp_if_pos hp1 (wpAny_bind (hashBy_k 8 k _ _ hx.is hx.dep hx.num ?_))
  simp only [if_true]
  have hin : (SetTable.insertAt es (SetTable.below t.place (way t.mask (k.hash w) K)) (k.hash w, Value.ref x)).toList = rowsN w (L.take (SetTable.below t.place (way t.mask (k.hash w) K)) ++ (x, k) :: L.drop (SetTable.below t.place (way t.mask (k.hash w) K))) := by
    rw [SetTable.toList_insertAt, rowsN_put, R.rows]
  generalize SetTable.below t.place (way t.mask (k.hash w) K) = b at q2 q3 hin ⊢
  have pm := put_perm L b (x, k)
  have hlen : (L.take b ++ (x, k) :: L.drop b).length = L.length + 1 := pm.length_eq
  have hhs : (L.take b ++ (x, k) :: L.drop b).map (fun p => p.2.hash w) = (L.map fun p => p.2.hash w).take b ++ k.hash w :: (L.map fun p => p.2.hash w).drop b := by
    rw [List.map_append, List.map_cons, List.map_take, List.map_drop]
  rw [← hhs] at q3
  have nd1 : ((L.take b ++ (x, k) :: L.drop b).map (·.2)).Nodup := by
    refine (pm.map (·.2)).nodup_iff.mpr ?_
    rw [List.map_cons]
    exact List.nodup_cons.mpr ⟨hm, R.nd⟩
  have hes := (rowsN_size hin).trans hlen
  generalize SetTable.insertAt es b (k.hash w, Value.ref x) = es1 at hin hes ⊢
  generalize L.take b ++ (x, k) :: L.drop b = L1 at pm hlen q3 nd1 hin
  refine wpAny_bind (wpAny_storeSet_of ho hd ?_ (by rw [hes, sizeLine_eq]; omega))
  have sb : Heap.SameBut a s.heap (s.heap.update a (Obj.putSet es1 t1)) := Heap.SameBut.update ..
  have ho1 := store_at (es' := es1) (t' := t1) ho hd
  generalize s.heap.update a (Obj.putSet es1 t1) = h1 at sb ho1 ⊢
  have tup1 : ∀ p ∈ L1, IsN P w h1 p.2 p.1 := fun p hp => by
    rcases List.mem_cons.mp (pm.mem_iff.mp hp) with e | hp
    · rw [e]; exact hx.same ho hd sb
    · exact (R.tup p hp).same ho hd sb
  have ld1 : w.params.followText "set-order" = true ∨ t1.led = true := by rw [q5]; exact R.led
  have full := q9
  rw [List.length_map] at full
  by_cases hf : t1.tooFull = true
  · first
      | (refine wpAny_bind ?_; refine wp_if_pos (by simp [hf]) ?_)
      | (refine wp_if_pos (by simp [hf]) ?_; refine wpAny_bind ?_)
    have hfull : (L.length + 1) * 5 ≥ t1.mask * 3 := by
      have h := hf
      unfold SetTable.tooFull at h
      rw [decide_eq_true_eq, full] at h
      exact h
    rw [hsl]
    have hsz1 : t1.place.size = es1.size := by
      have h := q3.sz
      rw [List.length_map, hlen] at h
      rw [h, hes]
    have two : (t.mask = 7 ∧ L.length = 4) ∨ (t.mask = 31 ∧ L.length = 18) := by
      rcases R.tab.mok with e | e | e
      · left; rw [q4, e] at hfull; rw [e] at hroom; exact ⟨e, by omega⟩
      · right; rw [q4, e] at hfull; rw [e] at hroom; exact ⟨e, by omega⟩
      · exfalso; rw [q4, e] at hfull; omega
    have go : ∀ M, SetTable.sizeAbove (SetTable.grown (L.length + 1)) - 1 = M → MaskOk M → SetTable.sizeAbove (SetTable.grown (L.length + 1)) ≤ 128 → (L.length + 1) * 5 < M * 3 →
        wpAny (model P w) A (setRelay a (SetTable.grown (L.length + 1))) (fun _ s' => wpAny (model P w) A (pure true) Q E s') E { s with heap := h1 } := fun M g1 g2 g3 g4 =>
      relay_n (s := { s with heap := h1 }) ho1 ⟨hex.1, hex.2.1, hex.2.2⟩ rfl hin hsz1 q3.dm (by rw [hes, q4]; rcases two with ⟨e, e2⟩ | ⟨e, e2⟩ <;> omega) nd1 tup1 hp1 ld1 (by rw [hlen]; exact hfew) g1 g2 g3 (by rw [hlen]; exact g4)
        fun h2 L2 es2 ep2 t2 sb2 R2 pm2 => wpAny_pure (hQ true h2 L2 es2 ep2 t2 (sb.trans sb2) R2 (fun z => absurd z hm) fun _ => pm2.trans pm)
    rcases two with ⟨_, e2⟩ | ⟨_, e2⟩
    · exact go 31 (by rw [e2, size_20]) (.inr (.inl rfl)) (by rw [e2, size_20]; decide) (by omega)
    · exact go 127 (by rw [e2, size_76]) (.inr (.inr rfl)) (by rw [e2, size_76]; decide) (by omega)
  · first
      | refine wp_if_neg (by simp [hf]) ?_
      | (refine wpAny_bind ?_; refine wp_if_neg (by simp [hf]) ?_; refine wpAny_pure ?_)
    refine wpAny_pure (hQ true h1 L1 es1 (ep + 1) t1 sb ⟨⟨_, ho1, ⟨hex.1, hex.2.1, hex.2.2⟩, rfl⟩, hin, q3, nd1, tup1, hp1, ld1, ?_, by rw [hlen]; exact hfew⟩ (fun z => absurd z hm) fun _ => pm)
    have h := hf
    unfold SetTable.tooFull at h
    rw [decide_eq_true_eq, full] at h
    rw [hlen]
    omega
end
end GN
end

section
set_option Elab.async false
set_option linter.all false
set_option maxRecDepth 100000
set_option maxHeartbeats 3200000
/-! Sets of nested tuples over the layer: set(), add, in. -/
namespace GN
open PySem PySem.Spec PyProof.Rows L2 Ly GY GZ
section
variable {P : Program} {w : World} {A : Around} {E : Value → Shared → Prop} {s : Shared} {a : Addr} {L : List (Addr × NestedKey)} {es : Array (Int × Value)} {ep : Nat} {t : SetTable}
theorem fresh_n {h : Heap} (ho : h.get? a = some (newSetObj w)) : SN P w h a [] #[] 0 (.fresh 0 0 (!w.params.followText "set-order")) := by
  have R : SetTR P w h a [] #[] 0 (.fresh 0 0 (!w.params.followText "set-order")) := setTR_fresh ho
  exact ⟨R.ob, R.rows, R.tab, List.nodup_nil, fun p hp => (by cases hp), R.plain, R.led, R.room, by decide⟩
theorem sadd_n (R : SN P w s.heap a L es ep t) {x : Addr} {k : NestedKey} (hx : IsN P w s.heap k x) (hu : A.units + 10 < cLine) (hfew : k ∈ L.map (·.2) ∨ L.length + 1 < 60) {Q : Value → Shared → Prop}
    (hQ : ∀ h' L' es' ep' t', Heap.SameBut a s.heap h' → SN P w h' a L' es' ep' t' → (k ∈ L.map (·.2) → L' = L) → (k ∉ L.map (·.2) → L'.Perm ((x, k) :: L)) → Q .none { s with heap := h', toks := s.toks + k.draws }) :
    wpAny (model P w) A (call (.builtin "set.add") [.ref a, .ref x]) Q E s := by
  refine wpAny_call_entry F.slot_set_add (R.ty rfl) F.entry_set_add ?_ (F.args_set_add_2 _ _)
  unfold Builtin.«set.add» Builtin.Frozenset.oneOther
  simp only [List.isEmpty_nil, bind_assoc]
  unfold Builtin.Frozenset.addrOf setAdd
  refine wpAny_bind (wpAny_pure ?_)
  try dsimp only
  refine wpAny_bind (wpAny_pure ?_)
  try dsimp only
  refine wpAny_bind ?_
  refine wpAny_holding ?_
  refine wpAny_bind ((kn P w).pyHash (by show A.in1.units + 8 < cLine; rw [Around.in1_units]; omega) hx.kn ?_)
  refine add_n (s := { s with toks := s.toks + k.draws }) R hx (by rw [Around.in1_units]; omega) hfew fun b h' L' es' ep' t' sb R' c1 c2 => ?_
  show wpAny _ _ (ret Value.none) _ _ _
  exact wpAny_pure ⟨_, rfl, hQ h' L' es' ep' t' sb R' c1 c2⟩
theorem in_n (R : SN P w s.heap a L es ep t) {x : Addr} {k : NestedKey} (hx : IsN P w s.heap k x) (hu : A.units + 10 < cLine) {neg : Bool} {Q : Value → Shared → Prop}
    (h : Q (.bool (if neg then !decide (k ∈ L.map (·.2)) else decide (k ∈ L.map (·.2)))) { s with toks := s.toks + k.draws }) : wpAny (model P w) A (compareOp (if neg then .NotIn else .In) (.ref x) (.ref a)) Q E s := by
  have key : ∀ Q' : Bool → Shared → Prop, Q' (decide (k ∈ L.map (·.2))) { s with toks := s.toks + k.draws } → wpAny (model P w) A (contains (.ref a) (.ref x)) Q' E s := fun Q' hq => by
    unfold contains
    try with_reducible refine wpAny_holding ?_
    refine wpAny_bind (wpAny_specialOf (R.ty rfl) F.slot_set_contains.lookup ?_)
    show wpAny _ _ (if (some (Value.builtin "set.__contains__") == some Value.none) = true then _ else _) _ E s
    rw [if_neg (by rw [beq_builtin_none]; exact Bool.false_ne_true)]
    refine wpAny_bind (wpAny_callSpecialUnlessNone?_slot (name := Str.ofString "__contains__") (R.ty rfl) F.slot_set_contains
      (wpAny_call_entry F.slot_set_contains (R.ty rfl) entry_set_contains ?_ (F.args_set_contains_2 _ _)))
    unfold Builtin.«frozenset.__contains__» Builtin.Frozenset.oneOther
    simp only [List.isEmpty_nil, bind_assoc]
    unfold Builtin.Frozenset.addrOf Builtin.Frozenset.withSetAsKey setContains
    refine wpAny_bind (wpAny_pure ?_)
    try dsimp only
    refine wpAny_bind (wpAny_pure ?_)
    try dsimp only
    refine wpAny_bind (wpAny_tryCatch ?_)
    refine wpAny_holding ?_
    refine wpAny_bind ((kn P w).pyHash (by show A.in1.units + 8 < cLine; rw [Around.in1_units]; omega) hx.kn ?_)
    refine wpAny_bind (find_n (s := { s with toks := s.toks + k.draws }) R hx (by rw [Around.in1_units]; omega) fun r hr => ?_)
    refine wpAny_pure ?_
    show wpAny _ _ (ret (Value.bool r.isSome)) _ _ _
    rw [hr]
    exact wpAny_pure ⟨_, rfl, wpAny_truthy_bool hq⟩
  cases neg with
  | true =>
    show wpAny _ _ (do return .bool (!(← contains (.ref a) (.ref x)))) Q E s
    exact wpAny_bind (key _ (wpAny_pure h))
  | false =>
    show wpAny _ _ (do return .bool (← contains (.ref a) (.ref x))) Q E s
    exact wpAny_bind (key _ (wpAny_pure h))
end
structure SN0 (P : Program) (w : World) (h : Heap) (a : Addr) (L : List (Addr × NestedKey)) : Prop where
  ex : ∃ (es : Array (Int × Value)) (ep : Nat) (t : SetTable), (∃ o, h.get? a = some o ∧ o.ExactSet ∧ o.data = .set es ep t) ∧ es.toList = rowsN w L ∧ TabOk t (L.map fun p => p.2.hash w) ∧ (L.map (·.2)).Nodup ∧ t.plain = true ∧
    (w.params.followText "set-order" = true ∨ t.led = true) ∧ L.length * 5 < t.mask * 3 ∧ L.length < 60
def SNO (P : Program) (w : World) (a : Addr) (L : List (Addr × NestedKey)) : HO := .ext fun h => SN0 P w h a L
theorem SN.t0 {P : Program} {w : World} {h : Heap} {a : Addr} {L : List (Addr × NestedKey)} {es : Array (Int × Value)} {ep : Nat} {t : SetTable} (R : SN P w h a L es ep t) : SN0 P w h a L :=
  ⟨es, ep, t, R.ob, R.rows, R.tab, R.nd, R.plain, R.led, R.room, R.few⟩
theorem SN0.full {P : Program} {w : World} {h : Heap} {a : Addr} {L : List (Addr × NestedKey)} (R : SN0 P w h a L) (ht : ∀ p ∈ L, IsN P w h p.2 p.1) : ∃ es ep t, SN P w h a L es ep t := by
  obtain ⟨es, ep, t, h1, h2, h3, h4, h5, h6, h7, h8⟩ := R.ex
  exact ⟨es, ep, t, h1, h2, h3, h4, ht, h5, h6, h7, h8⟩
theorem sno_new {P : Program} {w : World} {H : Hp} {h : Heap} {a : Addr} {L : List (Addr × NestedKey)} (R : SN0 P w h a L) : ObjOk P w H h a (SNO P w a L) := by
  have ⟨es, ep, t, ⟨o, ho, r⟩, q⟩ := R.ex
  refine ⟨R, ⟨o, ho⟩, fun h1 h2 p k => ?_⟩
  have ⟨es', ep', t', ⟨o', ho', r'⟩, q'⟩ := SN0.ex p
  exact ⟨es', ep', t', ⟨o', k o' ho', r'⟩, q'⟩
/-- no code object -/
theorem sno_code {P : Program} {w : World} {h : Heap} {a : Addr} {L : List (Addr × NestedKey)} (x : SN0 P w h a L) : ∀ q, SNO P w a L ≠ LamX.CodeO a q := by
  intro q e
  have f : (fun h => SN0 P w h a L) = fun h => ∃ (oc : Obj) (vs : Array Value) (t : Tok), h.get? a = some oc ∧ oc.data = .fields vs ∧ vs[1]? = some (.str q t) := by
    unfold SNO LamX.CodeO at e
    exact HO.ext.inj e
  have y := congrFun f h
  rw [eq_iff_iff] at y
  obtain ⟨es, ep, t, ⟨o, ho, _, hd⟩, _⟩ := x.ex
  obtain ⟨oc, vs, t2, h1, h2, _⟩ := y.mp x
  rw [ho] at h1
  cases h1
  rw [hd] at h2
  cases h2
section
variable {X : Cx}
/-- a key that a set may hold -/
def KeyN (K : PySem.W.Frag) (H : Hp) (v : V) (k : NestedKey) : Prop := GD.KeyD K H v k ∧ numK k = true
theorem isN_of {pins : List (Addr × Obj)} {σ : L2.St} {H : Hp} {s : Shared} (I : Inv X pins σ H s) {b : Addr} {k : NestedKey} (h : KeyN X.K H (.ref b) k) : IsN X.prog X.w s.heap k b :=
  have g := GD.KeyD.is I h.1
  ⟨g.1, g.2, h.2⟩
def rSet0N (P : Program) (w : World) : List V → Hp → VK → Prop := fun xs H Q => xs = [] ∧ ∀ p, H p = none → (∀ q, SNO P w p [] ≠ LamX.CodeO p q) → Q (.ref p) (upd H p (SNO P w p []))
theorem cr_set0N : CallR X (.type "set") (rSet0N X.prog X.w) := by
  intro pins s σ H xs us Q I r h
  obtain ⟨rfl, q⟩ := h
  cases r
  refine setR_new fun _ => ?_
  exact ⟨.ref _, upd H s.heap.objs.size (SNO X.prog X.w s.heap.objs.size []), I.laid (t' := s.toks) (fun b u e => Heap.get?_push_of_some _ e) (Nat.le_refl _) (sno_new (fresh_n (P := X.prog) (Heap.get?_push_size _ rfl)).t0), rfl, q _ (I.hok.fresh (Nat.le_refl _)) (sno_code (fresh_n (P := X.prog) (Heap.get?_push_size _ rfl)).t0)⟩
def rInN (K : PySem.W.Frag) (P : Program) (w : World) (neg : Bool) : R2 := fun x y H Q => ∃ (k : NestedKey) (a : Addr) (L : List (Addr × NestedKey)), y = .ref a ∧ KeyN K H x k ∧ H a = some (SNO P w a L) ∧ (∀ p ∈ L, KeyN K H (.ref p.1) p.2) ∧ Q (.bl (if neg then !decide (k ∈ L.map (·.2)) else decide (k ∈ L.map (·.2)))) H
theorem op_inNN {neg : Bool} (hu : X.A.units + 64 < cLine) : OpR X (compareOp (if neg then .NotIn else .In)) (rInN X.K X.prog X.w neg) := by
  intro pins s σ H x y v u Q I rx ry h
  obtain ⟨k, a, L, rfl, hk, ha, hL, q⟩ := h
  obtain ⟨b, rfl⟩ := hk.1.ref
  cases rx
  cases ry
  obtain ⟨es, ep, t, R⟩ := SN0.full (I.hok a _ ha).1 fun p hp => isN_of I (hL p hp)
  exact in_n R (isN_of I hk) (by omega) ⟨.bl _, H, I.tok _, rfl, q⟩
def rAddN (K : PySem.W.Frag) (P : Program) (w : World) : V → List V → Hp → VK → Prop := fun x xs H Q => ∃ (a b : Addr) (k : NestedKey) (L : List (Addr × NestedKey)), x = V.ref a ∧ xs = [V.ref b] ∧ KeyN K H (.ref b) k ∧ H a = some (SNO P w a L) ∧ (∀ p ∈ L, KeyN K H (.ref p.1) p.2) ∧ (k ∈ L.map (·.2) ∨ L.length + 1 < 60) ∧
  ∀ L' : List (Addr × NestedKey), (k ∈ L.map (·.2) → L' = L) → (k ∉ L.map (·.2) → L'.Perm ((b, k) :: L)) → (∀ q, SNO P w a L' ≠ LamX.CodeO a q) → Q .non (upd H a (SNO P w a L'))
theorem mt_addN (hu : X.A.units + 64 < cLine) : MtR X "set.add" (rAddN X.K X.prog X.w) := by
  intro pins s σ H x xs v us Q I rx rxs h
  obtain ⟨a, b, k, L, rfl, rfl, hk, ha, hL, room, q⟩ := h
  cases rx
  cases rxs with
  | cons ry rt =>
    cases rt
    cases ry
    obtain ⟨es, ep, t, R⟩ := SN0.full (I.hok a _ ha).1 fun p hp => isN_of I (hL p hp)
    refine sadd_n R (isN_of I hk) (by omega) room fun h' L' es' ep' t' sb new c1 c2 => ?_
    have he : ∃ u, h'.get? a = some u := by
      have ⟨o, ho, _⟩ := new.ob
      exact ⟨o, ho⟩
    exact ⟨.non, upd H a (SNO X.prog X.w a L'), I.write (e := a) (t' := s.toks + k.draws) (by rw [ha]; trivial) (.inl rfl) (fun b u hb hu => (sb.2 b hb).trans hu) he (sno_new new.t0), rfl, q L' c1 c2 (sno_code new.t0)⟩
end
end GN
end

section
set_option Elab.async false
set_option linter.all false
set_option maxRecDepth 100000
set_option maxHeartbeats 2000000
/-! the law's source of numbers -/
namespace LP
open PySem PySem.Spec PyProof.Rows L2 Ly GY
variable [LamTab] {P : Program} {W0 : World} {K : PySem.W.Frag} {mg : Str → Option Value} {base : Heap}
abbrev lMix : Stmt := top 29
abbrev lNext : Stmt := top 30
abbrev lAlike : Stmt := top 31
abbrev lInside : Stmt := top 32
abbrev lAll : Stmt := top 33
abbrev lBody : Stmt := top 34
-- _law_whole: not in this statement
-- _law_numbers: not in this statement
-- _law_counted: not in this statement
-- _law_kind: not in this statement
-- _law_wrapped: not in this statement
-- _law_strokes: not in this statement
-- _law_text: not in this statement
-- _law_beside: not in this statement
-- _law_free: not in this statement
-- _law_ways: not in this statement
-- _law_hangs: not in this statement
-- _law_height: not in this statement
-- _law_small: not in this statement
-- _law_draw: not in this statement
-- _law_best: not in this statement
-- _law_orders: not in this statement
-- _law_way: not in this statement
abbrev lLaw : Stmt := top 39
structure Nl (K : PySem.W.Frag) (mg : Str → Option Value) : Prop where
  max : mg "max" = none
  min : mg "min" = none
  str : mg "str" = none
/-- the state: a list of a number, a list of numbers and a place -/
def Sta (H : Hp) (h l : Addr) : Prop := ∃ (m t : Int) (ns : List Int), H h = some (.lst [.int m, .ref l, .int t]) ∧ H l = some (.lst (ns.map V.int)) ∧ h ≠ l ∧ 0 ≤ m ∧ m < 2147483647 ∧ ns.length ≤ 64
theorem Sta.mono {S : List Addr} {H H' : Hp} {h l : Addr} (s : Sta H h l) (k : Kp S H H') (n1 : h ∉ S) (n2 : l ∉ S) : Sta H' h l := by
  obtain ⟨m, t, ns, h1, h2, h3, h4⟩ := s
  exact ⟨m, t, ns, k.lst h1 n1, k.lst h2 n2, h3, h4⟩
theorem Sta.mono0 {H H' : Hp} {h l : Addr} (s : Sta H h l) (k : Kp [] H H') : Sta H' h l := s.mono k List.not_mem_nil List.not_mem_nil
def spMix (K : PySem.W.Frag) : Sp := fun vs H Q _ => ∃ (a : Addr) (ns : List Int) (z : Int), vs = [.ref a, .int z] ∧ SqL K H a (ns.map V.int) ∧ ns.length ≤ 64 ∧ 0 ≤ z ∧ z < 2147483647 ∧
  ∀ (H' : Hp) (h l : Addr), Kp [] H H' → H h = none → H l = none → Sta H' h l → Q (.ref h) H'
theorem scMix : FnScope ["_law_script", "_law_seed", "_law_mixed", "_law_cell"] ["_law_script", "_law_seed"] (defScope lMix) := ⟨rfl, rfl, rfl, by decide +kernel, rfl, by decide +kernel, by decide +kernel⟩
theorem ok_mix {f : Addr} {fd : FuncData} (F : Fun K "_law_mix" "_law_mix" lMix f fd) (T : Nm K mg) : FnOk P W0 K mg base CX0 1 f fd ["_law_script", "_law_seed"] (spMix K) := by
  refine F.ok scMix (fun vs H Q E h => ?_) (fun cdv A outer s H vs Q E hr h => ?_)
  · obtain ⟨a, ns, z, rfl, _⟩ := h
    rfl
  · obtain ⟨a, ns, z, rfl, hL, h64, z0, z1, q⟩ := h
    refine ⟨_, pss_cons (ps_set (i := 2) scMix.nd rfl (.inl rfl) (pv 1))
      (pss_cons (ps_for PassesOwn.never rfl (pi_list (pv 0)) (pg_name (i := 3) scMix.nd rfl (.inl rfl))
        (pss_one (ps_set (i := 2) scMix.nd rfl (.inl rfl) (pe_op op_mod (pe_op op_add (pe_op op_add (pe_op op_mul (pv 2) pe_int) (pe_op op_mod (pv 3) pe_int)) pe_int) pe_int))))
      (pss_one (ps_ret (pe_lst (pa_cons (pv 2) (pa_cons (pe_callTy call_list_of (by rfl) T.list (by decide +kernel) (pa_cons (pv 0) pa_nil)) (pa_cons pe_int pa_nil))))))), ?_⟩
    refine ⟨_, rfl, _, rfl, a, rfl, ⟨_, hL⟩, for_list (K := K) (a := a) (xs := ns.map V.int) (fun i σ H' => H' = H ∧ ∃ (m : Int) (o : Option V), σ = [some (.ref a), some (.int z), some (.int m), o] ∧ 0 ≤ m ∧ m < 2147483647) ⟨rfl, z, none, rfl, z0, z1⟩ (fun i σ H' _ p => by rw [p.1]; exact hL) (fun i x σ H' hx p => ?_) (fun σ H' p => ?_)⟩
    · obtain ⟨rfl, m, o, rfl, m0, m1⟩ := p
      obtain ⟨n, hn, rfl⟩ := int_at hx
      refine ⟨_, rfl, _, _, rfl, rfl, .inl ⟨by omega, by omega⟩, _, rfl, _, _, rfl, rfl, (by show (0 : Int) < 2147483629; decide), _, _, rfl, rfl, _, _, rfl, rfl, _, _, rfl, rfl, (by show (0 : Int) < 2147483647; decide), rfl, _, _, rfl, ?_, ?_⟩
      · exact Int.emod_nonneg _ (by decide)
      · exact Int.emod_lt_of_pos _ (by decide)
    · obtain ⟨rfl, m, o, rfl, m0, m1⟩ := p
      refine ⟨_, rfl, _, rfl, a, _, rfl, .inl hL, fun l hl => ⟨(by show 3 ≤ sizeLine; decide), fun h hh => ?_⟩⟩
      obtain ⟨hne, hh0⟩ := free_upd hh
      refine q _ h l ((Kp.new hl).trans (Kp.new hh)) hh0 hl ⟨m, 0, ns, upd_same, ?_, hne, m0, m1, h64⟩
      rw [upd_ne (Ne.symm hne)]
      exact upd_same
theorem dp_ints {H : Hp} : ∀ ns : List Int, DpAll K H (ns.map V.int) (ns.map PyData.int)
  | [] => .nil
  | n :: ns => .cons (.int n) (dp_ints ns)
theorem ints_lay : ∀ ns : List Int, PyData.canLayAll0 (ns.map PyData.int) = true
  | [] => by simp [PyData.canLayAll0]
  | c :: cs => by simp [PyData.canLayAll0, PyData.canLay0, ints_lay cs]
theorem ints_depth : ∀ ns : List Int, PyData.depthAll (ns.map PyData.int) ≤ 1
  | [] => by simp [PyData.depthAll]
  | c :: cs => by
    have h1 := ints_depth cs
    simp only [List.map_cons, PyData.depthAll, PyData.depth]
    omega
theorem ints_shaped (ns : List Int) : SeqAt.shaped (.list (ns.map PyData.int)) = true := by
  have h1 := ints_depth ns
  have h2 : PyData.depth (.list (ns.map PyData.int)) ≤ 64 := by
    simp only [PyData.depth]
    omega
  show (PyData.canLay0 (.list (ns.map PyData.int)) && decide (PyData.depth (.list (ns.map PyData.int)) ≤ 64)) = true
  rw [Bool.and_eq_true]
  exact ⟨by simp only [PyData.canLay0]; exact ints_lay ns, decide_eq_true h2⟩
theorem ixN_nat {n : Nat} {i : Int} (h0 : 0 ≤ i) (h : i < (n : Int)) : ixN n i = some i.toNat := by
  unfold ixN
  rw [if_pos h0, if_pos h]
theorem iteF' {c : Bool} {A B : Prop} (h : c = false) (b : B) : if c = true then A else B := itB0 h b
theorem iteT' {c : Bool} {A B : Prop} (h : c = true) (a : A) : if c = true then A else B := itB1 h a
def spNext : Sp := fun vs H Q _ => ∃ (h l : Addr) (many : Int), vs = [.ref h, .int many] ∧ 0 < many ∧ many < 1073741824 ∧ Sta H h l ∧
  ∀ (H' : Hp) (r : Int), Kp [h, l] H H' → Sta H' h l → 0 ≤ r → r < many → Q (.int r) H'
theorem scNext : FnScope ["_law_h", "_law_many", "_law_at", "_law_cell"] ["_law_h", "_law_many"] (defScope lNext) := ⟨rfl, rfl, rfl, by decide +kernel, rfl, by decide +kernel, by decide +kernel⟩
theorem ok_next {f : Addr} {fd : FuncData} (F : Fun K "_law_next" "_law_next" lNext f fd) (T : Nm K mg) (U : Nl K mg) : FnOk P W0 K mg base CX0 1 f fd ["_law_h", "_law_many"] spNext := by
  refine F.ok scNext (fun vs H Q E h => ?_) (fun cdv A outer s H vs Q E hr h => ?_)
  · obtain ⟨h, l, many, rfl, _⟩ := h
    rfl
  · obtain ⟨h, l, many, rfl, my0, my1, hS, q⟩ := h
    refine ⟨_, pss_cons (ps_set (i := 2) scNext.nd rfl (.inl rfl) (pe_op op_mod (pe_ix ix_list (pv 0) pe_int (fun _ _ => rfl)) (pe_callB (call_max2 rfl) (by rfl) U.max (by decide +kernel) (pa_cons pe_int (pa_cons (pe_callB call_len_seq (by rfl) T.len PySem.boot_len (pa_cons (pe_ix ix_list (pv 0) pe_int (fun _ _ => rfl)) pa_nil)) pa_nil)))))
      (pss_cons (ps_set (i := 3) scNext.nd rfl (.inl rfl) (pe_ifExp (pt_cmpR (op_neD hr.units) (pe_ix ix_list (pv 0) pe_int (fun _ _ => rfl)) (pe_lst pa_nil) (nomark _)) (pe_ix ix_list (pe_ix ix_list (pv 0) pe_int (fun _ _ => rfl)) (pv 2) (fun _ _ => rfl)) pe_int))
      (pss_cons (ps_if (pt_cmpR op_ge (pv 3) (pe_op op_pow pe_int pe_int) (nomark _))
        (pss_cons (ps_asg (pe_op op_fdiv (pv 3) (pv 1)) (pg_sub (pe_ix ix_list (pv 0) pe_int (fun _ _ => rfl)) (pv 2) set_list)) (pss_one (ps_ret (pe_op op_mod (pv 3) (pv 1))))) pss_nil)
      (pss_cons (ps_asg (pe_op op_mod (pe_op op_add (pe_op op_add (pe_op op_mul (pe_ix ix_list (pv 0) pe_int (fun _ _ => rfl)) pe_int) (pe_op op_mul (pv 3) pe_int)) pe_int) pe_int) (pg_sub (pv 0) pe_int set_list))
      (pss_cons (ps_asg (pe_op op_add (pe_ix ix_list (pv 0) pe_int (fun _ _ => rfl)) pe_int) (pg_sub (pv 0) pe_int set_list))
      (pss_one (ps_ret (pe_op op_mod (pe_op op_fdiv (pe_ix ix_list (pv 0) pe_int (fun _ _ => rfl)) pe_int) (pv 1)))))))), ?_⟩
    obtain ⟨m, t, ns, hH, hL, hne, m0, m1, h64⟩ := hS
    refine ⟨_, rfl, h, _, 2, _, rfl, rfl, SqL.of hH, rfl, ?_⟩
    refine ⟨_, rfl, h, _, 1, _, rfl, rfl, SqL.of hH, rfl, l, _, rfl, .inl (SqL.of hL), 1, _, rfl, ?_⟩
    have hjp : (0 : Int) < (if ((ns.map V.int).length : Int) > 1 then ((ns.map V.int).length : Int) else 1) := by
      split <;> omega
    refine ⟨_, _, rfl, rfl, hjp, ?_⟩
    have e0 := Int.emod_nonneg t (Int.ne_of_gt hjp)
    have e1 := Int.emod_lt_of_pos t hjp
    generalize hat : t % (if ((ns.map V.int).length : Int) > 1 then ((ns.map V.int).length : Int) else 1) = at_ at e0 e1
    refine ⟨_, rfl, h, _, 1, _, rfl, rfl, SqL.of hH, rfl, Nat.zero_le _, fun p hp => ?_⟩
    have kp : Kp [] H (upd H p (.lst [])) := Kp.new hp
    have hPp : upd H p (.lst []) p = some (.lst []) := upd_same
    have hH1 := kp.lst hH List.not_mem_nil
    have hL1 := kp.lst hL List.not_mem_nil
    generalize upd H p (.lst []) = H1 at kp hPp hH1 hL1 ⊢
    refine ⟨.list (ns.map PyData.int), .list [], .lst (SqL.of hL1) (dp_ints ns), .lst (SqL.of hPp) .nil, ints_shaped ns, ints_shaped [], ?_⟩
    by_cases hns : ns = []
    · subst hns
      refine ⟨_, rfl, iteF' (by simp [PyData.eqv, PyData.eqvAll]) ?_⟩
      refine ⟨_, rfl, _, _, rfl, rfl, ⟨by decide, by decide, by decide⟩, _, _, rfl, rfl, _, rfl, itD0 (by decide) ?_⟩
      have kend : ∀ (M' t' : Int), Kp [h, l] H (upd (upd H1 h (.lst [.int M', .ref l, .int t])) h (.lst [.int M', .ref l, .int t'])) := fun M' t' => by
        rw [upd_upd]
        exact kp.w0.trans (Kp.chg hH1 (by simp))
      refine ⟨_, rfl, h, _, 0, _, rfl, rfl, SqL.of hH1, rfl, _, _, rfl, rfl, .inl ⟨by omega, by omega⟩, _, rfl, _, _, rfl, rfl, .inr ⟨by omega, by omega⟩, _, _, rfl, rfl, _, _, rfl, rfl, _, _, rfl, rfl, (by show (0 : Int) < 2147483647; decide), ?_⟩
      refine ⟨_, rfl, h, _, 0, 0, rfl, rfl, hH1, rfl, ?_⟩
      have mz0 : 0 ≤ ((m * 48271 + 0 * 69621 + 11) % 2147483647) := by
        skip
        exact Int.emod_nonneg _ (by decide)
      have mz1 : ((m * 48271 + 0 * 69621 + 11) % 2147483647) < 2147483647 := by
        skip
        exact Int.emod_lt_of_pos _ (by decide)
      refine ⟨_, rfl, h, [.int ((m * 48271 + 0 * 69621 + 11) % 2147483647), .ref l, .int t], 2, _, rfl, rfl, SqL.of upd_same, rfl, _, _, rfl, rfl, _, rfl, h, [.int ((m * 48271 + 0 * 69621 + 11) % 2147483647), .ref l, .int t], 2, 2, rfl, rfl, upd_same, rfl, ?_⟩
      refine ⟨_, rfl, h, [.int ((m * 48271 + 0 * 69621 + 11) % 2147483647), .ref l, .int (t + 1)], 0, _, rfl, rfl, SqL.of upd_same, rfl, _, _, rfl, rfl, ⟨by show (0 : Int) < 7; decide, by show (7 : Int) < 1073741824; decide⟩, _, rfl, _, _, rfl, rfl, my0, ?_⟩
      refine q _ _ (kend ((m * 48271 + 0 * 69621 + 11) % 2147483647) (t + 1)) ⟨((m * 48271 + 0 * 69621 + 11) % 2147483647), t + 1, [], upd_same, ?_, hne, mz0, mz1, h64⟩ (Int.emod_nonneg _ (by omega)) (Int.emod_lt_of_pos _ my0)
      rw [upd_ne (Ne.symm hne), upd_ne (Ne.symm hne)]
      exact hL1
    · obtain ⟨n0, ns', hns'⟩ : ∃ n0 ns', ns = n0 :: ns' := by
        cases ns with
        | nil => exact absurd rfl hns
        | cons a b => exact ⟨a, b, rfl⟩
      have hlen : (1 : Int) ≤ ((ns.map V.int).length : Int) := by
        rw [List.length_map, hns', List.length_cons]
        omega
      have hlt : at_ < ((ns.map V.int).length : Int) := by
        split at e1 <;> omega
      have hltn : at_.toNat < ns.length := by
        rw [List.length_map] at hlt
        omega
      have hix : (ns.map V.int)[at_.toNat]? = some (.int ns[at_.toNat]) := by
        rw [List.getElem?_map, List.getElem?_eq_getElem hltn]
        rfl
      have eat : at_ = ((at_.toNat : Nat) : Int) := by omega
      have hai : atI (ns.map V.int) at_ = some (.int ns[at_.toNat]) := by
        have z := atI_nat hix
        rw [← eat] at z
        exact z
      have hin : ixN (ns.map V.int).length at_ = some at_.toNat := ixN_nat e0 hlt
      generalize ns[at_.toNat] = c at hai
      refine ⟨_, rfl, iteT' (by rw [hns']; simp [PyData.eqv, PyData.eqvAll]) ?_⟩
      refine ⟨_, rfl, h, _, 1, _, rfl, rfl, SqL.of hH1, rfl, _, rfl, l, _, at_, .int c, rfl, congrArg V.int hat, SqL.of hL1, hai, ?_⟩
      refine ⟨_, rfl, _, _, rfl, rfl, ⟨by decide, by decide, by decide⟩, _, _, rfl, rfl, _, rfl, ite2 (fun big => ?_) (fun small => ?_)⟩
      · refine ⟨_, rfl, _, rfl, _, _, rfl, rfl, ⟨my0, my1⟩, ?_⟩
        refine ⟨_, rfl, h, _, 1, _, rfl, rfl, SqL.of hH1, rfl, _, rfl, l, _, at_, _, rfl, congrArg V.int hat, hL1, hin, ?_⟩
        refine ⟨_, rfl, _, rfl, _, _, rfl, rfl, my0, ?_⟩
        refine q _ _ (kp.w0.trans (Kp.chg hL1 (by simp))) ⟨m, t, ns.set at_.toNat (c / many), ?_, ?_, hne, m0, m1, by rw [List.length_set]; exact h64⟩ (Int.emod_nonneg _ (by omega)) (Int.emod_lt_of_pos _ my0)
        · rw [upd_ne hne]
          exact hH1
        · rw [upd_same, List.map_set]
      · have dummy := small
        have kend : ∀ (M' t' : Int), Kp [h, l] H (upd (upd H1 h (.lst [.int M', .ref l, .int t])) h (.lst [.int M', .ref l, .int t'])) := fun M' t' => by
          rw [upd_upd]
          exact kp.w0.trans (Kp.chg hH1 (by simp))
        refine ⟨_, rfl, h, _, 0, _, rfl, rfl, SqL.of hH1, rfl, _, _, rfl, rfl, .inl ⟨by omega, by omega⟩, _, rfl, _, _, rfl, rfl, .inr ⟨by omega, by omega⟩, _, _, rfl, rfl, _, _, rfl, rfl, _, _, rfl, rfl, (by show (0 : Int) < 2147483647; decide), ?_⟩
        refine ⟨_, rfl, h, _, 0, 0, rfl, rfl, hH1, rfl, ?_⟩
        have mz0 : 0 ≤ ((m * 48271 + c * 69621 + 11) % 2147483647) := by
          skip
          exact Int.emod_nonneg _ (by decide)
        have mz1 : ((m * 48271 + c * 69621 + 11) % 2147483647) < 2147483647 := by
          skip
          exact Int.emod_lt_of_pos _ (by decide)
        refine ⟨_, rfl, h, [.int ((m * 48271 + c * 69621 + 11) % 2147483647), .ref l, .int t], 2, _, rfl, rfl, SqL.of upd_same, rfl, _, _, rfl, rfl, _, rfl, h, [.int ((m * 48271 + c * 69621 + 11) % 2147483647), .ref l, .int t], 2, 2, rfl, rfl, upd_same, rfl, ?_⟩
        refine ⟨_, rfl, h, [.int ((m * 48271 + c * 69621 + 11) % 2147483647), .ref l, .int (t + 1)], 0, _, rfl, rfl, SqL.of upd_same, rfl, _, _, rfl, rfl, ⟨by show (0 : Int) < 7; decide, by show (7 : Int) < 1073741824; decide⟩, _, rfl, _, _, rfl, rfl, my0, ?_⟩
        refine q _ _ (kend ((m * 48271 + c * 69621 + 11) % 2147483647) (t + 1)) ⟨((m * 48271 + c * 69621 + 11) % 2147483647), t + 1, ns, upd_same, ?_, hne, mz0, mz1, h64⟩ (Int.emod_nonneg _ (by omega)) (Int.emod_lt_of_pos _ my0)
        rw [upd_ne (Ne.symm hne), upd_ne (Ne.symm hne)]
        exact hL1
end LP
end

section
set_option Elab.async false
set_option linter.all false
set_option maxRecDepth 100000
set_option maxHeartbeats 4000000
/-! comprehensions whose values are data -/
namespace LP
open PySem PySem.Spec PyProof.Rows L2 Ly GY
variable [LamTab] {P : Program} {W0 : World} {K : PySem.W.Frag} {mg : Str → Option Value} {base : Heap}
theorem _root_.L2.DpAll.length {K : PySem.W.Frag} {H : Hp} : ∀ {xs : List V} {ds : List PyData}, DpAll K H xs ds → xs.length = ds.length
  | _, _, .nil => rfl
  | _, _, .cons _ b => by rw [List.length_cons, List.length_cons, b.length]
theorem _root_.L2.DpAll.get {K : PySem.W.Frag} {H : Hp} : ∀ {xs : List V} {ds : List PyData} {i : Nat} {x : V}, DpAll K H xs ds → xs[i]? = some x → ∃ d, ds[i]? = some d ∧ Dp K H x d
  | _, _, 0, _, .cons a _, h => ⟨_, rfl, by rw [← Option.some.inj h]; exact a⟩
  | _, _, i + 1, _, .cons _ b, h => b.get (i := i) h
theorem dps_keep {S : List Addr} {H H' : Hp} {vs : List V} {ds : List PyData} (k : Kp S H H') (n : noLs ds = true) (h : DpAll K H vs ds) : DpAll K H' vs ds := dps_mono k ds h (.inl n)
theorem dp_keep {S : List Addr} {H H' : Hp} {v : V} {d : PyData} (k : Kp S H H') (n : noL d = true) (h : Dp K H v d) : Dp K H' v d := dp_mono k d h (.inl n)
theorem dps_append {H : Hp} : ∀ {xs : List V} {ds : List PyData} {ys es}, DpAll K H xs ds → DpAll K H ys es → DpAll K H (xs ++ ys) (ds ++ es)
  | _, _, _, _, .nil, h => h
  | _, _, _, _, .cons a b, h => .cons a (dps_append b h)
theorem dps_one {H : Hp} {v : V} {d : PyData} (h : Dp K H v d) : DpAll K H [v] [d] := .cons h .nil
theorem dps_split {H : Hp} : ∀ {ds es : List PyData} {xs : List V}, DpAll K H xs (ds ++ es) → ∃ ys zs, xs = ys ++ zs ∧ DpAll K H ys ds ∧ DpAll K H zs es
  | [], _, xs, h => ⟨[], xs, rfl, .nil, h⟩
  | d :: ds, es, _, .cons a b => by
    obtain ⟨ys, zs, e, h1, h2⟩ := dps_split (ds := ds) b
    exact ⟨_ :: ys, zs, by rw [e]; rfl, .cons a h1, h2⟩
theorem dps_ints {H : Hp} : ∀ {vs : List V} {ns : List Int}, DpAll K H vs (ns.map PyData.int) → vs = ns.map V.int
  | [], [], _ => rfl
  | _ :: _, [], h => by cases h
  | [], _ :: _, h => by cases h
  | v :: vs, n :: ns, .cons a b => by
    have e := of_dpi a
    rw [dps_ints b, e]
    rfl
theorem noLs_map {α : Type} {f : α → PyData} (h : ∀ a, noL (f a) = true) : ∀ l : List α, noLs (l.map f) = true
  | [] => rfl
  | a :: l => by
    show (noL (f a) && noLs (l.map f)) = true
    rw [h a, noLs_map h l]
    rfl
theorem noLs_at {α : Type} {f : α → PyData} {l : List α} (h : ∀ a ∈ l, noL (f a) = true) : noLs (l.map f) = true := by
  induction l with
  | nil => rfl
  | cons a l ih =>
    show (noL (f a) && noLs (l.map f)) = true
    rw [h a List.mem_cons_self, ih fun b hb => h b (List.mem_cons_of_mem _ hb)]
    rfl
theorem take_filter {α : Type} {keep : α → Bool} {cs : List α} {i : Nat} {c : α} (h : cs[i]? = some c) : (cs.take (i + 1)).filter keep = (cs.take i).filter keep ++ (if keep c = true then [c] else []) := by
  rw [List.take_add_one, h, List.filter_append]
  congr 1
  show List.filter keep [c] = _
  rw [List.filter_cons]
  simp
theorem range_filter (keep : Nat → Bool) (i : Nat) : (List.range (i + 1)).filter keep = (List.range i).filter keep ++ (if keep i = true then [i] else []) := by
  rw [List.range_succ, List.filter_append]
  congr 1
  rw [List.filter_cons]
  simp
theorem small_size {n : Nat} (h : n ≤ 100000) : n < sizeLine := by
  have : (100000 : Nat) < sizeLine := by decide
  omega
theorem yesP {F G : Hp → Prop} {σ : L2.St} {H : Hp} (h : F H) : tYes σ H fun b H3 => if b = true then F H3 else G H3 := by
  show (if true = true then F H else G H)
  rw [if_pos rfl]
  exact h
/-- over a range: what is kept, as data -/
theorem lc_dataR {n : Nat} {D : Addr} {H1 : Hp} {lo : Int} {g : TG} {tt : TT} {te : TE} {vs : List Nat} {σ : L2.St} {Qd : Hp → Prop} (keep : Nat → Bool) (f : Nat → PyData) (nl : ∀ i, noL (f i) = true) (hD : H1 D = none) (hn : n ≤ 100000)
    (hs : ∀ (i : Nat) (H' : Hp) (Nx : V → Hp → Prop) (Z : Hp → Prop), i < n → Kp [] H1 H' → (∀ H'' y, Kp [] H' H'' → keep i = true → Dp K H'' y (f i) → Nx y H'') → (∀ H'', Kp [] H' H'' → keep i = false → Z H'') →
      g (.int (lo + i)) (wipe σ vs) H' fun σ2 H2 => wipe σ2 vs = wipe σ vs ∧ tt σ2 H2 fun b H3 => if b = true then te σ2 H3 Nx else Z H3)
    (hd : ∀ (H' : Hp) (ys : List V), Kp [] H1 H' → H' D = some (.lst ys) → DpAll K H' ys (((List.range n).filter keep).map f) → Qd H') :
    ∃ W : Nat → Nat → Hp → Prop, (∃ m, W 0 m (upd H1 D (.lst []))) ∧ ∀ i m H, W i m H →
      ((Itr lo n).stop i H ∧ Qd H) ∨ ((Itr lo n).go i H ∧ ∃ Nx : Hp → Prop, (∀ H', Nx H' → ∃ m', m' < m ∧ W (i + 1) m' H') ∧ ∀ x H', (Itr lo n).yld i H x H' → g x (wipe σ vs) H' fun σ2 H2 => wipe σ2 vs = wipe σ vs ∧ tt σ2 H2 fun b H3 =>
        if b = true then te σ2 H3 fun y H4 => ∃ acc, H4 D = some (.lst acc) ∧ acc.length < sizeLine ∧ Nx (upd H4 D (.lst (acc ++ [y]))) else Nx H3) := by
  refine lc_range (fun i H' => Kp [] H1 H' ∧ ∃ acc, H' D = some (.lst acc) ∧ DpAll K H' acc (((List.range i).filter keep).map f)) ⟨Kp.new hD, [], upd_same, .nil⟩ (fun i H' hi pv => ?_) (fun H' ⟨k, acc, h1, h2⟩ => hd H' acc k h1 h2)
  obtain ⟨k, acc, hA, hAi⟩ := pv
  refine hs i H' _ _ hi k (fun H'' y k'' hk hy => ?_) (fun H'' k'' hk => ?_)
  · have hA2 := k''.lst hA List.not_mem_nil
    have hAl := hAi.length
    rw [List.length_map] at hAl
    have hfl := List.length_filter_le keep (List.range i)
    rw [List.length_range] at hfl
    have kc : Kp [D] H'' (upd H'' D (.lst (acc ++ [y]))) := Kp.chg hA2 (List.mem_singleton.mpr rfl)
    refine ⟨acc, hA2, small_size (by omega), (k.trans k'').chg0 hD hA2, _, upd_same, ?_⟩
    rw [range_filter, if_pos hk, List.map_append]
    exact dps_append (dps_keep kc (noLs_map nl _) (dps_keep k'' (noLs_map nl _) hAi)) (dps_one (dp_keep kc (nl i) hy))
  · refine ⟨k.trans k'', acc, k''.lst hA List.not_mem_nil, ?_⟩
    rw [range_filter, hk, if_neg (by decide), List.append_nil]
    exact dps_keep k'' (noLs_map nl _) hAi
/-- over a list of data -/
theorem lc_dataL {α : Type} {a D : Addr} {xs : List V} {H1 : Hp} {g : TG} {tt : TT} {te : TE} {vs : List Nat} {σ : L2.St} {Qd : Hp → Prop} (src : List α) (dA : α → PyData) (keep : α → Bool) (f : α → PyData) (nA : ∀ c, noL (dA c) = true) (nl : ∀ c ∈ src, noL (f c) = true) (hD : H1 D = none) (hT : SqL K H1 a xs) (hI : DpAll K H1 xs (src.map dA)) (hz : src.length ≤ 100000)
    (hs : ∀ (c : α) (x : V) (H' : Hp) (Nx : V → Hp → Prop) (Z : Hp → Prop), c ∈ src → Kp [] H1 H' → Dp K H' x (dA c) → (∀ H'' y, Kp [] H' H'' → keep c = true → Dp K H'' y (f c) → Nx y H'') → (∀ H'', Kp [] H' H'' → keep c = false → Z H'') →
      g x (wipe σ vs) H' fun σ2 H2 => wipe σ2 vs = wipe σ vs ∧ tt σ2 H2 fun b H3 => if b = true then te σ2 H3 Nx else Z H3)
    (hd : ∀ (H' : Hp) (ys : List V), Kp [] H1 H' → H' D = some (.lst ys) → DpAll K H' ys ((src.filter keep).map f) → Qd H') :
    ∃ W : Nat → Nat → Hp → Prop, (∃ m, W 0 m (upd H1 D (.lst []))) ∧ ∀ i m H, W i m H →
      ((Itl K a).stop i H ∧ Qd H) ∨ ((Itl K a).go i H ∧ ∃ Nx : Hp → Prop, (∀ H', Nx H' → ∃ m', m' < m ∧ W (i + 1) m' H') ∧ ∀ x H', (Itl K a).yld i H x H' → g x (wipe σ vs) H' fun σ2 H2 => wipe σ2 vs = wipe σ vs ∧ tt σ2 H2 fun b H3 =>
        if b = true then te σ2 H3 fun y H4 => ∃ acc, H4 D = some (.lst acc) ∧ acc.length < sizeLine ∧ Nx (upd H4 D (.lst (acc ++ [y]))) else Nx H3) := by
  have hl := hI.length
  rw [List.length_map] at hl
  have nf : ∀ i, noLs ((((src.take i).filter keep)).map f) = true := fun i => noLs_at fun c hc => nl c (List.mem_of_mem_take (List.mem_filter.mp hc).1)
  refine lc_list (K := K) (a := a) (xs := xs) (fun i H' => Kp [] H1 H' ∧ ∃ acc, H' D = some (.lst acc) ∧ DpAll K H' acc (((src.take i).filter keep).map f)) ⟨Kp.new hD, [], upd_same, .nil⟩ (fun i H' _ k => k.1.sqL hT List.not_mem_nil) (fun i x H' hx pv => ?_) (fun H' pv => ?_)
  · obtain ⟨k, acc, hA, hAi⟩ := pv
    obtain ⟨d, hd0, hd'⟩ := (dps_keep k (noLs_map nA _) hI).get hx
    rw [List.getElem?_map] at hd0
    obtain ⟨c, hc, rfl⟩ := Option.map_eq_some_iff.mp hd0
    refine hs c x H' _ _ (List.mem_of_getElem? hc) k hd' (fun H'' y k'' hk hy => ?_) (fun H'' k'' hk => ?_)
    · have hA2 := k''.lst hA List.not_mem_nil
      have hi : i < src.length := (List.getElem?_eq_some_iff.mp hc).1
      have hAl := hAi.length
      rw [List.length_map] at hAl
      have hfl := List.length_filter_le keep (src.take i)
      rw [List.length_take] at hfl
      have kc : Kp [D] H'' (upd H'' D (.lst (acc ++ [y]))) := Kp.chg hA2 (List.mem_singleton.mpr rfl)
      refine ⟨acc, hA2, small_size (by omega), (k.trans k'').chg0 hD hA2, _, upd_same, ?_⟩
      rw [take_filter hc, if_pos hk, List.map_append]
      exact dps_append (dps_keep kc (nf _) (dps_keep k'' (nf _) hAi)) (dps_one (dp_keep kc (nl c (List.mem_of_getElem? hc)) hy))
    · refine ⟨k.trans k'', acc, k''.lst hA List.not_mem_nil, ?_⟩
      rw [take_filter hc, hk, if_neg (by decide), List.append_nil]
      exact dps_keep k'' (nf _) hAi
  · obtain ⟨k, acc, hA, hAi⟩ := pv
    rw [hl, List.take_length] at hAi
    exact hd H' acc k hA hAi
theorem flat_ints : ∀ ns : List Int, (ns.map V.int).all flatV = true
  | [] => rfl
  | _ :: ns => flat_ints ns
theorem inV_ints (x : Int) : ∀ ns : List Int, inV (.int x) (ns.map V.int) = decide (x ∈ ns)
  | [] => rfl
  | n :: ns => by
    have h := inV_ints x ns
    unfold inV at h ⊢
    rw [List.map_cons, List.any_cons, h]
    by_cases e : n = x
    · subst e
      rw [show eqV (.int n) (.int n) = true from by simp [eqV]]
      simp
    · rw [show eqV (.int n) (.int x) = false from by simp [eqV, e]]
      have e' : ¬ x = n := fun z => e z.symm
      simp [e']
end LP
end

section
set_option Elab.async false
set_option linter.all false
set_option maxRecDepth 100000
set_option maxHeartbeats 2000000
/-! Dicts with keys of any depth: {k: v for x in xs}, dict(pairs). -/
namespace GD
open PySem PySem.Spec PyProof.Rows L2
/-- an empty one is made -/
structure New (H H' : Hp) (a : Addr) : Prop where
  free : H a = none
  but : ∀ b, b ≠ a → H' b = H b
  now : ∃ φ, H' a = some (.ext φ)
  nc : ∀ q, H' a ≠ some (LamX.CodeO a q)
theorem new_upd {P : Program} {w : World} {H : Hp} {h : Heap} {a : Addr} {L : List Row} (n : H a = none) (x : Dn0 P w h a L) : New H (upd H a (DNO P w a L)) a :=
  ⟨n, fun b e => upd_ne e, ⟨_, upd_same⟩, fun q e => by rw [upd_same] at e; exact not_code x q (Option.some.inj e)⟩
theorem dn_nil {K : PySem.W.Frag} {P : Program} {w : World} {H : Hp} {h : Heap} {a : Addr} (x : Dn0 P w h a []) : DN K P w (upd H a (DNO P w a [])) a [] :=
  .mk0 upd_same rfl (fun p hp => (by cases hp)) fun q (e : upd H a (DNO P w a []) a = some (LamX.CodeO a q)) => by rw [upd_same] at e; exact not_code x q (Option.some.inj e)
section
variable {B : Cx} {pl : List (Addr × Obj)} {σ : L2.St} {lvl i : Nat} {x : Str} {px ip : Pos} {J : It} {it : Addr} {fp : List Addr} {tn : Nat → Heap → Prop} {acc : Value} {N : Nat} {W : Nat → Hp → Prop} {We : Hp → Prop} {bd : Sem Unit}
theorem eachD {kx vx : Expr} {gs : List Comprehension} {scope : Scope} {pos : Pos} (hc : B.calm = true) (hxe : B.xe = fun _ _ => False)
    (hturn : compTurn (.DictComp kx vx gs scope pos) lvl (.ref it) acc B.env = (do
      standAt ip
      match ← pyNext (.ref it) with
      | none => pure (.done .next)
      | some v => do
        letOwnedTupleGo (.Name x px) (.ref it) v
        assign (.Name x px) B.env v
        bd
        again (.compLoop (.DictComp kx vx gs scope pos) lvl (.ref it) acc B.env)))
    (T : Turn B.prog B.w B.K (.Name x px) J fp it tn) (pg : PG B (.Name x px) (gName i)) (hi : σ[i]? = some none)
    (fpo : ∀ {H' : Hp}, (∀ b ∈ fp, H' b = none) → ∀ b ∈ fp, FpOk B pl H' b)
    (turn : ∀ j H, W j H → (j = N ∧ J.stop j H ∧ We H) ∨ (j < N ∧ J.go j H ∧ ∀ y H', J.yld j H y H' → ∀ (pl' : List (Addr × Obj)) (s : Shared), Inv B (pl ++ pl') (σ.set i (some y)) H' s →
      wpAny (model B.prog B.w) B.A bd (fun _ s' => ∃ H2, Inv B (pl ++ pl') (σ.set i (some y)) H2 s' ∧ W (j + 1) H2) (fun _ _ => False) s))
    {Rr : Result → Shared → Prop} (hR : ∀ s' H', Inv B pl σ H' s' → We H' → Rr (.ok .next) s') (s : Shared) (H : Hp) (I : Inv B pl σ H s) (st : tn 0 s.heap) (nfp : ∀ b ∈ fp, H b = none) (w : W 0 H) :
    codeAny (model B.prog B.w) B.A (.compLoop (.DictComp kx vx gs scope pos) lvl (.ref it) acc B.env) Rr s := by
  refine codeAny_loop rfl (fun n s' => ∃ j H', Inv B pl σ H' s' ∧ tn j s'.heap ∧ (∀ b ∈ fp, H' b = none) ∧ W j H' ∧ j ≤ N ∧ n = N - j) ?_ (N - 0) ⟨0, H, I, st, nfp, w, Nat.zero_le _, rfl⟩
  rintro n s1 ⟨j, H1, I1, st1, n1, w1, hj, hn⟩
  show wpAny _ B.A ((compTurn (.DictComp kx vx gs scope pos) lvl (.ref it) acc B.env).onRaise (fun x => do noteFrame x B.env; theTreesLotGoes x)) _ _ s1
  refine wpAny_noted ?_
  rw [hturn]
  refine wpAny_bind (wpAny_standAt (wpAny_bind ?_))
  rcases turn j H1 w1 with ⟨ej, stop, we⟩ | ⟨lt, go, step⟩
  · refine thnF (T.done B rfl rfl rfl hc j pl s1 σ H1 (fun _ _ => False) I1 (fpo n1) st1 stop) fun r s2 ⟨hr, I2⟩ => ?_
    subst hr
    exact wpAny_pure (hR s2 H1 I2 we)
  · refine thnF (T.item B rfl rfl rfl hc j pl s1 σ H1 (fun _ _ => False) I1 (fpo n1) st1 go) fun r s2 ⟨u, hr, h2⟩ => ?_
    subst hr
    refine wpAny_bind (thnF h2 fun _ s3 ⟨y, H3, I3, r3, y3, st3, n3⟩ => ?_)
    have I3' := I3.pinned (fpo n3) (T.obj _ _ st3)
    have pr := pg.run _ s3 σ H3 y u (fun σ' H' => σ' = σ.set i (some y) ∧ H' = H3) I3' r3 ⟨rfl, rfl⟩
    rw [hxe] at pr
    refine wpAny_bind (thnF pr fun _ s4 ⟨σ4, H4, I4, e4, e4'⟩ => ?_)
    subst e4
    subst e4'
    refine wpAny_bind (thnF (step y H4 y3 _ s4 I4) fun _ s5 ⟨H5, I5, w5⟩ => ?_)
    refine wpAny_pure ⟨rfl, N - (j + 1), by omega, j + 1, H5, ?_, ?_, fun b hb => ?_, w5, lt, rfl⟩
    · have sb := GV.Sub.set (v := y) hi
      exact (I5.unpinned).weak sb.1 sb.2
    · exact T.keep _ _ _ st3 fun b hb o e => (I5.pin (b, o) (List.mem_append_right _ (List.mem_append_right _ (mem_pinsAt hb e)))).1
    · obtain ⟨o, e, _⟩ := T.obj _ _ st3 b hb
      exact (I5.pin (b, o) (List.mem_append_right _ (List.mem_append_right _ (mem_pinsAt hb e)))).2.1
end
section
variable {X : Cx}
/-- a: the slot of the name -/
def tDcN (K : PySem.W.Frag) (P : Program) (w : World) (wi : TI) (tk tv : TE) (vs : List Nat) (a : Nat) : TE := fun σ H Q => wi σ H fun J H1 => ∀ D H2, New H1 H2 D → DN K P w H2 D [] → ∃ (N : Nat) (W : Nat → Hp → Prop), W 0 H2 ∧ ∀ i H, W i H →
  (i = N ∧ J.stop i H ∧ Q (.ref D) H) ∨ (i < N ∧ J.go i H ∧ ∀ x H', J.yld i H x H' → tk ((wipe σ vs).set a (some x)) H' fun y H4 => tv ((wipe σ vs).set a (some x)) H4 fun z H5 =>
    ∃ kvs k, DN K P w H5 D kvs ∧ KeyD K H5 y k ∧ kvs.length < sizeLine ∧ ∀ H6, Chg H5 H6 D → DN K P w H6 D (putN kvs k z) → W (i + 1) H6)
theorem dcN_core {pins : List (Addr × Obj)} {s : Shared} {σ : L2.St} {H : Hp} {Q : VK} {pos' : Pos} {use : Option (Value → Sem Unit)} {Qf : Value → Shared → Prop} {kx vx i0 : Expr} {x0 : Str} {p0 pos : Pos} {scope : Scope} {own : List (Str × Nat)} {wi : TI} {tk tv : TE} {a : Nat} (hc : X.calm = true) (hN : X.N.Nodup) (hu : X.A.units + 64 < cLine) (ok : BlkOk X.N X.env.scope scope own)
    (ha : X.N[a]? = some x0) (ho : a ∈ own.map (·.2)) (hi : PI X (.Name x0 p0) i0 wi)
    (hg : ∀ (s : Shared) (H : Hp) (C : Addr) (cl : List (Str × Addr)) (fp : List Addr), PG (X.blk s H scope (compEnvC scope cl C X.env) fp) (.Name x0 p0) (gName a))
    (hk : ∀ (s : Shared) (H : Hp) (C : Addr) (cl : List (Str × Addr)) (fp : List Addr), PE (X.blk s H scope (compEnvC scope cl C X.env) fp) kx tk)
    (hv : ∀ (s : Shared) (H : Hp) (C : Addr) (cl : List (Str × Addr)) (fp : List Addr), PE (X.blk s H scope (compEnvC scope cl C X.env) fp) vx tv)
    (hs : ∀ x, foldedSetIterable i0 X.env x = pure x) (I : Inv X pins σ H s) (h : tDcN X.K X.prog X.w wi tk tv (own.map (·.2)) a σ H Q)
    (fin : ∀ D C s' m H', Inv X pins σ H' s' → Q (.ref D) H' → s'.heap.Ns C m → FpOk X pins H' C → compPost (model X.prog X.w) X.A X.xe use Qf (.ref D) C (.ok .next) s') :
    wpAny (model X.prog X.w) X.A (comprehension (.DictComp kx vx [⟨.Name x0 p0, i0, [], 0⟩] scope pos) scope X.env pos' newDict false (eval i0 X.env) use) Qf X.xe s := by
  have hfree : ∀ y ∈ scope.names, y.2 = .free → ∃ c, X.env.cells.lookup y.1 = some c := fun y hy e => by
    rcases ok.free y hy e with k | k
    · exact I.ok.has _ (.inl k)
    · exact I.ok.has _ (.inr k)
  refine wpAny_comprehension_free (use := use) rfl hs (closure_ok hfree) ok.kind (fun y hy e => by rw [ok.uniq y hy, e])
    (thn (hi.run pins s σ H _ I h) fun xv s1 hx => thn hx fun itv s2 h2 => ?_)
  obtain ⟨it, fp, tn, J, H2, e, I2, T, st2, f2, q⟩ := h2
  subst e
  refine wpAny_newObj_type (newEnv_comp ?_)
  generalize hD : s2.heap.objs.size = D
  have hDn : H2 D = none := I2.hok.fresh (Nat.le_of_eq hD)
  generalize hs3 : ({ s2 with heap := s2.heap.push { cls := .type "dict", data := .dict #[] } } : Shared) = s3
  have h3 : s3.heap = s2.heap.push { cls := .type "dict", data := .dict #[] } := by rw [← hs3]
  have d0 : Dn0 X.prog X.w s3.heap D [] := by
    refine ⟨?_, Nat.zero_le _, [], .nil, { cls := .type "dict", data := .dict #[] }, #[], 0, ?_, ⟨rfl, rfl, rfl⟩, rfl, rfl, List.nodup_nil⟩
    · rw [← hD]
      exact beq_eq_false_iff_ne.mpr (Nat.ne_of_gt I2.big)
    · rw [h3, ← hD]
      exact Heap.get?_push_size _ rfl
  obtain ⟨N, W, w0, turn⟩ := q D (upd H2 D (DNO X.prog X.w D [])) (new_upd hDn d0) (dn_nil d0)
  have I3 : Inv X pins σ (upd H2 D (DNO X.prog X.w D [])) s3 := by
    rw [← hs3]
    refine I2.laid (t' := s2.toks) (fun b o e => Heap.get?_push_of_some _ e) (Nat.le_of_eq hD) ?_
    rw [← h3]
    exact dno_ok d0
  have f3 : ∀ b ∈ fp, FpOk X pins (upd H2 D (DNO X.prog X.w D [])) b ∧ b < s3.heap.objs.size := fun b hb => by
    obtain ⟨o, e, _⟩ := T.obj _ _ st2 b hb
    have hlt := Heap.lt_size e
    refine ⟨⟨?_, (f2 b hb).2⟩, by rw [h3, Heap.size_push]; exact Nat.lt_succ_of_lt hlt⟩
    rw [upd_ne (by rw [← hD]; exact Nat.ne_of_lt hlt)]
    exact (f2 b hb).1
  have st3 : tn 0 s3.heap := T.keep _ _ _ st2 fun b _ o e => by rw [h3]; exact Heap.get?_push_of_some _ e
  have I4 := block_start I3 ok hN f3
  have pk := hk s3 (upd H2 D (DNO X.prog X.w D [])) s3.heap.objs.size (cellsFrom (s3.heap.objs.size + 1) scope.names (cloFrom X.env.cells scope.names [])) fp
  have pv := hv s3 (upd H2 D (DNO X.prog X.w D [])) s3.heap.objs.size (cellsFrom (s3.heap.objs.size + 1) scope.names (cloFrom X.env.cells scope.names [])) fp
  have pga := hg s3 (upd H2 D (DNO X.prog X.w D [])) s3.heap.objs.size (cellsFrom (s3.heap.objs.size + 1) scope.names (cloFrom X.env.cells scope.names [])) fp
  have hsc : (compEnvC scope (cellsFrom (s3.heap.objs.size + 1) scope.names (cloFrom X.env.cells scope.names [])) s3.heap.objs.size X.env).locals = s3.heap.objs.size := rfl
  show codeAny _ _ (.compStart (.DictComp kx vx [⟨.Name x0 p0, i0, [], 0⟩] scope pos) 0 (.ref it) (.ref D) (compEnvC scope (cellsFrom (s3.heap.objs.size + 1) scope.names (cloFrom X.env.cells scope.names [])) s3.heap.objs.size X.env)) (compPost (model X.prog X.w) X.A X.xe use Qf (.ref D) s3.heap.objs.size) { s3 with heap := pushCells (s3.heap.push { cls := .type "dict", data := .dict #[] }) scope.names }
  generalize hce : compEnvC scope (cellsFrom (s3.heap.objs.size + 1) scope.names (cloFrom X.env.cells scope.names [])) s3.heap.objs.size X.env = ce at I4 pk pv pga hsc ⊢
  have nfp : ∀ b ∈ fp, (upd H2 D (DNO X.prog X.w D [])) b = none := fun b hb => (f3 b hb).1.1
  generalize hH3 : upd H2 D (DNO X.prog X.w D []) = H3 at I3 I4 pk pv pga w0 nfp f3
  generalize hs4 : ({ s3 with heap := pushCells (s3.heap.push { cls := .type "dict", data := .dict #[] }) scope.names } : Shared) = s4 at I4 ⊢
  have st4 : tn 0 s4.heap := T.keep _ _ _ st3 fun b _ o e => by rw [← hs4]; exact pushCells_keeps _ _ _ _ (Heap.get?_push_of_some _ e)
  generalize hσ : wipe σ (own.map (·.2)) = σ0 at I4 turn
  have len0 : σ0.length = X.N.length := by rw [← hσ, wipe_length]; exact I.len
  have free0 : σ0[a]? = some none := by
    have hil : a < σ0.length := by
      rw [len0]
      exact (List.getElem?_eq_some_iff.mp ha).1
    cases hq : σ0[a]? with
    | none => rw [List.getElem?_eq_none_iff] at hq; omega
    | some o =>
      cases o with
      | none => rfl
      | some v =>
        rw [← hσ] at hq
        exact absurd ho (wipe_some hq).2
  have fpB : ∀ {H' : Hp}, (∀ b ∈ fp, H' b = none) → ∀ b ∈ fp, FpOk (X.blk s3 H3 scope ce fp) [] H' b := fun {H'} hn b hb =>
    ⟨hn b hb, (I4.ok.exf b hb).1, I4.ok.exfs b hb, .inl hb, fun x c e => (I4.ok.exf b hb).2 x c e, fun p hp => absurd (show p ∈ ([] : List (Addr × Obj)) ++ [] from hp) (by simp)⟩
  have loop : codeAny (model X.prog X.w) X.A (.compLoop (.DictComp kx vx [⟨.Name x0 p0, i0, [], 0⟩] scope pos) 0 (.ref it) (.ref D) ce) (compPost (model X.prog X.w) X.A X.xe use Qf (.ref D) s3.heap.objs.size) s4 := by
    refine eachD (B := X.blk s3 H3 scope ce fp) (pl := []) (σ := σ0) (i := a) (N := N) (W := W) (We := fun H => Q (.ref D) H) hc rfl (compTurn_dict kx vx (.Name x0 p0) i0 [] scope pos (.ref it) D ce) T pga free0 fpB (fun j H w => ?_) (fun s' H' I' hq => ?_) s4 H3 I4 st4 nfp w0
    · rcases turn j H w with z | ⟨lt, go, step⟩
      · exact .inl z
      · refine .inr ⟨lt, go, fun y H' hy pl' s5 I5 => ?_⟩
        refine wpAny_bind (thnF (pk.run _ s5 _ H' _ I5 (step y H' hy)) fun z s6 ⟨yk, H6, I6, r6, q6⟩ => ?_)
        refine wpAny_bind (wpAny_holding (thnF (pv.run _ s6 _ H6 _ I6 q6) fun z2 s7 ⟨yv, H7, I7, r7, kvs, k, dn, hkd, hz, nx⟩ => ?_))
        refine wpAny_bind (wpAny_standAt (wpAny_holding ?_))
        obtain ⟨b, rfl⟩ := hkd.ref
        cases r6
        refine put_ok (X := X.blk s3 H3 scope ce fp) I7 dn hkd hz r7 (fun xs hsz D' g => wpAny_dictSet_heap (knd := kn X.prog X.w) (hsz := hsz) (by show X.A.units + 8 < cLine; omega) (hkd.is (X := X.blk s3 H3 scope ce fp) I7) D' fun h' D2 sb => g h' _ D2 sb) fun s' H8 I8 c8 d8 => ?_
        exact ⟨H8, I8, nx H8 c8 d8⟩
    · have I7 : Inv X pins σ H' s' := I3.call' (ch := fp) I'.os I'.base I'.hok I'.bare fun b hb => ⟨(f3 b hb).1.2.2.2.1, (f3 b hb).1.2.1, (f3 b hb).1.2.2.2.2.1, (f3 b hb).1.2.2.2.2.2⟩
      have nC : H' s3.heap.objs.size = none := by
        have z : H' ce.locals = none := I'.free
        rw [hsc] at z
        exact z
      obtain ⟨m, hn, _⟩ := I'.loc
      have hn : s'.heap.Ns ce.locals m := hn
      rw [hsc] at hn
      exact fin D s3.heap.objs.size s' m H' I7 hq hn (I3.fpOk (Nat.le_refl _) nC)
  exact codeAny_compStart_dict loop (T.self X.A 0 _ _ _ st4 loop)
theorem pe_dcN {kx vx i0 : Expr} {x0 : Str} {p0 pos : Pos} {scope : Scope} {own : List (Str × Nat)} {wi : TI} {tk tv : TE} {a : Nat} (hc : X.calm = true) (hN : X.N.Nodup) (hu : X.A.units + 64 < cLine) (ok : BlkOk X.N X.env.scope scope own)
    (ha : X.N[a]? = some x0) (ho : a ∈ own.map (·.2)) (hi : PI X (.Name x0 p0) i0 wi)
    (hg : ∀ (s : Shared) (H : Hp) (C : Addr) (cl : List (Str × Addr)) (fp : List Addr), PG (X.blk s H scope (compEnvC scope cl C X.env) fp) (.Name x0 p0) (gName a))
    (hk : ∀ (s : Shared) (H : Hp) (C : Addr) (cl : List (Str × Addr)) (fp : List Addr), PE (X.blk s H scope (compEnvC scope cl C X.env) fp) kx tk)
    (hv : ∀ (s : Shared) (H : Hp) (C : Addr) (cl : List (Str × Addr)) (fp : List Addr), PE (X.blk s H scope (compEnvC scope cl C X.env) fp) vx tv)
    (hs : ∀ x, foldedSetIterable i0 X.env x = pure x := by intro _; rfl) :
    PE X (.DictComp kx vx [⟨.Name x0 p0, i0, [], 0⟩] scope pos) (tDcN X.K X.prog X.w wi tk tv (own.map (·.2)) a) := by
  refine ⟨fun pins s σ H Q I h => ?_⟩
  rw [arm_eval_DictComp]
  refine dcN_core hc hN hu ok ha ho hi hg hk hv hs I h fun D C s' m H' J q hn f => ⟨m, hn, fun h'' sb => ?_⟩
  obtain ⟨f0, f1, f2, f3, f4, f5⟩ := f
  exact ⟨.ref D, H', J.turned (t' := s'.toks) (fun b o hb e => (sb.2 b hb).trans e) f0 f1 f3 f4 f5, rfl, q⟩
/-- y = {k: v for x in xs}, y a local, on one line -/
theorem ps_setDcN {i : Nat} {y : Str} {py spos : Pos} {kx vx i0 : Expr} {x0 : Str} {p0 pos : Pos} {scope : Scope} {own : List (Str × Nat)} {wi : TI} {tk tv : TE} {a : Nat} (hc : X.calm = true) (hN : X.N.Nodup) (hu : X.A.units + 64 < cLine) (ok : BlkOk X.N X.env.scope scope own)
    (ha : X.N[a]? = some x0) (ho : a ∈ own.map (·.2)) (hi : PI X (.Name x0 p0) i0 wi)
    (hg : ∀ (s : Shared) (H : Hp) (C : Addr) (cl : List (Str × Addr)) (fp : List Addr), PG (X.blk s H scope (compEnvC scope cl C X.env) fp) (.Name x0 p0) (gName a))
    (hk : ∀ (s : Shared) (H : Hp) (C : Addr) (cl : List (Str × Addr)) (fp : List Addr), PE (X.blk s H scope (compEnvC scope cl C X.env) fp) kx tk)
    (hv : ∀ (s : Shared) (H : Hp) (C : Addr) (cl : List (Str × Addr)) (fp : List Addr), PE (X.blk s H scope (compEnvC scope cl C X.env) fp) vx tv)
    (hy : X.N[i]? = some y) (hyl : X.env.scope.names.lookup y = some .local) (hsw : swapsWith (.DictComp kx vx [⟨.Name x0 p0, i0, [], 0⟩] scope pos) (some (.Name y py)) spos.line X.env = pure true) (hs : ∀ x, foldedSetIterable i0 X.env x = pure x := by intro _; rfl) :
    PS X (.Assign [.Name y py] (.DictComp kx vx [⟨.Name x0 p0, i0, [], 0⟩] scope pos) spos) (tAsg (tDcN X.K X.prog X.w wi tk tv (own.map (·.2)) a) (gName i)) := by
  refine ⟨fun pins s σ H D I h => ?_⟩
  rw [exec_Assign_Name_used _ _ _ _ hsw]
  refine wpAny_bind (wpAny_standAt (wpAny_bind ?_))
  show wpAny _ X.A (do let _ ← comprehension (.DictComp kx vx [⟨.Name x0 p0, i0, [], 0⟩] scope pos) scope X.env (firstIterPos [⟨.Name x0 p0, i0, [], 0⟩] pos) newDict false (eval i0 X.env) (some (assign (.Name y py) X.env))) _ _ s
  have h : tDcN X.K X.prog X.w wi tk tv (own.map (·.2)) a σ H (fun x H1 => gName i x σ H1 D.nx) := h
  refine wpAny_bind (thn (dcN_core (Qf := fun _ s' => SP X pins D .next s') hc hN hu ok ha ho hi hg hk hv hs I h fun L C s' m H' J q hn f => ?_) fun _ s' hq => wpAny_pure (wpAny_pure hq))
  show wpAny _ _ (assign (.Name y py) X.env (.ref L)) _ _ _
  refine wpAny_assign_Name (store_ok2 (v := V.ref L) J hN hy (.inl hyl) rfl (fun s2 I2 ⟨c, sb, hc2⟩ => ?_) (.inr hyl))
  obtain ⟨f0, f1, f2, f3, f4, f5⟩ := f
  have apart : C ≠ c := by
    rcases hc2 with z | z
    · rw [z]; exact f1
    · exact fun e => f4 y c z e.symm
  refine ⟨m, hn.sameBut sb apart, fun h3 sb3 => ?_⟩
  exact ⟨_, H', I2.turned (t' := s2.toks) (fun b o hb e => (sb3.2 b hb).trans e) f0 f1 f3 f4 f5, q⟩
theorem swD {kx vx : Expr} {gs : List Comprehension} {scope : Scope} {pos py : Pos} {y : Str} {l : Nat} {env : Env} (hk : env.scope.kind = .function) (hy : env.scope.names.lookup y = some .local) (hl : (py.line == pos.line) = true)
    (hn : (scope.names.any fun (n, k) => n == y && (k == .local || k == .cell)) = false) : swapsWith (.DictComp kx vx gs scope pos) (some (.Name y py)) l env = pure true := by
  have k1 : env.kindOf y = some .local := hy
  have k2 : env.blockKind = .function := by unfold Env.blockKind; rw [hk]; rfl
  unfold swapsWith
  simp only [k1, k2, hn, Expr.pos, hl]
  rfl
end
end GD
end

section
set_option Elab.async false
set_option linter.all false
set_option maxRecDepth 100000
set_option maxHeartbeats 2000000
/-! dict(pairs), the keys of any depth, each once. -/
namespace GD
open PySem PySem.Spec PyProof.Rows L2
abbrev PRow := Addr × RowV
theorem stored_fresh : ∀ {ps xs : List RowV}, ((xs ++ ps).map (·.1)).Nodup → storedAllH xs ps = xs ++ ps
  | [], xs, _ => by rw [List.append_nil]; rfl
  | p :: ps, xs, h => by
    have hn : atKey xs p.1 = none := by
      unfold atKey
      rw [Option.map_eq_none_iff, List.find?_eq_none]
      intro x hx e
      have e : x.1 = p.1 := of_decide_eq_true e
      rw [List.map_append, List.nodup_append] at h
      exact h.2.2 x.1 (List.mem_map.mpr ⟨x, hx, rfl⟩) p.1 (by simp) e
    show storedAllH (storedH xs p.1 p.2.1 p.2.2) ps = _
    rw [storedH_new hn]
    have e : xs ++ p :: ps = (xs ++ [p]) ++ ps := by simp
    rw [e] at h ⊢
    exact stored_fresh h
/-- pairs of a key and a value -/
def PairsD (K : PySem.W.Frag) (H : Hp) (vs : List V) (kvs : List (NestedKey × V)) : Prop := Paired (fun v (p : NestedKey × V) => ∃ t b, v = .ref t ∧ SqT K H t [.ref b, p.2] ∧ KeyD K H (.ref b) p.1) vs kvs
section
variable {X : Cx} {pins : List (Addr × Obj)} {σ : L2.St} {H : Hp} {s : Shared}
theorem pairs_open (I : Inv X pins σ H s) : ∀ {vs : List V} {kvs : List (NestedKey × V)} {its : List Value}, PairsD X.K H vs kvs → Vals vs its → ∃ (rows : List PRow) (L : List Row), its = rows.map (fun r => Value.ref r.1) ∧ Paired RelE L (rows.map (·.2)) ∧ (L.map fun p => (p.1, p.2.2)) = kvs ∧
    (∀ p ∈ L, KeyD X.K H (.ref p.2.1) p.1) ∧ ∀ r ∈ rows, PairAt s.heap r.1 (.ref r.2.2.1) r.2.2.2
  | _, _, _, .nil, .nil => ⟨[], [], rfl, .nil, rfl, fun p hp => (by cases hp), fun r hr => (by cases hr)⟩
  | _, p :: kvs, _, .cons ⟨t, b, e, hs, hk⟩ ps, .cons r rs => by
    subst e
    cases r
    obtain ⟨rows, L, e1, e2, e3, e4, e5⟩ := pairs_open I ps rs
    obtain ⟨its, rv, pl, _⟩ := I.tuple hs
    cases rv with
    | cons r1 rv =>
      cases rv with
      | cons r2 rv =>
        cases rv
        cases r1
        refine ⟨(t, p.1, b, _) :: rows, (p.1, b, p.2) :: L, by rw [e1]; rfl, .cons ⟨rfl, rfl, r2⟩ e2, by rw [← e3]; rfl, fun q hq => ?_, fun q hq => ?_⟩
        · rcases List.mem_cons.mp hq with z | z
          · rw [z]; exact hk
          · exact e4 q z
        · rcases List.mem_cons.mp hq with z | z
          · rw [z]; exact .inl pl
          · exact e5 q z
mutual
theorem knew {K : PySem.W.Frag} {a : Addr} {o : HO} (n : H a = none) : ∀ (k : NestedKey) {v : V}, Dp K H v k.data → Dp K (upd H a o) v k.data
  | .none, v, h => by simp only [NestedKey.data] at h ⊢; cases h; exact .non
  | .num i, v, h => by simp only [NestedKey.data] at h ⊢; cases h; exact .int i
  | .text x, v, h => by simp only [NestedKey.data] at h ⊢; cases h; exact .str x
  | .tup ks, v, h => by
    simp only [NestedKey.data] at h ⊢
    cases h with
    | tup hs ha =>
      refine .tup ?_ (knews n ks ha)
      rcases hs with (h | ⟨o, h⟩) | h
      · exact .inl (.inl (by rw [upd_ne (ne_of_none h n)]; exact h))
      · exact .inl (.inr ⟨o, by rw [upd_ne (ne_of_none h n)]; exact h⟩)
      · exact .inr h
theorem knews {K : PySem.W.Frag} {a : Addr} {o : HO} (n : H a = none) : ∀ (ks : List NestedKey) {vs : List V}, DpAll K H vs (NestedKey.datas ks) → DpAll K (upd H a o) vs (NestedKey.datas ks)
  | [], vs, h => by simp only [NestedKey.datas] at h ⊢; cases h; exact .nil
  | k :: ks, vs, h => by
    simp only [NestedKey.datas] at h ⊢
    cases h with
    | cons h1 h2 => exact .cons (knew n k h1) (knews n ks h2)
end
theorem key_new {K : PySem.W.Frag} {a : Addr} {o : HO} {v : V} {k : NestedKey} (n : H a = none) (h : KeyD K H v k) : KeyD K (upd H a o) v k := ⟨knew n k h.1, h.2⟩
def rDictN (K : PySem.W.Frag) (P : Program) (w : World) : List V → Hp → VK → Prop := fun xs H Q => ∃ (a : Addr) (vs : List V) (kvs : List (NestedKey × V)), xs = [.ref a] ∧ SqL K H a vs ∧ PairsD K H vs kvs ∧ (kvs.map (·.1)).Nodup ∧ ∀ D H', New H H' D → DN K P w H' D kvs → Q (.ref D) H'
theorem rows_fst : ∀ {L : List Row} {xs : List RowV}, Paired RelE L xs → L.map (·.1) = xs.map (·.1)
  | _, _, .nil => rfl
  | _, _, .cons r t => by rw [List.map_cons, List.map_cons, r.1, rows_fst t]
theorem call_dictN (hc : X.calm = true) (hu : X.A.units + 64 < cLine) : CallR X (.type "dict") (rDictN X.K X.prog X.w) := by
  intro pins s σ H xs us Q I r h
  obtain ⟨a, vs, kvs, rfl, hs, hp, hn, q⟩ := h
  obtain ⟨u, rfl, ru⟩ := vals1 r
  cases ru
  obtain ⟨its, rv, pl, hz⟩ := I.list hs
  obtain ⟨rows, L, e1, e2, e3, e4, e5⟩ := pairs_open I hp rv
  subst e1
  have hlen : rows.length = vs.length := by have := rv.length; rw [List.length_map] at this; exact this.symm
  have nd : ((rows.map (·.2)).map (·.1)).Nodup := by
    rw [← rows_fst e2]
    have := hn
    rw [← e3, List.map_map] at this
    exact this
  refine call_dict_pairsH (knd := kn X.prog X.w) (ps := rows.map (·.2)) (PairArg.list a (rows.map fun r => Value.ref r.1).toArray (fun j => ((rows[j]?).map (·.1)).getD 0) (rows.map fun r => (Value.ref r.2.2.1, r.2.2.2))) (I.ok.hd hc) (by show X.A.units + 1 + 1 + 8 < cLine; omega) ⟨?pl, ?it⟩ ?hv ?st ?sz fun h' tk D' keep => ?fin
  case pl =>
    obtain ⟨o, n, x1, x2, x3, x4⟩ := pl
    exact ⟨o, n, x1, x2, x3, x4⟩
  case it =>
    refine ⟨by simp, fun j k v hj => ?_⟩
    rw [List.getElem?_map] at hj
    cases hr : rows[j]? with
    | none => rw [hr] at hj; cases hj
    | some r =>
      rw [hr] at hj
      cases hj
      refine ⟨by simp [hr], ?_⟩
      show PairAt s.heap (((rows[j]?).map (·.1)).getD 0) _ _
      rw [hr]
      exact e5 r (List.mem_of_getElem? hr)
  case hv =>
    refine ⟨by simp, fun i key v hi => ?_⟩
    have hi : (rows.map fun r => (Value.ref r.2.2.1, r.2.2.2))[i]? = some (key, v) := hi
    rw [List.getElem?_map] at hi
    cases hr : rows[i]? with
    | none => rw [hr] at hi; cases hi
    | some r =>
      rw [hr] at hi
      cases hi
      exact ⟨r.2.1, r.2.2.1, by rw [List.getElem?_map, hr]; rfl, rfl⟩
  case st =>
    intro h' keep x hx
    refine nestedKind_stays.stays (fun b o _ _ e _ => keep b o (Nat.ne_of_lt (Heap.lt_size e)) (by simp) e) ((rows_keys e2 e4 x hx).is I)
  case sz => rw [List.length_map]; omega
  case fin =>
    have es : storedAllH [] (rows.map (·.2)) = rows.map (·.2) := stored_fresh (xs := []) (by rw [List.nil_append]; exact nd)
    rw [es] at D'
    obtain ⟨o, en, ep, h1, h2, h3, h4, _, h5⟩ := D'
    have hl := rows_len e2
    rw [List.length_map] at hl
    have d0 : Dn0 X.prog X.w h' s.heap.objs.size L := ⟨beq_eq_false_iff_ne.mpr (Nat.ne_of_gt I.big), by omega, _, e2, o, en, ep, h1, h2, h3, h4, h5⟩
    have hf : H s.heap.objs.size = none := I.hok.fresh (Nat.le_refl _)
    refine ⟨.ref s.heap.objs.size, _, I.laid (t' := tk) (fun b o e => keep b o (by simp) e) (Nat.le_refl _) (dno_ok d0), rfl, q _ _ (new_upd hf d0) (.mk0 upd_same e3 (fun p hp => ?_) fun q z => ?_)⟩
    · exact key_new hf (e4 p hp)
    · rw [upd_same] at z
      exact not_code d0 q (Option.some.inj z)
end
end GD
end

section
set_option linter.all false
set_option maxRecDepth 100000
/-! The mathematics of ways: steps within a layer, what is reached first, what is never less. Plain Lean. -/
namespace Ly
def nb4 (c : C3) : List C3 := [(c.1 - 1, c.2.1, c.2.2), (c.1, c.2.1 - 1, c.2.2), (c.1, c.2.1 + 1, c.2.2), (c.1 + 1, c.2.1, c.2.2)]
theorem nb4_sym {c d : C3} (h : d ∈ nb4 c) : c ∈ nb4 d := by
  obtain ⟨x, y, z⟩ := c
  obtain ⟨x', y', z'⟩ := d
  simp only [nb4, List.mem_cons, List.not_mem_nil, or_false, Prod.mk.injEq] at h ⊢
  omega
theorem nb4_z {c d : C3} (h : d ∈ nb4 c) : d.2.2 = c.2.2 := by
  obtain ⟨x, y, z⟩ := c
  obtain ⟨x', y', z'⟩ := d
  simp only [nb4, List.mem_cons, List.not_mem_nil, or_false, Prod.mk.injEq] at h ⊢
  omega
inductive Path (cs src : List C3) : Nat → C3 → Prop
  | zero {c} : c ∈ src → Path cs src 0 c
  | step {n c d} : Path cs src n c → d ∈ nb4 c → d ∈ cs → Path cs src (n + 1) d
theorem Path.mem {cs src : List C3} (h : ∀ c ∈ src, c ∈ cs) : ∀ {n c}, Path cs src n c → c ∈ cs
  | _, _, .zero q => h _ q
  | _, _, .step _ _ q => q
def IsWay (cs src : List C3) (c : C3) : Option Nat → Prop
  | some n => Path cs src n c ∧ ∀ m, Path cs src m c → n ≤ m
  | none => ∀ m, ¬ Path cs src m c
theorem IsWay.uniq {cs src : List C3} {c : C3} : ∀ {o p : Option Nat}, IsWay cs src c o → IsWay cs src c p → o = p
  | some n, some m, h, k => by rw [Nat.le_antisymm (h.2 m k.1) (k.2 n h.1)]
  | some n, none, h, k => absurd h.1 (k n)
  | none, some m, h, k => absurd k.1 (h m)
  | none, none, _, _ => rfl
def wset {α : Type} (w : C3 → α) (d : C3) (v : α) : C3 → α := fun c => if c = d then v else w c
theorem wset_same {α : Type} {w : C3 → α} {d : C3} {v : α} : wset w d v d = v := if_pos rfl
theorem wset_ne {α : Type} {w : C3 → α} {c d : C3} {v : α} (h : c ≠ d) : wset w d v c = w c := if_neg h
/-! ### what is reached first -/
abbrev St2 := (C3 → Option Nat) × List C3
def visit (cs : List C3) (n : Nat) (s : St2) (d : C3) : St2 := if d ∈ cs ∧ s.1 d = none then (wset s.1 d (some (n + 1)), s.2 ++ [d]) else s
def vof (w : C3 → Option Nat) (c : C3) : Nat := (w c).getD 0
structure Bfs (cs src : List C3) (w : C3 → Option Nat) (r : List C3) (at_ : Nat) : Prop where
  sub : ∀ c ∈ r, c ∈ cs
  nd : r.Nodup
  some_ : ∀ c ∈ cs, (∃ n, w c = some n) ↔ c ∈ r
  path : ∀ c ∈ r, Path cs src (vof w c) c
  src0 : ∀ c ∈ src, c ∈ r ∧ vof w c = 0
  done : ∀ (i : Nat) (u : C3), i < at_ → r[i]? = some u → ∀ d ∈ nb4 u, d ∈ cs → d ∈ r ∧ vof w d ≤ vof w u + 1
  sorted : ∀ (i j : Nat) (u v : C3), i ≤ j → r[i]? = some u → r[j]? = some v → vof w u ≤ vof w v
  near : ∀ (u v : C3), r[at_]? = some u → v ∈ r → vof w v ≤ vof w u + 1
  low : ∀ (i : Nat) (u : C3), r[i]? = some u → vof w u ≤ i
/-- some of the neighbours of u are visited: d1 -/
structure Mid (cs src : List C3) (w : C3 → Option Nat) (r : List C3) (at_ : Nat) (u : C3) (n : Nat) (d1 : List C3) : Prop where
  sub : ∀ c ∈ r, c ∈ cs
  nd : r.Nodup
  some_ : ∀ c ∈ cs, (∃ n, w c = some n) ↔ c ∈ r
  path : ∀ c ∈ r, Path cs src (vof w c) c
  src0 : ∀ c ∈ src, c ∈ r ∧ vof w c = 0
  here : r[at_]? = some u
  val : vof w u = n
  done : ∀ (i : Nat) (u : C3), i < at_ → r[i]? = some u → ∀ d ∈ nb4 u, d ∈ cs → d ∈ r ∧ vof w d ≤ vof w u + 1
  seen : ∀ d ∈ d1, d ∈ cs → d ∈ r ∧ vof w d ≤ n + 1
  sorted : ∀ (i j : Nat) (u v : C3), i ≤ j → r[i]? = some u → r[j]? = some v → vof w u ≤ vof w v
  near : ∀ v ∈ r, vof w v ≤ n + 1
  low : ∀ (i : Nat) (u : C3), r[i]? = some u → vof w u ≤ i
theorem at_lt {α : Type} {l : List α} {i : Nat} {x : α} (h : l[i]? = some x) : i < l.length := (List.getElem?_eq_some_iff.mp h).1
theorem Bfs.mid {cs src : List C3} {w : C3 → Option Nat} {r : List C3} {i : Nat} {u : C3} (b : Bfs cs src w r i) (h : r[i]? = some u) : Mid cs src w r i u (vof w u) [] :=
  ⟨b.sub, b.nd, b.some_, b.path, b.src0, h, rfl, b.done, fun d hd => (by cases hd), b.sorted, fun v hv => b.near u v h hv, b.low⟩
theorem app_old {α : Type} {l : List α} {y : α} {i : Nat} {x : α} (h : (l ++ [y])[i]? = some x) : l[i]? = some x ∨ (i = l.length ∧ x = y) := by
  by_cases hi : i < l.length
  · rw [List.getElem?_append_left hi] at h
    exact .inl h
  · rw [List.getElem?_append_right (by omega)] at h
    have hz := at_lt h
    rw [List.length_singleton] at hz
    have e : i - l.length = 0 := by omega
    rw [e] at h
    exact .inr ⟨by omega, (Option.some.inj h).symm⟩
theorem Mid.visit {cs src : List C3} {w : C3 → Option Nat} {r : List C3} {i n : Nat} {u d : C3} {d1 : List C3} (m : Mid cs src w r i u n d1) (hd : d ∈ nb4 u) :
    Mid cs src (visit cs n (w, r) d).1 (visit cs n (w, r) d).2 i u n (d1 ++ [d]) := by
  unfold Ly.visit
  by_cases h : d ∈ cs ∧ w d = none
  · obtain ⟨h1, h2⟩ := h
    rw [if_pos ⟨h1, h2⟩]
    have nr : d ∉ r := fun z => by
      obtain ⟨k, e⟩ := (m.some_ d h1).mpr z
      rw [h2] at e
      cases e
    have ne : ∀ c ∈ r, c ≠ d := fun c hc e => nr (e ▸ hc)
    have vold : ∀ c ∈ r, vof (wset w d (some (n + 1))) c = vof w c := fun c hc => by unfold vof; rw [wset_ne (ne c hc)]
    have vnew : vof (wset w d (some (n + 1))) d = n + 1 := by unfold vof; rw [wset_same]; rfl
    have hu : u ∈ r := List.mem_of_getElem? m.here
    have hi := at_lt m.here
    refine ⟨fun c hc => ?_, ?_, fun c hc => ?_, fun c hc => ?_, fun c hc => ?_, ?_, ?_, fun j v hj hv e he hec => ?_, fun e he hec => ?_, fun j k v v' hjk hv hv' => ?_, fun v hv => ?_, fun j v hv => ?_⟩
    · rcases List.mem_append.mp hc with z | z
      · exact m.sub c z
      · rw [List.mem_singleton.mp z]; exact h1
    · exact List.nodup_append.mpr ⟨m.nd, by simp, fun a ha b hb e => by rw [List.mem_singleton.mp hb] at e; exact nr (e ▸ ha)⟩
    · by_cases e : c = d
      · subst e
        exact ⟨fun _ => List.mem_append_right _ (by simp), fun _ => ⟨n + 1, wset_same⟩⟩
      · show (∃ k, wset w d (some (n + 1)) c = some k) ↔ _
        rw [wset_ne e, m.some_ c hc, List.mem_append]
        exact ⟨.inl, fun z => z.elim id fun z => absurd (List.mem_singleton.mp z) e⟩
    · rcases List.mem_append.mp hc with z | z
      · show Path cs src (vof (wset w d (some (n + 1))) c) c
        rw [vold c z]
        exact m.path c z
      · rw [List.mem_singleton.mp z]
        show Path cs src (vof (wset w d (some (n + 1))) d) d
        rw [vnew]
        have := m.path u hu
        rw [m.val] at this
        exact .step this hd h1
    · obtain ⟨z1, z2⟩ := m.src0 c hc
      exact ⟨List.mem_append_left _ z1, by rw [vold c z1]; exact z2⟩
    · rw [List.getElem?_append_left hi]
      exact m.here
    · rw [vold u hu]
      exact m.val
    · have hv : r[j]? = some v := by
        rcases app_old hv with z | ⟨z, _⟩
        · exact z
        · have z : j = r.length := z
          omega
      obtain ⟨z1, z2⟩ := m.done j v hj hv e he hec
      have hvr : v ∈ r := List.mem_of_getElem? hv
      exact ⟨List.mem_append_left _ z1, by rw [vold e z1, vold v hvr]; exact z2⟩
    · rcases List.mem_append.mp he with z | z
      · obtain ⟨z1, z2⟩ := m.seen e z hec
        exact ⟨List.mem_append_left _ z1, by rw [vold e z1]; exact z2⟩
      · rw [List.mem_singleton.mp z]
        exact ⟨List.mem_append_right _ (by simp), by rw [vnew]; exact Nat.le_refl _⟩
    · rcases app_old hv with z | ⟨z, z'⟩ <;> rcases app_old hv' with y | ⟨y, y'⟩
      · rw [vold v (List.mem_of_getElem? z), vold v' (List.mem_of_getElem? y)]
        exact m.sorted j k v v' hjk z y
      · rw [y', vnew, vold v (List.mem_of_getElem? z)]
        exact m.near v (List.mem_of_getElem? z)
      · have := at_lt y
        omega
      · rw [z', y']
        exact Nat.le_refl _
    · rcases List.mem_append.mp hv with z | z
      · rw [vold v z]
        exact m.near v z
      · rw [List.mem_singleton.mp z, vnew]
        exact Nat.le_refl _
    · rcases app_old hv with z | ⟨z, z'⟩
      · rw [vold v (List.mem_of_getElem? z)]
        exact m.low j v z
      · rw [z', vnew]
        have z : j = r.length := z
        have := m.low i u m.here
        rw [m.val] at this
        omega
  · rw [if_neg h]
    refine ⟨m.sub, m.nd, m.some_, m.path, m.src0, m.here, m.val, m.done, fun e he hec => ?_, m.sorted, m.near, m.low⟩
    rcases List.mem_append.mp he with z | z
    · exact m.seen e z hec
    · rw [List.mem_singleton.mp z] at hec ⊢
      have hr : d ∈ r := by
        refine (m.some_ d hec).mp ?_
        cases e : w d with
        | none => exact absurd ⟨hec, e⟩ h
        | some k => exact ⟨k, rfl⟩
      exact ⟨hr, m.near d hr⟩
theorem Mid.bfs {cs src : List C3} {w : C3 → Option Nat} {r : List C3} {i n : Nat} {u : C3} (m : Mid cs src w r i u n (nb4 u)) : Bfs cs src w r (i + 1) := by
  refine ⟨m.sub, m.nd, m.some_, m.path, m.src0, fun j v hj hv d hd hdc => ?_, m.sorted, fun v v' hv hv' => ?_, m.low⟩
  · by_cases e : j < i
    · exact m.done j v e hv d hd hdc
    · have e : j = i := by omega
      rw [e, m.here] at hv
      cases hv
      rw [m.val]
      exact m.seen d hd hdc
  · have z := m.sorted i (i + 1) u v (by omega) m.here hv
    rw [m.val] at z
    have := m.near v' hv'
    omega
theorem Bfs.len {cs src : List C3} {w : C3 → Option Nat} {r : List C3} {i : Nat} (b : Bfs cs src w r i) (h64 : cs.length ≤ 64) : r.length ≤ cs.length := by
  have : ∀ (l : List C3), l.Nodup → (∀ x ∈ l, x ∈ cs) → l.length ≤ cs.length := by
    intro l
    induction l generalizing cs with
    | nil => exact fun _ _ => Nat.zero_le _
    | cons a l ih =>
      intro hn hs
      exact List.Nodup.length_le_of_subset hn fun x hx => hs x hx
  exact this r b.nd b.sub
theorem Bfs.least {cs src : List C3} {w : C3 → Option Nat} {r : List C3} (b : Bfs cs src w r r.length) : ∀ {n c}, Path cs src n c → c ∈ r ∧ vof w c ≤ n
  | _, _, .zero q => ⟨(b.src0 _ q).1, by rw [(b.src0 _ q).2]; exact Nat.le_refl _⟩
  | _, _, .step p hd hc => by
    obtain ⟨z1, z2⟩ := b.least p
    obtain ⟨i, hi⟩ := List.mem_iff_getElem?.mp z1
    obtain ⟨y1, y2⟩ := b.done i _ (at_lt hi) hi _ hd hc
    exact ⟨y1, by omega⟩
theorem Bfs.way {cs src : List C3} {w : C3 → Option Nat} {r : List C3} (b : Bfs cs src w r r.length) (h64 : cs.length ≤ 64) {c : C3} (hc : c ∈ cs) : IsWay cs src c (w c) ∧ ∀ n, w c = some n → n ≤ 63 := by
  cases e : w c with
  | none =>
    refine ⟨fun m p => ?_, fun n z => by cases z⟩
    obtain ⟨k, z⟩ := (b.some_ c hc).mpr (b.least p).1
    rw [e] at z
    cases z
  | some n =>
    have hr : c ∈ r := (b.some_ c hc).mp ⟨n, e⟩
    have ev : vof w c = n := by unfold vof; rw [e]; rfl
    refine ⟨⟨?_, fun m p => ?_⟩, fun k z => ?_⟩
    · have := b.path c hr
      rw [ev] at this
      exact this
    · have := (b.least p).2
      rw [ev] at this
      exact this
    · cases z
      obtain ⟨i, hi⟩ := List.mem_iff_getElem?.mp hr
      have h1 := b.low i c hi
      have h2 := at_lt hi
      have h3 := b.len h64
      omega
/-- the beginning -/
theorem Bfs.start {cs src : List C3} {w : C3 → Option Nat} (hs : ∀ c ∈ src, c ∈ cs) (hn : src.Nodup) (h0 : ∀ c ∈ src, w c = some 0) (h1 : ∀ c, c ∉ src → w c = none) : Bfs cs src w src 0 := by
  have v0 : ∀ c ∈ src, vof w c = 0 := fun c hc => by unfold vof; rw [h0 c hc]; rfl
  refine ⟨hs, hn, fun c _ => ⟨fun ⟨n, e⟩ => ?_, fun hc => ⟨0, h0 c hc⟩⟩, fun c hc => by rw [v0 c hc]; exact .zero hc, fun c hc => ⟨hc, v0 c hc⟩, fun i u hi => by omega, fun i j u v _ hu hv => ?_, fun u v hu hv => ?_, fun i u hu => ?_⟩
  · by_cases z : c ∈ src
    · exact z
    · rw [h1 c z] at e
      cases e
  · rw [v0 u (List.mem_of_getElem? hu)]; omega
  · rw [v0 v hv]; omega
  · rw [v0 u (List.mem_of_getElem? hu)]; omega
/-! ### what is never less -/
structure Rlx (cs src : List C3) (f : C3 → Nat) : Prop where
  most : ∀ c ∈ cs, f c ≤ 99
  path : ∀ c ∈ cs, f c < 99 → Path cs src (f c) c
  src0 : ∀ c ∈ src, f c = 0
theorem Rlx.put {cs src : List C3} {f : C3 → Nat} (r : Rlx cs src f) {c d : C3} {m : Nat} (hc : c ∈ cs) (hd : d ∈ cs) (hn : d ∈ nb4 c) (e : m = f d + 1) (l : m < f c) : Rlx cs src (wset f c m) := by
  have hm := r.most c hc
  refine ⟨fun x hx => ?_, fun x hx q => ?_, fun x hx => ?_⟩
  · by_cases z : x = c
    · rw [z, wset_same]; omega
    · rw [wset_ne z]; exact r.most x hx
  · by_cases z : x = c
    · rw [z, wset_same]
      rw [e]
      exact .step (r.path d hd (by omega)) (nb4_sym hn) hc
    · rw [wset_ne z] at q ⊢
      exact r.path x hx q
  · by_cases z : x = c
    · have := r.src0 x hx
      rw [z] at this
      omega
    · rw [wset_ne z]; exact r.src0 x hx
def Stable (cs : List C3) (f : C3 → Nat) : Prop := ∀ c ∈ cs, ∀ d ∈ nb4 c, d ∈ cs → f c ≤ f d + 1
theorem Rlx.least {cs src : List C3} {f : C3 → Nat} (r : Rlx cs src f) (s : Stable cs f) (hs : ∀ c ∈ src, c ∈ cs) : ∀ {n c}, Path cs src n c → f c ≤ n
  | _, _, .zero q => by rw [r.src0 _ q]; exact Nat.le_refl _
  | _, _, .step p hd hc => by
    have h1 := r.least s hs p
    have h2 := s _ hc _ (nb4_sym hd) (p.mem hs)
    omega
def w99 : Option Nat → Nat
  | some n => n
  | none => 99
theorem Rlx.eq {cs src : List C3} {f : C3 → Nat} (r : Rlx cs src f) (s : Stable cs f) (hs : ∀ c ∈ src, c ∈ cs) {c : C3} (hc : c ∈ cs) {o : Option Nat} (h : IsWay cs src c o) (hb : ∀ n, o = some n → n ≤ 63) : f c = w99 o := by
  cases o with
  | some n =>
    have h1 := r.least s hs h.1
    have h2 := hb n rfl
    have h3 := h.2 _ (r.path c hc (by omega))
    show f c = n
    omega
  | none =>
    show f c = 99
    have h1 := r.most c hc
    by_cases e : f c < 99
    · exact absurd (r.path c hc e) (h _)
    · omega
theorem sum_put {f : C3 → Nat} {c : C3} {m : Nat} (l : m < f c) : ∀ {cs : List C3}, c ∈ cs → (cs.map (wset f c m)).sum < (cs.map f).sum
  | d :: cs, h => by
    have le : ∀ l : List C3, (l.map (wset f c m)).sum ≤ (l.map f).sum := by
      intro l
      induction l with
      | nil => exact Nat.le_refl _
      | cons x l ih =>
        simp only [List.map_cons, List.sum_cons]
        have : wset f c m x ≤ f x := by
          by_cases e : x = c
          · rw [e, wset_same]; omega
          · rw [wset_ne e]; exact Nat.le_refl _
        omega
    simp only [List.map_cons, List.sum_cons]
    by_cases e : d = c
    · have h1 := le cs
      rw [e, wset_same]
      omega
    · have h1 : c ∈ cs := (List.mem_cons.mp h).resolve_left fun z => e z.symm
      have h2 := sum_put l h1
      rw [wset_ne e]
      omega
end Ly
end

section
set_option Elab.async false
set_option linter.all false
set_option maxRecDepth 100000
set_option maxHeartbeats 4000000
/-! dicts by cells -/
namespace LP
open PySem PySem.Spec PyProof.Rows L2 Ly GY
section
variable [LamTab] {P : Program} {W0 : World} {K : PySem.W.Frag} {S : List Addr} {H H' H1 H2 : Hp} {a : Addr}
theorem Kp.chgN (c : GD.Chg H H' a) (m : a ∈ S) : Kp S H H' := by
  obtain ⟨φ, was⟩ := c.was
  obtain ⟨ψ, now⟩ := c.now
  have eq : ∀ u, H a = some u → u = .ext φ := fun u z => by
    rw [was] at z
    exact (Option.some.inj z).symm
  exact Kp.but c.but (by rw [now]; exact fun z => by cases z) (fun u z => .inl m) (fun xs z => by cases eq _ z) (fun _ _ z => by cases eq _ z) c.nc (fun ⟨⟨ps, q1, _⟩, _⟩ => by cases eq _ q1) fun ps z => by cases eq _ z
theorem Kp.newN (n : GD.New H H' a) : Kp S H H' := by
  obtain ⟨ψ, now⟩ := n.now
  have no : ∀ u, H a ≠ some u := fun u z => by rw [n.free] at z; cases z
  exact Kp.but n.but (by rw [now]; exact fun z => by cases z) (fun u z => absurd z (no u)) (fun xs => no _) (fun _ _ => no _) (fun _ => no _) (fun ⟨⟨ps, q1, _⟩, _⟩ => absurd q1 (no _)) fun ps z => absurd z (no _)
theorem Kp.chgN0 (k : Kp S H H1) (h : H a = none) (c : GD.Chg H1 H2 a) : Kp S H H2 := k.off h (Kp.chgN c List.mem_cons_self)
mutual
theorem noL_k : ∀ k : NestedKey, noL k.data = true
  | .none => by simp only [NestedKey.data]; rfl
  | .num _ => by simp only [NestedKey.data]; rfl
  | .text _ => by simp only [NestedKey.data]; rfl
  | .tup ks => by simp only [NestedKey.data]; unfold noL; exact noL_ks ks
theorem noL_ks : ∀ ks : List NestedKey, noLs (NestedKey.datas ks) = true
  | [] => by simp only [NestedKey.datas]; rfl
  | k :: ks => by
    simp only [NestedKey.datas]
    unfold noLs
    rw [noL_k k, noL_ks ks]
    rfl
end
theorem key_mono {v : V} {k : NestedKey} (kp : Kp S H H') (h : GD.KeyD K H v k) : GD.KeyD K H' v k := ⟨dp_keep kp (noL_k k) h.1, h.2⟩
theorem dn_mono {kvs : List (NestedKey × V)} (k : Kp S H H') (n : a ∉ S) (d : GD.DN K P W0 H a kvs) : GD.DN K P W0 H' a kvs := by
  obtain ⟨φ, L, e, hφ, ek, hk, nc⟩ := d
  have e' := k.keep a _ e n fun ps z => by cases z
  exact ⟨φ, L, e', hφ, ek, fun p hp => key_mono k (hk p hp), fun q z => nc q (by rw [e, ← e', z])⟩
/-! ### a reading goes on with more -/
def MonE (t : TE) : Prop := ∀ σ H (Q Q' : V → Hp → Prop), (∀ v H1, Q v H1 → Q' v H1) → t σ H Q → t σ H Q'
def MonA (t : TA) : Prop := ∀ σ H (Q Q' : List V → Hp → Prop), (∀ v H1, Q v H1 → Q' v H1) → t σ H Q → t σ H Q'
def MonT (t : TT) : Prop := ∀ σ H (Q Q' : Bool → Hp → Prop), (∀ b H1, Q b H1 → Q' b H1) → t σ H Q → t σ H Q'
def MonR (r : R2) : Prop := ∀ x y H (Q Q' : V → Hp → Prop), (∀ v H1, Q v H1 → Q' v H1) → r x y H Q → r x y H Q'
theorem mon_var (i : Nat) : MonE (tVar i) := fun _ _ _ _ h ⟨v, e, q⟩ => ⟨v, e, h _ _ q⟩
theorem mon_c (v : V) : MonE (tC v) := fun _ _ _ _ h q => h _ _ q
theorem mon_op {r : R2} {a b : TE} (hr : MonR r) (ha : MonE a) (hb : MonE b) : MonE (tOp r a b) := fun σ H Q Q' h q => ha σ H _ _ (fun x H1 q1 => hb σ H1 _ _ (fun y H2 q2 => hr x y H2 _ _ h q2) q1) q
theorem mon_nil : MonA tNil := fun _ _ _ _ h q => h _ _ q
theorem mon_cons {a : TE} {t : TA} (ha : MonE a) (ht : MonA t) : MonA (tCons a t) := fun σ H Q Q' h q => ha σ H _ _ (fun x H1 q1 => ht σ H1 _ _ (fun xs H2 q2 => h _ _ q2) q1) q
theorem mon_tup {t : TA} (ht : MonA t) : MonE (tTup t) := fun σ H Q Q' h q => ht σ H _ _ (fun xs H1 ⟨z, q1⟩ => ⟨z, fun p hp => h _ _ (q1 p hp)⟩) q
theorem mon_test {t : TE} (ht : MonE t) : MonT (tTest t) := fun σ H Q Q' h q => ht σ H _ _ (fun x H1 ⟨k, e, q1⟩ => ⟨k, e, h _ _ q1⟩) q
theorem mon_and {t u : TT} (ht : MonT t) (hu : MonT u) : MonT (tAnd t u) := fun σ H Q Q' h q => ht σ H _ _ (fun c H1 q1 => by
  cases c with
  | true => exact iteT (hu σ H1 _ _ h (by simpa using q1))
  | false => exact iteF (h _ _ (by simpa using q1))) q
theorem mon_rI0 (g : Int → Int → V) : MonR (rI0 g) := fun _ _ _ _ _ h ⟨i, j, e1, e2, q⟩ => ⟨i, j, e1, e2, h _ _ q⟩
theorem mon_rInD (K : PySem.W.Frag) : MonR (rInD K) := fun _ _ _ _ _ h ⟨d, ds, h1, h2, h3, h4, q⟩ => ⟨d, ds, h1, h2, h3, h4, h _ _ q⟩
theorem mon_rNotInD (K : PySem.W.Frag) : MonR (rNotInD K) := fun _ _ _ _ _ h ⟨d, ds, h1, h2, h3, h4, q⟩ => ⟨d, ds, h1, h2, h3, h4, h _ _ q⟩
/-! ### keyed by cells -/
def kC (c : C3) : NestedKey := .tup [.num c.1, .num c.2.1, .num c.2.2]
theorem kC_data (c : C3) : (kC c).data = cD c := by simp [kC, NestedKey.data, NestedKey.datas, cD]
theorem kC_inj {c d : C3} (h : kC c = kC d) : c = d := by
  unfold kC at h
  injection h with h
  injection h with h1 h
  injection h with h2 h
  injection h with h3 h
  injection h1 with h1
  injection h2 with h2
  injection h3 with h3
  exact c3_ext h1 h2 h3
theorem keyD_c {v : V} {c : C3} (h : Dp K H v (cD c)) : GD.KeyD K H v (kC c) := ⟨by rw [kC_data]; exact h, by show NestedKey.depth (kC c) ≤ 8; simp [kC, NestedKey.depth, NestedKey.depthAll], _, rfl⟩
def kvs (cs : List C3) (w : C3 → V) : List (NestedKey × V) := cs.map fun c => (kC c, w c)
theorem valN_kvs (cs : List C3) (w : C3 → V) (d : C3) : GD.valN (kvs cs w) (kC d) = if d ∈ cs then some (w d) else none := by
  induction cs with
  | nil => rfl
  | cons c cs ih =>
    unfold GD.valN kvs at ih ⊢
    rw [List.map_cons, List.find?_cons]
    by_cases e : c = d
    · subst e
      simp
    · have e' : ¬ kC c = kC d := fun z => e (kC_inj z)
      simp only [e', decide_false]
      rw [ih]
      have e2 : ¬ d = c := fun z => e z.symm
      simp [e2]
theorem putN_old {cs : List C3} {w : C3 → V} {d : C3} {v : V} (h : d ∈ cs) : GD.putN (kvs cs w) (kC d) v = kvs cs (wset w d v) := by
  unfold GD.putN
  rw [valN_kvs, if_pos h, if_pos (by rfl)]
  unfold kvs
  rw [List.map_map]
  refine List.map_congr_left fun c _ => ?_
  show (if kC c = kC d then (kC c, v) else (kC c, w c)) = (kC c, wset w d v c)
  by_cases e : c = d
  · rw [if_pos (by rw [e]), e, wset_same]
  · rw [if_neg (fun z => e (kC_inj z)), wset_ne e]
theorem putN_new {cs : List C3} {w : C3 → V} {d : C3} (h : d ∉ cs) : GD.putN (kvs cs w) (kC d) (w d) = kvs (cs ++ [d]) w := by
  unfold GD.putN
  rw [valN_kvs, if_neg h, if_neg (by decide)]
  unfold kvs
  rw [List.map_append]
  rfl
theorem kvs_len (cs : List C3) (w : C3 → V) : (kvs cs w).length = cs.length := by unfold kvs; rw [List.length_map]
theorem kvs_congr {cs : List C3} {w w' : C3 → V} (h : ∀ c ∈ cs, w c = w' c) : kvs cs w = kvs cs w' := List.map_congr_left fun c hc => by rw [h c hc]
end
end LP
end

section
set_option Elab.async false
set_option linter.all false
set_option maxRecDepth 100000
set_option maxHeartbeats 4000000
/-! turnings: words, keys; _at_corner, laid -/
namespace LP
open PySem PySem.Spec PyProof.Rows L2 Ly GY
/-! ### words -/
def eS (e : Fin 3) : Str := match e with
  | 0 => "x"
  | 1 => "y"
  | 2 => "z"
def extW (w : Str) (e : Fin 3) : Str := w ++ eS e
abbrev Es3 : List (Fin 3) := [0, 1, 2]
abbrev FT (cs : List C3) (n : Nat) : List (Str × List C3) := Fw.F qE extW Es3 ("" : Str) (laidL cs) n
abbrev LT (cs : List C3) (n : Nat) : List (Str × List C3) := Fw.lev qE extW Es3 ("" : Str) (laidL cs) n
def turnsL (cs : List C3) : List (Str × List C3) := FT cs 4
section
variable {cs : List C3} (hn : cs.Nodup)
include hn
theorem lev_rot : ∀ {n : Nat} {s : List C3}, s ∈ Fw.sts (LT cs n) → ∃ m ∈ rots, s = rotL cs m
  | 0, s, h => ⟨id3, rots_id, by
    rw [rotL_id]
    exact List.mem_singleton.mp h⟩
  | n + 1, s, h => by
    obtain ⟨p, hp, e⟩ := List.mem_map.mp h
    obtain ⟨r, hr, hk⟩ := List.mem_flatMap.mp (show p ∈ (LT cs n).flatMap (Fw.kids qE extW Es3) from hp)
    obtain ⟨x, hx, e2⟩ := List.mem_map.mp hk
    obtain ⟨m, hm, e3⟩ := lev_rot (n := n) (List.mem_map.mpr ⟨r, hr, rfl⟩)
    refine ⟨opE x m, rots_cl m hm x, ?_⟩
    rw [← e, ← e2]
    show qE x r.2 = _
    have e3 : r.2 = rotL cs m := e3
    rw [e3, qE_rot hn hm]
theorem F_rot {n : Nat} {s : List C3} (h : s ∈ Fw.sts (FT cs n)) : ∃ m ∈ rots, s = rotL cs m := by
  obtain ⟨j, _, h2⟩ := Fw.mem_F.mp h
  exact lev_rot hn h2
theorem F_24 (n : Nat) : (FT cs n).length ≤ 24 := by
  have h := Hit.nodup_le (l := Fw.sts (FT cs n)) (U := rots.map (rotL cs)) (Fw.F_nodup n) fun s hs => by
    obtain ⟨m, hm, e⟩ := F_rot hn hs
    exact List.mem_map.mpr ⟨m, hm, e.symm⟩
  rw [List.length_map, List.length_map, rots_len] at h
  exact h
theorem lev_ops : ∀ (w : List (Fin 3)) {m : Rot} {n : Nat}, m ∈ rots → rotL cs m ∈ Fw.sts (LT cs n) → rotL cs (ops w m) ∈ Fw.sts (LT cs (n + w.length))
  | [], _, _, _, h => h
  | e :: w, m, n, hm, h => by
    have h1 : qE e (rotL cs m) ∈ Fw.sts (LT cs (n + 1)) := Fw.kid_lev h (by
      match e with
      | 0 => decide
      | 1 => decide
      | 2 => decide)
    rw [qE_rot hn hm] at h1
    have h2 := lev_ops w (rots_cl m hm e) h1
    rw [List.length_cons, show n + (w.length + 1) = n + 1 + w.length by omega]
    exact h2
theorem F4_rot {m : Rot} (hm : m ∈ rots) : rotL cs m ∈ Fw.sts (turnsL cs) := by
  obtain ⟨w, hw, e⟩ := rots_reach m hm
  have h := lev_ops hn w (n := 0) rots_id (by rw [rotL_id]; exact List.mem_singleton.mpr rfl)
  rw [e] at h
  exact Fw.mem_F.mpr ⟨0 + w.length, by have := words4_len w hw; omega, h⟩
theorem F5_4 : FT cs 5 = FT cs 4 := by
  show (LT cs 5).foldl Fw.addT (FT cs 4) = FT cs 4
  refine Fw.fold_same fun p hp => ?_
  obtain ⟨m, hm, e⟩ := lev_rot hn (n := 5) (List.mem_map.mpr ⟨p, hp, rfl⟩)
  rw [e]
  exact F4_rot hn hm
/-- where nothing is new any more, all are told -/
theorem F_all {n : Nat} (h : FT cs (n + 1) = FT cs n) : FT cs n = turnsL cs := by
  rcases Nat.lt_or_ge 4 n with z | z
  · exact Fw.F_done (F5_4 hn) n (by omega)
  · exact (Fw.F_done h 4 z).symm
end
theorem lev_len {cs : List C3} : ∀ {n : Nat} {p : Str × List C3}, p ∈ LT cs n → p.1.length = n
  | 0, p, h => by
    rw [List.mem_singleton.mp h]
    rfl
  | n + 1, p, h => by
    obtain ⟨r, hr, hk⟩ := List.mem_flatMap.mp (show p ∈ (LT cs n).flatMap (Fw.kids qE extW Es3) from h)
    obtain ⟨x, hx, e2⟩ := List.mem_map.mp hk
    have ih := lev_len (n := n) hr
    rw [← e2]
    show (r.1 ++ eS x).length = n + 1
    have hl : (eS x).length = 1 := by
      match x with
      | 0 => rfl
      | 1 => rfl
      | 2 => rfl
    rw [Str.length_append, ih, hl]
theorem F_len {cs : List C3} : ∀ {n : Nat} {p : Str × List C3}, p ∈ FT cs n → p.1.length ≤ n
  | 0, p, h => by
    rw [List.mem_singleton.mp h]
    exact Nat.le_refl 0
  | n + 1, p, h => by
    rw [show FT cs (n + 1) = FT cs n ++ Fw.N qE extW Es3 ("" : Str) (laidL cs) (n + 1) from Fw.F_succ n] at h
    rcases List.mem_append.mp h with h | h
    · have := F_len (n := n) h
      omega
    · rw [lev_len (n := n + 1) (Fw.fo_sub p h).1]
      exact Nat.le_refl _
/-- words up to the longest told are enough -/
theorem F_most {cs : List C3} {M : Nat} (h : ∀ p ∈ turnsL cs, p.1.length ≤ M) (h4 : M ≤ 4) : FT cs M = turnsL cs := by
  have key : ∀ j, M + j ≤ 4 → FT cs (M + j) = FT cs M := by
    intro j
    induction j with
    | zero => exact fun _ => rfl
    | succ j ih =>
      intro hj
      have e := ih (by omega)
      rw [show M + (j + 1) = (M + j) + 1 by omega, show FT cs (M + j + 1) = FT cs (M + j) ++ Fw.N qE extW Es3 ("" : Str) (laidL cs) (M + j + 1) from Fw.F_succ (M + j), e]
      cases hN : Fw.N qE extW Es3 ("" : Str) (laidL cs) (M + j + 1) with
      | nil => rw [List.append_nil]
      | cons p l =>
        exfalso
        have hp : p ∈ Fw.N qE extW Es3 ("" : Str) (laidL cs) (M + j + 1) := by rw [hN]; exact List.mem_cons_self
        have hF : p ∈ FT cs (M + j + 1) := by
          rw [show FT cs (M + j + 1) = FT cs (M + j) ++ Fw.N qE extW Es3 ("" : Str) (laidL cs) (M + j + 1) from Fw.F_succ (M + j)]
          exact List.mem_append_right _ hp
        have sub : ∀ n, n ≤ 4 → ∀ d, n + d ≤ 4 → ∀ p ∈ FT cs n, p ∈ FT cs (n + d) := by
          intro n hn d
          induction d with
          | zero => exact fun _ p hp => hp
          | succ d ihd =>
            intro hd p hp
            rw [show n + (d + 1) = (n + d) + 1 by omega, show FT cs (n + d + 1) = FT cs (n + d) ++ Fw.N qE extW Es3 ("" : Str) (laidL cs) (n + d + 1) from Fw.F_succ (n + d)]
            exact List.mem_append_left _ (ihd (by omega) p hp)
        have h1 := h p (by
          have := sub (M + j + 1) (by omega) (4 - (M + j + 1)) (by omega) p hF
          rw [show M + j + 1 + (4 - (M + j + 1)) = 4 by omega] at this
          exact this)
        rw [lev_len (n := M + j + 1) (Fw.fo_sub p hp).1] at h1
        omega
  have := key (4 - M) (by omega)
  rw [show M + (4 - M) = 4 by omega] at this
  exact this.symm
/-! ### keys -/
def kG (g : List C3) : NestedKey := .tup (g.map kC)
end LP
end

section
set_option Elab.async false
set_option linter.all false
set_option maxRecDepth 100000
set_option maxHeartbeats 2000000
/-! _law_alike -/
namespace LP
open PySem PySem.Spec PyProof.Rows L2 Ly GY
variable [LamTab] {P : Program} {W0 : World} {K : PySem.W.Frag} {mg : Str → Option Value} {base : Heap}
mutual
def okD : PyData → Bool
  | .int _ => true
  | .str _ => true
  | .none => true
  | .bool _ => true
  | .list ds => okDs ds && decide (ds.length ≤ 1000)
  | .tuple ds => okDs ds && decide (ds.length ≤ 1000)
  | _ => false
def okDs : List PyData → Bool
  | [] => true
  | d :: ds => okD d && okDs ds
end
theorem okDs_at : ∀ {ds : List PyData} {i : Nat} {d : PyData}, okDs ds = true → ds[i]? = some d → okD d = true
  | [], _, _, _, h => by simp at h
  | d :: ds, 0, e, h, q => by
    unfold okDs at h
    simp at q
    subst q
    exact (Bool.and_eq_true_iff.mp h).1
  | d :: ds, i + 1, e, h, q => by
    unfold okDs at h
    exact okDs_at (Bool.and_eq_true_iff.mp h).2 (by simpa using q)
theorem depth_at : ∀ {ds : List PyData} {i : Nat} {d : PyData}, ds[i]? = some d → d.depth ≤ PyData.depthAll ds
  | [], _, _, h => by simp at h
  | d :: ds, 0, e, q => by
    simp at q
    subst q
    simp only [PyData.depthAll]
    omega
  | d :: ds, i + 1, e, q => by
    have := depth_at (ds := ds) (i := i) (d := e) (by simpa using q)
    simp only [PyData.depthAll]
    omega
theorem dpAll_length {H : Hp} : ∀ {vs : List V} {ds : List PyData}, DpAll K H vs ds → vs.length = ds.length
  | _, [], h => by cases h; rfl
  | _, _ :: _, h => by
    cases h with
    | cons _ t => exact congrArg (· + 1) (dpAll_length t)
theorem dpAll_at {H : Hp} : ∀ {vs : List V} {ds : List PyData} {i : Nat}, DpAll K H vs ds → i < ds.length → ∃ v d, vs[i]? = some v ∧ ds[i]? = some d ∧ Dp K H v d
  | _, [], _, _, hi => by simp at hi
  | _, d :: ds, 0, h, _ => by
    cases h with
    | cons a _ => exact ⟨_, d, rfl, rfl, a⟩
  | _, d :: ds, i + 1, h, hi => by
    cases h with
    | cons _ t =>
      obtain ⟨v, e, h1, h2, h3⟩ := dpAll_at (i := i) t (by simpa using hi)
      exact ⟨v, e, by simpa using h1, by simpa using h2, h3⟩
theorem kaT : PySem.W.kitAny K (.type "tuple") [.type "tuple", .type "list"] = some true := kitAny_cons (b := true) (kit_ty (by decide +kernel)) (fun z => by cases z) (fun _ => rfl)
theorem kaL : PySem.W.kitAny K (.type "list") [.type "tuple", .type "list"] = some true := kitAny_cons (b := false) (kit_ty (by decide +kernel)) (fun _ => kitAny_cons (b := true) (kit_ty (by decide +kernel)) (fun z => by cases z) (fun _ => rfl)) (fun z => by cases z)
theorem kaS : PySem.W.kitAny K (.type "str") [.type "tuple", .type "list"] = some false := kitAny_cons (b := false) (kit_ty (by decide +kernel)) (fun _ => kitAny_cons (b := false) (kit_ty (by decide +kernel)) (fun _ => rfl) (fun z => by cases z)) (fun z => by cases z)
theorem kaI : PySem.W.kitAny K (.type "int") [.type "tuple", .type "list"] = some false := kitAny_cons (b := false) (kit_ty (by decide +kernel)) (fun _ => kitAny_cons (b := false) (kit_ty (by decide +kernel)) (fun _ => rfl) (fun z => by cases z)) (fun z => by cases z)
theorem kaN : PySem.W.kitAny K (.type "NoneType") [.type "tuple", .type "list"] = some false := kitAny_cons (b := false) (kit_ty (by decide +kernel)) (fun _ => kitAny_cons (b := false) (kit_ty (by decide +kernel)) (fun _ => rfl) (fun z => by cases z)) (fun z => by cases z)
theorem kaB : PySem.W.kitAny K (.type "bool") [.type "tuple", .type "list"] = some false := kitAny_cons (b := false) (kit_ty (by decide +kernel)) (fun _ => kitAny_cons (b := false) (kit_ty (by decide +kernel)) (fun _ => rfl) (fun z => by cases z)) (fun z => by cases z)
theorem itN {i j : Int} {A B : Prop} (h : i = j) (b : B) : if (!decide (V.int i = V.int j)) = true then A else B := by
  subst h
  rw [decide_eq_true rfl]
  exact iteF b
def spAlike (K : PySem.W.Frag) (n : Nat) : Sp := fun vs H Q _ => ∃ (x y : V) (d : PyData), vs = [x, y] ∧ Dp K H x d ∧ Dp K H y d ∧ okD d = true ∧ d.depth < n ∧ ∀ H', Kp [] H H' → Q (.bl true) H'
theorem scAlike : FnScope ["_law_found", "_law_due", "_law_k"] ["_law_found", "_law_due"] (defScope lAlike) := ⟨rfl, rfl, rfl, by decide +kernel, rfl, by decide +kernel, by decide +kernel⟩
theorem alike_step {n : Nat} {f : Addr} {fd : FuncData} (F : Fun K "_law_alike" "_law_alike" lAlike f fd) (T : Nm K mg) (U : Nl K mg) (N : Fn K mg "_law_alike" f fd ["_law_found", "_law_due"]) (G : FnOk P W0 K mg base CX0 (1 + n) f fd ["_law_found", "_law_due"] (spAlike K n)) :
    FnOk P W0 K mg base CX0 (1 + n + 1) f fd ["_law_found", "_law_due"] (spAlike K (n + 1)) := by
  refine F.ok scAlike (fun vs H Q E h => ?_) (fun cdv A outer s H vs Q E hr h => ?_)
  · obtain ⟨x, y, d, rfl, _⟩ := h
    rfl
  · obtain ⟨x, y, d, rfl, hx, hy, hok, hdp, q⟩ := h
    refine ⟨_, pss_cons (ps_if (pt_val (pe_callB call_isiT (by rfl) T.isinstance (by decide +kernel) (pa_cons (pv 1) (pa_cons (pe_tup (pa_cons (pe_bltn (by rfl) T.tuple (by decide +kernel) (v := .ty "tuple") rfl) (pa_cons (pe_bltn (by rfl) T.list (by decide +kernel) (v := .ty "list") rfl) pa_nil))) pa_nil)))) (pss_cons (ps_if (PW.pt (pw_or (pt_not (pt_val (pe_callB call_isiT (by rfl) T.isinstance (by decide +kernel) (pa_cons (pv 0) (pa_cons (pe_tup (pa_cons (pe_bltn (by rfl) T.tuple (by decide +kernel) (v := .ty "tuple") rfl) (pa_cons (pe_bltn (by rfl) T.list (by decide +kernel) (v := .ty "list") rfl) pa_nil))) pa_nil))))) (pw_or1 (pt_cmpR op_ne (pe_callB call_isi (by rfl) T.isinstance (by decide +kernel) (pa_cons (pv 0) (pa_cons (pe_bltn (by rfl) T.list (by decide +kernel) (v := .ty "list") rfl) pa_nil))) (pe_callB call_isi (by rfl) T.isinstance (by decide +kernel) (pa_cons (pv 1) (pa_cons (pe_bltn (by rfl) T.list (by decide +kernel) (v := .ty "list") rfl) pa_nil))) (nomark _))))) (pss_one (ps_ret pe_bl)) pss_nil)
        (pss_cons (ps_if (pt_cmpR op_ne (pe_callB call_len_seq (by rfl) T.len PySem.boot_len (pa_cons (pv 0) pa_nil)) (pe_callB call_len_seq (by rfl) T.len PySem.boot_len (pa_cons (pv 1) pa_nil)) (nomark _)) (pss_one (ps_ret pe_bl)) pss_nil)
        (pss_one (ps_ret (pe_cmpR (op_eqD hr.units) (pe_lc (own := [("_law_k", 2)]) (g := gName 2) rfl scAlike.nd (pi_range1 (by rfl) T.range (pa_cons (pe_callB call_len_seq (by rfl) T.len PySem.boot_len (pa_cons (pv 1) pa_nil)) pa_nil)) (blkOk_by (own := [("_law_k", 2)]) (N := ["_law_found", "_law_due", "_law_k"]) (sc := defScope lAlike) (by decide +kernel))
            (fun _ _ _ _ _ => pg_name (i := 2) scAlike.nd rfl (.inl rfl)) (fun _ _ _ _ _ => pts_one (pt_not (pt_val (pe_call G hr (by rfl) N.m N.kp N.b .nil pass0 (pa_cons (pe_ix (r := rIx K) ix_seq (pv 0) (pv 2) (fun _ _ => rfl)) (pa_cons (pe_ix (r := rIx K) ix_seq (pv 1) (pv 2) (fun _ _ => rfl)) pa_nil)))))) (fun _ _ _ _ _ => pv 2)) (pe_lst pa_nil) (nomark _)))))) pss_nil)
      (pss_cons (ps_if (pt_cmpR op_isN (pv 1) pe_non (nomark _)) (pss_one (ps_ret (pe_cmpR op_isN (pv 0) pe_non (nomark _)))) pss_nil)
      (pss_cons (ps_if (pt_val (pe_callB call_isi (by rfl) T.isinstance (by decide +kernel) (pa_cons (pv 1) (pa_cons (pe_bltn (by rfl) U.str (by decide +kernel) (v := .ty "str") rfl) pa_nil)))) (pss_one (ps_ret (pe_and (pe_callB call_isi (by rfl) T.isinstance (by decide +kernel) (pa_cons (pv 0) (pa_cons (pe_bltn (by rfl) U.str (by decide +kernel) (v := .ty "str") rfl) pa_nil))) (pe_one (pe_cmpR op_eq (pv 0) (pv 1) (nomark _)))))) pss_nil)
      (pss_cons (ps_if (PW.pt (pw_or (pt_val (pe_callB call_isi (by rfl) T.isinstance (by decide +kernel) (pa_cons (pv 1) (pa_cons (pe_bltn (by rfl) T.bool (by decide +kernel) (v := .ty "bool") rfl) pa_nil)))) (pw_or1 (pt_val (pe_callB call_isi (by rfl) T.isinstance (by decide +kernel) (pa_cons (pv 0) (pa_cons (pe_bltn (by rfl) T.bool (by decide +kernel) (v := .ty "bool") rfl) pa_nil))))))) (pss_one (ps_ret (pe_and (pe_callB call_isi (by rfl) T.isinstance (by decide +kernel) (pa_cons (pv 1) (pa_cons (pe_bltn (by rfl) T.bool (by decide +kernel) (v := .ty "bool") rfl) pa_nil))) (pe_and (pe_callB call_isi (by rfl) T.isinstance (by decide +kernel) (pa_cons (pv 0) (pa_cons (pe_bltn (by rfl) T.bool (by decide +kernel) (v := .ty "bool") rfl) pa_nil))) (pe_one (pe_cmpR op_eq (pv 0) (pv 1) (nomark _))))))) pss_nil)
      (pss_one (ps_ret (pe_and (pe_callB call_isi (by rfl) T.isinstance (by decide +kernel) (pa_cons (pv 0) (pa_cons (pe_bltn (by rfl) T.int (by decide +kernel) (v := .ty "int") rfl) pa_nil))) (pe_one (pe_cmpR op_eq (pv 0) (pv 1) (nomark _))))))))), ?_⟩
    cases d with
    | list ds =>
      obtain ⟨a, xs, rfl, ha, hxa⟩ : ∃ a xs, x = .ref a ∧ SqL K H a xs ∧ DpAll K H xs ds := by
        cases hx with
        | lst h1 h2 => exact ⟨_, _, rfl, h1, h2⟩
      obtain ⟨b, ys, rfl, hb, hyb⟩ : ∃ b ys, y = .ref b ∧ SqL K H b ys ∧ DpAll K H ys ds := by
        cases hy with
        | lst h1 h2 => exact ⟨_, _, rfl, h1, h2⟩
      have hlx := dpAll_length hxa
      have hly := dpAll_length hyb
      have hokp : okDs ds = true ∧ ds.length ≤ 1000 := by
        unfold okD at hok
        simpa using hok
      refine ⟨_, rfl, (by show 2 ≤ sizeLine; decide), fun T1 hT1 => ⟨_, T1, _, _, _, _, rfl, upd_same, .cons (.ty _) (.cons (.ty _) .nil), ty_lst ((Kp.new hT1 (S := [])).sqL hb List.not_mem_nil), kaL, true, rfl, iteT ?_⟩⟩
      have k1 : Kp [] H (upd H T1 (.tup [.ty "tuple", .ty "list"])) := Kp.new hT1
      generalize upd H T1 (.tup [.ty "tuple", .ty "list"]) = H1 at k1 ⊢
      refine ⟨_, rfl, (by show 2 ≤ sizeLine; decide), fun T2 hT2 => ⟨_, T2, _, _, _, _, rfl, upd_same, .cons (.ty _) (.cons (.ty _) .nil), ty_lst ((k1.trans (Kp.new hT2)).sqL ha List.not_mem_nil), kaL, true, rfl, iteF ?_⟩⟩
      have k2 : Kp [] H (upd H1 T2 (.tup [.ty "tuple", .ty "list"])) := k1.trans (Kp.new hT2)
      generalize upd H1 T2 (.tup [.ty "tuple", .ty "list"]) = H2 at k2 ⊢
      refine ⟨_, rfl, _, _, _, _, _, rfl, .ty _, (ty_lst (k2.sqL ha List.not_mem_nil)), kit_ty (r := true) (by decide +kernel), _, rfl, _, _, _, _, _, rfl, .ty _, (ty_lst (k2.sqL hb List.not_mem_nil)), kit_ty (r := true) (by decide +kernel), rfl, _, rfl, iteF ?_⟩
      refine ⟨_, rfl, a, _, rfl, .inl (k2.sqL ha List.not_mem_nil), _, rfl, b, _, rfl, .inl (k2.sqL hb List.not_mem_nil), rfl, _, rfl, itN (by rw [hlx, hly]) ?_⟩
      refine ⟨_, rfl, b, _, rfl, .inl (k2.sqL hb List.not_mem_nil), _, rfl, by omega, by omega, fun D hD => lc_range (lo := 0) (n := ys.length) (fun i H' => Kp [] H2 H' ∧ H' D = some (.lst [])) ⟨Kp.new hD, upd_same⟩ (fun i H' hi pv => ?_) (fun H' pv => ?_)⟩
      · obtain ⟨k, hDl⟩ := pv
        obtain ⟨vx, dx, ex1, ex2, ex3⟩ := dpAll_at (i := i) hxa (by omega)
        obtain ⟨vy, dy, ey1, ey2, ey3⟩ := dpAll_at (i := i) hyb (by omega)
        rw [ex2] at ey2
        cases ey2
        have e0 : (0 : Int) + (i : Int) = ((i : Nat) : Int) := by omega
        have hdd := depth_at ex2
        refine ⟨rfl, _, rfl, _, rfl, .inl ⟨a, xs, _, vx, rfl, rfl, (k2.trans k).sqL ha List.not_mem_nil, (by rw [e0]; exact atI_nat ex1), ?_⟩⟩
        refine ⟨_, rfl, _, rfl, .inl ⟨b, ys, _, vy, rfl, rfl, (k2.trans k).sqL hb List.not_mem_nil, (by rw [e0]; exact atI_nat ey1), ?_⟩⟩
        refine ⟨vx, vy, dx, rfl, dp_mono (k2.trans k) _ ex3 (.inr rfl), dp_mono (k2.trans k) _ ey3 (.inr rfl), okDs_at hokp.1 ex2, ?_, fun H4 k4 => ⟨true, rfl, iteF ⟨k.trans k4, k4.lst hDl List.not_mem_nil⟩⟩⟩
        simp only [PyData.depth] at hdp
        omega
      · obtain ⟨k, hDl⟩ := pv
        refine ⟨Nat.zero_le _, fun p hp => ?_⟩
        have kp : Kp [] H' (upd H' p (.lst [])) := Kp.new hp
        refine ⟨.list [], .list [], .lst (SqL.of (kp.lst hDl List.not_mem_nil)) .nil, .lst (SqL.of upd_same) .nil, ints_shaped [], ints_shaped [], ?_⟩
        have z := q _ ((k2.trans k).trans kp)
        rw [show PyData.eqv (.list []) (.list []) = true from by simp [PyData.eqv, PyData.eqvAll]]
        exact z
    | tuple ds =>
      obtain ⟨a, xs, rfl, ha, hxa⟩ : ∃ a xs, x = .ref a ∧ SqT K H a xs ∧ DpAll K H xs ds := by
        cases hx with
        | tup h1 h2 => exact ⟨_, _, rfl, h1, h2⟩
      obtain ⟨b, ys, rfl, hb, hyb⟩ : ∃ b ys, y = .ref b ∧ SqT K H b ys ∧ DpAll K H ys ds := by
        cases hy with
        | tup h1 h2 => exact ⟨_, _, rfl, h1, h2⟩
      have hlx := dpAll_length hxa
      have hly := dpAll_length hyb
      have hokp : okDs ds = true ∧ ds.length ≤ 1000 := by
        unfold okD at hok
        simpa using hok
      refine ⟨_, rfl, (by show 2 ≤ sizeLine; decide), fun T1 hT1 => ⟨_, T1, _, _, _, _, rfl, upd_same, .cons (.ty _) (.cons (.ty _) .nil), ty_tup ((Kp.new hT1 (S := [])).sqT hb), kaT, true, rfl, iteT ?_⟩⟩
      have k1 : Kp [] H (upd H T1 (.tup [.ty "tuple", .ty "list"])) := Kp.new hT1
      generalize upd H T1 (.tup [.ty "tuple", .ty "list"]) = H1 at k1 ⊢
      refine ⟨_, rfl, (by show 2 ≤ sizeLine; decide), fun T2 hT2 => ⟨_, T2, _, _, _, _, rfl, upd_same, .cons (.ty _) (.cons (.ty _) .nil), ty_tup ((k1.trans (Kp.new hT2)).sqT ha), kaT, true, rfl, iteF ?_⟩⟩
      have k2 : Kp [] H (upd H1 T2 (.tup [.ty "tuple", .ty "list"])) := k1.trans (Kp.new hT2)
      generalize upd H1 T2 (.tup [.ty "tuple", .ty "list"]) = H2 at k2 ⊢
      refine ⟨_, rfl, _, _, _, _, _, rfl, .ty _, (ty_tup (k2.sqT ha)), kit_ty (r := false) (by decide +kernel), _, rfl, _, _, _, _, _, rfl, .ty _, (ty_tup (k2.sqT hb)), kit_ty (r := false) (by decide +kernel), rfl, _, rfl, iteF ?_⟩
      refine ⟨_, rfl, a, _, rfl, .inr (k2.sqT ha), _, rfl, b, _, rfl, .inr (k2.sqT hb), rfl, _, rfl, itN (by rw [hlx, hly]) ?_⟩
      refine ⟨_, rfl, b, _, rfl, .inr (k2.sqT hb), _, rfl, by omega, by omega, fun D hD => lc_range (lo := 0) (n := ys.length) (fun i H' => Kp [] H2 H' ∧ H' D = some (.lst [])) ⟨Kp.new hD, upd_same⟩ (fun i H' hi pv => ?_) (fun H' pv => ?_)⟩
      · obtain ⟨k, hDl⟩ := pv
        obtain ⟨vx, dx, ex1, ex2, ex3⟩ := dpAll_at (i := i) hxa (by omega)
        obtain ⟨vy, dy, ey1, ey2, ey3⟩ := dpAll_at (i := i) hyb (by omega)
        rw [ex2] at ey2
        cases ey2
        have e0 : (0 : Int) + (i : Int) = ((i : Nat) : Int) := by omega
        have hdd := depth_at ex2
        refine ⟨rfl, _, rfl, _, rfl, .inr (.inl ⟨a, xs, _, vx, rfl, rfl, (k2.trans k).sqT ha, (by rw [e0]; exact atI_nat ex1), ?_⟩)⟩
        refine ⟨_, rfl, _, rfl, .inr (.inl ⟨b, ys, _, vy, rfl, rfl, (k2.trans k).sqT hb, (by rw [e0]; exact atI_nat ey1), ?_⟩)⟩
        refine ⟨vx, vy, dx, rfl, dp_mono (k2.trans k) _ ex3 (.inr rfl), dp_mono (k2.trans k) _ ey3 (.inr rfl), okDs_at hokp.1 ex2, ?_, fun H4 k4 => ⟨true, rfl, iteF ⟨k.trans k4, k4.lst hDl List.not_mem_nil⟩⟩⟩
        simp only [PyData.depth] at hdp
        omega
      · obtain ⟨k, hDl⟩ := pv
        refine ⟨Nat.zero_le _, fun p hp => ?_⟩
        have kp : Kp [] H' (upd H' p (.lst [])) := Kp.new hp
        refine ⟨.list [], .list [], .lst (SqL.of (kp.lst hDl List.not_mem_nil)) .nil, .lst (SqL.of upd_same) .nil, ints_shaped [], ints_shaped [], ?_⟩
        have z := q _ ((k2.trans k).trans kp)
        rw [show PyData.eqv (.list []) (.list []) = true from by simp [PyData.eqv, PyData.eqvAll]]
        exact z
    | str u =>
      obtain rfl : x = .str u := by cases hx; rfl
      obtain rfl : y = .str u := by cases hy; rfl
      refine ⟨_, rfl, (by show 2 ≤ sizeLine; decide), fun T1 hT1 => ⟨_, T1, _, _, _, _, rfl, upd_same, .cons (.ty _) (.cons (.ty _) .nil), .base (.str _), kaS, false, rfl, iteF ?_⟩⟩
      have k1 : Kp [] H (upd H T1 (.tup [.ty "tuple", .ty "list"])) := Kp.new hT1
      generalize upd H T1 (.tup [.ty "tuple", .ty "list"]) = H1 at k1 ⊢
      refine ⟨_, rfl, rfl, _, rfl, itD0 (by simp) ?_⟩
      refine ⟨_, rfl, _, _, _, _, _, rfl, .ty _, .base (.str _), kit_ty (r := true) (by decide +kernel), true, rfl, iteT ?_⟩
      refine ⟨_, rfl, _, _, _, _, _, rfl, .ty _, .base (.str _), kit_ty (r := true) (by decide +kernel), true, rfl, iteT ?_⟩
      refine ⟨_, rfl, _, rfl, (by simp [scal]), ?_⟩
      rw [decide_eq_true rfl]
      exact q H1 k1
    | int u =>
      obtain rfl : x = .int u := by cases hx; rfl
      obtain rfl : y = .int u := by cases hy; rfl
      refine ⟨_, rfl, (by show 2 ≤ sizeLine; decide), fun T1 hT1 => ⟨_, T1, _, _, _, _, rfl, upd_same, .cons (.ty _) (.cons (.ty _) .nil), .base (.int _), kaI, false, rfl, iteF ?_⟩⟩
      have k1 : Kp [] H (upd H T1 (.tup [.ty "tuple", .ty "list"])) := Kp.new hT1
      generalize upd H T1 (.tup [.ty "tuple", .ty "list"]) = H1 at k1 ⊢
      refine ⟨_, rfl, rfl, _, rfl, itD0 (by simp) ?_⟩
      refine ⟨_, rfl, _, _, _, _, _, rfl, .ty _, .base (.int _), kit_ty (r := false) (by decide +kernel), false, rfl, iteF ?_⟩
      refine ⟨_, rfl, _, _, _, _, _, rfl, .ty _, .base (.int _), kit_ty (r := false) (by decide +kernel), false, rfl, iteF ?_⟩
      refine ⟨_, rfl, _, _, _, _, _, rfl, .ty _, .base (.int _), kit_ty (r := false) (by decide +kernel), false, rfl, iteF ?_⟩
      refine ⟨_, rfl, _, _, _, _, _, rfl, .ty _, .base (.int _), kit_ty (r := true) (by decide +kernel), true, rfl, iteT ?_⟩
      refine ⟨_, rfl, _, rfl, (by simp [scal]), ?_⟩
      rw [decide_eq_true rfl]
      exact q H1 k1
    | none =>
      obtain rfl : x = .non := by cases hx; rfl
      obtain rfl : y = .non := by cases hy; rfl
      refine ⟨_, rfl, (by show 2 ≤ sizeLine; decide), fun T1 hT1 => ⟨_, T1, _, _, _, _, rfl, upd_same, .cons (.ty _) (.cons (.ty _) .nil), .base .non, kaN, false, rfl, iteF ?_⟩⟩
      have k1 : Kp [] H (upd H T1 (.tup [.ty "tuple", .ty "list"])) := Kp.new hT1
      generalize upd H T1 (.tup [.ty "tuple", .ty "list"]) = H1 at k1 ⊢
      refine ⟨_, rfl, rfl, _, rfl, itD1 rfl ?_⟩
      refine ⟨_, rfl, rfl, ?_⟩
      rw [decide_eq_true rfl]
      exact q H1 k1
    | bool u =>
      obtain rfl : x = .bl u := by cases hx; rfl
      obtain rfl : y = .bl u := by cases hy; rfl
      refine ⟨_, rfl, (by show 2 ≤ sizeLine; decide), fun T1 hT1 => ⟨_, T1, _, _, _, _, rfl, upd_same, .cons (.ty _) (.cons (.ty _) .nil), .base (.bl _), kaB, false, rfl, iteF ?_⟩⟩
      have k1 : Kp [] H (upd H T1 (.tup [.ty "tuple", .ty "list"])) := Kp.new hT1
      generalize upd H T1 (.tup [.ty "tuple", .ty "list"]) = H1 at k1 ⊢
      refine ⟨_, rfl, rfl, _, rfl, itD0 (by simp) ?_⟩
      refine ⟨_, rfl, _, _, _, _, _, rfl, .ty _, .base (.bl _), kit_ty (r := false) (by decide +kernel), false, rfl, iteF ?_⟩
      refine ⟨_, rfl, _, _, _, _, _, rfl, .ty _, .base (.bl _), kit_ty (r := true) (by decide +kernel), true, rfl, iteT ?_⟩
      refine ⟨_, rfl, _, _, _, _, _, rfl, .ty _, .base (.bl _), kit_ty (r := true) (by decide +kernel), true, rfl, iteT ?_⟩
      refine ⟨_, rfl, _, _, _, _, _, rfl, .ty _, .base (.bl _), kit_ty (r := true) (by decide +kernel), true, rfl, iteT ?_⟩
      refine ⟨_, rfl, _, rfl, (by simp [scal]), ?_⟩
      rw [decide_eq_true rfl]
      exact q H1 k1
    | dict _ => cases hok
theorem alike_none {f : Addr} {fd : FuncData} : FnOk P W0 K mg base CX0 1 f fd ["_law_found", "_law_due"] (spAlike K 0) := by
  have no : ∀ vs H Q E, ¬ spAlike K 0 vs H Q E := fun vs H Q E h => by
    obtain ⟨_, _, _, _, _, _, _, hn, _⟩ := h
    omega
  exact ⟨fun vs H Q E h => absurd h (no vs H Q E), fun A outer s H args us vs Q E _ _ _ _ h => absurd h (no vs H Q E)⟩
theorem ok_alike {f : Addr} {fd : FuncData} (F : Fun K "_law_alike" "_law_alike" lAlike f fd) (T : Nm K mg) (U : Nl K mg) (N : Fn K mg "_law_alike" f fd ["_law_found", "_law_due"]) :
    ∀ n : Nat, FnOk P W0 K mg base CX0 (1 + n) f fd ["_law_found", "_law_due"] (spAlike K n)
  | 0 => alike_none
  | n + 1 => alike_step F T U N (ok_alike F T U N n)
end LP
end

section
set_option Elab.async false
set_option linter.all false
set_option maxRecDepth 100000
set_option maxHeartbeats 2000000
/-! _law_inside -/
namespace LP
open PySem PySem.Spec PyProof.Rows L2 Ly GY
variable [LamTab] {P : Program} {W0 : World} {K : PySem.W.Frag} {mg : Str → Option Value} {base : Heap}
def blkAt (k : C3) (x y z a b c : Int) (i : Nat) : Bool :=
  if i = 0 then decide (0 ≤ k.1 - x) && decide (k.1 - x < a) else if i = 1 then decide (0 ≤ k.2.1 - y) && decide (k.2.1 - y < b) else decide (0 ≤ k.2.2 - z) && decide (k.2.2 - z < c)
theorem inside_blk (k : C3) (x y z a b c : Int) : inside (.block x y z a b c) k = (List.range 3).all (blkAt k x y z a b c) := by
  show inside (.block x y z a b c) k = [0, 1, 2].all (blkAt k x y z a b c)
  unfold inside blkAt
  rw [Bool.eq_iff_iff]
  simp
theorem all_succ (p : Nat → Bool) (i : Nat) : (List.range (i + 1)).all p = ((List.range i).all p && p i) := by
  rw [List.range_succ, List.all_append]
  simp
theorem kxy : ¬ (Sum.inr ("x" : Str) : Key) = Sum.inr ("y" : Str) := by decide +kernel
theorem kxz : ¬ (Sum.inr ("x" : Str) : Key) = Sum.inr ("z" : Str) := by decide +kernel
theorem kyz : ¬ (Sum.inr ("y" : Str) : Key) = Sum.inr ("z" : Str) := by decide +kernel
theorem kyx : ¬ (Sum.inr ("y" : Str) : Key) = Sum.inr ("x" : Str) := by decide +kernel
theorem kzx : ¬ (Sum.inr ("z" : Str) : Key) = Sum.inr ("x" : Str) := by decide +kernel
theorem kzy : ¬ (Sum.inr ("z" : Str) : Key) = Sum.inr ("y" : Str) := by decide +kernel
theorem backM (a b c : V) : mergeK [] [(Sum.inr "x", a), (Sum.inr "y", b), (Sum.inr "z", c)] = ([(Sum.inr ("x" : Str), a), (Sum.inr ("y" : Str), b), (Sum.inr ("z" : Str), c)] : List (Key × V)) := by
  simp only [mergeK, putK, List.foldl, List.any_nil, List.any_cons, List.nil_append, List.cons_append, List.map_cons, List.map_nil, decide_eq_false kxy, decide_eq_false kxz, decide_eq_false kyz, Bool.false_or, Bool.or_false, Bool.false_eq_true, if_false]
theorem backX (a b c : Addr) : valV (mergeK [] [(Sum.inr "x", V.ref a), (Sum.inr "y", V.ref b), (Sum.inr "z", V.ref c)]) (Sum.inr "x" : Key) = some (V.ref a) := by
  rw [backM, valV_pos rfl]
theorem backY (a b c : Addr) : valV (mergeK [] [(Sum.inr "x", V.ref a), (Sum.inr "y", V.ref b), (Sum.inr "z", V.ref c)]) (Sum.inr "y" : Key) = some (V.ref b) := by
  rw [backM, valV_neg kxy, valV_pos rfl]
theorem backZ (a b c : Addr) : valV (mergeK [] [(Sum.inr "x", V.ref a), (Sum.inr "y", V.ref b), (Sum.inr "z", V.ref c)]) (Sum.inr "z" : Key) = some (V.ref c) := by
  rw [backM, valV_neg kxz, valV_neg kyz, valV_pos rfl]
def spInside (K : PySem.W.Frag) (n : Nat) : Sp := fun vs H Q _ => ∃ (v : V) (p : Addr) (b : Bd) (c : C3), vs = [v, .ref p] ∧ Body K H v b ∧ dp b ≤ n ∧ SqT K H p [.int c.1, .int c.2.1, .int c.2.2] ∧ ∀ H', Kp [] H H' → Q (.bl (inside b c)) H'
theorem scInside : FnScope ["_law_body_here", "_law_cell", "_law_word", "_law_x", "_law_y", "_law_z", "_law_low", "_law_size", "_law_far", "_law_back", "_law_one", "_law_other", "_law_k"] ["_law_body_here", "_law_cell"] (defScope lInside) := ⟨rfl, rfl, rfl, by decide +kernel, rfl, by decide +kernel, by decide +kernel⟩
theorem inside_step {n : Nat} {f : Addr} {fd : FuncData} (F : Fun K "_law_inside" "_law_inside" lInside f fd) (T : Nm K mg) (N : Fn K mg "_law_inside" f fd ["_law_body_here", "_law_cell"]) (G : FnOk P W0 K mg base CX0 n f fd ["_law_body_here", "_law_cell"] (spInside K n)) :
    FnOk P W0 K mg base CX0 (n + 1) f fd ["_law_body_here", "_law_cell"] (spInside K (n + 1)) := by
  refine F.ok scInside (fun vs H Q E h => ?_) (fun cdv A outer s H vs Q E hr h => ?_)
  · obtain ⟨v, p, b, c, rfl, _⟩ := h
    rfl
  · obtain ⟨v, pc, b, c, rfl, hB, hn, hc, q⟩ := h
    have hu := hu_of hr
    refine ⟨_, pss_cons (ps_set (i := 2) scInside.nd rfl (.inl rfl) (pe_ix ix_tup (pv 0) pe_int (fun _ _ => rfl)))
      (pss_cons (ps_asg (pv 1) (pg_tup rfl (pgs_cons (pg_name (i := 3) scInside.nd rfl (.inl rfl)) (pgs_cons (pg_name (i := 4) scInside.nd rfl (.inl rfl)) (pgs_cons (pg_name (i := 5) scInside.nd rfl (.inl rfl)) pgs_nil)))))
      (pss_cons (ps_if (pt_cmpR op_eq (pv 2) pe_str (nomark _)) (pss_cons (ps_asg (pe_slice sl_tup (pv 0) (po_some pe_int) po_none) (pg_tup rfl (pgs_cons (pg_name (i := 6) scInside.nd rfl (.inr rfl)) (pgs_cons (pg_name (i := 7) scInside.nd rfl (.inr rfl)) pgs_nil))))
        (pss_one (ps_ret (pe_cmpR (op_eqD hr.units) (pe_lc (own := [("_law_k", 12)]) (g := gName 12) rfl scInside.nd (pi_range1 (by rfl) T.range (pa_cons pe_int pa_nil)) (blkOk_by (own := [("_law_k", 12)]) (N := ["_law_body_here", "_law_cell", "_law_word", "_law_x", "_law_y", "_law_z", "_law_low", "_law_size", "_law_far", "_law_back", "_law_one", "_law_other", "_law_k"]) (sc := defScope lInside) (by decide +kernel))
            (fun _ _ _ _ _ => pg_name (i := 12) scInside.nd rfl (.inl rfl)) (fun _ _ _ _ _ => pts_one (pt_not (pt_chain op_le op_lt pe_int (pe_op op_sub (pe_ix (r := rIxT K) ix_tup (pv 1) (pv 12) (fun _ _ => rfl)) (pe_ix (r := rIxT K) ix_tup (pv 6) (pv 12) (fun _ _ => rfl))) (pe_ix (r := rIxT K) ix_tup (pv 7) (pv 12) (fun _ _ => rfl))))) (fun _ _ _ _ _ => pv 12)) (pe_lst pa_nil) (nomark _))))) pss_nil)
      (pss_cons (ps_if (pt_cmpR op_eq (pv 2) pe_str (nomark _)) (pss_one (ps_ret (pe_cmpR (op_inDT (u65 hr)) (pv 1) (pe_ix ix_tup (pv 0) pe_int (fun _ _ => rfl)) (by rfl)))) pss_nil)
      (pss_cons (ps_if (pt_cmpR op_eq (pv 2) pe_str (nomark _)) (pss_cons (ps_set (i := 8) scInside.nd rfl (.inl rfl) (pe_ix ix_tup (pv 0) pe_int (fun _ _ => rfl)))
        (pss_one (ps_ret (pe_call G hr (by rfl) N.m N.kp N.b .nil pass0 (pa_cons (pe_ix ix_tup (pv 0) pe_int (fun _ _ => rfl)) (pa_cons (pe_tup (pa_cons (pe_op op_sub (pv 3) (pe_ix ix_tup (pv 8) pe_int (fun _ _ => rfl))) (pa_cons (pe_op op_sub (pv 4) (pe_ix ix_tup (pv 8) pe_int (fun _ _ => rfl))) (pa_cons (pe_op op_sub (pv 5) (pe_ix ix_tup (pv 8) pe_int (fun _ _ => rfl))) pa_nil)))) pa_nil)))))) pss_nil)
      (pss_cons (ps_if (pt_cmpR op_eq (pv 2) pe_str (nomark _)) (pss_cons (ps_set (i := 9) scInside.nd rfl (.inl rfl) (pe_disp (pps_cons pe_str (pe_tup (pa_cons (pv 3) (pa_cons (pv 5) (pa_cons (pe_op op_sub pe_int (pv 4)) pa_nil)))) (pps_cons pe_str (pe_tup (pa_cons (pe_op op_sub pe_int (pv 5)) (pa_cons (pv 4) (pa_cons (pv 3) pa_nil)))) (pps_cons pe_str (pe_tup (pa_cons (pv 4) (pa_cons (pe_op op_sub pe_int (pv 3)) (pa_cons (pv 5) pa_nil)))) pps_nil))) (by rfl) (by rfl) (fun z => by cases z) (by decide)))
        (pss_one (ps_ret (pe_call G hr (by rfl) N.m N.kp N.b .nil pass0 (pa_cons (pe_ix ix_tup (pv 0) pe_int (fun _ _ => rfl)) (pa_cons (pe_dget hu (pv 9) (pe_ix ix_tup (pv 0) pe_int (fun _ _ => rfl)) (fun _ _ => rfl)) pa_nil)))))) pss_nil)
      (pss_cons (ps_set (i := 10) scInside.nd rfl (.inl rfl) (pe_call G hr (by rfl) N.m N.kp N.b .nil pass0 (pa_cons (pe_ix ix_tup (pv 0) pe_int (fun _ _ => rfl)) (pa_cons (pv 1) pa_nil))))
      (pss_cons (ps_set (i := 11) scInside.nd rfl (.inl rfl) (pe_call G hr (by rfl) N.m N.kp N.b .nil pass0 (pa_cons (pe_ix ix_tup (pv 0) pe_int (fun _ _ => rfl)) (pa_cons (pv 1) pa_nil))))
      (pss_cons (ps_if (pt_cmpR op_eq (pv 2) pe_str (nomark _)) (pss_one (ps_ret (pe_or (pv 10) (pe_one (pv 11))))) pss_nil)
      (pss_one (ps_ret (pe_and (pv 10) (pe_one (pe_cmpR op_eq (pv 11) (pe_cmpR op_eq (pv 2) pe_str (nomark _)) (nomark _)))))))))))))), ?_⟩
    cases b with
    | block x y z a b' c' =>
      obtain ⟨p, y1, z1, rfl, hT, h1, h2⟩ := of_body3 hB
      refine ⟨_, rfl, p, _, _, _, rfl, rfl, hT, rfl, ?_⟩
      refine ⟨_, rfl, pc, _, rfl, hc, rfl, _, _, rfl, _, _, rfl, _, _, rfl, rfl, ?_⟩
      refine ⟨_, rfl, rfl, _, rfl, itD1 (by decide +kernel) ?_⟩
      obtain ⟨pl, rfl, hl⟩ := of_dp_c h1
      obtain ⟨ps, rfl, hs⟩ := of_dp_c h2
      refine ⟨_, rfl, 1, rfl, p, _, rfl, hT, (fun z => absurd (show (1 : Nat) = 0 from z.1) (by decide)), fun r hr' => ?_⟩
      have k1 : Kp [] H (upd H r (.tup (cutV [.str "block", .ref pl, .ref ps] (some 1) none))) := Kp.new hr'
      have hps : SqT K (upd H r (.tup (cutV [.str "block", .ref pl, .ref ps] (some 1) none))) r [.ref pl, .ref ps] := SqT.of upd_same
      generalize upd H r (.tup (cutV [.str "block", .ref pl, .ref ps] (some 1) none)) = H1 at k1 hps ⊢
      refine ⟨r, [.ref pl, .ref ps], rfl, hps, rfl, _, _, rfl, _, _, rfl, rfl, ?_⟩
      refine ⟨3, rfl, by decide, by decide, fun D hD => lc_range (lo := 0) (n := 3) (fun i H' => Kp [] H1 H' ∧ ∃ ks : List Int, H' D = some (.lst (ks.map V.int)) ∧ ks.length ≤ i ∧ (decide (ks = []) = (List.range i).all (blkAt c x y z a b' c'))) ⟨Kp.new hD, [], upd_same, Nat.le_refl _, rfl⟩ (fun i H' hi pv => ?_) (fun H' pv => ?_)⟩
      · obtain ⟨k, ks, hDl, hkl, hks⟩ := pv
        have kk := k1.trans k
        have fin : ∀ (lo sz u : Int), blkAt c x y z a b' c' i = (decide (0 ≤ u - lo) && decide (u - lo < sz)) → (blkAt c x y z a b' c' i = true → Kp [] H1 H' ∧ ∃ ks : List Int, H' D = some (.lst (ks.map V.int)) ∧ ks.length ≤ i + 1 ∧ (decide (ks = []) = (List.range (i + 1)).all (blkAt c x y z a b' c'))) ∧
            (blkAt c x y z a b' c' i = false → ∃ acc, H' D = some (.lst acc) ∧ acc.length < sizeLine ∧ Kp [] H1 (upd H' D (.lst (acc ++ [.int (0 + (i : Int))]))) ∧ ∃ ks : List Int, (upd H' D (.lst (acc ++ [.int (0 + (i : Int))]))) D = some (.lst (ks.map V.int)) ∧ ks.length ≤ i + 1 ∧ (decide (ks = []) = (List.range (i + 1)).all (blkAt c x y z a b' c'))) := by
          intro lo sz u e
          refine ⟨fun g => ⟨k, ks, hDl, by omega, ?_⟩, fun g => ⟨_, hDl, ?_, k.chg0 hD hDl, ks ++ [(0 + (i : Int))], ?_, ?_, ?_⟩⟩
          · rw [all_succ, hks, g, Bool.and_true]
          · rw [List.length_map]
            have : (64 : Nat) < sizeLine := by decide
            omega
          · rw [upd_same, List.map_append]
            rfl
          · rw [List.length_append, List.length_singleton]
            omega
          · rw [all_succ, g, Bool.and_false]
            simp
        rcases (show i = 0 ∨ i = 1 ∨ i = 2 by omega) with rfl | rfl | rfl
        · refine ⟨rfl, _, rfl, _, rfl, pc, _, _, _, rfl, rfl, kk.sqT hc, rfl, ?_⟩
          refine ⟨_, rfl, _, rfl, pl, _, _, _, rfl, rfl, kk.sqT hl, rfl, _, _, rfl, rfl, _, _, rfl, rfl, _, rfl, ?_⟩
          have fz := fin x a (c.1) rfl
          have ef : blkAt c x y z a b' c' 0 = (decide (0 ≤ c.1 - x) && decide (c.1 - x < a)) := rfl
          rw [ef] at fz
          show (if decide ((0 : Int) ≤ c.1 - x) = true then _ else _)
          cases e1 : decide (0 ≤ c.1 - x) with
          | false =>
            rw [e1] at fz
            exact iteF ⟨_, rfl, iteT ⟨_, rfl, fz.2 rfl⟩⟩
          | true =>
            rw [e1] at fz
            refine iteT ⟨_, rfl, _, rfl, ps, _, _, _, rfl, rfl, kk.sqT hs, rfl, _, _, rfl, rfl, _, rfl, ?_⟩
            show (if (!decide (c.1 - x < a)) = true then _ else _)
            cases e2 : decide (c.1 - x < a) with
            | false =>
              rw [e2] at fz
              exact iteT ⟨_, rfl, fz.2 rfl⟩
            | true =>
              rw [e2] at fz
              exact iteF (fz.1 rfl)
        · refine ⟨rfl, _, rfl, _, rfl, pc, _, _, _, rfl, rfl, kk.sqT hc, rfl, ?_⟩
          refine ⟨_, rfl, _, rfl, pl, _, _, _, rfl, rfl, kk.sqT hl, rfl, _, _, rfl, rfl, _, _, rfl, rfl, _, rfl, ?_⟩
          have fz := fin y b' (c.2.1) rfl
          have ef : blkAt c x y z a b' c' 1 = (decide (0 ≤ c.2.1 - y) && decide (c.2.1 - y < b')) := rfl
          rw [ef] at fz
          show (if decide ((0 : Int) ≤ c.2.1 - y) = true then _ else _)
          cases e1 : decide (0 ≤ c.2.1 - y) with
          | false =>
            rw [e1] at fz
            exact iteF ⟨_, rfl, iteT ⟨_, rfl, fz.2 rfl⟩⟩
          | true =>
            rw [e1] at fz
            refine iteT ⟨_, rfl, _, rfl, ps, _, _, _, rfl, rfl, kk.sqT hs, rfl, _, _, rfl, rfl, _, rfl, ?_⟩
            show (if (!decide (c.2.1 - y < b')) = true then _ else _)
            cases e2 : decide (c.2.1 - y < b') with
            | false =>
              rw [e2] at fz
              exact iteT ⟨_, rfl, fz.2 rfl⟩
            | true =>
              rw [e2] at fz
              exact iteF (fz.1 rfl)
        · refine ⟨rfl, _, rfl, _, rfl, pc, _, _, _, rfl, rfl, kk.sqT hc, rfl, ?_⟩
          refine ⟨_, rfl, _, rfl, pl, _, _, _, rfl, rfl, kk.sqT hl, rfl, _, _, rfl, rfl, _, _, rfl, rfl, _, rfl, ?_⟩
          have fz := fin z c' (c.2.2) rfl
          have ef : blkAt c x y z a b' c' 2 = (decide (0 ≤ c.2.2 - z) && decide (c.2.2 - z < c')) := rfl
          rw [ef] at fz
          show (if decide ((0 : Int) ≤ c.2.2 - z) = true then _ else _)
          cases e1 : decide (0 ≤ c.2.2 - z) with
          | false =>
            rw [e1] at fz
            exact iteF ⟨_, rfl, iteT ⟨_, rfl, fz.2 rfl⟩⟩
          | true =>
            rw [e1] at fz
            refine iteT ⟨_, rfl, _, rfl, ps, _, _, _, rfl, rfl, kk.sqT hs, rfl, _, _, rfl, rfl, _, rfl, ?_⟩
            show (if (!decide (c.2.2 - z < c')) = true then _ else _)
            cases e2 : decide (c.2.2 - z < c') with
            | false =>
              rw [e2] at fz
              exact iteT ⟨_, rfl, fz.2 rfl⟩
            | true =>
              rw [e2] at fz
              exact iteF (fz.1 rfl)
      · obtain ⟨k, ks, hDl, hkl, hks⟩ := pv
        refine ⟨Nat.zero_le _, fun r2 hr2 => ?_⟩
        have kp : Kp [] H' (upd H' r2 (.lst [])) := Kp.new hr2
        refine ⟨.list (ks.map PyData.int), .list [], .lst (SqL.of (kp.lst hDl List.not_mem_nil)) (dp_ints ks), .lst (SqL.of upd_same) .nil, ints_shaped ks, ints_shaped [], ?_⟩
        have z := q _ ((k1.trans k).trans kp)
        rw [inside_blk, ← hks] at z
        rw [show PyData.eqv (.list (ks.map PyData.int)) (.list []) = decide (ks = []) from by cases ks <;> simp [PyData.eqv, PyData.eqvAll]]
        exact z
    | cells cs =>
      obtain ⟨p, y1, rfl, hT, h1⟩ := of_body2 hB
      refine ⟨_, rfl, p, _, _, _, rfl, rfl, hT, rfl, ?_⟩
      refine ⟨_, rfl, pc, _, rfl, hc, rfl, _, _, rfl, _, _, rfl, _, _, rfl, rfl, ?_⟩
      refine ⟨_, rfl, rfl, _, rfl, itD0 (by decide +kernel) ?_⟩
      refine ⟨_, rfl, rfl, _, rfl, itD1 (by decide +kernel) ?_⟩
      refine ⟨_, rfl, _, rfl, p, _, _, _, rfl, rfl, hT, rfl, cD c, cs.map cD, dp_c hc, h1, cD_shaped c, cDs_shapedT cs, ?_⟩
      rw [any_eqv]
      exact q H (Kp.refl _ _)
    | moved d b1 =>
      obtain ⟨p, y1, z1, rfl, hT, h1, h2⟩ := of_body3 hB
      refine ⟨_, rfl, p, _, _, _, rfl, rfl, hT, rfl, ?_⟩
      refine ⟨_, rfl, pc, _, rfl, hc, rfl, _, _, rfl, _, _, rfl, _, _, rfl, rfl, ?_⟩
      refine ⟨_, rfl, rfl, _, rfl, itD0 (by decide +kernel) ?_⟩
      refine ⟨_, rfl, rfl, _, rfl, itD0 (by decide +kernel) ?_⟩
      refine ⟨_, rfl, rfl, _, rfl, itD1 (by decide +kernel) ?_⟩
      have hdp : dp b1 ≤ n := by
        unfold dp at hn
        omega
      obtain ⟨pd, rfl, hd⟩ := of_dp_c h1
      refine ⟨_, rfl, p, _, _, _, rfl, rfl, hT, rfl, ?_⟩
      refine ⟨_, rfl, p, _, _, _, rfl, rfl, hT, rfl, _, rfl, _, rfl, pd, _, _, _, rfl, rfl, hd, rfl, _, _, rfl, rfl, _, rfl, _, rfl, pd, _, _, _, rfl, rfl, hd, rfl, _, _, rfl, rfl, _, rfl, _, rfl, pd, _, _, _, rfl, rfl, hd, rfl, _, _, rfl, rfl, (by show 3 ≤ sizeLine; decide), fun t ht => ?_⟩
      have kt := Kp.new (S := []) (o := .tup [.int (c.1 - d.1), .int (c.2.1 - d.2.1), .int (c.2.2 - d.2.2)]) ht
      exact ⟨z1, t, b1, sub3 d c, rfl, body_mono kt h2, hdp, SqT.of upd_same, fun H' k => q H' (kt.trans k)⟩
    | turnX b1 =>
      obtain ⟨p, y1, z1, rfl, hT, h1, h2⟩ := of_body3 hB
      refine ⟨_, rfl, p, _, _, _, rfl, rfl, hT, rfl, ?_⟩
      refine ⟨_, rfl, pc, _, rfl, hc, rfl, _, _, rfl, _, _, rfl, _, _, rfl, rfl, ?_⟩
      refine ⟨_, rfl, rfl, _, rfl, itD0 (by decide +kernel) ?_⟩
      refine ⟨_, rfl, rfl, _, rfl, itD0 (by decide +kernel) ?_⟩
      refine ⟨_, rfl, rfl, _, rfl, itD0 (by decide +kernel) ?_⟩
      refine ⟨_, rfl, rfl, _, rfl, itD1 (by decide +kernel) ?_⟩
      obtain rfl := of_dps h1
      have hdp : dp b1 ≤ n := by
        unfold dp at hn
        omega
      intro dd hdd
      have k0 : Kp [] H (upd H dd (.dK [])) := Kp.new hdd
      have hd0 : upd H dd (.dK []) dd = some (.dK []) := upd_same
      show tPairs _ _ (upd H dd (.dK [])) _
      generalize upd H dd (.dK []) = H0 at k0 hd0 ⊢
      refine ⟨_, rfl, _, rfl, _, rfl, _, _, rfl, rfl, (by show 3 ≤ sizeLine; decide), fun t1 ht1 => ?_⟩
      refine ⟨_, rfl, _, _, rfl, rfl, _, rfl, _, rfl, (by show 3 ≤ sizeLine; decide), fun t2 ht2 => ?_⟩
      refine ⟨_, rfl, _, rfl, _, _, rfl, rfl, _, rfl, (by show 3 ≤ sizeLine; decide), fun t3 ht3 => ?_⟩
      have k1 := Kp.new (S := []) (o := .tup [.int c.1, .int c.2.2, .int (3 - c.2.1)]) ht1
      have k2 := Kp.new (S := []) (o := .tup [.int (3 - c.2.2), .int c.2.1, .int c.1]) ht2
      have k3 := Kp.new (S := []) (o := .tup [.int c.2.1, .int (3 - c.1), .int c.2.2]) ht3
      have hd3 := k3.keep dd _ (k2.keep dd _ (k1.keep dd _ hd0 List.not_mem_nil (fun _ z => by cases z)) List.not_mem_nil (fun _ z => by cases z)) List.not_mem_nil (fun _ z => by cases z)
      have kd := Kp.chgD (S := [dd]) (k2 := mergeK [] [(Sum.inr "x", V.ref t1), (Sum.inr "y", V.ref t2), (Sum.inr "z", V.ref t3)]) hd3 (List.mem_singleton.mpr rfl)
      have kk := (((k0.trans k1).trans k2).trans k3).off hdd kd
      refine ⟨hd3, [(Sum.inr "x", V.ref t1), (Sum.inr "y", V.ref t2), (Sum.inr "z", V.ref t3)], rfl, (by show 3 ≤ 15; decide), ?_⟩
      refine ⟨_, rfl, p, _, _, _, rfl, rfl, (kk.sqT hT), rfl, ?_⟩
      refine ⟨_, rfl, _, rfl, p, _, _, _, rfl, rfl, (kk.sqT hT), rfl, dd, V.ref t1, rfl, (by rw [← backX t1 t2 t3]; exact DGet.k (k := Sum.inr "x") upd_same), ?_⟩
      exact ⟨z1, t1, b1, uX c, rfl, body_mono kk h2, hdp, kd.sqT (k3.sqT (k2.sqT (SqT.of upd_same))), fun H' k => q H' (kk.trans k)⟩
    | turnY b1 =>
      obtain ⟨p, y1, z1, rfl, hT, h1, h2⟩ := of_body3 hB
      refine ⟨_, rfl, p, _, _, _, rfl, rfl, hT, rfl, ?_⟩
      refine ⟨_, rfl, pc, _, rfl, hc, rfl, _, _, rfl, _, _, rfl, _, _, rfl, rfl, ?_⟩
      refine ⟨_, rfl, rfl, _, rfl, itD0 (by decide +kernel) ?_⟩
      refine ⟨_, rfl, rfl, _, rfl, itD0 (by decide +kernel) ?_⟩
      refine ⟨_, rfl, rfl, _, rfl, itD0 (by decide +kernel) ?_⟩
      refine ⟨_, rfl, rfl, _, rfl, itD1 (by decide +kernel) ?_⟩
      obtain rfl := of_dps h1
      have hdp : dp b1 ≤ n := by
        unfold dp at hn
        omega
      intro dd hdd
      have k0 : Kp [] H (upd H dd (.dK [])) := Kp.new hdd
      have hd0 : upd H dd (.dK []) dd = some (.dK []) := upd_same
      show tPairs _ _ (upd H dd (.dK [])) _
      generalize upd H dd (.dK []) = H0 at k0 hd0 ⊢
      refine ⟨_, rfl, _, rfl, _, rfl, _, _, rfl, rfl, (by show 3 ≤ sizeLine; decide), fun t1 ht1 => ?_⟩
      refine ⟨_, rfl, _, _, rfl, rfl, _, rfl, _, rfl, (by show 3 ≤ sizeLine; decide), fun t2 ht2 => ?_⟩
      refine ⟨_, rfl, _, rfl, _, _, rfl, rfl, _, rfl, (by show 3 ≤ sizeLine; decide), fun t3 ht3 => ?_⟩
      have k1 := Kp.new (S := []) (o := .tup [.int c.1, .int c.2.2, .int (3 - c.2.1)]) ht1
      have k2 := Kp.new (S := []) (o := .tup [.int (3 - c.2.2), .int c.2.1, .int c.1]) ht2
      have k3 := Kp.new (S := []) (o := .tup [.int c.2.1, .int (3 - c.1), .int c.2.2]) ht3
      have hd3 := k3.keep dd _ (k2.keep dd _ (k1.keep dd _ hd0 List.not_mem_nil (fun _ z => by cases z)) List.not_mem_nil (fun _ z => by cases z)) List.not_mem_nil (fun _ z => by cases z)
      have kd := Kp.chgD (S := [dd]) (k2 := mergeK [] [(Sum.inr "x", V.ref t1), (Sum.inr "y", V.ref t2), (Sum.inr "z", V.ref t3)]) hd3 (List.mem_singleton.mpr rfl)
      have kk := (((k0.trans k1).trans k2).trans k3).off hdd kd
      refine ⟨hd3, [(Sum.inr "x", V.ref t1), (Sum.inr "y", V.ref t2), (Sum.inr "z", V.ref t3)], rfl, (by show 3 ≤ 15; decide), ?_⟩
      refine ⟨_, rfl, p, _, _, _, rfl, rfl, (kk.sqT hT), rfl, ?_⟩
      refine ⟨_, rfl, _, rfl, p, _, _, _, rfl, rfl, (kk.sqT hT), rfl, dd, V.ref t2, rfl, (by rw [← backY t1 t2 t3]; exact DGet.k (k := Sum.inr "y") upd_same), ?_⟩
      exact ⟨z1, t2, b1, uY c, rfl, body_mono kk h2, hdp, kd.sqT (k3.sqT (SqT.of upd_same)), fun H' k => q H' (kk.trans k)⟩
    | turnZ b1 =>
      obtain ⟨p, y1, z1, rfl, hT, h1, h2⟩ := of_body3 hB
      refine ⟨_, rfl, p, _, _, _, rfl, rfl, hT, rfl, ?_⟩
      refine ⟨_, rfl, pc, _, rfl, hc, rfl, _, _, rfl, _, _, rfl, _, _, rfl, rfl, ?_⟩
      refine ⟨_, rfl, rfl, _, rfl, itD0 (by decide +kernel) ?_⟩
      refine ⟨_, rfl, rfl, _, rfl, itD0 (by decide +kernel) ?_⟩
      refine ⟨_, rfl, rfl, _, rfl, itD0 (by decide +kernel) ?_⟩
      refine ⟨_, rfl, rfl, _, rfl, itD1 (by decide +kernel) ?_⟩
      obtain rfl := of_dps h1
      have hdp : dp b1 ≤ n := by
        unfold dp at hn
        omega
      intro dd hdd
      have k0 : Kp [] H (upd H dd (.dK [])) := Kp.new hdd
      have hd0 : upd H dd (.dK []) dd = some (.dK []) := upd_same
      show tPairs _ _ (upd H dd (.dK [])) _
      generalize upd H dd (.dK []) = H0 at k0 hd0 ⊢
      refine ⟨_, rfl, _, rfl, _, rfl, _, _, rfl, rfl, (by show 3 ≤ sizeLine; decide), fun t1 ht1 => ?_⟩
      refine ⟨_, rfl, _, _, rfl, rfl, _, rfl, _, rfl, (by show 3 ≤ sizeLine; decide), fun t2 ht2 => ?_⟩
      refine ⟨_, rfl, _, rfl, _, _, rfl, rfl, _, rfl, (by show 3 ≤ sizeLine; decide), fun t3 ht3 => ?_⟩
      have k1 := Kp.new (S := []) (o := .tup [.int c.1, .int c.2.2, .int (3 - c.2.1)]) ht1
      have k2 := Kp.new (S := []) (o := .tup [.int (3 - c.2.2), .int c.2.1, .int c.1]) ht2
      have k3 := Kp.new (S := []) (o := .tup [.int c.2.1, .int (3 - c.1), .int c.2.2]) ht3
      have hd3 := k3.keep dd _ (k2.keep dd _ (k1.keep dd _ hd0 List.not_mem_nil (fun _ z => by cases z)) List.not_mem_nil (fun _ z => by cases z)) List.not_mem_nil (fun _ z => by cases z)
      have kd := Kp.chgD (S := [dd]) (k2 := mergeK [] [(Sum.inr "x", V.ref t1), (Sum.inr "y", V.ref t2), (Sum.inr "z", V.ref t3)]) hd3 (List.mem_singleton.mpr rfl)
      have kk := (((k0.trans k1).trans k2).trans k3).off hdd kd
      refine ⟨hd3, [(Sum.inr "x", V.ref t1), (Sum.inr "y", V.ref t2), (Sum.inr "z", V.ref t3)], rfl, (by show 3 ≤ 15; decide), ?_⟩
      refine ⟨_, rfl, p, _, _, _, rfl, rfl, (kk.sqT hT), rfl, ?_⟩
      refine ⟨_, rfl, _, rfl, p, _, _, _, rfl, rfl, (kk.sqT hT), rfl, dd, V.ref t3, rfl, (by rw [← backZ t1 t2 t3]; exact DGet.k (k := Sum.inr "z") upd_same), ?_⟩
      exact ⟨z1, t3, b1, uZ c, rfl, body_mono kk h2, hdp, kd.sqT (SqT.of upd_same), fun H' k => q H' (kk.trans k)⟩
    | wth b1 b2 =>
      obtain ⟨p, y1, z1, rfl, hT, h1, h2⟩ := of_body3 hB
      refine ⟨_, rfl, p, _, _, _, rfl, rfl, hT, rfl, ?_⟩
      refine ⟨_, rfl, pc, _, rfl, hc, rfl, _, _, rfl, _, _, rfl, _, _, rfl, rfl, ?_⟩
      refine ⟨_, rfl, rfl, _, rfl, itD0 (by decide +kernel) ?_⟩
      refine ⟨_, rfl, rfl, _, rfl, itD0 (by decide +kernel) ?_⟩
      refine ⟨_, rfl, rfl, _, rfl, itD0 (by decide +kernel) ?_⟩
      refine ⟨_, rfl, rfl, _, rfl, itD0 (by decide +kernel) ?_⟩
      have hdp : dp b1 ≤ n ∧ dp b2 ≤ n := by
        unfold dp at hn
        omega
      refine ⟨_, rfl, p, _, _, _, rfl, rfl, hT, rfl, _, rfl, y1, pc, b1, c, rfl, h1, hdp.1, hc, fun H1 k1 => ?_⟩
      refine ⟨_, rfl, p, _, _, _, rfl, rfl, (k1.sqT hT), rfl, _, rfl, z1, pc, b2, c, rfl, body_mono k1 h2, hdp.2, k1.sqT hc, fun H2 k2 => ?_⟩
      have z := q H2 (k1.trans k2)
      refine ⟨_, rfl, rfl, _, rfl, itD1 (by decide +kernel) ?_⟩
      refine ⟨_, rfl, _, rfl, ?_⟩
      show (if inside b1 c = true then _ else _)
      unfold inside at z
      cases e : inside b1 c with
      | true =>
        rw [e, Bool.true_or] at z
        exact iteT z
      | false =>
        rw [e, Bool.false_or] at z
        exact iteF ⟨_, rfl, z⟩
    | common b1 b2 =>
      obtain ⟨p, y1, z1, rfl, hT, h1, h2⟩ := of_body3 hB
      refine ⟨_, rfl, p, _, _, _, rfl, rfl, hT, rfl, ?_⟩
      refine ⟨_, rfl, pc, _, rfl, hc, rfl, _, _, rfl, _, _, rfl, _, _, rfl, rfl, ?_⟩
      refine ⟨_, rfl, rfl, _, rfl, itD0 (by decide +kernel) ?_⟩
      refine ⟨_, rfl, rfl, _, rfl, itD0 (by decide +kernel) ?_⟩
      refine ⟨_, rfl, rfl, _, rfl, itD0 (by decide +kernel) ?_⟩
      refine ⟨_, rfl, rfl, _, rfl, itD0 (by decide +kernel) ?_⟩
      have hdp : dp b1 ≤ n ∧ dp b2 ≤ n := by
        unfold dp at hn
        omega
      refine ⟨_, rfl, p, _, _, _, rfl, rfl, hT, rfl, _, rfl, y1, pc, b1, c, rfl, h1, hdp.1, hc, fun H1 k1 => ?_⟩
      refine ⟨_, rfl, p, _, _, _, rfl, rfl, (k1.sqT hT), rfl, _, rfl, z1, pc, b2, c, rfl, body_mono k1 h2, hdp.2, k1.sqT hc, fun H2 k2 => ?_⟩
      have z := q H2 (k1.trans k2)
      refine ⟨_, rfl, rfl, _, rfl, itD0 (by decide +kernel) ?_⟩
      refine ⟨_, rfl, _, rfl, ?_⟩
      show (if inside b1 c = true then _ else _)
      unfold inside at z
      cases e : inside b1 c with
      | false =>
        rw [e, Bool.false_and] at z
        exact iteF z
      | true =>
        rw [e, Bool.true_and] at z
        refine iteT ⟨_, rfl, _, rfl, rfl, rfl, ?_⟩
        rw [show decide (V.str "common" = V.str "common") = true by decide +kernel, show decide (V.bl (inside b2 c) = V.bl true) = inside b2 c by cases inside b2 c <;> rfl]
        exact z
    | less b1 b2 =>
      obtain ⟨p, y1, z1, rfl, hT, h1, h2⟩ := of_body3 hB
      refine ⟨_, rfl, p, _, _, _, rfl, rfl, hT, rfl, ?_⟩
      refine ⟨_, rfl, pc, _, rfl, hc, rfl, _, _, rfl, _, _, rfl, _, _, rfl, rfl, ?_⟩
      refine ⟨_, rfl, rfl, _, rfl, itD0 (by decide +kernel) ?_⟩
      refine ⟨_, rfl, rfl, _, rfl, itD0 (by decide +kernel) ?_⟩
      refine ⟨_, rfl, rfl, _, rfl, itD0 (by decide +kernel) ?_⟩
      refine ⟨_, rfl, rfl, _, rfl, itD0 (by decide +kernel) ?_⟩
      have hdp : dp b1 ≤ n ∧ dp b2 ≤ n := by
        unfold dp at hn
        omega
      refine ⟨_, rfl, p, _, _, _, rfl, rfl, hT, rfl, _, rfl, y1, pc, b1, c, rfl, h1, hdp.1, hc, fun H1 k1 => ?_⟩
      refine ⟨_, rfl, p, _, _, _, rfl, rfl, (k1.sqT hT), rfl, _, rfl, z1, pc, b2, c, rfl, body_mono k1 h2, hdp.2, k1.sqT hc, fun H2 k2 => ?_⟩
      have z := q H2 (k1.trans k2)
      refine ⟨_, rfl, rfl, _, rfl, itD0 (by decide +kernel) ?_⟩
      refine ⟨_, rfl, _, rfl, ?_⟩
      show (if inside b1 c = true then _ else _)
      unfold inside at z
      cases e : inside b1 c with
      | false =>
        rw [e, Bool.false_and] at z
        exact iteF z
      | true =>
        rw [e, Bool.true_and] at z
        refine iteT ⟨_, rfl, _, rfl, rfl, rfl, ?_⟩
        rw [show decide (V.str "less" = V.str "common") = false by decide +kernel, show decide (V.bl (inside b2 c) = V.bl false) = !inside b2 c by cases inside b2 c <;> rfl]
        exact z

theorem inside_none {f : Addr} {fd : FuncData} : FnOk P W0 K mg base CX0 0 f fd ["_law_body_here", "_law_cell"] (spInside K 0) := by
  have no : ∀ vs H Q E, ¬ spInside K 0 vs H Q E := fun vs H Q E h => by
    obtain ⟨_, _, b, _, _, _, hn, _⟩ := h
    have := dp_pos b
    omega
  exact ⟨fun vs H Q E h => absurd h (no vs H Q E), fun A outer s H args us vs Q E _ _ _ _ h => absurd h (no vs H Q E)⟩
theorem ok_inside {f : Addr} {fd : FuncData} (F : Fun K "_law_inside" "_law_inside" lInside f fd) (T : Nm K mg) (N : Fn K mg "_law_inside" f fd ["_law_body_here", "_law_cell"]) :
    ∀ n : Nat, FnOk P W0 K mg base CX0 n f fd ["_law_body_here", "_law_cell"] (spInside K n)
  | 0 => inside_none
  | n + 1 => inside_step F T N (ok_inside F T N n)
end LP
end

section
set_option Elab.async false
set_option linter.all false
set_option maxRecDepth 100000
set_option maxHeartbeats 2000000
/-! _law_all -/
namespace LP
open PySem PySem.Spec PyProof.Rows L2 Ly GY
variable [LamTab] {P : Program} {W0 : World} {K : PySem.W.Frag} {mg : Str → Option Value} {base : Heap}
def spAll (K : PySem.W.Frag) : Sp := fun vs H Q _ => ∃ (v : V) (b : Bd), vs = [v] ∧ Body K H v b ∧ dp b ≤ 20 ∧ ∀ (H' : Hp) (r : Addr) (zs : List V), Kp [] H H' → H r = none → H' r = some (.lst zs) → Items K H' zs (all b) → Q (.ref r) H'
theorem scAll : FnScope ["_law_body_here", "_law_room", "_law_k", "_law_cell"] ["_law_body_here"] (defScope lAll) := ⟨rfl, rfl, rfl, by decide +kernel, rfl, by decide +kernel, by decide +kernel⟩
theorem room_len : room.length = 64 := by unfold room; rw [List.length_map, List.length_range]
theorem ok_all {f fI : Addr} {fd dI : FuncData} (F : Fun K "_law_all" "_law_all" lAll f fd) (T : Nm K mg) (NI : Fn K mg "_law_inside" fI dI ["_law_body_here", "_law_cell"]) (GI : FnOk P W0 K mg base CX0 20 fI dI ["_law_body_here", "_law_cell"] (spInside K 20)) :
    FnOk P W0 K mg base CX0 21 f fd ["_law_body_here"] (spAll K) := by
  refine F.ok scAll (fun vs H Q E h => ?_) (fun cdv A outer s H vs Q E hr h => ?_)
  · obtain ⟨v, b, rfl, _⟩ := h
    rfl
  · obtain ⟨v, b, rfl, hB, hn, q⟩ := h
    refine ⟨_, pss_cons (ps_setLc (i := 1) (own := [("_law_k", 2)]) (g := gName 2) rfl scAll.nd rfl rfl (sw_true rfl rfl rfl (by decide +kernel)) (pi_range1 (by rfl) T.range (pa_cons pe_int pa_nil)) (blkOk_by (own := [("_law_k", 2)]) (N := ["_law_body_here", "_law_room", "_law_k", "_law_cell"]) (sc := defScope lAll) (by decide +kernel))
        (fun _ _ _ _ _ => pg_name (i := 2) scAll.nd rfl (.inl rfl)) (fun _ _ _ _ _ => pts_nil) (fun _ _ _ _ _ => pe_tup (pa_cons (pe_op op_fdiv (pv 2) pe_int) (pa_cons (pe_op op_mod (pe_op op_fdiv (pv 2) pe_int) pe_int) (pa_cons (pe_op op_mod (pv 2) pe_int) pa_nil)))))
      (pss_one (ps_ret (pe_lc (own := [("_law_cell", 3)]) (g := gName 3) rfl scAll.nd (pi_list (pv 1)) (blkOk_by (own := [("_law_cell", 3)]) (N := ["_law_body_here", "_law_room", "_law_k", "_law_cell"]) (sc := defScope lAll) (by decide +kernel))
        (fun _ _ _ _ _ => pg_name (i := 3) scAll.nd rfl (.inl rfl)) (fun _ _ _ _ _ => pts_one (pt_val (pe_call GI hr (by rfl) NI.m NI.kp NI.b .nil pass0 (pa_cons (pv 0) (pa_cons (pv 3) pa_nil))))) (fun _ _ _ _ _ => pv 3)))), ?_⟩
    refine ⟨64, rfl, by decide, by decide, fun R hR => lc_range (lo := 0) (n := 64) (fun i H' => Kp [] H H' ∧ ∃ acc, H' R = some (.lst acc) ∧ Items K H' acc ((List.range i).map roomAt)) ⟨Kp.new hR, [], upd_same, .nil⟩ (fun i H' hi pv => ?_) (fun H' pv => ?_)⟩
    · obtain ⟨k, acc, hA, hI⟩ := pv
      have d16 : (0 : Int) < 16 ∧ (16 : Int) < 1073741824 := ⟨by decide, by decide⟩
      have d4 : (0 : Int) < 4 ∧ (4 : Int) < 1073741824 := ⟨by decide, by decide⟩
      refine ⟨rfl, yesI ?_⟩
      refine ⟨_, rfl, _, _, rfl, rfl, d16, _, rfl, _, _, rfl, rfl, d4, _, _, rfl, rfl, (by show (0 : Int) < 4; decide), _, rfl, _, _, rfl, rfl, (by show (0 : Int) < 4; decide), (by show 3 ≤ sizeLine; decide), fun t ht => ?_⟩
      have kt := Kp.new (S := []) (o := .tup [.int ((0 + (i : Int)) / 16), .int ((0 + (i : Int)) / 4 % 4), .int ((0 + (i : Int)) % 4)]) ht
      have hA2 := kt.lst hA List.not_mem_nil
      have hl := hI.length
      rw [List.length_map, List.length_range] at hl
      have hq : SqT K (upd H' t (.tup [.int ((0 + (i : Int)) / 16), .int ((0 + (i : Int)) / 4 % 4), .int ((0 + (i : Int)) % 4)])) t [.int (roomAt i).1, .int (roomAt i).2.1, .int (roomAt i).2.2] := by
        refine SqT.of ?_
        rw [upd_same, Int.zero_add]
        rfl
      have hit := items_mono kt hI
      have kc := Kp.chg (S := [R]) (ys := acc ++ [V.ref t]) hA2 (List.mem_singleton.mpr rfl)
      refine ⟨acc, hA2, ?_, (k.trans kt).chg0 hR hA2, _, upd_same, ?_⟩
      · have : (64 : Nat) < sizeLine := by decide
        omega
      · rw [List.range_succ, List.map_append]
        exact Items.append (items_mono kc hit) (Items.one (dp_c (kc.sqT hq)))
    · obtain ⟨k, acc, hA, hI⟩ := pv
      refine ⟨_, rfl, R, rfl, ⟨_, SqL.of hA⟩, fun D hD => lc_filter (K := K) (inside b) k hD (SqL.of hA) hI (by show room.length ≤ 64; rw [room_len]; decide) (fun c z H' Nx Z hc kk hz n1 n2 => ?_) (fun H' zs kk hy hi => q H' D zs kk (k.free D hD) hy hi)⟩
      refine ⟨rfl, _, rfl, _, rfl, v, z, b, c, rfl, body_mono kk hB, hn, hz, fun H'' k'' => ⟨_, rfl, ?_⟩⟩
      cases e : inside b c with
      | true => exact iteT ⟨_, rfl, n1 H'' k'' e⟩
      | false => exact iteF (n2 H'' k'' e)
end LP
end

section
set_option Elab.async false
set_option linter.all false
set_option maxRecDepth 100000
set_option maxHeartbeats 4000000
/-! _law_body -/
namespace LP
open PySem PySem.Spec PyProof.Rows L2 Ly GY
variable [LamTab] {P : Program} {W0 : World} {K : PySem.W.Frag} {mg : Str → Option Value} {base : Heap}
theorem Sta.apart {H : Hp} {h l r : Addr} (s : Sta H h l) (n : H r = none) : r ∉ [h, l] := by
  obtain ⟨m, t, ns, h1, h2, _⟩ := s
  intro z
  rcases List.mem_cons.mp z with z | z
  · rw [z, h1] at n; cases n
  · rw [List.mem_singleton.mp z, h2] at n; cases n
theorem Sta.ne {H : Hp} {h l r : Addr} (s : Sta H h l) (n : H r = none) : r ≠ h ∧ r ≠ l := by
  have := s.apart n
  simpa using this
/-- a new thing leaves the state -/
theorem Sta.new {H : Hp} {h l r : Addr} {o : HO} (s : Sta H h l) (n : H r = none) : Sta (upd H r o) h l := s.mono0 (Kp.new n)
/-- a change of what is not the state -/
theorem Sta.chg {H : Hp} {h l r : Addr} {xs ys : List V} (s : Sta H h l) (e : H r = some (.lst xs)) (n : r ∉ [h, l]) : Sta (upd H r (.lst ys)) h l := by
  simp at n
  exact s.mono (Kp.chg (S := [r]) e (List.mem_singleton.mpr rfl)) (by simp; exact Ne.symm n.1) (by simp; exact Ne.symm n.2)
def LowP (ns : List Int) (d m : Int) : Prop := (ns = [] ∧ m = d) ∨ (m ∈ ns ∧ ∀ j ∈ ns, m ≤ j)
def HighP (ns : List Int) (d m : Int) : Prop := (ns = [] ∧ m = d) ∨ (m ∈ ns ∧ ∀ j ∈ ns, j ≤ m)
theorem minR {H : Hp} {a : Addr} {ns : List Int} {d : Int} {Q : VK} (hL : SqL K H a (ns.map V.int)) (q : ∀ m, LowP ns d m → Q (.int m) H) : GW.rMinD K [.ref a] [.int d] H Q := ⟨a, ns, d, rfl, rfl, hL, fun e => q d (.inl ⟨e, rfl⟩), fun m h1 h2 => q m (.inr ⟨h1, h2⟩)⟩
theorem maxR {H : Hp} {a : Addr} {ns : List Int} {d : Int} {Q : VK} (hL : SqL K H a (ns.map V.int)) (q : ∀ m, HighP ns d m → Q (.int m) H) : GW.rMaxD K [.ref a] [.int d] H Q := ⟨a, ns, d, rfl, rfl, hL, fun e => q d (.inl ⟨e, rfl⟩), fun m h1 h2 => q m (.inr ⟨h1, h2⟩)⟩
def comp (j : Nat) (c : C3) : Int := if j = 0 then c.1 else if j = 1 then c.2.1 else c.2.2
theorem comp_at {i : Nat} (hi : i < 3) (c : C3) : atI [V.int c.1, V.int c.2.1, V.int c.2.2] (0 + (i : Int)) = some (.int (comp i c)) := by
  rcases (show i = 0 ∨ i = 1 ∨ i = 2 by omega) with rfl | rfl | rfl <;> rfl
theorem comp_in {c : C3} (h : InR c) (i : Nat) : 0 ≤ comp i c ∧ comp i c ≤ 3 := by
  unfold comp
  split
  · exact h.1
  · split
    · exact h.2.1
    · exact h.2.2
def FarOk (b : Bd) (j : Nat) (f : Int) : Prop := -3 ≤ f ∧ f ≤ 3 ∧ ∀ c ∈ all b, 0 ≤ comp j c + f ∧ comp j c + f ≤ 3
theorem lowhigh {b : Bd} {i : Nat} {low high : Int} (h1 : LowP ((all b).map (comp i)) 0 low) (h2 : HighP ((all b).map (comp i)) 3 high) : 0 ≤ low ∧ low ≤ 3 ∧ 0 ≤ high ∧ high ≤ 3 ∧ ∀ c ∈ all b, low ≤ comp i c ∧ comp i c ≤ high := by
  have hin : ∀ x ∈ (all b).map (comp i), 0 ≤ x ∧ x ≤ 3 := by
    intro x hx
    obtain ⟨c, hc, rfl⟩ := List.mem_map.mp hx
    exact comp_in (in_all hc) i
  rcases h1 with ⟨e, rfl⟩ | ⟨m1, q1⟩
  · rcases h2 with ⟨_, rfl⟩ | ⟨m2, q2⟩
    · refine ⟨by decide, by decide, by decide, by decide, fun c hc => ?_⟩
      have : comp i c ∈ (all b).map (comp i) := List.mem_map.mpr ⟨c, hc, rfl⟩
      rw [e] at this
      cases this
    · rw [e] at m2
      cases m2
  · rcases h2 with ⟨e, rfl⟩ | ⟨m2, q2⟩
    · rw [e] at m1
      cases m1
    · refine ⟨(hin _ m1).1, (hin _ m1).2, (hin _ m2).1, (hin _ m2).2, fun c hc => ?_⟩
      have hm : comp i c ∈ (all b).map (comp i) := List.mem_map.mpr ⟨c, hc, rfl⟩
      exact ⟨q1 _ hm, q2 _ hm⟩
def spLBody (K : PySem.W.Frag) (n : Nat) : Sp := fun vs H Q _ => ∃ (h l : Addr) (d : Nat), vs = [.ref h, .int (d : Int)] ∧ d < n ∧ n ≤ 10 ∧ Sta H h l ∧
  ∀ (H' : Hp) (v : V) (b : Bd), Kp [h, l] H H' → Sta H' h l → Body K H' v b → Good b → dp b ≤ d + 1 → Q v H'
theorem scLBody : FnScope ["_law_h", "_law_deep", "_law_way", "_law_cell", "_law_k", "_law_some", "_law_word", "_law_one", "_law_far", "_law_low", "_law_high", "_law_number"] ["_law_h", "_law_deep"] (defScope lBody) := ⟨rfl, rfl, rfl, by decide +kernel, rfl, by decide +kernel, by decide +kernel⟩
theorem lbody_step {n : Nat} {f fX fA : Addr} {fd dX dA : FuncData} (F : Fun K "_law_body" "_law_body" lBody f fd) (T : Nm K mg) (U : Nl K mg) (NB : Fn K mg "_law_body" f fd ["_law_h", "_law_deep"]) (GB : FnOk P W0 K mg base CX0 (21 + n) f fd ["_law_h", "_law_deep"] (spLBody K n))
    (NX : Fn K mg "_law_next" fX dX ["_law_h", "_law_many"]) (GX : FnOk P W0 K mg base CX0 1 fX dX ["_law_h", "_law_many"] spNext) (NA : Fn K mg "_law_all" fA dA ["_law_body_here"]) (GA : FnOk P W0 K mg base CX0 21 fA dA ["_law_body_here"] (spAll K)) :
    FnOk P W0 K mg base CX0 (21 + n + 1) f fd ["_law_h", "_law_deep"] (spLBody K (n + 1)) := by
  refine F.ok scLBody (fun vs H Q E h => ?_) (fun cdv A outer s H vs Q E hr h => ?_)
  · obtain ⟨h, l, d, rfl, _⟩ := h
    rfl
  · obtain ⟨h, l, d, rfl, hd, hn10, hS, q⟩ := h
    have hr1 : Room 1 _ := hr.mono (by omega)
    have hr21 : Room 21 _ := hr.mono (by omega)
    refine ⟨_, pss_cons (ps_set (i := 2) scLBody.nd rfl (.inl rfl) (pe_call GX hr1 (by rfl) NX.m NX.kp NX.b .nil pass0 (pa_cons (pv 0) (pa_cons pe_int pa_nil))))
      (pss_cons (ps_if (PW.pt (pw_or (pt_cmpR op_eq (pv 1) pe_int (nomark _)) (pw_or1 (pt_cmpR op_lt (pv 2) pe_int (nomark _)))))
        (pss_cons (ps_set (i := 3) scLBody.nd rfl (.inl rfl) (pe_tup (pa_cons (pe_call GX hr1 (by rfl) NX.m NX.kp NX.b .nil pass0 (pa_cons (pv 0) (pa_cons pe_int pa_nil))) (pa_cons (pe_call GX hr1 (by rfl) NX.m NX.kp NX.b .nil pass0 (pa_cons (pv 0) (pa_cons pe_int pa_nil))) (pa_cons (pe_ix ix_list (pe_lst (pa_cons pe_int (pa_cons (pe_call GX hr1 (by rfl) NX.m NX.kp NX.b .nil pass0 (pa_cons (pv 0) (pa_cons pe_int pa_nil))) pa_nil))) (pe_call GX hr1 (by rfl) NX.m NX.kp NX.b .nil pass0 (pa_cons (pv 0) (pa_cons pe_int pa_nil))) (fun _ _ => rfl)) pa_nil)))))
        (pss_one (ps_ret (pe_tup (pa_cons pe_str (pa_cons (pv 3) (pa_cons (pe_callTy call_tuple_of (by rfl) T.tuple (by decide +kernel) (pa_cons
          (pe_lc (own := [("_law_number", 11)]) (g := gName 11) rfl scLBody.nd (pi_tup (pv 3)) (blkOk_by (own := [("_law_number", 11)]) (N := ["_law_h", "_law_deep", "_law_way", "_law_cell", "_law_k", "_law_some", "_law_word", "_law_one", "_law_far", "_law_low", "_law_high", "_law_number"]) (sc := defScope lBody) (by decide +kernel))
            (fun _ _ _ _ _ => pg_name (i := 11) scLBody.nd rfl (.inl rfl)) (fun _ _ _ _ _ => pts_nil) (fun _ _ _ _ _ => pe_op op_add pe_int (pe_call GX hr1 (by rfl) NX.m NX.kp NX.b .nil pass0 (pa_cons (pv 0) (pa_cons (pe_op op_sub pe_int (pv 11)) pa_nil))))) pa_nil)) pa_nil))))))) pss_nil)
      (pss_cons (ps_if (pt_cmpR op_eq (pv 2) pe_int (nomark _))
        (pss_cons (ps_setLc (i := 5) (own := [("_law_k", 4)]) (g := gName 4) rfl scLBody.nd rfl rfl (sw_true rfl rfl rfl (by decide +kernel)) (pi_range1 (by rfl) T.range (pa_cons (pe_call GX hr1 (by rfl) NX.m NX.kp NX.b .nil pass0 (pa_cons (pv 0) (pa_cons pe_int pa_nil))) pa_nil)) (blkOk_by (own := [("_law_k", 4)]) (N := ["_law_h", "_law_deep", "_law_way", "_law_cell", "_law_k", "_law_some", "_law_word", "_law_one", "_law_far", "_law_low", "_law_high", "_law_number"]) (sc := defScope lBody) (by decide +kernel))
            (fun _ _ _ _ _ => pg_name (i := 4) scLBody.nd rfl (.inl rfl)) (fun _ _ _ _ _ => pts_nil) (fun _ _ _ _ _ => pe_tup (pa_cons (pe_call GX hr1 (by rfl) NX.m NX.kp NX.b .nil pass0 (pa_cons (pv 0) (pa_cons pe_int pa_nil))) (pa_cons (pe_call GX hr1 (by rfl) NX.m NX.kp NX.b .nil pass0 (pa_cons (pv 0) (pa_cons pe_int pa_nil))) (pa_cons (pe_call GX hr1 (by rfl) NX.m NX.kp NX.b .nil pass0 (pa_cons (pv 0) (pa_cons pe_int pa_nil))) pa_nil)))))
        (pss_one (ps_ret (pe_tup (pa_cons pe_str (pa_cons (pe_callTy call_tuple_of (by rfl) T.tuple (by decide +kernel) (pa_cons (pe_callB (GZ.cr_sortedQ rfl hr.units) (by rfl) T.sorted (by decide +kernel) (pa_cons (pe_callTy (GZ.cr_setC rfl hr.units) (by rfl) T.set (by decide +kernel) (pa_cons (pv 5) pa_nil)) pa_nil)) pa_nil)) pa_nil)))))) pss_nil)
      (pss_cons (ps_if (pt_cmpR op_lt (pv 2) pe_int (nomark _))
        (pss_cons (ps_set (i := 6) scLBody.nd rfl (.inl rfl) (pe_ix ix_list (pe_lst (pa_cons pe_str (pa_cons pe_str (pa_cons pe_str (pa_cons pe_str pa_nil))))) (pe_op op_sub (pv 2) pe_int) (fun _ _ => rfl)))
        (pss_one (ps_ret (pe_tup (pa_cons (pv 6) (pa_cons (pe_call GB hr (by rfl) NB.m NB.kp NB.b .nil pass0 (pa_cons (pv 0) (pa_cons (pe_op op_sub (pv 1) pe_int) pa_nil))) (pa_cons (pe_call GB hr (by rfl) NB.m NB.kp NB.b .nil pass0 (pa_cons (pv 0) (pa_cons (pe_op op_sub (pv 1) pe_int) pa_nil))) pa_nil))))))) pss_nil)
      (pss_cons (ps_set (i := 7) scLBody.nd rfl (.inl rfl) (pe_call GB hr (by rfl) NB.m NB.kp NB.b .nil pass0 (pa_cons (pv 0) (pa_cons (pe_op op_sub (pv 1) pe_int) pa_nil))))
      (pss_cons (ps_if (pt_cmpR op_eq (pv 2) pe_int (nomark _)) (pss_one (ps_ret (pe_tup (pa_cons pe_str (pa_cons (pe_ix ix_str pe_str (pe_call GX hr1 (by rfl) NX.m NX.kp NX.b .nil pass0 (pa_cons (pv 0) (pa_cons pe_int pa_nil))) (fun _ _ => rfl)) (pa_cons (pv 7) pa_nil)))))) pss_nil)
      (pss_cons (ps_set (i := 5) scLBody.nd rfl (.inl rfl) (pe_call GA hr21 (by rfl) NA.m NA.kp NA.b .nil pass0 (pa_cons (pv 7) pa_nil)))
      (pss_cons (ps_set (i := 8) scLBody.nd rfl (.inl rfl) (pe_lst pa_nil))
      (pss_cons (ps_for PassesOwn.never rfl (pi_range1 (by rfl) T.range (pa_cons pe_int pa_nil)) (pg_name (i := 4) scLBody.nd rfl (.inr rfl))
        (pss_cons (ps_set (i := 9) scLBody.nd rfl (.inl rfl) (pe_callBK (GW.cr_minD rfl hr.units) (by rfl) U.min (by decide +kernel) (pa_cons (pe_lc (own := [("_law_cell", 3)]) (g := gName 3) rfl scLBody.nd (pi_list (pv 5)) (blkOk_by (own := [("_law_cell", 3)]) (N := ["_law_h", "_law_deep", "_law_way", "_law_cell", "_law_k", "_law_some", "_law_word", "_law_one", "_law_far", "_law_low", "_law_high", "_law_number"]) (sc := defScope lBody) (by decide +kernel)) (fun _ _ _ _ _ => pg_name (i := 3) scLBody.nd rfl (.inl rfl)) (fun _ _ _ _ _ => pts_nil) (fun _ _ _ _ _ => pe_ix (r := rIxT K) ix_tup (pv 3) (pv 4) (fun _ _ => rfl))) pa_nil) (pk_cons pe_int pk_nil)))
        (pss_cons (ps_set (i := 10) scLBody.nd rfl (.inl rfl) (pe_callBK (GW.cr_maxD rfl hr.units) (by rfl) U.max (by decide +kernel) (pa_cons (pe_lc (own := [("_law_cell", 3)]) (g := gName 3) rfl scLBody.nd (pi_list (pv 5)) (blkOk_by (own := [("_law_cell", 3)]) (N := ["_law_h", "_law_deep", "_law_way", "_law_cell", "_law_k", "_law_some", "_law_word", "_law_one", "_law_far", "_law_low", "_law_high", "_law_number"]) (sc := defScope lBody) (by decide +kernel)) (fun _ _ _ _ _ => pg_name (i := 3) scLBody.nd rfl (.inl rfl)) (fun _ _ _ _ _ => pts_nil) (fun _ _ _ _ _ => pe_ix (r := rIxT K) ix_tup (pv 3) (pv 4) (fun _ _ => rfl))) pa_nil) (pk_cons pe_int pk_nil)))
        (pss_one (ps_expr (pe_bm PySem.F.plainAttrs_list PySem.F.slot_list_append PySem.F.type_list_append mt_append (pv 8) (pa_cons (pe_op op_sub (pe_call GX hr1 (by rfl) NX.m NX.kp NX.b .nil pass0 (pa_cons (pv 0) (pa_cons (pe_op op_add (pe_op op_sub pe_int (pv 10)) (pv 9)) pa_nil))) (pv 9)) pa_nil)))))))
      (pss_one (ps_ret (pe_tup (pa_cons pe_str (pa_cons (pe_callTy call_tuple_of (by rfl) T.tuple (by decide +kernel) (pa_cons (pv 8) pa_nil)) (pa_cons (pv 7) pa_nil)))))))))))))), ?_⟩
    refine ⟨_, rfl, h, l, 10, rfl, by decide, by decide, hS, fun H1 way k1 s1 w0 w1 => ?_⟩
    refine ⟨_, rfl, rfl, _, rfl, ?_⟩
    by_cases hd0 : d = 0
    · subst hd0
      refine itD1 (by rfl) (iteT ?_)
      refine ⟨_, rfl, h, l, 4, rfl, by decide, by decide, s1, fun H2 ra k2 s2 a0 a1 => ?_⟩
      refine ⟨_, rfl, h, l, 4, rfl, by decide, by decide, s2, fun H3 rb k3 s3 b0 b1 => ?_⟩
      refine ⟨_, rfl, h, l, 4, rfl, by decide, by decide, s3, fun H4 rc k4 s4 c0 c1 => ⟨(by show 2 ≤ sizeLine; decide), fun lq hlq => ?_⟩⟩
      have hlqA := s4.apart hlq
      have s5 := s4.new (o := .lst [.int 0, .int rc]) hlq
      have k5 : Kp [h, l] H4 (upd H4 lq (.lst [.int 0, .int rc])) := Kp.new hlq
      have e5 : upd H4 lq (.lst [.int 0, .int rc]) lq = some (.lst [.int 0, .int rc]) := upd_same
      generalize upd H4 lq (.lst [.int 0, .int rc]) = H5 at s5 k5 e5 ⊢
      refine ⟨_, rfl, h, l, 2, rfl, by decide, by decide, s5, fun H6 rd k6 s6 d0 d1 => ?_⟩
      have e6 := k6.lst e5 hlqA
      obtain ⟨z, hz, z0, z1⟩ : ∃ z, atI [V.int 0, V.int rc] rd = some (.int z) ∧ 0 ≤ z ∧ z < 4 := by
        rcases (show rd = 0 ∨ rd = 1 by omega) with rfl | rfl
        · exact ⟨0, rfl, by decide, by decide⟩
        · exact ⟨rc, rfl, c0, c1⟩
      refine ⟨lq, _, rd, _, rfl, rfl, SqL.of e6, hz, (by show 3 ≤ sizeLine; decide), fun tc htc => ?_⟩
      have s7 := s6.new (o := .tup [.int ra, .int rb, .int z]) htc
      have k7 : Kp [h, l] H (upd H6 tc (.tup [.int ra, .int rb, .int z])) := ((((k1.trans k2).trans k3).trans k4).trans (k5.trans k6)).trans (Kp.new htc)
      have hc7 : SqT K (upd H6 tc (.tup [.int ra, .int rb, .int z])) tc ([ra, rb, z].map V.int) := SqT.of upd_same
      generalize upd H6 tc (.tup [.int ra, .int rb, .int z]) = H7 at s7 k7 hc7 ⊢
      refine ⟨_, rfl, _, rfl, tc, rfl, ⟨_, hc7⟩, fun D hD => lc_tup (K := K) (xs := [ra, rb, z].map V.int) (fun i H' => Kp [h, l] H7 H' ∧ Sta H' h l ∧ ∃ ns : List Int, H' D = some (.lst (ns.map V.int)) ∧ ns.length = i ∧ ∀ (j : Nat) (n u : Int), ns[j]? = some n → [ra, rb, z][j]? = some u → 1 ≤ n ∧ u + n ≤ 4)
        ⟨Kp.new hD, s7.new hD, [], upd_same, rfl, by simp⟩ (fun i H' _ pv => pv.1.sqT hc7) (fun i x H' hx pv => ?_) (fun H' pv => ?_)⟩
      · obtain ⟨k, sx, ns, hDl, hlen, hns⟩ := pv
        have hDA := s7.apart hD
        obtain ⟨u, hu, rfl⟩ := int_at hx
        have hub : 0 ≤ u ∧ u < 4 := by
          have := List.mem_of_getElem? hu
          simp at this
          rcases this with rfl | rfl | rfl
          · exact ⟨a0, a1⟩
          · exact ⟨b0, b1⟩
          · exact ⟨z0, z1⟩
        have hi3 : i < 3 := (List.getElem?_eq_some_iff.mp hu).1
        refine ⟨rfl, yesI ?_⟩
        refine ⟨_, rfl, _, rfl, _, _, rfl, rfl, h, l, 4 - u, rfl, by omega, by omega, sx, fun H'' r k'' s'' r0 r1 => ⟨_, _, rfl, rfl, ?_⟩⟩
        have hD2 := k''.lst hDl hDA
        refine ⟨_, hD2, ?_, (k.trans k'').chg0 hD hD2, s''.chg hD2 hDA, ns ++ [1 + r], ?_, ?_, ?_⟩
        · rw [List.length_map]
          have : (64 : Nat) < sizeLine := by decide
          omega
        · rw [upd_same, List.map_append]
          rfl
        · rw [List.length_append, List.length_singleton, hlen]
        · intro j n u' hj hu'
          by_cases hji : j < ns.length
          · rw [List.getElem?_append_left hji] at hj
            exact hns j n u' hj hu'
          · have hj2 : j = ns.length := by
              have := (List.getElem?_eq_some_iff.mp hj).1
              rw [List.length_append, List.length_singleton] at this
              omega
            subst hj2
            rw [List.getElem?_append_right (Nat.le_refl _), Nat.sub_self] at hj
            have en : 1 + r = n := by simpa using hj
            rw [hlen] at hu'
            rw [hu] at hu'
            have eu : u = u' := Option.some.inj hu'
            omega
      · obtain ⟨k, sx, ns, hDl, hlen, hns⟩ := pv
        have hlen : ns.length = 3 := hlen
        obtain ⟨n1, n2, n3, rfl⟩ : ∃ n1 n2 n3, ns = [n1, n2, n3] := by
          match ns, hlen with
          | [a, b, c], _ => exact ⟨a, b, c, rfl⟩
        have g1 := hns 0 n1 ra rfl rfl
        have g2 := hns 1 n2 rb rfl rfl
        have g3 := hns 2 n3 z rfl rfl
        refine ⟨D, _, rfl, .inl ⟨SqL.of hDl, fun tn htn => ⟨(by show 3 ≤ sizeLine; decide), fun tt htt => ?_⟩⟩⟩
        have kn := Kp.new (S := [h, l]) (o := .tup ([n1, n2, n3].map V.int)) htn
        have kt := Kp.new (S := [h, l]) (o := .tup [.str "block", .ref tc, .ref tn]) htt
        refine q _ _ (.block ra rb z n1 n2 n3) (((k7.trans k).trans kn).trans kt) ((sx.new htn).new htt) (.tup (SqT.of upd_same) (.cons (.str _) (.cons (dp_c (c := (ra, rb, z)) (kt.sqT (kn.sqT (k.sqT hc7)))) (.cons (dp_c (c := (n1, n2, n3)) (kt.sqT (SqT.of upd_same))) .nil)))) ?_ ?_
        · exact ⟨⟨⟨by omega, by show ra ≤ 3; omega⟩, ⟨by show 0 ≤ rb; omega, by show rb ≤ 3; omega⟩, ⟨by show 0 ≤ z; omega, by show z ≤ 3; omega⟩⟩, g1, g2, g3⟩
        · exact Nat.le_add_left 1 _
    refine itD0 (by intro z; apply hd0; have := V.int.inj z; omega) ?_
    obtain ⟨d', rfl⟩ : ∃ d', d = d' + 1 := ⟨d - 1, by omega⟩
    have hd' : d' < n := by omega
    have eself : [V.ref h, V.int (((d' + 1 : Nat) : Int) - 1)] = [V.ref h, V.int (d' : Int)] := by
      rw [show ((d' + 1 : Nat) : Int) - 1 = (d' : Int) by omega]
    refine ⟨_, rfl, _, _, rfl, rfl, _, rfl, ?_⟩
    by_cases hw3 : way < 3
    · refine itD1 hw3 ?_
      refine ⟨_, rfl, h, l, 4, rfl, by decide, by decide, s1, fun H2 ra k2 s2 a0 a1 => ?_⟩
      refine ⟨_, rfl, h, l, 4, rfl, by decide, by decide, s2, fun H3 rb k3 s3 b0 b1 => ?_⟩
      refine ⟨_, rfl, h, l, 4, rfl, by decide, by decide, s3, fun H4 rc k4 s4 c0 c1 => ⟨(by show 2 ≤ sizeLine; decide), fun lq hlq => ?_⟩⟩
      have hlqA := s4.apart hlq
      have s5 := s4.new (o := .lst [.int 0, .int rc]) hlq
      have k5 : Kp [h, l] H4 (upd H4 lq (.lst [.int 0, .int rc])) := Kp.new hlq
      have e5 : upd H4 lq (.lst [.int 0, .int rc]) lq = some (.lst [.int 0, .int rc]) := upd_same
      generalize upd H4 lq (.lst [.int 0, .int rc]) = H5 at s5 k5 e5 ⊢
      refine ⟨_, rfl, h, l, 2, rfl, by decide, by decide, s5, fun H6 rd k6 s6 d0 d1 => ?_⟩
      have e6 := k6.lst e5 hlqA
      obtain ⟨z, hz, z0, z1⟩ : ∃ z, atI [V.int 0, V.int rc] rd = some (.int z) ∧ 0 ≤ z ∧ z < 4 := by
        rcases (show rd = 0 ∨ rd = 1 by omega) with rfl | rfl
        · exact ⟨0, rfl, by decide, by decide⟩
        · exact ⟨rc, rfl, c0, c1⟩
      refine ⟨lq, _, rd, _, rfl, rfl, SqL.of e6, hz, (by show 3 ≤ sizeLine; decide), fun tc htc => ?_⟩
      have s7 := s6.new (o := .tup [.int ra, .int rb, .int z]) htc
      have k7 : Kp [h, l] H (upd H6 tc (.tup [.int ra, .int rb, .int z])) := ((((k1.trans k2).trans k3).trans k4).trans (k5.trans k6)).trans (Kp.new htc)
      have hc7 : SqT K (upd H6 tc (.tup [.int ra, .int rb, .int z])) tc ([ra, rb, z].map V.int) := SqT.of upd_same
      generalize upd H6 tc (.tup [.int ra, .int rb, .int z]) = H7 at s7 k7 hc7 ⊢
      refine ⟨_, rfl, _, rfl, tc, rfl, ⟨_, hc7⟩, fun D hD => lc_tup (K := K) (xs := [ra, rb, z].map V.int) (fun i H' => Kp [h, l] H7 H' ∧ Sta H' h l ∧ ∃ ns : List Int, H' D = some (.lst (ns.map V.int)) ∧ ns.length = i ∧ ∀ (j : Nat) (n u : Int), ns[j]? = some n → [ra, rb, z][j]? = some u → 1 ≤ n ∧ u + n ≤ 4)
        ⟨Kp.new hD, s7.new hD, [], upd_same, rfl, by simp⟩ (fun i H' _ pv => pv.1.sqT hc7) (fun i x H' hx pv => ?_) (fun H' pv => ?_)⟩
      · obtain ⟨k, sx, ns, hDl, hlen, hns⟩ := pv
        have hDA := s7.apart hD
        obtain ⟨u, hu, rfl⟩ := int_at hx
        have hub : 0 ≤ u ∧ u < 4 := by
          have := List.mem_of_getElem? hu
          simp at this
          rcases this with rfl | rfl | rfl
          · exact ⟨a0, a1⟩
          · exact ⟨b0, b1⟩
          · exact ⟨z0, z1⟩
        have hi3 : i < 3 := (List.getElem?_eq_some_iff.mp hu).1
        refine ⟨rfl, yesI ?_⟩
        refine ⟨_, rfl, _, rfl, _, _, rfl, rfl, h, l, 4 - u, rfl, by omega, by omega, sx, fun H'' r k'' s'' r0 r1 => ⟨_, _, rfl, rfl, ?_⟩⟩
        have hD2 := k''.lst hDl hDA
        refine ⟨_, hD2, ?_, (k.trans k'').chg0 hD hD2, s''.chg hD2 hDA, ns ++ [1 + r], ?_, ?_, ?_⟩
        · rw [List.length_map]
          have : (64 : Nat) < sizeLine := by decide
          omega
        · rw [upd_same, List.map_append]
          rfl
        · rw [List.length_append, List.length_singleton, hlen]
        · intro j n u' hj hu'
          by_cases hji : j < ns.length
          · rw [List.getElem?_append_left hji] at hj
            exact hns j n u' hj hu'
          · have hj2 : j = ns.length := by
              have := (List.getElem?_eq_some_iff.mp hj).1
              rw [List.length_append, List.length_singleton] at this
              omega
            subst hj2
            rw [List.getElem?_append_right (Nat.le_refl _), Nat.sub_self] at hj
            have en : 1 + r = n := by simpa using hj
            rw [hlen] at hu'
            rw [hu] at hu'
            have eu : u = u' := Option.some.inj hu'
            omega
      · obtain ⟨k, sx, ns, hDl, hlen, hns⟩ := pv
        have hlen : ns.length = 3 := hlen
        obtain ⟨n1, n2, n3, rfl⟩ : ∃ n1 n2 n3, ns = [n1, n2, n3] := by
          match ns, hlen with
          | [a, b, c], _ => exact ⟨a, b, c, rfl⟩
        have g1 := hns 0 n1 ra rfl rfl
        have g2 := hns 1 n2 rb rfl rfl
        have g3 := hns 2 n3 z rfl rfl
        refine ⟨D, _, rfl, .inl ⟨SqL.of hDl, fun tn htn => ⟨(by show 3 ≤ sizeLine; decide), fun tt htt => ?_⟩⟩⟩
        have kn := Kp.new (S := [h, l]) (o := .tup ([n1, n2, n3].map V.int)) htn
        have kt := Kp.new (S := [h, l]) (o := .tup [.str "block", .ref tc, .ref tn]) htt
        refine q _ _ (.block ra rb z n1 n2 n3) (((k7.trans k).trans kn).trans kt) ((sx.new htn).new htt) (.tup (SqT.of upd_same) (.cons (.str _) (.cons (dp_c (c := (ra, rb, z)) (kt.sqT (kn.sqT (k.sqT hc7)))) (.cons (dp_c (c := (n1, n2, n3)) (kt.sqT (SqT.of upd_same))) .nil)))) ?_ ?_
        · exact ⟨⟨⟨by omega, by show ra ≤ 3; omega⟩, ⟨by show 0 ≤ rb; omega, by show rb ≤ 3; omega⟩, ⟨by show 0 ≤ z; omega, by show z ≤ 3; omega⟩⟩, g1, g2, g3⟩
        · exact Nat.le_add_left 1 _
    refine itD0 hw3 ?_
    refine ⟨_, rfl, rfl, _, rfl, ?_⟩
    by_cases hw4 : way = 3
    · refine itD1 (by rw [hw4]) ?_
      refine ⟨_, rfl, h, l, 14, rfl, by decide, by decide, s1, fun H2 r k2 s2 r0 r1 => ⟨r, rfl, by omega, by omega, fun D hD => lc_range (lo := 0) (n := r.toNat) (fun i H' => Kp [h, l] H2 H' ∧ Sta H' h l ∧ ∃ (acc : List V) (cs : List C3), H' D = some (.lst acc) ∧ Items K H' acc cs ∧ cs.length = i ∧ ∀ c ∈ cs, InR c) ⟨Kp.new hD, s2.new hD, [], [], upd_same, .nil, rfl, by simp⟩ (fun i H' hi pv => ?_) (fun H' pv => ?_)⟩⟩
      · obtain ⟨k, sx, acc, cs, hDl, hI, hlen, hR⟩ := pv
        have hDA := s2.apart hD
        refine ⟨rfl, yesI ?_⟩
        refine ⟨_, rfl, h, l, 4, rfl, by decide, by decide, sx, fun Ha ra ka sa a0 a1 => ?_⟩
        refine ⟨_, rfl, h, l, 4, rfl, by decide, by decide, sa, fun Hb rb kb sb b0 b1 => ?_⟩
        refine ⟨_, rfl, h, l, 4, rfl, by decide, by decide, sb, fun Hc rc kc sc c0 c1 => ⟨(by show 3 ≤ sizeLine; decide), fun t ht => ?_⟩⟩
        have kt := Kp.new (S := [h, l]) (o := .tup [.int ra, .int rb, .int rc]) ht
        have kk := ((ka.trans kb).trans kc).trans kt
        have hD2 := kk.lst hDl hDA
        have st := sc.new (o := .tup [.int ra, .int rb, .int rc]) ht
        have hq : SqT K (upd Hc t (.tup [.int ra, .int rb, .int rc])) t [.int ra, .int rb, .int rc] := SqT.of upd_same
        have hit := items_mono kk hI
        have hl := hI.length
        have kd := Kp.chg (S := [D]) (ys := acc ++ [V.ref t]) hD2 (List.mem_singleton.mpr rfl)
        refine ⟨_, hD2, ?_, (k.trans kk).chg0 hD hD2, st.chg hD2 hDA, _, cs ++ [(ra, rb, rc)], upd_same, ?_, ?_, ?_⟩
        · have : (64 : Nat) < sizeLine := by decide
          omega
        · exact Items.append (items_mono kd hit) (Items.one (dp_c (c := (ra, rb, rc)) (kd.sqT hq)))
        · rw [List.length_append, List.length_singleton, hlen]
        · intro c hc
          rcases List.mem_append.mp hc with z | z
          · exact hR c z
          · rw [List.mem_singleton.mp z]
            exact ⟨⟨a0, by show ra ≤ 3; omega⟩, ⟨b0, by show rb ≤ 3; omega⟩, ⟨c0, by show rc ≤ 3; omega⟩⟩
      · obtain ⟨k, sx, acc, cs, hDl, hI, hlen, hR⟩ := pv
        refine ⟨_, rfl, .ref D, cs, rfl, .inl (cellsL_of hDl hI), hR, fun e L he g1 g2 => ?_⟩
        have ke := Kp.new (S := [h, l]) (o := GZ.SQO P W0 e L) he
        refine ⟨e, L, rfl, upd_same, fun z hz => ke.sqT (g1 z hz).2, fun zs ds r2 hp hnd hs hlen' hit hr' => ?_⟩
        have kr := Kp.new (S := [h, l]) (o := .lst zs) hr'
        refine ⟨r2, zs, rfl, .inl ⟨SqL.of upd_same, fun tn htn => ⟨(by show 2 ≤ sizeLine; decide), fun tt htt => ?_⟩⟩⟩
        have kn := Kp.new (S := [h, l]) (o := .tup zs) htn
        have kt := Kp.new (S := [h, l]) (o := .tup [.str "cells", .ref tn]) htt
        refine q _ _ (.cells ds) ((((((k1.trans k2).trans k).trans ke).trans kr).trans kn).trans kt) ((((sx.new he).new hr').new htn).new htt)
          (.tup (SqT.of upd_same) (.cons (.str _) (.cons (.tup (kt.sqT (SqT.of upd_same)) (items_mono kt (items_mono kn (items_mono kr hit)))) .nil))) ⟨asc_of hs hnd, fun c hc => ?_⟩ (Nat.le_add_left 1 _)
        have hc2 := hp.mem_iff.mp hc
        obtain ⟨z, hz, rfl⟩ := List.mem_map.mp hc2
        exact hR _ (g1 z hz).1
    refine itD0 (by intro z; exact hw4 (V.int.inj z)) ?_
    refine ⟨_, rfl, _, _, rfl, rfl, _, rfl, ?_⟩
    by_cases hw8 : way < 8
    · refine itD1 hw8 ?_
      refine ⟨(by show 4 ≤ sizeLine; decide), fun lw hlw => ?_⟩
      have k2 := Kp.new (S := [h, l]) (o := .lst [.str "with", .str "with", .str "less", .str "common"]) hlw
      have s2 := s1.new (o := .lst [.str "with", .str "with", .str "less", .str "common"]) hlw
      obtain ⟨w, mk, hat, hmk, hgood, hdpm⟩ : ∃ (w : Str) (mk : Bd → Bd → Bd), atI [V.str "with", V.str "with", V.str "less", V.str "common"] (way - 4) = some (.str w) ∧ (∀ p q, bD (mk p q) = .tuple [.str w, bD p, bD q]) ∧ (∀ p q, Good p → Good q → Good (mk p q)) ∧ ∀ p q, dp (mk p q) = 1 + max (dp p) (dp q) := by
        rcases (show way = 4 ∨ way = 5 ∨ way = 6 ∨ way = 7 by omega) with rfl | rfl | rfl | rfl
        · exact ⟨"with", .wth, rfl, fun _ _ => rfl, fun _ _ a b => ⟨a, b⟩, fun _ _ => rfl⟩
        · exact ⟨"with", .wth, rfl, fun _ _ => rfl, fun _ _ a b => ⟨a, b⟩, fun _ _ => rfl⟩
        · exact ⟨"less", .less, rfl, fun _ _ => rfl, fun _ _ a b => ⟨a, b⟩, fun _ _ => rfl⟩
        · exact ⟨"common", .common, rfl, fun _ _ => rfl, fun _ _ a b => ⟨a, b⟩, fun _ _ => rfl⟩
      refine ⟨_, rfl, _, _, rfl, rfl, lw, _, way - 4, _, rfl, rfl, SqL.of upd_same, hat, ?_⟩
      refine ⟨_, rfl, _, rfl, _, rfl, _, _, rfl, rfl, h, l, d', eself, hd', by omega, s2, fun Ha va ba ka sa ha ga da => ?_⟩
      refine ⟨_, rfl, _, rfl, _, _, rfl, rfl, h, l, d', eself, hd', by omega, sa, fun Hb vb bb kb sb hb gb db => ?_⟩
      refine ⟨(by show 3 ≤ sizeLine; decide), fun tt htt => ?_⟩
      have kt := Kp.new (S := [h, l]) (o := .tup [.str w, va, vb]) htt
      refine q _ _ (mk ba bb) ((((k1.trans k2).trans ka).trans kb).trans kt) (sb.new htt) ?_ (hgood _ _ ga gb) ?_
      · show Dp K _ _ (bD (mk ba bb))
        rw [hmk]
        exact .tup (SqT.of upd_same) (.cons (.str _) (.cons (body_mono kt (body_mono kb ha)) (.cons (body_mono kt hb) .nil)))
      · rw [hdpm]
        omega
    refine itD0 hw8 ?_
    refine ⟨_, rfl, _, rfl, _, _, rfl, rfl, h, l, d', eself, hd', by omega, s1, fun H2 v1 b1 k2 s2 hb1 gb1 db1 => ?_⟩
    refine ⟨_, rfl, rfl, _, rfl, ?_⟩
    by_cases hw9 : way = 8
    · refine itD1 (by rw [hw9]) ?_
      refine ⟨_, rfl, h, l, 3, rfl, by decide, by decide, s2, fun H3 r k3 s3 r0 r1 => ?_⟩
      obtain ⟨c, w, mk, hat, hcw, hmk, hgood, hdpm⟩ : ∃ (c : Nat) (w : Str) (mk : Bd → Bd), atI ("xyz" : Str).cps.toList r = some c ∧ (⟨#[c]⟩ : Str) = w ∧ (∀ p, bD (mk p) = .tuple [.str "turned", .str w, bD p]) ∧ (∀ p, Good p → Good (mk p)) ∧ ∀ p, dp (mk p) = 1 + dp p := by
        rcases (show r = 0 ∨ r = 1 ∨ r = 2 by omega) with rfl | rfl | rfl
        · exact ⟨120, "x", .turnX, by decide +kernel, by decide +kernel, fun _ => rfl, fun _ a => a, fun _ => rfl⟩
        · exact ⟨121, "y", .turnY, by decide +kernel, by decide +kernel, fun _ => rfl, fun _ a => a, fun _ => rfl⟩
        · exact ⟨122, "z", .turnZ, by decide +kernel, by decide +kernel, fun _ => rfl, fun _ a => a, fun _ => rfl⟩
      refine ⟨_, r, c, rfl, rfl, (by decide +kernel), hat, _, rfl, (by show 3 ≤ sizeLine; decide), fun tt htt => ?_⟩
      have kt := Kp.new (S := [h, l]) (o := .tup [.str "turned", .str ⟨#[c]⟩, v1]) htt
      refine q _ _ (mk b1) (((k1.trans k2).trans k3).trans kt) (s3.new htt) ?_ (hgood _ gb1) ?_
      · show Dp K _ _ (bD (mk b1))
        rw [hmk, ← hcw]
        exact .tup (SqT.of upd_same) (.cons (.str _) (.cons (.str _) (.cons (body_mono kt (body_mono k3 hb1)) .nil)))
      · rw [hdpm]
        omega
    refine itD0 (by intro z; exact hw9 (V.int.inj z)) ?_
    have db1' : dp b1 ≤ 20 := by omega
    refine ⟨_, rfl, v1, b1, rfl, hb1, db1', fun H3 r zs k3 n3 h3 i3 => ?_⟩
    have s3 := s2.mono0 k3
    have hra := s2.apart n3
    refine ⟨Nat.zero_le _, fun fa hfa => ?_⟩
    have hfaA := s3.apart hfa
    have hrf : r ≠ fa := by
      intro z
      rw [z, hfa] at h3
      cases h3
    have hb3 : Body K H3 v1 b1 := body_mono k3 hb1
    refine ⟨3, rfl, by decide, by decide, for_range (lo := 0) (n := 3) (fun i σ H' => ∃ (o4 o9 o10 : Option V), σ = [some (.ref h), some (.int ((d' + 1 : Nat) : Int)), some (.int way), none, o4, some (.ref r), none, some v1, some (.ref fa), o9, o10, none] ∧ Kp [h, l] H3 H' ∧ Sta H' h l ∧ ∃ fs : List Int, H' fa = some (.lst (fs.map V.int)) ∧ fs.length = i ∧ ∀ (j : Nat) (f : Int), fs[j]? = some f → FarOk b1 j f)
      ⟨none, none, none, rfl, Kp.new hfa, s3.new hfa, [], upd_same, rfl, by simp⟩ (fun i σ H4 hi pv => ?_) (fun σ H4 pv => ?_)⟩
    · obtain ⟨o4, o9, o10, rfl, k4, s4, fs, hfs, hfl, hff⟩ := pv
      refine ⟨_, rfl, r, rfl, ⟨_, SqL.of (k4.lst h3 hra)⟩, fun D hD => lc_list (K := K) (a := r) (xs := zs) (fun j H' => Kp [] H4 H' ∧ H' D = some (.lst ((((all b1).take j).map (comp i)).map V.int))) ⟨Kp.new hD, upd_same⟩ (fun j H' _ pv => SqL.of (pv.1.lst (k4.lst h3 hra) List.not_mem_nil)) (fun j x H' hx pv => ?_) (fun H' pv => ?_)⟩
      · obtain ⟨k, hDl⟩ := pv
        obtain ⟨c, hc, hdc⟩ := i3.get hx
        obtain ⟨p, rfl, hp⟩ := of_dp_c hdc
        have hjl : j < (all b1).length := (List.getElem?_eq_some_iff.mp hc).1
        have hal := all_len b1
        refine ⟨rfl, yesI ?_⟩
        refine ⟨_, rfl, _, rfl, p, _, _, _, rfl, rfl, k.sqT (k4.sqT hp), comp_at hi c, ?_⟩
        refine ⟨_, hDl, ?_, k.chg0 hD hDl, ?_⟩
        · rw [List.length_map, List.length_map, List.length_take]
          have : (64 : Nat) < sizeLine := by decide
          omega
        · rw [upd_same, List.take_add_one, hc, List.map_append, List.map_append]
          rfl
      obtain ⟨k5, hDl⟩ := pv
      rw [i3.length, List.take_length] at hDl
      rename Hp => H5
      dsimp only [tNil, tCons, tC]
      refine minR (SqL.of hDl) (fun low hlow => ?_)
      have s5 := s4.mono0 k5
      have k45 := k4.trans (k5.w0 (S := [h, l]))
      refine ⟨_, rfl, r, rfl, ⟨_, SqL.of (k45.lst h3 hra)⟩, fun D hD => lc_list (K := K) (a := r) (xs := zs) (fun j H' => Kp [] H5 H' ∧ H' D = some (.lst ((((all b1).take j).map (comp i)).map V.int))) ⟨Kp.new hD, upd_same⟩ (fun j H' _ pv => SqL.of (pv.1.lst (k45.lst h3 hra) List.not_mem_nil)) (fun j x H' hx pv => ?_) (fun H' pv => ?_)⟩
      · obtain ⟨k, hDl⟩ := pv
        obtain ⟨c, hc, hdc⟩ := i3.get hx
        obtain ⟨p, rfl, hp⟩ := of_dp_c hdc
        have hjl : j < (all b1).length := (List.getElem?_eq_some_iff.mp hc).1
        have hal := all_len b1
        refine ⟨rfl, yesI ?_⟩
        refine ⟨_, rfl, _, rfl, p, _, _, _, rfl, rfl, k.sqT (k45.sqT hp), comp_at hi c, ?_⟩
        refine ⟨_, hDl, ?_, k.chg0 hD hDl, ?_⟩
        · rw [List.length_map, List.length_map, List.length_take]
          have : (64 : Nat) < sizeLine := by decide
          omega
        · rw [upd_same, List.take_add_one, hc, List.map_append, List.map_append]
          rfl
      obtain ⟨k6, hDl⟩ := pv
      rw [i3.length, List.take_length] at hDl
      rename Hp => H6
      dsimp only [tNil, tCons, tC]
      refine maxR (SqL.of hDl) (fun high hhigh => ?_)
      have s6 := s5.mono0 k6
      have k46 := k45.trans (k6.w0 (S := [h, l]))
      have hlh : 0 ≤ low ∧ low ≤ 3 ∧ 0 ≤ high ∧ high ≤ 3 ∧ ∀ c ∈ all b1, low ≤ comp i c ∧ comp i c ≤ high := lowhigh hlow hhigh
      obtain ⟨l0, l3, g0, g3, hcs⟩ := hlh
      have hf6 := k6.lst (k5.lst hfs List.not_mem_nil) List.not_mem_nil
      refine ⟨_, rfl, .inl ⟨rfl, _, SqL.of hf6⟩, _, rfl, _, rfl, _, _, rfl, rfl, _, rfl, _, _, rfl, rfl, h, l, 4 - high + low, rfl, by omega, by omega, s6, fun H7 rr k7 s7 r0 r1 => ?_⟩
      have hf7 := k7.lst hf6 hfaA
      refine ⟨_, rfl, _, _, rfl, rfl, fa, _, _, rfl, rfl, hf7, ?_, ?_⟩
      · rw [List.length_map]
        have : (64 : Nat) < sizeLine := by decide
        omega
      · refine ⟨_, _, _, rfl, (k46.trans k7).chg0 hfa hf7, s7.chg hf7 hfaA, fs ++ [rr - low], ?_, ?_, ?_⟩
        · rw [upd_same, List.map_append]
          rfl
        · rw [List.length_append, List.length_singleton, hfl]
        · intro j f hj
          by_cases hji : j < fs.length
          · rw [List.getElem?_append_left hji] at hj
            exact hff j f hj
          · have hj2 : j = fs.length := by
              have := (List.getElem?_eq_some_iff.mp hj).1
              rw [List.length_append, List.length_singleton] at this
              omega
            subst hj2
            rw [List.getElem?_append_right (Nat.le_refl _), Nat.sub_self] at hj
            have ef : rr - low = f := by simpa using hj
            rw [hfl]
            refine ⟨by omega, by omega, fun c hc => ?_⟩
            have := hcs c hc
            omega
    · obtain ⟨o4, o9, o10, rfl, k4, s4, fs, hfs, hfl, hff⟩ := pv
      have hfl : fs.length = 3 := hfl
      obtain ⟨n1, n2, n3', rfl⟩ : ∃ n1 n2 n3, fs = [n1, n2, n3] := by
        match fs, hfl with
        | [a, b, c], _ => exact ⟨a, b, c, rfl⟩
      have g1 := hff 0 n1 rfl
      have g2 := hff 1 n2 rfl
      have g3 := hff 2 n3' rfl
      refine ⟨_, rfl, fa, _, rfl, .inl ⟨SqL.of hfs, fun tn htn => ⟨_, rfl, (by show 3 ≤ sizeLine; decide), fun tt htt => ?_⟩⟩⟩
      have kn := Kp.new (S := [h, l]) (o := .tup ([n1, n2, n3'].map V.int)) htn
      have kt := Kp.new (S := [h, l]) (o := .tup [.str "moved", .ref tn, v1]) htt
      refine q _ _ (.moved (n1, n2, n3') b1) ((((k1.trans k2).trans (k3.w0.trans k4)).trans kn).trans kt) ((s4.new htn).new htt) (.tup (SqT.of upd_same) (.cons (.str _) (.cons (dp_c (c := (n1, n2, n3')) (kt.sqT (SqT.of upd_same))) (.cons (body_mono kt (body_mono kn (body_mono k4 hb3))) .nil)))) ⟨⟨⟨g1.1, g1.2.1⟩, ⟨g2.1, g2.2.1⟩, ⟨g3.1, g3.2.1⟩⟩, gb1, fun c hc => ?_⟩ ?_
      · have hca := (mem_good gb1).mpr hc
        have e1 := g1.2.2 c hca
        have e2 := g2.2.2 c hca
        have e3 := g3.2.2 c hca
        exact ⟨e1, e2, e3⟩
      · show 1 + dp b1 ≤ _
        omega
theorem lbody_none {f : Addr} {fd : FuncData} : FnOk P W0 K mg base CX0 21 f fd ["_law_h", "_law_deep"] (spLBody K 0) := by
  have no : ∀ vs H Q E, ¬ spLBody K 0 vs H Q E := fun vs H Q E h => by
    obtain ⟨_, _, _, _, hn, _⟩ := h
    omega
  exact ⟨fun vs H Q E h => absurd h (no vs H Q E), fun A outer s H args us vs Q E _ _ _ _ h => absurd h (no vs H Q E)⟩
theorem ok_lbody {f fX fA : Addr} {fd dX dA : FuncData} (F : Fun K "_law_body" "_law_body" lBody f fd) (T : Nm K mg) (U : Nl K mg) (NB : Fn K mg "_law_body" f fd ["_law_h", "_law_deep"])
    (NX : Fn K mg "_law_next" fX dX ["_law_h", "_law_many"]) (GX : FnOk P W0 K mg base CX0 1 fX dX ["_law_h", "_law_many"] spNext) (NA : Fn K mg "_law_all" fA dA ["_law_body_here"]) (GA : FnOk P W0 K mg base CX0 21 fA dA ["_law_body_here"] (spAll K)) :
    ∀ n : Nat, FnOk P W0 K mg base CX0 (21 + n) f fd ["_law_h", "_law_deep"] (spLBody K n)
  | 0 => lbody_none
  | n + 1 => lbody_step F T U NB (ok_lbody F T U NB NX GX NA GA n) NX GX NA GA
end LP
end

section
/-! places of more defs of the program -/
namespace LP
open PySem PySem.Spec PyProof.Rows L2
-- shows: not in this statement
-- fewest: not in this statement
-- _helps: not in this statement
-- _within: not in this statement
-- _still_hanging: not in this statement
-- _least_helped: not in this statement
-- _best_props: not in this statement
-- _all_that_do: not in this statement
-- _paper: not in this statement
-- _is_shown: not in this statement
abbrev sLaid : Stmt := top 24
abbrev sTurnings : Stmt := top 25
abbrev sAlikeT : Stmt := top 26
abbrev sCorner : Stmt := top 27
-- best: not in this statement
-- _counted: not in this statement
end LP
end

section
set_option Elab.async false
set_option linter.all false
set_option maxRecDepth 100000
set_option maxHeartbeats 4000000
/-! _at_corner, laid -/
namespace LP
open PySem PySem.Spec PyProof.Rows L2 Ly GY
section
variable [LamTab]
def tD (g : List C3) : PyData := .tuple (g.map cD)
theorem datas_c : ∀ g : List C3, NestedKey.datas (g.map kC) = g.map cD
  | [] => rfl
  | c :: g => by
    rw [List.map_cons, List.map_cons, ← datas_c g, ← kC_data c]
    rfl
theorem kG_data (g : List C3) : (kG g).data = tD g := by
  show PyData.tuple (NestedKey.datas (g.map kC)) = _
  rw [datas_c]
  rfl
theorem kC_dep (c : C3) : (kC c).depth = 1 := by simp [kC, NestedKey.depth, NestedKey.depthAll]
theorem kGs_dep : ∀ g : List C3, NestedKey.depthAll (g.map kC) ≤ 1
  | [] => by simp [NestedKey.depthAll]
  | c :: g => by
    have h := kGs_dep g
    have h2 := kC_dep c
    simp only [List.map_cons, NestedKey.depthAll]
    omega
theorem kG_dep (g : List C3) : (kG g).depth ≤ 8 := by
  have h := kGs_dep g
  unfold kG
  simp only [NestedKey.depth]
  omega
theorem kG_num (g : List C3) : GN.numK (kG g) = true := by
  show GN.numKs (g.map kC) = true
  induction g with
  | nil => rfl
  | cons c g ih =>
    show (GN.numK (kC c) && GN.numKs (g.map kC)) = true
    rw [ih]
    rfl
theorem kG_inj {g h : List C3} (e : kG g = kG h) : g = h := by
  unfold kG at e
  injection e with e
  induction g generalizing h with
  | nil =>
    cases h with
    | nil => rfl
    | cons _ _ => cases e
  | cons c g ih =>
    cases h with
    | nil => cases e
    | cons d h =>
      injection e with e1 e2
      rw [kC_inj e1, ih e2]
theorem keyN_g {K : PySem.W.Frag} {H : Hp} {v : V} {g : List C3} (h : Dp K H v (tD g)) : GN.KeyN K H v (kG g) := ⟨⟨by rw [kG_data]; exact h, kG_dep g, _, rfl⟩, kG_num g⟩
theorem noL_tD (g : List C3) : noL (tD g) = true := noLs_cs g
end
section
variable [LamTab] {P : Program} {W0 : World} {K : PySem.W.Frag} {mg : Str → Option Value} {base : Heap}
theorem Kp.chgE {S : List Addr} {H : Hp} {a : Addr} {φ ψ : Heap → Prop} (h : H a = some (.ext φ)) (nc : ∀ q, (.ext φ : HO) ≠ LamX.CodeO a q) (m : a ∈ S) : Kp S H (upd H a (.ext ψ)) := by
  have eq : ∀ u, H a = some u → u = .ext φ := fun u z => by
    rw [h] at z
    exact (Option.some.inj z).symm
  exact Kp.but (fun b n => upd_ne n) (by rw [upd_same]; exact fun z => by cases z) (fun u z => .inl m) (fun xs z => by cases eq _ z) (fun _ _ z => by cases eq _ z) (fun q z => by rw [h] at z; exact nc q (Option.some.inj z)) (fun ⟨⟨ps, q1, _⟩, _⟩ => by cases eq _ q1) fun ps z => by cases eq _ z
theorem Kp.chgE0 {S : List Addr} {H H1 : Hp} {l : Addr} {φ ψ : Heap → Prop} (k : Kp S H H1) (h : H l = none) (e : H1 l = some (.ext φ)) (nc : ∀ q, (.ext φ : HO) ≠ LamX.CodeO l q) : Kp S H (upd H1 l (.ext ψ)) :=
  k.off h (Kp.chgE e nc (List.mem_cons_self))
def spCorner (K : PySem.W.Frag) : Sp := fun vs H Q _ => ∃ (v : V) (cs : List C3), vs = [v] ∧ CellsL K H v cs ∧ cs.length ≤ 64 ∧ ∀ (H' : Hp) (p : Addr) (ys : List V), Kp [] H H' → H p = none → H' p = some (.lst ys) → Items K H' ys (corner cs) → Q (.ref p) H'
abbrev nCorner : List Str := ["held", "least_x", "least_y", "least_z", "cell"]
theorem scCorner : FnScope nCorner ["held"] (defScope sCorner) := ⟨rfl, rfl, rfl, by decide +kernel, rfl, by decide +kernel, by decide +kernel⟩
theorem ok_corner {f fS : Addr} {fd dS : FuncData} (F : Fun K "_at_corner" "_at_corner" sCorner f fd) (U : Nl K mg) (NS : Fn K mg "shifted" fS dS ["far", "held"]) (GS : FnOk P W0 K mg base CX0 1 fS dS ["far", "held"] (spShifted K)) :
    FnOk P W0 K mg base CX0 2 f fd ["held"] (spCorner K) := by
  refine F.ok scCorner (fun vs H Q E h => ?_) (fun cdv A outer s H vs Q E hr h => ?_)
  · obtain ⟨v, cs, rfl, _⟩ := h
    rfl
  · obtain ⟨v, cs, rfl, hv, h64, q⟩ := h
    refine ⟨_, pss_cons (ps_if (pt_not (pt_truth (pv 0) (by intro _; rfl))) (pss_one (ps_ret (pe_lst pa_nil))) pss_nil)
      (pss_cons (ps_set (i := 1) scCorner.nd rfl (.inl rfl) (pe_callB (cr_min rfl) (by rfl) U.min (by decide +kernel) (pa_cons (pe_lc (own := [("cell", 4)]) (g := gName 4) rfl scCorner.nd (pi_list (pv 0)) (blkOk_by (own := [("cell", 4)]) (N := nCorner) (sc := defScope sCorner) (by decide +kernel)) (fun _ _ _ _ _ => pg_name (i := 4) scCorner.nd rfl (.inl rfl)) (fun _ _ _ _ _ => pts_nil) (fun _ _ _ _ _ => pe_ix (r := rIxT K) ix_tup (pv 4) pe_int (fun _ _ => rfl))) pa_nil)))
      (pss_cons (ps_set (i := 2) scCorner.nd rfl (.inl rfl) (pe_callB (cr_min rfl) (by rfl) U.min (by decide +kernel) (pa_cons (pe_lc (own := [("cell", 4)]) (g := gName 4) rfl scCorner.nd (pi_list (pv 0)) (blkOk_by (own := [("cell", 4)]) (N := nCorner) (sc := defScope sCorner) (by decide +kernel)) (fun _ _ _ _ _ => pg_name (i := 4) scCorner.nd rfl (.inl rfl)) (fun _ _ _ _ _ => pts_nil) (fun _ _ _ _ _ => pe_ix (r := rIxT K) ix_tup (pv 4) pe_int (fun _ _ => rfl))) pa_nil)))
      (pss_cons (ps_set (i := 3) scCorner.nd rfl (.inl rfl) (pe_callB (cr_min rfl) (by rfl) U.min (by decide +kernel) (pa_cons (pe_lc (own := [("cell", 4)]) (g := gName 4) rfl scCorner.nd (pi_list (pv 0)) (blkOk_by (own := [("cell", 4)]) (N := nCorner) (sc := defScope sCorner) (by decide +kernel)) (fun _ _ _ _ _ => pg_name (i := 4) scCorner.nd rfl (.inl rfl)) (fun _ _ _ _ _ => pts_nil) (fun _ _ _ _ _ => pe_ix (r := rIxT K) ix_tup (pv 4) pe_int (fun _ _ => rfl))) pa_nil)))
      (pss_one (ps_ret (pe_call GS hr (by rfl) NS.m NS.kp NS.b .nil pass0 (pa_cons (pe_tup (pa_cons (pe_un un_neg (pv 1)) (pa_cons (pe_un un_neg (pv 2)) (pa_cons (pe_un un_neg (pv 3)) pa_nil)))) (pa_cons (pv 0) pa_nil)))))))), ?_⟩
    obtain ⟨a, xs, rfl, hT, hI⟩ := of_cellsL hv
    have xl := hI.length
    refine ⟨_, rfl, _, .inl ⟨xs, hT, rfl⟩, ?_⟩
    by_cases hne : cs = []
    · subst hne
      have e0 : xs = [] := List.length_eq_zero_iff.mp xl
      subst e0
      exact iteT' rfl ⟨Nat.zero_le _, fun p hp => q _ p [] (Kp.new hp) hp upd_same .nil⟩
    have hxn : xs ≠ [] := fun z => hne (List.length_eq_zero_iff.mp (by rw [← xl, z]; rfl))
    refine iteF' (by cases xs with
      | nil => exact absurd rfl hxn
      | cons _ _ => rfl) ?_
    have filt : ∀ cs : List C3, (cs.filter fun _ => true) = cs := fun cs => List.filter_eq_self.mpr fun _ _ => rfl
    have k0 : Kp [] H H := Kp.refl _ _
    refine ⟨_, rfl, a, rfl, ⟨_, k0.sqL hT List.not_mem_nil⟩, fun D1 hD1 => lc_dataL (K := K) cs cD (fun _ => true) (fun c => .int (c.1)) noL_c (fun _ _ => rfl) hD1 (k0.sqL hT List.not_mem_nil) (items_mono k0 hI) (by omega) (fun c x H' Nx Z _ k hx nx _ => ?s1) (fun H1 ys1 k1' h1 d1 => ?d1)⟩
    case s1 =>
      obtain ⟨pc, rfl, hp⟩ := of_dp_c hx
      exact ⟨rfl, yesI ⟨_, rfl, pc, _, 0, _, rfl, rfl, hp, rfl, nx _ _ (Kp.refl _ _) rfl (.int _)⟩⟩
    case d1 =>
    rw [filt cs] at d1
    have e1 : (cs.map fun c : C3 => PyData.int (c.1)) = (cs.map fun c => c.1).map PyData.int := by
      rw [List.map_map]
      rfl
    rw [e1] at d1
    have f1 := dps_ints d1
    subst f1
    have k1 := k0.trans k1'
    refine ⟨D1, _, rfl, SqL.of h1, by rw [List.length_map]; exact List.length_pos_iff.mpr hne, fun m1 mm1 ml1 => ?_⟩
    have em1 : lo (fun c => c.1) cs = m1 := lo_is (List.mem_map.mp mm1) fun c hc => ml1 _ (List.mem_map.mpr ⟨c, hc, rfl⟩)
    refine nameI (i := 1) (v := .int m1) (σ := [some (.ref a), none, none, none, none]) ?_
    refine ⟨_, rfl, a, rfl, ⟨_, k1.sqL hT List.not_mem_nil⟩, fun D2 hD2 => lc_dataL (K := K) cs cD (fun _ => true) (fun c => .int (c.2.1)) noL_c (fun _ _ => rfl) hD2 (k1.sqL hT List.not_mem_nil) (items_mono k1 hI) (by omega) (fun c x H' Nx Z _ k hx nx _ => ?s2) (fun H2 ys2 k2' h2 d2 => ?d2)⟩
    case s2 =>
      obtain ⟨pc, rfl, hp⟩ := of_dp_c hx
      exact ⟨rfl, yesI ⟨_, rfl, pc, _, 1, _, rfl, rfl, hp, rfl, nx _ _ (Kp.refl _ _) rfl (.int _)⟩⟩
    case d2 =>
    rw [filt cs] at d2
    have e2 : (cs.map fun c : C3 => PyData.int (c.2.1)) = (cs.map fun c => c.2.1).map PyData.int := by
      rw [List.map_map]
      rfl
    rw [e2] at d2
    have f2 := dps_ints d2
    subst f2
    have k2 := k1.trans k2'
    refine ⟨D2, _, rfl, SqL.of h2, by rw [List.length_map]; exact List.length_pos_iff.mpr hne, fun m2 mm2 ml2 => ?_⟩
    have em2 : lo (fun c => c.2.1) cs = m2 := lo_is (List.mem_map.mp mm2) fun c hc => ml2 _ (List.mem_map.mpr ⟨c, hc, rfl⟩)
    refine nameI (i := 2) (v := .int m2) (σ := [some (.ref a), some (.int m1), none, none, none]) ?_
    refine ⟨_, rfl, a, rfl, ⟨_, k2.sqL hT List.not_mem_nil⟩, fun D3 hD3 => lc_dataL (K := K) cs cD (fun _ => true) (fun c => .int (c.2.2)) noL_c (fun _ _ => rfl) hD3 (k2.sqL hT List.not_mem_nil) (items_mono k2 hI) (by omega) (fun c x H' Nx Z _ k hx nx _ => ?s3) (fun H3 ys3 k3' h3 d3 => ?d3)⟩
    case s3 =>
      obtain ⟨pc, rfl, hp⟩ := of_dp_c hx
      exact ⟨rfl, yesI ⟨_, rfl, pc, _, 2, _, rfl, rfl, hp, rfl, nx _ _ (Kp.refl _ _) rfl (.int _)⟩⟩
    case d3 =>
    rw [filt cs] at d3
    have e3 : (cs.map fun c : C3 => PyData.int (c.2.2)) = (cs.map fun c => c.2.2).map PyData.int := by
      rw [List.map_map]
      rfl
    rw [e3] at d3
    have f3 := dps_ints d3
    subst f3
    have k3 := k2.trans k3'
    refine ⟨D3, _, rfl, SqL.of h3, by rw [List.length_map]; exact List.length_pos_iff.mpr hne, fun m3 mm3 ml3 => ?_⟩
    have em3 : lo (fun c => c.2.2) cs = m3 := lo_is (List.mem_map.mp mm3) fun c hc => ml3 _ (List.mem_map.mpr ⟨c, hc, rfl⟩)
    refine nameI (i := 3) (v := .int m3) (σ := [some (.ref a), some (.int m1), some (.int m2), none, none]) ?_
    refine ⟨_, rfl, m1, rfl, _, rfl, m2, rfl, _, rfl, m3, rfl, (by show 3 ≤ sizeLine; decide), fun t ht => ⟨_, rfl, ?_⟩⟩
    have kt : Kp [] H3 (upd H3 t (.tup [.int (-m1), .int (-m2), .int (-m3)])) := Kp.new ht
    have et : SqT K (upd H3 t (.tup [.int (-m1), .int (-m2), .int (-m3)])) t [.int (-m1), .int (-m2), .int (-m3)] := SqT.of upd_same
    generalize upd H3 t (.tup [.int (-m1), .int (-m2), .int (-m3)]) = H4 at kt et ⊢
    have k4 := k3.trans kt
    refine ⟨.ref t, (-m1, -m2, -m3), .ref a, cs, rfl, dp_c et, cellsL_mono k4 hv, h64, fun H5 p ys k5 n5 h5 i5 => ?_⟩
    refine q H5 p ys (k4.trans k5) (k4.free p n5) h5 ?_
    unfold corner Ly.off lox loy loz
    rw [em1, em2, em3]
    exact i5
/-! ### laid -/
def spLaid (K : PySem.W.Frag) (Pt Pr Ph : Addr) : Sp := fun vs H Q _ => ∃ (v : V) (b : Bd), vs = [v] ∧ Body K H v b ∧ Good b ∧ nb b ≤ 20 ∧ Tb H Pt Pr Ph ∧
  ∀ (H' : Hp) (r : Addr) (zs : List V), Kp [] H H' → H r = none → H' r = some (.lst zs) → Items K H' zs (laidL (all b)) → Q (.ref r) H'
theorem scLaid : FnScope ["body"] ["body"] (defScope sLaid) := ⟨rfl, rfl, rfl, by decide +kernel, rfl, by decide +kernel, by decide +kernel⟩
theorem ok_laid {f Pt Pr Ph fC fK : Addr} {fd dC dK : FuncData} (F : Fun K "laid" "laid" sLaid f fd) (NC : Fn K mg "cells" fC dC ["body"]) (GC : FnOk P W0 K mg base CX0 27 fC dC ["body"] (spCells K Pt Pr Ph))
    (NK : Fn K mg "_at_corner" fK dK ["held"]) (GK : FnOk P W0 K mg base CX0 2 fK dK ["held"] (spCorner K)) : FnOk P W0 K mg base CX0 28 f fd ["body"] (spLaid K Pt Pr Ph) := by
  refine F.ok scLaid (fun vs H Q E h => ?_) (fun cdv A outer s H vs Q E hr h => ?_)
  · obtain ⟨v, b, rfl, _⟩ := h
    rfl
  · obtain ⟨v, b, rfl, hB, hg, hn, tb, q⟩ := h
    have hr2 : Room 2 _ := hr.mono (by decide)
    refine ⟨_, pss_one (ps_ret (pe_call GK hr2 (by rfl) NK.m NK.kp NK.b .nil pass0 (pa_cons (pe_call GC hr (by rfl) NC.m NC.kp NC.b .nil pass0 (pa_cons (pv 0) pa_nil)) pa_nil))), ?_⟩
    refine ⟨_, rfl, v, b, rfl, hB, hg, hn, tb, fun H1 r zs k1 n1 h1 i1 => ⟨.ref r, all b, rfl, cellsL_of h1 i1, all_len b, fun H2 p ys k2 n2 h2 i2 => ?_⟩⟩
    rw [corner_asc (all_asc b)] at i2
    exact q H2 p ys (k1.trans k2) (k1.free p n2) h2 i2
end
end LP
end

section
set_option Elab.async false
set_option linter.all false
set_option maxRecDepth 100000
set_option maxHeartbeats 3200000
/-! s.add(x), x not in s: as written. -/
namespace GN
open PySem PySem.Spec PyProof.Rows L2 Ly GY GZ
section
variable {X : Cx}
def tAddN (K : PySem.W.Frag) (P : Program) (w : World) (to : TE) (t : TA) : TE := fun σ H Q => to σ H fun x H1 => (∃ a L, x = V.ref a ∧ H1 a = some (SNO P w a L)) ∧ t σ H1 fun xs H2 => rAddN K P w x xs H2 Q
variable {o e : Expr} {es : List Expr} {to : TE} {t : TA} {apos cpos : Pos}
theorem pe_addN (hu : X.A.units + 64 < cLine) (ho : PE X o to) (ha : PA X (e :: es) t)
    (hbase : attributeBase o "add" X.env (eval o X.env) = eval o X.env := by rfl)
    (hfew : ((backTo cpos (starEach (e :: es) X.env)).all (fun x => !x.1) && (backToKw cpos (keywordEach [] X.env)).all (fun x => x.1.isSome)
      && decide ((e :: es).length + ([] : List Keyword).length + (if ([] : List Keyword).isEmpty then 0 else 1) < 30)) = true := by rfl)
    (hline : (apos.endLine == cpos.line) = true := by rfl) (hs : starEach (e :: es) X.env = (false, eval e X.env) :: starEach es X.env := by rfl) (hplain : (backTo cpos (starEach es X.env)).any (·.1) = false := by rfl) :
    PE X (.Call (.Attribute o "add" apos) (e :: es) [] cpos) (tAddN X.K X.prog X.w to t) := by
  refine ⟨fun pins s σ H Q I h => ?_⟩
  refine wpAny_Call_method_late hbase hfew hline rfl (thn (ho.run pins s σ H _ I h) fun v s1 ⟨x, H1, I1, r1, ty, q1⟩ => ?_)
  obtain ⟨a, L, rfl, hka⟩ := ty
  have R0 : SN0 X.prog X.w s1.heap a L := (I1.hok a _ hka).1
  obtain ⟨es', ep, t', ⟨ob, hob, hex, hd⟩, _⟩ := R0.ex
  cases r1
  have hT : s1.TypeIs (.ref a) "set" := ⟨ob, hob, hex.1⟩
  refine ⟨"set", "set.add", F.plainAttrs_set, F.slot_set_add, F.type_set_add, hT, fun b e => ?_, ?_⟩
  · injection e with e
    subst e
    exact ⟨ob, hob, hex.2.1⟩
  have hA := ha.run cpos pins s1 σ H1 _ I1 q1
  rw [hs] at hA ⊢
  refine Calls.callWith_builtin (by show (false || (backTo cpos (starEach es X.env)).any (·.1)) = false; rw [hplain] <;> rfl) (Calls.evalArgs_plain ?_)
  exact thn hA fun us s2 ⟨vs, H2, I2, r2, q2⟩ => mt_addN hu pins s2 σ H2 (.ref a) vs (.ref a) us Q I2 rfl r2 q2
theorem op_notInNN (hu : X.A.units + 64 < cLine) : OpR X (compareOp .NotIn) (rInN X.K X.prog X.w true) := op_inNN (neg := true) hu
end
end GN
end

section
set_option Elab.async false
set_option linter.all false
set_option maxRecDepth 100000
set_option maxHeartbeats 2000000
/-! {} and `not in`, keys of any depth. -/
namespace GD
open PySem PySem.Spec PyProof.Rows L2
section
variable {prog : Program} {w : World} {K : Type} [DecidableEq K] {knd : HeapKind prog w K} {A : Around} {E : Value → Shared → Prop} {s : Shared} {d a : Addr} {k : K} {xs : List (K × Addr × Value)}
theorem wpAny_notin_heap {Q : Value → Shared → Prop} (hu : knd.room A.in1) (hkey : knd.is s.heap k a) (hd : (d == sysModules) = false) (hm : s.heap.DictOfH knd d xs)
    (h : Q (.bool (!(atKey xs k).isSome)) { s with toks := s.toks + knd.draws k }) : wpAny (model prog w) A (compareOp .NotIn (.ref a) (.ref d)) Q E s := by
  show wpAny _ _ (do return .bool (!(← contains (.ref d) (.ref a)))) Q E s
  refine wpAny_bind ?_
  unfold contains
  try with_reducible refine wpAny_holding ?_
  refine wpAny_bind (wpAny_specialOf hm.typeIs slot_dict_contains.lookup ?_)
  show wpAny _ _ (if (some (Value.builtin "dict.__contains__") == some Value.none) = true then _ else _) _ E s
  rw [if_neg (by rw [beq_builtin_none]; exact Bool.false_ne_true)]
  refine wpAny_bind (wpAny_callSpecialUnlessNone?_slot (name := Str.ofString "__contains__") hm.typeIs slot_dict_contains
    (wpAny_call_entry slot_dict_contains hm.typeIs entry_dict_contains ?_ (args_dict_contains _ _)))
  show wpAny _ _ (dictGet d (.ref a) >>= _) _ _ s
  refine wpAny_bind (wpAny_dictGet_heap hu hkey hm ?_)
  cases hf : atKey xs k with
  | some p =>
    rw [hf] at h
    show wpAny _ _ (ret (.bool true)) _ _ _
    exact wpAny_pure ⟨_, rfl, wpAny_truthy_bool (wpAny_pure h)⟩
  | none =>
    rw [hf] at h
    show wpAny _ _ (Builtin.Dict.pendingKey? d (.ref a) >>= _) _ _ _
    exact wpAny_bind (wpAny_pendingKey_other hd (wpAny_pure ⟨_, rfl, wpAny_truthy_bool (wpAny_pure h)⟩))
end
section
variable {X : Cx} {pins : List (Addr × Obj)} {σ : L2.St} {H : Hp} {s : Shared}
def rNotInN (K : PySem.W.Frag) (P : Program) (w : World) : R2 := fun x y H Q => ∃ a kvs k, y = .ref a ∧ DN K P w H a kvs ∧ KeyD K H x k ∧ Q (.bl (!(valN kvs k).isSome)) H
theorem op_notInN (hu : X.A.units + 64 < cLine) : OpR X (compareOp .NotIn) (rNotInN X.K X.prog X.w) := by
  intro pins s σ H x y v u Q I rx ry h
  obtain ⟨a, kvs, k, rfl, d, hk, q⟩ := h
  obtain ⟨b, rfl⟩ := hk.ref
  cases rx
  cases ry
  obtain ⟨L, xs, e, ek, hks, hm, z, r, D⟩ := d.full I
  refine wpAny_notin_heap (knd := kn X.prog X.w) (by show X.A.units + 1 + 8 < cLine; omega) (hk.is I) hm D ⟨.bl (!(valN kvs k).isSome), H, I.tok _, ?_, q⟩
  rw [← ek]
  rcases rows_val (k := k) r with ⟨e1, e2⟩ | ⟨v, b, u, e1, e2, _⟩
  · rw [e1, e2]; rfl
  · rw [e1, e2]; rfl
/-- {} -/
def tD0 (K : PySem.W.Frag) (P : Program) (w : World) : TE := fun σ H Q => ∀ D H', New H H' D → DN K P w H' D [] → Q (.ref D) H'
theorem pe_d0 {pos : Pos} : PE X (.Dict [] [] pos) (tD0 X.K X.prog X.w) := ⟨fun pins s σ H Q I h => by
  have d0 : Dn0 X.prog X.w (s.heap.push { cls := .type "dict", data := .dict #[] }) s.heap.objs.size [] := by
    refine ⟨beq_eq_false_iff_ne.mpr (Nat.ne_of_gt I.big), Nat.zero_le _, [], .nil, { cls := .type "dict", data := .dict #[] }, #[], 0, ?_, ⟨rfl, rfl, rfl⟩, rfl, rfl, List.nodup_nil⟩
    exact Heap.get?_push_size _ rfl
  have hf : H s.heap.objs.size = none := I.hok.fresh (Nat.le_refl _)
  exact wpAny_Dict_empty ⟨.ref s.heap.objs.size, _, I.laid (t' := s.toks) (fun _ _ q => Heap.get?_push_of_some _ q) (Nat.le_refl _) (dno_ok d0), rfl, h _ _ (new_upd hf d0) (dn_nil d0)⟩⟩
end
end GD
end

section
set_option Elab.async false
set_option linter.all false
set_option maxRecDepth 100000
set_option maxHeartbeats 2000000
/-! The keys of a dict whose keys are tuples, one after another. -/
namespace GD
open PySem PySem.Spec PyProof.Rows L2
/-- the dict's own object, its entries -/
def Pin (P : Program) (w : World) (a : Addr) (o : Obj) (L : List Row) (h : Heap) : Prop := h.get? a = some o ∧ Dn0 P w h a L
theorem pin_ok {P : Program} {w : World} {H : Hp} {h : Heap} {a : Addr} {o : Obj} {L : List Row} (x : Pin P w a o L h) : ObjOk P w H h a (.ext (Pin P w a o L)) := by
  refine ⟨x, ⟨o, x.1⟩, fun h1 h2 q k => ?_⟩
  obtain ⟨e0, y, z, xs, r, o', es, ep, e, c⟩ := q
  exact ⟨k o e0, y, z, xs, r, o', es, ep, k o' e, c⟩
theorem pin_code {P : Program} {w : World} {h : Heap} {a : Addr} {o : Obj} {L : List Row} (x : Pin P w a o L h) : ∀ q, HO.ext (Pin P w a o L) ≠ LamX.CodeO a q := by
  intro q e
  have f : Pin P w a o L = fun h => ∃ (oc : Obj) (vs : Array Value) (t : Tok), h.get? a = some oc ∧ oc.data = .fields vs ∧ vs[1]? = some (.str q t) := by
    unfold LamX.CodeO at e
    exact HO.ext.inj e
  have g := congrFun f h
  rw [eq_iff_iff] at g
  obtain ⟨oc, vs, t, e1, e2, _⟩ := g.mp x
  obtain ⟨_, _, _, xs, _, o', es, ep, e3, _, e4, _⟩ := x
  rw [e1] at e3
  cases e3
  rw [e2] at e4
  cases e4
/-- the dict at a, of which nothing changes while its keys are told -/
structure Pinned (K : PySem.W.Frag) (P : Program) (w : World) (H : Hp) (a : Addr) (o : Obj) (L : List Row) (kvs : List (NestedKey × V)) : Prop where
  at_ : H a = some (.ext (Pin P w a o L))
  ek : (L.map fun p => (p.1, p.2.2)) = kvs
  keys : ∀ p ∈ L, KeyD K H (.ref p.2.1) p.1
  nc : ∀ q, H a ≠ some (LamX.CodeO a q)
theorem Pinned.dn {K : PySem.W.Frag} {P : Program} {w : World} {H : Hp} {a : Addr} {o : Obj} {L : List Row} {kvs : List (NestedKey × V)} (p : Pinned K P w H a o L kvs) : DN K P w H a kvs := ⟨_, L, p.at_, fun _ x => x.2, p.ek, p.keys, p.nc⟩
def Itn (K : PySem.W.Frag) (P : Program) (w : World) (a : Addr) (o : Obj) (L : List Row) (kvs : List (NestedKey × V)) : It :=
  ⟨fun i H => Pinned K P w H a o L kvs ∧ i < kvs.length, fun i H x H' => H' = H ∧ ∃ k v, kvs[i]? = some (k, v) ∧ KeyD K H x k, fun i H => Pinned K P w H a o L kvs ∧ kvs.length ≤ i⟩
theorem entry_is {P : Program} {w : World} {es : Array DictEntry} {xs : List RowV} (h : es.toList = xs.map (entryOfKey (kn P w))) {i : Nat} {x : RowV} (hx : xs[i]? = some x) : ∃ en, es[i]? = some en ∧ en.key = .ref x.2.1 := by
  refine ⟨entryOfKey (kn P w) x, ?_, rfl⟩
  rw [← Array.getElem?_toList, h, List.getElem?_map, hx]
  rfl
theorem turn_keysN {P : Program} {w : World} {K : PySem.W.Frag} {tg : Expr} {a : Addr} {o : Obj} {es : Array DictEntry} {ep : Nat} {L : List Row} {kvs : List (NestedKey × V)} (it : Addr) (hod : o.data = .dict es ep) :
    Turn P w K tg (Itn K P w a o L kvs) [it] it (fun i h => h.IsKeyIter it a i kvs.length ep) where
  mem := by simp
  obj := fun i h st b hb => by
    have e : b = it := by simpa using hb
    subst e
    obtain ⟨oi, e, c, dd⟩ := st
    exact ⟨oi, e, fun v z => by rw [dd] at z; cases z⟩
  keep := fun i h h' st k => st.at fun oi e => k it (by simp) oi e
  item := by
    intro X hP hw hK hc i pins s σ H E I hf st hg
    subst hP hw hK
    obtain ⟨hd, hi⟩ := hg
    obtain ⟨f0, f1, f2, f3, f4, f5⟩ := hf it (by simp)
    obtain ⟨⟨ho, y, z, xs, r, o', es', ep', h1, h2, h3, h4, h5⟩, _, _⟩ := I.hok a _ hd.at_
    rw [ho] at h1
    cases h1
    rw [hod] at h3
    cases h3
    have l1 := rows_len r
    have l2 : kvs.length = L.length := by rw [← hd.ek, List.length_map]
    have l3 : es.size = xs.length := by rw [← Array.length_toList, h4, List.length_map]
    have hLi : L[i]? = some (L[i]'(by omega)) := List.getElem?_eq_getElem (by omega)
    generalize L[i]'(by omega) = p at hLi
    obtain ⟨x, hx, hr⟩ := paired_get r hLi
    obtain ⟨en, hen, hkey⟩ := entry_is h4 hx
    have hkv : kvs[i]? = some (p.1, p.2.2) := by rw [← hd.ek, List.getElem?_map, hLi]; rfl
    refine next_key_item st ho hod (by omega) hen fun h' st' sb => ?_
    have I1 : Inv X pins σ H { s with heap := h' } := I.turned (t' := s.toks) (fun b ob hb e => (sb.2 b hb).trans e) f0 f1 f3 f4 f5
    obtain ⟨oi, e, c, dd⟩ := id st'
    refine ⟨en.key, rfl, go_of (s := { s with heap := h' }) e c dd (by decide) ⟨.ref p.2.1, H, I1, ?_, ⟨rfl, p.1, p.2.2, hkv, hd.keys p (List.mem_of_getElem? hLi)⟩, st', fun b hb => (hf b hb).1⟩⟩
    rw [hkey, hr.2.1]
    rfl
  done := by
    intro X hP hw hK hc i pins s σ H E I hf st hg
    subst hP hw hK
    obtain ⟨hd, hi⟩ := hg
    obtain ⟨f0, f1, f2, f3, f4, f5⟩ := hf it (by simp)
    obtain ⟨⟨ho, y, z, xs, r, o', es', ep', h1, h2, h3, h4, h5⟩, _, _⟩ := I.hok a _ hd.at_
    rw [ho] at h1
    cases h1
    rw [hod] at h3
    cases h3
    have l1 := rows_len r
    have l2 : kvs.length = L.length := by rw [← hd.ek, List.length_map]
    have l3 : es.size = xs.length := by rw [← Array.length_toList, h4, List.length_map]
    exact next_key_end (I.ok.hd hc) st ho hod (by omega) hi fun h' eb => ⟨rfl, I.turned (t' := s.toks) (fun b o hb e => eb b o hb e) f0 f1 f3 f4 f5⟩
  self := fun A i s Q E st h => wpAny_pyIter_keyiter st h
section
variable {X : Cx} {tg e : Expr} {td : TE}
def iKeysN (K : PySem.W.Frag) (P : Program) (w : World) (td : TE) : TI := fun σ H R => td σ H fun x H1 => ∃ a kvs, x = .ref a ∧ DN K P w H1 a kvs ∧ ∀ o L H2, Chg H1 H2 a → Pinned K P w H2 a o L kvs → R (Itn K P w a o L kvs) H2
theorem pi_keysN (he : PE X e td) : PI X tg e (iKeysN X.K X.prog X.w td) := by
  refine ⟨fun pins s σ H R I h => ?_⟩
  refine thn (he.run pins s σ H _ I h) fun u s1 ⟨x, H1, I1, rx, a, kvs, ex, d, q⟩ => ?_
  subst ex
  obtain rfl : u = Value.ref a := rx
  obtain ⟨φ, L, e0, hφ, ek, hk, nc⟩ := d
  obtain ⟨x0, _, _⟩ := I1.hok a _ e0
  have x1 := hφ _ x0
  obtain ⟨hs, z, xs, r, o, es, ep, h1, h2, h3, h4, h5⟩ := x1
  have pn : Pin X.prog X.w a o L s1.heap := ⟨h1, hs, z, xs, r, o, es, ep, h1, h2, h3, h4, h5⟩
  have c : Chg H1 (upd H1 a (.ext (Pin X.prog X.w a o L))) a := ⟨fun b n => upd_ne n, ⟨_, upd_same⟩, ⟨_, e0⟩, nc⟩
  have I2 : Inv X pins σ (upd H1 a (.ext (Pin X.prog X.w a o L))) s1 := d_write (h' := s1.heap) (t' := s1.toks) I1 (by rw [e0]; exact True.intro) ⟨rfl, fun _ _ => rfl⟩ ⟨o, h1⟩ (pin_ok pn)
  have pd : Pinned X.K X.prog X.w (upd H1 a (.ext (Pin X.prog X.w a o L))) a o L kvs := ⟨upd_same, ek, fun p hp => (hk p hp).chg c, fun q' z' => ?_⟩
  · have l1 := rows_len r
    have l2 : kvs.length = L.length := by rw [← ek, List.length_map]
    have l3 : es.size = xs.length := by rw [← Array.length_toList, h4, List.length_map]
    refine iter_keys hs h1 h2 h3 (pi_one (tk := s1.toks) I2 _ (turn_keysN _ h3) ⟨_, Heap.get?_push_size _ rfl, rfl, ?_⟩ (q o L _ c pd))
    rw [show kvs.length = es.size by omega] <;> rfl
  · rw [upd_same] at z'
    exact pin_code pn q' (Option.some.inj z')
/-! ### d.get(k, x) -/
variable {f : Expr} {tx ty : TE} {apos cpos : Pos}
def tGet2N (K : PySem.W.Frag) (P : Program) (w : World) (td ty tx : TE) : TE := fun σ H Q => td σ H fun x H1 => ∃ a kvs0, x = .ref a ∧ DN K P w H1 a kvs0 ∧ ty σ H1 fun y H2 => tx σ H2 fun z H3 => ∃ kvs k, DN K P w H3 a kvs ∧ KeyD K H3 y k ∧ Q ((valN kvs k).getD z) H3
theorem pe_get2N {o e : Expr} (hu : X.A.units + 64 < cLine) (ho : PE X o td) (he : PE X e ty) (hf : PE X f tx) (m : M2 X o "get" apos e f cpos) : PE X (.Call (.Attribute o "get" apos) [e, f] [] cpos) (tGet2N X.K X.prog X.w td ty tx) := by
  refine ⟨fun pins s σ H Q I h => ?_⟩
  refine wpAny_Call_method m.base m.few m.line PySem.F.plainAttrs_dict PySem.F.slot_dict_get PySem.F.type_dict_get (thn (ho.run pins s σ H _ I h) fun u s1 ⟨x, H1, I1, rx, a, kvs0, ex, d, q1⟩ => ?_)
  subst ex
  obtain rfl : u = Value.ref a := rx
  obtain ⟨L0, xs0, _, _, _, _, _, _, D0⟩ := d.full I1
  refine ⟨D0.typeIs, fun b q => ?_, ?_⟩
  · cases q
    obtain ⟨ob, _, _, h1, h2, _⟩ := D0
    exact ⟨ob, h1, h2.2.1⟩
  rw [m.trees]
  refine Calls.callWith_builtin rfl (Calls.evalArgs_plain (Calls.spliced_cons (thn (he.run pins s1 σ H1 _ I1 q1) fun iv s2 ⟨y, H2, I2, ry, q2⟩ =>
    Calls.spliced_cons (thn (hf.run pins s2 σ H2 _ I2 q2) fun fv s3 ⟨z, H3, I3, rz, kvs, k, d3, hk, q3⟩ => Calls.spliced_nil ?_))))
  obtain ⟨b, rfl⟩ := hk.ref
  obtain rfl : iv = Value.ref b := ry
  obtain ⟨L, xs, ⟨φ, e0⟩, ek, hks, hsm, zz, r, D⟩ := d3.full I3
  refine call_meetsIn PySem.F.slot_dict_get D.typeIs PySem.F.entry_dict_get (PySem.F.args_dict_get_3 _ _ _) (meetsH_dict_get_default (kn X.prog X.w) a b hsm fv) ⟨by show X.A.units + 1 + 8 < cLine; omega, k, xs, hk.is I3, D, ⟨(valN kvs k).getD z, H3, I3.tok _, ?_, q3⟩⟩
  rw [← ek]
  rcases rows_val (k := k) r with ⟨e1, e2⟩ | ⟨v', b', u', e1, e2, e3⟩
  · rw [e1, e2]
    exact rz
  · rw [e1, e2]
    exact e3
end
end GD
end

section
set_option Elab.async false
set_option linter.all false
set_option maxRecDepth 100000
set_option maxHeartbeats 2000000
/-! how many entries a dict with tuple keys has -/
namespace GD
open PySem PySem.Spec PyProof.Rows L2
variable {X : Cx}
def rLenN (K : PySem.W.Frag) (P : Program) (w : World) : List V → Hp → VK → Prop := fun xs H Q => ∃ (a : Addr) (kvs : List (NestedKey × V)), xs = [.ref a] ∧ DN K P w H a kvs ∧ Q (.int ((kvs.length : Nat) : Int)) H
theorem call_lenN : CallR X (.builtin "len") (rLenN X.K X.prog X.w) := by
  intro pins s σ H xs us Q I r h
  obtain ⟨a, kvs, rfl, d, q⟩ := h
  cases r with
  | cons r1 r2 =>
    cases r2
    cases r1
    obtain ⟨L, ys, _, ek, _, hd, hz, rel, dd⟩ := d.full I
    have hl : kvs.length = ys.length := by rw [← ek, List.length_map]; exact rows_len rel
    have hz2 : L.length = ys.length := rows_len rel
    refine call_len_dictH hd dd (by rw [sizeLine_eq] at hz; omega) ?_
    rw [← hl]
    exact ⟨.int ((kvs.length : Nat) : Int), H, I.tok _, ⟨_, rfl⟩, q⟩
end GD
end

section
set_option Elab.async false
set_option linter.all false
set_option maxRecDepth 100000
set_option maxHeartbeats 4000000
/-! walks and comprehensions over the keys of a dict, whatever each turn gives -/
namespace LP
open PySem PySem.Spec PyProof.Rows L2 Ly GY
section
variable [LamTab] {P : Program} {W0 : World} {K : PySem.W.Frag} {mg : Str → Option Value} {base : Heap}
theorem pin_keep {S : List Addr} {H H' : Hp} {a : Addr} {o : Obj} {L : List GD.Row} {kvs : List (NestedKey × V)} (k : Kp S H H') (n : a ∉ S) (p : GD.Pinned K P W0 H a o L kvs) : GD.Pinned K P W0 H' a o L kvs := by
  have e' := k.keep a _ p.at_ n fun ps z => by cases z
  exact ⟨e', p.ek, fun r hr => key_mono k (p.keys r hr), fun q z => p.nc q (by rw [p.at_, ← e', z])⟩
theorem walk_keysK {a : Addr} {o : Obj} {Lr : List GD.Row} {kvs : List (NestedKey × V)} : Walk (GD.Itn K P W0 a o Lr kvs) kvs.length (fun H => GD.Pinned K P W0 H a o Lr kvs) (fun i H x H' => H' = H ∧ ∃ k v, kvs[i]? = some (k, v) ∧ GD.KeyD K H x k) :=
  ⟨fun i H hi p => ⟨p, hi⟩, fun H p => ⟨p, Nat.le_refl _⟩, fun i H x H' _ p y => y⟩
theorem paired_snoc {α β : Type} {R : α → β → Prop} {x : α} {y : β} (h : R x y) : ∀ {xs : List α} {ys : List β}, Paired R xs ys → Paired R (xs ++ [x]) (ys ++ [y])
  | _, _, .nil => .cons h .nil
  | _, _, .cons a t => .cons a (paired_snoc h t)
theorem paired_imp {α β : Type} {R R' : α → β → Prop} (h : ∀ x y, R x y → R' x y) : ∀ {xs : List α} {ys : List β}, Paired R xs ys → Paired R' xs ys
  | _, _, .nil => .nil
  | _, _, .cons a t => .cons (h _ _ a) (paired_imp h t)
theorem paired_len {α β : Type} {R : α → β → Prop} : ∀ {xs : List α} {ys : List β}, Paired R xs ys → xs.length = ys.length
  | _, _, .nil => rfl
  | _, _, .cons _ t => by rw [List.length_cons, List.length_cons, paired_len t]
theorem paired_fst {α β : Type} {R : α → β → Prop} : ∀ {xs : List α} {ys : List β} {i : Nat} {x : α}, Paired R xs ys → xs[i]? = some x → ∃ y, ys[i]? = some y ∧ R x y
  | _, _, 0, _, .cons a _, h => ⟨_, rfl, by rw [← Option.some.inj h]; exact a⟩
  | _, _, i + 1, _, .cons _ t, h => paired_fst (i := i) t h
theorem val_at {kvs : List (NestedKey × V)} (nd : (kvs.map (·.1)).Nodup) {k : NestedKey} {v : V} (m : (k, v) ∈ kvs) : GD.valN kvs k = some v := by
  induction kvs with
  | nil => cases m
  | cons q kvs ih =>
    rw [List.map_cons, List.nodup_cons] at nd
    unfold GD.valN
    rw [List.find?_cons]
    rcases List.mem_cons.mp m with e | m
    · rw [← e]
      simp
    · have ne : ¬ q.1 = k := fun e => nd.1 (by rw [e]; exact List.mem_map.mpr ⟨(k, v), m, rfl⟩)
      rw [decide_eq_false ne]
      exact ih nd.2 m
/-- over the keys of a dict: what each gives, whatever it is -/
theorem lc_keysA {a D : Addr} {o : Obj} {L : List GD.Row} {kvs : List (NestedKey × V)} {H1 : Hp} {g : TG} {tt : TT} {te : TE} {vs : List Nat} {σ : L2.St} {Qd : Hp → Prop} (R : V → NestedKey × V → Hp → Prop) (mono : ∀ S H H' y kv, (∀ b ∈ S, b = D) → Kp S H H' → R y kv H → R y kv H') (hD : H1 D = none) (hn : kvs.length ≤ 100000) (hp : GD.Pinned K P W0 H1 a o L kvs)
    (hs : ∀ (i : Nat) (x : V) (k : NestedKey) (v : V) (H' : Hp) (Nx : V → Hp → Prop) (Z : Hp → Prop), kvs[i]? = some (k, v) → Kp [] H1 H' → GD.Pinned K P W0 H' a o L kvs → GD.KeyD K H' x k → (∀ H'' y, Kp [] H' H'' → R y (k, v) H'' → Nx y H'') →
      g x (wipe σ vs) H' fun σ2 H2 => wipe σ2 vs = wipe σ vs ∧ tt σ2 H2 fun b H3 => if b = true then te σ2 H3 Nx else Z H3)
    (hd : ∀ (H' : Hp) (ys : List V), Kp [] H1 H' → GD.Pinned K P W0 H' a o L kvs → H' D = some (.lst ys) → Paired (fun y kv => R y kv H') ys kvs → Qd H') :
    ∃ W : Nat → Nat → Hp → Prop, (∃ m, W 0 m (upd H1 D (.lst []))) ∧ ∀ i m H, W i m H →
      ((GD.Itn K P W0 a o L kvs).stop i H ∧ Qd H) ∨ ((GD.Itn K P W0 a o L kvs).go i H ∧ ∃ Nx : Hp → Prop, (∀ H', Nx H' → ∃ m', m' < m ∧ W (i + 1) m' H') ∧ ∀ x H', (GD.Itn K P W0 a o L kvs).yld i H x H' → g x (wipe σ vs) H' fun σ2 H2 => wipe σ2 vs = wipe σ vs ∧ tt σ2 H2 fun b H3 =>
        if b = true then te σ2 H3 fun y H4 => ∃ acc, H4 D = some (.lst acc) ∧ acc.length < sizeLine ∧ Nx (upd H4 D (.lst (acc ++ [y]))) else Nx H3) := by
  refine ⟨fun i m H' => m = kvs.length - i ∧ i ≤ kvs.length ∧ Kp [] H1 H' ∧ ∃ acc, H' D = some (.lst acc) ∧ Paired (fun y kv => R y kv H') acc (kvs.take i), ⟨kvs.length, by simp, Nat.zero_le _, Kp.new hD, [], upd_same, by rw [List.take_zero]; exact .nil⟩, ?_⟩
  rintro i m H' ⟨rfl, hi, k, acc, hA, hAi⟩
  have pd := pin_keep k List.not_mem_nil hp
  by_cases hlt : i < kvs.length
  · refine .inr ⟨⟨pd, hlt⟩, fun H'' => Kp [] H1 H'' ∧ ∃ acc, H'' D = some (.lst acc) ∧ Paired (fun y kv => R y kv H'') acc (kvs.take (i + 1)), fun H'' p' => ⟨kvs.length - (i + 1), by omega, rfl, hlt, p'⟩, fun x H2 y => ?_⟩
    obtain ⟨e, kk, v, hk, hx⟩ := y
    subst e
    refine hs i x kk v _ _ _ hk k pd hx fun H'' y k'' hy => ?_
    have hA2 := k''.lst hA List.not_mem_nil
    have hAl := paired_len hAi
    rw [List.length_take] at hAl
    have kc : Kp [D] H'' (upd H'' D (.lst (acc ++ [y]))) := Kp.chg hA2 (List.mem_singleton.mpr rfl)
    have mD : ∀ b ∈ [D], b = D := fun b hb => List.mem_singleton.mp hb
    refine ⟨acc, hA2, small_size (by omega), (k.trans k'').chg0 hD hA2, _, upd_same, ?_⟩
    rw [List.take_add_one, hk]
    exact paired_snoc (R := fun z kv => R z kv (upd H'' D (.lst (acc ++ [y])))) (mono _ _ _ _ _ mD kc hy) (paired_imp (fun y kv r => mono _ _ _ _ _ mD kc (mono [] _ _ _ _ (fun b hb => by cases hb) k'' r)) hAi)
  · have e : i = kvs.length := by omega
    subst e
    rw [List.take_length] at hAi
    exact .inl ⟨⟨pd, Nat.le_refl _⟩, hd H' acc k pd hA hAi⟩
end
end LP
end

section
set_option Elab.async false
set_option linter.all false
set_option maxRecDepth 100000
set_option maxHeartbeats 4000000
/-! a comprehension over a list, whatever its items are and whatever each turn gives -/
namespace LP
open PySem PySem.Spec PyProof.Rows L2 Ly GY
section
variable [LamTab] {P : Program} {W0 : World} {K : PySem.W.Frag} {mg : Str → Option Value} {base : Heap}
theorem paired_append {α β : Type} {R : α → β → Prop} : ∀ {xs : List α} {ys : List β} {xs' : List α} {ys' : List β}, Paired R xs ys → Paired R xs' ys' → Paired R (xs ++ xs') (ys ++ ys')
  | _, _, _, _, .nil, h => h
  | _, _, _, _, .cons a t, h => .cons a (paired_append t h)
theorem lc_listB {α : Type} {a D : Addr} {xs : List V} {H1 : Hp} {g : TG} {tt : TT} {te : TE} {vs : List Nat} {σ : L2.St} {Qd : Hp → Prop} (src : List α) (Rs : V → α → Hp → Prop) (monoS : ∀ H' x c, Kp [] H1 H' → Rs x c H1 → Rs x c H') (keep : α → Bool) (R : V → α → Hp → Prop)
    (mono : ∀ S H H' y c, (∀ b ∈ S, b = D) → Kp S H H' → R y c H → R y c H') (hD : H1 D = none) (hT : SqL K H1 a xs) (hI : Paired (fun x c => Rs x c H1) xs src) (hz : src.length ≤ 100000)
    (hs : ∀ (i : Nat) (c : α) (x : V) (H' : Hp) (Nx : V → Hp → Prop) (Z : Hp → Prop), src[i]? = some c → Kp [] H1 H' → (∃ acc, H' D = some (.lst acc)) → Rs x c H' → (∀ H'' y, Kp [] H' H'' → keep c = true → R y c H'' → Nx y H'') → (∀ H'', Kp [] H' H'' → keep c = false → Z H'') →
      g x (wipe σ vs) H' fun σ2 H2 => wipe σ2 vs = wipe σ vs ∧ tt σ2 H2 fun b H3 => if b = true then te σ2 H3 Nx else Z H3)
    (hd : ∀ (H' : Hp) (ys : List V), Kp [] H1 H' → H' D = some (.lst ys) → Paired (fun y c => R y c H') ys (src.filter keep) → Qd H') :
    ∃ W : Nat → Nat → Hp → Prop, (∃ m, W 0 m (upd H1 D (.lst []))) ∧ ∀ i m H, W i m H →
      ((Itl K a).stop i H ∧ Qd H) ∨ ((Itl K a).go i H ∧ ∃ Nx : Hp → Prop, (∀ H', Nx H' → ∃ m', m' < m ∧ W (i + 1) m' H') ∧ ∀ x H', (Itl K a).yld i H x H' → g x (wipe σ vs) H' fun σ2 H2 => wipe σ2 vs = wipe σ vs ∧ tt σ2 H2 fun b H3 =>
        if b = true then te σ2 H3 fun y H4 => ∃ acc, H4 D = some (.lst acc) ∧ acc.length < sizeLine ∧ Nx (upd H4 D (.lst (acc ++ [y]))) else Nx H3) := by
  have hl := paired_len hI
  refine lc_list (K := K) (a := a) (xs := xs) (fun i H' => Kp [] H1 H' ∧ ∃ acc, H' D = some (.lst acc) ∧ Paired (fun y c => R y c H') acc ((src.take i).filter keep)) ⟨Kp.new hD, [], upd_same, .nil⟩ (fun i H' _ k => k.1.sqL hT List.not_mem_nil) (fun i x H' hx pv => ?_) (fun H' pv => ?_)
  · obtain ⟨k, acc, hA, hAi⟩ := pv
    obtain ⟨c, hc, hRs⟩ := paired_fst hI hx
    refine hs i c x H' _ _ hc k ⟨acc, hA⟩ (monoS H' x c k hRs) (fun H'' y k'' hk hy => ?_) (fun H'' k'' hk => ?_)
    · have hA2 := k''.lst hA List.not_mem_nil
      have hi : i < src.length := (List.getElem?_eq_some_iff.mp hc).1
      have hAl := paired_len hAi
      have hfl := List.length_filter_le keep (src.take i)
      rw [List.length_take] at hfl
      have kc : Kp [D] H'' (upd H'' D (.lst (acc ++ [y]))) := Kp.chg hA2 (List.mem_singleton.mpr rfl)
      have gD : ∀ b ∈ [D], b = D := fun b m => List.mem_singleton.mp m
      refine ⟨acc, hA2, small_size (by omega), (k.trans k'').chg0 hD hA2, _, upd_same, ?_⟩
      rw [take_filter hc, if_pos hk]
      exact paired_append (paired_imp (fun y c h => mono _ _ _ y c gD kc (mono [] _ _ y c (fun b m => by cases m) k'' h)) hAi) (.cons (mono _ _ _ y c gD kc hy) .nil)
    · refine ⟨k.trans k'', acc, k''.lst hA List.not_mem_nil, ?_⟩
      rw [take_filter hc, hk, if_neg (by decide), List.append_nil]
      exact paired_imp (fun y c h => mono [] _ _ y c (fun b m => by cases m) k'' h) hAi
  · obtain ⟨k, acc, hA, hAi⟩ := pv
    rw [hl, List.take_length] at hAi
    exact hd H' acc k hA hAi
theorem lc_listA {α : Type} {a D : Addr} {xs : List V} {H1 : Hp} {g : TG} {tt : TT} {te : TE} {vs : List Nat} {σ : L2.St} {Qd : Hp → Prop} (src : List α) (Rs : V → α → Hp → Prop) (monoS : ∀ H' x c, Kp [] H1 H' → Rs x c H1 → Rs x c H') (keep : α → Bool) (R : V → α → Hp → Prop)
    (mono : ∀ S H H' y c, (∀ b ∈ S, b = D) → Kp S H H' → R y c H → R y c H') (hD : H1 D = none) (hT : SqL K H1 a xs) (hI : Paired (fun x c => Rs x c H1) xs src) (hz : src.length ≤ 100000)
    (hs : ∀ (i : Nat) (c : α) (x : V) (H' : Hp) (Nx : V → Hp → Prop) (Z : Hp → Prop), src[i]? = some c → Kp [] H1 H' → Rs x c H' → (∀ H'' y, Kp [] H' H'' → keep c = true → R y c H'' → Nx y H'') → (∀ H'', Kp [] H' H'' → keep c = false → Z H'') →
      g x (wipe σ vs) H' fun σ2 H2 => wipe σ2 vs = wipe σ vs ∧ tt σ2 H2 fun b H3 => if b = true then te σ2 H3 Nx else Z H3)
    (hd : ∀ (H' : Hp) (ys : List V), Kp [] H1 H' → H' D = some (.lst ys) → Paired (fun y c => R y c H') ys (src.filter keep) → Qd H') :
    ∃ W : Nat → Nat → Hp → Prop, (∃ m, W 0 m (upd H1 D (.lst []))) ∧ ∀ i m H, W i m H →
      ((Itl K a).stop i H ∧ Qd H) ∨ ((Itl K a).go i H ∧ ∃ Nx : Hp → Prop, (∀ H', Nx H' → ∃ m', m' < m ∧ W (i + 1) m' H') ∧ ∀ x H', (Itl K a).yld i H x H' → g x (wipe σ vs) H' fun σ2 H2 => wipe σ2 vs = wipe σ vs ∧ tt σ2 H2 fun b H3 =>
        if b = true then te σ2 H3 fun y H4 => ∃ acc, H4 D = some (.lst acc) ∧ acc.length < sizeLine ∧ Nx (upd H4 D (.lst (acc ++ [y]))) else Nx H3) :=
  lc_listB (K := K) src Rs monoS keep R mono hD hT hI hz (fun i c x H' Nx Z h1 h2 _ h3 h4 h5 => hs i c x H' Nx Z h1 h2 h3 h4 h5) hd
end
end LP
end

section
set_option Elab.async false
set_option linter.all false
set_option maxRecDepth 100000
/-! while with a measure -/
namespace LP
open PySem PySem.Spec PyProof.Rows L2 Ly GY
theorem while_m {c : TT} {tb : TS} {D : Ends} {σ : L2.St} {H : Hp} (Pv : Nat → L2.St → Hp → Prop) (h0 : ∃ m, Pv m σ H)
    (hs : ∀ m σ H, Pv m σ H → c σ H fun b H1 => if b = true then tb { D with nx := fun σ' H' => ∃ m', m' < m ∧ Pv m' σ' H', ct := fun σ' H' => ∃ m', m' < m ∧ Pv m' σ' H', bk := D.nx } σ H1 else D.nx σ H1) (mono : MonT c) : tWhile c tb D σ H := by
  refine ⟨Pv, h0, fun m σ H p => mono σ H _ _ (fun b H1 q => ?_) (hs m σ H p)⟩
  cases b with
  | true => exact ⟨_, fun σ' H' z => z, q⟩
  | false => exact q
theorem mon_b {t : TE} (h : MonE t) : MonT (tB t) := fun σ H Q Q' k q => h σ H _ _ (fun x H1 ⟨c, e, q1⟩ => ⟨c, e, k _ _ q1⟩) q
end LP
end

section
set_option Elab.async false
set_option linter.all false
set_option maxRecDepth 100000
set_option maxHeartbeats 8000000
/-! turnings -/
namespace LP
open PySem PySem.Spec PyProof.Rows L2 Ly GY
section
variable [LamTab] {P : Program} {W0 : World} {K : PySem.W.Frag} {mg : Str → Option Value} {base : Heap}
/-- (word, cells) rows, whose lists stand at good places -/
def TRows (K : PySem.W.Frag) (H : Hp) (G : Addr → Prop) (ys : List V) (T : List (Str × List C3)) : Prop := Paired (fun (v : V) (r : Str × List C3) => ∃ t a zs, v = .ref t ∧ SqT K H t [.str r.1, .ref a] ∧ H a = some (.lst zs) ∧ Items K H zs r.2 ∧ G a) ys T
theorem TRows.mono {S : List Addr} {H H' : Hp} {G : Addr → Prop} {ys : List V} {rs : List (Str × List C3)} (x : TRows K H G ys rs) (k : Kp S H H') (g : ∀ b, G b → b ∉ S) : TRows K H' G ys rs :=
  paired_imp (fun v r ⟨t, a, zs, e, ht, ha, hi, ga⟩ => ⟨t, a, zs, e, k.sqT ht, k.lst ha (g a ga), items_mono k hi, ga⟩) x
theorem TRows.imp {H : Hp} {G G' : Addr → Prop} {ys : List V} {rs : List (Str × List C3)} (x : TRows K H G ys rs) (g : ∀ b, G b → G' b) : TRows K H G' ys rs :=
  paired_imp (fun v r ⟨t, a, zs, e, ht, ha, hi, ga⟩ => ⟨t, a, zs, e, ht, ha, hi, g a ga⟩) x
theorem tr_append {H : Hp} {G : Addr → Prop} : ∀ {ys : List V} {rs : List (Str × List C3)} {zs : List V} {qs : List (Str × List C3)}, TRows K H G ys rs → TRows K H G zs qs → TRows K H G (ys ++ zs) (rs ++ qs)
  | _, _, _, _, .nil, h => h
  | _, _, _, _, .cons a t, h => .cons a (tr_append t h)
theorem tr_get {H : Hp} {G : Addr → Prop} {ys : List V} {rs : List (Str × List C3)} : ∀ {i : Nat} {p : Str × List C3}, TRows K H G ys rs → rs[i]? = some p → ∃ t a zs, ys[i]? = some (.ref t) ∧ SqT K H t [.str p.1, .ref a] ∧ H a = some (.lst zs) ∧ Items K H zs p.2 ∧ G a := by
  intro i p h e
  unfold TRows at h
  induction h generalizing i with
  | nil => simp at e
  | cons h1 _ ih =>
    cases i with
    | zero =>
      simp at e
      subst e
      obtain ⟨t, a, zs, e1, h2⟩ := h1
      exact ⟨t, a, zs, by simp [e1], h2⟩
    | succ i =>
      obtain ⟨t, a, zs, e1, h2⟩ := ih (i := i) (by simpa using e)
      exact ⟨t, a, zs, by simpa using e1, h2⟩
def spTurns (K : PySem.W.Frag) (Pt Pr Ph : Addr) : Sp := fun vs H Q _ => ∃ (v : V) (b : Bd), vs = [v] ∧ Body K H v b ∧ Good b ∧ nb b ≤ 20 ∧ Tb H Pt Pr Ph ∧
  ∀ (H' : Hp) (r : Addr) (ys : List V), Kp [] H H' → H r = none → H' r = some (.lst ys) → TRows K H' (fun b => H b = none ∧ b ≠ r) ys (turnsL (all b)) → Q (.ref r) H'
abbrev nTurns : List Str := ["body", "start", "told", "seen", "at", "word", "held", "edge", "found"]
theorem scTurns : FnScope nTurns ["body"] (defScope sTurnings) := ⟨rfl, rfl, rfl, by decide +kernel, rfl, by decide +kernel, by decide +kernel⟩
/-- what is seen: the states of T -/
structure Seen (K : PySem.W.Frag) (P : Program) (W0 : World) (H : Hp) (sn : Addr) (T : List (Str × List C3)) : Prop where
  ex : ∃ L : List (Addr × NestedKey), H sn = some (GN.SNO P W0 sn L) ∧ (∀ p ∈ L, GN.KeyN K H (.ref p.1) p.2) ∧ (∀ g, kG g ∈ L.map (·.2) ↔ g ∈ Fw.sts T) ∧ L.length ≤ T.length ∧ ∀ q, GN.SNO P W0 sn L ≠ LamX.CodeO sn q
theorem dp_td {S : List Addr} {H H' : Hp} {v : V} {g : List C3} (k : Kp S H H') (h : Dp K H v (tD g)) : Dp K H' v (tD g) := dp_mono k _ h (.inl (noL_tD g))
theorem keyN_mono {S : List Addr} {H H' : Hp} {v : V} {k : NestedKey} (kp : Kp S H H') (h : GN.KeyN K H v k) (hn : noL k.data = true) : GN.KeyN K H' v k := ⟨⟨dp_mono kp _ h.1.1 (.inl hn), h.1.2⟩, h.2⟩
theorem noL_key : ∀ k : NestedKey, noL k.data = true := noL_k
theorem Seen.mono {S : List Addr} {H H' : Hp} {sn : Addr} {T : List (Str × List C3)} (x : Seen K P W0 H sn T) (k : Kp S H H') (n : sn ∉ S) : Seen K P W0 H' sn T := by
  obtain ⟨L, h1, h2, h3, h4, h5⟩ := x.ex
  exact ⟨L, k.keep sn _ h1 n (fun ps z => by unfold GN.SNO at z; cases z), fun p hp => keyN_mono k (h2 p hp) (noL_key _), h3, h4, h5⟩
theorem addT_len {T V : List (Str × List C3)} : (V.foldl Fw.addT T).length ≤ T.length + V.length := by
  induction V generalizing T with
  | nil => exact Nat.le_refl _
  | cons p V ih =>
    have h := ih (T := Fw.addT T p)
    have h2 : (Fw.addT T p).length ≤ T.length + 1 := by
      unfold Fw.addT
      split
      · omega
      · rw [List.length_append]; exact Nat.le_refl _
    rw [List.foldl_cons, List.length_cons]
    omega
theorem F_len4 {cs : List C3} (hn : cs.Nodup) {n : Nat} {p : Str × List C3} (h : p ∈ FT cs n) : p.1.length ≤ 4 := by
  rcases Nat.lt_or_ge 4 n with z | z
  · rw [show FT cs n = FT cs 4 from Fw.F_done (F5_4 hn) n (by omega)] at h
    exact F_len h
  · exact Nat.le_trans (F_len h) z
theorem rotL_len {cs : List C3} (m : Rot) : (rotL cs m).length = cs.length := by
  unfold rotL
  rw [(laid_perm _).length_eq]
  unfold corner
  rw [List.length_map, List.length_map]
theorem found_is {S ds : List C3} {e : Fin 3} (hn : S.Nodup) (hp : ds.Perm (S.map (tE e))) (hs : ds.Pairwise fun a b => ¬ lt3 b a) : corner ds = qE e S := by
  have h1 : (S.map (tE e)).Nodup := tE_nodup hn
  have h2 : ds.Nodup := hp.symm.nodup_iff.mp h1
  have h3 : Asc ds := asc_of hs h2
  rw [corner_asc h3]
  exact (laid_of_perm h1 hp.symm).symm
theorem edge_at {i : Nat} {x : V} (h : ([.str "x", .str "y", .str "z"] : List V)[i]? = some x) : ∃ e : Fin 3, x = .str (eS e) ∧ Es3[i]? = some e ∧ isTurn (eS e) (tE e) := by
  rcases i with _ | _ | _ | i
  · exact ⟨0, (Option.some.inj h).symm, rfl, .inl ⟨rfl, rfl⟩⟩
  · exact ⟨1, (Option.some.inj h).symm, rfl, .inr (.inl ⟨rfl, rfl⟩)⟩
  · exact ⟨2, (Option.some.inj h).symm, rfl, .inr (.inr ⟨rfl, rfl⟩)⟩
  · simp at h
theorem eS_len (e : Fin 3) : (eS e).length = 1 := by
  match e with
  | 0 => rfl
  | 1 => rfl
  | 2 => rfl
theorem rot_nodup {cs : List C3} (h : cs.Nodup) {m : Rot} (hm : m ∈ rots) : (cs.map (rot m)).Nodup := h.map _ fun a b ne e => ne (rots_inj m hm a b e)
theorem Seen.grow {H : Hp} {sn b : Addr} {T : List (Str × List C3)} {w : Str} {g : List C3} {L L' : List (Addr × NestedKey)} (h1 : H sn = some (GN.SNO P W0 sn L)) (h2 : ∀ p ∈ L, GN.KeyN K H (.ref p.1) p.2) (h3 : ∀ g, kG g ∈ L.map (·.2) ↔ g ∈ Fw.sts T) (h4 : L.length ≤ T.length) (h5 : ∀ q, GN.SNO P W0 sn L ≠ LamX.CodeO sn q)
    (hb : GN.KeyN K H (.ref b) (kG g)) (hp : L'.Perm ((b, kG g) :: L)) (h6 : ∀ q, GN.SNO P W0 sn L' ≠ LamX.CodeO sn q) : Kp [sn] H (upd H sn (GN.SNO P W0 sn L')) ∧ Seen K P W0 (upd H sn (GN.SNO P W0 sn L')) sn (T ++ [(w, g)]) := by
  have kc : Kp [sn] H (upd H sn (GN.SNO P W0 sn L')) := Kp.chgE h1 h5 List.mem_cons_self
  refine ⟨kc, L', upd_same, fun p hm => ?_, fun x => ?_, ?_, h6⟩
  · rcases List.mem_cons.mp (hp.mem_iff.mp hm) with e | hm
    · rw [e]
      exact keyN_mono kc hb (noL_key _)
    · exact keyN_mono kc (h2 p hm) (noL_key _)
  · rw [(hp.map (·.2)).mem_iff, List.map_cons, List.mem_cons, h3 x]
    unfold Fw.sts
    rw [List.map_append, List.mem_append, List.map_cons, List.map_nil, List.mem_singleton]
    constructor
    · rintro (e | h)
      · exact .inr (kG_inj e)
      · exact .inl h
    · rintro (h | e)
      · exact .inr h
      · exact .inl (by rw [e])
  · rw [hp.length_eq, List.length_cons, List.length_append]
    exact Nat.add_le_add_right h4 1
theorem ok_turns {f Pt Pr Ph fL fK fQ : Addr} {fd dL dK dQ : FuncData} (F : Fun K "turnings" "turnings" sTurnings f fd) (T : Nm K mg) (NL : Fn K mg "laid" fL dL ["body"]) (GL : FnOk P W0 K mg base CX0 28 fL dL ["body"] (spLaid K Pt Pr Ph))
    (NK : Fn K mg "_at_corner" fK dK ["held"]) (GK : FnOk P W0 K mg base CX0 2 fK dK ["held"] (spCorner K)) (NQ : Fn K mg "quarter" fQ dQ ["edge", "held"]) (GQ : FnOk P W0 K mg base CX0 1 fQ dQ ["edge", "held"] (spQuarter K)) :
    FnOk P W0 K mg base CX0 29 f fd ["body"] (spTurns K Pt Pr Ph) := by
  obtain ⟨aE, mE, hE⟩ := T.edges
  refine F.ok scTurns (fun vs H Q E h => ?_) (fun cdv A outer s H vs Q E hr h => ?_)
  · obtain ⟨v, b, rfl, _⟩ := h
    rfl
  · obtain ⟨v, b, rfl, hB, hg, hn, tb, q⟩ := h
    have hr1 : Room 1 _ := hr.mono (by decide)
    have hr2 : Room 2 _ := hr.mono (by decide)
    have hU : (A.deeper (envOfC "turnings" (defScope sTurnings) s.heap.objs.size f cdv)).units + 64 < cLine := by have := u65 hr; omega
    refine ⟨_, pss_cons (ps_set (i := 1) scTurns.nd rfl (.inl rfl) (pe_call GL hr (by rfl) NL.m NL.kp NL.b .nil pass0 (pa_cons (pv 0) pa_nil)))
      (pss_cons (ps_set (i := 2) scTurns.nd rfl (.inl rfl) (pe_lst (pa_cons (pe_tup (pa_cons pe_str (pa_cons (pv 1) pa_nil))) pa_nil)))
      (pss_cons (ps_set (i := 3) scTurns.nd rfl (.inl rfl) (pe_callTy0 (r := GN.rSet0N P W0) GN.cr_set0N (by rfl) T.set (by decide +kernel)))
      (pss_cons (ps_expr (show PE _ _ (GN.tAddN K P W0 _ _) from GN.pe_addN hU (pv 3) (pa_cons (pe_callTy call_tuple_of (by rfl) T.tuple (by decide +kernel) (pa_cons (pv 1) pa_nil)) pa_nil)))
      (pss_cons (ps_set (i := 4) scTurns.nd rfl (.inl rfl) pe_int)
      (pss_cons (ps_while PassesOwn.never (pt_cmpR op_lt (pv 4) (pe_callB call_len_seq (by rfl) T.len PySem.boot_len (pa_cons (pv 2) pa_nil)) (nomark _))
        (pss_cons (ps_asg (pe_ix ix_list (pv 2) (pv 4) (fun _ _ => rfl)) (pg_tup rfl (pgs_cons (pg_name (i := 5) scTurns.nd rfl (.inl rfl)) (pgs_cons (pg_name (i := 6) scTurns.nd rfl (.inl rfl)) pgs_nil))))
        (pss_cons (ps_for PassesOwn.never rfl (pi_tup (pe_glob (v := .ref aE) rfl mE rfl)) (pg_name (i := 7) scTurns.nd rfl (.inl rfl))
          (pss_cons (ps_set (i := 8) scTurns.nd rfl (.inl rfl) (pe_call GK hr2 (by rfl) NK.m NK.kp NK.b .nil pass0 (pa_cons (pe_call GQ hr1 (by rfl) NQ.m NQ.kp NQ.b .nil pass0 (pa_cons (pv 7) (pa_cons (pv 6) pa_nil))) pa_nil)))
          (pss_one (ps_if (pt_cmpR (r := GN.rInN K P W0 true) (GN.op_notInNN hU) (pe_callTy call_tuple_of (by rfl) T.tuple (by decide +kernel) (pa_cons (pv 8) pa_nil)) (pv 3) (by rfl))
            (pss_cons (ps_expr (show PE _ _ (GN.tAddN K P W0 _ _) from GN.pe_addN hU (pv 3) (pa_cons (pe_callTy call_tuple_of (by rfl) T.tuple (by decide +kernel) (pa_cons (pv 8) pa_nil)) pa_nil)))
            (pss_one (ps_expr (pe_bm PySem.F.plainAttrs_list PySem.F.slot_list_append PySem.F.type_list_append mt_append (pv 2) (pa_cons (pe_tup (pa_cons (pe_op op_add_str (pv 5) (pv 7)) (pa_cons (pv 8) pa_nil))) pa_nil))))) pss_nil))))
        (pss_one (ps_aug (i := 4) scTurns.nd rfl (.inl rfl) pe_int ip_add)))))
      (pss_one (ps_ret (pv 2)))))))), ?_⟩
    have hcn : (all b).Nodup := asc_nodup (all_asc b)
    refine ⟨_, rfl, v, b, rfl, hB, hg, hn, tb, fun H1 st zs k1 n1 h1 i1 => ?_⟩
    generalize hcs : all b = cs at *
    refine nameI (i := 1) (v := .ref st) (σ := [some v, none, none, none, none, none, none, none, none]) ?_
    refine ⟨_, rfl, (by show 2 ≤ sizeLine; decide), fun t0 ht0 => ?_⟩
    have kt0 : Kp [] H1 (upd H1 t0 (.tup [.str "", .ref st])) := Kp.new ht0
    have et0 : SqT K (upd H1 t0 (.tup [.str "", .ref st])) t0 [.str "", .ref st] := SqT.of upd_same
    generalize upd H1 t0 (.tup [.str "", .ref st]) = H2 at kt0 et0 ⊢
    refine ⟨(by show 1 ≤ sizeLine; decide), fun tl htl => ?_⟩
    have ktl : Kp [] H2 (upd H2 tl (.lst [.ref t0])) := Kp.new htl
    have etl : upd H2 tl (.lst [.ref t0]) tl = some (.lst [.ref t0]) := upd_same
    generalize upd H2 tl (.lst [.ref t0]) = H3 at ktl etl ⊢
    refine nameI (i := 2) (v := .ref tl) (σ := [some v, some (.ref st), none, none, none, none, none, none, none]) ?_
    refine ⟨rfl, fun sn hsn nc0 => ?_⟩
    have ksn : Kp [] H3 (upd H3 sn (GN.SNO P W0 sn [])) := Kp.new hsn
    have esn : upd H3 sn (GN.SNO P W0 sn []) sn = some (GN.SNO P W0 sn []) := upd_same
    have sntl : sn ≠ tl := fun z => by rw [z, etl] at hsn; cases hsn
    have snst : sn ≠ st := fun z => by
      have := (kt0.trans ktl).lst h1 List.not_mem_nil
      rw [z, this] at hsn
      cases hsn
    have fsn := (k1.trans (kt0.trans ktl)).free sn hsn
    have ftl := (k1.trans kt0).free tl htl
    generalize upd H3 sn (GN.SNO P W0 sn []) = H4 at ksn esn ⊢
    refine nameI (i := 3) (v := .ref sn) (σ := [some v, some (.ref st), some (.ref tl), none, none, none, none, none, none]) ?_
    have k14 := (kt0.trans ktl).trans ksn
    have st4 := k14.lst h1 List.not_mem_nil
    have is4 := items_mono k14 i1
    refine ⟨_, rfl, ⟨sn, [], rfl, esn⟩, _, rfl, st, zs, rfl, .inl ⟨SqL.of st4, fun l hl => ?_⟩⟩
    have kl : Kp [] H4 (upd H4 l (.tup zs)) := Kp.new hl
    have el : SqT K (upd H4 l (.tup zs)) l zs := SqT.of upd_same
    generalize upd H4 l (.tup zs) = H5 at kl el ⊢
    have esn5 : H5 sn = some (GN.SNO P W0 sn []) := kl.keep sn _ esn List.not_mem_nil fun ps z => by unfold GN.SNO at z; cases z
    have hk5 : GN.KeyN K H5 (.ref l) (kG (laidL cs)) := keyN_g (.tup el (items_mono kl is4))
    refine ⟨sn, l, kG (laidL cs), [], rfl, rfl, hk5, esn5, (fun p hp => by cases hp), .inr (by decide), fun L' _ hL' nc' => ?_⟩
    have hp' := hL' (fun z => by cases z)
    obtain ⟨kc, se⟩ := Seen.grow (T := []) (w := "") esn5 (fun p hp => by cases hp) (fun g => by simp) (Nat.le_refl _) nc0 hk5 hp' nc'
    have k15 := k1.trans (k14.trans kl)
    have k06 := k15.off fsn kc
    have etl5 := (ksn.trans kl).lst etl List.not_mem_nil
    have etl6 := kc.lst etl5 (fun m => sntl (List.mem_singleton.mp m).symm)
    have et06 := kc.sqT ((ktl.trans (ksn.trans kl)).sqT et0)
    have est6 := kc.lst (kl.lst st4 List.not_mem_nil) (fun m => snst (List.mem_singleton.mp m).symm)
    have ist6 := items_mono kc (items_mono kl is4)
    have sttl : st ≠ tl := fun z => by
      have := kt0.lst h1 List.not_mem_nil
      rw [z, htl] at this
      cases this
    generalize upd H5 sn (GN.SNO P W0 sn L') = H6 at kc se k06 etl6 et06 est6 ist6 ⊢
    have hrow : TRows K H6 (fun b => H b = none ∧ b ≠ tl ∧ b ≠ sn) [.ref t0] [("", laidL cs)] := .cons ⟨t0, st, zs, rfl, et06, est6, ist6, n1, sttl, fun z => snst z.symm⟩ .nil
    refine asgC ?_
    refine seqW ?_
    refine while_m (fun m σ H7 => Kp [] H H7 ∧ ∃ (ys : List V) (T : List (Str × List C3)) (k : Nat) (o5 o6 o7 o8 : Option V), σ = [some v, some (.ref st), some (.ref tl), some (.ref sn), some (.int (k : Int)), o5, o6, o7, o8] ∧ H7 tl = some (.lst ys) ∧ TRows K H7 (fun b => H b = none ∧ b ≠ tl ∧ b ≠ sn) ys T ∧ Seen K P W0 H7 sn T ∧
        Fw.At qE extW Es3 ("" : Str) (laidL cs) T k ∧ k ≤ T.length ∧ m + k = 24)
      ⟨24, k06, _, _, 0, none, none, none, none, rfl, etl6, hrow, se, Fw.At.init, Nat.zero_le _, rfl⟩ (fun m σ H7 pv => ?st) ?mon
    case mon =>
      exact fun σ H Q Q' kq ⟨x, e, y, e2, p, zs, e3, hs, a, c, h1, h2, d, h3, h⟩ => ⟨x, e, y, e2, p, zs, e3, hs, a, c, h1, h2, d, h3, kq _ _ h⟩
    case st =>
      obtain ⟨k7, ys, T1, k, o5, o6, o7, o8, rfl, ht7, hr7, hs7, hat, hkl, hmk⟩ := pv
      have yl := paired_len hr7
      obtain ⟨nF, hpre⟩ := hat.grow
      have hT24 : T1.length ≤ 24 := Nat.le_trans hpre.length_le (F_24 hcn nF)
      refine ⟨_, rfl, _, rfl, tl, ys, rfl, .inl (SqL.of ht7), _, _, rfl, rfl, _, rfl, ?_⟩
      by_cases hlt : k < T1.length
      case neg =>
        refine itD0 (by omega) ?_
        obtain ⟨n, e1, e2⟩ := hat.fin hlt
        refine ⟨_, rfl, ?_⟩
        refine q H7 tl ys k7 ftl ht7 ?_
        have e3 : T1 = turnsL cs := e1.trans (F_all hcn e2)
        rw [← e3]
        exact hr7.imp fun b g => ⟨g.1, g.2.1⟩
      case pos =>
        refine itD1 (by omega) ?_
        obtain ⟨⟨w, S⟩, hp1, hat2⟩ := hat.more hlt
        obtain ⟨t, ha, zs7, ey, htp, hha, hit, hga⟩ := tr_get hr7 hp1
        have hmem : (w, S) ∈ FT cs nF := hpre.subset (List.mem_of_getElem? hp1)
        have hw4 : w.length ≤ 4 := F_len4 hcn hmem
        obtain ⟨mr, hmr, eS1⟩ := F_rot hcn (List.mem_map.mpr ⟨_, hmem, rfl⟩)
        have eS1 : S = rotL cs mr := eS1
        have hSn : S.Nodup := by rw [eS1]; exact laid_nodup (rot_nodup hcn hmr)
        have hS64 : S.length ≤ 64 := by rw [eS1, rotL_len, ← hcs]; exact all_len b
        refine ⟨_, rfl, _, rfl, tl, ys, (k : Int), .ref t, rfl, rfl, SqL.of ht7, atI_nat ey, ?_⟩
        refine ⟨t, _, rfl, htp, rfl, _, _, rfl, _, _, rfl, rfl, ?_⟩
        refine ⟨aE, rfl, ⟨_, hE _⟩, for_tup (K := K) (a := aE) (xs := [.str "x", .str "y", .str "z"]) (fun i σ H8 => Kp [] H H8 ∧ ∃ (ys8 : List V) (T8 : List (Str × List C3)) (o7 o8 : Option V), σ = [some v, some (.ref st), some (.ref tl), some (.ref sn), some (.int (k : Int)), some (.str w), some (.ref ha), o7, o8] ∧ H8 tl = some (.lst ys8) ∧
            TRows K H8 (fun b => H b = none ∧ b ≠ tl ∧ b ≠ sn) ys8 T8 ∧ Seen K P W0 H8 sn T8 ∧ T8 = ((Fw.kids qE extW Es3 (w, S)).take i).foldl Fw.addT T1 ∧ H8 ha = some (.lst zs7) ∧ Items K H8 zs7 S)
          ⟨k7, ys, T1, o7, o8, rfl, ht7, hr7, hs7, rfl, hha, hit⟩ (fun i σ H8 _ _ => hE _) (fun i x σ H8 hx pv => ?fs) (fun σ H8 pv => ?fe)⟩
        case fe =>
          obtain ⟨k8, ys8, T8, o7', o8', rfl, ht8, hr8, hs8, eT8, _, _⟩ := pv
          have eK : (Fw.kids qE extW Es3 (w, S)).take ([.str "x", .str "y", .str "z"] : List V).length = Fw.kids qE extW Es3 (w, S) := List.take_of_length_le (by show 3 ≤ 3; exact Nat.le_refl _)
          rw [eK] at eT8
          rw [← eT8] at hat2
          obtain ⟨S', hS'⟩ := Fw.fold_pre (V := Fw.kids qE extW Es3 (w, S)) (T := T1)
          rw [← eT8] at hS'
          have hl8 : T1.length ≤ T8.length := by rw [hS', List.length_append]; omega
          exact ⟨_, rfl, _, _, rfl, rfl, m - 1, by omega, k8, ys8, T8, k + 1, _, _, _, _, rfl, ht8, hr8, hs8, hat2, by omega, by omega⟩
        case fs =>
          obtain ⟨e, rfl, hEe, hturn⟩ := edge_at hx
          obtain ⟨k8, ys8, T8, o7', o8', rfl, ht8, hr8, hs8, eT8, hha8, hit8⟩ := pv
          have hi3 : i < 3 := by
            rcases Nat.lt_or_ge i 3 with z | z
            · exact z
            · rw [List.getElem?_eq_none (by simpa using z)] at hEe
              cases hEe
          have eN : ((Fw.kids qE extW Es3 (w, S)).take (i + 1)).foldl Fw.addT T1 = Fw.addT T8 (extW w e, qE e S) := by
            have hg : (Fw.kids qE extW Es3 (w, S))[i]? = some (extW w e, qE e S) := by
              unfold Fw.kids
              rw [List.getElem?_map, hEe]
              rfl
            rw [List.take_add_one, hg, List.foldl_append, ← eT8]
            rfl
          have l8 : T8.length ≤ 27 := by
            rw [eT8]
            refine Nat.le_trans addT_len ?_
            rw [List.length_take]
            omega
          have yl8 := paired_len hr8
          refine ⟨_, rfl, _, rfl, eS e, tE e, .ref ha, S, rfl, hturn, cellsL_of hha8 hit8, hS64, fun H9 p9 ys9 ds k9 n9 h9 i9 pm so => ⟨.ref p9, ds, rfl, cellsL_of h9 i9, by rw [pm.length_eq, List.length_map]; exact hS64, fun H10 p10 ys10 k10 n10 h10 i10 => ?_⟩⟩
          rw [found_is hSn pm so] at i10
          have k810 := k9.trans k10
          have f10 := (k8.trans k9).free p10 n10
          have ptl : p10 ≠ tl := fun z => by rw [z, k9.lst ht8 List.not_mem_nil] at n10; cases n10
          have ht10 := k810.lst ht8 List.not_mem_nil
          have hr10 := hr8.mono k810 (fun _ _ => List.not_mem_nil)
          have hs10 := hs8.mono k810 List.not_mem_nil
          have hha10 := k810.lst hha8 List.not_mem_nil
          have hit10 := items_mono k810 hit8
          have psn : p10 ≠ sn := fun z => by
            obtain ⟨L, hL, _⟩ := hs8.mono k9 List.not_mem_nil
            rw [z, hL] at n10
            cases n10
          refine nameI (i := 8) (v := .ref p10) (σ := [some v, some (.ref st), some (.ref tl), some (.ref sn), some (.int (k : Int)), some (.str w), some (.ref ha), some (.str (eS e)), o8']) ?_
          refine ⟨_, rfl, p10, ys10, rfl, .inl ⟨SqL.of h10, fun l hl => ?_⟩⟩
          have k11 : Kp [] H10 (upd H10 l (.tup ys10)) := Kp.new hl
          have e11 : SqT K (upd H10 l (.tup ys10)) l ys10 := SqT.of upd_same
          generalize upd H10 l (.tup ys10) = H11 at k11 e11 ⊢
          have hk11 : GN.KeyN K H11 (.ref l) (kG (qE e S)) := keyN_g (.tup e11 (items_mono k11 i10))
          have hs11 := hs10.mono k11 List.not_mem_nil
          obtain ⟨L, hL, hLk, hLi, hLl, hLc⟩ := hs11.ex
          refine ⟨_, rfl, kG (qE e S), sn, L, rfl, hk11, hL, hLk, _, rfl, ?_⟩
          by_cases hin : qE e S ∈ Fw.sts T8
          · refine iteF' (by rw [if_pos rfl, decide_eq_true ((hLi _).mpr hin)]; rfl) ?_
            have eA : Fw.addT T8 (extW w e, qE e S) = T8 := if_pos hin
            exact ⟨k8.trans (k810.trans k11), ys8, T8, _, _, rfl, k11.lst ht10 List.not_mem_nil, hr10.mono k11 (fun _ _ => List.not_mem_nil), hs11, (eN.trans eA).symm, k11.lst hha10 List.not_mem_nil, items_mono k11 hit10⟩
          · refine iteT' (by rw [if_pos rfl, decide_eq_false (fun z => hin ((hLi _).mp z))]; rfl) ?_
            have eA : Fw.addT T8 (extW w e, qE e S) = T8 ++ [(extW w e, qE e S)] := if_neg hin
            have h11 := k11.lst h10 List.not_mem_nil
            refine ⟨_, rfl, ⟨sn, L, rfl, hL⟩, _, rfl, p10, ys10, rfl, .inl ⟨SqL.of h11, fun l2 hl2 => ?_⟩⟩
            have k12 : Kp [] H11 (upd H11 l2 (.tup ys10)) := Kp.new hl2
            have e12 : SqT K (upd H11 l2 (.tup ys10)) l2 ys10 := SqT.of upd_same
            generalize upd H11 l2 (.tup ys10) = H12 at k12 e12 ⊢
            have k1012 := k11.trans k12
            have hk12 : GN.KeyN K H12 (.ref l2) (kG (qE e S)) := keyN_g (.tup e12 (items_mono k1012 i10))
            have hL12 : H12 sn = some (GN.SNO P W0 sn L) := k12.keep sn _ hL List.not_mem_nil fun ps z => by unfold GN.SNO at z; cases z
            have hLk12 : ∀ p ∈ L, GN.KeyN K H12 (.ref p.1) p.2 := fun p hp => keyN_mono k12 (hLk p hp) (noL_key _)
            refine ⟨sn, l2, kG (qE e S), L, rfl, rfl, hk12, hL12, hLk12, .inr (by omega), fun L' _ hL' nc' => ?_⟩
            obtain ⟨kc, se⟩ := Seen.grow (T := T8) (w := extW w e) hL12 hLk12 hLi hLl hLc hk12 (hL' fun z => hin ((hLi _).mp z)) nc'
            have k812 := k8.trans (k810.trans k1012)
            have k013 := k812.off fsn kc
            have gT : ∀ b, (H b = none ∧ b ≠ tl ∧ b ≠ sn) → b ∉ [sn] := fun b z m => z.2.2 (List.mem_singleton.mp m)
            have hr13 := (hr10.mono k1012 (fun _ _ => List.not_mem_nil)).mono kc gT
            have h13 := kc.lst (k1012.lst h10 List.not_mem_nil) (fun m => psn (List.mem_singleton.mp m))
            have i13 := items_mono kc (items_mono k1012 i10)
            have ht13 := kc.lst (k1012.lst ht10 List.not_mem_nil) (fun m => sntl (List.mem_singleton.mp m).symm)
            have hha13 := kc.lst (k1012.lst hha10 List.not_mem_nil) (gT _ hga)
            have hit13 := items_mono kc (items_mono k1012 hit10)
            generalize upd H12 sn (GN.SNO P W0 sn L') = H13 at kc se k013 hr13 h13 i13 ht13 hha13 hit13 ⊢
            refine ⟨_, rfl, .inl ⟨rfl, _, SqL.of ht13⟩, _, rfl, _, rfl, w, eS e, rfl, rfl, (by rw [eS_len]; exact Nat.le_trans (Nat.add_le_add_right hw4 1) (by decide)), _, rfl, (by show 2 ≤ sizeLine; decide), fun t14 ht14 => ?_⟩
            have k14' : Kp [] H13 (upd H13 t14 (.tup [.str (w ++ eS e), .ref p10])) := Kp.new ht14
            have e14 : SqT K (upd H13 t14 (.tup [.str (w ++ eS e), .ref p10])) t14 [.str (w ++ eS e), .ref p10] := SqT.of upd_same
            generalize upd H13 t14 (.tup [.str (w ++ eS e), .ref p10]) = H14 at k14' e14 ⊢
            have ht14' := k14'.lst ht13 List.not_mem_nil
            have kd : Kp [tl] H14 (upd H14 tl (.lst (ys8 ++ [.ref t14]))) := Kp.chg ht14' (List.mem_singleton.mpr rfl)
            have gL : ∀ b, (H b = none ∧ b ≠ tl ∧ b ≠ sn) → b ∉ [tl] := fun b z m => z.2.1 (List.mem_singleton.mp m)
            refine ⟨tl, ys8, _, rfl, rfl, ht14', small_size (by omega), (k013.trans k14').chg0 ftl ht14', ys8 ++ [.ref t14], T8 ++ [(extW w e, qE e S)], _, _, rfl, upd_same, ?_, (se.mono k14' List.not_mem_nil).mono kd (fun m => sntl (List.mem_singleton.mp m)), (eN.trans eA).symm, kd.lst (k14'.lst hha13 List.not_mem_nil) (gL _ hga), items_mono kd (items_mono k14' hit13)⟩
            exact tr_append ((hr13.mono k14' (fun _ _ => List.not_mem_nil)).mono kd gL) (.cons ⟨t14, p10, ys10, rfl, kd.sqT e14, kd.lst (k14'.lst h13 List.not_mem_nil) (fun m => ptl (List.mem_singleton.mp m)), items_mono kd (items_mono k14' i13), f10, ptl, psn⟩ .nil)
end
end LP
end

section
set_option Elab.async false
set_option linter.all false
set_option maxRecDepth 100000
set_option maxHeartbeats 4000000
/-! alike -/
namespace LP
open PySem PySem.Spec PyProof.Rows L2 Ly GY
theorem eqvC (a b : C3) : PyData.eqv (cD a) (cD b) = decide (a = b) := by
  obtain ⟨a1, a2, a3⟩ := a
  obtain ⟨b1, b2, b3⟩ := b
  unfold cD
  by_cases e1 : a1 = b1 <;> by_cases e2 : a2 = b2 <;> by_cases e3 : a3 = b3 <;> simp [PyData.eqv, PyData.eqvAll, e1, e2, e3]
theorem eqvCs : ∀ a b : List C3, PyData.eqvAll (a.map cD) (b.map cD) = decide (a = b)
  | [], [] => by simp [PyData.eqvAll]
  | [], _ :: _ => by simp [PyData.eqvAll]
  | _ :: _, [] => by simp [PyData.eqvAll]
  | x :: a, y :: b => by
    have ih := eqvCs a b
    rw [List.map_cons, List.map_cons]
    unfold PyData.eqvAll
    rw [ih, eqvC]
    by_cases e : x = y <;> by_cases e2 : a = b <;> simp [e, e2]
theorem eqvL (a b : List C3) : PyData.eqv (.list (a.map cD)) (.list (b.map cD)) = decide (a = b) := by
  rw [← eqvCs]
  unfold PyData.eqv
  rfl
section
variable [LamTab] {P : Program} {W0 : World} {K : PySem.W.Frag} {mg : Str → Option Value} {base : Heap}
/-- the first word of a state -/
def wordV : List (Str × List C3) → List C3 → V
  | [], _ => .non
  | r :: T, g => if r.2 = g then .str r.1 else wordV T g
theorem wordV_at {g : List C3} {r : Str × List C3} : ∀ {T : List (Str × List C3)} {i : Nat}, (∀ p ∈ T.take i, p.2 ≠ g) → T[i]? = some r → r.2 = g → wordV T g = .str r.1
  | p :: T, 0, _, e, h => by
    rw [show p = r from Option.some.inj e]
    exact if_pos h
  | p :: T, i + 1, h0, e, h => by
    have : p.2 ≠ g := h0 p List.mem_cons_self
    show (if p.2 = g then _ else wordV T g) = _
    rw [if_neg this]
    exact wordV_at (i := i) (fun q hq => h0 q (List.mem_cons_of_mem _ hq)) e h
  | [], _, _, e, _ => by simp at e
theorem wordV_no {g : List C3} : ∀ {T : List (Str × List C3)}, (∀ p ∈ T, p.2 ≠ g) → wordV T g = .non
  | [], _ => rfl
  | p :: T, h => by
    show (if p.2 = g then _ else wordV T g) = _
    rw [if_neg (h p List.mem_cons_self)]
    exact wordV_no fun q hq => h q (List.mem_cons_of_mem _ hq)
def spAlikeT (K : PySem.W.Frag) (Pt Pr Ph : Addr) : Sp := fun vs H Q _ => ∃ (v u : V) (b b' : Bd), vs = [v, u] ∧ Body K H v b ∧ Good b ∧ nb b ≤ 20 ∧ Body K H u b' ∧ Good b' ∧ nb b' ≤ 20 ∧ Tb H Pt Pr Ph ∧
  ∀ (H' : Hp), Kp [] H H' → Q (wordV (turnsL (all b)) (laidL (all b'))) H'
abbrev nAlikeT : List Str := ["one", "other", "found", "sought", "word", "held"]
theorem scAlikeT : FnScope nAlikeT ["one", "other"] (defScope sAlikeT) := ⟨rfl, rfl, rfl, by decide +kernel, rfl, by decide +kernel, by decide +kernel⟩
theorem laid_len (b : Bd) : (laidL (all b)).length ≤ 64 := by
  rw [(laid_perm _).length_eq]
  unfold corner
  rw [List.length_map]
  exact all_len b
theorem ok_alikeT {f Pt Pr Ph fL fT : Addr} {fd dL dT : FuncData} (F : Fun K "alike" "alike" sAlikeT f fd) (NL : Fn K mg "laid" fL dL ["body"]) (GL : FnOk P W0 K mg base CX0 28 fL dL ["body"] (spLaid K Pt Pr Ph))
    (NT : Fn K mg "turnings" fT dT ["body"]) (GT : FnOk P W0 K mg base CX0 29 fT dT ["body"] (spTurns K Pt Pr Ph)) : FnOk P W0 K mg base CX0 30 f fd ["one", "other"] (spAlikeT K Pt Pr Ph) := by
  refine F.ok scAlikeT (fun vs H Q E h => ?_) (fun cdv A outer s H vs Q E hr h => ?_)
  · obtain ⟨v, u, b, b', rfl, _⟩ := h
    rfl
  · obtain ⟨v, u, b, b', rfl, hB, hg, hn, hB', hg', hn', tb, q⟩ := h
    have hr28 : Room 28 _ := hr.mono (by decide)
    refine ⟨_, pss_cons (ps_set (i := 2) scAlikeT.nd rfl (.inl rfl) (pe_call GT hr (by rfl) NT.m NT.kp NT.b .nil pass0 (pa_cons (pv 0) pa_nil)))
      (pss_cons (ps_set (i := 3) scAlikeT.nd rfl (.inl rfl) (pe_call GL hr28 (by rfl) NL.m NL.kp NL.b .nil pass0 (pa_cons (pv 1) pa_nil)))
      (pss_cons (ps_for PassesOwn.never rfl (pi_list (pv 2)) (pg_tup rfl (pgs_cons (pg_name (i := 4) scAlikeT.nd rfl (.inl rfl)) (pgs_cons (pg_name (i := 5) scAlikeT.nd rfl (.inl rfl)) pgs_nil)))
        (pss_one (ps_if (pt_cmpR (op_eqD hr.units) (pv 5) (pv 3) (nomark _)) (pss_one (ps_ret (pv 4))) pss_nil)))
      (pss_one (ps_ret pe_non)))), ?_⟩
    refine ⟨_, rfl, v, b, rfl, hB, hg, hn, tb, fun H1 r ys k1 n1 h1 t1 => ?_⟩
    refine nameI (i := 2) (v := .ref r) (σ := [some v, some u, none, none, none, none]) ?_
    refine ⟨_, rfl, u, b', rfl, body_mono k1 hB', hg', hn', tb.mono k1, fun H2 p zs k2 n2 h2 i2 => ?_⟩
    refine nameI (i := 3) (v := .ref p) (σ := [some v, some u, some (.ref r), none, none, none]) ?_
    have h12 := k2.lst h1 List.not_mem_nil
    have t2 := t1.mono k2 (fun _ _ => List.not_mem_nil)
    have hcn : (all b).Nodup := asc_nodup (all_asc b)
    refine ⟨_, rfl, r, rfl, ⟨_, SqL.of h12⟩, for_list (K := K) (a := r) (xs := ys) (fun i σ H' => Kp [] H2 H' ∧ (∀ q ∈ (turnsL (all b)).take i, q.2 ≠ laidL (all b')) ∧ ∃ (o4 o5 : Option V), σ = [some v, some u, some (.ref r), some (.ref p), o4, o5])
      ⟨Kp.refl _ _, fun q hq => (by simp at hq), none, none, rfl⟩ (fun i σ H' _ pv => pv.1.sqL (SqL.of h12) List.not_mem_nil) (fun i x σ H' hx pv => ?st) (fun σ H' pv => ?en)⟩
    case en =>
      obtain ⟨k3, hno, o4, o5, rfl⟩ := pv
      rw [paired_len t2, List.take_length] at hno
      have e := wordV_no hno
      have := q H' ((k1.trans k2).trans k3)
      rw [e] at this
      exact this
    case st =>
      obtain ⟨k3, hno, o4, o5, rfl⟩ := pv
      obtain ⟨⟨w, S⟩, hp1, _⟩ := paired_fst t2 hx
      obtain ⟨t, ha, zs7, ey, htp, hha, hit, hga⟩ := tr_get (t2.mono k3 (fun _ _ => List.not_mem_nil)) hp1
      have ex : x = .ref t := by
        rw [hx] at ey
        exact Option.some.inj ey
      subst ex
      have hmem : (w, S) ∈ FT (all b) 4 := List.mem_of_getElem? hp1
      obtain ⟨mr, hmr, eS1⟩ := F_rot hcn (List.mem_map.mpr ⟨_, hmem, rfl⟩)
      have eS1 : S = rotL (all b) mr := eS1
      refine ⟨t, _, rfl, htp, rfl, _, _, rfl, _, _, rfl, rfl, ?_⟩
      refine ⟨_, rfl, _, rfl, .list (S.map cD), .list ((laidL (all b')).map cD), cellsL_of hha hit, cellsL_of (k3.lst h2 List.not_mem_nil) (items_mono k3 i2), cDs_shapedL _, cDs_shapedL _, _, rfl, ?_⟩
      rw [eqvL]
      by_cases hS : S = laidL (all b')
      · refine itD1 hS ?_
        have e := wordV_at (i := i) hno hp1 hS
        have := q H' ((k1.trans k2).trans k3)
        rw [e] at this
        exact ⟨_, rfl, this⟩
      · refine itD0 hS ⟨k3, fun q hq => ?_, _, _, rfl⟩
        rw [take_next hp1] at hq
        rcases List.mem_append.mp hq with z | z
        · exact hno q z
        · rw [List.mem_singleton.mp z]
          exact hS
end
end LP
end

section
/-! places of more defs of the laws -/
namespace LP
open PySem PySem.Spec PyProof.Rows L2
-- _law_rows: not in this statement
-- _law_turned: not in this statement
-- _law_due: not in this statement
-- _law_is_held: not in this statement
-- _law_are_rows: not in this statement
-- _law_layer: not in this statement
-- _law_hung: not in this statement
-- _law_near: not in this statement
-- _law_shown: not in this statement
-- _law_paper: not in this statement
-- _law_copied: not in this statement
abbrev lLaid : Stmt := top 35
abbrev lQuarter : Stmt := top 36
abbrev lEvery : Stmt := top 37
abbrev lFirsts : Stmt := top 38
-- _law_goals: not in this statement
-- _law_chain: not in this statement
-- _law_groups: not in this statement
-- _law_least: not in this statement
-- _law_fewest: not in this statement
-- _law_are_papers: not in this statement
-- _law_is_row: not in this statement
end LP
end

section
set_option Elab.async false
set_option linter.all false
set_option maxRecDepth 100000
set_option maxHeartbeats 4000000
/-! _law_laid -/
namespace LP
open PySem PySem.Spec PyProof.Rows L2 Ly GY
section
variable [LamTab] {P : Program} {W0 : World} {K : PySem.W.Frag} {mg : Str → Option Value} {base : Heap}
def spLLaid (K : PySem.W.Frag) : Sp := fun vs H Q _ => ∃ (v : V) (cs : List C3), vs = [v] ∧ CellsL K H v cs ∧ cs.length ≤ 64 ∧ cs.Nodup ∧ ∀ (H' : Hp) (p : Addr) (ys : List V), Kp [] H H' → H p = none → H' p = some (.lst ys) → Items K H' ys (laidL cs) → Q (.ref p) H'
def lsScope : Scope := { kind := .function, names := [(".0", .local), ("_law_k", .cell), ("min", .globalImplicit), ("_law_some", .cell)], isGenerator := false, isCoroutine := false }
abbrev nLLaid : List Str := ["_law_some", "_law_least", "_law_k", "_law_cell"]
theorem scLLaid : FnScope nLLaid ["_law_some"] (defScope lLaid) := ⟨rfl, rfl, rfl, by decide +kernel, rfl, by decide +kernel, by decide +kernel⟩
theorem lo_low {f : C3 → Int} {cs : List C3} {m : Int} (h : LowP (cs.map f) 0 m) : lo f cs = m := by
  rcases h with ⟨h1, h2⟩ | ⟨h1, h2⟩
  · rw [List.map_eq_nil_iff.mp h1, h2]
    rfl
  · exact lo_is (List.mem_map.mp h1) fun c hc => h2 _ (List.mem_map.mpr ⟨c, hc, rfl⟩)
def leasts (cs : List C3) : List Int := [lox cs, loy cs, loz cs]
theorem leasts_at (cs : List C3) (i : Nat) (h : i < 3) : (leasts cs)[i]? = some (lo (comp i) cs) := by
  rcases (show i = 0 ∨ i = 1 ∨ i = 2 by omega) with rfl | rfl | rfl <;> rfl
theorem ok_llaid {f : Addr} {fd : FuncData} (F : Fun K "_law_laid" "_law_laid" lLaid f fd) (T : Nm K mg) (U : Nl K mg) : FnOk P W0 K mg base CX0 1 f fd ["_law_some"] (spLLaid K) := by
  refine F.ok scLLaid (fun vs H Q E h => ?_) (fun cdv A outer s H vs Q E hr h => ?_)
  · obtain ⟨v, cs, rfl, _⟩ := h
    rfl
  · obtain ⟨v, cs, rfl, hv, h64, hnd, q⟩ := h
    refine ⟨_, pss_cons (ps_set (i := 1) scLLaid.nd rfl (.inr rfl) (pe_lc (own := [("_law_k", 2)]) (g := gName 2) rfl scLLaid.nd (pi_range1 (by rfl) T.range (pa_cons pe_int pa_nil)) (blkOk_by (own := [("_law_k", 2)]) (N := nLLaid) (sc := defScope lLaid) (by decide +kernel))
        (fun _ _ _ _ _ => pg_name (i := 2) scLLaid.nd rfl (.inr rfl)) (fun _ _ _ _ _ => pts_nil) (fun _ _ _ _ _ => pe_callBK (r := GW.rMinD K) (GW.cr_minD rfl hr.units) (by rfl) U.min (by decide +kernel) (pa_cons
          (pe_lc (wi := iList K (tVar 0)) (own := [("_law_cell", 3)]) (g := gName 3) rfl scLLaid.nd (pi_list (pv 0)) (blkOk_by (own := [("_law_cell", 3)]) (N := nLLaid) (sc := lsScope) (by decide +kernel)) (fun _ _ _ _ _ => pg_name (i := 3) scLLaid.nd rfl (.inl rfl)) (fun _ _ _ _ _ => pts_nil) (fun _ _ _ _ _ => pe_ix (r := rIxT K) ix_tup (pv 3) (pv 2) (fun _ _ => rfl))) pa_nil)
          (pk_cons pe_int pk_nil))))
      (pss_one (ps_ret (pe_callB (cr_sortC hr.units) (by rfl) T.sorted (by decide +kernel) (pa_cons
        (pe_lc (own := [("_law_cell", 3)]) (g := gName 3) rfl scLLaid.nd (pi_list (pv 0)) (blkOk_by (own := [("_law_cell", 3)]) (N := nLLaid) (sc := defScope lLaid) (by decide +kernel)) (fun _ _ _ _ _ => pg_name (i := 3) scLLaid.nd rfl (.inl rfl)) (fun _ _ _ _ _ => pts_nil)
          (fun _ _ _ _ _ => pe_tup (pa_cons (pe_op op_sub (pe_ix (r := rIxT K) ix_tup (pv 3) pe_int (fun _ _ => rfl)) (pe_ix (r := rIxL K) ix_list (pv 1) pe_int (fun _ _ => rfl)))
            (pa_cons (pe_op op_sub (pe_ix (r := rIxT K) ix_tup (pv 3) pe_int (fun _ _ => rfl)) (pe_ix (r := rIxL K) ix_list (pv 1) pe_int (fun _ _ => rfl)))
            (pa_cons (pe_op op_sub (pe_ix (r := rIxT K) ix_tup (pv 3) pe_int (fun _ _ => rfl)) (pe_ix (r := rIxL K) ix_list (pv 1) pe_int (fun _ _ => rfl))) pa_nil))))) pa_nil)))), ?_⟩
    obtain ⟨a, xs, rfl, hT, hI⟩ := of_cellsL hv
    have hz : cs.length ≤ sizeLine := Nat.le_trans h64 (by decide)
    refine ⟨3, rfl, by decide, by decide, fun R hR => lc_range (lo := 0) (n := 3) (fun i H' => Kp [] H H' ∧ H' R = some (.lst (((leasts cs).take i).map V.int))) ⟨Kp.new hR, upd_same⟩ (fun i H1 hi pv => ?_) (fun H1 pv => ?_)⟩
    · obtain ⟨k1, hRl⟩ := pv
      refine ⟨rfl, yesI ?_⟩
      have hT1 := k1.sqL hT List.not_mem_nil
      have hI1 := items_mono k1 hI
      refine ⟨_, rfl, a, rfl, ⟨_, hT1⟩, fun D hD => lc_dataL (K := K) cs cD (fun _ => true) (fun c => .int (comp i c)) noL_c (fun _ _ => rfl) hD hT1 hI1 (by omega) (fun c x H' Nx Z _ k hx nx _ => ?_) (fun H' ys k hy hd => ?_)⟩
      · obtain ⟨p, rfl, hp⟩ := of_dp_c hx
        refine ⟨rfl, yesI ?_⟩
        exact ⟨_, rfl, _, rfl, p, _, _, _, rfl, rfl, hp, comp_at hi c, nx _ _ (Kp.refl _ _) rfl (.int _)⟩
      · have e : (cs.filter fun _ => true).map (fun c : C3 => PyData.int (comp i c)) = (cs.map (comp i)).map PyData.int := by
          rw [List.filter_eq_self.mpr fun _ _ => rfl, List.map_map]
          rfl
        rw [e] at hd
        have e2 := dps_ints hd
        subst e2
        dsimp only [tNil, tCons, tC]
        refine minR (SqL.of hy) fun m hm => ?_
        have em := lo_low hm
        have k12 := k1.trans k
        refine ⟨_, k.lst hRl List.not_mem_nil, small_size (by rw [List.length_map, List.length_take]; omega), k12.chg0 hR (k.lst hRl List.not_mem_nil), ?_⟩
        rw [upd_same, List.take_add_one, leasts_at cs i hi, em, List.map_append]
        rfl
    · obtain ⟨k1, hRl⟩ := pv
      have e3 : (leasts cs).take 3 = leasts cs := rfl
      rw [e3] at hRl
      refine nameI (i := 1) (v := .ref R) (σ := [some (.ref a), none, none, none]) ?_
      have hT1 := k1.sqL hT List.not_mem_nil
      have hI1 := items_mono k1 hI
      refine ⟨_, rfl, a, rfl, ⟨_, hT1⟩, fun D hD => lc_map (K := K) (add3 (off cs)) (Kp.refl _ _) hD hT1 hI1 h64 (fun c p H' Nx Z k hp nx => ?_) (fun H' ys k hy hi => ?_)⟩
      · have hR2 := SqL.of (K := K) (k.lst hRl List.not_mem_nil)
        refine ⟨rfl, yesI ?_⟩
        refine ⟨_, rfl, p, _, 0, _, rfl, rfl, hp, rfl, _, rfl, R, _, 0, _, rfl, rfl, hR2, rfl, _, _, rfl, rfl, ?_⟩
        refine ⟨_, rfl, p, _, 1, _, rfl, rfl, hp, rfl, _, rfl, R, _, 1, _, rfl, rfl, hR2, rfl, _, _, rfl, rfl, ?_⟩
        refine ⟨_, rfl, p, _, 2, _, rfl, rfl, hp, rfl, _, rfl, R, _, 2, _, rfl, rfl, hR2, rfl, _, _, rfl, rfl, (by show 3 ≤ sizeLine; decide), fun t ht => ?_⟩
        exact nx t _ (Kp.new ht) (SqT.of upd_same)
      · refine ⟨.ref D, cs.map (add3 (off cs)), rfl, cellsL_of hy hi, (by rw [List.length_map]; exact hz), fun zs ds p hp hs hit hn => ?_⟩
        have kn : Kp [] H' (upd H' p (.lst zs)) := Kp.new hn
        have hnd2 : ds.Nodup := hp.symm.nodup_iff.mp (corner_nodup hnd)
        have ed : ds = laidL cs := laid_is hnd (asc_of hs hnd2) hp
        subst ed
        exact q _ p zs ((k1.trans k).trans kn) ((k1.trans k).free p hn) upd_same (items_mono kn hit)
end
end LP
end

section
set_option Elab.async false
set_option linter.all false
set_option maxRecDepth 100000
set_option maxHeartbeats 4000000
/-! _law_quarter -/
namespace LP
open PySem PySem.Spec PyProof.Rows L2 Ly GY
section
variable [LamTab] {P : Program} {W0 : World} {K : PySem.W.Frag} {mg : Str → Option Value} {base : Heap}
def spLQuart (K : PySem.W.Frag) : Sp := fun vs H Q _ => ∃ (e : Fin 3) (v : V) (c : C3), vs = [.str (eS e), v] ∧ Dp K H v (cD c) ∧ ∀ (H' : Hp) (p : Addr), Kp [] H H' → SqT K H' p [.int (tE e c).1, .int (tE e c).2.1, .int (tE e c).2.2] → Q (.ref p) H'
abbrev nLQuart : List Str := ["_law_edge", "_law_cell", "_law_x", "_law_y", "_law_z"]
theorem scLQuart : FnScope nLQuart ["_law_edge", "_law_cell"] (defScope lQuarter) := ⟨rfl, rfl, rfl, by decide +kernel, rfl, by decide +kernel, by decide +kernel⟩
theorem ok_lquart {f : Addr} {fd : FuncData} (F : Fun K "_law_quarter" "_law_quarter" lQuarter f fd) : FnOk P W0 K mg base CX0 1 f fd ["_law_edge", "_law_cell"] (spLQuart K) := by
  refine F.ok scLQuart (fun vs H Q E h => ?_) (fun cdv A outer s H vs Q E hr h => ?_)
  · obtain ⟨e, v, c, rfl, _⟩ := h
    rfl
  · obtain ⟨e, v, c, rfl, hv, q⟩ := h
    have hu := hu_of hr
    refine ⟨_, pss_cons (ps_asg (pv 1) (pg_tup rfl (pgs_cons (pg_name (i := 2) scLQuart.nd rfl (.inl rfl)) (pgs_cons (pg_name (i := 3) scLQuart.nd rfl (.inl rfl)) (pgs_cons (pg_name (i := 4) scLQuart.nd rfl (.inl rfl)) pgs_nil)))))
      (pss_one (ps_ret (pe_dget hu (pe_disp (pps_cons pe_str (pe_tup (pa_cons (pv 2) (pa_cons (pe_op op_sub pe_int (pv 4)) (pa_cons (pv 3) pa_nil)))) (pps_cons pe_str (pe_tup (pa_cons (pv 4) (pa_cons (pv 3) (pa_cons (pe_op op_sub pe_int (pv 2)) pa_nil)))) (pps_cons pe_str (pe_tup (pa_cons (pe_op op_sub pe_int (pv 3)) (pa_cons (pv 2) (pa_cons (pv 4) pa_nil)))) pps_nil))) (by rfl) (by rfl) (fun z => by cases z) (by decide)) (pv 0) (fun _ _ => rfl)))), ?_⟩
    obtain ⟨p, rfl, hT⟩ := of_dp_c hv
    refine ⟨_, rfl, p, _, rfl, hT, rfl, _, _, rfl, _, _, rfl, _, _, rfl, rfl, ?_⟩
    intro dd hdd
    have k0 : Kp [] H (upd H dd (.dK [])) := Kp.new hdd
    have hd0 : upd H dd (.dK []) dd = some (.dK []) := upd_same
    show tPairs _ _ (upd H dd (.dK [])) _
    generalize upd H dd (.dK []) = H0 at k0 hd0 ⊢
    refine ⟨_, rfl, _, rfl, _, _, rfl, rfl, _, rfl, (by show 3 ≤ sizeLine; decide), fun t1 ht1 => ?_⟩
    refine ⟨_, rfl, _, rfl, _, rfl, _, _, rfl, rfl, (by show 3 ≤ sizeLine; decide), fun t2 ht2 => ?_⟩
    refine ⟨_, rfl, _, _, rfl, rfl, _, rfl, _, rfl, (by show 3 ≤ sizeLine; decide), fun t3 ht3 => ?_⟩
    have k1 := Kp.new (S := []) (o := .tup [.int c.1, .int (3 - c.2.2), .int c.2.1]) ht1
    have k2 := Kp.new (S := []) (o := .tup [.int c.2.2, .int c.2.1, .int (3 - c.1)]) ht2
    have k3 := Kp.new (S := []) (o := .tup [.int (3 - c.2.1), .int c.1, .int c.2.2]) ht3
    have hd3 := k3.keep dd _ (k2.keep dd _ (k1.keep dd _ hd0 List.not_mem_nil (fun _ z => by cases z)) List.not_mem_nil (fun _ z => by cases z)) List.not_mem_nil (fun _ z => by cases z)
    have kd := Kp.chgD (S := [dd]) (k2 := mergeK [] [(Sum.inr "x", V.ref t1), (Sum.inr "y", V.ref t2), (Sum.inr "z", V.ref t3)]) hd3 (List.mem_singleton.mpr rfl)
    have kk := (((k0.trans k1).trans k2).trans k3).off hdd kd
    refine ⟨hd3, [(Sum.inr "x", V.ref t1), (Sum.inr "y", V.ref t2), (Sum.inr "z", V.ref t3)], rfl, (by show 3 ≤ 15; decide), ?_⟩
    match e with
    | 0 => exact ⟨_, rfl, dd, V.ref t1, rfl, (by rw [← backX t1 t2 t3]; exact DGet.k (k := Sum.inr "x") upd_same), q _ t1 kk (kd.sqT (k3.sqT (k2.sqT (SqT.of upd_same))))⟩
    | 1 => exact ⟨_, rfl, dd, V.ref t2, rfl, (by rw [← backY t1 t2 t3]; exact DGet.k (k := Sum.inr "y") upd_same), q _ t2 kk (kd.sqT (k3.sqT (SqT.of upd_same)))⟩
    | 2 => exact ⟨_, rfl, dd, V.ref t3, rfl, (by rw [← backZ t1 t2 t3]; exact DGet.k (k := Sum.inr "z") upd_same), q _ t3 kk (kd.sqT (SqT.of upd_same))⟩
end
end LP
end

section
set_option Elab.async false
set_option linter.all false
set_option maxRecDepth 100000
set_option maxHeartbeats 4000000
/-! _law_every -/
namespace LP
open PySem PySem.Spec PyProof.Rows L2 Ly GY
def pI (p : Nat × Nat × Nat) : C3 := ((p.1 : Int), (p.2.1 : Int), (p.2.2 : Int))
def pn (j : Nat) (p : Nat × Nat × Nat) : Nat := if j = 0 then p.1 else if j = 1 then p.2.1 else p.2.2
theorem comp_pI (j : Nat) (p : Nat × Nat × Nat) : comp j (pI p) = (pn j p : Int) := by
  unfold comp pn pI
  split
  · rfl
  · split <;> rfl
theorem pn_lt {p : Nat × Nat × Nat} (h : p ∈ placesL) (j : Nat) : pn j p < 3 := by
  have h2 : ∀ p ∈ placesL, p.1 < 3 ∧ p.2.1 < 3 ∧ p.2.2 < 3 := by decide +kernel
  obtain ⟨a, b, c⟩ := h2 p h
  unfold pn
  split
  · exact a
  · split <;> assumption
theorem comp_rot (j : Nat) (p : Nat × Nat × Nat) (s c : C3) : comp j (rot (p, s) c) = comp j s * comp (pn j p) c := by
  unfold comp rot atC pn
  by_cases h0 : j = 0
  · simp [h0]
  · by_cases h1 : j = 1
    · simp [h1]
    · simp [h0, h1]
theorem sgn_one (k j : Nat) (hk : k < 8) : comp j (signsK k) = 1 ∨ comp j (signsK k) = -1 := by
  unfold comp signsK
  by_cases h0 : j = 0
  · simp only [h0, if_true]
    omega
  · by_cases h1 : j = 1
    · simp only [h1, if_true, if_neg (show ¬ (1 = 0) by decide)]
      omega
    · simp only [if_neg h0, if_neg h1]
      omega
def rotsP (n : Nat) (p : Nat × Nat × Nat) : List Rot := ((List.range n).filter (goodK p)).map fun k => (p, signsK k)
theorem rots_at : rots = placesL.flatMap (rotsP 8) := rfl
theorem rotsP_succ (n : Nat) (p : Nat × Nat × Nat) : rotsP (n + 1) p = rotsP n p ++ if goodK p n = true then [(p, signsK n)] else [] := by
  unfold rotsP
  rw [List.range_succ, List.filter_append, List.map_append]
  congr 1
  by_cases h : goodK p n = true
  · rw [if_pos h]
    simp [h]
  · rw [if_neg h]
    simp [h]
theorem placesL_sub {i : Nat} {p : Nat × Nat × Nat} (h : placesL[i]? = some p) : p ∈ placesL := List.mem_of_getElem? h
theorem even_is {p : Nat × Nat × Nat} (h : p ∈ placesL) : ([cD (0, 1, 2), cD (1, 2, 0), cD (2, 0, 1)].any fun z => PyData.eqv z (cD (pI p))) = evenP p := by
  have h2 : ∀ p ∈ placesL, ([cD (0, 1, 2), cD (1, 2, 0), cD (2, 0, 1)].any fun z => PyData.eqv z (cD (pI p))) = evenP p := by
    intro p hp
    simp only [List.any_cons, List.any_nil, eqvC]
    revert p
    decide +kernel
  exact h2 p h
theorem cm_one {i j : Int} (h : i = 1 ∨ i = -1) : CMul i j := .inl (by rcases h with h | h <;> rw [h] <;> decide)
section
variable [LamTab] {P : Program} {W0 : World} {K : PySem.W.Frag} {mg : Str → Option Value} {base : Heap}
def rlist (c : C3) : List Int := [c.1, c.2.1, c.2.2]
theorem rlist_at (c : C3) {l : Nat} (h : l < 3) : (rlist c)[l]? = some (comp l c) := by
  rcases (show l = 0 ∨ l = 1 ∨ l = 2 by omega) with rfl | rfl | rfl <;> rfl
theorem rotsP_len {p : Nat × Nat × Nat} {n : Nat} : (rotsP n p).length ≤ n := by
  unfold rotsP
  rw [List.length_map]
  exact Nat.le_trans (List.length_filter_le _ _) (by rw [List.length_range]; exact Nat.le_refl _)
def rTupOf (K : PySem.W.Frag) : List V → Hp → VK → Prop := fun xs H Q => ∃ p ys, xs = [.ref p] ∧ ((SqL K H p ys ∧ ∀ l, H l = none → Q (.ref l) (upd H l (.tup ys))) ∨ (SqT K H p ys ∧ Q (.ref p) H))
/-- lists of turned cells -/
def LRows (K : PySem.W.Frag) (H : Hp) (G : Addr → Prop) (ys : List V) (cs : List C3) (ms : List Rot) : Prop := Paired (fun (v : V) (m : Rot) => ∃ a zs, v = .ref a ∧ H a = some (.lst zs) ∧ Items K H zs (rotL cs m) ∧ G a) ys ms
theorem LRows.mono {S : List Addr} {H H' : Hp} {G : Addr → Prop} {ys : List V} {cs : List C3} {ms : List Rot} (x : LRows K H G ys cs ms) (k : Kp S H H') (g : ∀ b, G b → b ∉ S) : LRows K H' G ys cs ms :=
  paired_imp (fun v r ⟨a, zs, e, ha, hi, ga⟩ => ⟨a, zs, e, k.lst ha (g a ga), items_mono k hi, ga⟩) x
def spLEvery (K : PySem.W.Frag) : Sp := fun vs H Q _ => ∃ (v : V) (cs : List C3), vs = [v] ∧ CellsL K H v cs ∧ cs.length ≤ 64 ∧ cs.Nodup ∧ ∀ (H' : Hp) (r : Addr) (ys : List V), Kp [] H H' → H r = none → H' r = some (.lst ys) → LRows K H' (fun b => H b = none ∧ b ≠ r) ys cs rots → Q (.ref r) H'
def evScope : Scope := { kind := .function, names := [(".0", .local), ("_law_cell", .cell), ("tuple", .globalImplicit), ("range", .globalImplicit), ("_law_places", .cell), ("_law_signs", .cell)], isGenerator := false, isCoroutine := false }
abbrev nLEv : List Str := ["_law_some", "_law_found", "_law_places", "_law_k", "_law_signs", "_law_even", "_law_cell", "_law_j"]
theorem scLEv : FnScope nLEv ["_law_some"] (defScope lEvery) := ⟨rfl, rfl, rfl, by decide +kernel, rfl, by decide +kernel, by decide +kernel⟩
theorem ok_levery {f fL : Addr} {fd dL : FuncData} (F : Fun K "_law_every" "_law_every" lEvery f fd) (T : Nm K mg) (NL : Fn K mg "_law_laid" fL dL ["_law_some"]) (GL : FnOk P W0 K mg base CX0 1 fL dL ["_law_some"] (spLLaid K)) :
    FnOk P W0 K mg base CX0 2 f fd ["_law_some"] (spLEvery K) := by
  refine F.ok scLEv (fun vs H Q E h => ?_) (fun cdv A outer s H vs Q E hr h => ?_)
  · obtain ⟨v, cs, rfl, _⟩ := h
    rfl
  · obtain ⟨v, cs, rfl, hv, h64, hnd, q⟩ := h
    refine ⟨_, pss_cons (ps_set (i := 1) scLEv.nd rfl (.inl rfl) (pe_lst pa_nil))
      (pss_cons (ps_for PassesOwn.never rfl (pi_list (pe_lst (pa_cons (pe_tup (pa_cons pe_int (pa_cons pe_int (pa_cons pe_int pa_nil)))) (pa_cons (pe_tup (pa_cons pe_int (pa_cons pe_int (pa_cons pe_int pa_nil)))) (pa_cons (pe_tup (pa_cons pe_int (pa_cons pe_int (pa_cons pe_int pa_nil))))
          (pa_cons (pe_tup (pa_cons pe_int (pa_cons pe_int (pa_cons pe_int pa_nil)))) (pa_cons (pe_tup (pa_cons pe_int (pa_cons pe_int (pa_cons pe_int pa_nil)))) (pa_cons (pe_tup (pa_cons pe_int (pa_cons pe_int (pa_cons pe_int pa_nil)))) pa_nil)))))))) (pg_name (i := 2) scLEv.nd rfl (.inr rfl))
        (pss_one (ps_for PassesOwn.never rfl (pi_range1 (by rfl) T.range (pa_cons pe_int pa_nil)) (pg_name (i := 3) scLEv.nd rfl (.inl rfl))
          (pss_cons (ps_set (i := 4) scLEv.nd rfl (.inr rfl) (pe_lst (pa_cons (pe_op op_sub pe_int (pe_op op_mul pe_int (pe_op op_fdiv (pv 3) pe_int))) (pa_cons (pe_op op_sub pe_int (pe_op op_mul pe_int (pe_op op_mod (pe_op op_fdiv (pv 3) pe_int) pe_int))) (pa_cons (pe_op op_sub pe_int (pe_op op_mul pe_int (pe_op op_mod (pv 3) pe_int))) pa_nil)))))
          (pss_cons (ps_set (i := 5) scLEv.nd rfl (.inl rfl) (pe_callTy call_int1 (by rfl) T.int (by decide +kernel) (pa_cons (pe_cmpR (r := rInDT K) (op_inDT (u65 hr)) (pv 2) (pe_tup (pa_cons (pe_tup (pa_cons pe_int (pa_cons pe_int (pa_cons pe_int pa_nil)))) (pa_cons (pe_tup (pa_cons pe_int (pa_cons pe_int (pa_cons pe_int pa_nil)))) (pa_cons (pe_tup (pa_cons pe_int (pa_cons pe_int (pa_cons pe_int pa_nil)))) pa_nil)))) (by rfl)) pa_nil)))
          (pss_one (ps_if (pt_cmpR op_eq (pe_op op_mul (pe_op op_mul (pe_ix (r := rIxL K) ix_list (pv 4) pe_int (fun _ _ => rfl)) (pe_ix (r := rIxL K) ix_list (pv 4) pe_int (fun _ _ => rfl))) (pe_ix (r := rIxL K) ix_list (pv 4) pe_int (fun _ _ => rfl))) (pe_op op_sub (pe_op op_mul pe_int (pv 5)) pe_int) (nomark _))
            (pss_one (ps_expr (pe_bm PySem.F.plainAttrs_list PySem.F.slot_list_append PySem.F.type_list_append mt_append (pv 1) (pa_cons (pe_call GL hr (by rfl) NL.m NL.kp NL.b .nil pass0 (pa_cons
              (pe_lc (own := [("_law_cell", 6)]) (g := gName 6) rfl scLEv.nd (pi_list (pv 0)) (blkOk_by (own := [("_law_cell", 6)]) (N := nLEv) (sc := defScope lEvery) (by decide +kernel)) (fun _ _ _ _ _ => pg_name (i := 6) scLEv.nd rfl (.inr rfl)) (fun _ _ _ _ _ => pts_nil)
                (fun _ _ _ _ _ => pe_callTy (r := rTupOf K) call_tuple_of (by rfl) T.tuple (by decide +kernel) (pa_cons (pe_lc (own := [("_law_j", 7)]) (g := gName 7) rfl scLEv.nd (pi_range1 (by rfl) T.range (pa_cons pe_int pa_nil)) (blkOk_by (own := [("_law_j", 7)]) (N := nLEv) (sc := evScope) (by decide +kernel))
                  (fun _ _ _ _ _ => pg_name (i := 7) scLEv.nd rfl (.inl rfl)) (fun _ _ _ _ _ => pts_nil) (fun _ _ _ _ _ => pe_op op_mul (pe_ix (r := rIxL K) ix_list (pv 4) (pv 7) (fun _ _ => rfl)) (pe_ix (r := rIxT K) ix_tup (pv 6) (pe_ix (r := rIxT K) ix_tup (pv 2) (pv 7) (fun _ _ => rfl)) (fun _ _ => rfl)))) pa_nil))) pa_nil)) pa_nil)))) pss_nil)))))))
      (pss_one (ps_ret (pv 1)))), ?_⟩
    obtain ⟨a, xs, rfl, hT, hI⟩ := of_cellsL hv
    refine ⟨Nat.zero_le _, fun R hR => ?_⟩
    have kR : Kp [] H (upd H R (.lst [])) := Kp.new hR
    have eR : upd H R (.lst []) R = some (.lst []) := upd_same
    generalize upd H R (.lst []) = H0 at kR eR ⊢
    refine nameI (i := 1) (v := .ref R) (σ := [some (.ref a), none, none, none, none, none, none, none]) ?_
    refine ⟨(by show 3 ≤ sizeLine; decide), fun t0 ht0 => ?_⟩
    have kt0 : Kp [] H0 (upd H0 t0 (.tup [.int 0, .int 1, .int 2])) := Kp.new ht0
    have et0 : SqT K (upd H0 t0 (.tup [.int 0, .int 1, .int 2])) t0 [.int 0, .int 1, .int 2] := SqT.of upd_same
    generalize upd H0 t0 (.tup [.int 0, .int 1, .int 2]) = H1 at kt0 et0 ⊢
    refine ⟨(by show 3 ≤ sizeLine; decide), fun t1 ht1 => ?_⟩
    have kt1 : Kp [] H1 (upd H1 t1 (.tup [.int 1, .int 2, .int 0])) := Kp.new ht1
    have et1 : SqT K (upd H1 t1 (.tup [.int 1, .int 2, .int 0])) t1 [.int 1, .int 2, .int 0] := SqT.of upd_same
    generalize upd H1 t1 (.tup [.int 1, .int 2, .int 0]) = H2 at kt1 et1 ⊢
    refine ⟨(by show 3 ≤ sizeLine; decide), fun t2 ht2 => ?_⟩
    have kt2 : Kp [] H2 (upd H2 t2 (.tup [.int 2, .int 0, .int 1])) := Kp.new ht2
    have et2 : SqT K (upd H2 t2 (.tup [.int 2, .int 0, .int 1])) t2 [.int 2, .int 0, .int 1] := SqT.of upd_same
    generalize upd H2 t2 (.tup [.int 2, .int 0, .int 1]) = H3 at kt2 et2 ⊢
    refine ⟨(by show 3 ≤ sizeLine; decide), fun t3 ht3 => ?_⟩
    have kt3 : Kp [] H3 (upd H3 t3 (.tup [.int 1, .int 0, .int 2])) := Kp.new ht3
    have et3 : SqT K (upd H3 t3 (.tup [.int 1, .int 0, .int 2])) t3 [.int 1, .int 0, .int 2] := SqT.of upd_same
    generalize upd H3 t3 (.tup [.int 1, .int 0, .int 2]) = H4 at kt3 et3 ⊢
    refine ⟨(by show 3 ≤ sizeLine; decide), fun t4 ht4 => ?_⟩
    have kt4 : Kp [] H4 (upd H4 t4 (.tup [.int 0, .int 2, .int 1])) := Kp.new ht4
    have et4 : SqT K (upd H4 t4 (.tup [.int 0, .int 2, .int 1])) t4 [.int 0, .int 2, .int 1] := SqT.of upd_same
    generalize upd H4 t4 (.tup [.int 0, .int 2, .int 1]) = H5 at kt4 et4 ⊢
    refine ⟨(by show 3 ≤ sizeLine; decide), fun t5 ht5 => ?_⟩
    have kt5 : Kp [] H5 (upd H5 t5 (.tup [.int 2, .int 1, .int 0])) := Kp.new ht5
    have et5 : SqT K (upd H5 t5 (.tup [.int 2, .int 1, .int 0])) t5 [.int 2, .int 1, .int 0] := SqT.of upd_same
    generalize upd H5 t5 (.tup [.int 2, .int 1, .int 0]) = H6 at kt5 et5 ⊢
    refine ⟨(by show 6 ≤ sizeLine; decide), fun B hB => ?_⟩
    have kB : Kp [] H6 (upd H6 B (.lst [.ref t0, .ref t1, .ref t2, .ref t3, .ref t4, .ref t5])) := Kp.new hB
    have eB : upd H6 B (.lst [.ref t0, .ref t1, .ref t2, .ref t3, .ref t4, .ref t5]) B = some (.lst [.ref t0, .ref t1, .ref t2, .ref t3, .ref t4, .ref t5]) := upd_same
    generalize upd H6 B (.lst [.ref t0, .ref t1, .ref t2, .ref t3, .ref t4, .ref t5]) = H7 at kB eB ⊢
    have k57 := kt5.trans kB
    have k47 := kt4.trans k57
    have k37 := kt3.trans k47
    have k27 := kt2.trans k37
    have k17 := kt1.trans k27
    have k07 := kt0.trans k17
    have iB : Items K H7 [.ref t0, .ref t1, .ref t2, .ref t3, .ref t4, .ref t5] (placesL.map pI) :=
      .cons (dp_c (c := (0, 1, 2)) (k17.sqT et0)) (.cons (dp_c (c := (1, 2, 0)) (k27.sqT et1)) (.cons (dp_c (c := (2, 0, 1)) (k37.sqT et2)) (.cons (dp_c (c := (1, 0, 2)) (k47.sqT et3)) (.cons (dp_c (c := (0, 2, 1)) (k57.sqT et4)) (.cons (dp_c (c := (2, 1, 0)) (kB.sqT et5)) .nil)))))
    have eR7 := k07.lst eR List.not_mem_nil
    have k7 := kR.trans k07
    clear k17 k27 k37 k47 k57
    have RB : R ≠ B := fun z => by
      have := (kt0.trans (kt1.trans (kt2.trans (kt3.trans (kt4.trans kt5))))).lst eR List.not_mem_nil
      rw [z, hB] at this
      cases this
    clear kt0 kt1 kt2 kt3 kt4 kt5 kB et0 et1 et2 et3 et4 et5
    refine ⟨B, rfl, ⟨_, SqL.of eB⟩, for_list (K := K) (a := B) (xs := [.ref t0, .ref t1, .ref t2, .ref t3, .ref t4, .ref t5]) (fun i σ H' => Kp [] H H' ∧ Kp [R] H7 H' ∧ ∃ (ys : List V) (o2 o3 o4 o5 : Option V), σ = [some (.ref a), some (.ref R), o2, o3, o4, o5, none, none] ∧ H' R = some (.lst ys) ∧ LRows K H' (fun b => H b = none ∧ b ≠ R) ys cs ((placesL.take i).flatMap (rotsP 8)))
      ⟨k7, Kp.refl _ _, [], none, none, none, none, rfl, eR7, .nil⟩ (fun i σ H' _ pv => pv.2.1.sqL (SqL.of eB) (fun m => RB (List.mem_singleton.mp m).symm)) (fun i x σ H' hx pv => ?st) (fun σ H' pv => ?en)⟩
    case en =>
      obtain ⟨kk, _, ys, o2, o3, o4, o5, rfl, het, hr⟩ := pv
      exact ⟨_, rfl, q H' R ys kk hR het hr⟩
    case st =>
      obtain ⟨kk, k7', ys, o2, o3, o4, o5, rfl, het, hrw⟩ := pv
      obtain ⟨c, hc, hdc⟩ := (items_mono k7' iB).get hx
      rw [List.getElem?_map] at hc
      obtain ⟨p, hp, rfl⟩ := Option.map_eq_some_iff.mp hc
      have hpm := placesL_sub hp
      obtain ⟨pp, rfl, hpp⟩ := of_dp_c hdc
      have hi6 : i < 6 := (List.getElem?_eq_some_iff.mp hp).1
      have eT : (placesL.take (i + 1)).flatMap (rotsP 8) = (placesL.take i).flatMap (rotsP 8) ++ rotsP 8 p := by
        rw [List.take_add_one, hp, List.flatMap_append]
        simp
      rw [eT]
      have ln0 : ((placesL.take i).flatMap (rotsP 8)).length ≤ 48 := by
        have : ((placesL.take i).flatMap (rotsP 8)).length ≤ rots.length := by
          have : placesL.flatMap (rotsP 8) = (placesL.take i).flatMap (rotsP 8) ++ (placesL.drop i).flatMap (rotsP 8) := by rw [← List.flatMap_append, List.take_append_drop]
          rw [rots_at, this, List.length_append]
          omega
        rw [rots_len] at this
        omega
      generalize (placesL.take i).flatMap (rotsP 8) = ms0 at hrw ln0 ⊢
      refine ⟨8, rfl, by decide, by decide, for_range (lo := 0) (n := 8) (fun j σ H2 => Kp [] H H2 ∧ Kp [R] H' H2 ∧ ∃ (ys : List V) (o3 o4 o5 : Option V), σ = [some (.ref a), some (.ref R), some (.ref pp), o3, o4, o5, none, none] ∧ H2 R = some (.lst ys) ∧ LRows K H2 (fun b => H b = none ∧ b ≠ R) ys cs (ms0 ++ rotsP j p))
        ⟨kk, Kp.refl _ _, ys, o3, o4, o5, rfl, het, by rw [show rotsP 0 p = [] from rfl, List.append_nil]; exact hrw⟩ (fun j σ H2 hj pv => ?st2) (fun σ H2 pv => ?en2)⟩
      case en2 =>
        obtain ⟨k2, k2', ys2, o3, o4, o5, rfl, h2, hr2⟩ := pv
        exact ⟨k2, k7'.trans k2', ys2, _, _, _, _, rfl, h2, hr2⟩
      case st2 =>
        obtain ⟨k2, k2', ys2, o3, o4, o5, rfl, h2, hr2⟩ := pv
        have yl := paired_len hr2
        have hp2 := k2'.sqT hpp
        rw [Int.zero_add]
        have s1 : (1 - 2 * ((j : Int) / 4)) = (signsK j).1 := by unfold signsK; simp only; omega
        have s2 : (1 - 2 * ((j : Int) / 2 % 2)) = (signsK j).2.1 := by unfold signsK; simp only; omega
        have s3 : (1 - 2 * ((j : Int) % 2)) = (signsK j).2.2 := by unfold signsK; simp only; omega
        refine ⟨_, rfl, _, _, rfl, rfl, ⟨by decide, by decide⟩, _, _, rfl, rfl, .inl ⟨by decide, by decide⟩, _, _, rfl, rfl, ?_⟩
        refine ⟨_, rfl, _, _, rfl, rfl, ⟨by decide, by decide⟩, _, _, rfl, rfl, (by show (0 : Int) < 2; decide), _, _, rfl, rfl, .inl ⟨by decide, by decide⟩, _, _, rfl, rfl, ?_⟩
        refine ⟨_, rfl, _, _, rfl, rfl, (by show (0 : Int) < 2; decide), _, _, rfl, rfl, .inl ⟨by decide, by decide⟩, _, _, rfl, rfl, (by show 3 ≤ sizeLine; decide), fun S hS => ?_⟩
        have kS : Kp [] H2 (upd H2 S (.lst [.int (1 - 2 * ((j : Int) / 4)), .int (1 - 2 * ((j : Int) / 2 % 2)), .int (1 - 2 * ((j : Int) % 2))])) := Kp.new hS
        have eS : upd H2 S (.lst [.int (1 - 2 * ((j : Int) / 4)), .int (1 - 2 * ((j : Int) / 2 % 2)), .int (1 - 2 * ((j : Int) % 2))]) S = some (.lst [.int (signsK j).1, .int (signsK j).2.1, .int (signsK j).2.2]) := by rw [upd_same, s1, s2, s3]
        have SR : S ≠ R := fun z => by rw [z, h2] at hS; cases hS
        generalize upd H2 S (.lst [.int (1 - 2 * ((j : Int) / 4)), .int (1 - 2 * ((j : Int) / 2 % 2)), .int (1 - 2 * ((j : Int) % 2))]) = H3 at kS eS ⊢
        refine nameI (i := 4) (v := .ref S) (σ := [some (.ref a), some (.ref R), some (.ref pp), some (.int (j : Int)), o4, o5, none, none]) ?_
        refine ⟨_, rfl, ?_⟩
        refine ⟨(by show 3 ≤ sizeLine; decide), fun u0 hu0 => ?_⟩
        have ku0 : Kp [] H3 (upd H3 u0 (.tup [.int 0, .int 1, .int 2])) := Kp.new hu0
        have eu0 : SqT K (upd H3 u0 (.tup [.int 0, .int 1, .int 2])) u0 [.int 0, .int 1, .int 2] := SqT.of upd_same
        generalize upd H3 u0 (.tup [.int 0, .int 1, .int 2]) = H4 at ku0 eu0 ⊢
        refine ⟨(by show 3 ≤ sizeLine; decide), fun u1 hu1 => ?_⟩
        have ku1 : Kp [] H4 (upd H4 u1 (.tup [.int 1, .int 2, .int 0])) := Kp.new hu1
        have eu1 : SqT K (upd H4 u1 (.tup [.int 1, .int 2, .int 0])) u1 [.int 1, .int 2, .int 0] := SqT.of upd_same
        generalize upd H4 u1 (.tup [.int 1, .int 2, .int 0]) = H5 at ku1 eu1 ⊢
        refine ⟨(by show 3 ≤ sizeLine; decide), fun u2 hu2 => ?_⟩
        have ku2 : Kp [] H5 (upd H5 u2 (.tup [.int 2, .int 0, .int 1])) := Kp.new hu2
        have eu2 : SqT K (upd H5 u2 (.tup [.int 2, .int 0, .int 1])) u2 [.int 2, .int 0, .int 1] := SqT.of upd_same
        generalize upd H5 u2 (.tup [.int 2, .int 0, .int 1]) = H6 at ku2 eu2 ⊢
        refine ⟨(by show 3 ≤ sizeLine; decide), fun W hW => ?_⟩
        have kW : Kp [] H6 (upd H6 W (.tup [.ref u0, .ref u1, .ref u2])) := Kp.new hW
        have eW : SqT K (upd H6 W (.tup [.ref u0, .ref u1, .ref u2])) W [.ref u0, .ref u1, .ref u2] := SqT.of upd_same
        generalize upd H6 W (.tup [.ref u0, .ref u1, .ref u2]) = H8 at kW eW ⊢
        have k68 := ku2.trans kW
        have k58 := ku1.trans k68
        have k48 := ku0.trans k58
        have k38 := k48
        have hpp8 := (kS.trans k38).sqT hp2
        have eS8 := k38.lst eS List.not_mem_nil
        have h28 := (kS.trans k38).lst h2 List.not_mem_nil
        have hr28 := hr2.mono (kS.trans k38) (fun _ _ => List.not_mem_nil)
        have dW : DpAll K H8 [.ref u0, .ref u1, .ref u2] [cD (0, 1, 2), cD (1, 2, 0), cD (2, 0, 1)] := .cons (dp_c (c := (0, 1, 2)) (k58.sqT eu0)) (.cons (dp_c (c := (1, 2, 0)) (k68.sqT eu1)) (.cons (dp_c (c := (2, 0, 1)) (kW.sqT eu2)) .nil))
        refine ⟨cD (pI p), [cD (0, 1, 2), cD (1, 2, 0), cD (2, 0, 1)], dp_c hpp8, .tup eW dW, rfl, rfl, ?_⟩
        refine .inr ⟨_, rfl, ?_⟩
        rw [even_is hpm]
        have k28 := kS.trans k38
        clear kS k38 k48 k58 k68 ku0 ku1 ku2 kW eu0 eu1 eu2 eW dW
        refine nameI (i := 5) (v := .int (if evenP p = true then 1 else 0)) (σ := [some (.ref a), some (.ref R), some (.ref pp), some (.int (j : Int)), some (.ref S), o5, none, none]) ?_
        have hS8 : SqL K H8 S [.int (signsK j).1, .int (signsK j).2.1, .int (signsK j).2.2] := SqL.of eS8
        have g1 := sgn_one j 0 hj
        have g2 := sgn_one j 1 hj
        have g3 := sgn_one j 2 hj
        simp only [comp, if_true, if_neg (show ¬ (1 = 0) by decide), if_neg (show ¬ (2 = 0) by decide), if_neg (show ¬ (2 = 1) by decide)] at g1 g2 g3
        have g12 : (signsK j).1 * (signsK j).2.1 = 1 ∨ (signsK j).1 * (signsK j).2.1 = -1 := by rcases g1 with e | e <;> rcases g2 with e' | e' <;> rw [e, e'] <;> decide
        refine ⟨_, rfl, S, _, 0, _, rfl, rfl, hS8, rfl, _, rfl, S, _, 1, _, rfl, rfl, hS8, rfl, _, _, rfl, rfl, cm_one g1, _, rfl, S, _, 2, _, rfl, rfl, hS8, rfl, _, _, rfl, rfl, cm_one g12, _, rfl, _, _, rfl, rfl, .inl ⟨by decide, by decide⟩, _, _, rfl, rfl, rfl, _, rfl, ?_⟩
        by_cases hgk : goodK p j = true
        · refine itD1 (congrArg V.int (of_decide_eq_true hgk)) ?_
          have hT8 := (k2.trans k28).sqL hT List.not_mem_nil
          have hI8 := items_mono (k2.trans k28) hI
          have hmr : (p, signsK j) ∈ rots := by
            rw [rots_at]
            exact List.mem_flatMap.mpr ⟨p, hpm, List.mem_map.mpr ⟨j, List.mem_filter.mpr ⟨List.mem_range.mpr hj, hgk⟩, rfl⟩⟩
          refine ⟨_, rfl, .inl ⟨rfl, _, SqL.of h28⟩, _, rfl, a, rfl, ⟨_, hT8⟩, fun D hD => lc_map (K := K) (rot (p, signsK j)) (Kp.refl _ _) hD hT8 hI8 h64 (fun c pc H' Nx Z k hp nx => ?m) (fun H9 ys9 k9 h9 i9 => ?d)⟩
          case m =>
            refine ⟨rfl, yesI ?_⟩
            refine ⟨3, rfl, by decide, by decide, fun D2 hD2 => lc_range (lo := 0) (n := 3) (fun l H'' => Kp [] H' H'' ∧ H'' D2 = some (.lst (((rlist (rot (p, signsK j) c)).take l).map V.int))) ⟨Kp.new hD2, upd_same⟩ (fun l H'' hl pv => ?_) (fun H'' pv => ?_)⟩
            · obtain ⟨k'', hDl⟩ := pv
              have e8 := comp_at (pn_lt hpm l) c
              rw [Int.zero_add, ← comp_pI] at e8
              have hS'' := (k.trans k'').sqL hS8 List.not_mem_nil
              refine ⟨rfl, yesI ?_⟩
              refine ⟨_, rfl, _, rfl, S, _, _, _, rfl, rfl, hS'', comp_at hl (signsK j), _, rfl, _, rfl, _, rfl, pp, _, _, _, rfl, rfl, (k.trans k'').sqT hpp8, comp_at hl (pI p), pc, _, _, _, rfl, rfl, k''.sqT hp, e8, _, _, rfl, rfl, cm_one (sgn_one j l hj), ?_⟩
              refine ⟨_, hDl, small_size (by rw [List.length_map, List.length_take]; omega), k''.chg0 hD2 hDl, ?_⟩
              rw [upd_same, List.take_add_one, rlist_at _ hl, comp_rot, List.map_append]
              rfl
            · obtain ⟨k'', hDl⟩ := pv
              exact ⟨D2, _, rfl, .inl ⟨SqL.of hDl, fun t ht => nx t _ (k''.trans (Kp.new ht)) (SqT.of upd_same)⟩⟩
          case d =>
            refine ⟨.ref D, _, rfl, cellsL_of h9 i9, by rw [List.length_map]; exact h64, rot_nodup hnd hmr, fun H10 r10 ys10 k10 n10 h10 i10 => ?_⟩
            have k810 := k9.trans k10
            have h210 := k810.lst h28 List.not_mem_nil
            have kc : Kp [R] H10 (upd H10 R (.lst (ys2 ++ [.ref r10]))) := Kp.chg h210 (List.mem_singleton.mpr rfl)
            have g : ∀ b, (H b = none ∧ b ≠ R) → b ∉ [R] := fun b z m => z.2 (List.mem_singleton.mp m)
            have rR : r10 ≠ R := fun z => by rw [z, k9.lst h28 List.not_mem_nil] at n10; cases n10
            have f10 := (k2.trans (k28.trans k9)).free r10 n10
            have hl9 := rotsP_len (p := p) (n := j)
            rw [List.length_append] at yl
            refine ⟨R, ys2, _, rfl, rfl, h210, small_size (by omega), (k2.trans (k28.trans k810)).chg0 hR h210, (k2'.trans (k28.trans k810).w0).trans kc, ys2 ++ [.ref r10], _, _, _, rfl, upd_same, ?_⟩
            rw [rotsP_succ, if_pos hgk, ← List.append_assoc]
            exact paired_append ((hr28.mono k810 (fun _ _ => List.not_mem_nil)).mono kc g) (.cons ⟨r10, ys10, rfl, kc.lst h10 (fun m => rR (List.mem_singleton.mp m)), items_mono kc i10, f10, rR⟩ .nil)
        · refine itD0 (fun z => hgk (decide_eq_true (by injection z))) ?_
          exact ⟨k2.trans k28, k2'.trans k28.w0, ys2, _, _, _, rfl, h28, by rw [rotsP_succ, if_neg hgk, List.append_nil]; exact hr28⟩
end
end LP
end

section
set_option Elab.async false
set_option linter.all false
set_option maxRecDepth 100000
set_option maxHeartbeats 4000000
/-! _law_firsts: words and what they give, not laid -/
namespace LP
open PySem PySem.Spec PyProof.Rows L2 Ly GY
def kidsW (p : Str × List C3) : List (Str × List C3) := Es3.map fun e => (extW p.1 e, p.2.map (tE e))
def LW (cs : List C3) : Nat → List (Str × List C3)
  | 0 => [("", cs)]
  | n + 1 => (LW cs n).flatMap kidsW
abbrev laidW (p : Str × List C3) : Str × List C3 := (p.1, laidL p.2)
theorem eS_len1 (e : Fin 3) : (eS e).length = 1 := by
  match e with
  | 0 => rfl
  | 1 => rfl
  | 2 => rfl
theorem LW_ok {cs : List C3} (hn : cs.Nodup) : ∀ {n : Nat} {p : Str × List C3}, p ∈ LW cs n → p.2.Nodup ∧ p.2.length = cs.length ∧ p.1.length = n
  | 0, p, h => by
    rw [List.mem_singleton.mp h]
    exact ⟨hn, rfl, rfl⟩
  | n + 1, p, h => by
    obtain ⟨r, hr, hk⟩ := List.mem_flatMap.mp (show p ∈ (LW cs n).flatMap kidsW from h)
    obtain ⟨e, _, rfl⟩ := List.mem_map.mp hk
    obtain ⟨h1, h2, h3⟩ := LW_ok hn hr
    refine ⟨tE_nodup h1, by rw [← h2, List.length_map], ?_⟩
    show (r.1 ++ eS e).length = n + 1
    have h4 : (r.1 ++ eS e).length = r.1.length + (eS e).length := Str.length_append _ _
    rw [h4, h3, eS_len1]
theorem LW_len (cs : List C3) : ∀ n : Nat, (LW cs n).length = 3 ^ n
  | 0 => rfl
  | n + 1 => by
    show ((LW cs n).flatMap kidsW).length = _
    have key : ∀ l : List (Str × List C3), (l.flatMap kidsW).length = 3 * l.length := by
      intro l
      induction l with
      | nil => rfl
      | cons p l ih =>
        rw [List.flatMap_cons, List.length_append, ih, List.length_cons]
        show 3 + _ = _
        omega
    rw [key, LW_len cs n, Nat.pow_succ]
    omega
theorem LW_lev {cs : List C3} (hn : cs.Nodup) : ∀ n : Nat, (LW cs n).map laidW = LT cs n
  | 0 => rfl
  | n + 1 => by
    show ((LW cs n).flatMap kidsW).map laidW = (LT cs n).flatMap (Fw.kids qE extW Es3)
    rw [← LW_lev hn n, List.map_flatMap, List.flatMap_map]
    have key : ∀ l : List (Str × List C3), (∀ p ∈ l, p.2.Nodup) → (l.flatMap fun p => (kidsW p).map laidW) = l.flatMap fun p => Fw.kids qE extW Es3 (laidW p) := by
      intro l
      induction l with
      | nil => exact fun _ => rfl
      | cons p l ih =>
        intro h
        rw [List.flatMap_cons, List.flatMap_cons, ih fun q hq => h q (List.mem_cons_of_mem _ hq)]
        congr 1
        have hp := h p List.mem_cons_self
        show (Es3.map fun e => (extW p.1 e, p.2.map (tE e))).map laidW = Es3.map fun e => (extW p.1 e, qE e (laidL p.2))
        rw [List.map_map]
        refine List.map_congr_left fun e _ => ?_
        show (extW p.1 e, laidL (p.2.map (tE e))) = (extW p.1 e, laidL ((laidL p.2).map (tE e)))
        rw [laid_laid hp]
    exact key _ fun p hp => (LW_ok hn hp).1
/-- what is found before the words of length n -/
def FB (cs : List C3) : Nat → List (Str × List C3)
  | 0 => []
  | n + 1 => FT cs n
theorem FB_succ (cs : List C3) : ∀ n : Nat, FB cs (n + 1) = (LT cs n).foldl Fw.addT (FB cs n)
  | 0 => rfl
  | n + 1 => rfl
theorem FB_24 {cs : List C3} (hn : cs.Nodup) : ∀ n : Nat, (FB cs n).length ≤ 24
  | 0 => Nat.zero_le _
  | n + 1 => F_24 hn n
theorem eqvLs (g : List C3) : ∀ T : List (Str × List C3), ((T.map fun r => PyData.list (r.2.map cD)).any fun z => PyData.eqv z (.list (g.map cD))) = decide (g ∈ Fw.sts T)
  | [] => rfl
  | r :: T => by
    rw [List.map_cons, List.any_cons, eqvLs g T, eqvL]
    unfold Fw.sts
    rw [List.map_cons]
    by_cases h : r.2 = g
    · simp [h]
    · have h2 : ¬ g = r.2 := fun e => h e.symm
      simp [h, h2]
theorem lists_lay : ∀ T : List (Str × List C3), PyData.canLayAll0 (T.map fun r => PyData.list (r.2.map cD)) = true
  | [] => by simp [PyData.canLayAll0]
  | r :: T => by
    rw [List.map_cons]
    simp only [PyData.canLayAll0, PyData.canLay0, cDs_lay, lists_lay T, Bool.and_self]
theorem lists_depth : ∀ T : List (Str × List C3), PyData.depthAll (T.map fun r => PyData.list (r.2.map cD)) ≤ 2
  | [] => by simp [PyData.depthAll]
  | r :: T => by
    have h1 := lists_depth T
    have h2 := cDs_depth r.2
    simp only [List.map_cons, PyData.depthAll, PyData.depth]
    omega
theorem lists_shaped (T : List (Str × List C3)) : SeqAt.shaped (.list (T.map fun r => PyData.list (r.2.map cD))) = true := by
  have h1 := lists_depth T
  have h2 : PyData.depth (.list (T.map fun r => PyData.list (r.2.map cD))) ≤ 64 := by
    simp only [PyData.depth]
    omega
  show (PyData.canLay0 (.list _) && decide (PyData.depth (.list _) ≤ 64)) = true
  rw [Bool.and_eq_true]
  exact ⟨by simp only [PyData.canLay0]; exact lists_lay T, decide_eq_true h2⟩
section
variable [LamTab] {P : Program} {W0 : World} {K : PySem.W.Frag} {mg : Str → Option Value} {base : Heap}
/-- a new object is none of theirs -/
theorem TRows.new {H : Hp} {G : Addr → Prop} {ys : List V} {T : List (Str × List C3)} {D : Addr} (x : TRows K H G ys T) (h : H D = none) : TRows K H (fun b => G b ∧ b ≠ D) ys T :=
  paired_imp (fun v r ⟨t, a, zs, e, ht, ha, hi, ga⟩ => ⟨t, a, zs, e, ht, ha, hi, ga, fun z => by rw [z, h] at ha; cases ha⟩) x
end
end LP
end

section
set_option Elab.async false
set_option linter.all false
set_option maxRecDepth 100000
set_option maxHeartbeats 4000000
/-! _law_firsts -/
namespace LP
open PySem PySem.Spec PyProof.Rows L2 Ly GY
section
variable [LamTab] {P : Program} {W0 : World} {K : PySem.W.Frag} {mg : Str → Option Value} {base : Heap}
theorem paired_dps {α : Type} {f : α → PyData} {H : Hp} : ∀ {ys : List V} {l : List α}, Paired (fun y c => Dp K H y (f c)) ys l → DpAll K H ys (l.map f)
  | _, _, .nil => .nil
  | _, _, .cons a t => .cons a (paired_dps t)
theorem xyz_at {j c : Nat} (h : (Str.ofString "xyz").cps[j]? = some c) : ∃ e : Fin 3, Es3[j]? = some e ∧ (⟨#[c]⟩ : Str) = eS e := by
  have h3 : (Str.ofString "xyz").cps = #[120, 121, 122] := by decide +kernel
  rw [h3] at h
  rcases j with _ | _ | _ | j
  · have : 120 = c := by simpa using h
    subst this
    exact ⟨0, rfl, by decide +kernel⟩
  · have : 121 = c := by simpa using h
    subst this
    exact ⟨1, rfl, by decide +kernel⟩
  · have : 122 = c := by simpa using h
    subst this
    exact ⟨2, rfl, by decide +kernel⟩
  · simp at h
def spLFirsts (K : PySem.W.Frag) : Sp := fun vs H Q _ => ∃ (a : Addr) (xs : List V) (cs : List C3) (M : Nat), vs = [.ref a, .int (M : Int)] ∧ H a = some (.lst xs) ∧ Items K H xs cs ∧ cs.length ≤ 64 ∧ cs.Nodup ∧ M ≤ 4 ∧
  ∀ (H' : Hp) (r : Addr) (ys : List V), Kp [] H H' → H r = none → H' r = some (.lst ys) → TRows K H' (fun b => H b = none ∧ b ≠ r) ys (FT cs M) → Q (.ref r) H'
def fiScope : Scope := { kind := .function, names := [(".0", .local), ("_law_edge", .cell), ("_law_ahead", .cell), ("_law_word", .cell)], isGenerator := false, isCoroutine := false }
abbrev nLFi : List Str := ["_law_some", "_law_most", "_law_found", "_law_words", "_law_length", "_law_word", "_law_ahead", "_law_longer", "_law_one", "_law_edge", "_law_cell"]
theorem scLFi : FnScope nLFi ["_law_some", "_law_most"] (defScope lFirsts) := ⟨rfl, rfl, rfl, by decide +kernel, rfl, by decide +kernel, by decide +kernel⟩
theorem ok_lfirsts {f fL fQ : Addr} {fd dL dQ : FuncData} (F : Fun K "_law_firsts" "_law_firsts" lFirsts f fd) (T : Nm K mg) (NL : Fn K mg "_law_laid" fL dL ["_law_some"]) (GL : FnOk P W0 K mg base CX0 1 fL dL ["_law_some"] (spLLaid K))
    (NQ : Fn K mg "_law_quarter" fQ dQ ["_law_edge", "_law_cell"]) (GQ : FnOk P W0 K mg base CX0 1 fQ dQ ["_law_edge", "_law_cell"] (spLQuart K)) : FnOk P W0 K mg base CX0 2 f fd ["_law_some", "_law_most"] (spLFirsts K) := by
  refine F.ok scLFi (fun vs H Q E h => ?_) (fun cdv A outer s H vs Q E hr h => ?_)
  · obtain ⟨a, xs, cs, M, rfl, _⟩ := h
    rfl
  · obtain ⟨a, xs, cs, M, rfl, ha, hI, h64, hnd, hM, q⟩ := h
    refine ⟨_, pss_cons (ps_set (i := 2) scLFi.nd rfl (.inl rfl) (pe_lst pa_nil))
      (pss_cons (ps_set (i := 3) scLFi.nd rfl (.inl rfl) (pe_lst (pa_cons (pe_tup (pa_cons pe_str (pa_cons (pv 0) pa_nil))) pa_nil)))
      (pss_cons (ps_for PassesOwn.never rfl (pi_range1 (by rfl) T.range (pa_cons (pe_op op_add (pv 1) pe_int) pa_nil)) (pg_name (i := 4) scLFi.nd rfl (.inl rfl))
        (pss_cons (ps_for PassesOwn.never rfl (pi_list (pv 3)) (pg_tup rfl (pgs_cons (pg_name (i := 5) scLFi.nd rfl (.inr rfl)) (pgs_cons (pg_name (i := 6) scLFi.nd rfl (.inr rfl)) pgs_nil)))
          (pss_one (ps_if (pt_cmpR (r := rNotInD K) (op_notInD (u65 hr)) (pe_call GL hr (by rfl) NL.m NL.kp NL.b .nil pass0 (pa_cons (pv 6) pa_nil))
              (pe_lc (own := [("_law_one", 8)]) (g := gName 8) rfl scLFi.nd (pi_list (pv 2)) (blkOk_by (own := [("_law_one", 8)]) (N := nLFi) (sc := defScope lFirsts) (by decide +kernel)) (fun _ _ _ _ _ => pg_name (i := 8) scLFi.nd rfl (.inl rfl)) (fun _ _ _ _ _ => pts_nil) (fun _ _ _ _ _ => pe_ix (r := rIxT K) ix_tup (pv 8) pe_int (fun _ _ => rfl))) (by rfl))
            (pss_one (ps_expr (pe_bm PySem.F.plainAttrs_list PySem.F.slot_list_append PySem.F.type_list_append mt_append (pv 2) (pa_cons (pe_tup (pa_cons (pv 5) (pa_cons (pe_call GL hr (by rfl) NL.m NL.kp NL.b .nil pass0 (pa_cons (pv 6) pa_nil)) pa_nil))) pa_nil)))) pss_nil)))
        (pss_cons (ps_set (i := 7) scLFi.nd rfl (.inl rfl) (pe_lst pa_nil))
        (pss_cons (ps_for PassesOwn.never rfl (pi_list (pv 3)) (pg_tup rfl (pgs_cons (pg_name (i := 5) scLFi.nd rfl (.inr rfl)) (pgs_cons (pg_name (i := 6) scLFi.nd rfl (.inr rfl)) pgs_nil)))
          (pss_one (ps_expr (pe_bm PySem.F.plainAttrs_list PySem.F.slot_list_extend PySem.F.type_list_extend mt_extend (pv 7) (pa_cons
            (pe_lc (own := [("_law_edge", 9)]) (g := gName 9) rfl scLFi.nd (pi_str pe_str) (blkOk_by (own := [("_law_edge", 9)]) (N := nLFi) (sc := defScope lFirsts) (by decide +kernel)) (fun _ _ _ _ _ => pg_name (i := 9) scLFi.nd rfl (.inr rfl)) (fun _ _ _ _ _ => pts_nil)
              (fun _ _ _ _ _ => pe_tup (pa_cons (pe_op op_add_str (pv 5) (pv 9)) (pa_cons (pe_lc (wi := iList K (tVar 6)) (own := [("_law_cell", 10)]) (g := gName 10) rfl scLFi.nd (pi_list (pv 6)) (blkOk_by (own := [("_law_cell", 10)]) (N := nLFi) (sc := fiScope) (by decide +kernel)) (fun _ _ _ _ _ => pg_name (i := 10) scLFi.nd rfl (.inl rfl)) (fun _ _ _ _ _ => pts_nil)
                (fun _ _ _ _ _ => pe_call GQ hr (by rfl) NQ.m NQ.kp NQ.b .nil pass0 (pa_cons (pv 9) (pa_cons (pv 10) pa_nil)))) pa_nil)))) pa_nil)))))
        (pss_one (ps_set (i := 3) scLFi.nd rfl (.inl rfl) (pv 7)))))))
      (pss_one (ps_ret (pv 2))))), ?_⟩
    refine ⟨Nat.zero_le _, fun R hR => ?_⟩
    have kR : Kp [] H (upd H R (.lst [])) := Kp.new hR
    have eR : upd H R (.lst []) R = some (.lst []) := upd_same
    generalize upd H R (.lst []) = H0 at kR eR ⊢
    refine nameI (i := 2) (v := .ref R) (σ := [some (.ref a), some (.int (M : Int)), none, none, none, none, none, none, none, none, none]) ?_
    refine ⟨_, rfl, (by show 2 ≤ sizeLine; decide), fun t0 ht0 => ?_⟩
    have kt0 : Kp [] H0 (upd H0 t0 (.tup [.str "", .ref a])) := Kp.new ht0
    have et0 : SqT K (upd H0 t0 (.tup [.str "", .ref a])) t0 [.str "", .ref a] := SqT.of upd_same
    generalize upd H0 t0 (.tup [.str "", .ref a]) = H1 at kt0 et0 ⊢
    refine ⟨(by show 1 ≤ sizeLine; decide), fun W hW => ?_⟩
    have kW : Kp [] H1 (upd H1 W (.lst [.ref t0])) := Kp.new hW
    have eW : upd H1 W (.lst [.ref t0]) W = some (.lst [.ref t0]) := upd_same
    have WR : W ≠ R := fun z => by
      have := kt0.lst eR List.not_mem_nil
      rw [z, this] at hW
      cases hW
    have aR : a ≠ R := fun z => by rw [z, hR] at ha; cases ha
    generalize upd H1 W (.lst [.ref t0]) = H2 at kW eW ⊢
    refine nameI (i := 3) (v := .ref W) (σ := [some (.ref a), some (.int (M : Int)), some (.ref R), none, none, none, none, none, none, none, none]) ?_
    have k2 := kR.trans (kt0.trans kW)
    have row0 : TRows K H2 (fun b => b ≠ R) [.ref t0] (LW cs 0) := .cons ⟨t0, a, xs, rfl, kW.sqT et0, k2.lst ha List.not_mem_nil, items_mono k2 hI, aR⟩ .nil
    have eR2 := (kt0.trans kW).lst eR List.not_mem_nil
    have c64 : ∀ {n : Nat} {p : Str × List C3}, p ∈ LW cs n → p.2.Nodup ∧ p.2.length ≤ 64 ∧ p.1.length = n := fun h => by
      obtain ⟨h1, h2, h3⟩ := LW_ok hnd h
      exact ⟨h1, by omega, h3⟩
    refine ⟨_, rfl, _, _, rfl, rfl, ((M + 1 : Nat) : Int), rfl, by omega, by omega, for_range (lo := 0) (n := M + 1) (fun n σ H' => Kp [] H H' ∧ ∃ (wd : Addr) (ysF ysW : List V) (o4 o5 o6 o7 : Option V), σ = [some (.ref a), some (.int (M : Int)), some (.ref R), some (.ref wd), o4, o5, o6, o7, none, none, none] ∧ wd ≠ R ∧ H' R = some (.lst ysF) ∧
        TRows K H' (fun b => H b = none ∧ b ≠ R) ysF (FB cs n) ∧ H' wd = some (.lst ysW) ∧ TRows K H' (fun b => b ≠ R) ysW (LW cs n))
      ⟨k2, W, [], [.ref t0], none, none, none, none, rfl, WR, eR2, .nil, eW, row0⟩ (fun n σ H' hn pv => ?st) (fun σ H' pv => ?en)⟩
    case en =>
      obtain ⟨kk, wd, ysF, ysW, o4, o5, o6, o7, rfl, wR, hF, rF, hw, rw'⟩ := pv
      exact ⟨_, rfl, q H' R ysF kk hR hF rF⟩
    case st =>
      obtain ⟨kk, wd, ysF, ysW, o4, o5, o6, o7, rfl, wR, hF, rF, hw, rW⟩ := pv
      have lW := LW_len cs n
      have h81 : 3 ^ n ≤ 81 := Nat.le_trans (Nat.pow_le_pow_right (by decide) (show n ≤ 4 by omega)) (by decide)
      have l24 := FB_24 hnd n
      have eL := LW_lev hnd n
      have lyW := paired_len rW
      have gW : ∀ b, b ≠ R → b ∉ [R] := fun b z m => z (List.mem_singleton.mp m)
      rw [Int.zero_add]
      refine ⟨_, rfl, wd, rfl, ⟨_, SqL.of hw⟩, for_list (K := K) (a := wd) (xs := ysW) (fun i σ H3 => Kp [] H H3 ∧ Kp [R] H' H3 ∧ ∃ (ys3 : List V) (o5 o6 : Option V), σ = [some (.ref a), some (.int (M : Int)), some (.ref R), some (.ref wd), some (.int (n : Int)), o5, o6, o7, none, none, none] ∧ H3 R = some (.lst ys3) ∧
          TRows K H3 (fun b => H b = none ∧ b ≠ R) ys3 (((LT cs n).take i).foldl Fw.addT (FB cs n)))
        ⟨kk, Kp.refl _ _, ysF, o5, o6, rfl, hF, rF⟩ (fun i σ H3 _ pv => pv.2.1.sqL (SqL.of hw) (fun m => wR (List.mem_singleton.mp m))) (fun i x σ H3 hx pv => ?s1) (fun σ H3 pv => ?e1)⟩
      case s1 =>
        obtain ⟨k3, k3', ys3, o5', o6', rfl, hF3, rF3⟩ := pv
        have rW3 := rW.mono k3' gW
        obtain ⟨⟨w, A'⟩, hp1, _⟩ := paired_fst rW3 hx
        obtain ⟨t, ha', zs7, ey, htp, hha, hit, hga⟩ := tr_get rW3 hp1
        have ex : x = .ref t := by
          rw [hx] at ey
          exact Option.some.inj ey
        subst ex
        obtain ⟨hAn, hA64, hwl⟩ := c64 (List.mem_of_getElem? hp1)
        have hAn : A'.Nodup := hAn
        have hA64 : A'.length ≤ 64 := hA64
        have hi81 : i < 81 := by
          have := (List.getElem?_eq_some_iff.mp hp1).1
          omega
        have eLi : (LT cs n)[i]? = some (w, laidL A') := by
          rw [← eL, List.getElem?_map, hp1]
          rfl
        have eN : ((LT cs n).take (i + 1)).foldl Fw.addT (FB cs n) = Fw.addT (((LT cs n).take i).foldl Fw.addT (FB cs n)) (w, laidL A') := by
          rw [List.take_add_one, eLi, List.foldl_append]
          rfl
        rw [eN]
        have lT : (((LT cs n).take i).foldl Fw.addT (FB cs n)).length ≤ 105 := by
          refine Nat.le_trans addT_len ?_
          rw [List.length_take]
          omega
        generalize ((LT cs n).take i).foldl Fw.addT (FB cs n) = Ti at rF3 lT ⊢
        have yl3 := paired_len rF3
        refine ⟨t, _, rfl, htp, rfl, _, _, rfl, _, _, rfl, rfl, ?_⟩
        refine ⟨_, rfl, .ref ha', A', rfl, cellsL_of hha hit, hA64, hAn, fun H4 p4 ys4 k4 n4 h4 i4 => ?_⟩
        have hF4 := k4.lst hF3 List.not_mem_nil
        have rF4 := rF3.mono k4 (fun _ _ => List.not_mem_nil)
        refine ⟨_, rfl, R, rfl, ⟨_, SqL.of hF4⟩, fun D hD => lc_listA (K := K) Ti (fun v r H => ∃ t a zs, v = .ref t ∧ SqT K H t [.str r.1, .ref a] ∧ H a = some (.lst zs) ∧ Items K H zs r.2 ∧ a ≠ D) (fun H'' x c k ⟨t, a, zs, e, h1, h2, h3, h4⟩ => ⟨t, a, zs, e, k.sqT h1, k.lst h2 List.not_mem_nil, items_mono k h3, h4⟩) (fun _ => true)
          (fun y r H => ∃ a zs, y = .ref a ∧ H a = some (.lst zs) ∧ Items K H zs r.2 ∧ a ≠ D) (fun S H1 H2 y c hS k ⟨a, zs, e, h1, h2, h3⟩ => ⟨a, zs, e, k.lst h1 (fun m => h3 (hS _ m)), items_mono k h2, h3⟩) hD (SqL.of hF4) ((rF4.new hD).imp (fun b g => g.2)) (by omega) (fun j c x H'' Nx Z hc k hx nx _ => ?s) (fun H5 ys5 k5 h5 hp5 => ?d)⟩
        case s =>
          obtain ⟨t', a', zs', rfl, h1, h2, h3, h4⟩ := hx
          exact ⟨rfl, yesI ⟨_, rfl, t', _, 1, _, rfl, rfl, h1, rfl, nx _ _ (Kp.refl _ _) rfl ⟨a', zs', rfl, h2, h3, h4⟩⟩⟩
        case d =>
          rw [List.filter_eq_self.mpr fun _ _ => rfl] at hp5
          have dd : DpAll K H5 ys5 (Ti.map fun r => PyData.list (r.2.map cD)) := paired_dps (paired_imp (fun y c ⟨a, zs, e, h1, h2, _⟩ => by rw [e]; exact cellsL_of h1 h2) hp5)
          refine ⟨.list ((laidL A').map cD), _, cellsL_of (k5.lst h4 List.not_mem_nil) (items_mono k5 i4), .lst (SqL.of h5) dd, cDs_shapedL _, lists_shaped _, _, rfl, ?_⟩
          rw [eqvLs]
          have k35 := k4.trans k5
          have hF5 := k5.lst hF4 List.not_mem_nil
          have rF5 := rF4.mono k5 (fun _ _ => List.not_mem_nil)
          by_cases hin : laidL A' ∈ Fw.sts Ti
          · refine iteF' (by rw [decide_eq_true hin]; rfl) ?_
            have eA : Fw.addT Ti (w, laidL A') = Ti := if_pos hin
            exact ⟨k3.trans k35, k3'.trans k35.w0, ys3, _, _, rfl, hF5, by rw [eA]; exact rF5⟩
          · refine iteT' (by rw [decide_eq_false hin]; rfl) ?_
            have eA : Fw.addT Ti (w, laidL A') = Ti ++ [(w, laidL A')] := if_neg hin
            refine ⟨_, rfl, .inl ⟨rfl, _, SqL.of hF5⟩, _, rfl, _, rfl, .ref ha', A', rfl, cellsL_of (k35.lst hha List.not_mem_nil) (items_mono k35 hit), hA64, hAn, fun H6 p6 ys6 k6 n6 h6 i6 => ⟨(by show 2 ≤ sizeLine; decide), fun t6 ht6 => ?_⟩⟩
            have k7 : Kp [] H6 (upd H6 t6 (.tup [.str w, .ref p6])) := Kp.new ht6
            have e7 : SqT K (upd H6 t6 (.tup [.str w, .ref p6])) t6 [.str w, .ref p6] := SqT.of upd_same
            generalize upd H6 t6 (.tup [.str w, .ref p6]) = H7 at k7 e7 ⊢
            have k67 := k6.trans k7
            have hF7 := k67.lst hF5 List.not_mem_nil
            have kc : Kp [R] H7 (upd H7 R (.lst (ys3 ++ [.ref t6]))) := Kp.chg hF7 (List.mem_singleton.mpr rfl)
            have g : ∀ b, (H b = none ∧ b ≠ R) → b ∉ [R] := fun b z m => z.2 (List.mem_singleton.mp m)
            have pR : p6 ≠ R := fun z => by rw [z, hF5] at n6; cases n6
            have f6 := (k3.trans k35).free p6 n6
            refine ⟨R, ys3, _, rfl, rfl, hF7, small_size (by omega), (k3.trans (k35.trans k67)).chg0 hR hF7, (k3'.trans (k35.trans k67).w0).trans kc, ys3 ++ [.ref t6], _, _, rfl, upd_same, ?_⟩
            rw [eA]
            exact tr_append ((rF5.mono k67 (fun _ _ => List.not_mem_nil)).mono kc g) (.cons ⟨t6, p6, ys6, rfl, kc.sqT e7, kc.lst (k7.lst h6 List.not_mem_nil) (fun m => pR (List.mem_singleton.mp m)), items_mono kc (items_mono k7 i6), f6, pR⟩ .nil)
      case e1 =>
        obtain ⟨k3, k3', ys3, o5', o6', rfl, hF3, rF3⟩ := pv
        have eF : ((LT cs n).take ysW.length).foldl Fw.addT (FB cs n) = FB cs (n + 1) := by
          rw [List.take_of_length_le (by rw [← eL, List.length_map, lyW]; exact Nat.le_refl _), FB_succ]
        rw [eF] at rF3
        have rW3 := rW.mono k3' gW
        have hw3 := k3'.lst hw (fun m => wR (List.mem_singleton.mp m))
        clear eF k3' hF rF rW hw
        refine ⟨Nat.zero_le _, fun G hG => ?_⟩
        have kG : Kp [] H3 (upd H3 G (.lst [])) := Kp.new hG
        have eG : upd H3 G (.lst []) G = some (.lst []) := upd_same
        have GR : G ≠ R := fun z => by rw [z, hF3] at hG; cases hG
        have GW : G ≠ wd := fun z => by rw [z, hw3] at hG; cases hG
        have rWG := rW3.new hG
        have hF4 := kG.lst hF3 List.not_mem_nil
        have rF4 := (rF3.new hG).mono kG (fun _ _ => List.not_mem_nil)
        have hw4 := kG.lst hw3 List.not_mem_nil
        have rW4 := rWG.mono kG (fun _ _ => List.not_mem_nil)
        have fG := k3.free G hG
        have k04 := k3.trans kG
        generalize upd H3 G (.lst []) = H4 at kG eG hF4 rF4 hw4 rW4 k04 ⊢
        refine nameI (i := 7) (v := .ref G) (σ := [some (.ref a), some (.int (M : Int)), some (.ref R), some (.ref wd), some (.int (n : Int)), o5', o6', o7, none, none, none]) ?_
        refine ⟨_, rfl, wd, rfl, ⟨_, SqL.of hw4⟩, for_list (K := K) (a := wd) (xs := ysW) (fun i σ H5 => Kp [] H H5 ∧ Kp [G] H4 H5 ∧ ∃ (ys5 : List V) (o5 o6 : Option V), σ = [some (.ref a), some (.int (M : Int)), some (.ref R), some (.ref wd), some (.int (n : Int)), o5, o6, some (.ref G), none, none, none] ∧ H5 G = some (.lst ys5) ∧ ys5.length ≤ 3 * i ∧
            TRows K H5 (fun b => b ≠ R ∧ b ≠ G) ys5 (((LW cs n).take i).flatMap kidsW))
          ⟨k04, Kp.refl _ _, [], o5', o6', rfl, eG, Nat.zero_le _, .nil⟩ (fun i σ H5 _ pv => pv.2.1.sqL (SqL.of hw4) (fun m => GW (List.mem_singleton.mp m).symm)) (fun i x σ H5 hx pv => ?s2) (fun σ H5 pv => ?e2)⟩
        case e2 =>
          obtain ⟨k5, k5', ys5, o5, o6, rfl, h5, _, r5⟩ := pv
          have eK : ((LW cs n).take ysW.length).flatMap kidsW = LW cs (n + 1) := by
            rw [List.take_of_length_le (by rw [lyW]; exact Nat.le_refl _)]
            rfl
          rw [eK] at r5
          refine ⟨_, rfl, ?_⟩
          exact ⟨k5, G, ys3, ys5, _, _, _, _, rfl, GR, k5'.lst hF4 (fun m => GR (List.mem_singleton.mp m).symm), (rF4.mono k5' (fun b z m => z.2 (List.mem_singleton.mp m))).imp (fun b z => z.1), h5, r5.imp fun b z => z.1⟩
        case s2 =>
          obtain ⟨k5, k5', ys5, o5, o6, rfl, h5, l5, r5⟩ := pv
          have gG : ∀ b, (b ≠ R ∧ b ≠ G) → b ∉ [G] := fun b z m => z.2 (List.mem_singleton.mp m)
          have rW5 := rW4.mono k5' gG
          obtain ⟨⟨w, A'⟩, hp1, _⟩ := paired_fst rW5 hx
          obtain ⟨t, ha', zs7, ey, htp, hha, hit, hga⟩ := tr_get rW5 hp1
          have ex : x = .ref t := by
            rw [hx] at ey
            exact Option.some.inj ey
          subst ex
          obtain ⟨hAn, hA64, hwl⟩ := c64 (List.mem_of_getElem? hp1)
          have hAn : A'.Nodup := hAn
          have hA64 : A'.length ≤ 64 := hA64
          have hwl : w.length = n := hwl
          have hi81 : i < 81 := by
            have := (List.getElem?_eq_some_iff.mp hp1).1
            omega
          have eK : ((LW cs n).take (i + 1)).flatMap kidsW = ((LW cs n).take i).flatMap kidsW ++ kidsW (w, A') := by
            rw [List.take_add_one, hp1, List.flatMap_append]
            simp
          rw [eK]
          generalize ((LW cs n).take i).flatMap kidsW = Ti at r5 ⊢
          refine ⟨t, _, rfl, htp, rfl, _, _, rfl, _, _, rfl, rfl, ?_⟩
          refine ⟨_, rfl, .inl ⟨rfl, _, SqL.of h5⟩, "xyz", rfl, fun D hD => lc_it walk_str (fun j H6 => Kp [] H5 H6 ∧ ∃ acc, H6 D = some (.lst acc) ∧ acc.length ≤ j ∧ TRows K H6 (fun b => b ≠ R ∧ b ≠ G ∧ b ≠ D) acc ((kidsW (w, A')).take j))
            ⟨Kp.new hD, [], upd_same, Nat.zero_le _, .nil⟩ (fun _ _ _ _ => trivial) (fun j x H6 H7 hj pv y => ?s3) (fun H6 pv => ?e3)⟩
          case e3 =>
            obtain ⟨k6, acc, hA, lA, rA⟩ := pv
            have e3 : (kidsW (w, A')).take (Str.ofString "xyz").cps.size = kidsW (w, A') := List.take_of_length_le (by show 3 ≤ _; decide +kernel)
            rw [e3] at rA
            have lA3 : acc.length ≤ 3 := lA
            have h6 := k6.lst h5 List.not_mem_nil
            have kc : Kp [G] H6 (upd H6 G (.lst (ys5 ++ acc))) := Kp.chg h6 (List.mem_singleton.mpr rfl)
            refine ⟨G, D, ys5, acc, rfl, rfl, h6, hA, Nat.le_of_lt (small_size (by omega)), (k5.trans k6).chg0 fG h6, (k5'.trans k6.w0).trans kc, ys5 ++ acc, _, _, rfl, upd_same, by rw [List.length_append]; omega, ?_⟩
            exact tr_append ((r5.mono k6 (fun _ _ => List.not_mem_nil)).mono kc gG) ((rA.mono kc (fun b z m => z.2.1 (List.mem_singleton.mp m))).imp fun b z => ⟨z.1, z.2.1⟩)
          case s3 =>
            obtain ⟨k6, acc, hA, lA, rA⟩ := pv
            obtain ⟨rfl, c, hc, rfl⟩ := y
            obtain ⟨e, hEe, ec⟩ := xyz_at hc
            rw [ec]
            have hj3 : j < 3 := hj
            have eK3 : (kidsW (w, A')).take (j + 1) = (kidsW (w, A')).take j ++ [(extW w e, A'.map (tE e))] := by
              have hg : (kidsW (w, A'))[j]? = some (extW w e, A'.map (tE e)) := by
                unfold kidsW
                rw [List.getElem?_map, hEe]
                rfl
              rw [List.take_add_one, hg]
              rfl
            have hha6 := k6.lst hha List.not_mem_nil
            have hit6 := items_mono k6 hit
            refine ⟨rfl, yesI ?_⟩
            refine ⟨_, rfl, _, rfl, w, eS e, rfl, rfl, (by rw [eS_len1, hwl]; exact Nat.le_trans (show n + 1 ≤ 5 by omega) (by decide)), _, rfl, ha', rfl, ⟨_, SqL.of hha6⟩, fun D2 hD2 => lc_map (K := K) (tE e) (Kp.refl _ _) hD2 (SqL.of hha6) hit6 hA64
              (fun c pc H' Nx Z k hp nx => ⟨rfl, yesI ⟨_, rfl, _, rfl, e, .ref pc, c, rfl, dp_c hp, fun H'' p'' k'' hp'' => nx p'' H'' k'' hp''⟩⟩) (fun H8 ys8 k8 h8 i8 => ⟨(by show 2 ≤ sizeLine; decide), fun t8 ht8 => ?new⟩)⟩
            case new =>
              have k9 : Kp [] H8 (upd H8 t8 (.tup [.str (w ++ eS e), .ref D2])) := Kp.new ht8
              have e9 : SqT K (upd H8 t8 (.tup [.str (w ++ eS e), .ref D2])) t8 [.str (w ++ eS e), .ref D2] := SqT.of upd_same
              generalize upd H8 t8 (.tup [.str (w ++ eS e), .ref D2]) = H9 at k9 e9 ⊢
              have k89 := k8.trans k9
              have hA9 := k89.lst hA List.not_mem_nil
              have kc : Kp [D] H9 (upd H9 D (.lst (acc ++ [.ref t8]))) := Kp.chg hA9 (List.mem_singleton.mpr rfl)
              have gD : ∀ b, (b ≠ R ∧ b ≠ G ∧ b ≠ D) → b ∉ [D] := fun b z m => z.2.2 (List.mem_singleton.mp m)
              have dR : D2 ≠ R := fun z => by
                have := k6.lst (k5'.lst hF4 (fun m => GR (List.mem_singleton.mp m).symm)) List.not_mem_nil
                rw [z, this] at hD2
                cases hD2
              have dG : D2 ≠ G := fun z => by rw [z, k6.lst h5 List.not_mem_nil] at hD2; cases hD2
              have dD : D2 ≠ D := fun z => by rw [z, hA] at hD2; cases hD2
              refine ⟨acc, hA9, small_size (by omega), (k6.trans k89).chg0 hD hA9, acc ++ [.ref t8], upd_same, by rw [List.length_append]; show _ + 1 ≤ _; omega, ?_⟩
              rw [eK3]
              exact tr_append ((rA.mono k89 (fun _ _ => List.not_mem_nil)).mono kc gD) (.cons ⟨t8, D2, ys8, rfl, kc.sqT e9, kc.lst (k9.lst h8 List.not_mem_nil) (fun m => dD (List.mem_singleton.mp m)), items_mono kc (items_mono k9 i8), dR, dG, dD⟩ .nil)
end
end LP
end

section
set_option Elab.async false
set_option linter.all false
set_option maxRecDepth 100000
set_option maxHeartbeats 3200000
/-! set(xs) of nested tuples, fewer than 60 -/
namespace GN
open PySem PySem.Spec PyProof.Rows L2 Ly GY GZ
structure GotN (ks : List (Addr × NestedKey)) (i : Nat) (L : List (Addr × NestedKey)) : Prop where
  sub : ∀ p ∈ L, p ∈ ks.take i
  all : ∀ p ∈ ks.take i, p.2 ∈ L.map (·.2)
  len : L.length ≤ i
theorem GotN.zero (ks : List (Addr × NestedKey)) : GotN ks 0 [] := ⟨fun p h => (by cases h), fun p h => (by simp at h), Nat.le_refl _⟩
theorem GotN.same {ks L : List (Addr × NestedKey)} {i : Nat} {x : Addr × NestedKey} (g : GotN ks i L) (h : ks[i]? = some x) (hm : x.2 ∈ L.map (·.2)) : GotN ks (i + 1) L := by
  refine ⟨fun p hp => ?_, fun p hp => ?_, Nat.le_succ_of_le g.len⟩
  · rw [take_next h]
    exact List.mem_append_left _ (g.sub p hp)
  · rw [take_next h] at hp
    rcases List.mem_append.mp hp with z | z
    · exact g.all p z
    · rw [List.mem_singleton.mp z]; exact hm
theorem GotN.more {ks L L' : List (Addr × NestedKey)} {i : Nat} {x : Addr × NestedKey} (g : GotN ks i L) (h : ks[i]? = some x) (pm : L'.Perm (x :: L)) : GotN ks (i + 1) L' := by
  refine ⟨fun p hp => ?_, fun p hp => ?_, ?_⟩
  · rw [take_next h]
    rcases List.mem_cons.mp (pm.mem_iff.mp hp) with e | z
    · rw [e]; exact List.mem_append_right _ (List.mem_singleton.mpr rfl)
    · exact List.mem_append_left _ (g.sub p z)
  · rw [(pm.map (·.2)).mem_iff, List.map_cons]
    rw [take_next h] at hp
    rcases List.mem_append.mp hp with z | z
    · exact List.mem_cons_of_mem _ (g.all p z)
    · rw [List.mem_singleton.mp z]; exact List.mem_cons_self
  · rw [pm.length_eq, List.length_cons]
    exact Nat.succ_le_succ g.len
section
variable {P : Program} {w : World} {A : Around} {E : Value → Shared → Prop} {s : Shared}
/-- the loop of set.update, the keys among at most 64 -/
theorem upd_loopN {I : Addr} {fp wr : List Addr} {G : Array GenState → Array GenState → Prop} {n : Nat} {Pv : Nat → Value → Prop} {St : Nat → Shared → Prop} {R : Result → Shared → Prop}
    (W : WalksS P w A.in1 I fp wr G n Pv St) (S : Addr) (hSf : S ∉ fp) (ks : List (Addr × NestedKey)) (hU : ks.length < 60) (hn : n = ks.length) (hval : ∀ i v, Pv i v → ∃ p, ks[i]? = some p ∧ v = .ref p.1)
    (h0 : Heap) (hk : ∀ p ∈ ks, IsN P w h0 p.2 p.1) (hS0 : h0.get? S = none) (hw0 : ∀ b ∈ wr, h0.get? b = none) (hu : A.in1.units + 12 < cLine) :
    ∀ (k i : Nat) (s : Shared), n - i = k → i ≤ n → St i s → (∀ b o, h0.get? b = some o → s.heap.get? b = some o) → (∃ L es ep t, SN P w s.heap S L es ep t ∧ GotN ks i L) →
      (∀ s' L es ep t, Moved (S :: wr) G s s' → SN P w s'.heap S L es ep t → GotN ks n L → (∀ b o, h0.get? b = some o → s'.heap.get? b = some o) → R (.ok (.ret .none)) s') →
      codeAny (model P w) A (.builtin "set.update.loop" ⟨[.ref S, .ref I], []⟩) R s := by
  have hSw : S ∉ wr := fun h => hSf (W.sub _ h)
  have hsub : ∀ b ∈ wr, b ∈ S :: wr := fun b hb => List.mem_cons_of_mem _ hb
  have keepM : ∀ {s s' : Shared}, Moved wr G s s' → (∀ b o, h0.get? b = some o → s.heap.get? b = some o) → ∀ b o, h0.get? b = some o → s'.heap.get? b = some o := fun hm hkp b o e =>
    hm.heap b o (fun hb => by rw [hw0 b hb] at e; cases e) (hkp b o e)
  have few : ∀ {i : Nat} {L : List (Addr × NestedKey)} {p : Addr × NestedKey}, GotN ks i L → i < n → p.2 ∈ L.map (·.2) ∨ L.length + 1 < 60 := fun {i L p} g hi => .inr (by have := g.len; omega)
  intro k
  induction k with
  | zero =>
    intro i s hk' hi hst hkp ⟨L, es, ep, t, hS, g⟩ hR
    obtain rfl : i = n := by omega
    refine codeAny_builtin PyProof.Rows.F.entry_set_update_loop ?_
    rw [Around.under_plainId PyProof.Rows.F.plain_set_update_loop _]
    show wpAny _ A.in1 (pyNext (.ref I) >>= _) _ _ s
    refine wpAny_bind (W.done s _ _ hst fun s' hm => ?_)
    show wpAny _ A.in1 (ret Value.none) _ _ s'
    have hkp' := keepM hm hkp
    exact wpAny_pure (hR s' L es ep t (hm.mono hsub) (hS.keep (fun o e => hm.heap S o hSw e) fun p hp => (hk p (List.mem_of_mem_take (g.sub p hp))).keep hkp') g hkp')
  | succ k ih =>
    intro i s hk' hi hst hkp ⟨L, es, ep, t, hS, g⟩ hR
    have hlt : i < n := by omega
    refine codeAny_builtin PyProof.Rows.F.entry_set_update_loop ?_
    rw [Around.under_plainId PyProof.Rows.F.plain_set_update_loop _]
    show wpAny _ A.in1 (pyNext (.ref I) >>= _) _ _ s
    refine wpAny_bind (W.item i s _ _ hlt hst fun v s' hP hst' hm => ?_)
    obtain ⟨p, hp, rfl⟩ := hval i v hP
    have hkp' := keepM hm hkp
    have hS' : SN P w s'.heap S L es ep t := hS.keep (fun o e => hm.heap S o hSw e) fun q hq => (hk q (List.mem_of_mem_take (g.sub q hq))).keep hkp'
    have hpm : p ∈ ks := List.mem_of_getElem? hp
    have hx : IsN P w s'.heap p.2 p.1 := (hk p hpm).keep hkp'
    show wpAny _ A.in1 (holding [Value.ref p.1] (setAdd S (.ref p.1)) >>= _) _ _ s'
    refine wpAny_bind (wpAny_holding ?_)
    unfold setAdd
    refine wpAny_holding ?_
    refine wpAny_bind ((kn P w).pyHash (by show A.in1.units + 8 < cLine; omega) hx.kn ?_)
    refine add_n (s := { s' with toks := s'.toks + p.2.draws }) hS' hx (by simp only [Around.in1_units] at hu ⊢; omega) (few g hlt) fun b h' L' es' ep' t' hsb hS2 c1 c2 => ?_
    have g' : GotN ks (i + 1) L' := by
      by_cases c : p.2 ∈ L.map (·.2)
      · rw [c1 c]; exact g.same hp c
      · exact g.more hp (c2 c)
    have hkp2 : ∀ b o, h0.get? b = some o → h'.get? b = some o := fun b o e => (hsb.2 b (fun z => by rw [z, hS0] at e; cases e)).trans (hkp' b o e)
    refine wpAny_pure ⟨plainId_quiet PyProof.Rows.F.plain_set_update_loop _, ih (i + 1) _ (by omega) hlt (W.frame _ s' _ _ hst' (Nat.le_add_right _ _) fun b hb o e => ?_) hkp2 ⟨L', es', ep', t', hS2, g'⟩ fun s'' L2 es2 ep2 t2 hm'' hS'' g'' hkp'' => ?_⟩
    · rw [hsb.2 b (fun h : b = S => hSf (by rw [← h]; exact hb))]
      exact e
    · refine hR s'' L2 es2 ep2 t2 (Moved.trans W.gtrans ((hm.mono hsub).then_heap (Nat.le_add_right _ _) fun b o hb e => ?_) hm'') hS'' g'' hkp''
      rw [hsb.2 b (fun h : b = S => hb (by rw [h]; exact List.mem_cons_self))]
      exact e

/-- its filling: what set.__init__ does with a list or a tuple that is walked by W -/
theorem set_ofN {vv : Value} {items : Array Value} (ks : List (Addr × NestedKey)) (hU : ks.length < 60) {Q : Value → Shared → Prop}
    (hu : A.units + 16 < cLine)
    (hinit : ∀ (R : Result → Shared → Prop), (∀ (h' : Heap) (tk : Nat) L es ep t, SN P w h' s.heap.objs.size L es ep t → GotN ks ks.length L → (∀ b o, s.heap.get? b = some o → h'.get? b = some o) → R (.ok (.ret .none)) { s with heap := h', toks := tk }) →
      wpAny (model P w) A.in1.in1 (Builtin.«set.__init__» ⟨[.ref s.heap.objs.size, vv], []⟩) (fun fin s' => match fin with | .done f => R (.ok f) s' | .again c' => c'.quiet = true ∧ codeAny (model P w) A.in1 c' R s') (fun e s' => R (.error e) s') { s with heap := s.heap.push (newSetObj w) })
    (h : ∀ (h' : Heap) (tk : Nat) L es ep t, SN P w h' s.heap.objs.size L es ep t → GotN ks ks.length L → (∀ b o, s.heap.get? b = some o → h'.get? b = some o) → Q (.ref s.heap.objs.size) { s with heap := h', toks := tk }) :
    wpAny (model P w) A (call (.type "set") [vv]) Q E s := by
  obtain ⟨c, tl, hmro⟩ := PySem.F.called_set.mro
  have hmade := PySem.F.called_set.made
  have hsub := PySem.F.called_set.sub
  refine wpAny_call (codeAny_of_tree ?_)
  show wpAny _ _ (callAny (.type "set") _) _ _ _
  refine wpAny_pure ⟨Code.quiet_builtin _ (by decide +kernel), codeAny_builtin PySem.F.entry_type_call ?_⟩
  rw [Around.under_plain (weight_type_call_type "set" [vv] []) rfl]
  have h1 := PySem.F.called_set.notType
  have h2 := PySem.F.called_set.canCreate
  have hct := PySem.F.typeCall_set_1 vv
  repeat (any_goals (first | assumption | wp_step))
  refine codeAny_mono (code_set_led1 vv (E := E) (Q₁ := fun obj s₁ => obj = .ref s.heap.objs.size ∧ s₁ = { s with heap := s.heap.push (newSetObj w) }) ⟨rfl, rfl⟩) fun r s₁ hr => ?_
  cases r with
  | error e => exact hr
  | ok fl =>
    cases fl with
    | ret obj =>
      obtain ⟨rfl, rfl⟩ := hr
      have hS : (s.heap.push (newSetObj w)).get? s.heap.objs.size = some (newSetObj w) := Heap.get?_push_size _ rfl
      have hT : Shared.TypeIs { s with heap := s.heap.push (newSetObj w) } (.ref s.heap.objs.size) "set" := ⟨_, hS, rfl⟩
      have hli := PySem.F.called_set.init.lookup
      have hbi := PySem.F.called_set.init.bind (.ref s.heap.objs.size)
      repeat (any_goals (first | assumption | wp_step))
      refine codeAny_mono (codeAny_call_builtin (R := wants (fun r s₂ => r = .none ∧ ∃ h' tk L es ep t, s₂ = { s with heap := h', toks := tk } ∧ SN P w h' s.heap.objs.size L es ep t ∧ GotN ks ks.length L ∧
          (∀ b o, s.heap.get? b = some o → h'.get? b = some o)) E) PySem.F.called_set.init.plain PySem.F.entry_set_init (check_set_init_1 hT ?_)) fun r₂ s₂ hr₂ => ?_
      · exact hinit _ fun h' tk L es ep t a1 a2 a3 => ⟨rfl, h', tk, L, es, ep, t, rfl, a1, a2, a3⟩
      · cases r₂ with
        | error e => exact hr₂
        | ok fl₂ =>
          cases fl₂ with
          | ret r =>
            obtain ⟨rfl, h', tk, L, es, ep, t, rfl, hS', g', hk'⟩ := hr₂
            repeat (any_goals (first | assumption | wp_step))
            exact h _ _ _ _ _ _ hS' g' hk'
          | _ => exact hr₂.elim
    | _ => exact hr.elim
/-- set(xs), xs a list of tuples of ints, among at most 64 -/
theorem call_set_lstN {l : Addr} {items : Array Value} (ks : List (Addr × NestedKey)) (hU : ks.length < 60) {Q : Value → Shared → Prop} (hh : A.handled = none) (hl : s.heap.IsList l items) (hit : items.toList = ks.map fun p => Value.ref p.1)
    (hk : ∀ p ∈ ks, IsN P w s.heap p.2 p.1) (hu : A.units + 16 < cLine)
    (h : ∀ (h' : Heap) (tk : Nat) L es ep t, SN P w h' s.heap.objs.size L es ep t → GotN ks ks.length L → (∀ b o, s.heap.get? b = some o → h'.get? b = some o) → Q (.ref s.heap.objs.size) { s with heap := h', toks := tk }) :
    wpAny (model P w) A (call (.type "set") [.ref l]) Q E s := by
  have hisz : items.size = ks.length := by
    have q := congrArg List.length hit
    rw [Array.length_toList, List.length_map] at q
    exact q
  refine set_ofN (items := items) ks hU hu (fun R hR => ?_) h
  have hl0 := hl
  obtain ⟨ol, hol, hcl, nl, hdl⟩ := hl
  obtain ⟨ocls, odict, odata, oslots⟩ := ol
  simp only at hcl hdl
  subst hcl
  subst hdl
  have hol' : (s.heap.push (newSetObj w)).get? l = some { cls := .type "list", dict := odict, data := .seq items nl, slots := oslots } := Heap.get?_push_of_some _ hol
  have hsls := PySem.F.sub_list_set
  have hslf := PySem.F.sub_list_frozenset
  have hne : (Value.type "list" == Value.type "dict") = false := by decide
  have hl1 : (s.heap.push (newSetObj w)).IsList l items := ⟨_, hol', rfl, nl, rfl⟩
  unfold Builtin.«set.__init__» noKeywords Builtin.Frozenset.updateFrom
  generalize hPI : pyIter = PI
  wp_walk
  subst hPI
  refine wpAny_pyIter_list hl1 ?_
  refine wpAny_bind (wpAny_runValue ?_)
  have hlS : l < s.heap.objs.size := Heap.lt_size hol
  have hh3 : A.in1.in1.in1.handled = none := by simp [hh]
  have hneI : l ≠ (s.heap.push (newSetObj w)).objs.size := by
    rw [Heap.size_push]; exact Nat.ne_of_lt (Nat.lt_succ_of_lt hlS)
  have hSf : s.heap.objs.size ∉ [(s.heap.push (newSetObj w)).objs.size, l] := by
    rw [Heap.size_push]; simp only [List.mem_cons, List.mem_singleton, List.not_mem_nil, or_false, not_or]
    exact ⟨Nat.ne_of_lt (Nat.lt_succ_self _), Nat.ne_of_gt hlS⟩
  have hval : ∀ (i : Nat) (v : Value), items[i]? = some v → ∃ p, ks[i]? = some p ∧ v = .ref p.1 := fun i v hv => by
    have q : items.toList[i]? = some v := by rw [Array.getElem?_toList]; exact hv
    rw [hit, List.getElem?_map] at q
    cases hq : ks[i]? with
    | none => rw [hq] at q; cases q
    | some p =>
      rw [hq] at q
      exact ⟨p, rfl, (Option.some.inj q).symm⟩
  have none_of : ∀ b, s.heap.objs.size ≤ b → s.heap.get? b = none := fun b hb => by
    cases q : s.heap.get? b with
    | none => rfl
    | some o => exact absurd (Nat.lt_of_lt_of_le (Heap.lt_size q) hb) (Nat.lt_irrefl _)
  refine upd_loopN ((Walks.list hh3 _ l hneI items).toS) s.heap.objs.size
    hSf ks hU hisz hval s.heap hk (none_of _ (Nat.le_refl _)) (fun b hb => none_of b (by
      rw [List.mem_singleton.mp hb, Heap.size_push]
      exact Nat.le_succ _)) (by simp only [Around.in1_units]; omega) (items.size - 0) 0 _ (by omega) (Nat.zero_le _)
    ⟨⟨_, Heap.get?_push_size _ rfl, rfl, rfl⟩, (hl1.push _)⟩ (fun b o e => Heap.get?_push_of_some _ (Heap.get?_push_of_some _ e)) ?hS0 ?hR
  case hS0 =>
    have hget : ((s.heap.push (newSetObj w)).push { cls := .type "list_iterator", data := .fields #[.ref l, .int 0 0] }).get? s.heap.objs.size = some (newSetObj w) := Heap.get?_push_of_some _ (Heap.get?_push_size _ rfl)
    exact ⟨[], #[], 0, _, fresh_n hget, GotN.zero ks⟩
  case hR =>
    intro s' L es ep t hm hS' g' hkp
    obtain ⟨h', g2, d', tk', os'⟩ := s'
    have eg : g2 = s.gens := hm.gens
    have ed : d' = s.drawn := hm.drawn
    have eo : os' = s.os := hm.os
    subst eg
    subst ed
    subst eo
    show wpAny _ _ _ _ _ _
    refine wpAny_pure ?_
    show wpAny _ _ (ret Value.none) _ _ _
    rw [hisz] at g'
    exact wpAny_pure (hR h' tk' L es ep t hS' g' hkp)

end
end GN
end

section
set_option Elab.async false
set_option linter.all false
set_option maxRecDepth 100000
set_option maxHeartbeats 2000000
/-! sorted of a list of data: some arrangement of it -/
namespace GSortP
open PySem PySem.Spec PyProof.Rows L2
section
variable {X : Cx} {α : Type} {enc : α → PyData}
def rSortP (K : PySem.W.Frag) (enc : α → PyData) : List V → Hp → VK → Prop := fun vs H Q => ∃ (v : V) (cs : List α), vs = [v] ∧ Dp K H v (.list (cs.map enc)) ∧ cs.length ≤ sizeLine ∧
  ∀ (ys : List V) (ds : List α) (p : Addr), ds.Perm cs → DpAll K H ys (ds.map enc) → H p = none → Q (.ref p) (upd H p (.lst ys))
theorem each_in {K : PySem.W.Frag} {H : Hp} : ∀ {xs : List V} {us : List Value} {cs : List α}, Vals xs us → DpAll K H xs (cs.map enc) → PySem.W.EachIs (fun (u : Value) (b : V × α) => RelV b.1 u ∧ Dp K H b.1 (enc b.2)) us (xs.zip cs)
  | [], _, _, r, _ => by
    cases r
    exact .nil
  | _ :: _, _, [], _, h => by cases h
  | x :: xs, _, c :: cs, r, h => by
    cases r with
    | cons r1 r2 =>
      cases h with
      | cons h1 h2 => exact .cons ⟨r1, h1⟩ (each_in (xs := xs) (cs := cs) r2 h2)
theorem each_out {K : PySem.W.Frag} {H : Hp} : ∀ {us : List Value} {bs : List (V × α)}, PySem.W.EachIs (fun (u : Value) (b : V × α) => RelV b.1 u ∧ Dp K H b.1 (enc b.2)) us bs → Vals (bs.map (·.1)) us ∧ DpAll K H (bs.map (·.1)) ((bs.map (·.2)).map enc)
  | _, _, .nil => ⟨.nil, .nil⟩
  | _, _, .cons h t => ⟨.cons h.1 (each_out t).1, .cons h.2 (each_out t).2⟩
theorem len_of {K : PySem.W.Frag} {H : Hp} : ∀ {xs : List V} {ds : List PyData}, DpAll K H xs ds → xs.length = ds.length
  | _, _, .nil => rfl
  | _, _, .cons _ t => by rw [List.length_cons, List.length_cons, len_of t]
theorem zip_two : ∀ {xs : List V} {cs : List α}, xs.length = cs.length → (xs.zip cs).map (·.2) = cs
  | [], [], _ => rfl
  | [], _ :: _, h => by simp at h
  | _ :: _, [], h => by simp at h
  | x :: xs, c :: cs, h => by
    have e := zip_two (xs := xs) (cs := cs) (by simpa using h)
    simp [e]
theorem cr_sortP (hu : X.A.units + 64 < cLine) (ha : ∀ a b : α, PySem.W.alike (enc a) (enc b) = true) (ht : ∀ a : α, ∃ x r, enc a = .tuple (x :: r)) (hd : ∀ a : α, (enc a).depth ≤ 60) : CallR X (.builtin "sorted") (rSortP X.K enc) := by
  intro pins s σ H vs us Q I r h
  obtain ⟨v, cs, rfl, hc, hl, q⟩ := h
  cases hc with
  | lst hs hi =>
  rename_i a xs
  cases r with
  | cons r1 r2 =>
    cases r2
    cases r1
    obtain ⟨its, rv, pl, hz⟩ := I.list hs
    have hlen := len_of hi
    rw [List.length_map] at hlen
    have e := each_in rv hi
    have er : PySem.W.EachIs (fun v b => ∃ as, Reads s.heap v ((fun b : V × α => enc b.2) b) as) its (xs.zip cs) := e.mono fun u b h => Dp.reads I (enc b.2) b.1 u h.2 h.1
    have hbl : (xs.zip cs).length = cs.length := by rw [List.length_zip, hlen, Nat.min_self]
    refine PySem.W.sorted_data (enc := fun b : V × α => enc b.2) pl.isList e er (PySem.W.AllAlike.of fun b b' => ha _ _) (PySem.W.Sortable.tuples fun b => ht _) (by rw [hbl]; exact hl)
      (fun b _ => by have := hd b.2; show X.A.units + 2 + (enc b.2).depth < cLine; omega) fun out ho eo => ?_
    obtain ⟨c, hc2⟩ := sortedAll_at s.heap its (List.toArray out)
    generalize hm : List.mergeSort (xs.zip cs) (PySem.W.dataLe false fun b : V × α => enc b.2) = bs at eo
    have pm : bs.Perm (xs.zip cs) := by rw [← hm]; exact List.mergeSort_perm _ _
    obtain ⟨ev, ei⟩ := each_out eo
    have ky : ∀ b o, s.heap.get? b = some o → (sortedAll s.heap its (List.toArray out)).get? b = some o := fun _ _ => sortedAll_old
    have hlz : (bs.map (·.1)).length ≤ sizeLine := by
      rw [List.length_map, pm.length_eq, hbl]
      exact hl
    have hnew : H (s.heap.objs.size + 1) = none := I.hok.fresh (Nat.le_succ _)
    refine ⟨.ref (s.heap.objs.size + 1), _, I.laid (t' := s.toks) (o := .lst (bs.map (·.1))) ky (Nat.le_succ _) ⟨hlz, out, c, ev, hc2⟩, rfl, ?_⟩
    refine q _ (bs.map (·.2)) _ ?_ ei hnew
    have := pm.map (·.2)
    rw [zip_two hlen] at this
    exact this
end
end GSortP
end

section
set_option Elab.async false
set_option linter.all false
set_option maxRecDepth 100000
set_option maxHeartbeats 3200000
/-! sorted of data, in their order: of a list, of a set of nested tuples; one alone too, whatever it is -/
namespace GN
open PySem PySem.Spec PyProof.Rows L2 Ly GY GZ
/-! ### the order -/
def leD (a b : PyData) : Bool := !PySem.W.dataLt b a
abbrev OD : KeyOrd := listOrd itemOrd
theorem leD_trans (a b c : PyData) (h : leD a b = true) (k : leD b c = true) : leD a c = true := by
  unfold leD at *
  cases e : PySem.W.dataLt c a with
  | false => rfl
  | true =>
    have n := OD.negTrans (PySem.W.keyToks c) (PySem.W.keyToks b) (PySem.W.keyToks a) e
    rcases n with n | n
    · have n : PySem.W.dataLt c b = true := n
      rw [n] at k
      cases k
    · have n : PySem.W.dataLt b a = true := n
      rw [n] at h
      cases h
theorem leD_total (a b : PyData) : (leD a b || leD b a) = true := by
  unfold leD
  cases e : PySem.W.dataLt b a with
  | false => rfl
  | true =>
    cases e2 : PySem.W.dataLt a b with
    | false => rfl
    | true =>
      have n := OD.trans (PySem.W.keyToks a) (PySem.W.keyToks b) (PySem.W.keyToks a) e2 e
      rw [OD.irrefl] at n
      cases n
theorem leD_eq {β : Type} (k : β → PyData) : PySem.W.dataLe false k = fun a b => leD (k a) (k b) := PySem.W.dataLe_eq false k
theorem data_depth : ∀ k : NestedKey, k.data.depth ≤ k.depth
  | .none => by simp [NestedKey.data, PyData.depth]
  | .num _ => by simp [NestedKey.data, PyData.depth]
  | .text _ => by simp [NestedKey.data, PyData.depth]
  | .tup ks => by
    have h := datas_depth ks
    simp only [NestedKey.data, PyData.depth, NestedKey.depth]
    omega
where datas_depth : ∀ ks : List NestedKey, PyData.depthAll (NestedKey.datas ks) ≤ NestedKey.depthAll ks
  | [] => by simp [NestedKey.datas, PyData.depthAll]
  | k :: ks => by
    have h1 := data_depth k
    have h2 := datas_depth ks
    simp only [NestedKey.datas, PyData.depthAll, NestedKey.depthAll]
    omega
section
variable {P : Program} {w : World} {A : Around} {E : Value → Shared → Prop} {s : Shared} {β : Type} {vs : List Value} {bs : List β} {enc : β → PyData} {R : Value → β → Prop}
theorem sortsAt_any {ds : List PyData} (e : PySem.W.EachIs (fun v d => ∃ as, Reads s.heap v d as) vs ds) (hal : PySem.W.AllAlike ds) (hn : ∀ d ∈ ds, d ≠ .none) (hk : ds.length ≤ 1 ∨ PySem.W.Sortable ds) (hu : ∀ d, d ∈ ds → A.units + d.depth < cLine) : PySem.W.SortsAt P w A s (PySem.W.dataKind s.heap ds) vs := by
  rcases hk with h1 | hk
  · refine ⟨fun v hv => ?_, general', fun E x y a b Q ha hb hq => ?_, fun h2 => ?_⟩
    · obtain ⟨d, hd, as, r⟩ := e.left v hv
      exact ⟨_, PySem.W.dataKind_some hal hd r⟩
    · obtain ⟨d, as, hd, ra, rfl⟩ := PySem.W.dataKind_inv ha
      obtain ⟨d', as', hd', rb, rfl⟩ := PySem.W.dataKind_inv hb
      show wpAny _ _ (oneLt' false x y) _ _ _
      exact PySem.W.oneLt_alike (fun z => by cases z) ra rb (hal d hd d' hd') (hn d hd) (Nat.lt_of_le_of_lt (Nat.add_le_add_left (Nat.min_le_left _ _) _) (hu d hd)) hq
    · rw [e.length] at h2
      omega
  · exact PySem.W.SortsAt.data e hal hk hu
theorem list_sort_any {a : Addr} {n : Nat} {Q : Value → Shared → Prop} (ho : s.heap.get? a = some (seqObj "list" vs.toArray n)) (e : PySem.W.EachIs R vs bs) (er : PySem.W.EachIs (fun v b => ∃ as, Reads s.heap v (enc b) as ∧ a ∉ as) vs bs) (hal : PySem.W.AllAlike (bs.map enc)) (hn : ∀ d ∈ bs.map enc, d ≠ .none) (hk : (bs.map enc).length ≤ 1 ∨ PySem.W.Sortable (bs.map enc)) (hL : bs.length ≤ sizeLine)
    (hu : ∀ b, b ∈ bs → A.units + 1 + (enc b).depth < cLine) (h : ∀ out, out.length = bs.length → PySem.W.EachIs R out (bs.mergeSort (PySem.W.dataLe false enc)) → Q .none { s with heap := sortedHeap s.heap a vs (List.toArray out) }) :
    wpAny (model P w) A (call (.builtin "list.sort") [.ref a]) Q E s := by
  have er' : PySem.W.EachIs (fun v b => ∃ as, Reads (PySem.W.sortingHeap s.heap a vs) v (enc b) as) vs bs := PySem.W.each_keepBut (h' := PySem.W.sortingHeap s.heap a vs) (fun _ _ hb q => PySem.W.sortingHeap_old hb q) (fun o q => by rw [ho] at q; rw [← Option.some.inj q]) hal er
  have S : PySem.W.SortsAt P w A.in1 { s with heap := PySem.W.sortingHeap s.heap a vs } (PySem.W.dataKind (PySem.W.sortingHeap s.heap a vs) (bs.map enc)) vs :=
    sortsAt_any (s := { s with heap := PySem.W.sortingHeap s.heap a vs }) (PySem.W.each_map (R := fun v d => ∃ as, Reads (PySem.W.sortingHeap s.heap a vs) v d as) enc er') hal hn hk (PySem.W.bound_map hu)
  exact wpAny_call_entry slot_list_sort ⟨_, ho, rfl⟩ entry_list_sort (PySem.W.list_sort_vals ho S (by rw [e.length]; exact hL) ⟨.none, rfl, h _ (by rw [PySem.W.sortVals_length false rfl]; exact e.length) (PySem.W.sortVals_data false e er' hal)⟩) (args_list_sort _)
theorem sorted_any {l : Addr} {Q : Value → Shared → Prop} (hl : s.heap.IsList l vs.toArray) (e : PySem.W.EachIs R vs bs) (er : PySem.W.EachIs (fun v b => ∃ as, Reads s.heap v (enc b) as) vs bs) (hal : PySem.W.AllAlike (bs.map enc)) (hn : ∀ d ∈ bs.map enc, d ≠ .none) (hk : (bs.map enc).length ≤ 1 ∨ PySem.W.Sortable (bs.map enc)) (hL : bs.length ≤ sizeLine)
    (hu : ∀ b, b ∈ bs → A.units + 2 + (enc b).depth < cLine) (h : ∀ out, out.length = bs.length → PySem.W.EachIs R out (bs.mergeSort (PySem.W.dataLe false enc)) → Q (.ref (s.heap.objs.size + 1)) { s with heap := sortedAll s.heap vs (List.toArray out) }) :
    wpAny (model P w) A (call (.builtin "sorted") [.ref l]) Q E s := by
  have er' : PySem.W.EachIs (fun v b => ∃ as, Reads (PySem.W.sortingHeap (PySem.W.copyHeap s.heap vs) (s.heap.objs.size + 1) vs) v (enc b) as) vs bs := er.mono fun _ _ ⟨as, r⟩ => ⟨as, Reads.keeps (fun _ _ => PySem.W.sorting_copy_old) r⟩
  exact PySem.W.sorted_vals hl (sortsAt_any (s := { s with heap := PySem.W.sortingHeap (PySem.W.copyHeap s.heap vs) (s.heap.objs.size + 1) vs }) (PySem.W.each_map (R := fun v d => ∃ as, Reads (PySem.W.sortingHeap (PySem.W.copyHeap s.heap vs) (s.heap.objs.size + 1) vs) v d as) enc er') hal hn hk (PySem.W.bound_map hu)) (by rw [e.length]; exact hL)
    (h _ (by rw [PySem.W.sortVals_length false rfl]; exact e.length) (PySem.W.sortVals_data false e er' hal))
end
section
variable {P : Program} {w : World} {A : Around} {E : Value → Shared → Prop} {s : Shared}
/-- sorted of a set of nested tuples -/
theorem sorted_n {a : Addr} {L : List (Addr × NestedKey)} {es : Array (Int × Value)} {ep : Nat} {t : SetTable} {Q : Value → Shared → Prop} (R : SN P w s.heap a L es ep t) (hh : A.handled = none) (hu : A.units + 16 < cLine) (rd : ∀ q ∈ L, ∃ as, Reads s.heap (.ref q.1) q.2.data as) (hal : ∀ q ∈ L, ∀ r ∈ L, PySem.W.alike q.2.data r.2.data = true) (hk : L.length ≤ 1 ∨ ∀ q ∈ L, ∃ x r, q.2.data = .tuple (x :: r))
    (hQ : ∀ s' p (out : Array Value) (c : Nat) (L' : List (Addr × NestedKey)), (∀ b o, s.heap.get? b = some o → s'.heap.get? b = some o) → s'.gens = s.gens → s'.os = s.os → s.heap.objs.size ≤ p →
      s'.heap.get? p = some (seqObj "list" out c) → out.toList = L'.map (fun q => Value.ref q.1) → L'.Perm L → L'.Pairwise (fun q r => leD q.2.data r.2.data = true) → Q (.ref p) s') :
    wpAny (model P w) A (call (.builtin "sorted") [.ref a]) Q E s := by
  obtain ⟨o, ho, hex, hd⟩ := R.ob
  have hsz := R.size
  have hfew := R.few
  refine Calls.call_function_entry kind_sorted plain_sorted entry_sorted (args_sorted1 _) ?_
  unfold Builtin.«sorted»
  refine wpAny_bind (m := checkCount "sorted" 1 1 _) (wpAny_pure ?_)
  refine wpAny_bind (collect_set (A := A.in1) hh ⟨o, ho, hex.1, hd⟩ R.fits (by unfold scanBound; omega) R.tab.ris R.led fun s1 vs k1 hz g1 o1 pm => ?_)
  have hes : es.toList.map (·.2) = L.map fun q => Value.ref q.1 := by
    rw [R.rows]
    unfold rowsN
    rw [List.map_map] <;> rfl
  rw [hes] at pm
  have ord : ∀ vs : List Value, (∀ v ∈ vs, ∃ q ∈ L, v = Value.ref q.1) → ∃ L1 : List (Addr × NestedKey), vs = L1.map (fun q => Value.ref q.1) ∧ ∀ q ∈ L1, q ∈ L := by
    intro vs
    induction vs with
    | nil => exact fun _ => ⟨[], rfl, fun q hq => (by cases hq)⟩
    | cons v vs ih =>
      intro hv
      obtain ⟨q, hq, e⟩ := hv v List.mem_cons_self
      obtain ⟨L1, e1, hs⟩ := ih fun u hu => hv u (List.mem_cons_of_mem _ hu)
      refine ⟨q :: L1, by rw [List.map_cons, e, e1], fun r hr => ?_⟩
      rcases List.mem_cons.mp hr with z | z
      · rw [z]; exact hq
      · exact hs r z
  have tupL : ∀ q ∈ L, IsN P w s.heap q.2 q.1 := fun q hq => R.tup q hq
  have one : ∀ q ∈ L, ∀ r ∈ L, q.1 = r.1 → q = r := fun q hq r hr e => by
    have a1 := tupL q hq
    have a2 := tupL r hr
    rw [e] at a1
    exact Prod.ext e (a1.inj a2)
  have nL : L.Nodup := by
    exact nodup_of_map R.nd
  have nref : (L.map fun q => Value.ref q.1).Nodup := by
    refine List.pairwise_map.mpr (List.Pairwise.imp_of_mem (fun {q r} hq hr hne e => ?_) nL)
    injection e with e
    exact hne (one q hq r hr e)
  have perm_of : ∀ L1 : List (Addr × NestedKey), (∀ q ∈ L1, q ∈ L) → (L1.map (fun q => Value.ref q.1)).Perm (L.map fun q => Value.ref q.1) → L1.Perm L := by
    intro L1 hs pm1
    have n1 : L1.Nodup := nodup_of_map (pm1.nodup_iff.mpr nref)
    refine (List.perm_ext_iff_of_nodup n1 nL).mpr fun q => ⟨hs q, fun hq => ?_⟩
    have hm : Value.ref q.1 ∈ L1.map (fun q => Value.ref q.1) := pm1.mem_iff.mpr (List.mem_map.mpr ⟨q, hq, rfl⟩)
    obtain ⟨r, hr, e⟩ := List.mem_map.mp hm
    injection e with e
    rw [← one r (hs r hr) q hq e]
    exact hr
  obtain ⟨L1, e1, hs1⟩ := ord vs fun v hv => by
    obtain ⟨q, hq, e⟩ := List.mem_map.mp (pm.mem_iff.mp hv)
    exact ⟨q, hq, e.symm⟩
  have pm1 : L1.Perm L := perm_of L1 hs1 (by rw [← e1]; exact pm)
  have hvl : vs.length ≤ 64 := by rw [pm.length_eq, List.length_map]; omega
  refine wpAny_bind (wpAny_newList ?_ (by rw [sizeLine_eq]; omega))
  have hoL : (s1.heap.push (seqObj "list" vs.toArray 0)).get? s1.heap.objs.size = some (seqObj "list" vs.toArray 0) := Heap.get?_push_size _ rfl
  have lt1 : s.heap.objs.size ≤ s1.heap.objs.size := hz
  have tk : ∀ q ∈ L, ∃ as, Reads (s1.heap.push (seqObj "list" vs.toArray 0)) (.ref q.1) q.2.data as ∧ s1.heap.objs.size ∉ as := fun q hq => by
    obtain ⟨as, r⟩ := rd q hq
    refine ⟨as, Reads.keeps (fun b u e => Heap.get?_push_of_some _ (k1 b u e)) r, fun m => ?_⟩
    obtain ⟨o, e⟩ := PyProof.On.reads_mem_get r _ m
    exact Nat.lt_irrefl _ (Nat.lt_of_lt_of_le (Heap.lt_size e) lt1)
  have ea : ∀ (L1 : List (Addr × NestedKey)), PySem.W.EachIs (fun (v : Value) (b : Addr × NestedKey) => v = .ref b.1) (L1.map fun q => Value.ref q.1) L1 := by
    intro L1
    induction L1 with
    | nil => exact .nil
    | cons q L1 ih => exact .cons rfl ih
  have er : ∀ (L1 : List (Addr × NestedKey)), (∀ q ∈ L1, q ∈ L) → PySem.W.EachIs (fun (v : Value) (b : Addr × NestedKey) => ∃ as, Reads (s1.heap.push (seqObj "list" vs.toArray 0)) v ((fun b : Addr × NestedKey => b.2.data) b) as ∧ s1.heap.objs.size ∉ as) (L1.map fun q => Value.ref q.1) L1 := by
    intro L1
    induction L1 with
    | nil => exact fun _ => .nil
    | cons q L1 ih => exact fun hs => .cons (tk q (hs q List.mem_cons_self)) (ih fun r hr => hs r (List.mem_cons_of_mem _ hr))
  have hl1 : L1.length = vs.length := by rw [e1, List.length_map]
  have hLm : ∀ q ∈ L1, q ∈ L := hs1
  have hal1 : PySem.W.AllAlike (L1.map fun q => q.2.data) := fun d hd d' hd' => by
    obtain ⟨q, hq, rfl⟩ := List.mem_map.mp hd
    obtain ⟨r, hr, rfl⟩ := List.mem_map.mp hd'
    exact hal q (hLm q hq) r (hLm r hr)
  have hk1 : (L1.map fun q => q.2.data).length ≤ 1 ∨ PySem.W.Sortable (L1.map fun q => q.2.data) := by
    rcases hk with h | h
    · left
      rw [List.length_map, pm1.length_eq]
      exact h
    · right
      exact .inl fun d hd => by
        obtain ⟨q, hq, rfl⟩ := List.mem_map.mp hd
        exact h q (hLm q hq)
  refine wpAny_bind (wpAny_holding (list_sort_any (s := { s1 with heap := s1.heap.push (seqObj "list" vs.toArray 0) }) (enc := fun b : Addr × NestedKey => b.2.data) (R := fun (v : Value) (b : Addr × NestedKey) => v = .ref b.1) (bs := L1) (vs := vs) hoL (by rw [e1]; exact ea L1) (by have q := er L1 hs1; rw [← e1] at q; exact q)
    hal1 (fun b hb => by
      obtain ⟨q, hq, rfl⟩ := List.mem_map.mp hb
      obtain ⟨as, r⟩ := rd q (hLm q hq)
      intro e
      rw [e] at r
      cases r) hk1 (by rw [hl1, sizeLine_eq]; omega) (fun b hb => by have h1 := data_depth b.2; have h2 := (tupL b (hLm b hb)).dep; rw [Around.in1_units]; omega) fun out ho2 eo => ?_))
  obtain ⟨c, hc⟩ := sortedHeap_at (vs := vs) (out := out.toArray) hoL
  rw [leD_eq] at eo
  have pm2 := List.mergeSort_perm L1 (fun a b => leD a.2.data b.2.data)
  have so := List.pairwise_mergeSort (le := fun (a b : Addr × NestedKey) => leD a.2.data b.2.data) (fun a b c => leD_trans a.2.data b.2.data c.2.data) (fun a b => leD_total a.2.data b.2.data) L1
  have out_of : ∀ {us : List Value} {bs : List (Addr × NestedKey)}, PySem.W.EachIs (fun (v : Value) (b : Addr × NestedKey) => v = .ref b.1) us bs → us = bs.map fun q => Value.ref q.1 := by
    intro us bs h
    induction h with
    | nil => rfl
    | cons h1 _ ih => rw [h1, ih] <;> rfl
  refine wpAny_pure ⟨_, rfl, hQ _ s1.heap.objs.size out.toArray c _ (fun b u e => ?_) g1 o1 hz hc (by rw [List.toList_toArray]; exact out_of eo) (pm2.trans pm1) so⟩
  have q := k1 b u e
  have hlt := Heap.lt_size q
  show (sortedHeap (s1.heap.push (seqObj "list" vs.toArray 0)) s1.heap.objs.size vs out.toArray).get? b = some u
  rw [sortedHeap_old (Nat.ne_of_lt hlt) (by rw [size_push']; exact Nat.lt_succ_of_lt hlt)]
  exact Heap.get?_push_of_some _ q
end
end GN
end

section
set_option Elab.async false
set_option linter.all false
set_option maxRecDepth 100000
set_option maxHeartbeats 3200000
/-! set(xs), sorted(set), sorted(xs) of nested tuples, over the layer -/
namespace GN
open PySem PySem.Spec PyProof.Rows L2 Ly GY GZ
section
variable {X : Cx}
def rSetN (K : PySem.W.Frag) (P : Program) (w : World) : List V → Hp → VK → Prop := fun vs H Q => ∃ (l : Addr) (ks : List (Addr × NestedKey)), vs = [V.ref l] ∧ SqL K H l (ks.map fun p => V.ref p.1) ∧ (∀ p ∈ ks, KeyN K H (.ref p.1) p.2) ∧ ks.length < 60 ∧
  ∀ a (L : List (Addr × NestedKey)), H a = none → (∀ p ∈ L, p ∈ ks) → (∀ p ∈ ks, p.2 ∈ L.map (·.2)) → (L.map (·.2)).Nodup → (∀ q, SNO P w a L ≠ LamX.CodeO a q) → Q (.ref a) (upd H a (SNO P w a L))
theorem refs_n : ∀ (ks : List (Addr × NestedKey)) {its : List Value}, Vals (ks.map fun p => V.ref p.1) its → its = ks.map fun p => Value.ref p.1
  | [], _, h => by cases h; rfl
  | p :: ks, _, h => by
    cases h with
    | cons h1 h2 =>
      cases h1
      rw [refs_n ks h2] <;> rfl
theorem vals_n : ∀ (L : List (Addr × NestedKey)), Vals (L.map fun p => V.ref p.1) (L.map fun p => Value.ref p.1)
  | [] => .nil
  | p :: L => .cons rfl (vals_n L)
theorem cr_setN (hc : X.calm = true) (hu : X.A.units + 64 < cLine) : CallR X (.type "set") (rSetN X.K X.prog X.w) := by
  intro pins s σ H xs us Q I r h
  obtain ⟨l, ks, rfl, hs, hk, h60, q⟩ := h
  have hn : H s.heap.objs.size = none := I.hok.fresh (Nat.le_refl _)
  cases r with
  | cons r1 r2 =>
    cases r2
    cases r1
    obtain ⟨its, rv, pl, hz⟩ := I.list hs
    refine call_set_lstN (P := X.prog) (w := X.w) ks h60 (I.ok.hd hc) pl.isList (by simpa using refs_n ks rv) (fun p hp => isN_of I (hk p hp)) (by omega) fun h' tk L es ep t R g k => ?_
    exact ⟨.ref s.heap.objs.size, upd H s.heap.objs.size (SNO X.prog X.w s.heap.objs.size L), I.laid (t' := tk) k (Nat.le_refl _) (sno_new R.t0), rfl, q _ L hn (fun p hp => List.mem_of_mem_take (g.sub p hp)) (fun p hp => g.all p (by rw [List.take_length]; exact hp)) R.nd (sno_code R.t0)⟩
def rSortedN (K : PySem.W.Frag) (P : Program) (w : World) : List V → Hp → VK → Prop := fun vs H Q => ∃ (a : Addr) (L : List (Addr × NestedKey)), vs = [V.ref a] ∧ H a = some (SNO P w a L) ∧ (∀ p ∈ L, KeyN K H (.ref p.1) p.2) ∧ (∀ q ∈ L, ∀ r ∈ L, PySem.W.alike q.2.data r.2.data = true) ∧ (L.length ≤ 1 ∨ ∀ q ∈ L, ∃ x r, q.2.data = .tuple (x :: r)) ∧
  ∀ (L' : List (Addr × NestedKey)) (p : Addr), L'.Perm L → L'.Pairwise (fun q r => leD q.2.data r.2.data = true) → H p = none → Q (.ref p) (upd H p (.lst (L'.map fun q => V.ref q.1)))
theorem cr_sortedN (hc : X.calm = true) (hu : X.A.units + 64 < cLine) : CallR X (.builtin "sorted") (rSortedN X.K X.prog X.w) := by
  intro pins s σ H vs us Q I r h
  obtain ⟨a, L, rfl, ha, hk, hal, hsm, q⟩ := h
  have R0 : SN0 X.prog X.w s.heap a L := (I.hok a _ ha).1
  obtain ⟨es, ep, t, R⟩ := R0.full fun p hp => isN_of I (hk p hp)
  cases r with
  | cons r1 r2 =>
    cases r2
    cases r1
    refine sorted_n R (I.ok.hd hc) (by omega) (fun p hp => Dp.reads I _ (.ref p.1) _ (hk p hp).1.1 rfl) hal hsm fun s' p out c L' k g o hp hg hout pm pw => ?_
    have hfew : L'.length ≤ 64 := by
      have q := R.few
      rw [pm.length_eq]
      omega
    have hlen : (L'.map fun q => V.ref q.1).length ≤ sizeLine := by rw [List.length_map, sizeLine_eq]; omega
    have hn : H p = none := I.hok.fresh hp
    have hv : Vals (L'.map fun q => V.ref q.1) out.toList := by rw [hout]; exact vals_n L'
    have J : Inv X pins σ (upd H p (.lst (L'.map fun q => V.ref q.1))) { s with heap := s'.heap, gens := s'.gens, drawn := s'.drawn, toks := s'.toks } :=
      I.call (ch := []) (Un.laid k hp hn) (I.hok.laid k hp ⟨hlen, out.toList, c, hv, hg⟩) (by rw [g]; exact I.bare) (fun _ z => nomatch z)
    have e : s' = { s with heap := s'.heap, gens := s'.gens, drawn := s'.drawn, toks := s'.toks } := by
      cases s'
      cases s
      cases o
      rfl
    rw [e]
    exact ⟨.ref p, _, J, rfl, q L' p pm pw hn⟩
end
section
variable {X : Cx} {α : Type} {enc : α → PyData}
def rSortD (K : PySem.W.Frag) (enc : α → PyData) : List V → Hp → VK → Prop := fun vs H Q => ∃ (v : V) (cs : List α), vs = [v] ∧ Dp K H v (.list (cs.map enc)) ∧ cs.length ≤ sizeLine ∧ (∀ a ∈ cs, ∀ b ∈ cs, PySem.W.alike (enc a) (enc b) = true) ∧ (∀ a ∈ cs, enc a ≠ .none) ∧
  (cs.length ≤ 1 ∨ ∀ a ∈ cs, ∃ x r, enc a = .tuple (x :: r)) ∧ (∀ a ∈ cs, (enc a).depth ≤ 50) ∧
  ∀ (ys : List V) (ds : List α) (p : Addr), ds.Perm cs → ds.Pairwise (fun a b => leD (enc a) (enc b) = true) → DpAll K H ys (ds.map enc) → H p = none → Q (.ref p) (upd H p (.lst ys))
theorem cr_sortD (hu : X.A.units + 64 < cLine) : CallR X (.builtin "sorted") (rSortD X.K enc) := by
  intro pins s σ H vs us Q I r h
  obtain ⟨v, cs, rfl, hc, hl, hal, hn, hsm, hd, q⟩ := h
  cases hc with
  | lst hs hi =>
  rename_i a xs
  cases r with
  | cons r1 r2 =>
    cases r2
    cases r1
    obtain ⟨its, rv, pl, hz⟩ := I.list hs
    have hlen := GSortP.len_of hi
    rw [List.length_map] at hlen
    have e := GSortP.each_in rv hi
    have er : PySem.W.EachIs (fun v b => ∃ as, Reads s.heap v ((fun b : V × α => enc b.2) b) as) its (xs.zip cs) := e.mono fun u b h => Dp.reads I (enc b.2) b.1 u h.2 h.1
    have hbl : (xs.zip cs).length = cs.length := by rw [List.length_zip, hlen, Nat.min_self]
    have hin : ∀ b ∈ xs.zip cs, b.2 ∈ cs := fun b hb => (List.of_mem_zip hb).2
    refine sorted_any (enc := fun b : V × α => enc b.2) pl.isList e er ?_ ?_ ?_ (by rw [hbl]; exact hl)
      (fun b hb => by have := hd b.2 (hin b hb); show X.A.units + 2 + (enc b.2).depth < cLine; omega) fun out ho eo => ?_
    · intro d hd d' hd'
      obtain ⟨b, hb, rfl⟩ := List.mem_map.mp hd
      obtain ⟨b', hb', rfl⟩ := List.mem_map.mp hd'
      exact hal _ (hin b hb) _ (hin b' hb')
    · intro d hd
      obtain ⟨b, hb, rfl⟩ := List.mem_map.mp hd
      exact hn _ (hin b hb)
    · rcases hsm with h | h
      · left
        rw [List.length_map, hbl]
        exact h
      · right
        exact .inl fun d hd => by
          obtain ⟨b, hb, rfl⟩ := List.mem_map.mp hd
          exact h _ (hin b hb)
    obtain ⟨c, hc2⟩ := sortedAll_at s.heap its (List.toArray out)
    rw [leD_eq] at eo
    have so := List.pairwise_mergeSort (le := fun (a b : V × α) => leD (enc a.2) (enc b.2)) (fun a b c => leD_trans (enc a.2) (enc b.2) (enc c.2)) (fun a b => leD_total (enc a.2) (enc b.2)) (xs.zip cs)
    have pm := List.mergeSort_perm (xs.zip cs) (fun (a b : V × α) => leD (enc a.2) (enc b.2))
    generalize List.mergeSort (xs.zip cs) (fun (a b : V × α) => leD (enc a.2) (enc b.2)) = bs at eo so pm
    obtain ⟨ev, ei⟩ := GSortP.each_out eo
    have ky : ∀ b o, s.heap.get? b = some o → (sortedAll s.heap its (List.toArray out)).get? b = some o := fun _ _ => sortedAll_old
    have hlz : (bs.map (·.1)).length ≤ sizeLine := by
      rw [List.length_map, pm.length_eq, hbl]
      exact hl
    have hnew : H (s.heap.objs.size + 1) = none := I.hok.fresh (Nat.le_succ _)
    refine ⟨.ref (s.heap.objs.size + 1), _, I.laid (t' := s.toks) (o := .lst (bs.map (·.1))) ky (Nat.le_succ _) ⟨hlz, out, c, ev, hc2⟩, rfl, ?_⟩
    refine q _ (bs.map (·.2)) _ ?_ (List.Pairwise.map _ (fun a b h => h) so) ei hnew
    have := pm.map (·.2)
    rw [GSortP.zip_two hlen] at this
    exact this
end
end GN
end

section
set_option Elab.async false
set_option linter.all false
set_option maxRecDepth 100000
set_option maxHeartbeats 4000000
/-! cells as data, bodies' sizes -/
namespace LP
open PySem PySem.Spec PyProof.Rows L2 Ly GY
section
variable [LamTab] [LamOk]
theorem depthCs (cs : List C3) : (PyData.list (cs.map cD)).depth ≤ 2 := by
  have := cDs_depth cs
  simp only [PyData.depth]
  omega
theorem okDs_cells : ∀ cs : List C3, okDs (cs.map cD) = true
  | [] => rfl
  | c :: cs => by
    show (okD (cD c) && okDs (cs.map cD)) = true
    rw [okDs_cells cs]
    rfl
theorem okD_cellsL {cs : List C3} (h : cs.length ≤ 1000) : okD (.list (cs.map cD)) = true := by
  show (okDs (cs.map cD) && decide ((cs.map cD).length ≤ 1000)) = true
  rw [okDs_cells, List.length_map, decide_eq_true h]
  rfl
theorem nb_dp : ∀ b : Bd, nb b + 1 ≤ 2 ^ dp b
  | .block .. => by show 1 + 1 ≤ 2 ^ 1; decide
  | .cells _ => by show 1 + 1 ≤ 2 ^ 1; decide
  | .wth p q => nb2 p q (nb_dp p) (nb_dp q)
  | .common p q => nb2 p q (nb_dp p) (nb_dp q)
  | .less p q => nb2 p q (nb_dp p) (nb_dp q)
  | .moved _ p => nb1 p (nb_dp p)
  | .turnX p => nb1 p (nb_dp p)
  | .turnY p => nb1 p (nb_dp p)
  | .turnZ p => nb1 p (nb_dp p)
where
  nb1 (p : Bd) (h : nb p + 1 ≤ 2 ^ dp p) : 1 + nb p + 1 ≤ 2 ^ (1 + dp p) := by
    have e : 2 ^ (1 + dp p) = 2 * 2 ^ dp p := by rw [Nat.add_comm, Nat.pow_succ, Nat.mul_comm]
    have := nb_pos p
    omega
  nb2 (p q : Bd) (h : nb p + 1 ≤ 2 ^ dp p) (k : nb q + 1 ≤ 2 ^ dp q) : 1 + nb p + nb q + 1 ≤ 2 ^ (1 + max (dp p) (dp q)) := by
    have e : 2 ^ (1 + max (dp p) (dp q)) = 2 * 2 ^ max (dp p) (dp q) := by rw [Nat.add_comm, Nat.pow_succ, Nat.mul_comm]
    have h1 : 2 ^ dp p ≤ 2 ^ max (dp p) (dp q) := Nat.pow_le_pow_right (by decide) (Nat.le_max_left _ _)
    have h2 : 2 ^ dp q ≤ 2 ^ max (dp p) (dp q) := Nat.pow_le_pow_right (by decide) (Nat.le_max_right _ _)
    omega
theorem nb_of_dp {b : Bd} {n : Nat} (h : dp b ≤ n) : nb b + 1 ≤ 2 ^ n := Nat.le_trans (nb_dp b) (Nat.pow_le_pow_right (by decide) h)
theorem eqv_same (ps : List C3) : PyData.eqv (.list (ps.map cD)) (.list (ps.map cD)) = true := SeqAt.eqv_refl _ (SeqAt.canLay_of_shaped (cDs_shapedL ps))
theorem okD_cellsB {cs : List C3} (h : cs.length ≤ 1000) : okD (bD (.cells cs)) = true := by
  have e : okDs (cs.map cD) = true := okDs_cells cs
  show (true && ((okDs (cs.map cD) && decide ((cs.map cD).length ≤ 1000)) && true) && true) = true
  rw [e, List.length_map, decide_eq_true h]
  rfl
theorem depthB (cs : List C3) : (bD (.cells cs)).depth ≤ 4 := by
  have := cDs_depth cs
  show PyData.depth (.tuple [.str "cells", .tuple (cs.map cD)]) ≤ 4
  simp only [PyData.depth, PyData.depthAll]
  omega
end
end LP
end

section
set_option Elab.async false
set_option linter.all false
set_option maxRecDepth 100000
set_option maxHeartbeats 4000000
/-! what law_k03 holds: mathematics -/
namespace LP
open PySem PySem.Spec PyProof.Rows L2 Ly GY
/-! ### states stay in the room -/
theorem comp_corner {L : List C3} {d : C3} {j : Nat} (hj : j < 3) : comp j (add3 (off L) d) = comp j d - lo (comp j) L := by
  rcases (show j = 0 ∨ j = 1 ∨ j = 2 by omega) with rfl | rfl | rfl
  · show d.1 + -lox L = d.1 - lox L
    omega
  · show d.2.1 + -loy L = d.2.1 - loy L
    omega
  · show d.2.2 + -loz L = d.2.2 - loz L
    omega
theorem rot_parts {m : Rot} (hm : m ∈ rots) : ∃ p k, p ∈ placesL ∧ k < 8 ∧ m = (p, signsK k) := by
  rw [rots_at] at hm
  obtain ⟨p, hp, h⟩ := List.mem_flatMap.mp hm
  obtain ⟨k, hk, rfl⟩ := List.mem_map.mp h
  exact ⟨p, k, hp, List.mem_range.mp (List.mem_filter.mp hk).1, rfl⟩
theorem comp_inR {c : C3} (h : InR c) (j : Nat) : 0 ≤ comp j c ∧ comp j c ≤ 3 := by
  unfold InR at h
  unfold comp
  split
  · omega
  · split <;> omega
theorem inR_comp {c : C3} (h : ∀ j, j < 3 → 0 ≤ comp j c ∧ comp j c ≤ 3) : InR c := by
  have h0 := h 0 (by decide)
  have h1 := h 1 (by decide)
  have h2 := h 2 (by decide)
  unfold comp at h0 h1 h2
  simp only [if_true, if_neg (show ¬ (1 = 0) by decide), if_neg (show ¬ (2 = 0) by decide), if_neg (show ¬ (2 = 1) by decide)] at h0 h1 h2
  unfold InR
  omega
theorem rot_inR {cs : List C3} (h : ∀ c ∈ cs, InR c) {m : Rot} (hm : m ∈ rots) : ∀ c ∈ rotL cs m, InR c := by
  intro c hc
  unfold rotL at hc
  rw [(laid_perm _).mem_iff] at hc
  obtain ⟨d, hd, rfl⟩ := List.mem_map.mp hc
  obtain ⟨p, k, hp, hk, rfl⟩ := rot_parts hm
  refine inR_comp fun j hj => ?_
  rw [comp_corner hj]
  obtain ⟨⟨d', hd', e⟩, hle⟩ := lo_spec (comp j) (cs := cs.map (rot (p, signsK k))) (List.ne_nil_of_mem hd)
  have h1 := hle d hd
  rw [← e] at h1 ⊢
  obtain ⟨x, hx, rfl⟩ := List.mem_map.mp hd
  obtain ⟨y, hy, rfl⟩ := List.mem_map.mp hd'
  rw [comp_rot, comp_rot] at h1 ⊢
  have hx3 := comp_inR (h x hx) (pn j p)
  have hy3 := comp_inR (h y hy) (pn j p)
  rcases sgn_one k j hk with z | z <;> rw [z] at h1 ⊢ <;> omega
/-! ### the order of states as data -/
theorem toks_c (c : C3) (r : List (Int ⊕ List Nat)) : PySem.W.keyToks (cD c) ++ r = .inl 1 :: .inl c.1 :: .inl 1 :: .inl c.2.1 :: .inl 1 :: .inl c.2.2 :: .inl 0 :: r := by
  unfold cD
  simp [PySem.W.keyToks, PySem.W.keyToksAll]
theorem toks_inj : ∀ {a b : List C3}, PySem.W.keyToksAll (a.map cD) = PySem.W.keyToksAll (b.map cD) → a = b
  | [], [], _ => rfl
  | [], _ :: _, h => by simp [PySem.W.keyToksAll] at h
  | _ :: _, [], h => by simp [PySem.W.keyToksAll] at h
  | c :: a, d :: b, h => by
    rw [List.map_cons, List.map_cons, PySem.W.toks_all_cons, PySem.W.toks_all_cons, toks_c, toks_c] at h
    simp only [List.cons.injEq, Sum.inl.injEq, true_and] at h
    obtain ⟨h1, h2, h3, h4⟩ := h
    rw [toks_inj h4, show c = d from c3_ext h1 h2 h3]
section
variable [LamTab]
def ltT (a b : List C3) : Prop := PySem.W.dataLt (tD a) (tD b) = true
theorem linT : Srt.Lin ltT := by
  refine ⟨fun a h => ?_, fun a b c h k => ?_, fun a b => ?_⟩
  · have e := GN.OD.irrefl (PySem.W.keyToks (tD a))
    have h2 : GN.OD.blt (PySem.W.keyToks (tD a)) (PySem.W.keyToks (tD a)) = true := h
    rw [e] at h2
    cases h2
  · exact GN.OD.trans _ (PySem.W.keyToks (tD b)) _ h k
  · cases e1 : PySem.W.dataLt (tD a) (tD b) with
    | true => exact .inl e1
    | false =>
      cases e2 : PySem.W.dataLt (tD b) (tD a) with
      | true => exact .inr (.inr e2)
      | false =>
        have e := GN.OD.total _ _ e1 e2
        have e : PySem.W.keyToksAll (a.map cD) = PySem.W.keyToksAll (b.map cD) := by
          have h := e
          unfold tD at h
          simpa [PySem.W.keyToks] using h
        exact .inr (.inl (toks_inj e))
theorem ascT : ∀ {A : List (List C3)}, A.Pairwise (fun a b => GN.leD (tD a) (tD b) = true) → A.Nodup → Srt.Asc ltT A
  | [], _, _ => .nil
  | a :: A, h, n => by
    obtain ⟨h1, h2⟩ := List.pairwise_cons.mp h
    obtain ⟨n1, n2⟩ := List.nodup_cons.mp n
    refine List.pairwise_cons.mpr ⟨fun b hb => ?_, ascT h2 n2⟩
    rcases linT.tri a b with z | z | z
    · exact z
    · rw [z] at n1
      exact absurd hb n1
    · have hl := h1 b hb
      unfold GN.leD at hl
      have z : PySem.W.dataLt (tD b) (tD a) = true := z
      rw [z] at hl
      cases hl
theorem sorted_same {A B : List (List C3)} (hA : A.Pairwise (fun a b => GN.leD (tD a) (tD b) = true)) (hB : B.Pairwise (fun a b => GN.leD (tD a) (tD b) = true)) (nA : A.Nodup) (nB : B.Nodup) (h : ∀ g, g ∈ A ↔ g ∈ B) : A = B := by
  have pm : A.Perm B := (List.perm_ext_iff_of_nodup nA nB).mpr h
  exact Srt.asc_ext linT (ascT hA nA) (ascT hB nB) pm.length_eq h
theorem alikeCs : ∀ a b : List C3, PySem.W.alikeAll (a.map cD) (b.map cD) = true
  | [], _ => by simp [PySem.W.alikeAll]
  | _ :: _, [] => by simp [PySem.W.alikeAll]
  | c :: a, d :: b => by
    rw [List.map_cons, List.map_cons]
    simp only [PySem.W.alikeAll, cD_alike, alikeCs a b, Bool.and_self]
theorem alikeT (a b : List C3) : PySem.W.alike (tD a) (tD b) = true := by
  unfold tD
  simp only [PySem.W.alike]
  exact alikeCs a b
theorem tD_dep (a : List C3) : (tD a).depth ≤ 2 := by
  have := cDs_depth a
  unfold tD
  simp only [PyData.depth]
  omega
theorem tD_tup {a : List C3} (h : a ≠ []) : ∃ x r, tD a = .tuple (x :: r) := by
  cases a with
  | nil => exact absurd rfl h
  | cons c a => exact ⟨cD c, a.map cD, rfl⟩
/-! ### rows as data -/
def rowD (r : Str × List C3) : PyData := .tuple [.str r.1, .list (r.2.map cD)]
theorem okDsC : ∀ cs : List C3, okDs (cs.map cD) = true
  | [] => rfl
  | c :: cs => by
    show (okD (cD c) && okDs (cs.map cD)) = true
    rw [okDsC cs]
    rfl
theorem rowD_ok : ∀ T : List (Str × List C3), (∀ x ∈ T, x.2.length ≤ 64) → okDs (T.map rowD) = true
  | [], _ => rfl
  | x :: T, h => by
    have h1 := h x List.mem_cons_self
    have e : okDs (x.2.map cD) = true := okDsC x.2
    show (((true && ((okDs (x.2.map cD) && decide ((x.2.map cD).length ≤ 1000)) && true)) && decide (2 ≤ 1000)) && okDs (T.map rowD)) = true
    rw [e, rowD_ok T fun y hy => h y (List.mem_cons_of_mem _ hy), List.length_map, decide_eq_true (show x.2.length ≤ 1000 by omega)]
    rfl
theorem rowD_dep : ∀ T : List (Str × List C3), PyData.depthAll (T.map rowD) ≤ 3
  | [] => by simp [PyData.depthAll]
  | x :: T => by
    have h1 := rowD_dep T
    have h2 := cDs_depth x.2
    simp only [List.map_cons, rowD, PyData.depthAll, PyData.depth]
    omega
theorem rowsD_okD {T : List (Str × List C3)} (h : ∀ x ∈ T, x.2.length ≤ 64) (hl : T.length ≤ 24) : okD (.list (T.map rowD)) = true := by
  show (okDs (T.map rowD) && decide ((T.map rowD).length ≤ 1000)) = true
  rw [rowD_ok T h, List.length_map, decide_eq_true (show T.length ≤ 1000 by omega)]
  rfl
theorem rowsD_dep (T : List (Str × List C3)) : PyData.depth (.list (T.map rowD)) < 10 := by
  have := rowD_dep T
  simp only [PyData.depth]
  omega
theorem tr_dps {K : PySem.W.Frag} {H : Hp} {G : Addr → Prop} : ∀ {ys : List V} {T : List (Str × List C3)}, TRows K H G ys T → DpAll K H ys (T.map rowD)
  | _, _, .nil => .nil
  | _, _, .cons ⟨t, a, zs, e, ht, ha, hi, _⟩ r => by
    subst e
    exact .cons (.tup ht (.cons (.str _) (.cons (cellsL_of ha hi) .nil))) (tr_dps r)
theorem wordV_due (g : List C3) : ∀ T : List (Str × List C3), atI (((T.filter fun r => decide (r.2 = g)).map fun r => V.str r.1) ++ [.non]) 0 = some (wordV T g)
  | [] => rfl
  | r :: T => by
    rw [List.filter_cons]
    by_cases h : r.2 = g
    · rw [if_pos (decide_eq_true h)]
      have e : atI (((r :: T.filter fun r => decide (r.2 = g)).map fun r => V.str r.1) ++ [.non]) ((0 : Nat) : Int) = some (V.str r.1) := atI_nat rfl
      have e2 : wordV (r :: T) g = .str r.1 := if_pos h
      rw [e2]
      exact e
    · rw [if_neg (by rw [decide_eq_false h]; decide), wordV_due g T]
      show some (wordV T g) = some (if r.2 = g then _ else wordV T g)
      rw [if_neg h]
theorem wordV_dp {K : PySem.W.Frag} {H : Hp} (g : List C3) : ∀ T : List (Str × List C3), ∃ d, Dp K H (wordV T g) d ∧ okD d = true ∧ d.depth < 10 ∧ ∀ H', Dp K H' (wordV T g) d
  | [] => ⟨.none, .non, rfl, by decide, fun _ => .non⟩
  | r :: T => by
    show ∃ d, Dp K H (if r.2 = g then V.str r.1 else wordV T g) d ∧ _
    by_cases h : r.2 = g
    · exact ⟨.str r.1, by rw [if_pos h]; exact .str _, rfl, by simp [PyData.depth], fun H' => by show Dp K H' (if r.2 = g then V.str r.1 else wordV T g) _; rw [if_pos h]; exact .str _⟩
    · obtain ⟨d, h1, h2, h3, h4⟩ := wordV_dp (K := K) (H := H) g T
      exact ⟨d, by rw [if_neg h]; exact h1, h2, h3, fun H' => by show Dp K H' (if r.2 = g then V.str r.1 else wordV T g) _; rw [if_neg h]; exact h4 H'⟩
end
end LP
end

section
set_option Elab.async false
set_option linter.all false
set_option maxRecDepth 100000
set_option maxHeartbeats 4000000
/-! law_k03: what is asked behind the choice of the other body -/
namespace LP
open PySem PySem.Spec PyProof.Rows L2 Ly GY
section
variable [LamTab] [LamOk]
structure LF3 (P : Program) (W0 : World) (K : PySem.W.Frag) (mg : Str → Option Value) (base : Heap) where
  (Pt Pr Ph : Addr)
  (fM fX fA fL fB fl fE fF ft fu fv : Addr)
  (dM dX dA dL dB dl dE dF dt du dv : FuncData)
  nM : Fn K mg "_law_mix" fM dM ["_law_script", "_law_seed"]
  gM : FnOk P W0 K mg base CX0 1 fM dM ["_law_script", "_law_seed"] (spMix K)
  nX : Fn K mg "_law_next" fX dX ["_law_h", "_law_many"]
  gX : FnOk P W0 K mg base CX0 1 fX dX ["_law_h", "_law_many"] spNext
  nA : Fn K mg "_law_alike" fA dA ["_law_found", "_law_due"]
  gA : FnOk P W0 K mg base CX0 (1 + 10) fA dA ["_law_found", "_law_due"] (spAlike K 10)
  nL : Fn K mg "_law_all" fL dL ["_law_body_here"]
  gL : FnOk P W0 K mg base CX0 21 fL dL ["_law_body_here"] (spAll K)
  nB : Fn K mg "_law_body" fB dB ["_law_h", "_law_deep"]
  gB : FnOk P W0 K mg base CX0 (21 + 4) fB dB ["_law_h", "_law_deep"] (spLBody K 4)
  nl : Fn K mg "_law_laid" fl dl ["_law_some"]
  gl : FnOk P W0 K mg base CX0 1 fl dl ["_law_some"] (spLLaid K)
  nE : Fn K mg "_law_every" fE dE ["_law_some"]
  gE : FnOk P W0 K mg base CX0 2 fE dE ["_law_some"] (spLEvery K)
  nF : Fn K mg "_law_firsts" fF dF ["_law_some", "_law_most"]
  gF : FnOk P W0 K mg base CX0 2 fF dF ["_law_some", "_law_most"] (spLFirsts K)
  nt : Fn K mg "laid" ft dt ["body"]
  gt : FnOk P W0 K mg base CX0 28 ft dt ["body"] (spLaid K Pt Pr Ph)
  nu : Fn K mg "turnings" fu du ["body"]
  gu : FnOk P W0 K mg base CX0 29 fu du ["body"] (spTurns K Pt Pr Ph)
  nv : Fn K mg "alike" fv dv ["one", "other"]
  gv : FnOk P W0 K mg base CX0 30 fv dv ["one", "other"] (spAlikeT K Pt Pr Ph)
  T : Nm K mg
  U : Nl K mg
variable {P : Program} {W0 : World} {K : PySem.W.Frag} {mg : Str → Option Value} {base : Heap}
def lawLoop3 : List Stmt := match stOf lLaw 1 with
  | .For _ _ b _ _ => b
  | _ => []
abbrev names3 : List Str := ["_law_script", "_law_h", "_law_turn", "_law_one", "_law_some", "_law_found", "_law_words", "_law_word", "_law_told", "_law_kept", "_law_other", "_law_theirs", "_law_due", "_law_pair"]
theorem scLaw3 : FnScope names3 ["_law_script"] (defScope lLaw) := ⟨rfl, rfl, rfl, by decide +kernel, rfl, by decide +kernel, by decide +kernel⟩
abbrev lawX3 (P : Program) (W0 : World) (K : PySem.W.Frag) (mg : Str → Option Value) (base : Heap) (f : Addr) (cdv : Value) (A : Around) (outer : List Env) (s : Shared) (H : Hp) (E : XK) : Cx := (cxOf CX0 P W0 K mg base names3 "law" (defScope lLaw) f cdv A outer s H E).nox
structure B3 (F : LF3 P W0 K mg base) (h l : Addr) (H0 : Hp) (v : V) (b : Bd) (H : Hp) : Prop where
  s0 : Sta H0 h l
  k : Kp [h, l] H0 H
  s : Sta H h l
  tb : Tb H F.Pt F.Pr F.Ph
  hB : Body K H v b
  hg : Good b
  hd : dp b ≤ 4
theorem B3.mono {F : LF3 P W0 K mg base} {h l : Addr} {H0 H H' : Hp} {v : V} {b : Bd} (x : B3 F h l H0 v b H) (k : Kp [h, l] H H') (s : Sta H' h l) : B3 F h l H0 v b H' := ⟨x.s0, x.k.trans k, s, x.tb.mono k, body_mono k x.hB, x.hg, x.hd⟩
theorem B3.mono0 {F : LF3 P W0 K mg base} {h l : Addr} {H0 H H' : Hp} {v : V} {b : Bd} (x : B3 F h l H0 v b H) (k : Kp [] H H') : B3 F h l H0 v b H' := x.mono k.w0 (x.s.mono0 k)
/-- a list that is the law's own changes -/
theorem B3.chg {F : LF3 P W0 K mg base} {h l a : Addr} {H0 H : Hp} {v : V} {b : Bd} {xs ys : List V} (x : B3 F h l H0 v b H) (h0 : H0 a = none) (ha : H a = some (.lst xs)) : B3 F h l H0 v b (upd H a (.lst ys)) := by
  have k : Kp [a] H (upd H a (.lst ys)) := Kp.chg ha (List.mem_singleton.mpr rfl)
  have ap := x.s0.apart h0
  have nh : h ∉ [a] := fun m => ap (by rw [← List.mem_singleton.mp m]; exact List.mem_cons_self)
  have nl : l ∉ [a] := fun m => ap (by rw [← List.mem_singleton.mp m]; exact List.mem_cons_of_mem _ List.mem_cons_self)
  exact ⟨x.s0, x.k.chg0 h0 ha, x.s.mono k nh nl, x.tb.mono k, body_mono k x.hB, x.hg, x.hd⟩
theorem B3.nb {F : LF3 P W0 K mg base} {h l : Addr} {H0 H : Hp} {v : V} {b : Bd} (x : B3 F h l H0 v b H) : nb b ≤ 20 := by
  have := nb_of_dp x.hd
  have e : 2 ^ 4 = 16 := rfl
  omega
def Nxt3 (F : LF3 P W0 K mg base) (a h l : Addr) (H0 : Hp) (σ : L2.St) (H : Hp) : Prop :=
  (∃ o2 o3 o4 o5 o6 o7 o8 o9 o10 o11 o12, σ = [some (.ref a), some (.ref h), o2, o3, o4, o5, o6, o7, o8, o9, o10, o11, o12, none]) ∧ Sta H0 h l ∧ Kp [h, l] H0 H ∧ Sta H h l ∧ Tb H F.Pt F.Pr F.Ph
theorem turns_ok {b : Bd} : (∀ x ∈ turnsL (all b), x.2.length ≤ 64) ∧ (turnsL (all b)).length ≤ 24 := by
  have hcn : (all b).Nodup := asc_nodup (all_asc b)
  refine ⟨fun x hx => ?_, F_24 hcn 4⟩
  obtain ⟨m, hm, e⟩ := F_rot hcn (List.mem_map.mpr ⟨x, hx, rfl⟩)
  have e : x.2 = rotL (all b) m := e
  rw [e, rotL_len]
  exact all_len b
section
variable (F : LF3 P W0 K mg base) {f : Addr} {cdv : Value} {A : Around} {outer : List Env} {s : Shared} {H : Hp} {E : XK}
  (hr : Room 30 (A.deeper (envOfC "law" (defScope lLaw) s.heap.objs.size f cdv)))
include hr
omit hr in
theorem paired_strs {T : List (Str × List C3)} : ∀ {ys : List V}, Paired (fun (y : V) (r : Str × List C3) => y = .str r.1) ys T → ys = T.map fun r => V.str r.1 := by
  intro ys h
  induction h with
  | nil => rfl
  | cons a _ ih => rw [a, ih]; rfl
/-- what part c begins with -/
structure C3P (F : LF3 P W0 K mg base) (h l : Addr) (H0 : Hp) (v ov : V) (b b' : Bd) (fd ta kp : Addr) (ysF zsT ysK : List V) (H : Hp) : Prop where
  x : B3 F h l H0 v b H
  oB : Body K H ov b'
  og : Good b'
  od : dp b' ≤ 5
  on : nb b' ≤ 20
  f0 : H0 fd = none
  t0 : H0 ta = none
  hf : H fd = some (.lst ysF)
  ht : H ta = some (.lst zsT)
  hl : zsT.length ≤ 64
  hk : H kp = some (.lst ysK)
  rk : TRows K H (fun a => a ≠ ta ∧ a ≠ fd) ysK (turnsL (all b))
  kt : kp ≠ ta
  kf : kp ≠ fd
  tf : ta ≠ fd
theorem part3_c : ∃ t, PSs (lawX3 P W0 K mg base f cdv A outer s H E) (lawLoop3.drop 10) t ∧ ∀ (a h l : Addr) (H0 : Hp) (v ov : V) (b b' : Bd) (fd ta kp : Addr) (ysF zsT ysK : List V) (D : Ends) (o2 o4 o6 o7 o11 o12 : Option V) (H1 : Hp),
    C3P F h l H0 v ov b b' fd ta kp ysF zsT ysK H1 → (∀ σ' H', Nxt3 F a h l H0 σ' H' → D.nx σ' H') →
    t D [some (.ref a), some (.ref h), o2, some v, o4, some (.ref fd), o6, o7, some (.ref ta), some (.ref kp), some ov, o11, o12, none] H1 := by
  have hr1 : Room 1 _ := hr.mono (by decide)
  have hr11 : Room 11 _ := hr.mono (by decide)
  have hr21 : Room 21 _ := hr.mono (by decide)
  have hr29 : Room 29 _ := hr.mono (by decide)
  have hU : (A.deeper (envOfC "law" (defScope lLaw) s.heap.objs.size f cdv)).units + 64 < cLine := by have := u65 hr; omega
  refine ⟨_, pss_cons (ps_set (i := 11) scLaw3.nd rfl (.inr rfl) (pe_call F.gl hr1 (by rfl) F.nl.m F.nl.kp F.nl.b .nil pass0 (pa_cons (pe_call F.gL hr21 (by rfl) F.nL.m F.nL.kp F.nL.b .nil pass0 (pa_cons (pv 10) pa_nil)) pa_nil)))
    (pss_cons (ps_setLc (i := 12) (own := [("_law_pair", 13)]) (g := gName 13) rfl scLaw3.nd rfl rfl (sw_true rfl rfl rfl (by decide +kernel)) (pi_list (pv 9)) (blkOk_by (own := [("_law_pair", 13)]) (N := names3) (sc := defScope lLaw) (by decide +kernel)) (fun _ _ _ _ _ => pg_name (i := 13) scLaw3.nd rfl (.inl rfl))
        (fun _ _ _ _ _ => pts_one (pt_cmpR (r := rEqD K) (op_eqD hU) (pe_ix (r := rIxT K) ix_tup (pv 13) pe_int (fun _ _ => rfl)) (pv 11) (by rfl))) (fun _ _ _ _ _ => pe_ix (r := rIxT K) ix_tup (pv 13) pe_int (fun _ _ => rfl)))
    (pss_cons (ps_if (pt_not (pt_val (pe_call F.gA hr11 (by rfl) F.nA.m F.nA.kp F.nA.b .nil pass0 (pa_cons (pe_call F.gv hr (by rfl) F.nv.m F.nv.kp F.nv.b .nil pass0 (pa_cons (pv 3) (pa_cons (pv 10) pa_nil))) (pa_cons (pe_ix (r := rIxL K) ix_list (pe_op op_cat (pv 12) (pe_lst (pa_cons pe_non pa_nil))) pe_int (fun _ _ => rfl)) pa_nil))))) (pss_one (ps_ret pe_bl)) pss_nil)
    (pss_cons (ps_expr (pe_bm PySem.F.plainAttrs_list PySem.F.slot_list_append PySem.F.type_list_append mt_append (pv 8) (pa_cons (pe_tup (pa_cons pe_int (pa_cons pe_int (pa_cons pe_int pa_nil)))) pa_nil)))
    (pss_cons (ps_expr (pe_bm0 PySem.F.plainAttrs_list PySem.F.slot_list_reverse PySem.F.type_list_reverse mt_reverse (pv 5)))
    (pss_one (ps_if (pt_not (pt_val (pe_call F.gA hr11 (by rfl) F.nA.m F.nA.kp F.nA.b .nil pass0 (pa_cons (pe_call F.gu hr29 (by rfl) F.nu.m F.nu.kp F.nu.b .nil pass0 (pa_cons (pv 3) pa_nil)) (pa_cons (pv 9) pa_nil))))) (pss_one (ps_ret pe_bl)) pss_nil)))))), ?_⟩
  intro a h l H0 v ov b b' fd ta kp ysF zsT ysK D o2 o4 o6 o7 o11 o12 H1 c nx
  obtain ⟨x1, oB, og, od, on, f0, t0, hf, ht, hl, hk, rk, kt, kf, tf⟩ := c
  have hT := turns_ok (b := b)
  generalize hTe : turnsL (all b) = T at rk hT ⊢
  refine ⟨_, rfl, ov, b', rfl, oB, by omega, fun H2 r2 zs2 k2 n2 h2 i2 => ⟨.ref r2, all b', rfl, cellsL_of h2 i2, all_len b', asc_nodup (all_asc b'), fun H3 p3 ys3 k3 n3 h3 i3 => ?_⟩⟩
  have k13 := k2.trans k3
  have x3 := x1.mono0 k13
  have oB3 := body_mono k13 oB
  have hf3 := k13.lst hf List.not_mem_nil
  have ht3 := k13.lst ht List.not_mem_nil
  have hk3 := k13.lst hk List.not_mem_nil
  have rk3 := rk.mono k13 (fun _ _ => List.not_mem_nil)
  refine nameI (i := 11) (v := .ref p3) (σ := [some (.ref a), some (.ref h), o2, some v, o4, some (.ref fd), o6, o7, some (.ref ta), some (.ref kp), some ov, o11, o12, none]) ?_
  refine ⟨_, rfl, kp, rfl, ⟨_, SqL.of hk3⟩, fun D' hD => lc_listA (K := K) T (fun v r H => ∃ t a zs, v = .ref t ∧ SqT K H t [.str r.1, .ref a] ∧ H a = some (.lst zs) ∧ Items K H zs r.2 ∧ a ≠ D') (fun H'' x c k ⟨t, a, zs, e, h1, h2, h3, h4⟩ => ⟨t, a, zs, e, k.sqT h1, k.lst h2 List.not_mem_nil, items_mono k h3, h4⟩) (fun r => decide (r.2 = laidL (all b')))
    (fun y r H => y = .str r.1) (fun S H1 H2 y c hS k e => e) hD (SqL.of hk3) ((rk3.new hD).imp (fun b g => g.2)) (by omega) (fun j c x H'' Nx Z hc k hx nx nz => ?s) (fun H5 ys5 k5 h5 hp5 => ?d)⟩
  case s =>
    obtain ⟨t', a', zs', rfl, h1, h2, h4, _⟩ := hx
    refine ⟨rfl, _, rfl, t', _, 1, _, rfl, rfl, h1, rfl, _, rfl, .list (c.2.map cD), .list ((laidL (all b')).map cD), cellsL_of h2 h4, cellsL_of (k.lst h3 List.not_mem_nil) (items_mono k i3), cDs_shapedL _, cDs_shapedL _, _, rfl, ?_⟩
    rw [eqvL]
    by_cases hS : c.2 = laidL (all b')
    · exact itD1 hS ⟨_, rfl, t', _, 0, _, rfl, rfl, h1, rfl, nx _ _ (Kp.refl _ _) (decide_eq_true hS) rfl⟩
    · exact itD0 hS (nz _ (Kp.refl _ _) (decide_eq_false hS))
  case d =>
    have ey : ys5 = (T.filter fun r => decide (r.2 = laidL (all b'))).map fun r => V.str r.1 := paired_strs hp5
    subst ey
    have x5 := x3.mono0 k5
    have oB5 := body_mono k5 oB3
    refine nameI (i := 12) (v := .ref D') (σ := [some (.ref a), some (.ref h), o2, some v, o4, some (.ref fd), o6, o7, some (.ref ta), some (.ref kp), some ov, some (.ref p3), o12, none]) ?_
    refine ⟨_, rfl, _, rfl, v, ov, b, b', rfl, x5.hB, x5.hg, x5.nb, oB5, og, on, x5.tb, fun H6 k6 => ?_⟩
    rw [hTe]
    refine ⟨_, rfl, (by show 1 ≤ sizeLine; decide), fun n1 hn1 => ?_⟩
    have k7 : Kp [] H6 (upd H6 n1 (.lst [.non])) := Kp.new hn1
    have e7 : upd H6 n1 (.lst [.non]) n1 = some (.lst [.non]) := upd_same
    generalize upd H6 n1 (.lst [.non]) = H7 at k7 e7 ⊢
    have h57 := (k6.trans k7).lst h5 List.not_mem_nil
    have fl := List.length_filter_le (fun r : Str × List C3 => decide (r.2 = laidL (all b'))) T
    refine ⟨D', n1, _, _, rfl, rfl, h57, e7, Nat.le_of_lt (small_size (by rw [List.length_map]; show _ + 1 ≤ 100000; omega)), fun l3 hl3 => ?_⟩
    have k8 : Kp [] H7 (upd H7 l3 (.lst (((T.filter fun r => decide (r.2 = laidL (all b'))).map fun r => V.str r.1) ++ [.non]))) := Kp.new hl3
    have e8 : upd H7 l3 (.lst (((T.filter fun r => decide (r.2 = laidL (all b'))).map fun r => V.str r.1) ++ [.non])) l3 = some (.lst (((T.filter fun r => decide (r.2 = laidL (all b'))).map fun r => V.str r.1) ++ [.non])) := upd_same
    generalize upd H7 l3 (.lst (((T.filter fun r => decide (r.2 = laidL (all b'))).map fun r => V.str r.1) ++ [.non])) = H8 at k8 e8 ⊢
    obtain ⟨d, d1, d2, d3, d4⟩ := wordV_dp (K := K) (H := H8) (laidL (all b')) T
    refine ⟨l3, _, 0, _, rfl, rfl, SqL.of e8, wordV_due _ T, _, _, d, rfl, d1, d1, d2, d3, fun H9 k9 => ⟨true, rfl, iteF ?_⟩⟩
    have k59 := ((k6.trans k7).trans k8).trans k9
    have k39 := k5.trans k59
    have x9 := x5.mono0 k59
    have hf9 := k39.lst hf3 List.not_mem_nil
    have ht9 := k39.lst ht3 List.not_mem_nil
    have hk9 := k39.lst hk3 List.not_mem_nil
    have rk9 := rk3.mono k39 (fun _ _ => List.not_mem_nil)
    refine ⟨_, rfl, .inl ⟨rfl, _, SqL.of ht9⟩, (by show 3 ≤ sizeLine; decide), fun t10 ht10 => ?_⟩
    have k10 : Kp [] H9 (upd H9 t10 (.tup [.int 0, .int 0, .int 0])) := Kp.new ht10
    generalize upd H9 t10 (.tup [.int 0, .int 0, .int 0]) = H10 at k10 ⊢
    have x10 := x9.mono0 k10
    have hf10 := k10.lst hf9 List.not_mem_nil
    have ht10' := k10.lst ht9 List.not_mem_nil
    have hk10 := k10.lst hk9 List.not_mem_nil
    have rk10 := rk9.mono k10 (fun _ _ => List.not_mem_nil)
    refine ⟨ta, zsT, _, rfl, rfl, ht10', small_size (by omega), ?_⟩
    have kc : Kp [ta] H10 (upd H10 ta (.lst (zsT ++ [.ref t10]))) := Kp.chg ht10' (List.mem_singleton.mpr rfl)
    have x11 := x10.chg (ys := zsT ++ [.ref t10]) t0 ht10'
    have hf11 := kc.lst hf10 (fun m => tf (List.mem_singleton.mp m).symm)
    have hk11 := kc.lst hk10 (fun m => kt (List.mem_singleton.mp m))
    have rk11 := rk10.mono kc (fun b z m => z.1 (List.mem_singleton.mp m))
    generalize upd H10 ta (.lst (zsT ++ [.ref t10])) = H11 at kc x11 hf11 hk11 rk11 ⊢
    refine ⟨_, rfl, .inl ⟨rfl, _, SqL.of hf11⟩, fd, ysF, rfl, rfl, hf11, ?_⟩
    have kd : Kp [fd] H11 (upd H11 fd (.lst ysF.reverse)) := Kp.chg hf11 (List.mem_singleton.mpr rfl)
    have x12 := x11.chg (ys := ysF.reverse) f0 hf11
    have hk12 := kd.lst hk11 (fun m => kf (List.mem_singleton.mp m))
    have rk12 := rk11.mono kd (fun b z m => z.2 (List.mem_singleton.mp m))
    generalize upd H11 fd (.lst ysF.reverse) = H12 at kd x12 hk12 rk12 ⊢
    refine ⟨_, rfl, v, b, rfl, x12.hB, x12.hg, x12.nb, x12.tb, fun H13 r13 ys13 k13' n13 h13 t13 => ?_⟩
    rw [hTe] at t13
    have x13 := x12.mono0 k13'
    refine ⟨_, rfl, .ref r13, .ref kp, .list (T.map rowD), rfl, .lst (SqL.of h13) (tr_dps t13), .lst (SqL.of (k13'.lst hk12 List.not_mem_nil)) (tr_dps (rk12.mono k13' (fun _ _ => List.not_mem_nil))), rowsD_okD hT.1 hT.2, rowsD_dep _, fun H14 k14 => ⟨true, rfl, iteF (nx _ _ ?_)⟩⟩
    have x14 := x13.mono0 k14
    exact ⟨⟨_, _, _, _, _, _, _, _, _, _, _, rfl⟩, x14.s0, x14.k, x14.s, x14.tb⟩
end
end
end LP
end

section
set_option Elab.async false
set_option linter.all false
set_option maxRecDepth 100000
set_option maxHeartbeats 4000000
/-! law_k03: copies, the choice of a turning and of the other body -/
namespace LP
open PySem PySem.Spec PyProof.Rows L2 Ly GY
section
variable [LamTab] [LamOk] {P : Program} {W0 : World} {K : PySem.W.Frag} {mg : Str → Option Value} {base : Heap}
def rListOf (K : PySem.W.Frag) : List V → Hp → VK → Prop := fun xs H Q => ∃ p ys, xs = [.ref p] ∧ (SqL K H p ys ∨ SqT K H p ys) ∧ ∀ l, H l = none → Q (.ref l) (upd H l (.lst ys))
variable (F : LF3 P W0 K mg base) {f : Addr} {cdv : Value} {A : Around} {outer : List Env} {s : Shared} {H : Hp} {E : XK}
  (hr : Room 30 (A.deeper (envOfC "law" (defScope lLaw) s.heap.objs.size f cdv)))
include hr
theorem part3_b : ∃ t, PSs (lawX3 P W0 K mg base f cdv A outer s H E) (lawLoop3.drop 7) t ∧ ∀ (a h l : Addr) (H0 : Hp) (v : V) (b : Bd) (fd : Addr) (ysF : List V) (D : Ends) (o2 o4 o6 o7 o8 o9 o10 o11 o12 : Option V) (H1 : Hp),
    B3 F h l H0 v b H1 → H0 fd = none → H1 fd = some (.lst ysF) → TRows K H1 (fun b => H0 b = none ∧ b ≠ fd) ysF (turnsL (all b)) → (∀ σ' H', Nxt3 F a h l H0 σ' H' → D.nx σ' H') →
    t D [some (.ref a), some (.ref h), o2, some v, o4, some (.ref fd), o6, o7, o8, o9, o10, o11, o12, none] H1 := by
  obtain ⟨tc, pc, qc⟩ := part3_c F hr (H := H) (E := E) (outer := outer)
  have hr1 : Room 1 _ := hr.mono (by decide)
  have hr25 : Room 25 _ := hr.mono (by decide)
  refine ⟨_, pss_cons (ps_setLc (i := 9) (own := [("_law_word", 7), ("_law_told", 8)]) (g := gTup K 2 (gCons (gName 7) (gCons (gName 8) gNil))) rfl scLaw3.nd rfl rfl (sw_true rfl rfl rfl (by decide +kernel)) (pi_list (pv 5)) (blkOk_by (own := [("_law_word", 7), ("_law_told", 8)]) (N := names3) (sc := defScope lLaw) (by decide +kernel))
        (fun _ _ _ _ _ => pg_tup rfl (pgs_cons (pg_name (i := 7) scLaw3.nd rfl (.inl rfl)) (pgs_cons (pg_name (i := 8) scLaw3.nd rfl (.inl rfl)) pgs_nil))) (fun _ _ _ _ _ => pts_nil)
        (fun _ _ _ _ _ => pe_tup (pa_cons (pv 7) (pa_cons (pe_callTy (r := rListOf K) call_list_of (by rfl) F.T.list (by decide +kernel) (pa_cons (pv 8) pa_nil)) pa_nil))))
    (pss_cons (ps_asg (pe_ix (r := rIxL K) ix_list (pv 5) (pe_call F.gX hr1 (by rfl) F.nX.m F.nX.kp F.nX.b .nil pass0 (pa_cons (pv 1) (pa_cons (pe_callB call_len_seq (by rfl) F.T.len PySem.boot_len (pa_cons (pv 5) pa_nil)) pa_nil))) (fun _ _ => rfl)) (pg_tup rfl (pgs_cons (pg_name (i := 7) scLaw3.nd rfl (.inl rfl)) (pgs_cons (pg_name (i := 8) scLaw3.nd rfl (.inl rfl)) pgs_nil))))
    (pss_cons (ps_set (i := 10) scLaw3.nd rfl (.inl rfl) (pe_ix (r := rIxL K) ix_list (pe_lst (pa_cons (pe_tup (pa_cons pe_str (pa_cons (pe_callTy (r := rTupOf K) call_tuple_of (by rfl) F.T.tuple (by decide +kernel) (pa_cons (pv 8) pa_nil)) pa_nil))) (pa_cons (pe_tup (pa_cons pe_str (pa_cons pe_str (pa_cons (pv 3) pa_nil)))) (pa_cons (pe_call F.gB hr25 (by rfl) F.nB.m F.nB.kp F.nB.b .nil pass0 (pa_cons (pv 1) (pa_cons pe_int pa_nil))) pa_nil))))
        (pe_call F.gX hr1 (by rfl) F.nX.m F.nX.kp F.nX.b .nil pass0 (pa_cons (pv 1) (pa_cons pe_int pa_nil))) (fun _ _ => rfl)))
    pc)), ?_⟩
  intro a h l H0 v b fd ysF D o2 o4 o6 o7 o8 o9 o10 o11 o12 H1 x1 f0 hf rf nx
  have hcn : (all b).Nodup := asc_nodup (all_asc b)
  have hT := turns_ok (b := b)
  have yl := paired_len rf
  obtain ⟨p0, hp0, _⟩ := List.mem_map.mp (F4_rot hcn rots_id)
  have hpos : 0 < (turnsL (all b)).length := List.length_pos_of_mem hp0
  have apf := x1.s0.apart f0
  refine ⟨_, rfl, fd, rfl, ⟨_, SqL.of hf⟩, fun Dk hD => lc_listB (K := K) (turnsL (all b)) (fun v r H => ∃ t a zs, v = .ref t ∧ SqT K H t [.str r.1, .ref a] ∧ H a = some (.lst zs) ∧ Items K H zs r.2 ∧ a ≠ Dk) (fun H'' x c k ⟨t, a, zs, e, h1, h2, h3, h4⟩ => ⟨t, a, zs, e, k.sqT h1, k.lst h2 List.not_mem_nil, items_mono k h3, h4⟩) (fun _ => true)
    (fun y r H => ∃ t a zs, y = .ref t ∧ SqT K H t [.str r.1, .ref a] ∧ H a = some (.lst zs) ∧ Items K H zs r.2 ∧ (a ≠ Dk ∧ H1 a = none)) (fun S H1 H2 y c hS k ⟨t, a, zs, e, ht, h1, h2, h3⟩ => ⟨t, a, zs, e, k.sqT ht, k.lst h1 (fun m => h3.1 (hS _ m)), items_mono k h2, h3⟩) hD (SqL.of hf) ((rf.new hD).imp (fun b g => g.2)) (by omega) (fun j c x H'' Nx Z hc k hDa hx nx' _ => ?s) (fun H2 ysK k2 hk rk => ?d)⟩
  case s =>
    obtain ⟨t', a', zs', rfl, h1, h2, h4, h5⟩ := hx
    refine ⟨t', _, rfl, h1, rfl, _, _, rfl, _, _, rfl, rfl, ?_⟩
    refine ⟨rfl, yesI ⟨_, rfl, _, rfl, a', zs', rfl, .inl (SqL.of h2), fun l1 hl1 => ⟨(by show 2 ≤ sizeLine; decide), fun t1 ht1 => nx' _ (.ref t1) ((Kp.new hl1).trans (Kp.new ht1)) rfl ?_⟩⟩⟩
    obtain ⟨acc, hDa⟩ := hDa
    have kl : Kp [] H'' (upd H'' l1 (.lst zs')) := Kp.new hl1
    have kt := Kp.new (S := []) (o := .tup [.str c.1, .ref l1]) ht1
    refine ⟨t1, l1, zs', rfl, SqT.of upd_same, kt.lst upd_same List.not_mem_nil, items_mono kt (items_mono kl h4), fun z => ?_, k.free l1 hl1⟩
    rw [z, hDa] at hl1
    cases hl1
  case d =>
    rw [List.filter_eq_self.mpr fun _ _ => rfl] at rk
    have x2 := x1.mono0 k2
    have hf2 := k2.lst hf List.not_mem_nil
    have rf2 := rf.mono k2 (fun _ _ => List.not_mem_nil)
    have DkN : Dk ∉ [h, l] := x1.s.apart hD
    have rk : TRows K H2 (fun a => a ≠ Dk ∧ H1 a = none) ysK (turnsL (all b)) := rk
    refine nameI (i := 9) (v := .ref Dk) (σ := [some (.ref a), some (.ref h), o2, some v, o4, some (.ref fd), o6, o7, o8, o9, o10, o11, o12, none]) ?_
    refine ⟨_, rfl, _, rfl, _, rfl, fd, ysF, rfl, .inl (SqL.of hf2), h, l, (ysF.length : Int), rfl, by omega, by omega, x2.s, fun H3 r k3 s3 r0 r1 => ?_⟩
    have x3 := x2.mono k3 s3
    obtain ⟨i, rfl⟩ : ∃ i : Nat, r = (i : Int) := ⟨r.toNat, by omega⟩
    have hi : i < (turnsL (all b)).length := by omega
    have hf3 := k3.lst hf2 apf
    have hk3 := k3.lst hk DkN
    have rk3 := rk.mono k3 (fun b z => x1.s.apart z.2)
    obtain ⟨⟨w, S⟩, hp1⟩ : ∃ p, (turnsL (all b))[i]? = some p := ⟨_, List.getElem?_eq_getElem hi⟩
    obtain ⟨t, ta, zsT, ey, htp1, hta1, hit1, hga⟩ := tr_get rf hp1
    have htp := k3.sqT (k2.sqT htp1)
    have taN := x1.s0.apart hga.1
    have hta := k3.lst (k2.lst hta1 List.not_mem_nil) taN
    have hit : Items K H3 zsT S := items_mono k3 (items_mono k2 hit1)
    have hmS : (w, S) ∈ turnsL (all b) := List.mem_of_getElem? hp1
    have hS64 : S.length ≤ 64 := hT.1 _ hmS
    obtain ⟨mr, hmr, eS1⟩ := F_rot hcn (List.mem_map.mpr ⟨_, hmS, rfl⟩)
    have eS1 : S = rotL (all b) mr := eS1
    have gS : Good (.cells S) := by
      refine ⟨?_, ?_⟩
      · rw [eS1]
        exact laid_asc (rot_nodup hcn hmr)
      · rw [eS1]
        exact rot_inR (fun c hc => in_all hc) hmr
    have zl : zsT.length ≤ 64 := by rw [hit.length]; exact hS64
    refine ⟨fd, _, _, _, rfl, rfl, SqL.of hf3, atI_nat ey, ?_⟩
    refine ⟨t, _, rfl, htp, rfl, _, _, rfl, _, _, rfl, rfl, ?_⟩
    refine ⟨_, rfl, ta, zsT, rfl, .inl ⟨SqL.of hta, fun l1 hl1 => ?_⟩⟩
    have k4 : Kp [] H3 (upd H3 l1 (.tup zsT)) := Kp.new hl1
    have e4 : SqT K (upd H3 l1 (.tup zsT)) l1 zsT := SqT.of upd_same
    generalize upd H3 l1 (.tup zsT) = H4 at k4 e4 ⊢
    refine ⟨(by show 2 ≤ sizeLine; decide), fun t1 ht1 => ?_⟩
    have k5 : Kp [] H4 (upd H4 t1 (.tup [.str "cells", .ref l1])) := Kp.new ht1
    have e5 : SqT K (upd H4 t1 (.tup [.str "cells", .ref l1])) t1 [.str "cells", .ref l1] := SqT.of upd_same
    generalize upd H4 t1 (.tup [.str "cells", .ref l1]) = H5 at k5 e5 ⊢
    have bC : Body K H5 (.ref t1) (.cells S) := .tup e5 (.cons (.str _) (.cons (.tup (k5.sqT e4) (items_mono (k4.trans k5) hit)) .nil))
    have x5 := x3.mono0 (k4.trans k5)
    refine ⟨_, rfl, (by show 3 ≤ sizeLine; decide), fun t2 ht2 => ?_⟩
    have k6 : Kp [] H5 (upd H5 t2 (.tup [.str "turned", .str "y", v])) := Kp.new ht2
    have e6 : SqT K (upd H5 t2 (.tup [.str "turned", .str "y", v])) t2 [.str "turned", .str "y", v] := SqT.of upd_same
    generalize upd H5 t2 (.tup [.str "turned", .str "y", v]) = H6 at k6 e6 ⊢
    have x6 := x5.mono0 k6
    have bT : Body K H6 (.ref t2) (.turnY b) := .tup e6 (.cons (.str _) (.cons (.str _) (.cons x6.hB .nil)))
    have bC6 := body_mono k6 bC
    refine ⟨_, rfl, h, l, 2, rfl, by decide, by decide, x6.s, fun H7 v3 b3 k7 s7 hB3 hg3 hd3 => ?_⟩
    have x7 := x6.mono k7 s7
    refine ⟨(by show 3 ≤ sizeLine; decide), fun lo hlo => ?_⟩
    have k8 : Kp [] H7 (upd H7 lo (.lst [.ref t1, .ref t2, v3])) := Kp.new hlo
    have e8 : upd H7 lo (.lst [.ref t1, .ref t2, v3]) lo = some (.lst [.ref t1, .ref t2, v3]) := upd_same
    have x8 := x7.mono0 k8
    have hloA := x7.s.apart hlo
    generalize upd H7 lo (.lst [.ref t1, .ref t2, v3]) = H8 at k8 e8 x8 ⊢
    refine ⟨_, rfl, h, l, 3, rfl, by decide, by decide, x8.s, fun H9 i k9 s9 i0 i3 => ?_⟩
    have x9 := x8.mono k9 s9
    have k79 := k8.w0.trans k9
    obtain ⟨ov, b', hix, oB, og, od, on⟩ : ∃ ov b', atI [V.ref t1, .ref t2, v3] i = some ov ∧ Body K H9 ov b' ∧ Good b' ∧ dp b' ≤ 5 ∧ nb b' ≤ 20 := by
      have hd := x9.hd
      have hn := x1.nb
      have hn2 := nb_of_dp x9.hd
      have e4 : 2 ^ 4 = 16 := rfl
      rcases (show i = 0 ∨ i = 1 ∨ i = 2 by omega) with rfl | rfl | rfl
      · exact ⟨_, .cells S, rfl, body_mono k79 (body_mono k7 bC6), gS, by show 1 ≤ 5; decide, by show 1 ≤ 20; decide⟩
      · exact ⟨_, .turnY b, rfl, body_mono k79 (body_mono k7 bT), x9.hg, by show 1 + dp b ≤ 5; omega, by show 1 + nb b ≤ 20; omega⟩
      · have hn3 := nb_of_dp hd3
        have e3 : 2 ^ (2 + 1) = 8 := rfl
        exact ⟨_, b3, rfl, body_mono k79 hB3, hg3, by omega, by omega⟩
    refine ⟨lo, _, i, ov, rfl, rfl, SqL.of (k9.lst e8 hloA), hix, ?_⟩
    have k36 : Kp [h, l] H3 H9 := ((((k4.trans k5).trans k6).w0.trans k7).trans k8.w0).trans k9
    refine qc a h l H0 v ov b b' fd ta Dk ysF zsT ysK D o2 o4 o6 (some (.str w)) o11 o12 H9 ⟨x9, oB, og, od, on, f0, hga.1, k36.lst hf3 apf, k36.lst hta taN, zl, k36.lst hk3 DkN, ?_, ?_, ?_, hga.2⟩ nx
    · exact (rk3.mono k36 (fun b z => x1.s.apart z.2)).imp fun b z => ⟨fun e => (by have z2 := z.2; rw [e, hta1] at z2; cases z2), fun e => (by have z2 := z.2; rw [e, hf] at z2; cases z2)⟩
    · exact fun e => by rw [e, hta1] at hD; cases hD
    · exact fun e => by rw [e, hf] at hD; cases hD
end
end LP
end

section
set_option Elab.async false
set_option linter.all false
set_option maxRecDepth 100000
set_option maxHeartbeats 1000000
/-! law_k03 -/
namespace LP
open PySem PySem.Spec PyProof.Rows L2 Ly GY
section
variable [LamTab] [LamOk] {P : Program} {W0 : World} {K : PySem.W.Frag} {mg : Str → Option Value} {base : Heap}
theorem paired_ints {T : List (Str × List C3)} : ∀ {ys : List V}, Paired (fun (y : V) (r : Str × List C3) => y = .int (r.1.length : Int)) ys T → ys = T.map (V.int ∘ fun r => (r.1.length : Int)) := by
  intro ys h
  induction h with
  | nil => rfl
  | cons a _ ih => rw [a, ih]; rfl
theorem paired_keys {α : Type} {f : α → NestedKey} {H : Hp} : ∀ {ys : List V} {l : List α}, Paired (fun (y : V) (m : α) => ∃ p, y = .ref p ∧ GN.KeyN K H (.ref p) (f m)) ys l → ∃ ks : List (Addr × NestedKey), ys = ks.map (fun p => V.ref p.1) ∧ ks.map (·.2) = l.map f ∧ ∀ p ∈ ks, GN.KeyN K H (.ref p.1) p.2
  | _, _, .nil => ⟨[], rfl, rfl, fun p hp => by cases hp⟩
  | _, _, .cons (b := m) ⟨p, e, h⟩ t => by
    obtain ⟨ks, h1, h2, h3⟩ := paired_keys t
    refine ⟨(p, f m) :: ks, by rw [e, h1]; rfl, by rw [List.map_cons, List.map_cons, h2], fun q hq => ?_⟩
    rcases List.mem_cons.mp hq with z | z
    · rw [z]; exact h
    · exact h3 q z
theorem keys_of {L : List (Addr × NestedKey)} (h : ∀ p ∈ L, ∃ g, p.2 = kG g) : ∃ gs : List (List C3), L.map (·.2) = gs.map kG := by
  induction L with
  | nil => exact ⟨[], rfl⟩
  | cons p L ih =>
    obtain ⟨gs, e⟩ := ih fun q hq => h q (List.mem_cons_of_mem _ hq)
    obtain ⟨g, e2⟩ := h p List.mem_cons_self
    exact ⟨g :: gs, by rw [List.map_cons, List.map_cons, e, e2]⟩
theorem keys_dps {H : Hp} : ∀ {L : List (Addr × NestedKey)}, (∀ q ∈ L, GN.KeyN K H (.ref q.1) q.2) → DpAll K H (L.map fun q => V.ref q.1) (L.map fun q => q.2.data)
  | [], _ => .nil
  | q :: L, h => .cons (h q List.mem_cons_self).1.1 (keys_dps fun r hr => h r (List.mem_cons_of_mem _ hr))
theorem mem_kG {g : List C3} {l : List (List C3)} : kG g ∈ l.map kG ↔ g ∈ l := ⟨fun h => by
    obtain ⟨g', hg', e⟩ := List.mem_map.mp h
    rw [← kG_inj e]
    exact hg', fun h => List.mem_map.mpr ⟨g, h, rfl⟩⟩
theorem tDs_lay : ∀ T : List (List C3), PyData.canLayAll0 (T.map tD) = true
  | [] => by simp [PyData.canLayAll0]
  | r :: T => by
    rw [List.map_cons]
    simp only [tD, PyData.canLayAll0, PyData.canLay0, cDs_lay, Bool.true_and]
    exact tDs_lay T
theorem tDs_depth : ∀ T : List (List C3), PyData.depthAll (T.map tD) ≤ 2
  | [] => by simp [PyData.depthAll]
  | r :: T => by
    have h1 := tDs_depth T
    have h2 := tD_dep r
    simp only [List.map_cons, PyData.depthAll]
    omega
theorem states_shaped (T : List (List C3)) : SeqAt.shaped (.list (T.map tD)) = true := by
  have h1 := tDs_depth T
  have h2 : PyData.depth (.list (T.map tD)) ≤ 64 := by
    simp only [PyData.depth]
    omega
  show (PyData.canLay0 (.list _) && decide (PyData.depth (.list _) ≤ 64)) = true
  rw [Bool.and_eq_true]
  exact ⟨by simp only [PyData.canLay0]; exact tDs_lay T, decide_eq_true h2⟩
variable (F : LF3 P W0 K mg base) {f : Addr} {cdv : Value} {A : Around} {outer : List Env} {s : Shared} {H : Hp} {E : XK}
  (hr : Room 30 (A.deeper (envOfC "law" (defScope lLaw) s.heap.objs.size f cdv)))
include hr
/-- the sorted turnings are the sorted set of all 24 -/
theorem part3_s : ∃ t, PSs (lawX3 P W0 K mg base f cdv A outer s H E) (lawLoop3.drop 6) t ∧ ∀ (a h l : Addr) (H0 : Hp) (v : V) (b : Bd) (fd du : Addr) (ysF dys : List V) (D : Ends) (o2 o6 o7 o8 o9 o10 o11 o12 : Option V) (H1 : Hp),
    B3 F h l H0 v b H1 → H1 du = some (.lst dys) → Items K H1 dys (all b) → H0 fd = none → H1 fd = some (.lst ysF) → TRows K H1 (fun b => H0 b = none ∧ b ≠ fd) ysF (turnsL (all b)) → (∀ σ' H', Nxt3 F a h l H0 σ' H' → D.nx σ' H') →
    t D [some (.ref a), some (.ref h), o2, some v, some (.ref du), some (.ref fd), o6, o7, o8, o9, o10, o11, o12, none] H1 := by
  obtain ⟨tb, pb, qb⟩ := part3_b F hr (H := H) (E := E) (outer := outer)
  have hr2 : Room 2 _ := hr.mono (by decide)
  have hU : (A.deeper (envOfC "law" (defScope lLaw) s.heap.objs.size f cdv)).units + 64 < cLine := by have := u65 hr; omega
  refine ⟨_, pss_cons (ps_if (pt_cmpR (op_neD hU)
      (pe_callB (r := GN.rSortD K tD) (GN.cr_sortD hU) (by rfl) F.T.sorted (by decide +kernel) (pa_cons (pe_lc (own := [("_law_word", 7), ("_law_told", 8)]) (g := gTup K 2 (gCons (gName 7) (gCons (gName 8) gNil))) rfl scLaw3.nd (pi_list (pv 5)) (blkOk_by (own := [("_law_word", 7), ("_law_told", 8)]) (N := names3) (sc := defScope lLaw) (by decide +kernel))
        (fun _ _ _ _ _ => pg_tup rfl (pgs_cons (pg_name (i := 7) scLaw3.nd rfl (.inl rfl)) (pgs_cons (pg_name (i := 8) scLaw3.nd rfl (.inl rfl)) pgs_nil))) (fun _ _ _ _ _ => pts_nil) (fun _ _ _ _ _ => pe_callTy (r := rTupOf K) call_tuple_of (by rfl) F.T.tuple (by decide +kernel) (pa_cons (pv 8) pa_nil))) pa_nil))
      (pe_callB (r := GN.rSortedN K P W0) (GN.cr_sortedN rfl hU) (by rfl) F.T.sorted (by decide +kernel) (pa_cons (pe_callTy (r := GN.rSetN K P W0) (GN.cr_setN rfl hU) (by rfl) F.T.set (by decide +kernel) (pa_cons
        (pe_lc (own := [("_law_one", 3)]) (g := gName 3) rfl scLaw3.nd (pi_list (pe_call F.gE hr2 (by rfl) F.nE.m F.nE.kp F.nE.b .nil pass0 (pa_cons (pv 4) pa_nil))) (blkOk_by (own := [("_law_one", 3)]) (N := names3) (sc := defScope lLaw) (by decide +kernel))
          (fun _ _ _ _ _ => pg_name (i := 3) scLaw3.nd rfl (.inl rfl)) (fun _ _ _ _ _ => pts_nil) (fun _ _ _ _ _ => pe_callTy (r := rTupOf K) call_tuple_of (by rfl) F.T.tuple (by decide +kernel) (pa_cons (pv 3) pa_nil))) pa_nil)) pa_nil)) (by rfl))
      (pss_one (ps_ret pe_bl)) pss_nil) pb, ?_⟩
  intro a h l H0 v b fd du ysF dys D o2 o6 o7 o8 o9 o10 o11 o12 H1 x1 hdu hdi f0 hf rf nx
  have hcn : (all b).Nodup := asc_nodup (all_asc b)
  have hT := turns_ok (b := b)
  have hnd : (Fw.sts (turnsL (all b))).Nodup := Fw.F_nodup 4
  refine ⟨_, rfl, fd, rfl, ⟨_, SqL.of hf⟩, fun D1 hD1 => lc_listA (K := K) (turnsL (all b)) (fun v r H => ∃ t a zs, v = .ref t ∧ SqT K H t [.str r.1, .ref a] ∧ H a = some (.lst zs) ∧ Items K H zs r.2 ∧ a ≠ D1) (fun H'' x c k ⟨t, a, zs, e, h1, h2, h3, h4⟩ => ⟨t, a, zs, e, k.sqT h1, k.lst h2 List.not_mem_nil, items_mono k h3, h4⟩) (fun _ => true)
    (fun y r H => Dp K H y (tD r.2)) (fun S H1 H2 y c hS k e => dp_mono k _ e (.inl (noL_tD _))) hD1 (SqL.of hf) ((rf.new hD1).imp (fun b g => g.2)) (by omega) (fun j c x H'' Nx Z hc k hx nx' _ => ?s) (fun H2 ysK k2 hk rk => ?d)⟩
  case s =>
    obtain ⟨t', a', zs', rfl, h1, h2, h4, h5⟩ := hx
    refine ⟨t', _, rfl, h1, rfl, _, _, rfl, _, _, rfl, rfl, ?_⟩
    exact ⟨rfl, yesI ⟨_, rfl, a', zs', rfl, .inl ⟨SqL.of h2, fun l1 hl1 => nx' _ (.ref l1) (Kp.new hl1) rfl (.tup (SqT.of upd_same) (items_mono (Kp.new (S := []) hl1) h4))⟩⟩⟩
  case d =>
    rw [List.filter_eq_self.mpr fun _ _ => rfl] at rk
    have dk : DpAll K H2 ysK ((Fw.sts (turnsL (all b))).map tD) := by
      have := paired_dps rk
      unfold Fw.sts
      rw [List.map_map]
      exact this
    have x2 := x1.mono0 k2
    have small : ∀ (L : List (List C3)), L.Nodup → (∀ g ∈ L, ∃ m ∈ rots, g = rotL (all b) m) → L.length ≤ 1 ∨ ∀ g ∈ L, g ≠ [] := fun L hL hg => by
      by_cases h0 : (all b).length = 0
      · left
        have : ∀ g ∈ L, g ∈ [([] : List C3)] := fun g hm => by
          obtain ⟨m, _, e⟩ := hg g hm
          have := rotL_len (cs := all b) m
          rw [← e, h0] at this
          rw [List.length_eq_zero_iff.mp this]
          exact List.mem_cons_self
        exact Hit.nodup_le hL this
      · right
        intro g hm e
        obtain ⟨m, _, e2⟩ := hg g hm
        have := rotL_len (cs := all b) m
        rw [← e2, e] at this
        exact h0 this.symm
    refine ⟨.ref D1, Fw.sts (turnsL (all b)), rfl, .lst (SqL.of hk) dk, Nat.le_of_lt (small_size (by unfold Fw.sts; rw [List.length_map]; omega)), fun a _ b _ => alikeT a b, fun a _ => (by unfold tD; intro e; cases e),
      (small _ hnd fun g hg => F_rot hcn hg).imp id (fun z g hg => tD_tup (z g hg)), fun a _ => Nat.le_trans (tD_dep a) (by decide), fun zs ds p pm ps pd hp => ?_⟩
    have k3 : Kp [] H2 (upd H2 p (.lst zs)) := Kp.new hp
    have e3 : upd H2 p (.lst zs) p = some (.lst zs) := upd_same
    have pd3 := dps_mono k3 _ pd (.inr rfl)
    generalize upd H2 p (.lst zs) = H3 at k3 e3 pd3 ⊢
    have x3 := x2.mono0 k3
    have k13 := k2.trans k3
    have hdu3 := k13.lst hdu List.not_mem_nil
    have hdi3 := items_mono k13 hdi
    refine ⟨_, rfl, .ref du, all b, rfl, cellsL_of hdu3 hdi3, all_len b, hcn, fun H4 r4 ys4 k4 n4 h4 t4 => ⟨r4, rfl, ⟨_, SqL.of h4⟩, fun D2 hD2 => ?_⟩⟩
    have rows4 : LRows K H4 (fun a => (H3 a = none ∧ a ≠ r4) ∧ a ≠ D2) ys4 (all b) rots := paired_imp (fun v m ⟨a, zs, e, ha, hi, ga⟩ => ⟨a, zs, e, ha, hi, ga, fun z => by rw [z, hD2] at ha; cases ha⟩) t4
    refine lc_listA (K := K) rots (fun v m H => ∃ a zs, v = .ref a ∧ H a = some (.lst zs) ∧ Items K H zs (rotL (all b) m) ∧ a ≠ D2) (fun H'' x c k ⟨a, zs, e, h2, h3, h4⟩ => ⟨a, zs, e, k.lst h2 List.not_mem_nil, items_mono k h3, h4⟩) (fun _ => true)
      (fun y m H => ∃ p, y = .ref p ∧ GN.KeyN K H (.ref p) (kG (rotL (all b) m))) (fun S H1 H2 y c hS k ⟨p, e, h⟩ => ⟨p, e, keyN_mono k h (noL_key _)⟩) hD2 (SqL.of h4) (paired_imp (fun v m ⟨a, zs, e, ha, hi, ga⟩ => ⟨a, zs, e, ha, hi, ga.2⟩) rows4) (by rw [rots_len]; decide) (fun j c x H'' Nx Z hc k hx nx' _ => ?s2) (fun H5 ysS k5 hk5 rk5 => ?d2)
    case s2 =>
      obtain ⟨a', zs', rfl, h2, h4', h5⟩ := hx
      exact ⟨rfl, yesI ⟨_, rfl, a', zs', rfl, .inl ⟨SqL.of h2, fun l1 hl1 => nx' _ (.ref l1) (Kp.new hl1) rfl ⟨l1, rfl, keyN_g (.tup (SqT.of upd_same) (items_mono (Kp.new (S := []) hl1) h4'))⟩⟩⟩⟩
    case d2 =>
      rw [List.filter_eq_self.mpr fun _ _ => rfl] at rk5
      obtain ⟨ks, rfl, ek, hk5'⟩ := paired_keys rk5
      have kl : ks.length = 24 := by
        have := congrArg List.length ek
        rw [List.length_map, List.length_map, rots_len] at this
        exact this
      have isK : ∀ p ∈ ks, ∃ m ∈ rots, p.2 = kG (rotL (all b) m) := fun p hp => by
        have : p.2 ∈ ks.map (·.2) := List.mem_map.mpr ⟨p, hp, rfl⟩
        rw [ek] at this
        obtain ⟨m, hm, e⟩ := List.mem_map.mp this
        exact ⟨m, hm, e.symm⟩
      have x5 := x3.mono0 (k4.trans k5)
      refine ⟨D2, ks, rfl, SqL.of hk5, hk5', by omega, fun S L hS hsub hall hLn nc => ?_⟩
      have k6 : Kp [] H5 (upd H5 S (GN.SNO P W0 S L)) := Kp.new hS
      have e6 : upd H5 S (GN.SNO P W0 S L) S = some (GN.SNO P W0 S L) := upd_same
      generalize upd H5 S (GN.SNO P W0 S L) = H6 at k6 e6 ⊢
      have kL6 : ∀ p ∈ L, GN.KeyN K H6 (.ref p.1) p.2 := fun p hp => keyN_mono k6 (hk5' p (hsub p hp)) (noL_key _)
      have dataL : ∀ p ∈ L, ∃ m ∈ rots, p.2 = kG (rotL (all b) m) ∧ p.2.data = tD (rotL (all b) m) := fun p hp => by
        obtain ⟨m, hm, e⟩ := isK p (hsub p hp)
        exact ⟨m, hm, e, by rw [e, kG_data]⟩
      obtain ⟨gs0, eg0⟩ := keys_of (fun p hp => by
        obtain ⟨m, _, e, _⟩ := dataL p hp
        exact ⟨_, e⟩) (L := L)
      have ng0 : gs0.Nodup := by
        have h := hLn
        rw [eg0] at h
        exact List.Pairwise.of_map kG (fun _ _ hne e => hne (congrArg kG e)) h
      have mg0 : ∀ g, g ∈ gs0 ↔ ∃ m ∈ rots, g = rotL (all b) m := fun g => by
        have h1 : g ∈ gs0 ↔ kG g ∈ L.map (·.2) := by
          rw [eg0]
          exact ⟨fun h => List.mem_map.mpr ⟨g, h, rfl⟩, fun h => by
            obtain ⟨g', hg', e⟩ := List.mem_map.mp h
            rw [← kG_inj e]
            exact hg'⟩
        rw [h1]
        constructor
        · intro h
          obtain ⟨p, hp, e⟩ := List.mem_map.mp h
          obtain ⟨m, hm, e2, _⟩ := dataL p hp
          exact ⟨m, hm, kG_inj (by rw [← e2, ← e])⟩
        · rintro ⟨m, hm, rfl⟩
          have : kG (rotL (all b) m) ∈ ks.map (·.2) := by
            rw [ek]
            exact List.mem_map.mpr ⟨m, hm, rfl⟩
          obtain ⟨p, hp, e⟩ := List.mem_map.mp this
          have := hall p hp
          rw [e] at this
          exact this
      have Ll : L.length = gs0.length := by
        have := congrArg List.length eg0
        rw [List.length_map, List.length_map] at this
        exact this
      refine ⟨S, L, rfl, e6, kL6, fun q hq r hr => ?_, ?_, fun L' p2 pm2 ps2 hp2 => ?_⟩
      · obtain ⟨m, _, _, e1⟩ := dataL q hq
        obtain ⟨m', _, _, e2⟩ := dataL r hr
        rw [e1, e2]
        exact alikeT _ _
      · rcases small gs0 ng0 (fun g hg => (mg0 g).mp hg) with z | z
        · left
          omega
        · right
          intro q hq
          obtain ⟨m, hm, _, e1⟩ := dataL q hq
          rw [e1]
          exact tD_tup (z _ ((mg0 _).mpr ⟨m, hm, rfl⟩))
      have k7 : Kp [] H6 (upd H6 p2 (.lst (L'.map fun q => V.ref q.1))) := Kp.new hp2
      have e7 : upd H6 p2 (.lst (L'.map fun q => V.ref q.1)) p2 = some (.lst (L'.map fun q => V.ref q.1)) := upd_same
      generalize upd H6 p2 (.lst (L'.map fun q => V.ref q.1)) = H7 at k7 e7 ⊢
      obtain ⟨gs, eg⟩ := keys_of (fun p hp => by
        obtain ⟨m, _, e, _⟩ := dataL p (pm2.mem_iff.mp hp)
        exact ⟨_, e⟩) (L := L')
      have edat : (L'.map fun q => q.2.data) = gs.map tD := by
        have e1 : (L'.map fun q => q.2.data) = (L'.map (·.2)).map NestedKey.data := by
          rw [List.map_map]
          rfl
        rw [e1, eg, List.map_map]
        exact List.map_congr_left fun g _ => kG_data g
      have pg : gs.Perm gs0 := by
        have h := pm2.map (·.2)
        have hn := h.nodup_iff.mpr hLn
        rw [eg] at hn
        rw [eg, eg0] at h
        refine (List.perm_ext_iff_of_nodup (List.Pairwise.of_map kG (fun _ _ hne e => hne (congrArg kG e)) hn) ng0).mpr fun g => ?_
        rw [← mem_kG, h.mem_iff, mem_kG]
      have sg : gs.Pairwise (fun a b => GN.leD (tD a) (tD b) = true) := by
        have h : (L'.map fun q => q.2.data).Pairwise (fun a b => GN.leD a b = true) := List.pairwise_map.mpr ps2
        rw [edat] at h
        exact List.pairwise_map.mp h
      have eds : ds = gs := sorted_same ps sg (pm.nodup_iff.mpr hnd) (pg.nodup_iff.mpr ng0) fun g => by
        rw [pm.mem_iff, pg.mem_iff, mg0 g]
        exact ⟨fun h => F_rot hcn h, fun ⟨m, hm, e⟩ => by rw [e]; exact F4_rot hcn hm⟩
      have k37 := ((k4.trans k5).trans k6).trans k7
      have dR : DpAll K H7 (L'.map fun q => V.ref q.1) (L'.map fun q => q.2.data) := keys_dps fun q hq => keyN_mono k7 (kL6 q (pm2.mem_iff.mp hq)) (noL_key _)
      rw [edat, ← eds] at dR
      refine ⟨.list (ds.map tD), .list (ds.map tD), .lst (SqL.of (k37.lst e3 List.not_mem_nil)) (dps_mono k37 _ pd3 (.inr rfl)), .lst (SqL.of e7) dR, states_shaped _, states_shaped _, _, rfl, iteF' ?_ ?_⟩
      · have := SeqAt.eqv_refl (.list (ds.map tD)) (SeqAt.canLay_of_shaped (states_shaped ds))
        rw [this]
        rfl
      · have k17 := k13.trans k37
        exact qb a h l H0 v b fd ysF D o2 (some (.ref du)) o6 o7 o8 o9 o10 o11 o12 H7 (x3.mono0 k37) f0 (k17.lst hf List.not_mem_nil) (rf.mono k17 (fun _ _ => List.not_mem_nil)) nx
theorem part3_a : ∃ t, PSs (lawX3 P W0 K mg base f cdv A outer s H E) (lawLoop3.drop 0) t ∧ ∀ (a h l : Addr) (H0 : Hp) (D : Ends) (σ : L2.St) (H1 : Hp), (∃ o2 o3 o4 o5 o6 o7 o8 o9 o10 o11 o12, σ = [some (.ref a), some (.ref h), o2, o3, o4, o5, o6, o7, o8, o9, o10, o11, o12, none]) → Sta H0 h l → Kp [h, l] H0 H1 → Sta H1 h l → Tb H1 F.Pt F.Pr F.Ph → (∀ σ' H', Nxt3 F a h l H0 σ' H' → D.nx σ' H') → t D σ H1 := by
  obtain ⟨tb, pb, qb⟩ := part3_s F hr (H := H) (E := E) (outer := outer)
  have hr1 : Room 1 _ := hr.mono (by decide)
  have hr2 : Room 2 _ := hr.mono (by decide)
  have hr11 : Room 11 _ := hr.mono (by decide)
  have hr21 : Room 21 _ := hr.mono (by decide)
  have hr25 : Room 25 _ := hr.mono (by decide)
  have hr28 : Room 28 _ := hr.mono (by decide)
  have hr29 : Room 29 _ := hr.mono (by decide)
  refine ⟨_, pss_cons (ps_set (i := 3) scLaw3.nd rfl (.inl rfl) (pe_call F.gB hr25 (by rfl) F.nB.m F.nB.kp F.nB.b .nil pass0 (pa_cons (pv 1) (pa_cons pe_int pa_nil))))
    (pss_cons (ps_set (i := 4) scLaw3.nd rfl (.inl rfl) (pe_call F.gL hr21 (by rfl) F.nL.m F.nL.kp F.nL.b .nil pass0 (pa_cons (pv 3) pa_nil)))
    (pss_cons (ps_if (pt_not (pt_val (pe_call F.gA hr11 (by rfl) F.nA.m F.nA.kp F.nA.b .nil pass0 (pa_cons (pe_call F.gt hr28 (by rfl) F.nt.m F.nt.kp F.nt.b .nil pass0 (pa_cons (pv 3) pa_nil)) (pa_cons (pe_call F.gl hr1 (by rfl) F.nl.m F.nl.kp F.nl.b .nil pass0 (pa_cons (pv 4) pa_nil)) pa_nil))))) (pss_one (ps_ret pe_bl)) pss_nil)
    (pss_cons (ps_set (i := 5) scLaw3.nd rfl (.inl rfl) (pe_call F.gu hr29 (by rfl) F.nu.m F.nu.kp F.nu.b .nil pass0 (pa_cons (pv 3) pa_nil)))
    (pss_cons (ps_setLc (i := 6) (own := [("_law_pair", 13)]) (g := gName 13) rfl scLaw3.nd rfl rfl (sw_true rfl rfl rfl (by decide +kernel)) (pi_list (pv 5)) (blkOk_by (own := [("_law_pair", 13)]) (N := names3) (sc := defScope lLaw) (by decide +kernel)) (fun _ _ _ _ _ => pg_name (i := 13) scLaw3.nd rfl (.inl rfl)) (fun _ _ _ _ _ => pts_nil) (fun _ _ _ _ _ => pe_ix (r := rIxT K) ix_tup (pv 13) pe_int (fun _ _ => rfl)))
    (pss_cons (ps_if (pt_not (pt_val (pe_call F.gA hr11 (by rfl) F.nA.m F.nA.kp F.nA.b .nil pass0 (pa_cons (pv 5) (pa_cons (pe_call F.gF hr2 (by rfl) F.nF.m F.nF.kp F.nF.b .nil pass0 (pa_cons (pv 4) (pa_cons
        (pe_callB (cr_max rfl) (by rfl) F.U.max (by decide +kernel) (pa_cons (pe_lc (own := [("_law_word", 7)]) (g := gName 7) rfl scLaw3.nd (pi_list (pv 6)) (blkOk_by (own := [("_law_word", 7)]) (N := names3) (sc := defScope lLaw) (by decide +kernel)) (fun _ _ _ _ _ => pg_name (i := 7) scLaw3.nd rfl (.inl rfl)) (fun _ _ _ _ _ => pts_nil)
          (fun _ _ _ _ _ => pe_callB call_len_str (by rfl) F.T.len PySem.boot_len (pa_cons (pv 7) pa_nil))) pa_nil)) pa_nil))) pa_nil))))) (pss_one (ps_ret pe_bl)) pss_nil)
    pb))))), ?_⟩
  intro a h l H0 D σ H1 hσ s0 k1 s1 tb1 nx
  obtain ⟨o2, o3, o4, o5, o6, o7, o8, o9, o10, o11, o12, rfl⟩ := hσ
  refine ⟨_, rfl, h, l, 3, rfl, by decide, by decide, s1, fun H2 v b k2 s2 hB hg hd => ?_⟩
  have x2 : B3 F h l H0 v b H2 := ⟨s0, k1.trans k2, s2, tb1.mono k2, hB, hg, hd⟩
  refine ⟨_, rfl, v, b, rfl, hB, by omega, fun H3 du dys k3 n3 h3 i3 => ?_⟩
  have x3 := x2.mono0 k3
  refine ⟨_, rfl, v, b, rfl, x3.hB, x3.hg, x3.nb, x3.tb, fun H4 r4 zs4 k4 n4 h4 i4 => ⟨_, rfl, .ref du, all b, rfl, cellsL_of (k4.lst h3 List.not_mem_nil) (items_mono k4 i3), all_len b, asc_nodup (all_asc b), fun H5 p5 ys5 k5 n5 h5 i5 => ?_⟩⟩
  have hl64 : (laidL (all b)).length ≤ 1000 := Nat.le_trans (laid_len b) (by decide)
  refine ⟨.ref r4, .ref p5, .list ((laidL (all b)).map cD), rfl, cellsL_of (k5.lst h4 List.not_mem_nil) (items_mono k5 i4), cellsL_of h5 i5, okD_cellsL hl64, Nat.lt_of_le_of_lt (depthCs _) (by decide), fun H6 k6 => ⟨true, rfl, iteF ?_⟩⟩
  have k36 := (k4.trans k5).trans k6
  have x6 := x3.mono0 k36
  have hdu6 := k36.lst h3 List.not_mem_nil
  have hdi6 := items_mono k36 i3
  refine ⟨_, rfl, v, b, rfl, x6.hB, x6.hg, x6.nb, x6.tb, fun H7 fd ysF k7 n7 h7 t7 => ?_⟩
  have x7 := x6.mono0 k7
  have f0 := x6.k.free fd n7
  have t7' : TRows K H7 (fun b => H0 b = none ∧ b ≠ fd) ysF (turnsL (all b)) := t7.imp fun c z => ⟨x6.k.free c z.1, z.2⟩
  have hT := turns_ok (b := b)
  have hcn : (all b).Nodup := asc_nodup (all_asc b)
  refine nameI (i := 5) (v := .ref fd) (σ := [some (.ref a), some (.ref h), o2, some v, some (.ref du), o5, o6, o7, o8, o9, o10, o11, o12, none]) ?_
  refine ⟨_, rfl, fd, rfl, ⟨_, SqL.of h7⟩, fun D1 hD1 => lc_listA (K := K) (turnsL (all b)) (fun v r H => ∃ t a, v = .ref t ∧ SqT K H t [.str r.1, .ref a]) (fun H'' x c k ⟨t, a, e, h1⟩ => ⟨t, a, e, k.sqT h1⟩) (fun _ => true)
    (fun y r H => y = .str r.1) (fun S H1 H2 y c hS k e => e) hD1 (SqL.of h7) (paired_imp (fun v r ⟨t, a, zs, e, ht, _⟩ => ⟨t, a, e, ht⟩) t7) (by omega) (fun j c x H'' Nx Z hc k hx nx' _ => ?s) (fun H8 ysW k8 hw8 rw8 => ?d)⟩
  case s =>
    obtain ⟨t', a', rfl, h1⟩ := hx
    exact ⟨rfl, yesI ⟨_, rfl, t', _, 0, _, rfl, rfl, h1, rfl, nx' _ _ (Kp.refl _ _) rfl rfl⟩⟩
  case d =>
    rw [List.filter_eq_self.mpr fun _ _ => rfl] at rw8
    have x8 := x7.mono0 k8
    have h78 := k8.lst h7 List.not_mem_nil
    refine nameI (i := 6) (v := .ref D1) (σ := [some (.ref a), some (.ref h), o2, some v, some (.ref du), some (.ref fd), o6, o7, o8, o9, o10, o11, o12, none]) ?_
    refine ⟨_, rfl, _, rfl, _, rfl, D1, rfl, ⟨_, SqL.of hw8⟩, fun D2 hD2 => lc_listA (K := K) (turnsL (all b)) (fun v r H => v = .str r.1) (fun H'' x c k e => e) (fun _ => true)
      (fun y r H => y = .int (r.1.length : Int)) (fun S H1 H2 y c hS k e => e) hD2 (SqL.of hw8) rw8 (by omega) (fun j c x H'' Nx Z hc k hx nx' _ => ?s3) (fun H9 ysN k9 hn9 rn9 => ?d3)⟩
    case s3 =>
      have hw : c.1.length ≤ 4 := F_len (List.mem_of_getElem? hc)
      rw [hx]
      exact ⟨rfl, yesI ⟨_, rfl, c.1, rfl, Nat.le_trans hw (by decide), nx' _ _ (Kp.refl _ _) rfl rfl⟩⟩
    case d3 =>
      rw [List.filter_eq_self.mpr fun _ _ => rfl] at rn9
      have en : ysN = ((turnsL (all b)).map fun r => (r.1.length : Int)).map V.int := by
        rw [List.map_map]
        exact paired_ints rn9
      rw [en] at hn9
      obtain ⟨p0, hp0, _⟩ := List.mem_map.mp (F4_rot hcn rots_id)
      have hpos : 0 < ((turnsL (all b)).map fun r => (r.1.length : Int)).length := by
        rw [List.length_map]
        exact List.length_pos_of_mem hp0
      have hL9 : SqL K H9 D2 (((turnsL (all b)).map fun r => (r.1.length : Int)).map V.int) := SqL.of hn9
      generalize hTn : ((turnsL (all b)).map fun r => (r.1.length : Int)) = ns at hL9 hpos ⊢
      dsimp only [tNil, tCons, tC]
      refine ⟨D2, ns, rfl, hL9, hpos, fun m hm hmax => ?_⟩
      subst hTn
      obtain ⟨r, hr', rfl⟩ := List.mem_map.mp hm
      have hM4 : r.1.length ≤ 4 := F_len hr'
      have hM : ∀ p ∈ turnsL (all b), p.1.length ≤ r.1.length := fun p hp => by
        have := hmax _ (List.mem_map.mpr ⟨p, hp, rfl⟩)
        omega
      have eM := F_most hM hM4
      have k79 := k8.trans k9
      have k69 := k7.trans k79
      have x9 := x7.mono0 k79
      refine ⟨du, dys, all b, r.1.length, rfl, k69.lst hdu6 List.not_mem_nil, items_mono k69 hdi6, all_len b, hcn, hM4, fun H10 r10 ys10 k10 n10 h10 t10 => ?_⟩
      rw [eM] at t10
      have k710 := k79.trans k10
      refine ⟨.ref fd, .ref r10, .list ((turnsL (all b)).map rowD), rfl, .lst (SqL.of (k710.lst h7 List.not_mem_nil)) (tr_dps (t7.mono k710 (fun _ _ => List.not_mem_nil))), .lst (SqL.of h10) (tr_dps t10), rowsD_okD hT.1 hT.2, rowsD_dep _, fun H11 k11 => ⟨true, rfl, iteF ?_⟩⟩
      have k711 := k710.trans k11
      have k611 := k7.trans k711
      exact qb a h l H0 v b fd du ysF dys D o2 (some (.ref D1)) o7 o8 o9 o10 o11 o12 H11 (x7.mono0 k711) (k611.lst hdu6 List.not_mem_nil) (items_mono k611 hdi6) f0 (k711.lst h7 List.not_mem_nil) (t7'.mono k711 (fun _ _ => List.not_mem_nil)) nx
end
section
variable [LamTab] [LamOk] {P : Program} {W0 : World} {K : PySem.W.Frag} {mg : Str → Option Value} {base : Heap}
def spLaw3 (F : LF3 P W0 K mg base) : Sp := fun vs H Q _ => ∃ (a : Addr) (ns : List Int), vs = [.ref a] ∧ SqL K H a (ns.map V.int) ∧ ns.length ≤ 63 ∧ Tb H F.Pt F.Pr F.Ph ∧ ∀ H', Q (.bl true) H'
theorem ok_law3 (F : LF3 P W0 K mg base) {f : Addr} {fd : FuncData} (G : Fun K "law" "law" lLaw f fd) : FnOk P W0 K mg base CX0 31 f fd ["_law_script"] (spLaw3 F) := by
  refine G.ok scLaw3 (fun vs H Q E h => ?_) (fun cdv A outer s H vs Q E hr h => ?_)
  · obtain ⟨a, ns, rfl, _⟩ := h
    rfl
  · obtain ⟨a, ns, rfl, hL, h63, v0, q⟩ := h
    have hr1 : Room 1 _ := hr.mono (by decide)
    obtain ⟨tb, pb, qb⟩ := part3_a F hr (H := H) (E := E) (outer := outer)
    refine ⟨_, pss_cons (ps_set (i := 1) scLaw3.nd rfl (.inl rfl) (pe_call F.gM hr1 (by rfl) F.nM.m F.nM.kp F.nM.b .nil pass0 (pa_cons (pv 0) (pa_cons pe_int pa_nil))))
      (pss_cons (ps_for PassesOwn.never rfl (pi_range1 (by rfl) F.T.range (pa_cons pe_int pa_nil)) (pg_name (i := 2) scLaw3.nd rfl (.inl rfl)) pb)
      (pss_one (ps_ret pe_bl))), ?_⟩
    refine ⟨_, rfl, a, ns, 7, rfl, hL, by omega, by decide, by decide, fun H1 h l k1 n1 n2 s1 => ?_⟩
    refine ⟨2, rfl, by decide, by decide, for_range (lo := 0) (n := 2) (fun i σ H' => Nxt3 F a h l H1 σ H') ⟨⟨_, _, _, _, _, _, _, _, _, _, _, rfl⟩, s1, Kp.refl _ _, s1, v0.mono k1⟩ (fun i σ H2 hi hat => ?_) (fun σ H2 hat => q H2)⟩
    obtain ⟨⟨o2, o3, o4, o5, o6, o7, o8, o9, o10, o11, o12, rfl⟩, s0, k2, s2, v2⟩ := hat
    exact qb a h l H1 _ _ H2 ⟨_, o3, o4, o5, o6, o7, o8, o9, o10, o11, o12, rfl⟩ s0 k2 s2 v2 fun σ' H' z => z
end
end LP
end

section
set_option Elab.async false
set_option linter.all false
set_option maxRecDepth 100000
set_option maxHeartbeats 4000000
/-! the end: what the top leaves -/
namespace LP
open PySem PySem.Spec PyProof.Rows L2 Ly GY
theorem fun_of {K : PySem.W.Frag} {x : Str} {st : Stmt} {f : Addr} {fd : FuncData} (F : FunD K x x (defArgs st) (defBody st) (defScope st) [] [] f fd) : Fun K x x st f fd := by
  obtain ⟨oc, od, dV, kV, doc, pm, an, cdv, ct, osl, e, lk, hcd, hD, hK⟩ := F.ex
  rcases hD with ⟨_, rfl⟩ | ⟨z, _⟩
  · exact ⟨⟨oc, od, kV, doc, pm, an, cdv, ct, osl, e, lk, hcd⟩, F.kp⟩
  · exact absurd rfl z
theorem funC_of {K : PySem.W.Frag} {x : Str} {p : He.Defn} {st : Stmt} {fd : FuncData} (F : FunD K x x (defArgs st) (defBody st) (defScope st) [] [] (He.fAd K p) fd) : FunC K x x st (He.fAd K p) fd (He.cT K p).1 := by
  obtain ⟨oc, od, dV, kV, doc, pm, an, cdv, ct, osl, e, lk, hcd, hD, hK⟩ := F.ex
  rcases hD with ⟨_, rfl⟩ | ⟨z, _⟩
  · obtain ⟨c, rfl⟩ := He.codeIn_ref hcd
    have q : (He.cT K p).1 = c := He.codeOf_eq lk (by rw [e])
    rw [q]
    exact ⟨oc, od, kV, doc, pm, an, ct, osl, e, lk, hcd⟩
  · exact absurd rfl z
def defs : List He.DefD := [⟨("is_body", none), "is_body", "is_body", defArgs sIsBody, defBody sIsBody, defScope sIsBody, [], []⟩, ⟨("cells", none), "cells", "cells", defArgs sCells, defBody sCells, defScope sCells, [], []⟩, ⟨("is_number", none), "is_number", "is_number", defArgs sNum, defBody sNum, defScope sNum, [], []⟩, ⟨("is_rising", none), "is_rising", "is_rising", defArgs sRising, defBody sRising, defScope sRising, [], []⟩, ⟨("quarter", none), "quarter", "quarter", defArgs sQuarter, defBody sQuarter, defScope sQuarter, [], []⟩, ⟨("shifted", none), "shifted", "shifted", defArgs sShifted, defBody sShifted, defScope sShifted, [], []⟩, ⟨("_is_formed", none), "_is_formed", "_is_formed", defArgs sFormed, defBody sFormed, defScope sFormed, [], []⟩, ⟨("_places_within", none), "_places_within", "_places_within", defArgs sPlaces, defBody sPlaces, defScope sPlaces, [], []⟩, ⟨("_is_triple", none), "_is_triple", "_is_triple", defArgs sTri, defBody sTri, defScope sTri, [], []⟩, ⟨("_are_rising_cells", none), "_are_rising_cells", "_are_rising_cells", defArgs sRise, defBody sRise, defScope sRise, [], []⟩, ⟨("_held", none), "_held", "_held", defArgs sHeld, defBody sHeld, defScope sHeld, [], []⟩, ⟨("_block_cells", none), "_block_cells", "_block_cells", defArgs sBlock, defBody sBlock, defScope sBlock, [], []⟩, ⟨("_joined", none), "_joined", "_joined", defArgs sJoined, defBody sJoined, defScope sJoined, [], []⟩, ⟨("laid", none), "laid", "laid", defArgs sLaid, defBody sLaid, defScope sLaid, [], []⟩, ⟨("turnings", none), "turnings", "turnings", defArgs sTurnings, defBody sTurnings, defScope sTurnings, [], []⟩, ⟨("alike", none), "alike", "alike", defArgs sAlikeT, defBody sAlikeT, defScope sAlikeT, [], []⟩, ⟨("_at_corner", none), "_at_corner", "_at_corner", defArgs sCorner, defBody sCorner, defScope sCorner, [], []⟩, ⟨("_law_mix", none), "_law_mix", "_law_mix", defArgs lMix, defBody lMix, defScope lMix, [], []⟩, ⟨("_law_next", none), "_law_next", "_law_next", defArgs lNext, defBody lNext, defScope lNext, [], []⟩, ⟨("_law_alike", none), "_law_alike", "_law_alike", defArgs lAlike, defBody lAlike, defScope lAlike, [], []⟩, ⟨("_law_inside", none), "_law_inside", "_law_inside", defArgs lInside, defBody lInside, defScope lInside, [], []⟩, ⟨("_law_all", none), "_law_all", "_law_all", defArgs lAll, defBody lAll, defScope lAll, [], []⟩, ⟨("_law_body", none), "_law_body", "_law_body", defArgs lBody, defBody lBody, defScope lBody, [], []⟩, ⟨("_law_laid", none), "_law_laid", "_law_laid", defArgs lLaid, defBody lLaid, defScope lLaid, [], []⟩, ⟨("_law_quarter", none), "_law_quarter", "_law_quarter", defArgs lQuarter, defBody lQuarter, defScope lQuarter, [], []⟩, ⟨("_law_every", none), "_law_every", "_law_every", defArgs lEvery, defBody lEvery, defScope lEvery, [], []⟩, ⟨("_law_firsts", none), "_law_firsts", "_law_firsts", defArgs lFirsts, defBody lFirsts, defScope lFirsts, [], []⟩, ⟨("law", none), "law", "law", defArgs lLaw, defBody lLaw, defScope lLaw, [], []⟩]
def fa : List He.Fa := [.glo "is_body", .glo "cells", .glo "is_number", .glo "is_rising", .glo "quarter", .glo "shifted", .glo "_is_formed", .glo "_places_within", .glo "_is_triple", .glo "_are_rising_cells", .glo "_held", .glo "_block_cells", .glo "_joined", .glo "laid", .glo "turnings", .glo "alike", .glo "_at_corner", .glo "_law_mix", .glo "_law_next", .glo "_law_alike", .glo "_law_inside", .glo "_law_all", .glo "_law_body", .glo "_law_laid", .glo "_law_quarter", .glo "_law_every", .glo "_law_firsts", .glo "law", .glo "PrintError", .glo "NoBody", .glo "Outside", .glo "EDGES", .glo "JOINS", .free "isinstance", .free "int", .free "bool", .free "tuple", .free "list", .free "set", .free "len", .free "all", .free "range", .free "sorted", .free "max", .free "min", .free "str", .free "ValueError", .int "SIDE" 4, .int "LAST" 3, .int "MOST_BODIES" 20]
def tf : List He.Defn := [("is_rising", none), ("_is_triple", none), ("_are_rising_cells", none), ("_held", none)]
def ex (K : PySem.W.Frag) : Bool := (He.tupB K "EDGES" [.str "x", .str "y", .str "z"] && (He.tupB K "JOINS" [.str "with", .str "common", .str "less"] && (decide ((He.cT K ("is_rising", none)).2 ≠ He.ga K "law") && (decide ((He.cT K ("_is_triple", none)).2 ≠ He.ga K "law") && (decide ((He.cT K ("_are_rising_cells", none)).2 ≠ He.ga K "law") && decide ((He.cT K ("_held", none)).2 ≠ He.ga K "law"))))))
structure Ex1 (K : PySem.W.Frag) : Prop where
  tEDGES : He.tupB K "EDGES" [.str "x", .str "y", .str "z"] = true
  tJOINS : He.tupB K "JOINS" [.str "with", .str "common", .str "less"] = true
  disrising : (He.cT K ("is_rising", none)).2 ≠ He.ga K "law"
  distriple : (He.cT K ("_is_triple", none)).2 ≠ He.ga K "law"
  darerisingcells : (He.cT K ("_are_rising_cells", none)).2 ≠ He.ga K "law"
  dheld : (He.cT K ("_held", none)).2 ≠ He.ga K "law"
theorem ex1_of {K : PySem.W.Frag} (h : ex K = true) : Ex1 K := by
  unfold ex at h
  obtain ⟨h0, h⟩ := He.ba h
  obtain ⟨h1, h⟩ := He.ba h
  obtain ⟨h2, h⟩ := He.ba h
  obtain ⟨h3, h⟩ := He.ba h
  obtain ⟨h4, h⟩ := He.ba h
  exact ⟨h0, h1, of_decide_eq_true h2, of_decide_eq_true h3, of_decide_eq_true h4, of_decide_eq_true h⟩
section
variable {P : Program} {w : World} {K : PySem.W.Frag} {h : Heap} {mg : Str → Option Value}
theorem nm_of (X : K.In h) (G : h.Ns mainGlobals mg) (c : He.SaysD fa defs K) (e : Ex1 K) : Nm K mg where
  isinstance := He.free_ok X G (c.fact 33 (f := .free "isinstance") rfl)
  int := He.free_ok X G (c.fact 34 (f := .free "int") rfl)
  bool := He.free_ok X G (c.fact 35 (f := .free "bool") rfl)
  tuple := He.free_ok X G (c.fact 36 (f := .free "tuple") rfl)
  list := He.free_ok X G (c.fact 37 (f := .free "list") rfl)
  set := He.free_ok X G (c.fact 38 (f := .free "set") rfl)
  len := He.free_ok X G (c.fact 39 (f := .free "len") rfl)
  all := He.free_ok X G (c.fact 40 (f := .free "all") rfl)
  range := He.free_ok X G (c.fact 41 (f := .free "range") rfl)
  sorted := He.free_ok X G (c.fact 42 (f := .free "sorted") rfl)
  side := He.int_ok X G (c.fact 47 (f := .int "SIDE" 4) rfl)
  last := He.int_ok X G (c.fact 48 (f := .int "LAST" 3) rfl)
  most := He.int_ok X G (c.fact 49 (f := .int "MOST_BODIES" 20) rfl)
  edges := ⟨_, He.glo_ok X G (c.fact 31 (f := .glo "EDGES") rfl), fun H => He.tupB_ok e.tEDGES H⟩
  joins := ⟨_, He.glo_ok X G (c.fact 32 (f := .glo "JOINS") rfl), fun H => He.tupB_ok e.tJOINS H⟩
theorem nl_of (X : K.In h) (G : h.Ns mainGlobals mg) (c : He.SaysD fa defs K) : Nl K mg where
  max := He.free_ok X G (c.fact 43 (f := .free "max") rfl)
  min := He.free_ok X G (c.fact 44 (f := .free "min") rfl)
  str := He.free_ok X G (c.fact 45 (f := .free "str") rfl)
theorem fn_of' {x : Str} {st : Stmt} {ps : List Str} {fd : FuncData} (F : FunD K x x (defArgs st) (defBody st) (defScope st) [] [] (He.ga K x) fd) (m : mg x = some (.ref (He.ga K x)))
    (h : ∀ (kV doc pm : Value) (an : Option Addr) (cdv ct : Value) (us : List Value), us.length = ps.length → bindArgs (PySem.W.fnOf x x (defArgs st) (defBody st) (defScope st) .none kV doc pm an cdv ct) ⟨us, []⟩ = pure (ps.zip us)) : Fn K mg x (He.ga K x) fd ps :=
  ⟨F.kp, (fun_of F).binds h, m⟩
/-- what is asked of the heap at the law's call -/
def spLawA [LamTab] (K : PySem.W.Frag) (Pisrising Pistriple Parerisingcells Pheld : Addr) : Sp := fun vs H Q _ => ∃ (a : Addr) (ns : List Int), vs = [.ref a] ∧ SqL K H a (ns.map V.int) ∧ ns.length ≤ 63 ∧ (TGen H Pisrising ∧ TGen H Pistriple ∧ TGen H Parerisingcells ∧ TGen H Pheld) ∧ ∀ H', Q (.bl true) H'
theorem all_of (X : K.In h) (G : h.Ns mainGlobals mg) (c : He.SaysX fa defs [] tf ex w h K) : ∃ (lt : LamTab) (fd : FuncData), lt = ⟨He.ga K "law", "", (He.cT K ("is_rising", none)).2, []⟩ ∧ (∀ (s : Shared) (u : Value), BindsTo s fd ⟨[u], []⟩ [("_law_script", u)]) ∧
    ∀ base : Heap, K.In base → base.Ns mainGlobals mg → (∀ p ∈ tf.map (He.cT K), LamX.TabB base mg p.1 p.2) → FnOk P w K mg base CX0 31 (He.ga K "law") fd ["_law_script"] (@spLawA lt K (He.cT K ("is_rising", none)).2 (He.cT K ("_is_triple", none)).2 (He.cT K ("_are_rising_cells", none)).2 (He.cT K ("_held", none)).2) := by
  have d := c.t.d
  have e := ex1_of c.more
  have T := nm_of X G d e
  have U := nl_of X G d
  obtain ⟨d_isbody, F_isbody⟩ := d.def_ 0 (d := ⟨("is_body", none), "is_body", "is_body", defArgs sIsBody, defBody sIsBody, defScope sIsBody, [], []⟩) rfl
  have N_isbody := fn_of' (x := "is_body") (st := sIsBody) (ps := ["body"]) (mg := mg) F_isbody (He.glo_ok X G (d.fact 0 (f := .glo "is_body") rfl)) (fun _ _ _ _ _ _ us hl => match us, hl with | [_], _ => rfl)
  obtain ⟨d_cells, F_cells⟩ := d.def_ 1 (d := ⟨("cells", none), "cells", "cells", defArgs sCells, defBody sCells, defScope sCells, [], []⟩) rfl
  have N_cells := fn_of' (x := "cells") (st := sCells) (ps := ["body"]) (mg := mg) F_cells (He.glo_ok X G (d.fact 1 (f := .glo "cells") rfl)) (fun _ _ _ _ _ _ us hl => match us, hl with | [_], _ => rfl)
  obtain ⟨d_isnumber, F_isnumber⟩ := d.def_ 2 (d := ⟨("is_number", none), "is_number", "is_number", defArgs sNum, defBody sNum, defScope sNum, [], []⟩) rfl
  have N_isnumber := fn_of' (x := "is_number") (st := sNum) (ps := ["value", "low", "high"]) (mg := mg) F_isnumber (He.glo_ok X G (d.fact 2 (f := .glo "is_number") rfl)) (fun _ _ _ _ _ _ us hl => match us, hl with | [_, _, _], _ => rfl)
  obtain ⟨d_isrising, F_isrising⟩ := d.def_ 3 (d := ⟨("is_rising", none), "is_rising", "is_rising", defArgs sRising, defBody sRising, defScope sRising, [], []⟩) rfl
  have N_isrising := fn_of' (x := "is_rising") (st := sRising) (ps := ["values"]) (mg := mg) F_isrising (He.glo_ok X G (d.fact 3 (f := .glo "is_rising") rfl)) (fun _ _ _ _ _ _ us hl => match us, hl with | [_], _ => rfl)
  obtain ⟨d_quarter, F_quarter⟩ := d.def_ 4 (d := ⟨("quarter", none), "quarter", "quarter", defArgs sQuarter, defBody sQuarter, defScope sQuarter, [], []⟩) rfl
  have N_quarter := fn_of' (x := "quarter") (st := sQuarter) (ps := ["edge", "held"]) (mg := mg) F_quarter (He.glo_ok X G (d.fact 4 (f := .glo "quarter") rfl)) (fun _ _ _ _ _ _ us hl => match us, hl with | [_, _], _ => rfl)
  obtain ⟨d_shifted, F_shifted⟩ := d.def_ 5 (d := ⟨("shifted", none), "shifted", "shifted", defArgs sShifted, defBody sShifted, defScope sShifted, [], []⟩) rfl
  have N_shifted := fn_of' (x := "shifted") (st := sShifted) (ps := ["far", "held"]) (mg := mg) F_shifted (He.glo_ok X G (d.fact 5 (f := .glo "shifted") rfl)) (fun _ _ _ _ _ _ us hl => match us, hl with | [_, _], _ => rfl)
  obtain ⟨d_isformed, F_isformed⟩ := d.def_ 6 (d := ⟨("_is_formed", none), "_is_formed", "_is_formed", defArgs sFormed, defBody sFormed, defScope sFormed, [], []⟩) rfl
  have N_isformed := fn_of' (x := "_is_formed") (st := sFormed) (ps := ["body"]) (mg := mg) F_isformed (He.glo_ok X G (d.fact 6 (f := .glo "_is_formed") rfl)) (fun _ _ _ _ _ _ us hl => match us, hl with | [_], _ => rfl)
  obtain ⟨d_placeswithin, F_placeswithin⟩ := d.def_ 7 (d := ⟨("_places_within", none), "_places_within", "_places_within", defArgs sPlaces, defBody sPlaces, defScope sPlaces, [], []⟩) rfl
  have N_placeswithin := fn_of' (x := "_places_within") (st := sPlaces) (ps := ["body"]) (mg := mg) F_placeswithin (He.glo_ok X G (d.fact 7 (f := .glo "_places_within") rfl)) (fun _ _ _ _ _ _ us hl => match us, hl with | [_], _ => rfl)
  obtain ⟨d_istriple, F_istriple⟩ := d.def_ 8 (d := ⟨("_is_triple", none), "_is_triple", "_is_triple", defArgs sTri, defBody sTri, defScope sTri, [], []⟩) rfl
  have N_istriple := fn_of' (x := "_is_triple") (st := sTri) (ps := ["value", "low", "high"]) (mg := mg) F_istriple (He.glo_ok X G (d.fact 8 (f := .glo "_is_triple") rfl)) (fun _ _ _ _ _ _ us hl => match us, hl with | [_, _, _], _ => rfl)
  obtain ⟨d_arerisingcells, F_arerisingcells⟩ := d.def_ 9 (d := ⟨("_are_rising_cells", none), "_are_rising_cells", "_are_rising_cells", defArgs sRise, defBody sRise, defScope sRise, [], []⟩) rfl
  have N_arerisingcells := fn_of' (x := "_are_rising_cells") (st := sRise) (ps := ["value"]) (mg := mg) F_arerisingcells (He.glo_ok X G (d.fact 9 (f := .glo "_are_rising_cells") rfl)) (fun _ _ _ _ _ _ us hl => match us, hl with | [_], _ => rfl)
  obtain ⟨d_held, F_held⟩ := d.def_ 10 (d := ⟨("_held", none), "_held", "_held", defArgs sHeld, defBody sHeld, defScope sHeld, [], []⟩) rfl
  have N_held := fn_of' (x := "_held") (st := sHeld) (ps := ["body"]) (mg := mg) F_held (He.glo_ok X G (d.fact 10 (f := .glo "_held") rfl)) (fun _ _ _ _ _ _ us hl => match us, hl with | [_], _ => rfl)
  obtain ⟨d_blockcells, F_blockcells⟩ := d.def_ 11 (d := ⟨("_block_cells", none), "_block_cells", "_block_cells", defArgs sBlock, defBody sBlock, defScope sBlock, [], []⟩) rfl
  have N_blockcells := fn_of' (x := "_block_cells") (st := sBlock) (ps := ["corner", "size"]) (mg := mg) F_blockcells (He.glo_ok X G (d.fact 11 (f := .glo "_block_cells") rfl)) (fun _ _ _ _ _ _ us hl => match us, hl with | [_, _], _ => rfl)
  obtain ⟨d_joined, F_joined⟩ := d.def_ 12 (d := ⟨("_joined", none), "_joined", "_joined", defArgs sJoined, defBody sJoined, defScope sJoined, [], []⟩) rfl
  have N_joined := fn_of' (x := "_joined") (st := sJoined) (ps := ["word", "first", "second"]) (mg := mg) F_joined (He.glo_ok X G (d.fact 12 (f := .glo "_joined") rfl)) (fun _ _ _ _ _ _ us hl => match us, hl with | [_, _, _], _ => rfl)
  obtain ⟨d_laid, F_laid⟩ := d.def_ 13 (d := ⟨("laid", none), "laid", "laid", defArgs sLaid, defBody sLaid, defScope sLaid, [], []⟩) rfl
  have N_laid := fn_of' (x := "laid") (st := sLaid) (ps := ["body"]) (mg := mg) F_laid (He.glo_ok X G (d.fact 13 (f := .glo "laid") rfl)) (fun _ _ _ _ _ _ us hl => match us, hl with | [_], _ => rfl)
  obtain ⟨d_turnings, F_turnings⟩ := d.def_ 14 (d := ⟨("turnings", none), "turnings", "turnings", defArgs sTurnings, defBody sTurnings, defScope sTurnings, [], []⟩) rfl
  have N_turnings := fn_of' (x := "turnings") (st := sTurnings) (ps := ["body"]) (mg := mg) F_turnings (He.glo_ok X G (d.fact 14 (f := .glo "turnings") rfl)) (fun _ _ _ _ _ _ us hl => match us, hl with | [_], _ => rfl)
  obtain ⟨d_alike, F_alike⟩ := d.def_ 15 (d := ⟨("alike", none), "alike", "alike", defArgs sAlikeT, defBody sAlikeT, defScope sAlikeT, [], []⟩) rfl
  have N_alike := fn_of' (x := "alike") (st := sAlikeT) (ps := ["one", "other"]) (mg := mg) F_alike (He.glo_ok X G (d.fact 15 (f := .glo "alike") rfl)) (fun _ _ _ _ _ _ us hl => match us, hl with | [_, _], _ => rfl)
  obtain ⟨d_atcorner, F_atcorner⟩ := d.def_ 16 (d := ⟨("_at_corner", none), "_at_corner", "_at_corner", defArgs sCorner, defBody sCorner, defScope sCorner, [], []⟩) rfl
  have N_atcorner := fn_of' (x := "_at_corner") (st := sCorner) (ps := ["held"]) (mg := mg) F_atcorner (He.glo_ok X G (d.fact 16 (f := .glo "_at_corner") rfl)) (fun _ _ _ _ _ _ us hl => match us, hl with | [_], _ => rfl)
  obtain ⟨d_lawmix, F_lawmix⟩ := d.def_ 17 (d := ⟨("_law_mix", none), "_law_mix", "_law_mix", defArgs lMix, defBody lMix, defScope lMix, [], []⟩) rfl
  have N_lawmix := fn_of' (x := "_law_mix") (st := lMix) (ps := ["_law_script", "_law_seed"]) (mg := mg) F_lawmix (He.glo_ok X G (d.fact 17 (f := .glo "_law_mix") rfl)) (fun _ _ _ _ _ _ us hl => match us, hl with | [_, _], _ => rfl)
  obtain ⟨d_lawnext, F_lawnext⟩ := d.def_ 18 (d := ⟨("_law_next", none), "_law_next", "_law_next", defArgs lNext, defBody lNext, defScope lNext, [], []⟩) rfl
  have N_lawnext := fn_of' (x := "_law_next") (st := lNext) (ps := ["_law_h", "_law_many"]) (mg := mg) F_lawnext (He.glo_ok X G (d.fact 18 (f := .glo "_law_next") rfl)) (fun _ _ _ _ _ _ us hl => match us, hl with | [_, _], _ => rfl)
  obtain ⟨d_lawalike, F_lawalike⟩ := d.def_ 19 (d := ⟨("_law_alike", none), "_law_alike", "_law_alike", defArgs lAlike, defBody lAlike, defScope lAlike, [], []⟩) rfl
  have N_lawalike := fn_of' (x := "_law_alike") (st := lAlike) (ps := ["_law_found", "_law_due"]) (mg := mg) F_lawalike (He.glo_ok X G (d.fact 19 (f := .glo "_law_alike") rfl)) (fun _ _ _ _ _ _ us hl => match us, hl with | [_, _], _ => rfl)
  obtain ⟨d_lawinside, F_lawinside⟩ := d.def_ 20 (d := ⟨("_law_inside", none), "_law_inside", "_law_inside", defArgs lInside, defBody lInside, defScope lInside, [], []⟩) rfl
  have N_lawinside := fn_of' (x := "_law_inside") (st := lInside) (ps := ["_law_body_here", "_law_cell"]) (mg := mg) F_lawinside (He.glo_ok X G (d.fact 20 (f := .glo "_law_inside") rfl)) (fun _ _ _ _ _ _ us hl => match us, hl with | [_, _], _ => rfl)
  obtain ⟨d_lawall, F_lawall⟩ := d.def_ 21 (d := ⟨("_law_all", none), "_law_all", "_law_all", defArgs lAll, defBody lAll, defScope lAll, [], []⟩) rfl
  have N_lawall := fn_of' (x := "_law_all") (st := lAll) (ps := ["_law_body_here"]) (mg := mg) F_lawall (He.glo_ok X G (d.fact 21 (f := .glo "_law_all") rfl)) (fun _ _ _ _ _ _ us hl => match us, hl with | [_], _ => rfl)
  obtain ⟨d_lawbody, F_lawbody⟩ := d.def_ 22 (d := ⟨("_law_body", none), "_law_body", "_law_body", defArgs lBody, defBody lBody, defScope lBody, [], []⟩) rfl
  have N_lawbody := fn_of' (x := "_law_body") (st := lBody) (ps := ["_law_h", "_law_deep"]) (mg := mg) F_lawbody (He.glo_ok X G (d.fact 22 (f := .glo "_law_body") rfl)) (fun _ _ _ _ _ _ us hl => match us, hl with | [_, _], _ => rfl)
  obtain ⟨d_lawlaid, F_lawlaid⟩ := d.def_ 23 (d := ⟨("_law_laid", none), "_law_laid", "_law_laid", defArgs lLaid, defBody lLaid, defScope lLaid, [], []⟩) rfl
  have N_lawlaid := fn_of' (x := "_law_laid") (st := lLaid) (ps := ["_law_some"]) (mg := mg) F_lawlaid (He.glo_ok X G (d.fact 23 (f := .glo "_law_laid") rfl)) (fun _ _ _ _ _ _ us hl => match us, hl with | [_], _ => rfl)
  obtain ⟨d_lawquarter, F_lawquarter⟩ := d.def_ 24 (d := ⟨("_law_quarter", none), "_law_quarter", "_law_quarter", defArgs lQuarter, defBody lQuarter, defScope lQuarter, [], []⟩) rfl
  have N_lawquarter := fn_of' (x := "_law_quarter") (st := lQuarter) (ps := ["_law_edge", "_law_cell"]) (mg := mg) F_lawquarter (He.glo_ok X G (d.fact 24 (f := .glo "_law_quarter") rfl)) (fun _ _ _ _ _ _ us hl => match us, hl with | [_, _], _ => rfl)
  obtain ⟨d_lawevery, F_lawevery⟩ := d.def_ 25 (d := ⟨("_law_every", none), "_law_every", "_law_every", defArgs lEvery, defBody lEvery, defScope lEvery, [], []⟩) rfl
  have N_lawevery := fn_of' (x := "_law_every") (st := lEvery) (ps := ["_law_some"]) (mg := mg) F_lawevery (He.glo_ok X G (d.fact 25 (f := .glo "_law_every") rfl)) (fun _ _ _ _ _ _ us hl => match us, hl with | [_], _ => rfl)
  obtain ⟨d_lawfirsts, F_lawfirsts⟩ := d.def_ 26 (d := ⟨("_law_firsts", none), "_law_firsts", "_law_firsts", defArgs lFirsts, defBody lFirsts, defScope lFirsts, [], []⟩) rfl
  have N_lawfirsts := fn_of' (x := "_law_firsts") (st := lFirsts) (ps := ["_law_some", "_law_most"]) (mg := mg) F_lawfirsts (He.glo_ok X G (d.fact 26 (f := .glo "_law_firsts") rfl)) (fun _ _ _ _ _ _ us hl => match us, hl with | [_, _], _ => rfl)
  obtain ⟨d_law, F_law⟩ := d.def_ 27 (d := ⟨("law", none), "law", "law", defArgs lLaw, defBody lLaw, defScope lLaw, [], []⟩) rfl
  have N_law := fn_of' (x := "law") (st := lLaw) (ps := ["_law_script"]) (mg := mg) F_law (He.glo_ok X G (d.fact 27 (f := .glo "law") rfl)) (fun _ _ _ _ _ _ us hl => match us, hl with | [_], _ => rfl)
  refine ⟨⟨He.ga K "law", "", (He.cT K ("is_rising", none)).2, []⟩, d_law, rfl, fun s u => FunD.bindsA (ps := ["_law_script"]) F_law (fun _ _ _ _ _ _ us hl => match us, hl with | [_], _ => rfl) s [u] rfl, fun base KB GB TB => ?_⟩
  letI : LamTab := ⟨He.ga K "law", "", (He.cT K ("is_rising", none)).2, []⟩
  haveI : LamOk := ⟨apart_ok (And.intro True.intro True.intro)⟩
  have tb : ∀ p ∈ tf, GxR.TabB base mg (He.cT K p).1 (He.cT K p).2 := fun p hp => by
    have t := TB _ (List.mem_map.mpr ⟨p, hp, rfl⟩)
    exact ⟨t.code, t.bm, t.gP⟩
  have g_num := ok_num (P := P) (w := w) (base := base) (fun_of F_isnumber) T
  have g_tri := ok_tri (base := base) (funC_of (p := ("_is_triple", none)) F_istriple) (tb _ (by simp [tf])) T N_isnumber g_num
  have g_rising := ok_rising (P := P) (w := w) (base := base) (funC_of (p := ("is_rising", none)) F_isrising) (tb _ (by simp [tf])) T
  have g_rise := ok_rise (base := base) (funC_of (p := ("_are_rising_cells", none)) F_arerisingcells) (tb _ (by simp [tf])) T N_istriple g_tri N_isrising g_rising
  have g_form := ok_form (fun_of F_isformed) T N_istriple g_tri N_arerisingcells g_rise
  have g_places := ok_places (P := P) (w := w) (base := base) (fun_of F_placeswithin) T
  have g_isbody := ok_isbody (fun_of F_isbody) T N_isformed g_form N_placeswithin g_places
  have g_quarter := ok_quarter (P := P) (w := w) (base := base) (fun_of F_quarter) T
  have g_shifted := ok_shifted (P := P) (w := w) (mg := mg) (base := base) (fun_of F_shifted)
  have g_block := ok_block (P := P) (w := w) (base := base) (fun_of F_blockcells) T
  have g_joined := ok_joined (P := P) (W0 := w) (base := base) (fun_of F_joined) T
  have g_held := ok_held (base := base) (funC_of (p := ("_held", none)) F_held) (tb _ (by simp [tf])) T ⟨N_istriple, g_tri, N_blockcells, g_block, N_shifted, g_shifted, N_quarter, g_quarter, N_joined, g_joined⟩ N_held 20
  have g_cells := ok_cells (fun_of F_cells) N_isbody g_isbody N_held g_held
  have g_mix := ok_mix (P := P) (W0 := w) (base := base) (fun_of F_lawmix) T
  have g_next := ok_next (P := P) (W0 := w) (base := base) (fun_of F_lawnext) T U
  have g_alike := ok_alike (P := P) (W0 := w) (base := base) (fun_of F_lawalike) T U N_lawalike 10
  have g_inside := ok_inside (P := P) (W0 := w) (base := base) (fun_of F_lawinside) T N_lawinside 20
  have g_all := ok_all (fun_of F_lawall) T N_lawinside g_inside
  have g_body := ok_lbody (fun_of F_lawbody) T U N_lawbody N_lawnext g_next N_lawall g_all 5
  have g_body4 := ok_lbody (fun_of F_lawbody) T U N_lawbody N_lawnext g_next N_lawall g_all 4
  have g_corner := ok_corner (fun_of F_atcorner) U N_shifted g_shifted
  have g_laid := ok_laid (fun_of F_laid) N_cells g_cells N_atcorner g_corner
  have g_turns := ok_turns (fun_of F_turnings) T N_laid g_laid N_atcorner g_corner N_quarter g_quarter
  have g_alikeT := ok_alikeT (fun_of F_alike) N_laid g_laid N_turnings g_turns
  have g_llaid := ok_llaid (P := P) (W0 := w) (base := base) (fun_of F_lawlaid) T U
  have g_lquart := ok_lquart (P := P) (W0 := w) (base := base) (mg := mg) (fun_of F_lawquarter)
  have g_levery := ok_levery (fun_of F_lawevery) T N_lawlaid g_llaid
  have g_lfirsts := ok_lfirsts (fun_of F_lawfirsts) T N_lawlaid g_llaid N_lawquarter g_lquart
  let F0 : LF3 P w K mg base := { fM := _, fX := _, fA := _, fL := _, fB := _, fl := _, fE := _, fF := _, ft := _, fu := _, fv := _, dM := _, dX := _, dA := _, dL := _, dB := _, dl := _, dE := _, dF := _, dt := _, du := _, dv := _, Pt := (He.cT K ("_is_triple", none)).2, Pr := (He.cT K ("_are_rising_cells", none)).2, Ph := (He.cT K ("_held", none)).2, nM := N_lawmix, gM := g_mix, nX := N_lawnext, gX := g_next, nA := N_lawalike, gA := g_alike, nL := N_lawall, gL := g_all, nB := N_lawbody, gB := g_body4, nl := N_lawlaid, gl := g_llaid, nE := N_lawevery, gE := g_levery, nF := N_lawfirsts, gF := g_lfirsts, nt := N_laid, gt := g_laid, nu := N_turnings, gu := g_turns, nv := N_alike, gv := g_alikeT, T := T, U := U }
  have gl := ok_law3 F0 (fun_of F_law)
  exact gl.imp fun vs H Q E ⟨a, ns, e, hs, hl, ⟨tisrising, tistriple, tarerisingcells, theld⟩, q⟩ => ⟨a, ns, e, hs, hl, ⟨tistriple, ⟨tarerisingcells, tisrising⟩, theld⟩, q⟩
end
end LP
end

section
set_option Elab.async false
set_option linter.all false
set_option maxRecDepth 100000
set_option maxHeartbeats 0
namespace LP
open PySem PySem.Spec PyProof.Rows L2
abbrev R : PySem.W.OpenRow := PySem.W.OpenLaw.row PySem.Challenge.rw_layerprint_k03_whole_turnings
abbrev theHook : PySem.W.Hook := He.hookX 6 fa defs [] tf ex
def theOb (s : PySem.W.SharedT) : He.AlX := He.obsX 6 fa defs [] tf ex (HandSHeadRun.getT s)
theorem theOb_eq (s : PySem.W.SharedT) : theOb s = theHook.obs s.abs := He.obsX_eq (HandSHeadRun.getT_eq s)
def names : List PySem.Str := [("PrintError" : PySem.Str), ("NoBody" : PySem.Str), ("Outside" : PySem.Str), ("SIDE" : PySem.Str), ("LAST" : PySem.Str), ("MOST_BODIES" : PySem.Str), ("EDGES" : PySem.Str), ("JOINS" : PySem.Str), ("is_body" : PySem.Str), ("cells" : PySem.Str), ("is_number" : PySem.Str), ("is_rising" : PySem.Str), ("quarter" : PySem.Str), ("shifted" : PySem.Str), ("_is_formed" : PySem.Str), ("_places_within" : PySem.Str), ("_is_triple" : PySem.Str), ("_are_rising_cells" : PySem.Str), ("_held" : PySem.Str), ("_block_cells" : PySem.Str), ("_joined" : PySem.Str), ("laid" : PySem.Str), ("turnings" : PySem.Str), ("alike" : PySem.Str), ("_at_corner" : PySem.Str), ("_law_mix" : PySem.Str), ("_law_next" : PySem.Str), ("_law_alike" : PySem.Str), ("_law_inside" : PySem.Str), ("_law_all" : PySem.Str), ("_law_body" : PySem.Str), ("_law_laid" : PySem.Str), ("_law_quarter" : PySem.Str), ("_law_every" : PySem.Str), ("_law_firsts" : PySem.Str)]
theorem run (w : World) : HandSHeadRun.RunEq R (PySem.W.view R.prog [39]) theHook theOb 6000 names w := by
  intro os
  kernel_rfl
end LP
end

section
set_option Elab.async false
set_option linter.all false
set_option maxRecDepth 100000
set_option maxHeartbeats 0
namespace LP
open PySem PySem.Spec PyProof.Rows L2
theorem law_at {w : World} {K : PySem.W.Frag} {h : Heap} {mg : Str → Option Value} {f : Addr} (X : K.In h) (G : h.Ns mainGlobals mg) (hf : mg "law" = some (.ref f)) (c : He.SaysX fa defs [] tf ex w h K) : LamX.LawAtS PySem.Challenge.rw_layerprint_k03_whole_turnings w K L2.CX0 31 63 "_law_script" mg f h := by
  obtain ⟨lt, fd, elt, hb, hF⟩ := all_of (P := (PySem.Challenge.rw_layerprint_k03_whole_turnings).prog) X G c
  have ef := hf.symm.trans (He.glo_ok X G (c.t.d.fact 27 (f := .glo "law") rfl))
  cases ef
  subst elt
  have e := ex1_of c.more
  letI : LamTab := ⟨He.ga K "law", "", (He.cT K ("is_rising", none)).2, []⟩
  have key : ∀ {A : Addr × Addr → Prop}, (∀ p ∈ tf, A (He.cT K p)) → ∀ p ∈ tf.map (He.cT K), A p := fun hA p hp => by
    obtain ⟨q, hq, rfl⟩ := List.mem_map.mp hp
    exact hA q hq
  refine ⟨fd, tf.map (He.cT K), _, key (fun p hp => c.empty p hp), key (fun p hp => c.out p hp), key (fun p hp => PySem.W.codeHd_of_K X (c.hd p hp)), hb, ?_, hF⟩
  intro H a ns hl _ hT hS
  have tt : ∀ p ∈ tf, H (He.cT K p).2 = some (.tbl #[]) := fun p hp => hT _ (List.mem_map.mpr ⟨p, hp, rfl⟩)
  have tg : ∀ p ∈ tf, GxR.TabG H (He.cT K p).2 := fun p hp => ⟨#[], tt p hp, True.intro⟩
  exact ⟨a, ns, rfl, hS, hl, ⟨⟨tg _ (by simp [tf]), ne_all (And.intro e.disrising True.intro)⟩, ⟨tg _ (by simp [tf]), ne_all (And.intro e.distriple True.intro)⟩, ⟨tg _ (by simp [tf]), ne_all (And.intro e.darerisingcells True.intro)⟩, ⟨tg _ (by simp [tf]), ne_all (And.intro e.dheld True.intro)⟩⟩, fun _ => rfl⟩
end LP
end

section
set_option Elab.async false
set_option linter.all false
set_option maxRecDepth 100000
set_option maxHeartbeats 0
open PySem PySem.W PySem.Calls PyProof.Rows
theorem PySem.Challenge.cw_layerprint_k03_whole_turnings_holds : PySem.Challenge.rw_layerprint_k03_whole_turnings.Holds := by
  w_on; o_law
  refine HandSHeadRun.head_any (r := OpenLaw.row PySem.Challenge.rw_layerprint_k03_whole_turnings) (q := view (OpenLaw.row PySem.Challenge.rw_layerprint_k03_whole_turnings).prog [39]) (H := LP.theHook) (ob := LP.theOb) (M := 6000) (loose := LP.names) (d := HandSHeadRun.topDef (OpenLaw.row PySem.Challenge.rw_layerprint_k03_whole_turnings).prog 39) (kwd := []) LP.theOb_eq
    (by kernel_rfl) (fun s => by kernel_rfl) LP.run (by kernel_rfl) (by kernel_rfl) (by kernel_rfl) (by rfl) (by first | assumption | decide +kernel) (by decide +kernel) ⟨rfl, rfl, rfl, rfl, rfl, by decide +kernel⟩ ?hw ?hc
  case hw => w_witness2
  case hc =>
    refine LamX.walk_ofTsE (l := PySem.Challenge.rw_layerprint_k03_whole_turnings) (n := 63) (k := 31) (x := "_law_script") (CX := fun _ => L2.CX0) rfl (by decide) (by kernel_rfl) ⟨rfl, by decide, by decide⟩ ?F (fun _ _ _ _ _ z => z)
    intro w mg fa h Y G hmg0
    obtain ⟨K, KX, c⟩ := Y
    have hmg : mg ("law" : PySem.Str) = some (.ref fa) := by
      have e : (HandSHeadRun.topDef (OpenLaw.row PySem.Challenge.rw_layerprint_k03_whole_turnings).prog 39).name = ("law" : PySem.Str) := by kernel_rfl
      rw [← e]
      exact hmg0
    exact ⟨K, KX, LP.law_at KX G hmg c⟩
end
