import PyProof.Rows.All
import Wide.All
import OpenK.AllK
import Wide.FinOn
import HandS.ForMost
import HandS.GenList
import HandS.AnyAll
import HandS.JoinGen
import PyProof.CollectWalk
import PyProof.TupleOfGen
import HandS.TupSets
import HandS.Deep
import KE.SortData
import PyProof.WalksMore
import PyProof.FactsAll.subtypes_4
import HandS.SortKw
import KE.DatumOrd
import HandS.Wide
import HandS.IsInst
import HandS.Lambda
import HandS.Flow
import HandS.ForExc
import PySem.Challenge.RW_layerprint_k11_whole_all_layers_together
import HandS.ExcIs
import HandS.DictComp
import KE.KDictKeyed
import KE.KDictPairs
import HandS.SortInts
import HandS.List
import HandS.TupAny
import HandS.Iter
import HandS.Walk
import HandS.TupLen
import KE.KDictDisplayH
import KE.DataMinMax
import PyProof.Draws
import HandS.Head0
import HandS.Head1
import HandS.Head2
import HandS.HeadEnd
import HandS.HeadHook1
import HandS.HeadHook2
import HandS.HeadHook3
import HandS.HeadHook4
import HandS.HeadWalk
import HandS.EndTab
section
set_option Elab.async false
set_option linter.all false
set_option maxRecDepth 100000
set_option maxHeartbeats 2000000
/-! Generator expressions whose element is any expression of the layer: all(..), tuple(..), sep.join(..) of them. -/
namespace GX
open PySem PySem.Spec PyProof.Rows L2 GenW

/-- the names of a generator expression: its own x (and the walked thing), or captured ones of the def -/
structure GOk (N : List Str) (sc scope : Scope) (x : Str) : Prop where
  kind : scope.kind = .function
  co : scope.isCoroutine = false
  nocell : ∀ y ∈ scope.names, y.2 ≠ .cell
  dot : scope.names.lookup (".0" : Str) = some NameKind.local
  loc : scope.names.lookup x = some .local
  uniq : ∀ y ∈ scope.names, scope.names.lookup y.1 = some y.2
  free : ∀ y ∈ scope.names, y.2 = .free → sc.names.lookup y.1 = some .cell ∨ sc.names.lookup y.1 = some .free
  own : ∀ y ∈ scope.names, y.2 = .local → y.1 ∉ N
  xd : x ≠ ".0"

/-- the context of a generator expression's frame -/
def gcx (X : Cx) (scope : Scope) (x : Str) (A : Around) (s : Shared) (H : Hp) (C : Addr) (code : Value) (fp : List Addr) : Cx where
  prog := X.prog
  w := X.w
  K := X.K
  mg := X.mg
  base := X.base
  A := A.deeper (genEnv scope (cloFrom X.env.cells scope.names []) C code builtinsNs X.env)
  N := X.N ++ [x]
  s_0 := s
  H_0 := H
  env := genEnv scope (cloFrom X.env.cells scope.names []) C code builtinsNs X.env
  outer := X.stack
  stack := genEnv scope (cloFrom X.env.cells scope.names []) C code builtinsNs X.env :: X.stack
  ex := fp
  fn := fun _ => false
  calm := true
  pn := []
  xe := fun _ _ => False

theorem over_loop_gen {A : Around} {elt : Expr} {gs : List Comprehension} {scope : Scope} {pos : Pos} {it acc : Value} {env : Env} : A.over (.compLoop (.GeneratorExp elt gs scope pos) 0 it acc env) [] = A.deeper env := by
  first
    | rfl
    | (obtain ⟨hd, d, fr, gs, u⟩ := A; simp [Around.over, Around.deeper, marksOver, frameCount, unitsOf, envsOf, guardsOf, pushEnvs, pushGuards, Code.envs, Code.env?, Code.isFrame, Code.guards, Code.isGuard, Code.weight, Code.frames, Code.isCreation, Code.isCaller, Code.cUnits])
theorem over_start_gen {A : Around} {elt : Expr} {gs : List Comprehension} {scope : Scope} {pos : Pos} {it acc : Value} {env : Env} : A.over (.compStart (.GeneratorExp elt gs scope pos) 0 it acc env) [] = A.deeper env := by
  first
    | rfl
    | (obtain ⟨hd, d, fr, gs, u⟩ := A; simp [Around.over, Around.deeper, marksOver, frameCount, unitsOf, envsOf, guardsOf, pushEnvs, pushGuards, Code.envs, Code.env?, Code.isFrame, Code.guards, Code.isGuard, Code.weight, Code.frames, Code.isCreation, Code.isCaller, Code.cUnits])

section
variable {X : Cx} {pins : List (Addr × Obj)} {σ : L2.St} {H : Hp} {s : Shared}
theorem gen_start {scope : Scope} {x : Str} {A : Around} {code : Value} {fp : List Addr} {s' : Shared} {it : Value} (I : Inv X pins σ H s) (ok : GOk X.N X.env.scope scope x) (hfp : ∀ b ∈ fp, FpOk X pins H b ∧ b < s.heap.objs.size)
    (hh : A.handled = none) (hfr : A.frames = some X.stack) (hos : s'.os = s.os) (hb : AllBare s'.gens) (kp : ∀ b o, s.heap.get? b = some o → s'.heap.get? b = some o)
    (hn : s'.heap.Ns s.heap.objs.size (fun y => if y = ".0" then some it else none)) :
    Inv (gcx X scope x A s H s.heap.objs.size code fp) [] (σ ++ [none]) H s' := by
  have hfree : ∀ y ∈ scope.names, y.2 = .free → ∃ c, X.env.cells.lookup y.1 = some c := fun y hy e => by
    rcases ok.free y hy e with k | k
    · exact I.ok.has _ (.inl k)
    · exact I.ok.has _ (.inr k)
  have cm : ∀ {y c}, (y, c) ∈ cloFrom X.env.cells scope.names [] → X.env.cells.lookup y = some c ∧ c < s.heap.objs.size := fun {y c} hm => by
    rcases cloFrom_mem hm with hm | ⟨h1, rfl⟩
    · cases hm
    · obtain ⟨c, hc⟩ := hfree _ h1 rfl
      rw [hc]
      obtain ⟨w, z⟩ := I.cell _ _ hc
      exact ⟨rfl, z.lt⟩
  have cl : ∀ {y c}, (cloFrom X.env.cells scope.names []).lookup y = some c → X.env.cells.lookup y = some c ∧ c < s.heap.objs.size := fun {y c} e => cm (PySem.mem_of_lookup e)
  have look : ∀ {y}, scope.names.lookup y = some .free → ∃ c, (cloFrom X.env.cells scope.names []).lookup y = some c ∧ X.env.cells.lookup y = some c := fun {y} hl => by
    have hy : (y, NameKind.free) ∈ scope.names := PySem.mem_of_lookup hl
    obtain ⟨c', e'⟩ := mem_lookup (cloFrom_has (cells := X.env.cells) (acc := []) hy)
    exact ⟨c', e', (cl e').1⟩
  have okB : (gcx X scope x A s H s.heap.objs.size code fp).Ok := by
    refine ⟨I.ok.mod, ok.kind, I.ok.glob, rfl, Nat.le_refl _, fun y z c e1 e2 => I.ok.inj y z c (cl e1).1 (cl e2).1, fun y hy => ?_, fun y c z _ => ?_, fun _ => hh, Around.frames_deeper hfr, .inr ⟨rfl, rfl⟩,
      fun b hb => ⟨Nat.ne_of_lt (hfp b hb).2, fun y c e => (hfp b hb).1.2.2.2.2.1 y c (cl e).1⟩, I.bs, Nat.le_trans I.ok.bsz I.sz, fun b o e hb => ?_, fun b hb z => ?_, I.stack, I.stkFree⟩
    · have hy : scope.names.lookup y = some .cell ∨ scope.names.lookup y = some .free := hy
      rcases hy with hy | hy
      · exact absurd rfl (ok.nocell _ (PySem.mem_of_lookup hy))
      · obtain ⟨c, h1, _⟩ := look hy
        exact ⟨c, h1⟩
    · exact absurd (show (false : Bool) = true from z) Bool.false_ne_true
    · rcases (hfp b hb).1.2.2.2.1 with z | z
      · exact I.ok.noex b o e z
      · exact absurd (Nat.lt_of_lt_of_le (Heap.lt_size e) (Nat.le_trans I.ok.bsz z)) (Nat.lt_irrefl _)
    · rcases List.mem_cons.mp (I.stkSub b z) with z | z
      · exact (hfp b hb).1.2.1 z
      · exact (hfp b hb).1.2.2.1 z
  refine ⟨okB, hos, hb, Un.kept kp, ⟨_, hn, fun i y v e1 e2 e3 => ?_⟩, fun y c e => ?_, I.hok.fresh (Nat.le_refl _), fun y c e => I.freeC y c (cl e).1, fun p hp => absurd (show p ∈ ([] : List (Addr × Obj)) ++ [] from hp) (by simp), I.hok.kept kp, ?_⟩
  · have e1 : (X.N ++ [x])[i]? = some y := e1
    have hl : σ.length = X.N.length := I.len
    have hi : i < σ.length := by
      rcases Nat.lt_or_ge i σ.length with h | h
      · exact h
      · rw [List.getElem?_append_right h] at e2
        rcases Nat.eq_zero_or_pos (i - σ.length) with z | z
        · rw [z] at e2; cases e2
        · rw [List.getElem?_eq_none (by simp; omega)] at e2; cases e2
    rw [List.getElem?_append_left (by omega)] at e1
    rw [List.getElem?_append_left hi] at e2
    have hyN : y ∈ X.N := List.mem_of_getElem? e1
    have hf : scope.names.lookup y = some .free := by
      have e3 : Vis scope y := e3
      rcases e3 with e3 | e3 | e3
      · exact absurd hyN (ok.own _ (PySem.mem_of_lookup e3) rfl)
      · exact absurd rfl (ok.nocell _ (PySem.mem_of_lookup e3))
      · exact e3
    obtain ⟨m, hn', hl'⟩ := I.loc
    have hsc := ok.free _ (PySem.mem_of_lookup hf) rfl
    have hvis : Vis X.env.scope y := hsc.elim (fun k => .inr (.inl k)) (fun k => .inr (.inr k))
    obtain ⟨w, r, q⟩ := hl' i y v e1 e2 hvis
    refine ⟨w, r, .inr ⟨.inr hf, ?_⟩⟩
    obtain ⟨c, h1, h2⟩ := look hf
    rcases q with ⟨k, _⟩ | ⟨_, c', e', z⟩
    · have k : X.env.scope.names.lookup y = some .local := k
      rcases hsc with k' | k' <;> rw [show X.env.scope.names.lookup y = _ from k'] at k <;> cases k
    · rw [h2] at e'; cases e'
      exact ⟨c, h1, z.keeps kp⟩
  · obtain ⟨w, z⟩ := I.cell y c (cl e).1
    exact ⟨w, z.keeps kp⟩
  · show (σ ++ [none]).length = (X.N ++ [x]).length
    have hl : σ.length = X.N.length := I.len
    simp [hl]
end

/-- while the generator sleeps: what stands at S may change, all else is kept -/
structure Slept (S : List Addr) (s s' : Shared) : Prop where
  os : s'.os = s.os
  bare : AllBare s'.gens
  keep : ∀ b o, b ∉ S → s.heap.get? b = some o → s'.heap.get? b = some o
  there : ∀ b ∈ S, ∃ o, s'.heap.get? b = some o ∧ ∀ v, o.data ≠ .cell v

/-- what the generator's run leans on: X' its context, a its object, fp its iterator's objects -/
structure GX1 (X' : Cx) (S : List Addr) (a : Addr) (fp : List Addr) : Prop where
  apart : ∀ b ∈ S, X'.s_0.heap.objs.size ≤ b ∧ b ≠ X'.env.locals ∧ (∀ x c, X'.env.cells.lookup x = some c → c ≠ b) ∧ b ≠ a ∧ b ∉ fp ∧ b ∉ X'.fs
  pn : X'.pn = []
section
variable {X' : Cx} {S : List Addr} {a : Addr} {go : Obj} {fp : List Addr} {σ : L2.St} {H : Hp} {s s' s₀ : Shared}
theorem woken (g : GX1 X' S a fp) (I : Inv X' ((a, go) :: pinsAt S s₀.heap) σ H s) (hS0 : ∀ b ∈ S, ∃ o, s₀.heap.get? b = some o) (z : Slept S s s') :
    Inv X' ((a, go) :: pinsAt S s'.heap) σ H s' := by
  have hSH : ∀ b ∈ S, H b = none := fun b hb => by
    obtain ⟨o, e⟩ := hS0 b hb
    exact (I.pin (b, o) (List.mem_append_right _ (List.mem_cons_of_mem _ (mem_pinsAt hb e)))).2.1
  have ha := I.pin (a, go) (List.mem_append_right _ List.mem_cons_self)
  have I0 : Inv X' [(a, go)] σ H s := I.pins_of fun p hp => by
    rw [List.mem_singleton.mp hp]
    exact ha
  have nt : ∀ b u, H b = some u → b ∉ S := fun b u q hb => by rw [hSH b hb] at q; cases q
  have nc : ∀ x c, X'.env.cells.lookup x = some c → c ∉ S := fun x c e hc => (g.apart c hc).2.2.1 x c e rfl
  have J : Inv X' [(a, go)] σ H s' := by
    obtain ⟨hh, gg, d, t, o⟩ := s'
    have ho : o = s.os := z.os
    subst ho
    refine I0.step (g' := gg) (t' := t) (d' := d) (ch := S) (fun b hb => ⟨.inr (g.apart b hb).1, (g.apart b hb).2.1, (g.apart b hb).2.2.1, fun p hp => ?_⟩)
      (fun b ob _ _ hc q _ => z.keep b ob hc q) (fun b ob _ _ hc q _ => ⟨ob.slots, z.keep b ob hc q⟩) (fun _ _ _ _ n => n) (fun b ob hc q => ⟨ob, z.keep b ob hc q⟩)
      (fun _ _ q => q) (fun _ _ _ q => q) (fun b ps q => ⟨#[], by rw [q]; simp⟩) (fun m hm => ?_) (fun b u q => ?_) z.bare
    · rw [g.pn] at hp
      rw [List.mem_singleton.mp hp]
      exact Ne.symm (g.apart b hb).2.2.2.1
    · obtain ⟨ob, es, ep, ho, r⟩ := hm
      exact ⟨ob, es, ep, z.keep _ ob (fun hb => (g.apart _ hb).2.1 rfl) ho, r⟩
    · refine (I0.hok b u q).stay (fun c v hc y => z.keep c v ?_ y) (fun _ y => y) fun _ _ y => y
      rcases hc with y | y
      · rw [y]; exact nt b u q
      · exact nt c _ y
  refine J.pins_of fun p hp => ?_
  rcases List.mem_cons.mp hp with hp | hp
  · rw [hp]
    exact J.pin (a, go) (List.mem_append_right _ List.mem_cons_self)
  · obtain ⟨hb, e⟩ := of_pinsAt hp
    obtain ⟨o, e', d⟩ := z.there _ hb
    rw [e] at e'; cases e'
    exact ⟨e, hSH _ hb, (g.apart _ hb).2.1, (g.apart _ hb).2.2.2.2.2, d⟩
end
end GX
end

section
set_option Elab.async false
set_option linter.all false
set_option maxRecDepth 100000
set_option maxHeartbeats 2000000
namespace GX
open PySem PySem.Spec PyProof.Rows L2 GenW

/-- an item is handed out: its number i, its value y; N items in all; W: what holds ahead of the turn i; Yv: what holds of the item -/
def YG (X' : Cx) (S : List Addr) (a : Addr) (go : Obj) (fp : List Addr) (tn : Nat → Heap → Prop) (σ : L2.St) (N : Nat) (W : Nat → Hp → Prop) (Yv : Nat → V → Hp → Prop) : Protocol := fun n s₀ v s kap =>
  ∃ i y o H, i + (n + 1) = N ∧ RelV y v ∧ Inv X' ((a, go) :: pinsAt S s₀.heap) (σ ++ [o]) H s ∧ Yv i y H ∧ (∀ s'', Slept S s s'' → W (i + 1) H → kap (.send .none) s'')
def RG (X' : Cx) (S : List Addr) (a : Addr) (go : Obj) (σ : L2.St) (N : Nat) (W : Nat → Hp → Prop) (Qe : Hp → Prop) : GenEnd := fun n s₀ r s =>
  r = .ok .next ∧ (n = 0 ∧ ∃ o H, Inv X' ((a, go) :: pinsAt S s₀.heap) (σ ++ [o]) H s ∧ Qe H)
/-- the reading: by the turn -/
def GTurn (J : It) (te : TE) (σ : L2.St) (N : Nat) (W : Nat → Hp → Prop) (Yv : Nat → V → Hp → Prop) (Qe : Hp → Prop) : Prop :=
  ∀ i H, W i H → (i = N ∧ J.stop i H ∧ Qe H) ∨ (i < N ∧ J.go i H ∧ ∀ x H', J.yld i H x H' → te (σ ++ [some x]) H' fun y H3 => Yv i y H3)

section
variable {X' : Cx} {S : List Addr} {a it : Addr} {go : Obj} {fp : List Addr} {tn : Nat → Heap → Prop} {σ : L2.St} {N : Nat} {W : Nat → Hp → Prop} {Yv : Nat → V → Hp → Prop} {Qe : Hp → Prop} {J : It} {te : TE}
  {elt iter : Expr} {x : Str} {px gpos : Pos} {scope : Scope} {A : Around}
theorem loop_gen (g : GX1 X' S a fp) (hA : X'.A = A.deeper X'.env) (hcalm : X'.calm = true) (hN : X'.N.Nodup) (hlen : X'.N.length = σ.length + 1) (hx : X'.N[σ.length]? = some x) (hloc : X'.env.scope.names.lookup x = some .local) (hco : X'.env.scope.isCoroutine = false)
    (T : Turn X'.prog X'.w X'.K (.Name x px) J fp it tn) (hel : PE X' elt te) (hxe : X'.xe = fun _ _ => False) (hex : X'.ex = fp) (hafp : a ∉ fp)
    (R : GTurn J te σ N W Yv Qe) :
    ∀ (n i : Nat) (s₀ s : Shared) (o : Option V) (H : Hp), i + n = N → Inv X' ((a, go) :: pinsAt S s₀.heap) (σ ++ [o]) H s → tn i s.heap → (∀ b ∈ fp, H b = none) → (∀ b ∈ S, ∃ o, s₀.heap.get? b = some o) → W i H →
      Seg (model X'.prog X'.w) A (RG X' S a go σ N W Qe) (YG X' S a go fp tn σ N W Yv) n s₀ (.compLoop (.GeneratorExp elt [⟨.Name x px, iter, [], 0⟩] scope gpos) 0 (.ref it) .none X'.env)
        ((model X'.prog X'.w).den (.compLoop (.GeneratorExp elt [⟨.Name x px, iter, [], 0⟩] scope gpos) 0 (.ref it) .none X'.env)) [] s := by
  have stat : ∀ {pl : List (Addr × Obj)} {σ' : L2.St} {H' : Hp} {s' : Shared}, Inv X' pl σ' H' s' → (∀ p ∈ pl, p.1 ∉ fp) → (∀ b ∈ fp, H' b = none) → ∀ b ∈ fp, FpOk X' pl H' b := fun {pl σ' H' s'} I' hpl hn b hb =>
    ⟨hn b hb, (I'.ok.exf b (by rw [hex]; exact hb)).1, I'.ok.exfs b (by rw [hex]; exact hb), .inl (by rw [hex]; exact hb), fun y c e => (I'.ok.exf b (by rw [hex]; exact hb)).2 y c e, fun p hp z => by
      rw [g.pn] at hp
      exact hpl p hp (by rw [z]; exact hb)⟩
  have plo : ∀ {h : Heap}, ∀ p ∈ (a, go) :: pinsAt S h, p.1 ∉ fp := fun {h} p hp => by
    rcases List.mem_cons.mp hp with hp | hp
    · rw [hp]; exact hafp
    · exact (g.apart _ (of_pinsAt hp).1).2.2.2.2.1
  have xeF : ∀ {α : Type} {m : Sem α} {Q Q' : α → Shared → Prop} {E : Value → Shared → Prop} {s : Shared}, wpAny (model X'.prog X'.w) X'.A m Q X'.xe s → (∀ b s, Q b s → Q' b s) → wpAny (model X'.prog X'.w) X'.A m Q' E s := fun h hQ => by
    rw [hxe] at h
    exact thnF h hQ
  intro n
  induction n with
  | zero =>
    intro i s₀ s o H hi I st nfp hS w
    show Seg _ A _ _ _ s₀ _ ((compTurn (.GeneratorExp elt [⟨.Name x px, iter, [], 0⟩] scope gpos) 0 (.ref it) .none X'.env).onRaise (leaving X'.env)) [] s
    rw [compTurn_gen, Sem.onRaise_eq_wrap]
    refine seg_bind_wrap (wpAny_standAt ?_)
    rcases R i H w with ⟨ei, stop, hq⟩ | ⟨lt, _⟩
    · refine seg_bind_wrap ?_
      rw [over_loop_gen, ← hA]
      refine thnF (T.done X' rfl rfl rfl hcalm i _ s _ H (fun _ _ => False) I (stat I plo nfp) st stop) fun r s1 ⟨hr, I1⟩ => ?_
      subst hr
      exact seg_end (.ok .next) ⟨rfl, rfl, o, H, I1, hq⟩
    · omega
  | succ n ih =>
    intro i s₀ s o H hi I st nfp hS w
    show Seg _ A _ _ _ s₀ _ ((compTurn (.GeneratorExp elt [⟨.Name x px, iter, [], 0⟩] scope gpos) 0 (.ref it) .none X'.env).onRaise (leaving X'.env)) [] s
    rw [compTurn_gen, Sem.onRaise_eq_wrap]
    refine seg_bind_wrap (wpAny_standAt ?_)
    rcases R i H w with ⟨ei, stop, hq⟩ | ⟨lt, hgo, step⟩
    · omega
    · refine seg_bind_wrap ?_
      rw [over_loop_gen, ← hA]
      refine thnF (T.item X' rfl rfl rfl hcalm i _ s _ H (fun _ _ => False) I (stat I plo nfp) st hgo) fun r s1 ⟨u, hr, h1⟩ => ?_
      subst hr
      refine seg_bind_wrap ?_
      rw [over_loop_gen, ← hA]
      refine thnF h1 fun _ s2 ⟨v, H2, I2, r2, y2, st2, nfp2⟩ => ?_
      have I2' : Inv X' (((a, go) :: pinsAt S s₀.heap) ++ pinsAt fp s2.heap) (σ ++ [o]) H2 s2 := I2.pinned (stat I2 plo nfp2) (T.obj _ _ st2)
      refine seg_bind_wrap ?_
      rw [over_loop_gen, ← hA]
      have pg : PG X' (.Name x px) (gName σ.length) := pg_name hN hx (.inl hloc) (.inr hloc)
      have eset : (σ ++ [o]).set σ.length (some v) = σ ++ [some v] := by
        rw [List.set_append_right _ _ (Nat.le_refl _)]
        simp
      refine xeF (pg.run _ s2 _ H2 v u (fun σ' H' => σ' = σ ++ [some v] ∧ H' = H2) I2' r2 ⟨eset, rfl⟩) fun _ s3 ⟨σ3, H3, I3, e3, e3'⟩ => ?_
      subst e3
      subst e3'
      refine seg_bind_wrap ?_
      simp only [List.forIn_nil]
      refine wpAny_pure ?_
      simp only [if_true]
      have hy : ∀ v, yieldOut X'.env v = yieldValue v := fun v => by simp only [yieldOut, hco, Bool.false_eq_true, if_false]
      simp only [hy]
      rw [Sem.bind_eq_wrap', Sem.bind_eq_wrap', Sem.wrap_wrap, Sem.wrap_wrap]
      refine seg_wrap ?_
      rw [over_loop_gen, ← hA]
      refine xeF (hel.run _ s3 _ H3 _ I3 (step v H3 y2)) fun yv s4 ⟨y, H4, I4, r4, q4⟩ => ?_
      have pin4 : ∀ b ∈ fp, ∀ o, s2.heap.get? b = some o → s4.heap.get? b = some o ∧ H4 b = none := fun b hb o e =>
        let z := I4.pin (b, o) (List.mem_append_right _ (List.mem_append_right _ (mem_pinsAt hb e)))
        ⟨z.1, z.2.1⟩
      have I5 : Inv X' ((a, go) :: pinsAt S s₀.heap) (σ ++ [some v]) H4 s4 := I4.unpinned
      have st5 : tn (i + 1) s4.heap := T.keep _ _ _ st2 fun b hb o e => (pin4 b hb o e).1
      have nfp5 : ∀ b ∈ fp, H4 b = none := fun b hb => by
        obtain ⟨o, e, _⟩ := T.obj _ _ st2 b hb
        exact (pin4 b hb o e).2
      refine seg_at (seg_yield rfl rfl rfl ⟨i, y, some v, H4, hi, r4, I5, q4, fun s'' z w' => ?_⟩)
      have I6 := woken g I5 hS z
      refine seg_again rfl (ih (i + 1) s'' s'' (some v) H4 (by omega) I6 ?_ nfp5 (fun b hb => ?_) w')
      · refine T.keep _ _ _ st5 fun b hb o e => z.keep b o (fun hb' => (g.apart b hb').2.2.2.2.1 hb) e
      · obtain ⟨o, e, _⟩ := z.there b hb
        exact ⟨o, e⟩
theorem begin_gen (g : GX1 X' S a fp) (hA : X'.A = A.deeper X'.env) (hcalm : X'.calm = true) (hN : X'.N.Nodup) (hlen : X'.N.length = σ.length + 1) (hx : X'.N[σ.length]? = some x) (hloc : X'.env.scope.names.lookup x = some .local) (hco : X'.env.scope.isCoroutine = false)
    (T : Turn X'.prog X'.w X'.K (.Name x px) J fp it tn) (hel : PE X' elt te) (hxe : X'.xe = fun _ _ => False) (hex : X'.ex = fp) (hafp : a ∉ fp)
    (R : GTurn J te σ N W Yv Qe) (s₀ s : Shared) (o : Option V) (H : Hp) (I : Inv X' ((a, go) :: pinsAt S s₀.heap) (σ ++ [o]) H s) (st : tn 0 s.heap) (nfp : ∀ b ∈ fp, H b = none) (hS : ∀ b ∈ S, ∃ o, s₀.heap.get? b = some o) (w : W 0 H) :
    Seg (model X'.prog X'.w) A (RG X' S a go σ N W Qe) (YG X' S a go fp tn σ N W Yv) N s₀ (.compStart (.GeneratorExp elt [⟨.Name x px, iter, [], 0⟩] scope gpos) 0 (.ref it) .none X'.env)
      ((model X'.prog X'.w).den (.compStart (.GeneratorExp elt [⟨.Name x px, iter, [], 0⟩] scope gpos) 0 (.ref it) .none X'.env)) [] s := by
  have loop := loop_gen (A := A) (iter := iter) (scope := scope) (gpos := gpos) (go := go) g hA hcalm hN hlen hx hloc hco T hel hxe hex hafp R N 0 s₀ s o H (Nat.zero_add _) I st nfp hS w
  show Seg _ A _ _ _ s₀ _ ((compStart (.GeneratorExp elt [⟨.Name x px, iter, [], 0⟩] scope gpos) 0 (.ref it) .none X'.env).onRaise (leaving X'.env)) [] s
  unfold compStart
  rw [Sem.onRaise_eq_wrap]
  show Seg _ A _ _ _ s₀ _ ((ask >>= _).wrap _ _ _ _) [] s
  refine seg_bind_wrap (wpAny_askSetting ?_)
  split
  · exact seg_again rfl loop
  · first
      | exact seg_bind_wrap (wpAny_rule (seg_bind_wrap (wpAny_standAt (seg_bind_wrap (T.self _ 0 s _ _ st (seg_again rfl loop))))))
      | (refine seg_bind_wrap (wpAny_rule ?_); show Seg _ A _ _ _ s₀ _ ((standAt iter.pos >>= _).wrap _ _ _ _) [] s; exact seg_bind_wrap (wpAny_standAt (seg_bind_wrap (T.self _ 0 s _ _ st (seg_again rfl loop)))))
end
end GX
end

section
set_option Elab.async false
set_option linter.all false
set_option maxRecDepth 100000
set_option maxHeartbeats 2000000
namespace GX
open PySem PySem.Spec PyProof.Rows L2 GenW

/-- a generator that has been made and not begun: its object a (obj go), its number g; s4: the state behind the making of its code, s5: now -/
structure Made (X : Cx) (pins : List (Addr × Obj)) (σ : L2.St) (scope : Scope) (x : Str) (elt iter : Expr) (px gpos : Pos) (H : Hp) (J : It) (s4 s5 : Shared) (a it : Addr) (g : Nat) (go : Obj) (code : Value) (fp : List Addr) (tn : Nat → Heap → Prop) : Prop where
  inv : Inv X pins σ H s4
  gen : s5.heap.IsGen a g
  lim : s5.heap.NoLimit
  sz : s4.heap.objs.size < a
  sz5 : s5.heap.objs.size = a + 1
  fresh : s5.gens[g]? = some (.fresh (.compStart (.GeneratorExp elt [⟨.Name x px, iter, [], 0⟩] scope gpos) 0 (.ref it) .none (genEnv scope (cloFrom X.env.cells scope.names []) s4.heap.objs.size code builtinsNs X.env)))
  bare : AllBare s5.gens
  os : s5.os = s4.os
  keep : ∀ b o, s4.heap.get? b = some o → s5.heap.get? b = some o
  ns : s5.heap.Ns s4.heap.objs.size (fun y => if y = ".0" then some (.ref it) else none)
  fpo : ∀ b ∈ fp, FpOk X pins H b ∧ b < s4.heap.objs.size
  turn : Turn X.prog X.w X.K (.Name x px) J fp it tn
  st : tn 0 s4.heap
  obj : s5.heap.get? a = some go
  objd : ∀ v, go.data ≠ .cell v

section
variable {X : Cx} {pins : List (Addr × Obj)} {σ : L2.St} {H : Hp} {s : Shared}
theorem make_gen {c P : Addr} {elt iter : Expr} {x : Str} {px gpos : Pos} {scope : Scope} {wi : TI} {Q' : Value → Shared → Prop} {R : It → Hp → Prop}
    (hh : X.A.handled = none) (hd : X.A.depth < recursionLimit) (TB : GxR.TabB X.base X.mg c P) (hcode : X.env.code = .ref c) (ok : GOk X.N X.env.scope scope x) (hi : PI X (.Name x px) iter wi)
    (hs : ∀ v, genFold iter X.env v = pure v) (I : Inv X pins σ H s) (h : wi σ H fun J H1 => GxR.TabG H1 P ∧ R J H1)
    (hQ : ∀ J H1 H2 s4 s5 a it g go code fp tn, R J H1 → GxR.Tabbed P H1 H2 → Made X pins σ scope x elt iter px gpos H2 J s4 s5 a it g go code fp tn → Q' (.ref a) s5) :
    wpAny (model X.prog X.w) X.A (eval (.GeneratorExp elt [⟨.Name x px, iter, [], 0⟩] scope gpos) X.env) Q' X.xe s := by
  have hfree : ∀ y ∈ scope.names, y.2 = .free → ∃ c, X.env.cells.lookup y.1 = some c := fun y hy e => by
    rcases ok.free y hy e with k | k
    · exact I.ok.has _ (.inl k)
    · exact I.ok.has _ (.inr k)
  refine wpAny_GeneratorExp_make ok.co (closure_ok hfree) ok.nocell ok.dot ok.kind hd ?_ hs
  refine thn (hi.run pins s σ H _ I h) fun xv s1 hx => thn hx fun itv s2 h2 => ?_
  obtain ⟨it, fp, tn, J, H1, e, I1, T, st2, f2, ⟨ps, hP, ht⟩, q1⟩ := h2
  subst e
  have hPs : s2.heap.get? P = some { cls := .none, data := .fields ps } := I1.hok P _ hP
  have cd : PySem.W.CodeHd s2.heap c P := TB.code.keeps fun b u e => I1.bk b u e
  have sz : ∀ b ∈ fp, b < s2.heap.objs.size := fun b hb => by
    obtain ⟨o, e, _⟩ := T.obj _ _ st2 b hb
    exact Heap.lt_size e
  refine ⟨I1.nolimit, ?_⟩
  have cont : ∀ (code : Value) (h3 : Heap) (tk : Nat) (ps' : Array Value), Heap.ExtBut P s2.heap h3 → h3.get? P = some { cls := .none, data := .fields ps' } → (∃ more, ps' = ps ++ more) → TriplesOk ps'.toList →
      wpAny (model X.prog X.w) X.A (builtinsFor X.env.globals X.env.builtins) (fun bi s₄ =>
        ∀ h', h'.Ns s₄.heap.objs.size (fun y => if y = ".0" then some (.ref it) else none) → Heap.SameBut s₄.heap.objs.size (s₄.heap.push { cls := .type "frame", data := .dict #[] }) h' →
          Q' (.ref h'.objs.size) { s₄ with
            gens := s₄.gens.push (.fresh (.compStart (.GeneratorExp elt [⟨.Name x px, iter, [], 0⟩] scope gpos) 0 (.ref it) .none (genEnv scope (cloFrom X.env.cells scope.names []) s₄.heap.objs.size code bi X.env))),
            toks := s₄.toks + 1 + 1 + 1,
            heap := h'.push { cls := .type "generator", data := .fields #[.int s₄.gens.size 0, .str "<genexpr>" (s₄.toks + 1), .str (X.env.qual ++ "<genexpr>") (s₄.toks + 1 + 1)] } }) X.xe { s2 with heap := h3, toks := tk } := by
    intro code h3 tk ps' hx hP3 hmore ht3
    obtain ⟨more, em⟩ := hmore
    obtain ⟨bm, ob, e1, e2, e3, e4, e5, e6, e7, e8⟩ := TB.bm
    have keep3 : ∀ b u, b ≠ P → s2.heap.get? b = some u → h3.get? b = some u := fun b u hb e => hx b u hb e
    have I3 := GxR.inv_tab (more := more) (h' := h3) (g' := s2.gens) (d' := s2.drawn) (t' := tk) I1 hP keep3 (by rw [← em]; exact hP3) I1.bare
    have I3' : Inv X pins σ (upd H1 P (.tbl (ps ++ more))) { s2 with heap := h3, toks := tk } := I3
    refine wpAny_builtinsFor (m := X.mg) (by rw [I1.ok.glob]; exact (I1.mod.glob.keeps I1.bk).extBut hx TB.gP) e1 e2 (keep3 _ _ e4 (I1.bk _ _ e5)) e6 e7 e8 ?_
    intro h' hn' hs'
    generalize hs4 : ({ s2 with heap := h3, toks := tk } : Shared) = s4 at I3' hn' hs' ⊢
    have h4 : s4.heap = h3 := by rw [← hs4]
    have hsz : h'.objs.size = s4.heap.objs.size + 1 := by rw [hs'.1, Heap.size_push]
    have keep' : ∀ b o, s4.heap.get? b = some o → h'.get? b = some o := fun b o e => hs'.extBut b o (Nat.ne_of_lt (Heap.lt_size e)) (Heap.get?_push_of_some _ e)
    have stay : ∀ b ∈ fp, ∀ o, s2.heap.get? b = some o → s4.heap.get? b = some o := fun b hb o e => by
      rw [h4]
      refine keep3 b o (fun z => ?_) e
      have := (f2 b hb).1
      rw [z, hP] at this
      cases this
    refine hQ J H1 (upd H1 P (.tbl (ps ++ more))) s4 _ h'.objs.size it s4.gens.size _ code fp tn q1 ⟨⟨ps ++ more, upd_same, by rw [← em]; exact ht3⟩, fun b hb => upd_ne hb⟩
      ⟨I3', ⟨_, _, _, Heap.get?_push_size _ rfl, rfl, rfl, rfl⟩, I3'.nolimit.keeps fun b o e => Heap.get?_push_of_some _ (keep' b o e), by omega, by rw [Heap.size_push], Array.getElem?_push_size .., AllBare.push (by rw [← hs4]; exact I1.bare) rfl, rfl,
        fun b o e => Heap.get?_push_of_some _ (keep' b o e), hn'.push _, fun b hb => ⟨⟨?_, (f2 b hb).2⟩, ?_⟩, T, T.keep _ _ _ st2 stay, Heap.get?_push_size _ rfl, fun v q => by cases q⟩
    · rw [upd_ne (fun z => by have := (f2 b hb).1; rw [z, hP] at this; cases this)]
      exact (f2 b hb).1
    · obtain ⟨o, e, _⟩ := T.obj _ _ st2 b hb
      exact Heap.lt_size (stay b hb o e)
  cases hf : codeAmong gpos ps.toList with
  | none =>
    refine wpAny_genexprCodeX hcode (cd.code hPs ht) (cd.tab hPs) hf fun c' h' tk hx hge hlt hco' _ htab' _ => ?_
    obtain ⟨o1, vs, f1, tf, fl, tg, inF, tx, tt, op, _, _, _, _, _, _, _, _, _, htr, _⟩ := hco'
    exact cont _ h' tk _ hx htab'.2 ⟨_, rfl⟩ htr
  | some cv =>
    refine wpAny_genexprCode_hit hcode (cd.code hPs ht) hf ?_
    exact cont cv s2.heap s2.toks ps (Heap.ExtBut.refl _ _) hPs ⟨#[], by simp⟩ ht

variable {scope : Scope} {x : Str} {elt iter : Expr} {px gpos : Pos} {J : It} {s4 s5 : Shared} {a it : Addr} {g : Nat} {go : Obj} {code : Value} {fp : List Addr} {tn : Nat → Heap → Prop} {te : TE} {N : Nat} {W : Nat → Hp → Prop} {Yv : Nat → V → Hp → Prop} {Qe : Hp → Prop}
theorem Made.ap (m : Made X pins σ scope x elt iter px gpos H J s4 s5 a it g go code fp tn) {A : Around} {S : List Addr} (hS : ∀ b ∈ S, a < b) :
    GX1 (gcx X scope x A s4 H s4.heap.objs.size code fp) S a fp := by
  have hsz := m.sz
  refine ⟨fun b hb => ?_, rfl⟩
  have hab := hS b hb
  have hb4 : s4.heap.objs.size < b := Nat.lt_trans hsz hab
  refine ⟨Nat.le_of_lt hb4, Nat.ne_of_gt hb4, fun y c e z => ?_, Nat.ne_of_gt hab, fun hm => ?_, fun hm => ?_⟩
  · rcases cloFrom_mem (PySem.mem_of_lookup e) with hm | ⟨h1, h2⟩
    · cases hm
    · cases hc : X.env.cells.lookup y with
      | none =>
        rw [hc] at h2
        have h2 : c = 0 := h2
        rw [← z, h2] at hb4
        exact absurd hb4 (Nat.not_lt_zero _)
      | some c0 =>
        rw [hc] at h2
        have h2 : c = c0 := h2
        obtain ⟨w, zz⟩ := m.inv.cell _ _ hc
        have := zz.lt
        rw [← h2, z] at this
        exact absurd (Nat.lt_trans this hb4) (Nat.lt_irrefl _)
  · exact absurd (Nat.lt_trans (m.fpo b hm).2 hb4) (Nat.lt_irrefl _)
  · have hm : b ∈ frs X.stack := hm
    obtain ⟨_, o, ho, _⟩ := m.inv.stack.mem hm
    exact absurd (Nat.lt_trans (Heap.lt_size ho) hb4) (Nat.lt_irrefl _)
/-- the first wake -/
theorem Made.seg (m : Made X pins σ scope x elt iter px gpos H J s4 s5 a it g go code fp tn) (ok : GOk X.N X.env.scope scope x) (hN : X.N.Nodup) (hxN : x ∉ X.N) {A : Around} (hh : A.handled = none) (hfr : A.frames = some X.stack)
    (hel : PE (gcx X scope x A s4 H s4.heap.objs.size code fp) elt te) {S : List Addr} (hS : ∀ b ∈ S, a < b) (R : GTurn J te σ N W Yv Qe) (w : W 0 H) (s6 : Shared) (hos : s6.os = s5.os) (hb : AllBare s6.gens)
    (kp : ∀ b o, s5.heap.get? b = some o → s6.heap.get? b = some o) (hSo : ∀ b ∈ S, ∃ o, s6.heap.get? b = some o ∧ ∀ v, o.data ≠ .cell v) :
    Seg (model X.prog X.w) A (RG (gcx X scope x A s4 H s4.heap.objs.size code fp) S a go σ N W Qe) (YG (gcx X scope x A s4 H s4.heap.objs.size code fp) S a go fp tn σ N W Yv) N s6
      (.compStart (.GeneratorExp elt [⟨.Name x px, iter, [], 0⟩] scope gpos) 0 (.ref it) .none (genEnv scope (cloFrom X.env.cells scope.names []) s4.heap.objs.size code builtinsNs X.env))
      ((model X.prog X.w).den (.compStart (.GeneratorExp elt [⟨.Name x px, iter, [], 0⟩] scope gpos) 0 (.ref it) .none (genEnv scope (cloFrom X.env.cells scope.names []) s4.heap.objs.size code builtinsNs X.env))) [] s6 := by
  have kp4 : ∀ b o, s4.heap.get? b = some o → s6.heap.get? b = some o := fun b o e => kp b o (m.keep b o e)
  have I0 : Inv (gcx X scope x A s4 H s4.heap.objs.size code fp) [] (σ ++ [none]) H s6 := gen_start m.inv ok m.fpo hh hfr (hos.trans m.os) hb kp4 (m.ns.keeps kp)
  have hsz := m.sz
  have ap := m.ap (A := A) hS
  have fre : ∀ b, s4.heap.objs.size ≤ b → H b = none := fun b hb => m.inv.hok.fresh hb
  have anf : a ∉ (gcx X scope x A s4 H s4.heap.objs.size code fp).fs := fun hm => by
    have hm : a ∈ frs X.stack := hm
    obtain ⟨_, o, ho, _⟩ := m.inv.stack.mem hm
    exact absurd (Nat.lt_trans (Heap.lt_size ho) hsz) (Nat.lt_irrefl _)
  have I : Inv (gcx X scope x A s4 H s4.heap.objs.size code fp) ((a, go) :: pinsAt S s6.heap) (σ ++ [none]) H s6 := I0.pins_of fun p hp => by
    rcases List.mem_cons.mp hp with hp | hp
    · rw [hp]
      exact ⟨kp _ _ m.obj, fre a (Nat.le_of_lt hsz), Nat.ne_of_gt hsz, anf, m.objd⟩
    · obtain ⟨hbS, e⟩ := of_pinsAt hp
      obtain ⟨o, e', d⟩ := hSo _ hbS
      rw [e] at e'; cases e'
      exact ⟨e, fre _ (ap.apart _ hbS).1, (ap.apart _ hbS).2.1, (ap.apart _ hbS).2.2.2.2.2, d⟩
  have hlen : X.N.length = σ.length := m.inv.len.symm
  refine begin_gen (X' := gcx X scope x A s4 H s4.heap.objs.size code fp) (go := go) (N := N) (W := W) (Yv := Yv) (Qe := Qe) ap rfl rfl ?_ ?_ ?_ ok.loc ok.co m.turn hel rfl rfl (fun hm => ?_) R s6 s6 none H I ?_ (fun b hb => (m.fpo b hb).1.1) (fun b hb => ?_) w
  · show (X.N ++ [x]).Nodup
    rw [List.nodup_append]
    exact ⟨hN, by simp, fun y hy z hz e => hxN (by rw [List.mem_singleton.mp hz] at e; rw [← e]; exact hy)⟩
  · show (X.N ++ [x]).length = _
    simp [hlen]
  · show (X.N ++ [x])[σ.length]? = some x
    rw [List.getElem?_append_right (by omega)]
    simp [hlen]
  · exact absurd (Nat.lt_trans (m.fpo a hm).2 hsz) (Nat.lt_irrefl _)
  · exact m.turn.keep _ _ _ m.st fun b _ o e => kp4 b o e
  · obtain ⟨o, e, _⟩ := hSo b hb
    exact ⟨o, e⟩
/-- back in the def -/
theorem Made.back (m : Made X pins σ scope x elt iter px gpos H J s4 s5 a it g go code fp tn) {A : Around} {pl : List (Addr × Obj)} {σ' : L2.St} {H' : Hp} {s6 s7 : Shared} (I : Inv (gcx X scope x A s4 H s4.heap.objs.size code fp) pl σ' H' s6)
    (hos : s7.os = s6.os) (hb : AllBare s7.gens) (kp : ∀ b o, s6.heap.get? b = some o → s7.heap.get? b = some o) : Inv X pins σ H' s7 :=
  m.inv.call' (ch := fp) (hos.trans I.os) (I.base.trans (Un.kept kp)) (I.hok.kept kp) hb fun b hb => ⟨(m.fpo b hb).1.2.2.2.1, (m.fpo b hb).1.2.1, (m.fpo b hb).1.2.2.2.2.1, (m.fpo b hb).1.2.2.2.2.2⟩
end
end GX
end

section
set_option Elab.async false
set_option linter.all false
set_option maxRecDepth 100000
set_option maxHeartbeats 2000000
namespace GX
open PySem PySem.Spec PyProof.Rows L2 GenW

section
variable {X : Cx} {pins : List (Addr × Obj)} {σ : L2.St} {H : Hp}
  {scope : Scope} {x : Str} {elt iter : Expr} {px gpos : Pos} {J : It} {s4 s5 : Shared} {a it : Addr} {g : Nat} {go : Obj} {code : Value} {fp : List Addr} {tn : Nat → Heap → Prop} {te : TE} {N : Nat} {W : Nat → Hp → Prop}

theorem entry_all : entryFor table "all" = some Builtin.«all» := PySem.F.entry_all

/-- one turn of all(..) -/
theorem all_turn (m : Made X pins σ scope x elt iter px gpos H J s4 s5 a it g go code fp tn) {A : Around} {Q : VK} {Rr : Result → Shared → Prop} (hh : A.handled = none) (hd : A.depth < recursionLimit)
    (hR : ∀ b s', EP X pins σ Q (.bool b) s' → Rr (.ok (.ret (.bool b))) s') (n : Nat) (s : Shared) (hg : s.heap.IsGen a g) (hl : s.heap.NoLimit)
    (h : ∃ gs, s.gens[g]? = some gs ∧ gs.Goes (model X.prog X.w) A.in1.in1 (RG (gcx X scope x A.in1.in1 s4 H s4.heap.objs.size code fp) [] a go σ N W (fun H3 => Q (.bl true) H3))
        (YG (gcx X scope x A.in1.in1 s4 H s4.heap.objs.size code fp) [] a go fp tn σ N W (fun i y H3 => ∃ b, y = .bl b ∧ if b = true then W (i + 1) H3 else Q (.bl false) H3)) n (.send .none) (s.setGen g .running))
    (again : ∀ (m : Nat) (s1 : Shared) (gs' : GenState), n = m + 1 → s1.heap.IsGen a g → s1.heap.NoLimit → g < s1.gens.size →
        gs'.Goes (model X.prog X.w) A.in1.in1 (RG (gcx X scope x A.in1.in1 s4 H s4.heap.objs.size code fp) [] a go σ N W (fun H3 => Q (.bl true) H3))
          (YG (gcx X scope x A.in1.in1 s4 H s4.heap.objs.size code fp) [] a go fp tn σ N W (fun i y H3 => ∃ b, y = .bl b ∧ if b = true then W (i + 1) H3 else Q (.bl false) H3)) m (.send .none) ((s1.setGen g gs').setGen g .running) →
        codeAny (model X.prog X.w) A (.builtin "all.loop" ⟨[.ref a], []⟩) Rr (s1.setGen g gs')) :
    codeAny (model X.prog X.w) A (.builtin "all.loop" ⟨[.ref a], []⟩) Rr s := by
  obtain ⟨gs, hgs, hgo⟩ := h
  have hgl : g < s.gens.size := (Array.getElem?_eq_some_iff.mp hgs).1
  refine codeAny_builtin PySem.F.entry_all_loop ?_
  rw [Around.under_plainId PySem.F.plain_all_loop _]
  show wpAny _ A.in1 (pyNext (.ref a) >>= _) _ _ s
  refine wpAny_bind (wpAny_gsz (n := g + 1) hgl (wpAny_pyNext_genexpQ (A := A.in1) hh hl hd hg hgs hgo (fun v s1 gs' hb hv => ?_) (fun s1 hp h' hk => ?_)))
  · intro hsz
    have hsz1 : g < s1.gens.size := by
      have q : (s1.setGen g gs').gens.size = s1.gens.size := setGen_size _ _ _
      have hsz' : g + 1 ≤ (s1.setGen g gs').gens.size := hsz
      omega
    obtain ⟨i, y, o, H3, hi, rv, I, ⟨b, ey, hy⟩, hkap⟩ := hv
    subst ey
    obtain rfl : v = Value.bool b := rv
    refine wpAny_bind (wpAny_holding (wpAny_truthy_bool ?_))
    refine wpAny_bind (wpAny_letGo ?_)
    have hp := I.pin (a, go) (List.mem_append_right _ List.mem_cons_self)
    have hg1 : s1.heap.IsGen a g := by
      obtain ⟨o5, nm5, qn5, ho5, r5⟩ := m.gen
      rw [m.obj] at ho5
      cases ho5
      exact ⟨go, nm5, qn5, hp.1, r5⟩
    have hb1 : AllBare (s1.setGen g gs').gens := allBare_setGen I.bare hb
    cases b with
    | true =>
      simp only [if_true] at hy ⊢
      have hz : Slept [] s1 ((s1.setGen g gs').setGen g .running) := ⟨rfl, allBare_setGen hb1 rfl, fun _ _ _ e => e, fun b z => by cases z⟩
      have k := hkap _ hz hy
      refine wpAny_pure ⟨plainId_quiet PySem.F.plain_all_loop _, ?_⟩
      cases n with
      | zero => exact False.elim k
      | succ m' => exact again m' s1 gs' rfl hg1 I.nolimit hsz1 k
    | false =>
      simp only [Bool.false_eq_true, if_false] at hy ⊢
      refine wpAny_bind (wpAny_rule (wpAny_pure (hR _ _ ?_)))
      exact ⟨.bl false, H3, m.back I rfl hb1 fun _ _ e => e, rfl, hy⟩
  · intro _
    obtain ⟨hn, o, H3, I, q⟩ := hp
    refine wpAny_bind (wpAny_rule (wpAny_pure (hR _ _ ?_)))
    exact ⟨.bl true, H3, m.back I rfl (allBare_setGen I.bare rfl) hk, rfl, q⟩
theorem all_loop (m : Made X pins σ scope x elt iter px gpos H J s4 s5 a it g go code fp tn) {A : Around} {Q : VK} {Rr : Result → Shared → Prop} (hh : A.handled = none) (hd : A.depth < recursionLimit)
    (hR : ∀ b s', EP X pins σ Q (.bool b) s' → Rr (.ok (.ret (.bool b))) s') :
    ∀ (n : Nat) (s : Shared), s.heap.IsGen a g → s.heap.NoLimit →
      (∃ gs, s.gens[g]? = some gs ∧ gs.Goes (model X.prog X.w) A.in1.in1 (RG (gcx X scope x A.in1.in1 s4 H s4.heap.objs.size code fp) [] a go σ N W (fun H3 => Q (.bl true) H3))
        (YG (gcx X scope x A.in1.in1 s4 H s4.heap.objs.size code fp) [] a go fp tn σ N W (fun i y H3 => ∃ b, y = .bl b ∧ if b = true then W (i + 1) H3 else Q (.bl false) H3)) n (.send .none) (s.setGen g .running)) →
      codeAny (model X.prog X.w) A (.builtin "all.loop" ⟨[.ref a], []⟩) Rr s := by
  intro n
  induction n with
  | zero => exact fun s hg hl h => all_turn m hh hd hR 0 s hg hl h fun m' _ _ e => by omega
  | succ n ih =>
    intro s hg hl h
    refine all_turn m hh hd hR (n + 1) s hg hl h fun m' s1 gs' e hg1 hl1 hsz hgo => ?_
    obtain rfl : n = m' := by omega
    exact ih (s1.setGen g gs') hg1 hl1 ⟨gs', setGen_at hsz, hgo⟩
end

/-! ### all(elt for x in iter) -/
section
variable {X : Cx}
def tAllG (P : Addr) (wi : TI) (te : TE) : TE := fun σ H Q => wi σ H fun J H1 => GxR.TabG H1 P ∧ ∀ H2, GxR.Tabbed P H1 H2 → ∃ (N : Nat) (W : Nat → Hp → Prop), W 0 H2 ∧
  GTurn J te σ N W (fun i y H3 => ∃ b, y = .bl b ∧ if b = true then W (i + 1) H3 else Q (.bl false) H3) (fun H3 => Q (.bl true) H3)
theorem pe_allG {c P : Addr} {elt iter : Expr} {x : Str} {px p pos gpos : Pos} {scope : Scope} {wi : TI} {te : TE} {k : Nat}
    (hr : Room (k + 2) X.A) (hg : Gl X "all") (hm : X.mg "all" = none) (TB : GxR.TabB X.base X.mg c P) (hcode : X.env.code = .ref c) (hN : X.N.Nodup) (hfr : X.A.frames = some X.stack) (ok : GOk X.N X.env.scope scope x) (hxN : x ∉ X.N) (hi : PI X (.Name x px) iter wi)
    (hel : ∀ (A : Around) (s : Shared) (H : Hp) (C : Addr) (code : Value) (fp : List Addr), Room k (gcx X scope x A s H C code fp).A → PE (gcx X scope x A s H C code fp) elt te)
    (hs : ∀ v, genFold iter X.env v = pure v := by intro _; rfl)
    (he : starEach [.GeneratorExp elt [⟨.Name x px, iter, [], 0⟩] scope gpos] X.env = (false, eval (.GeneratorExp elt [⟨.Name x px, iter, [], 0⟩] scope gpos) X.env) :: starEach [] X.env := by rfl) :
    PE X (.Call (.Name "all" p) [.GeneratorExp elt [⟨.Name x px, iter, [], 0⟩] scope gpos] [] pos) (tAllG P wi te) := by
  refine ⟨fun pins s σ H Q I h => ?_⟩
  refine wpAny_Call_Name_kw (ld_blt I hg hm (show bootBuiltins "all" = some (.builtin "all") by decide +kernel) ?_)
  refine PyProof.Rows.callWith_builtin1 ?_ he (by rfl)
  rw [he]
  show wpAny _ _ (spliced ((false, eval (.GeneratorExp elt [⟨.Name x px, iter, [], 0⟩] scope gpos) X.env) :: backTo pos (starEach [] X.env))) _ _ s
  refine Calls.spliced_cons (make_gen hr.hd hr.depth TB hcode ok hi hs I h fun J H1 H2 s4 s5 a it g go code fp tn hR hT m => ?_)
  refine Calls.spliced_nil ?_
  obtain ⟨N, W, w0, R⟩ := hR H2 hT
  refine call_function_tree PySem.F.kind_all PySem.F.plain_all PySem.F.entry_all (PySem.F.args_all1 _) ?_
  unfold Builtin.«all»
  refine wpAny_bind (m := oneArg "all" _) (wpAny_pure ?_)
  refine wpAny_bind (wpAny_pyIter_gen m.gen ?_)
  refine wpAny_pure ⟨plainId_quiet PySem.F.plain_all_loop _, ?_⟩
  refine all_loop (N := N) (W := W) (Q := Q) (Rr := fun r s' => match r with | .ok (.ret v) => EP X pins σ Q v s' | .ok _ => False | .error e => X.xe e s') m hr.hd hr.depth (fun b s' h => h) N s5 m.gen m.lim ⟨_, m.fresh, rfl, ?_⟩
  refine m.seg ok hN hxN (A := X.A.in1.in1) hr.hd hfr (hel _ _ _ _ _ _ ?_) (S := []) (fun b z => by cases z) R w0 (s5.setGen g .running) rfl (allBare_setGen m.bare rfl) (fun _ _ e => e) (fun b z => by cases z)
  refine ⟨hr.hd, ?_, ?_⟩
  · have := hr.dp
    show X.A.depth + 1 + 3 * k + 5 < _
    omega
  · have := hr.un
    show X.A.units + 1 + 1 + 3 + 16 * k + 200 < _
    omega
end
end GX
end

section
set_option Elab.async false
set_option linter.all false
set_option maxRecDepth 100000
set_option maxHeartbeats 2000000
namespace GX
open PySem PySem.Spec PyProof.Rows L2 GenW

section
variable {X : Cx} {pins : List (Addr × Obj)} {σ : L2.St} {H : Hp}
  {scope : Scope} {x : Str} {elt iter : Expr} {px gpos : Pos} {J : It} {s4 s5 : Shared} {a it : Addr} {g : Nat} {go : Obj} {code : Value} {fp : List Addr} {tn : Nat → Heap → Prop} {te : TE} {W : Nat → Hp → Prop} {ys : List V} {Qe : Hp → Prop}

/-- one turn of filling the consumer's list at S -/
theorem ext_turn (m : Made X pins σ scope x elt iter px gpos H J s4 s5 a it g go code fp tn) {A : Around} {S : Addr} {res : Value} {Rr : Result → Shared → Prop} (hh : A.handled = none) (hd : A.depth < recursionLimit) (hz : ys.length ≤ sizeLine) (hSa : S ≠ a)
    (hR : ∀ s' acc c H', Inv X pins σ H' s' → s'.heap.get? S = some (lstObj acc c) → Vals ys acc.toList → Qe H' → Rr (.ok (.ret res)) s') (n : Nat) (s : Shared) (acc : Array Value) (c : Nat) (hg : s.heap.IsGen a g) (hl : s.heap.NoLimit)
    (eS : s.heap.get? S = some (lstObj acc c)) (hacc : Vals (ys.take (ys.length - n)) acc.toList) (hn : n ≤ ys.length)
    (h : ∃ gs, s.gens[g]? = some gs ∧ gs.Goes (model X.prog X.w) A.in1.in1 (RG (gcx X scope x A.in1.in1 s4 H s4.heap.objs.size code fp) [S] a go σ ys.length W Qe)
        (YG (gcx X scope x A.in1.in1 s4 H s4.heap.objs.size code fp) [S] a go fp tn σ ys.length W (fun i y H3 => ys[i]? = some y ∧ W (i + 1) H3)) n (.send .none) (s.setGen g .running))
    (again : ∀ (m : Nat) (s2 : Shared) (acc : Array Value) (c : Nat), n = m + 1 → s2.heap.IsGen a g → s2.heap.NoLimit → s2.heap.get? S = some (lstObj acc c) → Vals (ys.take (ys.length - m)) acc.toList →
        (∃ gs, s2.gens[g]? = some gs ∧ gs.Goes (model X.prog X.w) A.in1.in1 (RG (gcx X scope x A.in1.in1 s4 H s4.heap.objs.size code fp) [S] a go σ ys.length W Qe)
          (YG (gcx X scope x A.in1.in1 s4 H s4.heap.objs.size code fp) [S] a go fp tn σ ys.length W (fun i y H3 => ys[i]? = some y ∧ W (i + 1) H3)) m (.send .none) (s2.setGen g .running)) →
        codeAny (model X.prog X.w) A (.builtin "list.extend.loop" ⟨[.ref S, .ref a, res], []⟩) Rr s2) :
    codeAny (model X.prog X.w) A (.builtin "list.extend.loop" ⟨[.ref S, .ref a, res], []⟩) Rr s := by
  obtain ⟨gs, hgs, hgo⟩ := h
  have hgl : g < s.gens.size := (Array.getElem?_eq_some_iff.mp hgs).1
  have hasz : acc.size = ys.length - n := by
    have e1 := hacc.length
    have e2 : acc.toList.length = acc.size := by simp
    rw [List.length_take] at e1
    omega
  refine codeAny_builtin PySem.F.entry_extend_loop ?_
  rw [Around.under_plainId PySem.F.plain_extend_loop _]
  show wpAny _ A.in1 (pyNext (.ref a) >>= _) _ _ s
  refine wpAny_bind (wpAny_gsz (n := g + 1) hgl (wpAny_pyNext_genexpQ (A := A.in1) hh hl hd hg hgs hgo (fun v s1 gs' hb hv => ?_) (fun s1 hp h' hk => ?_)))
  · intro hsz
    have hsz1 : g < s1.gens.size := by
      have q : (s1.setGen g gs').gens.size = s1.gens.size := setGen_size _ _ _
      have hsz' : g + 1 ≤ (s1.setGen g gs').gens.size := hsz
      omega
    obtain ⟨i, y, o, H3, hi, rv, I, ⟨hy, hw⟩, hkap⟩ := hv
    have hlt : i < ys.length := (List.getElem?_eq_some_iff.mp hy).1
    have hp := I.pin (a, go) (List.mem_append_right _ List.mem_cons_self)
    have pS := I.pin (S, lstObj acc c) (List.mem_append_right _ (List.mem_cons_of_mem _ (mem_pinsAt List.mem_cons_self eS)))
    have eS1 : s1.heap.get? S = some (lstObj acc c) := pS.1
    have hg1 : s1.heap.IsGen a g := by
      obtain ⟨o5, nm5, qn5, ho5, r5⟩ := m.gen
      rw [m.obj] at ho5
      cases ho5
      exact ⟨go, nm5, qn5, hp.1, r5⟩
    have hb1 : AllBare (s1.setGen g gs').gens := allBare_setGen I.bare hb
    have hSn : ∀ b ∈ ([S] : List Addr), b = S := fun b z => List.mem_singleton.mp z
    have keep3 : ∀ b o, b ≠ S → s1.heap.get? b = some o → (s1.heap.update S (Obj.mapSeq (·.push v))).get? b = some o := fun b o hbS e => (Heap.get?_update_other _ _ (Ne.symm hbS)).trans e
    have eS2 := Heap.get?_update_self (Obj.mapSeq (·.push v)) eS1 rfl
    have hz2 : Slept [S] s1 (({ s1.setGen g gs' with heap := s1.heap.update S (Obj.mapSeq (·.push v)) } : Shared).setGen g .running) := ⟨rfl, allBare_setGen (s := { s1.setGen g gs' with heap := _ }) hb1 rfl, fun b o hb e => keep3 b o (fun z => hb (by rw [z]; exact List.mem_cons_self)) e, fun b hb => by
      rw [hSn b hb]
      exact ⟨_, eS2, fun v q => by cases q⟩⟩
    have k := hkap _ hz2 hw
    cases n with
    | zero => exact False.elim k
    | succ m' =>
      have hi2 : i = ys.length - (m' + 1) := by omega
      show wpAny _ A.in1 (updateSeq S (·.push v) >>= _) _ _ _
      refine wpAny_bind ?_
      refine wpAny_updateSeq eS1 rfl (wpAny_pure ⟨plainId_quiet PySem.F.plain_extend_loop _, ?_⟩) (by omega) (by show (acc.push v).size ≤ sizeLine + 1; rw [Array.size_push]; omega)
      refine again m' { s1.setGen g gs' with heap := s1.heap.update S (Obj.mapSeq (·.push v)) } (acc.push v) _ rfl ?_ ?_ eS2 ?_ ⟨gs', setGen_at hsz1, k⟩
      · obtain ⟨o', nm, qn, ho, r⟩ := hg1
        exact ⟨o', nm, qn, keep3 a o' (Ne.symm hSa) ho, r⟩
      · have hl1 := I.nolimit
        obtain ⟨mc, hns, hnn⟩ := hl1
        refine ⟨mc, hns.at' fun o e => keep3 _ o (fun z => ?_) e, hnn⟩
        obtain ⟨o2, es, ep, ho2, hd2, _⟩ := hns
        rw [z, eS1] at ho2
        cases ho2
        cases hd2
      · have e1 : ys.take (ys.length - m') = ys.take (ys.length - (m' + 1)) ++ [y] := by
          rw [show ys.length - m' = (ys.length - (m' + 1)) + 1 by omega, List.take_add_one, ← hi2, hy]
          rfl
        rw [e1, Array.toList_push]
        exact hacc.append (.cons rv .nil)
  · intro _
    obtain ⟨hn0, o, H3, I, q⟩ := hp
    have pS := I.pin (S, lstObj acc c) (List.mem_append_right _ (List.mem_cons_of_mem _ (mem_pinsAt List.mem_cons_self eS)))
    refine wpAny_pure (hR _ acc c H3 (m.back I rfl (allBare_setGen I.bare rfl) hk) (hk _ _ pS.1) ?_ q)
    subst hn0
    rw [Nat.sub_zero, List.take_length] at hacc
    exact hacc
theorem ext_loop (m : Made X pins σ scope x elt iter px gpos H J s4 s5 a it g go code fp tn) {A : Around} {S : Addr} {res : Value} {Rr : Result → Shared → Prop} (hh : A.handled = none) (hd : A.depth < recursionLimit) (hz : ys.length ≤ sizeLine) (hSa : S ≠ a)
    (hR : ∀ s' acc c H', Inv X pins σ H' s' → s'.heap.get? S = some (lstObj acc c) → Vals ys acc.toList → Qe H' → Rr (.ok (.ret res)) s') :
    ∀ (n : Nat) (s : Shared) (acc : Array Value) (c : Nat), s.heap.IsGen a g → s.heap.NoLimit → s.heap.get? S = some (lstObj acc c) → Vals (ys.take (ys.length - n)) acc.toList → n ≤ ys.length →
      (∃ gs, s.gens[g]? = some gs ∧ gs.Goes (model X.prog X.w) A.in1.in1 (RG (gcx X scope x A.in1.in1 s4 H s4.heap.objs.size code fp) [S] a go σ ys.length W Qe)
        (YG (gcx X scope x A.in1.in1 s4 H s4.heap.objs.size code fp) [S] a go fp tn σ ys.length W (fun i y H3 => ys[i]? = some y ∧ W (i + 1) H3)) n (.send .none) (s.setGen g .running)) →
      codeAny (model X.prog X.w) A (.builtin "list.extend.loop" ⟨[.ref S, .ref a, res], []⟩) Rr s := by
  intro n
  induction n with
  | zero => exact fun s acc c hg hl eS hacc hn h => ext_turn m hh hd hz hSa hR 0 s acc c hg hl eS hacc hn h fun m' _ _ _ e => absurd e (by omega)
  | succ n ih =>
    intro s acc c hg hl eS hacc hn h
    refine ext_turn m hh hd hz hSa hR (n + 1) s acc c hg hl eS hacc hn h fun m' s2 acc2 c2 e hg2 hl2 eS2 hacc2 h2 => ?_
    obtain rfl : n = m' := by omega
    exact ih s2 acc2 c2 hg2 hl2 eS2 hacc2 (by omega) h2

/-- all items collected -/
theorem collect_gen (m : Made X pins σ scope x elt iter px gpos H J s4 s5 a it g go code fp tn) {A : Around} {E : Value → Shared → Prop} {Q : List Value → Shared → Prop} {k : Nat} (hr : Room (k + 1) A.in1.in1) (hfr : A.frames = some X.stack) (hz : ys.length ≤ sizeLine)
    (ok : GOk X.N X.env.scope scope x) (hN : X.N.Nodup) (hxN : x ∉ X.N) (hel : ∀ (A : Around), Room k (gcx X scope x A s4 H s4.heap.objs.size code fp).A → PE (gcx X scope x A s4 H s4.heap.objs.size code fp) elt te)
    (R : GTurn J te σ ys.length W (fun i y H3 => ys[i]? = some y ∧ W (i + 1) H3) Qe) (w : W 0 H)
    (hQ : ∀ s' us H', Inv X pins σ H' s' → Vals ys us → Qe H' → Q us s') :
    wpAny (model X.prog X.w) A (collect (.ref a)) Q E s5 := by
  have ha : a < s5.heap.objs.size := Nat.lt_of_lt_of_eq (Nat.lt_succ_self a) m.sz5.symm
  have hSa : s5.heap.objs.size ≠ a := Nat.ne_of_gt ha
  have hT : ∀ {h : Heap}, (∀ b o, s5.heap.get? b = some o → h.get? b = some o) → h.IsGen a g := fun q => m.gen.keeps q
  unfold collect
  refine wpAny_bind (wpAny_runValue (codeAny_builtin PySem.F.entry_proto_collect ?_))
  rw [Around.under_plainId PySem.F.plain_proto_collect _]
  show wpAny _ A.in1 (newList [] >>= fun l => again (.builtin "list.__iadd__" ⟨[l, .ref a], []⟩)) _ _ s5
  refine wpAny_bind (wpAny_newObj_type ?_ (by show 0 ≤ sizeLine; decide))
  refine wpAny_pure ⟨plainId_quiet PySem.F.plain_list_iadd _, codeAny_builtin PySem.F.entry_list_iadd ?_⟩
  rw [Around.under_plainId PySem.F.plain_list_iadd _]
  show wpAny _ A.in1 (Builtin.List.listExtendWith (.ref s5.heap.objs.size) (.ref a) (.ref s5.heap.objs.size)) _ _ _
  unfold Builtin.List.listExtendWith
  have k1 : ∀ b o, s5.heap.get? b = some o → (s5.heap.push { cls := .type "list", data := .seq ([] : List Value).toArray }).get? b = some o := fun b o e => Heap.get?_push_of_some _ e
  refine wpAny_bind (wpAny_typeOf (Heap.IsGen.typeIs (s := { s5 with heap := _ }) (hT k1)) ?_)
  have h1 : Builtin.List.listSameRef (.ref s5.heap.objs.size) (.ref a) = false := by simp [Builtin.List.listSameRef, hSa]
  have h2 : (Value.type "generator" == Value.type "list") = false := by decide
  have h3 : (Value.type "generator" == Value.type "tuple") = false := by decide
  simp only [h1, h2, h3, Bool.or_false, Bool.false_eq_true, if_false]
  refine wpAny_bind (wpAny_pyIter_gen (s := { s5 with heap := _ }) (hT k1) ?_)
  refine wpAny_bind (wpAny_holding ?_)
  unfold Builtin.List.listLengthHint
  refine wpAny_bind (wpAny_specialOf (Heap.IsGen.typeIs (s := { s5 with heap := _ }) (hT k1)) PySem.F.gen_no_len ?_)
  show wpAny _ A.in1 (specialOf (Value.ref a) (Str.ofString "__length_hint__") >>= _) _ _ _
  refine wpAny_bind (wpAny_specialOf (Heap.IsGen.typeIs (s := { s5 with heap := _ }) (hT k1)) PySem.F.gen_no_hint ?_)
  refine wpAny_pure ?_
  show wpAny _ A.in1 (rule "list.extend.makes-room" >>= fun _ => Builtin.List.listTouch (.ref s5.heap.objs.size) >>= fun _ =>
    again (.builtin "list.extend.loop" ⟨[.ref s5.heap.objs.size, .ref a, .ref s5.heap.objs.size], []⟩)) _ _ _
  refine wpAny_bind (wpAny_rule ?_)
  have hS1 : (s5.heap.push { cls := .type "list", data := .seq ([] : List Value).toArray }).get? s5.heap.objs.size = some { cls := .type "list", data := .seq ([] : List Value).toArray } := Heap.get?_push_size _ rfl
  refine wpAny_bind ?_
  show wpAny _ A.in1 (updateSeq s5.heap.objs.size (·.push .none) >>= fun _ => updateSeq s5.heap.objs.size (·.pop)) _ _ _
  refine wpAny_bind (wpAny_updateSeq hS1 rfl ?_)
  have hS2 := Heap.get?_update_self (Obj.mapSeq (·.push Value.none)) hS1 rfl
  refine wpAny_updateSeq hS2 rfl ?_
  have hS3 := Heap.get?_update_self (Obj.mapSeq (·.pop)) hS2 rfl
  have up : ∀ (h : Heap) (f : Obj → Obj), (∀ b o, s5.heap.get? b = some o → h.get? b = some o) → ∀ b o, s5.heap.get? b = some o → (h.update s5.heap.objs.size f).get? b = some o := fun h f q b o e =>
    (Heap.get?_update_other _ _ (Ne.symm (Nat.ne_of_lt (Heap.lt_size e)))).trans (q b o e)
  have k3 := up _ (Obj.mapSeq (·.pop)) (up _ (Obj.mapSeq (·.push Value.none)) k1)
  refine wpAny_pure ⟨plainId_quiet PySem.F.plain_extend_loop _, ext_loop (ys := ys) (W := W) (Qe := Qe) m (A := A) hr.hd (by have h : A.depth + 3 * (k + 1) + 5 < recursionLimit := hr.dp; omega) hz hSa (fun s' acc c H' I eS hv q => ?_) ys.length _ #[] _ (hT k3) (m.lim.keeps k3) hS3 (by rw [Nat.sub_self]; exact .nil) (Nat.le_refl _) ⟨_, m.fresh, rfl, ?_⟩⟩
  · show wpAny _ A (load s5.heap.objs.size >>= _) _ _ s'
    refine wpAny_bind (wpAny_load eS ?_)
    exact wpAny_pure (hQ s' _ H' I hv q)
  · refine m.seg ok hN hxN (A := A.in1.in1) hr.hd hfr (hel _ ?_) (S := [s5.heap.objs.size]) (fun b z => by rw [List.mem_singleton.mp z]; exact ha) R w _ rfl (allBare_setGen (s := { s5 with heap := _ }) m.bare rfl) k3 (fun b z => by rw [List.mem_singleton.mp z]; exact ⟨_, hS3, fun v q => by cases q⟩)
    exact hr.deeper _
end
end GX
end

section
set_option Elab.async false
set_option linter.all false
set_option maxRecDepth 100000
set_option maxHeartbeats 2000000
namespace GX
open PySem PySem.Spec PyProof.Rows L2 GenW
open AutoSeq1 (wpAny_loadPart')
section
variable {X : Cx}
theorem room4 {k : Nat} {A : Around} (r : Room (k + 2) A) : Room (k + 1) A.in1.in1.in1.in1 :=
  ⟨r.hd, by have h : A.depth + 3 * (k + 2) + 5 < recursionLimit := r.dp; show A.depth + 3 * (k + 1) + 5 < _; omega, by have h : A.units + 16 * (k + 2) + 200 < cLine := r.un; show A.units + 1 + 1 + 1 + 1 + 16 * (k + 1) + 200 < _; omega⟩
theorem room3 {k : Nat} {A : Around} (r : Room (k + 2) A) : Room (k + 1) A.in1.in1.in1 :=
  ⟨r.hd, by have h : A.depth + 3 * (k + 2) + 5 < recursionLimit := r.dp; show A.depth + 3 * (k + 1) + 5 < _; omega, by have h : A.units + 16 * (k + 2) + 200 < cLine := r.un; show A.units + 1 + 1 + 1 + 16 * (k + 1) + 200 < _; omega⟩
/-- what is handed out, in order, is ys; then Qe -/
def tSeqG (P : Addr) (wi : TI) (te : TE) (Qf : List V → Hp → Prop) : L2.St → Hp → Prop := fun σ H => wi σ H fun J H1 => GxR.TabG H1 P ∧ ∀ H2, GxR.Tabbed P H1 H2 → ∃ (ys : List V) (W : Nat → Hp → Prop), ys.length ≤ sizeLine ∧ W 0 H2 ∧
  GTurn J te σ ys.length W (fun i y H3 => ys[i]? = some y ∧ W (i + 1) H3) (Qf ys)
def tTupG (P : Addr) (wi : TI) (te : TE) : TE := fun σ H Q => tSeqG P wi te (fun ys H3 => ∀ p, H3 p = none → Q (.ref p) (upd H3 p (.tup ys))) σ H
/-- tuple(elt for x in iter) -/
theorem pe_tupG {c P : Addr} {elt iter : Expr} {x : Str} {px p pos gpos : Pos} {scope : Scope} {wi : TI} {te : TE} {k : Nat}
    (hr : Room (k + 2) X.A) (hg : Gl X "tuple") (hm : X.mg "tuple" = none) (TB : GxR.TabB X.base X.mg c P) (hcode : X.env.code = .ref c) (hN : X.N.Nodup) (hfr : X.A.frames = some X.stack) (ok : GOk X.N X.env.scope scope x) (hxN : x ∉ X.N) (hi : PI X (.Name x px) iter wi)
    (hel : ∀ (A : Around) (s : Shared) (H : Hp) (C : Addr) (code : Value) (fp : List Addr), Room k (gcx X scope x A s H C code fp).A → PE (gcx X scope x A s H C code fp) elt te)
    (hs : ∀ v, genFold iter X.env v = pure v := by intro _; rfl)
    (he : starEach [.GeneratorExp elt [⟨.Name x px, iter, [], 0⟩] scope gpos] X.env = (false, eval (.GeneratorExp elt [⟨.Name x px, iter, [], 0⟩] scope gpos) X.env) :: starEach [] X.env := by rfl) :
    PE X (.Call (.Name "tuple" p) [.GeneratorExp elt [⟨.Name x px, iter, [], 0⟩] scope gpos] [] pos) (tTupG P wi te) := by
  refine ⟨fun pins s σ H Q I h => ?_⟩
  refine wpAny_Call_Name_kw (ld_blt I hg hm (show bootBuiltins "tuple" = some (.type "tuple") by decide +kernel) ?_)
  refine PyProof.Rows.callWith_type1 ?_ he rfl
  rw [he]
  show wpAny _ _ (spliced ((false, eval (.GeneratorExp elt [⟨.Name x px, iter, [], 0⟩] scope gpos) X.env) :: backTo pos (starEach [] X.env))) _ _ s
  refine Calls.spliced_cons (make_gen hr.hd hr.depth TB hcode ok hi hs I h fun J H1 H2 s4 s5 a it g go code fp tn hR hT m => ?_)
  refine Calls.spliced_nil ?_
  obtain ⟨ys, W, hz, w0, R⟩ := hR H2 hT
  refine callType_codes (Q₁ := fun obj s₁ => s₁.TypeIs obj "tuple" ∧ EP X pins σ Q obj s₁) PySem.F.called_tuple (PySem.F.typeCall_tuple_1 _) PySem.F.entry_object_init ?_ fun obj s₁ h₁ =>
    ⟨h₁.1, PySem.F.args_object_init_2 obj _, object_init_meets PySem.F.called_tuple.init.lookup PySem.F.called_tuple.made (by decide) X.prog X.w X.A.in1 _ s₁ ⟨h₁.1, rfl, h₁.2⟩⟩
  refine codeAny_of_tree ?_
  show wpAny _ X.A.in1.in1 (do checkBuiltinCall "tuple.__new__" ⟨[.type "tuple", .ref a], []⟩; again (.builtin "tuple.__new__" ⟨[.type "tuple", .ref a], []⟩)) _ _ s5
  refine wpAny_bind (wpAny_of_eq (PySem.F.newCall_tuple_1 _) (wpAny_pure ⟨plainId_quiet PySem.F.plain_tuple_new _, codeAny_builtin PySem.F.entry_tuple_new ?_⟩))
  rw [Around.under_plainId PySem.F.plain_tuple_new _]
  have hsub := sub_tuple_self
  have hinit := init_tuple_lookup
  have hmh := madeHere_tuple
  have hTI : s5.TypeIs (.ref a) "generator" := Heap.IsGen.typeIs (s := s5) m.gen
  wp_walk using wpAny_typeOf hTI, collect_gen (ys := ys) (W := W) (k := k) m (A := X.A.in1.in1) (room4 hr) hfr hz ok hN hxN (fun A hA => hel A s4 H2 s4.heap.objs.size code fp hA) R w0
  intro s' us H' I' hv q
  show wpAny _ _ (Builtin.Tuple.tupleExact us.toArray >>= fun v => ret v) _ _ _
  unfold Builtin.Tuple.tupleExact
  refine wpAny_bind (wpAny_newObj_type ?_ (by have := hv.length; first | omega | (show us.toArray.size ≤ sizeLine; rw [List.size_toArray]; omega)))
  refine wpAny_pure ?_
  refine ⟨⟨_, Heap.get?_push_size _ rfl, rfl⟩, .ref s'.heap.objs.size, upd H' s'.heap.objs.size (.tup ys), I'.laid (t' := s'.toks) (fun b u e => Heap.get?_push_of_some _ e) (Nat.le_refl _) ?_, rfl, q _ (I'.hok.fresh (Nat.le_refl _))⟩
  exact ⟨hz, us, hv, ⟨_, Heap.get?_push_size _ rfl, rfl, _, rfl⟩⟩
/-- sep.join(elt for x in iter) -/
def tJoinG (P : Addr) (to : TE) (wi : TI) (te : TE) : TE := fun σ H Q => to σ H fun v H1 => ∃ sep : Str, v = .str sep ∧ tSeqG P wi te (fun ys H3 => ∃ ws : List Str, ys = ws.map V.str ∧ JoinOk sep ws = true ∧ Q (.str (Txt.join sep ws)) H3) σ H1
theorem strs_of : ∀ {ws : List Str} {us : List Value}, Vals (ws.map V.str) us → ∃ l : List (Str × Tok), strValues l = us ∧ l.map (·.1) = ws
  | [], _, r => by
    cases r
    exact ⟨[], rfl, rfl⟩
  | w :: ws, us, r => by
    cases r with
    | cons r1 r2 =>
      obtain ⟨t, rfl⟩ := r1
      obtain ⟨l, e1, e2⟩ := strs_of r2
      refine ⟨(w, t) :: l, ?_, ?_⟩
      · rw [← e1]; rfl
      · rw [← e2]; rfl
theorem pe_joinG {c P : Addr} {o elt iter : Expr} {x : Str} {px apos cpos gpos : Pos} {scope : Scope} {to : TE} {wi : TI} {te : TE} {k : Nat}
    (hr : Room (k + 2) X.A) (TB : GxR.TabB X.base X.mg c P) (hcode : X.env.code = .ref c) (hN : X.N.Nodup) (hfr : X.A.frames = some X.stack) (ok : GOk X.N X.env.scope scope x) (hxN : x ∉ X.N) (ho : PE X o to) (hi : PI X (.Name x px) iter wi)
    (hel : ∀ (A : Around) (s : Shared) (H : Hp) (C : Addr) (code : Value) (fp : List Addr), Room k (gcx X scope x A s H C code fp).A → PE (gcx X scope x A s H C code fp) elt te)
    (hs : ∀ v, genFold iter X.env v = pure v := by intro _; rfl) (hbase : attributeBase o "join" X.env (eval o X.env) = eval o X.env := by rfl)
    (hfew : ((backTo cpos (starEach [.GeneratorExp elt [⟨.Name x px, iter, [], 0⟩] scope gpos] X.env)).all (fun x => !x.1) && (backToKw cpos (keywordEach [] X.env)).all (fun x => x.1.isSome)
      && decide (([.GeneratorExp elt [⟨.Name x px, iter, [], 0⟩] scope gpos] : List Expr).length + ([] : List Keyword).length + (if ([] : List Keyword).isEmpty then 0 else 1) < 30)) = true := by rfl)
    (hline : (apos.endLine == cpos.line) = true := by rfl)
    (he : starEach [.GeneratorExp elt [⟨.Name x px, iter, [], 0⟩] scope gpos] X.env = (false, eval (.GeneratorExp elt [⟨.Name x px, iter, [], 0⟩] scope gpos) X.env) :: starEach [] X.env := by rfl)
    (hplain : (backTo cpos (starEach [] X.env)).any (·.1) = false := by rfl) :
    PE X (.Call (.Attribute o "join" apos) [.GeneratorExp elt [⟨.Name x px, iter, [], 0⟩] scope gpos] [] cpos) (tJoinG P to wi te) := by
  refine ⟨fun pins s σ H Q I h => ?_⟩
  refine wpAny_Call_method_late hbase hfew hline rfl (thn (ho.run pins s σ H _ I h) fun v s1 ⟨x', H1, I1, r1, sep, ex, q1⟩ => ?_)
  subst ex
  obtain ⟨tk, rfl⟩ := (show ∃ t, v = Value.str sep t from r1)
  refine ⟨"str", _, PySem.F.plainAttrs_str, PySem.F.slot_str_join, PySem.F.type_str_join, typeIs_str _ _ _, (fun _ e => nomatch e), ?_⟩
  rw [he]
  refine Calls.callWith_builtin (by show (false || (backTo cpos (starEach [] X.env)).any (·.1)) = false; rw [hplain] <;> rfl) (Calls.evalArgs_plain ?_)
  show wpAny _ _ (spliced ((false, eval (.GeneratorExp elt [⟨.Name x px, iter, [], 0⟩] scope gpos) X.env) :: backTo cpos (starEach [] X.env))) _ _ s1
  refine Calls.spliced_cons (make_gen hr.hd hr.depth TB hcode ok hi hs I1 q1 fun J H1 H2 s4 s5 a it g go code fp tn hR hT m => ?_)
  refine Calls.spliced_nil ?_
  obtain ⟨ys, W, hz, w0, R⟩ := hR H2 hT
  refine wpAny_call (codeAny_call_builtin PySem.F.slot_str_join.plain PySem.F.entry_str_join (PySem.F.slot_str_join.check _ _ _ _ _ _ _ _ (typeIs_str _ _ _) (PySem.F.args_str_join_2 _ _) ?_))
  show wpAny _ X.A.in1 (Builtin.«str.join» ⟨[.str sep tk, .ref a], []⟩) _ _ s5
  rw [join_tree_other]
  refine wpAny_bind (wpAny_typeOf (Heap.IsGen.typeIs (s := s5) m.gen) ?_)
  show wpAny _ X.A.in1 ((pyIter (.ref a)).tryCatch _ >>= fun it => collect it >>= fun items => joinTail sep items) _ _ s5
  refine wpAny_bind (wpAny_tryCatch (wpAny_pyIter_gen m.gen ?_))
  refine wpAny_bind (collect_gen (ys := ys) (W := W) (k := k) m (A := X.A.in1) (room3 hr) hfr hz ok hN hxN (fun A hA => hel A s4 H2 s4.heap.objs.size code fp hA) R w0 fun s' us H' I' hv q => ?_)
  obtain ⟨ws, ey, jok, q⟩ := q
  subst ey
  obtain ⟨l, hl, hlw⟩ := strs_of hv
  rw [← hl]
  have hok : JoinOk sep (l.map (·.1)) = true := by rw [hlw]; exact jok
  unfold JoinOk at hok
  rw [Bool.not_eq_true'] at hok
  have g0 : Gives (joinTail sep (strValues l)) (joinMade sep l) := by
    have g0 := gives_joinTail sep l hok
    cases l with
    | nil => exact g0
    | cons p r => cases r with
      | nil => exact g0
      | cons q r' => exact g0
  refine g0 X.prog X.w X.A (wants (EP X pins σ Q) X.xe) s' (post_join l ⟨joinFit_length hok, fun t' k' => ?_⟩)
  rw [hlw]
  exact ⟨.str _, H', I'.tok k', ⟨t', rfl⟩, q⟩

/-! ### the turns one uses -/
theorem turn_tup {K : PySem.W.Frag} {a : Addr} {xs : List V} {te : TE} {σ : L2.St} {Yv : Nat → V → Hp → Prop} {Qe : Hp → Prop} {N : Nat} (Pv : Nat → Hp → Prop) (hN : N = xs.length) (hl : ∀ i H, i ≤ xs.length → Pv i H → SqT K H a xs)
    (hs : ∀ i x H, xs[i]? = some x → Pv i H → te (σ ++ [some x]) H fun y H3 => Yv i y H3) (hd : ∀ H, Pv xs.length H → Qe H) : GTurn (Itt K a) te σ N (fun i H => i ≤ xs.length ∧ Pv i H) Yv Qe := by
  subst hN
  rintro i H ⟨hi, p⟩
  have q := hl i H hi p
  by_cases hlt : i < xs.length
  · refine .inr ⟨hlt, ⟨xs, xs[i], q, by simp [hlt]⟩, fun x H' y => ?_⟩
    obtain ⟨e, y⟩ := y
    subst e
    exact hs i x _ (y xs q) p
  · have e : i = xs.length := by omega
    subst e
    exact .inl ⟨rfl, ⟨xs, q, Nat.le_refl _⟩, hd H p⟩
theorem turn_lst {K : PySem.W.Frag} {a : Addr} {xs : List V} {te : TE} {σ : L2.St} {Yv : Nat → V → Hp → Prop} {Qe : Hp → Prop} {N : Nat} (Pv : Nat → Hp → Prop) (hN : N = xs.length) (hl : ∀ i H, i ≤ xs.length → Pv i H → SqL K H a xs)
    (hs : ∀ i x H, xs[i]? = some x → Pv i H → te (σ ++ [some x]) H fun y H3 => Yv i y H3) (hd : ∀ H, Pv xs.length H → Qe H) : GTurn (Itl K a) te σ N (fun i H => i ≤ xs.length ∧ Pv i H) Yv Qe := by
  subst hN
  rintro i H ⟨hi, p⟩
  have q := hl i H hi p
  by_cases hlt : i < xs.length
  · refine .inr ⟨hlt, ⟨xs, xs[i], q, by simp [hlt]⟩, fun x H' y => ?_⟩
    obtain ⟨e, y⟩ := y
    subst e
    exact hs i x _ (y xs q) p
  · have e : i = xs.length := by omega
    subst e
    exact .inl ⟨rfl, ⟨xs, q, Nat.le_refl _⟩, hd H p⟩
theorem turn_rng {lo : Int} {n N : Nat} {te : TE} {σ : L2.St} {Yv : Nat → V → Hp → Prop} {Qe : Hp → Prop} (Pv : Nat → Hp → Prop) (hN : N = n)
    (hs : ∀ i H, i < n → Pv i H → te (σ ++ [some (.int (lo + i))]) H fun y H3 => Yv i y H3) (hd : ∀ H, Pv n H → Qe H) : GTurn (Itr lo n) te σ N (fun i H => i ≤ n ∧ Pv i H) Yv Qe := by
  subst hN
  rintro i H ⟨hi, p⟩
  by_cases hlt : i < N
  · refine .inr ⟨hlt, hlt, fun x H' y => ?_⟩
    obtain ⟨e, y⟩ := y
    subst e y
    exact hs i _ hlt p
  · have e : i = N := by omega
    subst e
    exact .inl ⟨rfl, Nat.le_refl _, hd H p⟩
end
end GX
end

section
set_option linter.all false
set_option maxRecDepth 100000
/-! The mathematics of bodies: cells, bodies, what is inside; plain Lean. -/
namespace Ly
abbrev C3 := Int × Int × Int
def lt3 (a b : C3) : Prop := a.1 < b.1 ∨ (a.1 = b.1 ∧ (a.2.1 < b.2.1 ∨ (a.2.1 = b.2.1 ∧ a.2.2 < b.2.2)))
instance (a b : C3) : Decidable (lt3 a b) := by unfold lt3; infer_instance
theorem lt3_irrefl (a : C3) : ¬ lt3 a a := by unfold lt3; omega
theorem lt3_trans {a b c : C3} (h : lt3 a b) (k : lt3 b c) : lt3 a c := by unfold lt3 at *; omega
theorem lt3_asymm {a b : C3} (h : lt3 a b) : ¬ lt3 b a := by unfold lt3 at *; omega
theorem c3_ext {a b : C3} (h1 : a.1 = b.1) (h2 : a.2.1 = b.2.1) (h3 : a.2.2 = b.2.2) : a = b := by
  obtain ⟨x, y, z⟩ := a
  obtain ⟨x', y', z'⟩ := b
  simp only at h1 h2 h3
  rw [h1, h2, h3]
theorem lt3_tri {a b : C3} (h : ¬ lt3 a b) (n : a ≠ b) : lt3 b a := by
  have q : ¬ (a.1 = b.1 ∧ a.2.1 = b.2.1 ∧ a.2.2 = b.2.2) := fun ⟨h1, h2, h3⟩ => n (c3_ext h1 h2 h3)
  unfold lt3 at *
  omega
def Asc (l : List C3) : Prop := l.Pairwise lt3
theorem asc_cons {a : C3} {l : List C3} : Asc (a :: l) ↔ (∀ b ∈ l, lt3 a b) ∧ Asc l := List.pairwise_cons
theorem asc_ext : ∀ {l m : List C3}, Asc l → Asc m → (∀ c, c ∈ l ↔ c ∈ m) → l = m
  | [], [], _, _, _ => rfl
  | [], b :: m, _, _, h => absurd ((h b).mpr List.mem_cons_self) (by simp)
  | a :: l, [], _, _, h => absurd ((h a).mp List.mem_cons_self) (by simp)
  | a :: l, b :: m, hl, hm, h => by
    obtain ⟨h1, h2⟩ := asc_cons.mp hl
    obtain ⟨k1, k2⟩ := asc_cons.mp hm
    have e : a = b := by
      rcases List.mem_cons.mp ((h a).mp List.mem_cons_self) with e | e
      · exact e
      · rcases List.mem_cons.mp ((h b).mpr List.mem_cons_self) with e' | e'
        · exact e'.symm
        · exact absurd (h1 b e') (lt3_asymm (k1 a e))
    subst e
    rw [asc_ext h2 k2 fun c => ⟨fun hc => ?_, fun hc => ?_⟩]
    · rcases List.mem_cons.mp ((h c).mp (List.mem_cons_of_mem _ hc)) with e | e
      · subst e; exact absurd (h1 _ hc) (lt3_irrefl _)
      · exact e
    · rcases List.mem_cons.mp ((h c).mpr (List.mem_cons_of_mem _ hc)) with e | e
      · subst e; exact absurd (k1 _ hc) (lt3_irrefl _)
      · exact e
theorem asc_nodup {l : List C3} (h : Asc l) : l.Nodup := List.Pairwise.imp (fun {a b} q e => by subst e; exact lt3_irrefl _ q) h
/-- in order and each once: rising -/
theorem asc_of {l : List C3} (h : l.Pairwise fun a b => ¬ lt3 b a) (n : l.Nodup) : Asc l := by
  induction l with
  | nil => exact List.Pairwise.nil
  | cons a l ih =>
    obtain ⟨h1, h2⟩ := List.pairwise_cons.mp h
    obtain ⟨n1, n2⟩ := List.nodup_cons.mp n
    refine asc_cons.mpr ⟨fun b hb => ?_, ih h2 n2⟩
    exact lt3_tri (h1 b hb) fun e => n1 (e ▸ hb)
theorem asc_filter {l : List C3} {p : C3 → Bool} (h : Asc l) : Asc (l.filter p) := List.Pairwise.filter p h
theorem asc_map {l : List C3} {f : C3 → C3} (h : Asc l) (hf : ∀ a b, lt3 a b → lt3 (f a) (f b)) : Asc (l.map f) := List.Pairwise.map f hf h

/-- in the room -/
def InR (c : C3) : Prop := (0 ≤ c.1 ∧ c.1 ≤ 3) ∧ (0 ≤ c.2.1 ∧ c.2.1 ≤ 3) ∧ (0 ≤ c.2.2 ∧ c.2.2 ≤ 3)
instance (c : C3) : Decidable (InR c) := by unfold InR; infer_instance
def roomAt (k : Nat) : C3 := (((k : Int) / 16, (k : Int) / 4 % 4, (k : Int) % 4) : C3)
def room : List C3 := (List.range 64).map roomAt
theorem room_asc : Asc room := by
  have h : (List.range 64).Pairwise (· < ·) := List.pairwise_lt_range
  refine List.Pairwise.map roomAt ?_ (List.Pairwise.and_mem.mp h)
  intro a b ⟨ha, hb, hab⟩
  have ha := List.mem_range.mp ha
  have hb := List.mem_range.mp hb
  unfold lt3 roomAt
  simp only
  omega
theorem mem_room {c : C3} : c ∈ room ↔ InR c := by
  constructor
  · intro h
    obtain ⟨k, hk, e⟩ := List.mem_map.mp h
    have hk := List.mem_range.mp hk
    subst e
    unfold InR roomAt
    simp only
    omega
  · intro h
    obtain ⟨x, y, z⟩ := c
    unfold InR at h
    simp only at h
    refine List.mem_map.mpr ⟨(16 * x + 4 * y + z).toNat, List.mem_range.mpr (by omega), ?_⟩
    unfold roomAt
    refine c3_ext ?_ ?_ ?_ <;> simp only <;> omega

inductive Bd where
  | block (x y z a b c : Int)
  | cells (cs : List C3)
  | wth (p q : Bd)
  | common (p q : Bd)
  | less (p q : Bd)
  | moved (d : C3) (p : Bd)
  | turnX (p : Bd)
  | turnY (p : Bd)
  | turnZ (p : Bd)
/-- how many bodies -/
def nb : Bd → Nat
  | .block .. => 1
  | .cells _ => 1
  | .wth p q => 1 + nb p + nb q
  | .common p q => 1 + nb p + nb q
  | .less p q => 1 + nb p + nb q
  | .moved _ p => 1 + nb p
  | .turnX p => 1 + nb p
  | .turnY p => 1 + nb p
  | .turnZ p => 1 + nb p
/-- how deep within one another -/
def dp : Bd → Nat
  | .block .. => 1
  | .cells _ => 1
  | .wth p q => 1 + max (dp p) (dp q)
  | .common p q => 1 + max (dp p) (dp q)
  | .less p q => 1 + max (dp p) (dp q)
  | .moved _ p => 1 + dp p
  | .turnX p => 1 + dp p
  | .turnY p => 1 + dp p
  | .turnZ p => 1 + dp p
theorem nb_pos : ∀ b : Bd, 1 ≤ nb b
  | .block .. => Nat.le_refl _
  | .cells _ => Nat.le_refl _
  | .wth p q => by unfold nb; omega
  | .common p q => by unfold nb; omega
  | .less p q => by unfold nb; omega
  | .moved _ p => by unfold nb; omega
  | .turnX p => by unfold nb; omega
  | .turnY p => by unfold nb; omega
  | .turnZ p => by unfold nb; omega
theorem dp_pos : ∀ b : Bd, 1 ≤ dp b
  | .block .. => Nat.le_refl _
  | .cells _ => Nat.le_refl _
  | .wth p q => by unfold dp; omega
  | .common p q => by unfold dp; omega
  | .less p q => by unfold dp; omega
  | .moved _ p => by unfold dp; omega
  | .turnX p => by unfold dp; omega
  | .turnY p => by unfold dp; omega
  | .turnZ p => by unfold dp; omega
theorem dp_le_nb : ∀ b : Bd, dp b ≤ nb b
  | .block .. => Nat.le_refl _
  | .cells _ => Nat.le_refl _
  | .wth p q => by have h1 := dp_le_nb p; have h2 := dp_le_nb q; unfold nb dp; omega
  | .common p q => by have h1 := dp_le_nb p; have h2 := dp_le_nb q; unfold nb dp; omega
  | .less p q => by have h1 := dp_le_nb p; have h2 := dp_le_nb q; unfold nb dp; omega
  | .moved _ p => by have h1 := dp_le_nb p; unfold nb dp; omega
  | .turnX p => by have h1 := dp_le_nb p; unfold nb dp; omega
  | .turnY p => by have h1 := dp_le_nb p; unfold nb dp; omega
  | .turnZ p => by have h1 := dp_le_nb p; unfold nb dp; omega

def add3 (d c : C3) : C3 := (c.1 + d.1, c.2.1 + d.2.1, c.2.2 + d.2.2)
def sub3 (d c : C3) : C3 := (c.1 - d.1, c.2.1 - d.2.1, c.2.2 - d.2.2)
def tX (c : C3) : C3 := (c.1, 3 - c.2.2, c.2.1)
def tY (c : C3) : C3 := (c.2.2, c.2.1, 3 - c.1)
def tZ (c : C3) : C3 := (3 - c.2.1, c.1, c.2.2)
def uX (c : C3) : C3 := (c.1, c.2.2, 3 - c.2.1)
def uY (c : C3) : C3 := (3 - c.2.2, c.2.1, c.1)
def uZ (c : C3) : C3 := (c.2.1, 3 - c.1, c.2.2)
/-- whether a cell is a body's -/
def inside : Bd → C3 → Bool
  | .block x y z a b c, k => decide ((0 ≤ k.1 - x ∧ k.1 - x < a) ∧ (0 ≤ k.2.1 - y ∧ k.2.1 - y < b) ∧ (0 ≤ k.2.2 - z ∧ k.2.2 - z < c))
  | .cells cs, k => decide (k ∈ cs)
  | .wth p q, k => inside p k || inside q k
  | .common p q, k => inside p k && inside q k
  | .less p q, k => inside p k && !inside q k
  | .moved d p, k => inside p (sub3 d k)
  | .turnX p, k => inside p (uX k)
  | .turnY p, k => inside p (uY k)
  | .turnZ p, k => inside p (uZ k)
def all (b : Bd) : List C3 := room.filter (inside b)
theorem all_asc (b : Bd) : Asc (all b) := asc_filter room_asc
theorem mem_all {b : Bd} {c : C3} : c ∈ all b ↔ InR c ∧ inside b c = true := by
  unfold all
  rw [List.mem_filter, mem_room]
theorem all_len (b : Bd) : (all b).length ≤ 64 := by
  have h := List.length_filter_le (inside b) room
  have e : room.length = 64 := by unfold room; simp
  unfold all
  omega
def Far (d : C3) : Prop := (-3 ≤ d.1 ∧ d.1 ≤ 3) ∧ (-3 ≤ d.2.1 ∧ d.2.1 ≤ 3) ∧ (-3 ≤ d.2.2 ∧ d.2.2 ≤ 3)
/-- a body of the document that stays in the room -/
def Good : Bd → Prop
  | .block x y z a b c => InR (x, y, z) ∧ (1 ≤ a ∧ x + a ≤ 4) ∧ (1 ≤ b ∧ y + b ≤ 4) ∧ (1 ≤ c ∧ z + c ≤ 4)
  | .cells cs => Asc cs ∧ ∀ c ∈ cs, InR c
  | .wth p q => Good p ∧ Good q
  | .common p q => Good p ∧ Good q
  | .less p q => Good p ∧ Good q
  | .moved d p => Far d ∧ Good p ∧ ∀ c, inside p c = true → InR (add3 d c)
  | .turnX p => Good p
  | .turnY p => Good p
  | .turnZ p => Good p
theorem add_sub (d c : C3) : add3 d (sub3 d c) = c := by
  unfold add3 sub3
  refine c3_ext ?_ ?_ ?_ <;> simp only <;> omega
theorem sub_add (d c : C3) : sub3 d (add3 d c) = c := by
  unfold add3 sub3
  refine c3_ext ?_ ?_ ?_ <;> simp only <;> omega
theorem tuX (c : C3) : tX (uX c) = c := by unfold tX uX; refine c3_ext ?_ ?_ ?_ <;> simp only <;> omega
theorem utX (c : C3) : uX (tX c) = c := by unfold tX uX; refine c3_ext ?_ ?_ ?_ <;> simp only <;> omega
theorem tuY (c : C3) : tY (uY c) = c := by unfold tY uY; refine c3_ext ?_ ?_ ?_ <;> simp only <;> omega
theorem utY (c : C3) : uY (tY c) = c := by unfold tY uY; refine c3_ext ?_ ?_ ?_ <;> simp only <;> omega
theorem tuZ (c : C3) : tZ (uZ c) = c := by unfold tZ uZ; refine c3_ext ?_ ?_ ?_ <;> simp only <;> omega
theorem utZ (c : C3) : uZ (tZ c) = c := by unfold tZ uZ; refine c3_ext ?_ ?_ ?_ <;> simp only <;> omega
theorem good_in : ∀ {b : Bd} {k : C3}, Good b → inside b k = true → InR k
  | .block x y z a b c, k, g, h => by
    unfold inside at h
    rw [decide_eq_true_eq] at h
    obtain ⟨g1, g2, g3, g4⟩ := g
    unfold InR at g1 ⊢
    simp only at g1
    omega
  | .cells cs, k, g, h => by
    unfold inside at h
    rw [decide_eq_true_eq] at h
    exact g.2 k h
  | .wth p q, k, g, h => by
    unfold inside at h
    rw [Bool.or_eq_true] at h
    rcases h with h | h
    · exact good_in g.1 h
    · exact good_in g.2 h
  | .common p q, k, g, h => by
    unfold inside at h
    rw [Bool.and_eq_true] at h
    exact good_in g.1 h.1
  | .less p q, k, g, h => by
    unfold inside at h
    rw [Bool.and_eq_true] at h
    exact good_in g.1 h.1
  | .moved d p, k, g, h => by
    have q := g.2.2 (sub3 d k) h
    rw [add_sub] at q
    exact q
  | .turnX p, k, g, h => by
    have q : InR (uX k) := good_in (b := p) g h
    unfold InR uX at *
    simp only at q
    omega
  | .turnY p, k, g, h => by
    have q : InR (uY k) := good_in (b := p) g h
    unfold InR uY at *
    simp only at q
    omega
  | .turnZ p, k, g, h => by
    have q : InR (uZ k) := good_in (b := p) g h
    unfold InR uZ at *
    simp only at q
    omega
theorem mem_good {b : Bd} (g : Good b) {c : C3} : c ∈ all b ↔ inside b c = true := by
  rw [mem_all]
  exact ⟨fun h => h.2, fun h => ⟨good_in g h, h⟩⟩
/-- what tells the cells of a body: rising, and just those inside -/
theorem all_of {b : Bd} (g : Good b) {l : List C3} (h : Asc l) (m : ∀ c, c ∈ l ↔ inside b c = true) : l = all b :=
  asc_ext h (all_asc b) fun c => (m c).trans (mem_good g).symm
theorem all_cells {cs : List C3} (g : Good (.cells cs)) : cs = all (.cells cs) := all_of g g.1 fun c => by
  unfold inside
  rw [decide_eq_true_eq]
theorem all_moved {d : C3} {p : Bd} (g : Good (.moved d p)) : (all p).map (add3 d) = all (.moved d p) := by
  refine all_of g (asc_map (all_asc p) fun a b h => ?_) fun c => ?_
  · unfold lt3 add3 at *
    simp only
    omega
  · rw [List.mem_map]
    constructor
    · rintro ⟨k, hk, rfl⟩
      show inside p (sub3 d (add3 d k)) = true
      rw [sub_add]
      exact (mem_good g.2.1).mp hk
    · intro h
      exact ⟨sub3 d c, (mem_good g.2.1).mpr h, add_sub d c⟩
theorem all_common {p q : Bd} (g : Good (.common p q)) : (all p).filter (fun c => decide (c ∈ all q)) = all (.common p q) := by
  refine all_of g (asc_filter (all_asc p)) fun c => ?_
  rw [List.mem_filter, decide_eq_true_eq, mem_good g.1, mem_good g.2]
  show _ ↔ (inside p c && inside q c) = true
  rw [Bool.and_eq_true]
theorem all_less {p q : Bd} (g : Good (.less p q)) : (all p).filter (fun c => !decide (c ∈ all q)) = all (.less p q) := by
  refine all_of g (asc_filter (all_asc p)) fun c => ?_
  rw [List.mem_filter, Bool.not_eq_true', decide_eq_false_iff_not, mem_good g.1, mem_good g.2]
  show _ ↔ (inside p c && !inside q c) = true
  rw [Bool.and_eq_true, Bool.not_eq_true', Bool.not_eq_true]
/-- of any arrangement in order, each once -/
theorem all_wth {p q : Bd} (g : Good (.wth p q)) {l : List C3} (h : l.Pairwise fun a b => ¬ lt3 b a) (n : l.Nodup) (m : ∀ c, c ∈ l ↔ c ∈ all p ++ all q) : l = all (.wth p q) := by
  refine all_of g (asc_of h n) fun c => ?_
  rw [m, List.mem_append, mem_good g.1, mem_good g.2]
  show _ ↔ (inside p c || inside q c) = true
  rw [Bool.or_eq_true]
theorem nodup_map {l : List C3} {f u : C3 → C3} (hu : ∀ c, u (f c) = c) (n : l.Nodup) : (l.map f).Nodup := by
  refine List.Pairwise.map f (fun a b h e => h ?_) n
  rw [← hu a, ← hu b, e]
theorem all_turnX {p : Bd} (g : Good (.turnX p)) {l : List C3} (h : l.Pairwise fun a b => ¬ lt3 b a) (m : l.Perm ((all p).map tX)) : l = all (.turnX p) := by
  have gp : Good p := g
  refine all_of g (asc_of h (m.nodup_iff.mpr (nodup_map utX (asc_nodup (all_asc p))))) fun c => ?_
  rw [m.mem_iff, List.mem_map]
  exact ⟨fun ⟨k, hk, e⟩ => by subst e; show inside p (uX (tX k)) = true; rw [utX]; exact (mem_good gp).mp hk, fun hc => ⟨uX c, (mem_good gp).mpr hc, tuX c⟩⟩
theorem all_turnY {p : Bd} (g : Good (.turnY p)) {l : List C3} (h : l.Pairwise fun a b => ¬ lt3 b a) (m : l.Perm ((all p).map tY)) : l = all (.turnY p) := by
  have gp : Good p := g
  refine all_of g (asc_of h (m.nodup_iff.mpr (nodup_map utY (asc_nodup (all_asc p))))) fun c => ?_
  rw [m.mem_iff, List.mem_map]
  exact ⟨fun ⟨k, hk, e⟩ => by subst e; show inside p (uY (tY k)) = true; rw [utY]; exact (mem_good gp).mp hk, fun hc => ⟨uY c, (mem_good gp).mpr hc, tuY c⟩⟩
theorem all_turnZ {p : Bd} (g : Good (.turnZ p)) {l : List C3} (h : l.Pairwise fun a b => ¬ lt3 b a) (m : l.Perm ((all p).map tZ)) : l = all (.turnZ p) := by
  have gp : Good p := g
  refine all_of g (asc_of h (m.nodup_iff.mpr (nodup_map utZ (asc_nodup (all_asc p))))) fun c => ?_
  rw [m.mem_iff, List.mem_map]
  exact ⟨fun ⟨k, hk, e⟩ => by subst e; show inside p (uZ (tZ k)) = true; rw [utZ]; exact (mem_good gp).mp hk, fun hc => ⟨uZ c, (mem_good gp).mpr hc, tuZ c⟩⟩
/-- a block's cells, as three loops tell them -/
def blk1 (x y z : Int) (c : Nat) : List C3 := (List.range c).map fun (k : Nat) => ((x, y, z + (k : Int)) : C3)
def blk2 (x y z : Int) (b c : Nat) : List C3 := (List.range b).flatMap fun (j : Nat) => blk1 x (y + (j : Int)) z c
def blk3 (x y z : Int) (a b c : Nat) : List C3 := (List.range a).flatMap fun (i : Nat) => blk2 (x + (i : Int)) y z b c
theorem mem_blk3 {x y z : Int} {a b c : Nat} {k : C3} : k ∈ blk3 x y z a b c ↔ inside (.block x y z a b c) k = true := by
  unfold inside
  rw [decide_eq_true_eq]
  constructor
  · intro h
    unfold blk3 blk2 blk1 at h
    simp only [List.mem_flatMap, List.mem_map, List.mem_range] at h
    obtain ⟨i, hi, j, hj, l, hl, e⟩ := h
    subst e
    simp only
    omega
  · intro h
    unfold blk3 blk2 blk1
    simp only [List.mem_flatMap, List.mem_map, List.mem_range]
    refine ⟨(k.1 - x).toNat, by omega, (k.2.1 - y).toNat, by omega, (k.2.2 - z).toNat, by omega, ?_⟩
    refine c3_ext ?_ ?_ ?_ <;> simp only <;> omega
theorem asc_append {l m : List C3} (h1 : Asc l) (h2 : Asc m) (h : ∀ a ∈ l, ∀ b ∈ m, lt3 a b) : Asc (l ++ m) := List.pairwise_append.mpr ⟨h1, h2, h⟩
theorem asc_blk1 (x y z : Int) (c : Nat) : Asc (blk1 x y z c) := by
  refine List.Pairwise.map (fun (k : Nat) => ((x, y, z + (k : Int)) : C3)) (fun i j h => ?_) (List.pairwise_lt_range (n := c))
  exact .inr ⟨rfl, .inr ⟨rfl, by show z + (i : Int) < z + (j : Int); omega⟩⟩
theorem asc_flat {n : Nat} {f : Nat → List C3} (h1 : ∀ i, i < n → Asc (f i)) (h2 : ∀ i j, i < j → j < n → ∀ a ∈ f i, ∀ b ∈ f j, lt3 a b) : Asc ((List.range n).flatMap f) := by
  induction n with
  | zero => exact List.Pairwise.nil
  | succ n ih =>
    rw [List.range_succ, List.flatMap_append]
    refine asc_append (ih (fun i hi => h1 i (by omega)) fun i j hij hj => h2 i j hij (by omega)) ?_ fun a ha b hb => ?_
    · rw [List.flatMap_singleton]
      exact h1 n (by omega)
    · rw [List.flatMap_singleton] at hb
      obtain ⟨i, hi, ha⟩ := List.mem_flatMap.mp ha
      exact h2 i n (List.mem_range.mp hi) (by omega) a ha b hb
theorem mem_blk1 {x y z : Int} {c : Nat} {k : C3} (h : k ∈ blk1 x y z c) : k.1 = x ∧ k.2.1 = y := by
  obtain ⟨l, _, e⟩ := List.mem_map.mp h
  subst e
  exact ⟨rfl, rfl⟩
theorem mem_blk2 {x y z : Int} {b c : Nat} {k : C3} (h : k ∈ blk2 x y z b c) : k.1 = x := by
  obtain ⟨l, _, e⟩ := List.mem_flatMap.mp h
  exact (mem_blk1 e).1
theorem asc_blk2 (x y z : Int) (b c : Nat) : Asc (blk2 x y z b c) := by
  refine asc_flat (fun i _ => asc_blk1 ..) fun i j hij _ k hk l hl => ?_
  have h1 : k.1 = x ∧ k.2.1 = y + (i : Int) := mem_blk1 hk
  have h2 : l.1 = x ∧ l.2.1 = y + (j : Int) := mem_blk1 hl
  show k.1 < l.1 ∨ (k.1 = l.1 ∧ (k.2.1 < l.2.1 ∨ (k.2.1 = l.2.1 ∧ k.2.2 < l.2.2)))
  omega
theorem asc_blk3 (x y z : Int) (a b c : Nat) : Asc (blk3 x y z a b c) := by
  refine asc_flat (fun i _ => asc_blk2 ..) fun i j hij _ k hk l hl => ?_
  have h1 : k.1 = x + (i : Int) := mem_blk2 hk
  have h2 : l.1 = x + (j : Int) := mem_blk2 hl
  show k.1 < l.1 ∨ (k.1 = l.1 ∧ (k.2.1 < l.2.1 ∨ (k.2.1 = l.2.1 ∧ k.2.2 < l.2.2)))
  omega
theorem all_block {x y z : Int} {a b c : Nat} (g : Good (.block x y z a b c)) : blk3 x y z a b c = all (.block x y z a b c) := all_of g (asc_blk3 ..) fun _ => mem_blk3
end Ly
end

section
set_option Elab.async false
set_option linter.all false
set_option maxRecDepth 100000
set_option maxHeartbeats 2000000
/-! Lists of cells: sorted at any length, membership, equality. -/
namespace GY
open PySem PySem.Spec PyProof.Rows L2 Ly
/-- a cell as data -/
def cD (c : C3) : PyData := .tuple [.int c.1, .int c.2.1, .int c.2.2]
theorem dataLt_c (a b : C3) : PySem.W.dataLt (cD a) (cD b) = decide (lt3 a b) := by
  unfold cD
  rw [PySem.W.dataLt_tuple, PySem.W.dataLt_cons (by simp [PySem.W.alike]), PySem.W.dataLt_cons (by simp [PySem.W.alike]), PySem.W.dataLt_cons (by simp [PySem.W.alike]), PySem.W.dataLt_int, PySem.W.dataLt_int, PySem.W.dataLt_int]
  have e : PyProof.Rows.lexLt itemOrd (PySem.W.keyToksAll []) (PySem.W.keyToksAll []) = false := lex_irrefl _
  rw [e]
  simp only [PyData.eqv, beq_iff_eq]
  unfold lt3
  by_cases h1 : a.1 = b.1 <;> by_cases h2 : a.2.1 = b.2.1 <;> by_cases h3 : a.2.2 = b.2.2 <;> simp [h1, h2, h3]
theorem cD_alike (a b : C3) : PySem.W.alike (cD a) (cD b) = true := by simp [cD, PySem.W.alike, PySem.W.alikeAll]
theorem cD_depth (a : C3) : (cD a).depth = 1 := by simp [cD, PyData.depth, PyData.depthAll]
theorem cD_lay (a : C3) : (cD a).canLay0 = true := by simp [cD, PyData.canLay0, PyData.canLayAll0]
theorem cD_shaped (a : C3) : SeqAt.shaped (cD a) = true := by
  show ((cD a).canLay0 && decide ((cD a).depth ≤ 64)) = true
  rw [cD_lay, cD_depth]
  rfl
theorem cDs_lay : ∀ cs : List C3, PyData.canLayAll0 (cs.map cD) = true
  | [] => by simp [PyData.canLayAll0]
  | c :: cs => by simp [PyData.canLayAll0, cD_lay c, cDs_lay cs]
theorem cDs_depth : ∀ cs : List C3, PyData.depthAll (cs.map cD) ≤ 1
  | [] => by simp [PyData.depthAll]
  | c :: cs => by
    have h1 := cDs_depth cs
    have h2 := cD_depth c
    simp only [List.map_cons, PyData.depthAll]
    omega
theorem cDs_shapedL (cs : List C3) : SeqAt.shaped (.list (cs.map cD)) = true := by
  have h1 := cDs_depth cs
  have h2 : PyData.depth (.list (cs.map cD)) ≤ 64 := by
    simp only [PyData.depth]
    omega
  show (PyData.canLay0 (.list (cs.map cD)) && decide (PyData.depth (.list (cs.map cD)) ≤ 64)) = true
  rw [Bool.and_eq_true]
  exact ⟨by simp only [PyData.canLay0]; exact cDs_lay cs, decide_eq_true h2⟩
theorem cDs_shapedT (cs : List C3) : SeqAt.shaped (.tuple (cs.map cD)) = true := by
  have h1 := cDs_depth cs
  have h2 : PyData.depth (.tuple (cs.map cD)) ≤ 64 := by
    simp only [PyData.depth]
    omega
  show (PyData.canLay0 (.tuple (cs.map cD)) && decide (PyData.depth (.tuple (cs.map cD)) ≤ 64)) = true
  rw [Bool.and_eq_true]
  exact ⟨by simp only [PyData.canLay0]; exact cDs_lay cs, decide_eq_true h2⟩
theorem cD_eqv (a b : C3) : PyData.eqv (cD a) (cD b) = decide (a = b) := by
  have e : PyData.eqv (cD a) (cD b) = ((a.1 == b.1) && ((a.2.1 == b.2.1) && ((a.2.2 == b.2.2) && true))) := by simp only [cD, PyData.eqv, PyData.eqvAll]
  rw [e]
  by_cases h : a = b
  · subst h
    simp
  · rw [decide_eq_false h]
    by_cases h1 : a.1 = b.1
    · by_cases h2 : a.2.1 = b.2.1
      · by_cases h3 : a.2.2 = b.2.2
        · exact absurd (c3_ext h1 h2 h3) h
        · simp [h3]
      · simp [h2]
    · simp [h1]
theorem any_eqv (c : C3) (cs : List C3) : ((cs.map cD).any fun z => PyData.eqv z (cD c)) = decide (c ∈ cs) := by
  induction cs with
  | nil => simp
  | cons b cs ih =>
    rw [List.map_cons, List.any_cons, ih, cD_eqv]
    by_cases h : b = c
    · subst h; simp
    · have h' : ¬ c = b := fun e => h e.symm
      simp [h, h']
/-- the list (the tuple) of these cells -/
abbrev CellsL (K : PySem.W.Frag) (H : Hp) (v : V) (cs : List C3) : Prop := Dp K H v (.list (cs.map cD))
abbrev CellsT (K : PySem.W.Frag) (H : Hp) (v : V) (cs : List C3) : Prop := Dp K H v (.tuple (cs.map cD))
/-- item by item -/
def Items (K : PySem.W.Frag) (H : Hp) (xs : List V) (cs : List C3) : Prop := DpAll K H xs (cs.map cD)
theorem Items.length {K : PySem.W.Frag} {H : Hp} : ∀ {xs : List V} {cs : List C3}, Items K H xs cs → xs.length = cs.length
  | [], [], _ => rfl
  | [], _ :: _, h => by cases h
  | _ :: _, [], h => by cases h
  | x :: xs, c :: cs, h => by
    cases h with
    | cons h1 h2 =>
      have e := Items.length (xs := xs) (cs := cs) h2
      simp [e]
theorem Items.get {K : PySem.W.Frag} {H : Hp} : ∀ {xs : List V} {cs : List C3} {i : Nat} {x : V}, Items K H xs cs → xs[i]? = some x → ∃ c, cs[i]? = some c ∧ Dp K H x (cD c)
  | [], _, _, _, _, e => by simp at e
  | _ :: _, [], _, _, h, _ => by cases h
  | y :: xs, c :: cs, i, x, h, e => by
    cases h with
    | cons h1 h2 =>
      cases i with
      | zero =>
        have e : y = x := by simpa using e
        subst e
        exact ⟨c, rfl, h1⟩
      | succ i => exact Items.get (xs := xs) (cs := cs) h2 (by simpa using e)
theorem Items.append {K : PySem.W.Frag} {H : Hp} : ∀ {xs ys : List V} {cs ds : List C3}, Items K H xs cs → Items K H ys ds → Items K H (xs ++ ys) (cs ++ ds)
  | [], _, [], _, _, h => h
  | [], _, _ :: _, _, h, _ => by cases h
  | _ :: _, _, [], _, h, _ => by cases h
  | x :: xs, ys, c :: cs, ds, h, k => by
    cases h with
    | cons h1 h2 => exact .cons h1 (Items.append (xs := xs) (cs := cs) h2 k)
theorem Items.one {K : PySem.W.Frag} {H : Hp} {x : V} {c : C3} (h : Dp K H x (cD c)) : Items K H [x] [c] := .cons h .nil
/-- the triple of three ints -/
theorem dp_c {K : PySem.W.Frag} {H : Hp} {p : Addr} {c : C3} (h : SqT K H p [.int c.1, .int c.2.1, .int c.2.2]) : Dp K H (.ref p) (cD c) := .tup h (.cons (.int _) (.cons (.int _) (.cons (.int _) .nil)))
theorem of_dp_c {K : PySem.W.Frag} {H : Hp} {v : V} {c : C3} (h : Dp K H v (cD c)) : ∃ p, v = .ref p ∧ SqT K H p [.int c.1, .int c.2.1, .int c.2.2] := by
  cases h with
  | tup hs ha =>
    cases ha with
    | cons a1 a2 =>
      cases a2 with
      | cons b1 b2 =>
        cases b2 with
        | cons c1 c2 =>
          cases c2
          cases a1
          cases b1
          cases c1
          exact ⟨_, rfl, hs⟩
theorem of_cellsL {K : PySem.W.Frag} {H : Hp} {v : V} {cs : List C3} (h : CellsL K H v cs) : ∃ p xs, v = .ref p ∧ SqL K H p xs ∧ Items K H xs cs := by
  have h : Dp K H v (.list (cs.map cD)) := h
  cases h with
  | lst hs ha => exact ⟨_, _, rfl, hs, ha⟩
theorem of_cellsT {K : PySem.W.Frag} {H : Hp} {v : V} {cs : List C3} (h : CellsT K H v cs) : ∃ p xs, v = .ref p ∧ SqT K H p xs ∧ Items K H xs cs := by
  have h : Dp K H v (.tuple (cs.map cD)) := h
  cases h with
  | tup hs ha => exact ⟨_, _, rfl, hs, ha⟩

section
variable {X : Cx}
/-- x in t, t a tuple of data -/
def rInDT (K : PySem.W.Frag) : R2 := fun x y H Q => ∃ d ds, Dp K H x d ∧ Dp K H y (.tuple ds) ∧ SeqAt.shaped d = true ∧ SeqAt.shaped (.tuple ds) = true ∧ Q (.bl (ds.any fun z => PyData.eqv z d)) H
theorem op_inDT (hu : X.A.units + 65 < cLine) : OpR X (compareOp .In) (rInDT X.K) := by
  intro pins s σ H x y v u Q I rx ry h
  obtain ⟨d, ds, hd, he, sd, se, q⟩ := h
  obtain ⟨as, r1⟩ := Dp.reads I d x v hd rx
  obtain ⟨bs, r2⟩ := Dp.reads I (.tuple ds) y u he ry
  exact SeqAt.in_tuple_reads r2 r1 (SeqAt.canLay_of_shaped se) (SeqAt.canLay_of_shaped sd) (room_in_shaped sd hu) ⟨.bl _, H, I, rfl, q⟩

/-! ### sorted -/
theorem le_trans3 : ∀ a b c : C3, decide (¬ lt3 b a) = true → decide (¬ lt3 c b) = true → decide (¬ lt3 c a) = true := by
  intro a b c h1 h2
  rw [decide_eq_true_eq] at *
  intro h
  unfold lt3 at *
  omega
theorem le_total3 : ∀ a b : C3, (decide (¬ lt3 b a) || decide (¬ lt3 a b)) = true := by
  intro a b
  rw [Bool.or_eq_true, decide_eq_true_eq, decide_eq_true_eq]
  by_cases h : lt3 b a
  · exact .inr (lt3_asymm h)
  · exact .inl h
theorem leC {β : Type} (k : β → C3) : PySem.W.dataLe false (fun b => cD (k b)) = fun a b => decide (¬ lt3 (k b) (k a)) := by
  rw [PySem.W.dataLe_eq]
  funext a b
  show (!PySem.W.dataLt (cD (k b)) (cD (k a))) = _
  rw [dataLt_c]
  simp
/-- sorted(xs) of cells, any length: some arrangement in order -/
def rSortC (K : PySem.W.Frag) : List V → Hp → VK → Prop := fun vs H Q => ∃ (v : V) (cs : List C3), vs = [v] ∧ CellsL K H v cs ∧ cs.length ≤ sizeLine ∧
  ∀ (ys : List V) (ds : List C3) (p : Addr), ds.Perm cs → (ds.Pairwise fun a b => ¬ lt3 b a) → Items K H ys ds → H p = none → Q (.ref p) (upd H p (.lst ys))
theorem each_of {K : PySem.W.Frag} {H : Hp} : ∀ {xs : List V} {us : List Value} {cs : List C3}, Vals xs us → Items K H xs cs → PySem.W.EachIs (fun (u : Value) (b : V × C3) => RelV b.1 u ∧ Dp K H b.1 (cD b.2)) us (xs.zip cs)
  | [], _, _, r, h => by
    cases r
    exact .nil
  | _ :: _, _, [], _, h => by cases h
  | x :: xs, _, c :: cs, r, h => by
    cases r with
    | cons r1 r2 =>
      cases h with
      | cons h1 h2 => exact .cons ⟨r1, h1⟩ (each_of (xs := xs) (cs := cs) r2 h2)
theorem of_each {K : PySem.W.Frag} {H : Hp} : ∀ {us : List Value} {bs : List (V × C3)}, PySem.W.EachIs (fun (u : Value) (b : V × C3) => RelV b.1 u ∧ Dp K H b.1 (cD b.2)) us bs → Vals (bs.map (·.1)) us ∧ Items K H (bs.map (·.1)) (bs.map (·.2))
  | _, _, .nil => ⟨.nil, .nil⟩
  | _, _, .cons h t => ⟨.cons h.1 (of_each t).1, .cons h.2 (of_each t).2⟩
theorem zip_snd : ∀ {xs : List V} {cs : List C3}, xs.length = cs.length → (xs.zip cs).map (·.2) = cs
  | [], [], _ => rfl
  | [], _ :: _, h => by simp at h
  | _ :: _, [], h => by simp at h
  | x :: xs, c :: cs, h => by
    have e := zip_snd (xs := xs) (cs := cs) (by simpa using h)
    simp [e]
theorem cr_sortC (hu : X.A.units + 64 < cLine) : CallR X (.builtin "sorted") (rSortC X.K) := by
  intro pins s σ H vs us Q I r h
  obtain ⟨v, cs, rfl, hc, hl, q⟩ := h
  obtain ⟨a, xs, rfl, hs, hi⟩ := of_cellsL hc
  cases r with
  | cons r1 r2 =>
    cases r2
    cases r1
    obtain ⟨its, rv, pl, hz⟩ := I.list hs
    have hlen := hi.length
    have e := each_of rv hi
    have er : PySem.W.EachIs (fun v b => ∃ as, Reads s.heap v ((fun b : V × C3 => cD b.2) b) as) its (xs.zip cs) := e.mono fun u b h => Dp.reads I (cD b.2) b.1 u h.2 h.1
    have hbl : (xs.zip cs).length = cs.length := by rw [List.length_zip, hlen, Nat.min_self]
    refine PySem.W.sorted_data (enc := fun b : V × C3 => cD b.2) pl.isList e er (PySem.W.AllAlike.of fun b b' => cD_alike _ _) (PySem.W.Sortable.tuples fun b => ⟨_, _, rfl⟩) (by rw [hbl]; exact hl)
      (fun b _ => by rw [cD_depth]; omega) fun out ho eo => ?_
    obtain ⟨c, hc2⟩ := sortedAll_at s.heap its (List.toArray out)
    rw [leC] at eo
    have pm := List.mergeSort_perm (xs.zip cs) (fun a b => decide (¬ lt3 b.2 a.2))
    have so := List.pairwise_mergeSort (le := fun (a b : V × C3) => decide (¬ lt3 b.2 a.2)) (fun a b c => le_trans3 a.2 b.2 c.2) (fun a b => le_total3 a.2 b.2) (xs.zip cs)
    obtain ⟨ev, ei⟩ := of_each eo
    have ky : ∀ b o, s.heap.get? b = some o → (sortedAll s.heap its (List.toArray out)).get? b = some o := fun _ _ => sortedAll_old
    have hlz : ((List.mergeSort (xs.zip cs) fun a b => decide (¬ lt3 b.2 a.2)).map (·.1)).length ≤ sizeLine := by
      rw [List.length_map, pm.length_eq, hbl]
      exact hl
    have hnew : H (s.heap.objs.size + 1) = none := I.hok.fresh (Nat.le_succ _)
    refine ⟨.ref (s.heap.objs.size + 1), _, I.laid (t' := s.toks) (o := .lst ((List.mergeSort (xs.zip cs) fun a b => decide (¬ lt3 b.2 a.2)).map (·.1))) ky (Nat.le_succ _) ⟨hlz, out, c, ev, hc2⟩, rfl, ?_⟩
    refine q _ _ _ ?_ ?_ ei hnew
    · have := pm.map (·.2)
      rw [zip_snd hlen] at this
      exact this
    · refine List.Pairwise.map _ (fun a b h => ?_) so
      simpa using h
end
end GY
end

section
set_option Elab.async false
set_option linter.all false
set_option maxRecDepth 100000
set_option maxHeartbeats 2000000
/-! Sets of tuples with up to 64 of them (the library's: below 64): one more put, found ones. -/
namespace GZ
open PySem PySem.Spec PyProof.Rows L2
section
variable {P : Program} {w : World} {A : Around} {E : Value → Shared → Prop} {s : Shared}
/-- the set at a holds L, at most 64 -/
structure SQ (P : Program) (w : World) (h : Heap) (a : Addr) (L : List (Addr × List Int)) (es : Array (Int × Value)) (ep : Nat) (t : SetTable) : Prop where
  ob : ∃ o, h.get? a = some o ∧ o.ExactSet ∧ o.data = .set es ep t
  rows : es.toList = rowsOf P w L
  tab : TabOk t (L.map fun p => thash P w p.2)
  nd : (L.map (·.2)).Nodup
  tup : ∀ p ∈ L, IsT P w h p.2 p.1
  plain : t.plain = true
  led : w.params.followText "set-order" = true ∨ t.led = true
  room : L.length * 5 < t.mask * 3
  few : L.length ≤ 64
variable {a : Addr} {L : List (Addr × List Int)} {es : Array (Int × Value)} {ep : Nat} {t : SetTable}
theorem SQ.of (R : SetTR P w s.heap a L es ep t) : SQ P w s.heap a L es ep t := ⟨R.ob, R.rows, R.tab, R.nd, R.tup, R.plain, R.led, R.room, Nat.le_of_lt R.few⟩
theorem SQ.tr (R : SQ P w s.heap a L es ep t) (h : L.length < 64) : SetTR P w s.heap a L es ep t := ⟨R.ob, R.rows, R.tab, R.nd, R.tup, R.plain, R.led, R.room, h⟩
theorem SQ.keep {h h' : Heap} (R : SQ P w h a L es ep t) (ha : ∀ o, h.get? a = some o → h'.get? a = some o) (ht : ∀ p ∈ L, IsT P w h' p.2 p.1) : SQ P w h' a L es ep t := by
  obtain ⟨o, ho, r⟩ := R.ob
  exact ⟨⟨o, ha o ho, r⟩, R.rows, R.tab, R.nd, ht, R.plain, R.led, R.room, R.few⟩
theorem SQ.size {h : Heap} (R : SQ P w h a L es ep t) : es.size = L.length := by
  have q := congrArg List.length R.rows
  unfold rowsOf at q
  rw [Array.length_toList, List.length_map] at q
  exact q
theorem SQ.psz {h : Heap} (R : SQ P w h a L es ep t) : t.place.size = L.length := by
  have q := R.tab.sz
  rw [List.length_map] at q
  exact q
theorem SQ.fits {h : Heap} (R : SQ P w h a L es ep t) : t.fits es.size = true := by
  have h1 := R.psz
  have h2 := R.size
  have h3 := R.room
  unfold SetTable.fits SetTable.fill
  rw [R.tab.dm, Bool.and_eq_true, beq_iff_eq, decide_eq_true_eq]
  refine ⟨by omega, ?_⟩
  show t.place.size + 0 ≤ t.mask
  omega
theorem SQ.at {h : Heap} (R : SQ P w h a L es ep t) {i : Nat} {p : Addr × List Int} (q : L[i]? = some p) : es[i]? = some (thash P w p.2, Value.ref p.1) := by
  rw [← Array.getElem?_toList, R.rows]
  unfold rowsOf
  rw [List.getElem?_map, q] <;> rfl
theorem SQ.gw {h : Heap} (R : SQ P w h a L es ep t) : ¬ t.gaveWay = true := by
  unfold SetTable.gaveWay
  rw [mask_odd R.tab.mok]
  decide

/-- a tuple that is in is found -/
theorem found_from (R : SQ P w s.heap a L es ep t) {x : Addr} {k : List Int} (hx : IsT P w s.heap k x) (hu : A.units < cLine) {K c0 i0 : Nat} {p0 : Addr × List Int} (hKf : K < 10 * SetTable.turns t.mask)
    (hK : way t.mask (thash P w k) K ∉ t.place.toList) (hKb : ∀ c, c < K → way t.mask (thash P w k) c ∈ t.place.toList) (h0 : L[i0]? = some p0) (hk0 : p0.2 = k) (hc0 : t.place.toList[i0]? = some (way t.mask (thash P w k) c0)) (hcK : c0 < K)
    {Q : SetFound → Shared → Prop} (hin : Q (.there none) s) :
    ∀ (f c : Nat) (stand : Option SetTable.Probe), stand.getD (t.probeStart (thash P w k)) = nth t.mask (runAt t.mask (SetTable.bits (thash P w k) % (t.mask + 1)) (SetTable.bits (thash P w k))) c → c ≤ c0 → K - c < f →
      wpAny (model P w) A (setSearchFrom a (.ref x) (thash P w k) true f stand) Q E s := by
  intro f
  induction f with
  | zero => exact fun c stand _ _ hf => absurd hf (Nat.not_lt_zero _)
  | succ f ih =>
    intro c stand hst hc hf
    obtain ⟨o, ho, hex, hd⟩ := R.ob
    rw [setSearchFrom_succ]
    refine wpAny_bind (wpAny_setState_of ho hd R.fits ?_)
    dsimp only
    refine wp_if_neg R.gw ?_
    try refine wpAny_bind (wpAny_pure ?_)
    generalize hB : runAt t.mask (SetTable.bits (thash P w k) % (t.mask + 1)) (SetTable.bits (thash P w k)) = B at hst
    have hB0 : B.dummy = none := by rw [← hB] <;> rfl
    have dn : ∀ (n : Nat) (p : SetTable.Probe), p.dummy = none → (nth t.mask p n).dummy = none := by
      intro n
      induction n with
      | zero => exact fun p h => h
      | succ n ih2 =>
        intro p h
        refine ih2 (adv t.mask p) ?_
        unfold adv
        split <;> exact h
    have wj : ∀ q, (nth t.mask (nth t.mask B c) q).j = way t.mask (thash P w k) (c + q) := fun q => by
      rw [← nth_add t.mask c B q, ← hB] <;> rfl
    have hash_of : ∀ (i : Nat) p, L[i]? = some p → (fun i => (es[i]?.map (·.1)).getD 0) i = thash P w p.2 := fun i p hp => by
      show (es[i]?.map (·.1)).getD 0 = _
      rw [R.at hp] <;> rfl
    have sp := go_spec t R.tab.ris R.tab.dm (fun i => (es[i]?.map (·.1)).getD 0) (thash P w k) (10 * SetTable.turns t.mask) (K - c) _ (dn c B hB0) (by omega)
      (fun q hq => by rw [wj]; exact hKb (c + q) (by omega)) (by rw [wj, show c + (K - c) = K by omega]; exact hK)
    have met : (fun i => (es[i]?.map (·.1)).getD 0) i0 = thash P w k := (hash_of i0 p0 h0).trans (congrArg (thash P w) hk0)
    rcases sp with ⟨q, i, hq, hi, hh, hno, hpr⟩ | ⟨hno, hpr⟩
    · have hcq : c + q ≤ c0 := by
        rcases Nat.lt_or_ge c0 (c + q) with z | z
        · exact absurd met (hno (c0 - c) i0 (by omega) (by rw [wj, show c + (c0 - c) = c0 by omega]; exact hc0))
        · exact z
      have hpr2 : t.probe (fun i => (es[i]?.map (·.1)).getD 0) (thash P w k) (stand.getD (t.probeStart (thash P w k))) = some (.candidate (way t.mask (thash P w k) (c + q)) i (nth t.mask B (c + (q + 1)))) := by
        rw [hst, ← wj, nth_add t.mask c B (q + 1)]
        exact hpr
      rw [hpr2]
      dsimp only
      rw [wj] at hi
      have hil : i < L.length := by
        have h1 : i < t.place.toList.length := (List.getElem?_eq_some_iff.mp hi).1
        have h2 := R.psz
        rw [Array.length_toList] at h1
        omega
      have hp : L[i]? = some L[i] := List.getElem?_eq_getElem hil
      generalize hpe : L[i] = p at hp
      have hpt := R.tup p (List.mem_of_getElem? hp)
      have slotq : t.slot (way t.mask (thash P w k) (c + q)) = .live i := slot_live R.tab.ris hi
      have go : wpAny (model P w) A (searchRest a (.ref x) (thash P w k) true f es t (way t.mask (thash P w k) (c + q)) i (nth t.mask B (c + (q + 1)))) Q E s := by
        unfold searchRest
        rw [R.at hp]
        dsimp only
        refine wpAny_bind (wpAny_holding (wpAny_eqBool_tuple hu hpt hx ?_))
        refine wpAny_bind (wpAny_setState_of ho hd R.fits ?_)
        dsimp only
        by_cases hkk : p.2 = k
        · refine wp_if_pos (by simp [hkk]) ?_
          exact wpAny_pure hin
        · have hlt : c + q < c0 := by
            rcases Nat.lt_or_ge (c + q) c0 with z | z
            · exact z
            · exfalso
              have e : c0 = c + q := Nat.le_antisymm z hcq
              have s0 := slot_live R.tab.ris hc0
              rw [e, slotq] at s0
              injection s0 with s0
              rw [← s0, hp] at h0
              exact hkk ((congrArg Prod.snd (Option.some.inj h0)).trans hk0)
          refine wp_if_neg (by simp [hkk]) ?_
          try refine wpAny_bind (wpAny_pure ?_)
          rw [sameMem]
          dsimp only
          simp only [if_true, slotq, R.at hp]
          refine wpAny_bind (wpAny_isSame_ref_self (wpAny_bind (wpAny_pure ?_)))
          simp only [if_true]
          refine wp_if_neg (by simp [hkk]) ?_
          exact ih (c + (q + 1)) _ (by rw [hB]; rfl) (by omega) (by omega)
      by_cases hl : t.led = true
      · refine wp_if_neg (by simp [hl]) ?_
        try refine wpAny_bind (wpAny_pure ?_)
        exact go
      · refine wp_if_pos (by simp [hl]) ?_
        refine wpAny_bind (seen_tup hx (fun y hy => ?_) ?_)
        · obtain ⟨e, he, ee⟩ := List.mem_map.mp hy
          have he1 : e ∈ es ∧ e.1 = thash P w k := by simpa using he
          have he2 : e ∈ es.toList := by simpa using he1.1
          rw [R.rows] at he2
          obtain ⟨p2, hp2, e2⟩ := List.mem_map.mp he2
          exact ⟨p2.2, p2.1, by rw [← ee, ← e2], R.tup p2 hp2⟩
        · refine wp_if_neg (by decide) ?_
          try refine wpAny_bind (wpAny_pure ?_)
          exact go
    · exact absurd met (hno (c0 - c) i0 (by omega) (by rw [wj, show c + (c0 - c) = c0 by omega]; exact hc0))
theorem found_at (R : SQ P w s.heap a L es ep t) {x : Addr} {k : List Int} (hx : IsT P w s.heap k x) (hu : A.units < cLine) (hm : k ∈ L.map (·.2)) {Q : SetFound → Shared → Prop} (hin : Q (.there none) s) :
    wpAny (model P w) A (setSearch a (.ref x) (thash P w k) true) Q E s := by
  have hroom := R.room
  obtain ⟨K, hKf, hK, hKb⟩ := R.tab.first (by rw [List.length_map]; omega) (thash P w k)
  have hbig : K < 100000 := by
    have : 10 * SetTable.turns t.mask ≤ 1420 := by
      unfold SetTable.turns
      rcases R.tab.mok with e | e | e <;> omega
    omega
  obtain ⟨p0, hp0, hk0⟩ := List.mem_map.mp hm
  obtain ⟨i0, hi0, e0⟩ := List.getElem_of_mem hp0
  have h00 : L[i0]? = some p0 := by rw [List.getElem?_eq_getElem hi0, e0]
  have hi : (L.map fun p => thash P w p.2)[i0]? = some (thash P w k) := by rw [List.getElem?_map, h00, ← hk0] <;> rfl
  have hil : i0 < t.place.toList.length := by
    have h2 := R.psz
    rw [Array.length_toList]
    omega
  have hj := List.getElem?_eq_getElem hil
  obtain ⟨c0, hc0, e⟩ := R.tab.before hK hi hj
  unfold setSearch
  exact found_from R hx hu hKf hK hKb h00 hk0 (by rw [hj, e]) hc0 hin 100000 0 none rfl (Nat.zero_le _) (by omega)
end
end GZ
end

section
set_option Elab.async false
set_option linter.all false
set_option maxRecDepth 100000
set_option maxHeartbeats 2000000
namespace GZ
open PySem PySem.Spec PyProof.Rows L2
section
variable {P : Program} {w : World} {A : Around} {E : Value → Shared → Prop} {s : Shared}
variable {a : Addr} {L : List (Addr × List Int)} {es : Array (Int × Value)} {ep : Nat} {t : SetTable}
theorem SQ.ofH {h : Heap} (R : SetTR P w h a L es ep t) : SQ P w h a L es ep t := ⟨R.ob, R.rows, R.tab, R.nd, R.tup, R.plain, R.led, R.room, Nat.le_of_lt R.few⟩
theorem SQ.trH {h : Heap} (R : SQ P w h a L es ep t) (q : L.length < 64) : SetTR P w h a L es ep t := ⟨R.ob, R.rows, R.tab, R.nd, R.tup, R.plain, R.led, R.room, q⟩
/-- one that is in is added: nothing changes -/
theorem add_found (R : SQ P w s.heap a L es ep t) {x : Addr} {k : List Int} (hx : IsT P w s.heap k x) (hu : A.units < cLine) (hm : k ∈ L.map (·.2)) {Q : Bool → Shared → Prop} (hQ : Q false s) :
    wpAny (model P w) A (setAddHashed a (.ref x) (thash P w k)) Q E s := by
  obtain ⟨o, ho, hex, hd⟩ := R.ob
  unfold setAddHashed
  refine wpAny_holding ?_
  rw [show (100000 : Nat) = 99999 + 1 from rfl, setAddHashedIn_succ]
  refine wpAny_bind (wpAny_setState_of ho hd R.fits ?_)
  dsimp only
  refine wp_if_neg (by simp [byScan, Value.scannable]) ?_
  try refine wpAny_bind (wpAny_pure ?_)
  refine wpAny_bind (found_at R hx hu hm ?_)
  dsimp only
  exact wpAny_pure hQ
/-- the 64th is added: the table is as large as before -/
theorem add_last (R : SetTR P w s.heap a L es ep t) {x : Addr} {k : List Int} (hx : IsT P w s.heap k x) (hu : A.units < cLine) (hl : L.length = 63) (hn : k ∉ L.map (·.2)) {Q : Bool → Shared → Prop}
    (hQ : ∀ h' L' es' ep' t', Heap.SameBut a s.heap h' → SQ P w h' a L' es' ep' t' → L'.Perm ((x, k) :: L) → Q true { s with heap := h' }) :
    wpAny (model P w) A (setAddHashed a (.ref x) (thash P w k)) Q E s := by
  obtain ⟨o, ho, hex, hd⟩ := R.ob
  have hsl := R.size
  have hroom := R.room
  have hmask : t.mask = 127 := by
    rcases R.tab.mok with e | e | e
    · rw [e] at hroom; omega
    · rw [e] at hroom; omega
    · exact e
  unfold setAddHashed
  refine wpAny_holding ?_
  rw [show (100000 : Nat) = 99999 + 1 from rfl, setAddHashedIn_succ]
  refine wpAny_bind (wpAny_setState_of ho hd R.fits ?_)
  dsimp only
  refine wp_if_neg (by simp [byScan, Value.scannable]) ?_
  try refine wpAny_bind (wpAny_pure ?_)
  refine wpAny_bind (search_at R hx hu (fun hm => absurd hm hn) fun K hm hK hb => ?_)
  dsimp only
  refine wpAny_bind (wpAny_setState_of ho hd R.fits ?_)
  dsimp only
  obtain ⟨q1, q2, q3, q4, q5, q6, q7, q8, q9⟩ := R.tab.put hK hb
  have hp1 : (t.put (way t.mask (thash P w k) K)).1.plain = true := by rw [q6]; exact R.plain
  generalize hpt : t.put (way t.mask (thash P w k) K) = pt at q1 q3 q4 q5 q6 q7 q8 q9 hp1 ⊢
  obtain ⟨t1, p⟩ := pt
  dsimp only at q1 q3 q4 q5 q6 q7 q8 q9 hp1 ⊢
  subst q1
  first
    | (refine wpAny_bind ?_; refine wp_if_pos hp1 ?_; refine hashBy_tup hx ?_)
    | refine wp_if_pos hp1 (wpAny_bind (hashBy_tup hx ?_))
  simp only [if_true]
  have hin : (SetTable.insertAt es (SetTable.below t.place (way t.mask (thash P w k) K)) (thash P w k, Value.ref x)).toList = rowsOf P w (L.take (SetTable.below t.place (way t.mask (thash P w k) K)) ++ (x, k) :: L.drop (SetTable.below t.place (way t.mask (thash P w k) K))) := by
    rw [SetTable.toList_insertAt, rows_put, R.rows]
  generalize SetTable.below t.place (way t.mask (thash P w k) K) = b at q2 q3 hin ⊢
  have pm := put_perm L b (x, k)
  have hlen : (L.take b ++ (x, k) :: L.drop b).length = 64 := by rw [pm.length_eq, List.length_cons, hl]
  have hhs : (L.take b ++ (x, k) :: L.drop b).map (fun p => thash P w p.2) = (L.map fun p => thash P w p.2).take b ++ thash P w k :: (L.map fun p => thash P w p.2).drop b := by
    rw [List.map_append, List.map_cons, List.map_take, List.map_drop]
  rw [← hhs] at q3
  have nd1 : ((L.take b ++ (x, k) :: L.drop b).map (·.2)).Nodup := by
    refine (pm.map (·.2)).nodup_iff.mpr ?_
    rw [List.map_cons]
    exact List.nodup_cons.mpr ⟨hm, R.nd⟩
  have hes : (SetTable.insertAt es b (thash P w k, Value.ref x)).size = 64 := by
    have h := congrArg List.length hin
    unfold rowsOf at h
    rw [Array.length_toList, List.length_map, hlen] at h
    exact h
  generalize SetTable.insertAt es b (thash P w k, Value.ref x) = es1 at hin hes ⊢
  generalize L.take b ++ (x, k) :: L.drop b = L1 at pm hlen q3 nd1 hin
  refine wpAny_bind (wpAny_storeSet_of ho hd ?_ (by rw [hes, sizeLine_eq]; omega))
  have sb : Heap.SameBut a s.heap (s.heap.update a (Obj.putSet es1 t1)) := Heap.SameBut.update ..
  have ho1 := store_at (es' := es1) (t' := t1) ho hd
  generalize s.heap.update a (Obj.putSet es1 t1) = h1 at sb ho1 ⊢
  have tup1 : ∀ p ∈ L1, IsT P w h1 p.2 p.1 := fun p hp => by
    rcases List.mem_cons.mp (pm.mem_iff.mp hp) with e | hp
    · rw [e]; exact isT_same hx ho hd sb
    · exact isT_same (R.tup p hp) ho hd sb
  have hf : t1.tooFull = false := by
    unfold SetTable.tooFull
    rw [q9, List.length_map, q4, hmask, hl]
    decide
  first
    | refine wp_if_neg (by simp [hf]) ?_
    | (refine wpAny_bind ?_; refine wp_if_neg (by simp [hf]) ?_; refine wpAny_pure ?_)
  refine wpAny_pure (hQ h1 L1 es1 (ep + 1) t1 sb ⟨⟨_, ho1, ⟨hex.1, hex.2.1, hex.2.2⟩, rfl⟩, hin, q3, nd1, tup1, hp1, by rw [q5]; exact R.led, by rw [hlen, q4, hmask]; decide, by omega⟩ pm)
/-- any is added, as long as there is room below 64 -/
theorem add_any (R : SQ P w s.heap a L es ep t) {x : Addr} {k : List Int} (hx : IsT P w s.heap k x) (hu : A.units < cLine) (hr : k ∈ L.map (·.2) ∨ L.length < 64) {Q : Bool → Shared → Prop}
    (hQ : ∀ b h' L' es' ep' t', Heap.SameBut a s.heap h' → SQ P w h' a L' es' ep' t' → (k ∈ L.map (·.2) → L' = L) → (k ∉ L.map (·.2) → L'.Perm ((x, k) :: L)) → Q b { s with heap := h' }) :
    wpAny (model P w) A (setAddHashed a (.ref x) (thash P w k)) Q E s := by
  by_cases hm : k ∈ L.map (·.2)
  · exact add_found R hx hu hm (hQ false s.heap L es ep t (Heap.SameBut.refl a s.heap) R (fun _ => rfl) fun z => absurd hm z)
  · have hl : L.length < 64 := hr.resolve_left hm
    rcases Nat.lt_or_ge (L.length + 1) 64 with z | z
    · exact add_at (R.trH hl) hx hu z fun b h' L' es' ep' t' sb R' c1 c2 => hQ b h' L' es' ep' t' sb (SQ.ofH R') c1 c2
    · exact add_last (R.trH hl) hx hu (by omega) hm fun h' L' es' ep' t' sb R' pm => hQ true h' L' es' ep' t' sb R' (fun z => absurd z hm) fun _ => pm
end
end GZ
end

section
set_option Elab.async false
set_option linter.all false
set_option maxRecDepth 100000
set_option maxHeartbeats 3200000
namespace GZ
open PySem PySem.Spec PyProof.Rows L2
theorem nodup_le {α : Type} [DecidableEq α] : ∀ {l U : List α}, l.Nodup → (∀ x ∈ l, x ∈ U) → l.length ≤ U.length
  | [], _, _, _ => Nat.zero_le _
  | x :: l, U, n, h => by
    obtain ⟨n1, n2⟩ := List.nodup_cons.mp n
    have hx := h x List.mem_cons_self
    have ih := nodup_le (l := l) (U := U.erase x) n2 fun y hy => by
      have hne : y ≠ x := fun e => n1 (e ▸ hy)
      exact (List.mem_erase_of_ne hne).mpr (h y (List.mem_cons_of_mem _ hy))
    rw [List.length_erase_of_mem hx] at ih
    have hp : 0 < U.length := List.length_pos_of_mem hx
    rw [List.length_cons]
    omega
section
variable {P : Program} {w : World} {A : Around} {E : Value → Shared → Prop} {s : Shared}
/-- the loop of set.update, the keys among at most 64 -/
theorem upd_loop {I : Addr} {fp wr : List Addr} {G : Array GenState → Array GenState → Prop} {n : Nat} {Pv : Nat → Value → Prop} {St : Nat → Shared → Prop} {R : Result → Shared → Prop}
    (W : WalksS P w A.in1 I fp wr G n Pv St) (S : Addr) (hSf : S ∉ fp) (ks : List (Addr × List Int)) (U : List (List Int)) (hU : U.length ≤ 64) (hkU : ∀ p ∈ ks, p.2 ∈ U) (hn : n = ks.length) (hval : ∀ i v, Pv i v → ∃ p, ks[i]? = some p ∧ v = .ref p.1)
    (h0 : Heap) (hk : ∀ p ∈ ks, IsT P w h0 p.2 p.1) (hS0 : h0.get? S = none) (hw0 : ∀ b ∈ wr, h0.get? b = none) (hu : A.in1.units < cLine) :
    ∀ (k i : Nat) (s : Shared), n - i = k → i ≤ n → St i s → (∀ b o, h0.get? b = some o → s.heap.get? b = some o) → (∃ L es ep t, SQ P w s.heap S L es ep t ∧ Got ks i L) →
      (∀ s' L es ep t, Moved (S :: wr) G s s' → SQ P w s'.heap S L es ep t → Got ks n L → (∀ b o, h0.get? b = some o → s'.heap.get? b = some o) → R (.ok (.ret .none)) s') →
      codeAny (model P w) A (.builtin "set.update.loop" ⟨[.ref S, .ref I], []⟩) R s := by
  have hSw : S ∉ wr := fun h => hSf (W.sub _ h)
  have hsub : ∀ b ∈ wr, b ∈ S :: wr := fun b hb => List.mem_cons_of_mem _ hb
  have keepM : ∀ {s s' : Shared}, Moved wr G s s' → (∀ b o, h0.get? b = some o → s.heap.get? b = some o) → ∀ b o, h0.get? b = some o → s'.heap.get? b = some o := fun hm hkp b o e =>
    hm.heap b o (fun hb => by rw [hw0 b hb] at e; cases e) (hkp b o e)
  have few : ∀ {i : Nat} {L : List (Addr × List Int)} {p : Addr × List Int}, Got ks i L → (L.map (·.2)).Nodup → p ∈ ks → p.2 ∈ L.map (·.2) ∨ L.length < 64 := fun {i L p} g nd hp => by
    by_cases c : p.2 ∈ L.map (·.2)
    · exact .inl c
    · have q := nodup_le (l := p.2 :: L.map (·.2)) (U := U) (List.nodup_cons.mpr ⟨c, nd⟩) fun y hy => by
        rcases List.mem_cons.mp hy with e | hy
        · rw [e]; exact hkU p hp
        · obtain ⟨z, hz, e⟩ := List.mem_map.mp hy
          rw [← e]
          exact hkU z (List.mem_of_mem_take (g.sub z hz))
      rw [List.length_cons, List.length_map] at q
      exact .inr (by omega)
  intro k
  induction k with
  | zero =>
    intro i s hk' hi hst hkp ⟨L, es, ep, t, hS, g⟩ hR
    obtain rfl : i = n := by omega
    refine codeAny_builtin PyProof.Rows.F.entry_set_update_loop ?_
    rw [Around.under_plainId PyProof.Rows.F.plain_set_update_loop _]
    show wpAny _ A.in1 (pyNext (.ref I) >>= _) _ _ s
    refine wpAny_bind (W.done s _ _ hst fun s' hm => ?_)
    show wpAny _ A.in1 (ret Value.none) _ _ s'
    have hkp' := keepM hm hkp
    exact wpAny_pure (hR s' L es ep t (hm.mono hsub) (hS.keep (fun o e => hm.heap S o hSw e) fun p hp => isT_keep (hk p (List.mem_of_mem_take (g.sub p hp))) hkp') g hkp')
  | succ k ih =>
    intro i s hk' hi hst hkp ⟨L, es, ep, t, hS, g⟩ hR
    have hlt : i < n := by omega
    refine codeAny_builtin PyProof.Rows.F.entry_set_update_loop ?_
    rw [Around.under_plainId PyProof.Rows.F.plain_set_update_loop _]
    show wpAny _ A.in1 (pyNext (.ref I) >>= _) _ _ s
    refine wpAny_bind (W.item i s _ _ hlt hst fun v s' hP hst' hm => ?_)
    obtain ⟨p, hp, rfl⟩ := hval i v hP
    have hkp' := keepM hm hkp
    have hS' : SQ P w s'.heap S L es ep t := hS.keep (fun o e => hm.heap S o hSw e) fun q hq => isT_keep (hk q (List.mem_of_mem_take (g.sub q hq))) hkp'
    have hpm : p ∈ ks := List.mem_of_getElem? hp
    have hx : IsT P w s'.heap p.2 p.1 := isT_keep (hk p hpm) hkp'
    show wpAny _ A.in1 (holding [Value.ref p.1] (setAdd S (.ref p.1)) >>= _) _ _ s'
    refine wpAny_bind (wpAny_holding ?_)
    unfold setAdd
    refine wpAny_holding ?_
    refine wpAny_bind (wpAny_pyHash_tuple hu hx ?_)
    refine add_any (s := { s' with toks := s'.toks + (p.2.length + 1) }) hS' hx hu (few g hS'.nd hpm) fun b h' L' es' ep' t' hsb hS2 c1 c2 => ?_
    have g' : Got ks (i + 1) L' := by
      by_cases c : p.2 ∈ L.map (·.2)
      · rw [c1 c]; exact g.same hp c
      · exact g.more hp (c2 c)
    have hkp2 : ∀ b o, h0.get? b = some o → h'.get? b = some o := fun b o e => (hsb.2 b (fun z => by rw [z, hS0] at e; cases e)).trans (hkp' b o e)
    refine wpAny_pure ⟨plainId_quiet PyProof.Rows.F.plain_set_update_loop _, ih (i + 1) _ (by omega) hlt (W.frame _ s' _ _ hst' (Nat.le_add_right _ _) fun b hb o e => ?_) hkp2 ⟨L', es', ep', t', hS2, g'⟩ fun s'' L2 es2 ep2 t2 hm'' hS'' g'' hkp'' => ?_⟩
    · rw [hsb.2 b (fun h : b = S => hSf (by rw [← h]; exact hb))]
      exact e
    · refine hR s'' L2 es2 ep2 t2 (Moved.trans W.gtrans ((hm.mono hsub).then_heap (Nat.le_add_right _ _) fun b o hb e => ?_) hm'') hS'' g'' hkp''
      rw [hsb.2 b (fun h : b = S => hb (by rw [h]; exact List.mem_cons_self))]
      exact e

/-- what a new set is -/
abbrev newSetObj (w : World) : Obj := { cls := .type "set", dict := none, data := .set #[] 0 (.fresh 0 0 (!w.params.followText "set-order")) }
/-- its filling: what set.__init__ does with a list or a tuple that is walked by W -/
theorem set_of {vv : Value} {items : Array Value} (ks : List (Addr × List Int)) (U : List (List Int)) (hU : U.length ≤ 64) (hkU : ∀ p ∈ ks, p.2 ∈ U) {Q : Value → Shared → Prop}
    (hu : A.units + 3 < cLine)
    (hinit : ∀ (R : Result → Shared → Prop), (∀ (h' : Heap) (tk : Nat) L es ep t, SQ P w h' s.heap.objs.size L es ep t → Got ks ks.length L → (∀ b o, s.heap.get? b = some o → h'.get? b = some o) → R (.ok (.ret .none)) { s with heap := h', toks := tk }) →
      wpAny (model P w) A.in1.in1 (Builtin.«set.__init__» ⟨[.ref s.heap.objs.size, vv], []⟩) (fun fin s' => match fin with | .done f => R (.ok f) s' | .again c' => c'.quiet = true ∧ codeAny (model P w) A.in1 c' R s') (fun e s' => R (.error e) s') { s with heap := s.heap.push (newSetObj w) })
    (h : ∀ (h' : Heap) (tk : Nat) L es ep t, SQ P w h' s.heap.objs.size L es ep t → Got ks ks.length L → (∀ b o, s.heap.get? b = some o → h'.get? b = some o) → Q (.ref s.heap.objs.size) { s with heap := h', toks := tk }) :
    wpAny (model P w) A (call (.type "set") [vv]) Q E s := by
  obtain ⟨c, tl, hmro⟩ := PySem.F.called_set.mro
  have hmade := PySem.F.called_set.made
  have hsub := PySem.F.called_set.sub
  refine wpAny_call (codeAny_of_tree ?_)
  show wpAny _ _ (callAny (.type "set") _) _ _ _
  refine wpAny_pure ⟨Code.quiet_builtin _ (by decide +kernel), codeAny_builtin PySem.F.entry_type_call ?_⟩
  rw [Around.under_plain (weight_type_call_type "set" [vv] []) rfl]
  have h1 := PySem.F.called_set.notType
  have h2 := PySem.F.called_set.canCreate
  have hct := PySem.F.typeCall_set_1 vv
  repeat (any_goals (first | assumption | wp_step))
  refine codeAny_mono (code_set_led1 vv (E := E) (Q₁ := fun obj s₁ => obj = .ref s.heap.objs.size ∧ s₁ = { s with heap := s.heap.push (newSetObj w) }) ⟨rfl, rfl⟩) fun r s₁ hr => ?_
  cases r with
  | error e => exact hr
  | ok fl =>
    cases fl with
    | ret obj =>
      obtain ⟨rfl, rfl⟩ := hr
      have hS : (s.heap.push (newSetObj w)).get? s.heap.objs.size = some (newSetObj w) := Heap.get?_push_size _ rfl
      have hT : Shared.TypeIs { s with heap := s.heap.push (newSetObj w) } (.ref s.heap.objs.size) "set" := ⟨_, hS, rfl⟩
      have hli := PySem.F.called_set.init.lookup
      have hbi := PySem.F.called_set.init.bind (.ref s.heap.objs.size)
      repeat (any_goals (first | assumption | wp_step))
      refine codeAny_mono (codeAny_call_builtin (R := wants (fun r s₂ => r = .none ∧ ∃ h' tk L es ep t, s₂ = { s with heap := h', toks := tk } ∧ SQ P w h' s.heap.objs.size L es ep t ∧ Got ks ks.length L ∧
          (∀ b o, s.heap.get? b = some o → h'.get? b = some o)) E) PySem.F.called_set.init.plain PySem.F.entry_set_init (check_set_init_1 hT ?_)) fun r₂ s₂ hr₂ => ?_
      · exact hinit _ fun h' tk L es ep t a1 a2 a3 => ⟨rfl, h', tk, L, es, ep, t, rfl, a1, a2, a3⟩
      · cases r₂ with
        | error e => exact hr₂
        | ok fl₂ =>
          cases fl₂ with
          | ret r =>
            obtain ⟨rfl, h', tk, L, es, ep, t, rfl, hS', g', hk'⟩ := hr₂
            repeat (any_goals (first | assumption | wp_step))
            exact h _ _ _ _ _ _ hS' g' hk'
          | _ => exact hr₂.elim
    | _ => exact hr.elim
end
end GZ
end

section
set_option Elab.async false
set_option linter.all false
set_option maxRecDepth 100000
set_option maxHeartbeats 3200000
namespace GZ
open PySem PySem.Spec PyProof.Rows L2
section
variable {P : Program} {w : World} {A : Around} {E : Value → Shared → Prop} {s : Shared}

/-- set(xs), xs a list of tuples of ints, among at most 64 -/
theorem call_set_lst {l : Addr} {items : Array Value} (ks : List (Addr × List Int)) (U : List (List Int)) (hU : U.length ≤ 64) (hkU : ∀ p ∈ ks, p.2 ∈ U) {Q : Value → Shared → Prop} (hh : A.handled = none) (hl : s.heap.IsList l items) (hit : items.toList = ks.map fun p => Value.ref p.1)
    (hk : ∀ p ∈ ks, IsT P w s.heap p.2 p.1) (hu : A.units + 3 < cLine)
    (h : ∀ (h' : Heap) (tk : Nat) L es ep t, SQ P w h' s.heap.objs.size L es ep t → Got ks ks.length L → (∀ b o, s.heap.get? b = some o → h'.get? b = some o) → Q (.ref s.heap.objs.size) { s with heap := h', toks := tk }) :
    wpAny (model P w) A (call (.type "set") [.ref l]) Q E s := by
  have hisz : items.size = ks.length := by
    have q := congrArg List.length hit
    rw [Array.length_toList, List.length_map] at q
    exact q
  refine set_of (items := items) ks U hU hkU hu (fun R hR => ?_) h
  have hl0 := hl
  obtain ⟨ol, hol, hcl, nl, hdl⟩ := hl
  obtain ⟨ocls, odict, odata, oslots⟩ := ol
  simp only at hcl hdl
  subst hcl
  subst hdl
  have hol' : (s.heap.push (newSetObj w)).get? l = some { cls := .type "list", dict := odict, data := .seq items nl, slots := oslots } := Heap.get?_push_of_some _ hol
  have hsls := PySem.F.sub_list_set
  have hslf := PySem.F.sub_list_frozenset
  have hne : (Value.type "list" == Value.type "dict") = false := by decide
  have hl1 : (s.heap.push (newSetObj w)).IsList l items := ⟨_, hol', rfl, nl, rfl⟩
  unfold Builtin.«set.__init__» noKeywords Builtin.Frozenset.updateFrom
  generalize hPI : pyIter = PI
  wp_walk
  subst hPI
  refine wpAny_pyIter_list hl1 ?_
  refine wpAny_bind (wpAny_runValue ?_)
  have hlS : l < s.heap.objs.size := Heap.lt_size hol
  have hh3 : A.in1.in1.in1.handled = none := by simp [hh]
  have hneI : l ≠ (s.heap.push (newSetObj w)).objs.size := by
    rw [Heap.size_push]; exact Nat.ne_of_lt (Nat.lt_succ_of_lt hlS)
  have hSf : s.heap.objs.size ∉ [(s.heap.push (newSetObj w)).objs.size, l] := by
    rw [Heap.size_push]; simp only [List.mem_cons, List.mem_singleton, List.not_mem_nil, or_false, not_or]
    exact ⟨Nat.ne_of_lt (Nat.lt_succ_self _), Nat.ne_of_gt hlS⟩
  have hval : ∀ (i : Nat) (v : Value), items[i]? = some v → ∃ p, ks[i]? = some p ∧ v = .ref p.1 := fun i v hv => by
    have q : items.toList[i]? = some v := by rw [Array.getElem?_toList]; exact hv
    rw [hit, List.getElem?_map] at q
    cases hq : ks[i]? with
    | none => rw [hq] at q; cases q
    | some p =>
      rw [hq] at q
      exact ⟨p, rfl, (Option.some.inj q).symm⟩
  have none_of : ∀ b, s.heap.objs.size ≤ b → s.heap.get? b = none := fun b hb => by
    cases q : s.heap.get? b with
    | none => rfl
    | some o => exact absurd (Nat.lt_of_lt_of_le (Heap.lt_size q) hb) (Nat.lt_irrefl _)
  refine upd_loop ((Walks.list hh3 _ l hneI items).toS) s.heap.objs.size
    hSf ks U hU hkU hisz hval s.heap hk (none_of _ (Nat.le_refl _)) (fun b hb => none_of b (by
      rw [List.mem_singleton.mp hb, Heap.size_push]
      exact Nat.le_succ _)) hu (items.size - 0) 0 _ (by omega) (Nat.zero_le _)
    ⟨⟨_, Heap.get?_push_size _ rfl, rfl, rfl⟩, (hl1.push _)⟩ (fun b o e => Heap.get?_push_of_some _ (Heap.get?_push_of_some _ e)) ?hS0 ?hR
  case hS0 =>
    have hget : ((s.heap.push (newSetObj w)).push { cls := .type "list_iterator", data := .fields #[.ref l, .int 0 0] }).get? s.heap.objs.size = some (newSetObj w) := Heap.get?_push_of_some _ (Heap.get?_push_size _ rfl)
    exact ⟨[], #[], 0, _, SQ.ofH (setTR_fresh hget), Got.zero ks⟩
  case hR =>
    intro s' L es ep t hm hS' g' hkp
    obtain ⟨h', g2, d', tk', os'⟩ := s'
    have eg : g2 = s.gens := hm.gens
    have ed : d' = s.drawn := hm.drawn
    have eo : os' = s.os := hm.os
    subst eg
    subst ed
    subst eo
    show wpAny _ _ _ _ _ _
    refine wpAny_pure ?_
    show wpAny _ _ (ret Value.none) _ _ _
    rw [hisz] at g'
    exact wpAny_pure (hR h' tk' L es ep t hS' g' hkp)

/-- set(xs), xs a tuple of tuples of ints, among at most 64 -/
theorem call_set_tup {l : Addr} {items : Array Value} (ks : List (Addr × List Int)) (U : List (List Int)) (hU : U.length ≤ 64) (hkU : ∀ p ∈ ks, p.2 ∈ U) {Q : Value → Shared → Prop} (hh : A.handled = none) (hl : s.heap.IsTuple l items) (hit : items.toList = ks.map fun p => Value.ref p.1)
    (hk : ∀ p ∈ ks, IsT P w s.heap p.2 p.1) (hu : A.units + 3 < cLine)
    (h : ∀ (h' : Heap) (tk : Nat) L es ep t, SQ P w h' s.heap.objs.size L es ep t → Got ks ks.length L → (∀ b o, s.heap.get? b = some o → h'.get? b = some o) → Q (.ref s.heap.objs.size) { s with heap := h', toks := tk }) :
    wpAny (model P w) A (call (.type "set") [.ref l]) Q E s := by
  have hisz : items.size = ks.length := by
    have q := congrArg List.length hit
    rw [Array.length_toList, List.length_map] at q
    exact q
  refine set_of (items := items) ks U hU hkU hu (fun R hR => ?_) h
  have hl0 := hl
  obtain ⟨ol, hol, hcl, nl, hdl⟩ := hl
  obtain ⟨ocls, odict, odata, oslots⟩ := ol
  simp only at hcl hdl
  subst hcl
  subst hdl
  have hol' : (s.heap.push (newSetObj w)).get? l = some { cls := .type "tuple", dict := odict, data := .seq items nl, slots := oslots } := Heap.get?_push_of_some _ hol
  have hsls := PySem.F.sub_tuple_set
  have hslf := PySem.F.sub_tuple_frozenset
  have hne : (Value.type "tuple" == Value.type "dict") = false := by decide
  have hl1 : (s.heap.push (newSetObj w)).IsTuple l items := ⟨_, hol', rfl, nl, rfl⟩
  unfold Builtin.«set.__init__» noKeywords Builtin.Frozenset.updateFrom
  generalize hPI : pyIter = PI
  wp_walk
  subst hPI
  refine wpAny_pyIter_tuple hl1 ?_
  refine wpAny_bind (wpAny_runValue ?_)
  have hlS : l < s.heap.objs.size := Heap.lt_size hol
  have hh3 : A.in1.in1.in1.handled = none := by simp [hh]
  have hneI : l ≠ (s.heap.push (newSetObj w)).objs.size := by
    rw [Heap.size_push]; exact Nat.ne_of_lt (Nat.lt_succ_of_lt hlS)
  have hSf : s.heap.objs.size ∉ [(s.heap.push (newSetObj w)).objs.size, l] := by
    rw [Heap.size_push]; simp only [List.mem_cons, List.mem_singleton, List.not_mem_nil, or_false, not_or]
    exact ⟨Nat.ne_of_lt (Nat.lt_succ_self _), Nat.ne_of_gt hlS⟩
  have hval : ∀ (i : Nat) (v : Value), items[i]? = some v → ∃ p, ks[i]? = some p ∧ v = .ref p.1 := fun i v hv => by
    have q : items.toList[i]? = some v := by rw [Array.getElem?_toList]; exact hv
    rw [hit, List.getElem?_map] at q
    cases hq : ks[i]? with
    | none => rw [hq] at q; cases q
    | some p =>
      rw [hq] at q
      exact ⟨p, rfl, (Option.some.inj q).symm⟩
  have none_of : ∀ b, s.heap.objs.size ≤ b → s.heap.get? b = none := fun b hb => by
    cases q : s.heap.get? b with
    | none => rfl
    | some o => exact absurd (Nat.lt_of_lt_of_le (Heap.lt_size q) hb) (Nat.lt_irrefl _)
  refine upd_loop ((Walks.tuple hh3 _ l hneI items).toS) s.heap.objs.size
    hSf ks U hU hkU hisz hval s.heap hk (none_of _ (Nat.le_refl _)) (fun b hb => none_of b (by
      rw [List.mem_singleton.mp hb, Heap.size_push]
      exact Nat.le_succ _)) hu (items.size - 0) 0 _ (by omega) (Nat.zero_le _)
    ⟨⟨_, Heap.get?_push_size _ rfl, rfl, rfl⟩, (hl1.push _)⟩ (fun b o e => Heap.get?_push_of_some _ (Heap.get?_push_of_some _ e)) ?hS0 ?hR
  case hS0 =>
    have hget : ((s.heap.push (newSetObj w)).push { cls := .type "tuple_iterator", data := .fields #[.ref l, .int 0 0] }).get? s.heap.objs.size = some (newSetObj w) := Heap.get?_push_of_some _ (Heap.get?_push_size _ rfl)
    exact ⟨[], #[], 0, _, SQ.ofH (setTR_fresh hget), Got.zero ks⟩
  case hR =>
    intro s' L es ep t hm hS' g' hkp
    obtain ⟨h', g2, d', tk', os'⟩ := s'
    have eg : g2 = s.gens := hm.gens
    have ed : d' = s.drawn := hm.drawn
    have eo : os' = s.os := hm.os
    subst eg
    subst ed
    subst eo
    show wpAny _ _ _ _ _ _
    refine wpAny_pure ?_
    show wpAny _ _ (ret Value.none) _ _ _
    rw [hisz] at g'
    exact wpAny_pure (hR h' tk' L es ep t hS' g' hkp)
end
end GZ
end

section
set_option Elab.async false
set_option linter.all false
set_option maxRecDepth 100000
set_option maxHeartbeats 3200000
namespace GZ
open PySem PySem.Spec PyProof.Rows L2 Ly GY
def kOf (c : C3) : List Int := [c.1, c.2.1, c.2.2]
theorem kOf_inj {a b : C3} (h : kOf a = kOf b) : a = b := by
  unfold kOf at h
  injection h with h1 h2
  injection h2 with h2 h3
  injection h3 with h3 _
  exact c3_ext h1 h2 h3
abbrev kL (L : List (Addr × C3)) : List (Addr × List Int) := L.map fun p => (p.1, kOf p.2)
section
variable {P : Program} {w : World} {A : Around} {E : Value → Shared → Prop} {s : Shared}
theorem reads_c {h : Heap} {b : Addr} {c : C3} (x : IsT P w h (kOf c) b) : Reads h (.ref b) (cD c) [] := by
  obtain ⟨o, items, n, ho, hc, hd, hi⟩ := x
  refine .tuple ho hc hd ?_
  have hi2 : IntsAre items.toList (kOf c) := ints_of_items hi
  generalize items.toList = vs at hi2
  unfold kOf at hi2
  cases hi2 with
  | cons n1 t1 h2 =>
    cases h2 with
    | cons n2 t2 h3 =>
      cases h3 with
      | cons n3 t3 h4 =>
        cases h4
        exact .cons (.int _ _) (.cons (.int _ _) (.cons (.int _ _) .nil))
/-- sorted of a set of cells -/
theorem sorted_q {a : Addr} {L : List (Addr × C3)} {es : Array (Int × Value)} {ep : Nat} {t : SetTable} {Q : Value → Shared → Prop} (R : SQ P w s.heap a (kL L) es ep t) (hh : A.handled = none) (hu : A.units + 8 < cLine)
    (hQ : ∀ s' p (out : Array Value) (c : Nat) (L' : List (Addr × C3)), (∀ b o, s.heap.get? b = some o → s'.heap.get? b = some o) → s'.gens = s.gens → s'.os = s.os → s.heap.objs.size ≤ p →
      s'.heap.get? p = some (seqObj "list" out c) → out.toList = L'.map (fun q => Value.ref q.1) → L'.Perm L → L'.Pairwise (fun q r => ¬ lt3 r.2 q.2) → Q (.ref p) s') :
    wpAny (model P w) A (call (.builtin "sorted") [.ref a]) Q E s := by
  obtain ⟨o, ho, hex, hd⟩ := R.ob
  have hsz := R.size
  have hfew := R.few
  rw [List.length_map] at hsz hfew
  refine Calls.call_function_entry kind_sorted plain_sorted entry_sorted (args_sorted1 _) ?_
  unfold Builtin.«sorted»
  refine wpAny_bind (m := checkCount "sorted" 1 1 _) (wpAny_pure ?_)
  refine wpAny_bind (collect_set (A := A.in1) hh ⟨o, ho, hex.1, hd⟩ R.fits (by unfold scanBound; omega) R.tab.ris R.led fun s1 vs k1 hz g1 o1 pm => ?_)
  have hes : es.toList.map (·.2) = L.map fun q => Value.ref q.1 := by
    rw [R.rows]
    unfold rowsOf
    rw [List.map_map, List.map_map] <;> rfl
  rw [hes] at pm
  have ord : ∀ vs : List Value, (∀ v ∈ vs, ∃ q ∈ L, v = Value.ref q.1) → ∃ L1 : List (Addr × C3), vs = L1.map (fun q => Value.ref q.1) ∧ ∀ q ∈ L1, q ∈ L := by
    intro vs
    induction vs with
    | nil => exact fun _ => ⟨[], rfl, fun q hq => (by cases hq)⟩
    | cons v vs ih =>
      intro hv
      obtain ⟨q, hq, e⟩ := hv v List.mem_cons_self
      obtain ⟨L1, e1, hs⟩ := ih fun u hu => hv u (List.mem_cons_of_mem _ hu)
      refine ⟨q :: L1, by rw [List.map_cons, e, e1], fun r hr => ?_⟩
      rcases List.mem_cons.mp hr with z | z
      · rw [z]; exact hq
      · exact hs r z
  have tupL : ∀ q ∈ L, IsT P w s.heap (kOf q.2) q.1 := fun q hq => R.tup (q.1, kOf q.2) (List.mem_map.mpr ⟨q, hq, rfl⟩)
  have one : ∀ q ∈ L, ∀ r ∈ L, q.1 = r.1 → q = r := fun q hq r hr e => by
    have a1 := tupL q hq
    have a2 := tupL r hr
    rw [e] at a1
    exact Prod.ext e (kOf_inj (a1.inj a2))
  have nL : L.Nodup := by
    have q := nodup_of_map R.nd
    exact nodup_of_map q
  have nref : (L.map fun q => Value.ref q.1).Nodup := by
    refine List.pairwise_map.mpr (List.Pairwise.imp_of_mem (fun {q r} hq hr hne e => ?_) nL)
    injection e with e
    exact hne (one q hq r hr e)
  have perm_of : ∀ L1 : List (Addr × C3), (∀ q ∈ L1, q ∈ L) → (L1.map (fun q => Value.ref q.1)).Perm (L.map fun q => Value.ref q.1) → L1.Perm L := by
    intro L1 hs pm1
    have n1 : L1.Nodup := nodup_of_map (pm1.nodup_iff.mpr nref)
    refine (List.perm_ext_iff_of_nodup n1 nL).mpr fun q => ⟨hs q, fun hq => ?_⟩
    have hm : Value.ref q.1 ∈ L1.map (fun q => Value.ref q.1) := pm1.mem_iff.mpr (List.mem_map.mpr ⟨q, hq, rfl⟩)
    obtain ⟨r, hr, e⟩ := List.mem_map.mp hm
    injection e with e
    rw [← one r (hs r hr) q hq e]
    exact hr
  obtain ⟨L1, e1, hs1⟩ := ord vs fun v hv => by
    obtain ⟨q, hq, e⟩ := List.mem_map.mp (pm.mem_iff.mp hv)
    exact ⟨q, hq, e.symm⟩
  have pm1 : L1.Perm L := perm_of L1 hs1 (by rw [← e1]; exact pm)
  have hvl : vs.length ≤ 64 := by rw [pm.length_eq, List.length_map]; exact hfew
  refine wpAny_bind (wpAny_newList ?_ (by rw [sizeLine_eq]; omega))
  have hoL : (s1.heap.push (seqObj "list" vs.toArray 0)).get? s1.heap.objs.size = some (seqObj "list" vs.toArray 0) := Heap.get?_push_size _ rfl
  have tk : ∀ q ∈ L, Reads (s1.heap.push (seqObj "list" vs.toArray 0)) (.ref q.1) (cD q.2) [] := fun q hq => reads_c (P := P) (w := w) (isT_keep (tupL q hq) fun b u e => Heap.get?_push_of_some _ (k1 b u e))
  have ea : ∀ (L1 : List (Addr × C3)), PySem.W.EachIs (fun (v : Value) (b : Addr × C3) => v = .ref b.1) (L1.map fun q => Value.ref q.1) L1 := by
    intro L1
    induction L1 with
    | nil => exact .nil
    | cons q L1 ih => exact .cons rfl ih
  have er : ∀ (L1 : List (Addr × C3)), (∀ q ∈ L1, q ∈ L) → PySem.W.EachIs (fun (v : Value) (b : Addr × C3) => ∃ as, Reads (s1.heap.push (seqObj "list" vs.toArray 0)) v ((fun b : Addr × C3 => cD b.2) b) as ∧ s1.heap.objs.size ∉ as) (L1.map fun q => Value.ref q.1) L1 := by
    intro L1
    induction L1 with
    | nil => exact fun _ => .nil
    | cons q L1 ih => exact fun hs => .cons ⟨[], tk q (hs q List.mem_cons_self), by simp⟩ (ih fun r hr => hs r (List.mem_cons_of_mem _ hr))
  have hl1 : L1.length = vs.length := by rw [e1, List.length_map]
  refine wpAny_bind (wpAny_holding (PySem.W.list_sort_data (s := { s1 with heap := s1.heap.push (seqObj "list" vs.toArray 0) }) (enc := fun b : Addr × C3 => cD b.2) (R := fun (v : Value) (b : Addr × C3) => v = .ref b.1) (bs := L1) (vs := vs) hoL (by rw [e1]; exact ea L1) (by have q := er L1 hs1; rw [← e1] at q; exact q)
    (PySem.W.AllAlike.of fun b b' => cD_alike _ _) (PySem.W.Sortable.tuples fun b => ⟨_, _, rfl⟩) (by rw [hl1, sizeLine_eq]; omega) (fun b _ => by rw [cD_depth]; show A.units + 1 + 1 + 1 < _; omega) fun out ho2 eo => ?_))
  obtain ⟨c, hc⟩ := sortedHeap_at (vs := vs) (out := out.toArray) hoL
  rw [leC] at eo
  have pm2 := List.mergeSort_perm L1 (fun a b => decide (¬ lt3 b.2 a.2))
  have so := List.pairwise_mergeSort (le := fun (a b : Addr × C3) => decide (¬ lt3 b.2 a.2)) (fun a b c => le_trans3 a.2 b.2 c.2) (fun a b => le_total3 a.2 b.2) L1
  have out_of : ∀ {us : List Value} {bs : List (Addr × C3)}, PySem.W.EachIs (fun (v : Value) (b : Addr × C3) => v = .ref b.1) us bs → us = bs.map fun q => Value.ref q.1 := by
    intro us bs h
    induction h with
    | nil => rfl
    | cons h1 _ ih => rw [h1, ih] <;> rfl
  refine wpAny_pure ⟨_, rfl, hQ _ s1.heap.objs.size out.toArray c _ (fun b u e => ?_) g1 o1 hz hc (by rw [List.toList_toArray]; exact out_of eo) (pm2.trans pm1) (List.Pairwise.imp (fun {a b} h => by simpa using h) so)⟩
  have q := k1 b u e
  have hlt := Heap.lt_size q
  show (sortedHeap (s1.heap.push (seqObj "list" vs.toArray 0)) s1.heap.objs.size vs out.toArray).get? b = some u
  rw [sortedHeap_old (Nat.ne_of_lt hlt) (by rw [size_push']; exact Nat.lt_succ_of_lt hlt)]
  exact Heap.get?_push_of_some _ q
end

/-! ### over the layer -/
structure SQ0 (P : Program) (w : World) (h : Heap) (a : Addr) (L : List (Addr × C3)) : Prop where
  ex : ∃ (es : Array (Int × Value)) (ep : Nat) (t : SetTable), (∃ o, h.get? a = some o ∧ o.ExactSet ∧ o.data = .set es ep t) ∧ es.toList = rowsOf P w (kL L) ∧ TabOk t ((kL L).map fun p => thash P w p.2) ∧ ((kL L).map (·.2)).Nodup ∧ t.plain = true ∧
    (w.params.followText "set-order" = true ∨ t.led = true) ∧ (kL L).length * 5 < t.mask * 3 ∧ (kL L).length ≤ 64
def SQO (P : Program) (w : World) (a : Addr) (L : List (Addr × C3)) : HO := .ext fun h => SQ0 P w h a L
theorem SQ.t0 {P : Program} {w : World} {h : Heap} {a : Addr} {L : List (Addr × C3)} {es : Array (Int × Value)} {ep : Nat} {t : SetTable} (R : SQ P w h a (kL L) es ep t) : SQ0 P w h a L :=
  ⟨es, ep, t, R.ob, R.rows, R.tab, R.nd, R.plain, R.led, R.room, R.few⟩
theorem SQ0.full {P : Program} {w : World} {h : Heap} {a : Addr} {L : List (Addr × C3)} (R : SQ0 P w h a L) (ht : ∀ p ∈ kL L, IsT P w h p.2 p.1) : ∃ es ep t, SQ P w h a (kL L) es ep t := by
  obtain ⟨es, ep, t, h1, h2, h3, h4, h5, h6, h7, h8⟩ := R.ex
  exact ⟨es, ep, t, h1, h2, h3, h4, ht, h5, h6, h7, h8⟩
theorem sqo_new {P : Program} {w : World} {H : Hp} {h : Heap} {a : Addr} {L : List (Addr × C3)} (R : SQ0 P w h a L) : ObjOk P w H h a (SQO P w a L) := by
  have ⟨es, ep, t, ⟨o, ho, r⟩, q⟩ := R.ex
  refine ⟨R, ⟨o, ho⟩, fun h1 h2 p k => ?_⟩
  have ⟨es', ep', t', ⟨o', ho', r'⟩, q'⟩ := SQ0.ex p
  exact ⟨es', ep', t', ⟨o', k o' ho', r'⟩, q'⟩
/-- the addresses of the cells -/
theorem addrs_of {K : PySem.W.Frag} {H : Hp} : ∀ {xs : List V} {cs : List C3}, Items K H xs cs → ∃ L : List (Addr × C3), xs = L.map (fun p => V.ref p.1) ∧ L.map (·.2) = cs ∧ ∀ p ∈ L, SqT K H p.1 ((kOf p.2).map V.int)
  | [], [], _ => ⟨[], rfl, rfl, fun p hp => (by cases hp)⟩
  | [], _ :: _, h => by cases h
  | _ :: _, [], h => by cases h
  | x :: xs, c :: cs, h => by
    cases h with
    | cons h1 h2 =>
      obtain ⟨p, e, hs⟩ := of_dp_c h1
      obtain ⟨L, e1, e2, e3⟩ := addrs_of (xs := xs) (cs := cs) h2
      refine ⟨(p, c) :: L, by rw [e, e1] <;> rfl, by rw [← e2] <;> rfl, fun q hq => ?_⟩
      rcases List.mem_cons.mp hq with z | z
      · rw [z]; exact hs
      · exact e3 q z
section
variable {X : Cx}
theorem roomK : (room.map kOf).length ≤ 64 := by
  rw [List.length_map]
  unfold room
  simp
/-- set(xs), xs a list or a tuple of cells in the room -/
def rSetC (K : PySem.W.Frag) (P : Program) (w : World) : List V → Hp → VK → Prop := fun vs H Q => ∃ (v : V) (cs : List C3), vs = [v] ∧ (CellsL K H v cs ∨ CellsT K H v cs) ∧ (∀ c ∈ cs, InR c) ∧
  ∀ a (L : List (Addr × C3)), H a = none → (∀ p ∈ L, p.2 ∈ cs ∧ SqT K H p.1 ((kOf p.2).map V.int)) → (∀ c ∈ cs, c ∈ L.map (·.2)) → Q (.ref a) (upd H a (SQO P w a L))
theorem unk {ks L : List (Addr × C3)} {M : List (Addr × List Int)} (g : Got (kL ks) (kL ks).length M) : ∃ L : List (Addr × C3), M = kL L ∧ (∀ p ∈ L, p ∈ ks) ∧ ∀ p ∈ ks, p.2 ∈ L.map (·.2) := by
  have key : ∀ M : List (Addr × List Int), (∀ p ∈ M, p ∈ kL ks) → ∃ L : List (Addr × C3), M = kL L ∧ ∀ p ∈ L, p ∈ ks := by
    intro M
    induction M with
    | nil => exact fun _ => ⟨[], rfl, fun p hp => (by cases hp)⟩
    | cons m M ih =>
      intro h
      obtain ⟨p, hp, e⟩ := List.mem_map.mp (h m List.mem_cons_self)
      obtain ⟨L, e1, e2⟩ := ih fun q hq => h q (List.mem_cons_of_mem _ hq)
      refine ⟨p :: L, by rw [← e, e1] <;> rfl, fun q hq => ?_⟩
      rcases List.mem_cons.mp hq with z | z
      · rw [z]; exact hp
      · exact e2 q z
  obtain ⟨L, e1, e2⟩ := key M fun p hp => List.mem_of_mem_take (g.sub p hp)
  refine ⟨L, e1, e2, fun p hp => ?_⟩
  have q := g.all (p.1, kOf p.2) (by rw [List.take_length]; exact List.mem_map.mpr ⟨p, hp, rfl⟩)
  rw [e1] at q
  obtain ⟨m, hm, e⟩ := List.mem_map.mp q
  obtain ⟨r, hr, e3⟩ := List.mem_map.mp hm
  refine List.mem_map.mpr ⟨r, hr, kOf_inj ?_⟩
  rw [← e3] at e
  exact e
theorem cr_setC (hc : X.calm = true) (hu : X.A.units + 64 < cLine) : CallR X (.type "set") (rSetC X.K X.prog X.w) := by
  intro pins s σ H xs us Q I r h
  obtain ⟨v, cs, rfl, hcs, hin, q⟩ := h
  have hn : H s.heap.objs.size = none := I.hok.fresh (Nat.le_refl _)
  have fin : ∀ (ks : List (Addr × C3)), ks.map (·.2) = cs → (∀ p ∈ ks, SqT X.K H p.1 ((kOf p.2).map V.int)) → ∀ (h' : Heap) (tk : Nat) M es ep t, SQ X.prog X.w h' s.heap.objs.size M es ep t → Got (kL ks) (kL ks).length M → (∀ b o, s.heap.get? b = some o → h'.get? b = some o) →
      EP X pins σ Q (.ref s.heap.objs.size) { s with heap := h', toks := tk } := fun ks ek hk h' tk M es ep t R g k => by
    obtain ⟨L, e1, e2, e3⟩ := unk (L := []) g
    subst e1
    refine ⟨.ref s.heap.objs.size, upd H s.heap.objs.size (SQO X.prog X.w s.heap.objs.size L), I.laid (t' := tk) k (Nat.le_refl _) (sqo_new R.t0), rfl, q _ L hn (fun p hp => ⟨?_, hk p (e2 p hp)⟩) fun c hc => ?_⟩
    · rw [← ek]
      exact List.mem_map.mpr ⟨p, e2 p hp, rfl⟩
    · rw [← ek] at hc
      obtain ⟨p, hp, e⟩ := List.mem_map.mp hc
      rw [← e]
      exact e3 p hp
  have inU : ∀ (ks : List (Addr × C3)), ks.map (·.2) = cs → ∀ p ∈ kL ks, p.2 ∈ room.map kOf := fun ks ek p hp => by
    obtain ⟨r, hr, e⟩ := List.mem_map.mp hp
    rw [← e]
    exact List.mem_map.mpr ⟨r.2, mem_room.mpr (hin r.2 (by rw [← ek]; exact List.mem_map.mpr ⟨r, hr, rfl⟩)), rfl⟩
  have isTs : ∀ (ks : List (Addr × C3)), (∀ p ∈ ks, SqT X.K H p.1 ((kOf p.2).map V.int)) → ∀ p ∈ kL ks, IsT X.prog X.w s.heap p.2 p.1 := fun ks hk p hp => by
    obtain ⟨r, hr, e⟩ := List.mem_map.mp hp
    rw [← e]
    exact I.isT (hk r hr)
  have refs : ∀ (ks : List (Addr × C3)) {its : List Value}, Vals (ks.map fun p => V.ref p.1) its → its = (kL ks).map fun p => Value.ref p.1 := by
    intro ks
    induction ks with
    | nil =>
      intro its h
      cases h
      rfl
    | cons p ks ih =>
      intro its h
      cases h with
      | cons h1 h2 =>
        cases h1
        rw [ih h2] <;> rfl
  cases r with
  | cons r1 r2 =>
    cases r2
    rcases hcs with hcs | hcs
    · obtain ⟨l, xs, rfl, hs, hi⟩ := of_cellsL hcs
      cases r1
      obtain ⟨ks, e1, e2, hk⟩ := addrs_of hi
      subst e1
      obtain ⟨its, rv, pl, hz⟩ := I.list hs
      exact call_set_lst (P := X.prog) (w := X.w) (kL ks) (room.map kOf) roomK (inU ks e2) (I.ok.hd hc) pl.isList (by simpa using refs ks rv) (isTs ks hk) (by omega) (fin ks e2 hk)
    · obtain ⟨l, xs, rfl, hs, hi⟩ := of_cellsT hcs
      cases r1
      obtain ⟨ks, e1, e2, hk⟩ := addrs_of hi
      subst e1
      obtain ⟨its, rv, pl, hz⟩ := I.tuple hs
      exact call_set_tup (P := X.prog) (w := X.w) (kL ks) (room.map kOf) roomK (inU ks e2) (I.ok.hd hc) (show s.heap.IsTuple l its.toArray from pl) (by simpa using refs ks rv) (isTs ks hk) (by omega) (fin ks e2 hk)
/-- sorted(set) -/
def rSortedQ (K : PySem.W.Frag) (P : Program) (w : World) : List V → Hp → VK → Prop := fun vs H Q => ∃ (a : Addr) (L : List (Addr × C3)), vs = [V.ref a] ∧ H a = some (SQO P w a L) ∧ (∀ p ∈ L, SqT K H p.1 ((kOf p.2).map V.int)) ∧
  ∀ (ys : List V) (ds : List C3) (p : Addr), ds.Perm (L.map (·.2)) → ds.Nodup → (ds.Pairwise fun a b => ¬ lt3 b a) → ds.length ≤ 64 → Items K H ys ds → H p = none → Q (.ref p) (upd H p (.lst ys))
theorem items_of {K : PySem.W.Frag} {H : Hp} : ∀ {L : List (Addr × C3)}, (∀ p ∈ L, SqT K H p.1 ((kOf p.2).map V.int)) → Items K H (L.map fun p => V.ref p.1) (L.map (·.2))
  | [], _ => .nil
  | p :: L, h => .cons (dp_c (h p List.mem_cons_self)) (items_of fun q hq => h q (List.mem_cons_of_mem _ hq))
theorem refs_vals : ∀ (L : List (Addr × C3)), Vals (L.map fun p => V.ref p.1) (L.map fun p => Value.ref p.1)
  | [] => .nil
  | p :: L => .cons rfl (refs_vals L)
theorem cr_sortedQ (hc : X.calm = true) (hu : X.A.units + 64 < cLine) : CallR X (.builtin "sorted") (rSortedQ X.K X.prog X.w) := by
  intro pins s σ H vs us Q I r h
  obtain ⟨a, L, rfl, ha, hk, q⟩ := h
  have R0 : SQ0 X.prog X.w s.heap a L := (I.hok a _ ha).1
  obtain ⟨es, ep, t, R⟩ := R0.full fun p hp => by
    obtain ⟨r, hr, e⟩ := List.mem_map.mp hp
    rw [← e]
    exact I.isT (hk r hr)
  cases r with
  | cons r1 r2 =>
    cases r2
    cases r1
    refine sorted_q R (I.ok.hd hc) (by omega) fun s' p out c L' k g o hp hg hout pm pw => ?_
    have hfew : L'.length ≤ 64 := by
      have q := R.few
      rw [List.length_map] at q
      rw [pm.length_eq]
      exact q
    have hlen : (L'.map fun q => V.ref q.1).length ≤ sizeLine := by rw [List.length_map, sizeLine_eq]; omega
    have hn : H p = none := I.hok.fresh hp
    have hv : Vals (L'.map fun q => V.ref q.1) out.toList := by rw [hout]; exact refs_vals L'
    have J : Inv X pins σ (upd H p (.lst (L'.map fun q => V.ref q.1))) { s with heap := s'.heap, gens := s'.gens, drawn := s'.drawn, toks := s'.toks } :=
      I.call (ch := []) (Un.laid k hp hn) (I.hok.laid k hp ⟨hlen, out.toList, c, hv, hg⟩) (by rw [g]; exact I.bare) (fun _ z => nomatch z)
    have e : s' = { s with heap := s'.heap, gens := s'.gens, drawn := s'.drawn, toks := s'.toks } := by
      cases s'
      cases s
      cases o
      rfl
    rw [e]
    have nd : (L.map (·.2)).Nodup := by
      have q := R.nd
      have e : (kL L).map (·.2) = (L.map (·.2)).map kOf := by simp [kL]
      rw [e] at q
      exact nodup_of_map q
    refine ⟨.ref p, _, J, rfl, q _ (L'.map (·.2)) p (pm.map (·.2)) ((pm.map (·.2)).nodup_iff.mpr nd) ?_ (by rw [List.length_map]; exact hfew) (items_of fun q hq => hk q (pm.mem_iff.mp hq)) hn⟩
    exact List.Pairwise.map _ (fun a b h => h) pw
end
end GZ
end

section
set_option Elab.async false
set_option linter.all false
set_option maxRecDepth 100000
set_option maxHeartbeats 2000000
/-! min, max of a list of ints with default=. -/
namespace GW
open PySem PySem.Spec PyProof.Rows L2
theorem ints_at {vs : List Value} {ns : List Int} (h : IntsAre vs ns) : ∀ {i : Nat} {v : Value}, vs[i]? = some v → ∃ n t, ns[i]? = some n ∧ v = Value.int n t := by
  induction h with
  | nil => exact fun e => by simp at e
  | @cons n t vs ns _ ih =>
    intro i v e
    cases i with
    | zero =>
      have e : Value.int n t = v := by simpa using e
      exact ⟨n, t, rfl, e.symm⟩
    | succ i => exact ih (i := i) (by simpa using e)
theorem minI : ∀ (ys : List Int) (y : Int), PySem.W.minOf y ys ∈ y :: ys ∧ ∀ j ∈ y :: ys, PySem.W.minOf y ys ≤ j
  | [], y => ⟨List.mem_cons_self, fun j hj => by
      have e : j = y := List.mem_singleton.mp hj
      rw [e]
      exact Int.le_refl _⟩
  | z :: ys, y => by
    have e : PySem.W.minOf y (z :: ys) = PySem.W.minOf (if PySem.W.DatumOrd.lt z y = true then z else y) ys := rfl
    have hl : PySem.W.DatumOrd.lt z y = decide (z < y) := rfl
    rw [e, hl]
    obtain ⟨h1, h2⟩ := minI ys (if decide (z < y) = true then z else y)
    have h3 := h2 _ List.mem_cons_self
    refine ⟨?_, fun j hj => ?_⟩
    · rcases List.mem_cons.mp h1 with q | q
      · rw [q]
        split
        · exact List.mem_cons_of_mem _ List.mem_cons_self
        · exact List.mem_cons_self
      · exact List.mem_cons_of_mem _ (List.mem_cons_of_mem _ q)
    · rcases List.mem_cons.mp hj with q | q
      · subst q
        refine Int.le_trans h3 ?_
        split
        · rename_i c
          have := of_decide_eq_true c
          omega
        · exact Int.le_refl _
      · rcases List.mem_cons.mp q with q | q
        · subst q
          refine Int.le_trans h3 ?_
          split
          · exact Int.le_refl _
          · rename_i c
            have c : ¬ j < y := fun z => c (decide_eq_true z)
            omega
        · exact h2 j (List.mem_cons_of_mem _ q)
theorem maxI : ∀ (ys : List Int) (y : Int), PySem.W.maxOf y ys ∈ y :: ys ∧ ∀ j ∈ y :: ys, j ≤ PySem.W.maxOf y ys
  | [], y => ⟨List.mem_cons_self, fun j hj => by
      have e : j = y := List.mem_singleton.mp hj
      rw [e]
      exact Int.le_refl _⟩
  | z :: ys, y => by
    have e : PySem.W.maxOf y (z :: ys) = PySem.W.maxOf (if PySem.W.DatumOrd.lt y z = true then z else y) ys := rfl
    have hl : PySem.W.DatumOrd.lt y z = decide (y < z) := rfl
    rw [e, hl]
    obtain ⟨h1, h2⟩ := maxI ys (if decide (y < z) = true then z else y)
    have h3 := h2 _ List.mem_cons_self
    refine ⟨?_, fun j hj => ?_⟩
    · rcases List.mem_cons.mp h1 with q | q
      · rw [q]
        split
        · exact List.mem_cons_of_mem _ List.mem_cons_self
        · exact List.mem_cons_self
      · exact List.mem_cons_of_mem _ (List.mem_cons_of_mem _ q)
    · rcases List.mem_cons.mp hj with q | q
      · subst q
        refine Int.le_trans ?_ h3
        split
        · rename_i c
          have := of_decide_eq_true c
          omega
        · exact Int.le_refl _
      · rcases List.mem_cons.mp q with q | q
        · subst q
          refine Int.le_trans ?_ h3
          split
          · exact Int.le_refl _
          · rename_i c
            have c : ¬ y < j := fun z => c (decide_eq_true z)
            omega
        · exact h2 j (List.mem_cons_of_mem _ q)
section
variable {X : Cx}
def rMinD (K : PySem.W.Frag) : List V → List V → Hp → VK → Prop := fun xs zs H Q => ∃ (a : Addr) (ns : List Int) (d : Int), xs = [.ref a] ∧ zs = [.int d] ∧ SqL K H a (ns.map V.int) ∧ (ns = [] → Q (.int d) H) ∧ ∀ m, m ∈ ns → (∀ j ∈ ns, m ≤ j) → Q (.int m) H
def rMaxD (K : PySem.W.Frag) : List V → List V → Hp → VK → Prop := fun xs zs H Q => ∃ (a : Addr) (ns : List Int) (d : Int), xs = [.ref a] ∧ zs = [.int d] ∧ SqL K H a (ns.map V.int) ∧ (ns = [] → Q (.int d) H) ∧ ∀ m, m ∈ ns → (∀ j ∈ ns, j ≤ m) → Q (.int m) H
theorem ints_vals : ∀ {ns : List Int} {us : List Value}, Vals (ns.map V.int) us → IntsAre us ns
  | [], _, .nil => .nil
  | n :: ns, _, .cons r t => by
    obtain ⟨tk, rfl⟩ := r
    exact .cons n tk (ints_vals t)
theorem cr_minD (hc : X.calm = true) (hu : X.A.units + 64 < cLine) : CallRK X (.builtin "min") ["default"] (rMinD X.K) := by
  intro pins s σ H xs zs us ws Q I r1 r2 h
  obtain ⟨a, ns, d, rfl, rfl, hs, q0, q1⟩ := h
  cases r1 with
  | cons r1 t1 =>
    cases t1
    cases r1
    cases r2 with
    | cons r2 t2 =>
      cases t2
      obtain ⟨td, rfl⟩ := r2
      obtain ⟨its, rv, pl, hz⟩ := I.list hs
      have ia := ints_vals rv
      refine PySem.W.min_list_datum_default (α := Int) (xs := ns) (I.ok.hd hc) pl.isList (PySem.W.HoldAll.of_ints (by simpa using ia)) (by show X.A.units + 1 + 0 < cLine; omega) (fun e h' tk k => ?_) fun y ys i v h' tk e hi hh k => ?_
      · exact ⟨.int d, H, I.kept (t' := tk) k, ⟨td, rfl⟩, q0 e⟩
      · obtain ⟨n, t, hn, rfl⟩ := ints_at ia (i := i) (v := v) (by simpa using hi)
        have e2 : n = PySem.W.minOf y ys := by
          obtain ⟨as, rd⟩ := hh
          have rd : Reads h' (Value.int n t) (.int (PySem.W.minOf y ys)) as := rd
          cases rd
          rfl
        obtain ⟨m1, m2⟩ := minI ys y
        subst e
        exact ⟨.int n, H, I.kept (t' := tk) k, ⟨t, rfl⟩, q1 n (by rw [e2]; exact m1) (by rw [e2]; exact m2)⟩
theorem cr_maxD (hc : X.calm = true) (hu : X.A.units + 64 < cLine) : CallRK X (.builtin "max") ["default"] (rMaxD X.K) := by
  intro pins s σ H xs zs us ws Q I r1 r2 h
  obtain ⟨a, ns, d, rfl, rfl, hs, q0, q1⟩ := h
  cases r1 with
  | cons r1 t1 =>
    cases t1
    cases r1
    cases r2 with
    | cons r2 t2 =>
      cases t2
      obtain ⟨td, rfl⟩ := r2
      obtain ⟨its, rv, pl, hz⟩ := I.list hs
      have ia := ints_vals rv
      refine PySem.W.max_list_datum_default (α := Int) (xs := ns) (I.ok.hd hc) pl.isList (PySem.W.HoldAll.of_ints (by simpa using ia)) (by show X.A.units + 1 + 0 < cLine; omega) (fun e h' tk k => ?_) fun y ys i v h' tk e hi hh k => ?_
      · exact ⟨.int d, H, I.kept (t' := tk) k, ⟨td, rfl⟩, q0 e⟩
      · obtain ⟨n, t, hn, rfl⟩ := ints_at ia (i := i) (v := v) (by simpa using hi)
        have e2 : n = PySem.W.maxOf y ys := by
          obtain ⟨as, rd⟩ := hh
          have rd : Reads h' (Value.int n t) (.int (PySem.W.maxOf y ys)) as := rd
          cases rd
          rfl
        obtain ⟨m1, m2⟩ := maxI ys y
        subst e
        exact ⟨.int n, H, I.kept (t' := tk) k, ⟨t, rfl⟩, q1 n (by rw [e2]; exact m1) (by rw [e2]; exact m2)⟩
end
end GW
end

section
set_option Elab.async false
set_option linter.all false
set_option maxRecDepth 100000
set_option maxHeartbeats 2000000
/-! A list comprehension of three clauses, plain names as targets, no tests. -/
namespace GV
open PySem PySem.Spec PyProof.Rows L2
/-- what σ knows, σ' knows too -/
def Sub (σ σ' : L2.St) : Prop := σ.length = σ'.length ∧ ∀ (j : Nat) v, σ[j]? = some (some v) → σ'[j]? = some (some v)
theorem Sub.refl (σ : L2.St) : Sub σ σ := ⟨rfl, fun _ _ h => h⟩
theorem Sub.set {σ : L2.St} {i : Nat} {v : V} (h : σ[i]? = some none) : Sub σ (σ.set i (some v)) := by
  refine ⟨by simp, fun j u e => ?_⟩
  have hj : i ≠ j := fun z => by rw [z, e] at h; cases h
  rw [List.getElem?_set_ne hj]
  exact e
section
variable {B : Cx} {pl : List (Addr × Obj)} {σ : L2.St} {e0 : Expr} {lvl i : Nat} {x : Str} {px ip : Pos} {J : It} {it : Addr} {fp : List Addr} {tn : Nat → Heap → Prop} {acc : Value} {N : Nat} {W : Nat → Hp → Prop} {We : Hp → Prop} {bd : Sem Unit}
/-- one clause's loop: bd what is done with each item -/
theorem each {elt : Expr} {gs : List Comprehension} {scope : Scope} {pos : Pos} (hc : B.calm = true) (hN : B.N.Nodup) (hxe : B.xe = fun _ _ => False)
    (hturn : compTurn (.ListComp elt gs scope pos) lvl (.ref it) acc B.env = (do
      standAt ip
      match ← pyNext (.ref it) with
      | none => pure (.done .next)
      | some v => do
        letOwnedTupleGo (.Name x px) (.ref it) v
        assign (.Name x px) B.env v
        bd
        again (.compLoop (.ListComp elt gs scope pos) lvl (.ref it) acc B.env)))
    (T : Turn B.prog B.w B.K (.Name x px) J fp it tn) (pg : PG B (.Name x px) (gName i)) (hi : σ[i]? = some none)
    (fpo : ∀ {H' : Hp}, (∀ b ∈ fp, H' b = none) → ∀ b ∈ fp, FpOk B pl H' b)
    (turn : ∀ j H, W j H → (j = N ∧ J.stop j H ∧ We H) ∨ (j < N ∧ J.go j H ∧ ∀ y H', J.yld j H y H' → ∀ (pl' : List (Addr × Obj)) (s : Shared), Inv B (pl ++ pl') (σ.set i (some y)) H' s →
      wpAny (model B.prog B.w) B.A bd (fun _ s' => ∃ H2, Inv B (pl ++ pl') (σ.set i (some y)) H2 s' ∧ W (j + 1) H2) (fun _ _ => False) s))
    {Rr : Result → Shared → Prop} (hR : ∀ s' H', Inv B pl σ H' s' → We H' → Rr (.ok .next) s') (s : Shared) (H : Hp) (I : Inv B pl σ H s) (st : tn 0 s.heap) (nfp : ∀ b ∈ fp, H b = none) (w : W 0 H) :
    codeAny (model B.prog B.w) B.A (.compLoop (.ListComp elt gs scope pos) lvl (.ref it) acc B.env) Rr s := by
  refine codeAny_loop rfl (fun n s' => ∃ j H', Inv B pl σ H' s' ∧ tn j s'.heap ∧ (∀ b ∈ fp, H' b = none) ∧ W j H' ∧ j ≤ N ∧ n = N - j) ?_ (N - 0) ⟨0, H, I, st, nfp, w, Nat.zero_le _, rfl⟩
  rintro n s1 ⟨j, H1, I1, st1, n1, w1, hj, hn⟩
  show wpAny _ B.A ((compTurn (.ListComp elt gs scope pos) lvl (.ref it) acc B.env).onRaise (fun x => do noteFrame x B.env; theTreesLotGoes x)) _ _ s1
  refine wpAny_noted ?_
  rw [hturn]
  refine wpAny_bind (wpAny_standAt (wpAny_bind ?_))
  rcases turn j H1 w1 with ⟨ej, stop, we⟩ | ⟨lt, go, step⟩
  · refine thnF (T.done B rfl rfl rfl hc j pl s1 σ H1 (fun _ _ => False) I1 (fpo n1) st1 stop) fun r s2 ⟨hr, I2⟩ => ?_
    subst hr
    exact wpAny_pure (hR s2 H1 I2 we)
  · refine thnF (T.item B rfl rfl rfl hc j pl s1 σ H1 (fun _ _ => False) I1 (fpo n1) st1 go) fun r s2 ⟨u, hr, h2⟩ => ?_
    subst hr
    refine wpAny_bind (thnF h2 fun _ s3 ⟨y, H3, I3, r3, y3, st3, n3⟩ => ?_)
    have I3' := I3.pinned (fpo n3) (T.obj _ _ st3)
    have pr := pg.run _ s3 σ H3 y u (fun σ' H' => σ' = σ.set i (some y) ∧ H' = H3) I3' r3 ⟨rfl, rfl⟩
    rw [hxe] at pr
    refine wpAny_bind (thnF pr fun _ s4 ⟨σ4, H4, I4, e4, e4'⟩ => ?_)
    subst e4
    subst e4'
    refine wpAny_bind (thnF (step y H4 y3 _ s4 I4) fun _ s5 ⟨H5, I5, w5⟩ => ?_)
    refine wpAny_pure ⟨rfl, N - (j + 1), by omega, j + 1, H5, ?_, ?_, fun b hb => ?_, w5, lt, rfl⟩
    · have sb := Sub.set (v := y) hi
      exact (I5.unpinned).weak sb.1 sb.2
    · exact T.keep _ _ _ st3 fun b hb o e => (I5.pin (b, o) (List.mem_append_right _ (List.mem_append_right _ (mem_pinsAt hb e)))).1
    · obtain ⟨o, e, _⟩ := T.obj _ _ st3 b hb
      exact (I5.pin (b, o) (List.mem_append_right _ (List.mem_append_right _ (mem_pinsAt hb e)))).2.1
end

section
variable {elt i0 i1 i2 : Expr} {x0 x1 x2 : Str} {p0 p1 p2 pos : Pos} {scope : Scope}
abbrev lc3e (elt : Expr) (x0 : Str) (p0 : Pos) (i0 : Expr) (x1 : Str) (p1 : Pos) (i1 : Expr) (x2 : Str) (p2 : Pos) (i2 : Expr) (scope : Scope) (pos : Pos) : Expr :=
  .ListComp elt [⟨.Name x0 p0, i0, [], 0⟩, ⟨.Name x1 p1, i1, [], 0⟩, ⟨.Name x2 p2, i2, [], 0⟩] scope pos
/-- the next clause begins -/
def nextClause (e : Expr) (lvl : Nat) (i : Expr) (acc : Value) (env : Env) : Sem Unit := do
  let x ← eval i env
  standAt i.pos
  let x ← foldedSetIterable i env x
  let _ ← runOwn (.compStart e lvl (← holding [x] (pyIter x)) acc env) env
theorem turn0 (it acc : Value) (env : Env) : compTurn (lc3e elt x0 p0 i0 x1 p1 i1 x2 p2 i2 scope pos) 0 it acc env = (do
    standAt i0.pos
    match ← pyNext it with
    | none => pure (.done .next)
    | some v => do
      letOwnedTupleGo (.Name x0 p0) it v
      assign (.Name x0 p0) env v
      nextClause (lc3e elt x0 p0 i0 x1 p1 i1 x2 p2 i2 scope pos) 1 i1 acc env
      again (.compLoop (lc3e elt x0 p0 i0 x1 p1 i1 x2 p2 i2 scope pos) 0 it acc env)) := by
  refine Eq.trans (b := (do
    standAt i0.pos
    match ← pyNext it with
    | none => pure (.done .next)
    | some v => do
      letOwnedTupleGo (.Name x0 p0) it v
      assign (.Name x0 p0) env v
      let x ← eval i1 env
      standAt i1.pos
      let x ← foldedSetIterable i1 env x
      let _ ← runOwn (.compStart (lc3e elt x0 p0 i0 x1 p1 i1 x2 p2 i2 scope pos) 1 (← holding [x] (pyIter x)) acc env) env
      again (.compLoop (lc3e elt x0 p0 i0 x1 p1 i1 x2 p2 i2 scope pos) 0 it acc env))) (by rfl) ?_
  simp only [nextClause, bind_assoc, pure_bind]
theorem turn1 (it acc : Value) (env : Env) : compTurn (lc3e elt x0 p0 i0 x1 p1 i1 x2 p2 i2 scope pos) 1 it acc env = (do
    standAt i1.pos
    match ← pyNext it with
    | none => pure (.done .next)
    | some v => do
      letOwnedTupleGo (.Name x1 p1) it v
      assign (.Name x1 p1) env v
      nextClause (lc3e elt x0 p0 i0 x1 p1 i1 x2 p2 i2 scope pos) 2 i2 acc env
      again (.compLoop (lc3e elt x0 p0 i0 x1 p1 i1 x2 p2 i2 scope pos) 1 it acc env)) := by
  refine Eq.trans (b := (do
    standAt i1.pos
    match ← pyNext it with
    | none => pure (.done .next)
    | some v => do
      letOwnedTupleGo (.Name x1 p1) it v
      assign (.Name x1 p1) env v
      let x ← eval i2 env
      standAt i2.pos
      let x ← foldedSetIterable i2 env x
      let _ ← runOwn (.compStart (lc3e elt x0 p0 i0 x1 p1 i1 x2 p2 i2 scope pos) 2 (← holding [x] (pyIter x)) acc env) env
      again (.compLoop (lc3e elt x0 p0 i0 x1 p1 i1 x2 p2 i2 scope pos) 1 it acc env))) (by rfl) ?_
  simp only [nextClause, bind_assoc, pure_bind]
theorem turn2 (it acc : Value) (env : Env) : compTurn (lc3e elt x0 p0 i0 x1 p1 i1 x2 p2 i2 scope pos) 2 it acc env = (do
    standAt i2.pos
    match ← pyNext it with
    | none => pure (.done .next)
    | some v => do
      letOwnedTupleGo (.Name x2 p2) it v
      assign (.Name x2 p2) env v
      (do let _ ← call (.builtin "list.append") [acc, ← eval elt env])
      again (.compLoop (lc3e elt x0 p0 i0 x1 p1 i1 x2 p2 i2 scope pos) 2 it acc env)) := by rfl
variable {prog : Program} {w : World} {A : Around} {R : Result → Shared → Prop} {s : Shared} {it acc : Value} {env : Env}
theorem cstart1 (h0 : codeAny (model prog w) A (.compLoop (lc3e elt x0 p0 i0 x1 p1 i1 x2 p2 i2 scope pos) 1 it acc env) R s)
    (h : wpAny (model prog w) A (pyIter it) (fun it' s' => codeAny (model prog w) A (.compLoop (lc3e elt x0 p0 i0 x1 p1 i1 x2 p2 i2 scope pos) 1 it' acc env) R s') (notedBy (model prog w) A env fun x s' => R (.error x) s') s) :
    codeAny (model prog w) A (.compStart (lc3e elt x0 p0 i0 x1 p1 i1 x2 p2 i2 scope pos) 1 it acc env) R s := by
  refine codeAny_of_tree ?_
  show wpAny _ _ ((compStart (lc3e elt x0 p0 i0 x1 p1 i1 x2 p2 i2 scope pos) 1 it acc env).onRaise (fun x => do noteFrame x env; standAt theWindowsPlace)) _ _ s
  refine wpAny_notedAt ?_
  unfold compStart
  show wpAny _ _ (ask >>= _) _ _ s
  refine wpAny_bind (wpAny_askSetting (wpAny_ite ?_))
  split
  · first
      | exact wpAny_bind (wpAny_pure (wpAny_pure (And.intro rfl h0)))
      | exact wpAny_pure (And.intro rfl h0)
  · first
      | exact wpAny_bind (wpAny_rule (wpAny_bind (wpAny_standAt (wpAny_bind (wpAny_mono h (fun it' s' h' => wpAny_pure (And.intro rfl h')) fun _ _ x => x)))))
      | (refine wpAny_bind (wpAny_rule ?_); show wpAny _ _ (standAt i1.pos >>= _) _ _ s; exact wpAny_bind (wpAny_standAt (wpAny_bind (wpAny_mono h (fun it' s' h' => wpAny_pure (And.intro rfl h')) fun _ _ x => x))))
theorem cstart2 (h0 : codeAny (model prog w) A (.compLoop (lc3e elt x0 p0 i0 x1 p1 i1 x2 p2 i2 scope pos) 2 it acc env) R s)
    (h : wpAny (model prog w) A (pyIter it) (fun it' s' => codeAny (model prog w) A (.compLoop (lc3e elt x0 p0 i0 x1 p1 i1 x2 p2 i2 scope pos) 2 it' acc env) R s') (notedBy (model prog w) A env fun x s' => R (.error x) s') s) :
    codeAny (model prog w) A (.compStart (lc3e elt x0 p0 i0 x1 p1 i1 x2 p2 i2 scope pos) 2 it acc env) R s := by
  refine codeAny_of_tree ?_
  show wpAny _ _ ((compStart (lc3e elt x0 p0 i0 x1 p1 i1 x2 p2 i2 scope pos) 2 it acc env).onRaise (fun x => do noteFrame x env; standAt theWindowsPlace)) _ _ s
  refine wpAny_notedAt ?_
  unfold compStart
  show wpAny _ _ (ask >>= _) _ _ s
  refine wpAny_bind (wpAny_askSetting (wpAny_ite ?_))
  split
  · first
      | exact wpAny_bind (wpAny_pure (wpAny_pure (And.intro rfl h0)))
      | exact wpAny_pure (And.intro rfl h0)
  · first
      | exact wpAny_bind (wpAny_rule (wpAny_bind (wpAny_standAt (wpAny_bind (wpAny_mono h (fun it' s' h' => wpAny_pure (And.intro rfl h')) fun _ _ x => x)))))
      | (refine wpAny_bind (wpAny_rule ?_); show wpAny _ _ (standAt i2.pos >>= _) _ _ s; exact wpAny_bind (wpAny_standAt (wpAny_bind (wpAny_mono h (fun it' s' h' => wpAny_pure (And.intro rfl h')) fun _ _ x => x))))
end

/-! ### the rule -/
section
variable {X : Cx}
/-- a, b, c: the slots of the three names -/
def tLc3 (wi0 wi1 wi2 : TI) (te : TE) (vs : List Nat) (a b c : Nat) : TE := fun σ H Q => wi0 σ H fun J H1 => ∀ D, H1 D = none → ∃ (N : Nat) (W : Nat → Hp → Prop), W 0 (upd H1 D (.lst [])) ∧ ∀ i H, W i H →
  (i = N ∧ J.stop i H ∧ Q (.ref D) H) ∨ (i < N ∧ J.go i H ∧ ∀ x H', J.yld i H x H' → wi1 ((wipe σ vs).set a (some x)) H' fun J1 H2 => ∃ (N1 : Nat) (W1 : Nat → Hp → Prop), W1 0 H2 ∧ ∀ j H, W1 j H →
    (j = N1 ∧ J1.stop j H ∧ W (i + 1) H) ∨ (j < N1 ∧ J1.go j H ∧ ∀ y H', J1.yld j H y H' → wi2 (((wipe σ vs).set a (some x)).set b (some y)) H' fun J2 H3 => ∃ (N2 : Nat) (W2 : Nat → Hp → Prop), W2 0 H3 ∧ ∀ k H, W2 k H →
      (k = N2 ∧ J2.stop k H ∧ W1 (j + 1) H) ∨ (k < N2 ∧ J2.go k H ∧ ∀ z H', J2.yld k H z H' → te ((((wipe σ vs).set a (some x)).set b (some y)).set c (some z)) H' fun v H4 => ∃ acc, H4 D = some (.lst acc) ∧ acc.length < sizeLine ∧ W2 (k + 1) (upd H4 D (.lst (acc ++ [v]))))))
/-- a clause within: its own walk, then its loop -/
theorem clause {B : Cx} {pl : List (Addr × Obj)} {σ : L2.St} {H : Hp} {s : Shared} {elt it1e : Expr} {gs : List Comprehension} {scope : Scope} {pos : Pos} {lvl : Nat} {tg : Expr} {wi : TI} {D : Addr} {Wn : Hp → Prop} {Rj : It → Hp → Prop} (hxe : B.xe = fun _ _ => False)
    (hi : PI B tg it1e wi) (I : Inv B pl σ H s) (h : wi σ H Rj) (hs : ∀ x, foldedSetIterable it1e B.env x = pure x)
    (loop : ∀ (it : Addr) (fp : List Addr) (tn : Nat → Heap → Prop) (J : It) (H' : Hp) (s2 : Shared), Inv B pl σ H' s2 → Turn B.prog B.w B.K tg J fp it tn → tn 0 s2.heap → (∀ b ∈ fp, FpOk B pl H' b) → Rj J H' →
      codeAny (model B.prog B.w) B.A (.compStart (.ListComp elt gs scope pos) lvl (.ref it) (.ref D) B.env) (fun r s' => ∃ f, r = .ok f ∧ ∃ H2, Inv B pl σ H2 s' ∧ Wn H2) s2) :
    wpAny (model B.prog B.w) B.A (nextClause (.ListComp elt gs scope pos) lvl it1e (.ref D) B.env) (fun _ s' => ∃ H2, Inv B pl σ H2 s' ∧ Wn H2) (fun _ _ => False) s := by
  unfold nextClause
  have q := hi.run pl s σ H _ I h
  rw [hxe] at q
  refine wpAny_bind (thnF q fun xv s1 hx => ?_)
  refine wpAny_bind (wpAny_standAt (wpAny_bind (wpAny_of_eq (hs xv) (wpAny_bind (wpAny_holding (thnF hx fun itv s2 h2 => ?_))))))
  obtain ⟨it, fp, tn, J, H', e, I2, T, st2, f2, r2⟩ := h2
  subst e
  refine wpAny_bind (wpAny_runOwn ?_)
  rw [Around.mark_none]
  refine codeAny_mono (loop it fp tn J H' s2 I2 T st2 f2 r2) fun r s' ⟨f, hr, hq⟩ => ?_
  subst hr
  exact wpAny_pure hq
theorem pe_lc3 {elt i0 i1 i2 : Expr} {x0 x1 x2 : Str} {p0 p1 p2 pos : Pos} {scope : Scope} {own : List (Str × Nat)} {wi0 wi1 wi2 : TI} {te : TE} {a b c : Nat} (hc : X.calm = true) (hN : X.N.Nodup) (ok : BlkOk X.N X.env.scope scope own)
    (ha : X.N[a]? = some x0) (hb : X.N[b]? = some x1) (hcc : X.N[c]? = some x2) (ho : a ∈ own.map (·.2) ∧ b ∈ own.map (·.2) ∧ c ∈ own.map (·.2)) (hd : a ≠ b ∧ a ≠ c ∧ b ≠ c)
    (hi : PI X (.Name x0 p0) i0 wi0)
    (hi1 : ∀ (s : Shared) (H : Hp) (C : Addr) (cl : List (Str × Addr)) (fp : List Addr), PI (X.blk s H scope (compEnvC scope cl C X.env) fp) (.Name x1 p1) i1 wi1)
    (hi2 : ∀ (s : Shared) (H : Hp) (C : Addr) (cl : List (Str × Addr)) (fp : List Addr), PI (X.blk s H scope (compEnvC scope cl C X.env) fp) (.Name x2 p2) i2 wi2)
    (hg : ∀ (s : Shared) (H : Hp) (C : Addr) (cl : List (Str × Addr)) (fp : List Addr), PG (X.blk s H scope (compEnvC scope cl C X.env) fp) (.Name x0 p0) (gName a) ∧ PG (X.blk s H scope (compEnvC scope cl C X.env) fp) (.Name x1 p1) (gName b) ∧ PG (X.blk s H scope (compEnvC scope cl C X.env) fp) (.Name x2 p2) (gName c))
    (he : ∀ (s : Shared) (H : Hp) (C : Addr) (cl : List (Str × Addr)) (fp : List Addr), PE (X.blk s H scope (compEnvC scope cl C X.env) fp) elt te)
    (hs : ∀ x, foldedSetIterable i0 X.env x = pure x := by intro _; rfl) (hs1 : ∀ env x, foldedSetIterable i1 env x = pure x := by intro _ _; rfl) (hs2 : ∀ env x, foldedSetIterable i2 env x = pure x := by intro _ _; rfl) :
    PE X (lc3e elt x0 p0 i0 x1 p1 i1 x2 p2 i2 scope pos) (tLc3 wi0 wi1 wi2 te (own.map (·.2)) a b c) := by
  refine ⟨fun pins s σ H Q I h => ?_⟩
  rw [eval_ListComp]
  have hfree : ∀ y ∈ scope.names, y.2 = .free → ∃ c, X.env.cells.lookup y.1 = some c := fun y hy e => by
    rcases ok.free y hy e with k | k
    · exact I.ok.has _ (.inl k)
    · exact I.ok.has _ (.inr k)
  refine wpAny_comprehension_free (use := none) rfl hs (closure_ok hfree) ok.kind (fun y hy e => by rw [ok.uniq y hy, e])
    (thn (hi.run pins s σ H _ I h) fun xv s1 hx => thn hx fun itv s2 h2 => ?_)
  obtain ⟨it, fp, tn, J, H2, e, I2, T, st2, f2, q⟩ := h2
  subst e
  refine wpAny_newObj_type (newEnv_comp ?_) (by show 0 ≤ sizeLine; decide)
  generalize hD : s2.heap.objs.size = D
  have hDn : H2 D = none := I2.hok.fresh (Nat.le_of_eq hD)
  obtain ⟨N, W, w0, turn⟩ := q D hDn
  generalize hs3 : ({ s2 with heap := s2.heap.push { cls := .type "list", data := .seq ([] : List Value).toArray } } : Shared) = s3
  have h3 : s3.heap = s2.heap.push { cls := .type "list", data := .seq ([] : List Value).toArray } := by rw [← hs3]
  have I3 : Inv X pins σ (upd H2 D (.lst [])) s3 := by
    rw [← hs3]
    refine I2.laid (t' := s2.toks) (fun b o e => Heap.get?_push_of_some _ e) (Nat.le_of_eq hD) ⟨Nat.zero_le _, [], 0, .nil, ?_⟩
    rw [← hD]
    exact Heap.get?_push_size _ rfl
  have f3 : ∀ b ∈ fp, FpOk X pins (upd H2 D (.lst [])) b ∧ b < s3.heap.objs.size := fun b hb => by
    obtain ⟨o, e, _⟩ := T.obj _ _ st2 b hb
    have hlt := Heap.lt_size e
    refine ⟨⟨?_, (f2 b hb).2⟩, by rw [h3, Heap.size_push]; exact Nat.lt_succ_of_lt hlt⟩
    rw [upd_ne (by rw [← hD]; exact Nat.ne_of_lt hlt)]
    exact (f2 b hb).1
  have st3 : tn 0 s3.heap := T.keep _ _ _ st2 fun b _ o e => by rw [h3]; exact Heap.get?_push_of_some _ e
  have I4 := block_start I3 ok hN f3
  have pe := he s3 (upd H2 D (.lst [])) s3.heap.objs.size (cellsFrom (s3.heap.objs.size + 1) scope.names (cloFrom X.env.cells scope.names [])) fp
  have pi1 := hi1 s3 (upd H2 D (.lst [])) s3.heap.objs.size (cellsFrom (s3.heap.objs.size + 1) scope.names (cloFrom X.env.cells scope.names [])) fp
  have pi2 := hi2 s3 (upd H2 D (.lst [])) s3.heap.objs.size (cellsFrom (s3.heap.objs.size + 1) scope.names (cloFrom X.env.cells scope.names [])) fp
  obtain ⟨pga, pgb, pgc⟩ := hg s3 (upd H2 D (.lst [])) s3.heap.objs.size (cellsFrom (s3.heap.objs.size + 1) scope.names (cloFrom X.env.cells scope.names [])) fp
  have hsc : (compEnvC scope (cellsFrom (s3.heap.objs.size + 1) scope.names (cloFrom X.env.cells scope.names [])) s3.heap.objs.size X.env).locals = s3.heap.objs.size := rfl
  show codeAny _ _ (.compStart (lc3e elt x0 p0 i0 x1 p1 i1 x2 p2 i2 scope pos) 0 (.ref it) (.ref D) (compEnvC scope (cellsFrom (s3.heap.objs.size + 1) scope.names (cloFrom X.env.cells scope.names [])) s3.heap.objs.size X.env)) (compPost (model X.prog X.w) X.A X.xe none (EP X pins σ Q) (.ref D) s3.heap.objs.size) { s3 with heap := pushCells (s3.heap.push { cls := .type "dict", data := .dict #[] }) scope.names }
  generalize hce : compEnvC scope (cellsFrom (s3.heap.objs.size + 1) scope.names (cloFrom X.env.cells scope.names [])) s3.heap.objs.size X.env = ce at I4 pe pi1 pi2 pga pgb pgc hsc ⊢
  have nfp : ∀ b ∈ fp, (upd H2 D (.lst [])) b = none := fun b hb => (f3 b hb).1.1
  generalize hH3 : upd H2 D (.lst []) = H3 at I3 I4 pe pi1 pi2 pga pgb pgc w0 nfp f3
  generalize hs4 : ({ s3 with heap := pushCells (s3.heap.push { cls := .type "dict", data := .dict #[] }) scope.names } : Shared) = s4 at I4 ⊢
  have st4 : tn 0 s4.heap := T.keep _ _ _ st3 fun b _ o e => by rw [← hs4]; exact pushCells_keeps _ _ _ _ (Heap.get?_push_of_some _ e)
  generalize hσ : wipe σ (own.map (·.2)) = σ0 at I4 turn
  have len0 : σ0.length = X.N.length := by rw [← hσ, wipe_length]; exact I.len
  have free0 : ∀ {i : Nat} {y : Str}, X.N[i]? = some y → i ∈ own.map (·.2) → σ0[i]? = some none := fun {i y} hy hio => by
    have hil : i < σ0.length := by
      rw [len0]
      exact (List.getElem?_eq_some_iff.mp hy).1
    cases hq : σ0[i]? with
    | none => rw [List.getElem?_eq_none_iff] at hq; omega
    | some o =>
      cases o with
      | none => rfl
      | some v =>
        rw [← hσ] at hq
        exact absurd hio (wipe_some hq).2
  have fpB : ∀ {H' : Hp}, (∀ b ∈ fp, H' b = none) → ∀ b ∈ fp, FpOk (X.blk s3 H3 scope ce fp) [] H' b := fun {H'} hn b hb =>
    ⟨hn b hb, (I4.ok.exf b hb).1, I4.ok.exfs b hb, .inl hb, fun x c e => (I4.ok.exf b hb).2 x c e, fun p hp => absurd (show p ∈ ([] : List (Addr × Obj)) ++ [] from hp) (by simp)⟩
  have loop : codeAny (model X.prog X.w) X.A (.compLoop (lc3e elt x0 p0 i0 x1 p1 i1 x2 p2 i2 scope pos) 0 (.ref it) (.ref D) ce) (compPost (model X.prog X.w) X.A X.xe none (EP X pins σ Q) (.ref D) s3.heap.objs.size) s4 := by
    refine each (B := X.blk s3 H3 scope ce fp) (pl := []) (σ := σ0) (i := a) (N := N) (W := W) (We := fun H => Q (.ref D) H) hc hN rfl (turn0 (.ref it) (.ref D) ce) T pga (free0 ha ho.1) fpB (fun j H w => ?_) (fun s' H' I' hq => ?_) s4 H3 I4 st4 nfp w0
    · rcases turn j H w with z | ⟨lt, go, step⟩
      · exact .inl z
      · refine .inr ⟨lt, go, fun y H' hy pl' s5 I5 => ?_⟩
        refine clause (B := X.blk s3 H3 scope ce fp) rfl pi1 I5 (step y H' hy) (hs1 ce) fun it1 fp1 tn1 J1 H6 s6 I6 T1 st6 f6 hq => ?_
        obtain ⟨N1, W1, w1, turn1'⟩ := hq
        have l1 : codeAny (model X.prog X.w) X.A (.compLoop (lc3e elt x0 p0 i0 x1 p1 i1 x2 p2 i2 scope pos) 1 (.ref it1) (.ref D) ce) (fun r s' => ∃ f, r = .ok f ∧ ∃ H2, Inv (X.blk s3 H3 scope ce fp) ([] ++ pl') (σ0.set a (some y)) H2 s' ∧ W (j + 1) H2) s6 := by
          refine each (B := X.blk s3 H3 scope ce fp) (pl := [] ++ pl') (σ := σ0.set a (some y)) (i := b) (N := N1) (W := W1) (We := fun H => W (j + 1) H) hc hN rfl (turn1 (.ref it1) (.ref D) ce) T1 pgb (by rw [List.getElem?_set_ne hd.1]; exact free0 hb ho.2.1)
            (fun {H'} hn b hb => ⟨hn b hb, (f6 b hb).2⟩) (fun k H w => ?_) (fun s' H' I' hq => ⟨_, rfl, H', I', hq⟩) s6 H6 I6 st6 (fun b hb => (f6 b hb).1) w1
          rcases turn1' k H w with z | ⟨lt, go, step⟩
          · exact .inl z
          · refine .inr ⟨lt, go, fun y1 H' hy1 pl1 s7 I7 => ?_⟩
            refine clause (B := X.blk s3 H3 scope ce fp) rfl pi2 I7 (step y1 H' hy1) (hs2 ce) fun it2 fp2 tn2 J2 H8 s8 I8 T2 st8 f8 hq => ?_
            obtain ⟨N2, W2, w2, turn2'⟩ := hq
            have l2 : codeAny (model X.prog X.w) X.A (.compLoop (lc3e elt x0 p0 i0 x1 p1 i1 x2 p2 i2 scope pos) 2 (.ref it2) (.ref D) ce) (fun r s' => ∃ f, r = .ok f ∧ ∃ H2, Inv (X.blk s3 H3 scope ce fp) ([] ++ pl' ++ pl1) ((σ0.set a (some y)).set b (some y1)) H2 s' ∧ W1 (k + 1) H2) s8 := by
              refine each (B := X.blk s3 H3 scope ce fp) (pl := [] ++ pl' ++ pl1) (σ := (σ0.set a (some y)).set b (some y1)) (i := c) (N := N2) (W := W2) (We := fun H => W1 (k + 1) H) hc hN rfl (turn2 (.ref it2) (.ref D) ce) T2 pgc (by rw [List.getElem?_set_ne hd.2.2, List.getElem?_set_ne hd.2.1]; exact free0 hcc ho.2.2)
                (fun {H'} hn b hb => ⟨hn b hb, (f8 b hb).2⟩) (fun l H w => ?_) (fun s' H' I' hq => ⟨_, rfl, H', I', hq⟩) s8 H8 I8 st8 (fun b hb => (f8 b hb).1) w2
              rcases turn2' l H w with z | ⟨lt, go, step⟩
              · exact .inl z
              · refine .inr ⟨lt, go, fun y2 H' hy2 pl2 s9 I9 => ?_⟩
                refine wpAny_bind (thnF (pe.run _ s9 _ H' _ I9 (step y2 H' hy2)) fun z s10 ⟨yv, H10, I10, r10, acc, hD10, hz10, nx⟩ => ?_)
                refine wpAny_bind (app_ok (X := X.blk s3 H3 scope ce fp) I10 hD10 hz10 r10 fun s11 I11 => ?_)
                exact wpAny_pure ⟨_, I11, nx⟩
            exact cstart2 l2 (T2.self X.A 0 _ _ _ st8 l2)
        exact cstart1 l1 (T1.self X.A 0 _ _ _ st6 l1)
    · have I7 : Inv X pins σ H' s' := I3.call' (ch := fp) I'.os I'.base I'.hok I'.bare fun b hb => ⟨(f3 b hb).1.2.2.2.1, (f3 b hb).1.2.1, (f3 b hb).1.2.2.2.2.1, (f3 b hb).1.2.2.2.2.2⟩
      have nC : H' s3.heap.objs.size = none := by
        have z : H' ce.locals = none := I'.free
        rw [hsc] at z
        exact z
      obtain ⟨m, hn, _⟩ := I'.loc
      have hn : s'.heap.Ns ce.locals m := hn
      rw [hsc] at hn
      refine ⟨m, hn, fun h'' sb => ?_⟩
      obtain ⟨f0, f1, f2, f3', f4, f5⟩ := I3.fpOk (H' := H') (Nat.le_refl _) nC
      exact ⟨.ref D, H', I7.turned (t' := s'.toks) (fun b o hb e => (sb.2 b hb).trans e) f0 f1 f3' f4 f5, rfl, hq⟩
  exact codeAny_compStart_list loop (T.self X.A 0 _ _ _ st4 loop)
end
end GV
end

section
set_option Elab.async false
set_option linter.all false
set_option maxRecDepth 100000
set_option maxHeartbeats 2000000
/-! The program's text by places, the relation of heaps, bodies as data. -/
namespace LP
open PySem PySem.Spec PyProof.Rows L2 Ly GY
def top (i : Nat) : Stmt := PySem.Challenge.pw_layerprint_k11_whole_all_layers_together.main.body.getD i (.Pass ⟨0, 0, 0, 0⟩)
abbrev sIsBody : Stmt := top 15
abbrev sCells : Stmt := top 16
abbrev sSlice : Stmt := top 17
abbrev sChk : Stmt := top 18
abbrev sQuarter : Stmt := top 22
abbrev sShifted : Stmt := top 23
abbrev sFormed : Stmt := top 24
abbrev sPlaces : Stmt := top 25
abbrev sNum : Stmt := top 19
abbrev sTri : Stmt := top 26
abbrev sRise : Stmt := top 27
abbrev sHeld : Stmt := top 28
abbrev sBlock : Stmt := top 29
abbrev sJoined : Stmt := top 30
abbrev sRow : Stmt := top 31
abbrev sRising : Stmt := top 20
abbrev sLayerC : Stmt := top 21
abbrev sIsPlace : Stmt := top 38
abbrev sDrawn : Stmt := top 39
-- written: not in this statement
-- read: not in this statement
-- _check_rows: not in this statement
-- _can_stand: not in this statement
-- table: not in this statement
-- holds: not in this statement
-- _least: not in this statement
-- _are_strokes: not in this statement
-- _is_low_enough: not in this statement
abbrev sStrokes : Stmt := top 35
abbrev sRuns : Stmt := top 40
-- hanging: not in this statement
-- filled: not in this statement
-- check_reach: not in this statement
-- hanging_cells: not in this statement
-- fill: not in this statement
-- beside: not in this statement
-- _check_props: not in this statement
-- _is_carried: not in this statement
-- _fill_under: not in this statement
-- _ways: not in this statement
abbrev sChkPl : Stmt := top 37
abbrev sBestOrds : Stmt := top 41
abbrev sBestRest : Stmt := top 42
abbrev sEnds : Stmt := top 43
abbrev sSteps : Stmt := top 44
-- best_order: not in this statement
abbrev sPrinted : Stmt := top 36

/-- the table of the one def that makes a lambda -/
class LamTab where
  P : Addr
  q : Str
  /-- the table of is_rising -/
  Z : Addr
section
variable [LamTab]
/-- a table of a def with generator expressions -/
def TGen (H : Hp) (P : Addr) : Prop := GxR.TabG H P ∧ P ≠ LamTab.P
end
/-! ### what a call keeps: all but what stands at S; tables are filled -/
structure Kp [LamTab] (S : List Addr) (H H' : Hp) : Prop where
  keep : ∀ b o, H b = some o → b ∉ S → (∀ ps, o ≠ .tbl ps) → H' b = some o
  tup : ∀ b xs, H b = some (.tup xs) → H' b = some (.tup xs)
  tab : ∀ b, TGen H b → TGen H' b
  frz : ∀ b o u, H b = some (.frz o u) → H' b = some (.frz o u)
  free : ∀ b, H' b = none → H b = none
  lam : LamX.TabS H LamTab.P LamTab.q → LamX.TabS H' LamTab.P LamTab.q
theorem free_upd {H : Hp} {a : Addr} {o : HO} {b : Addr} (h : upd H a o b = none) : b ≠ a ∧ H b = none := by
  by_cases e : b = a
  · rw [e, upd_same] at h
    cases h
  · rw [upd_ne e] at h
    exact ⟨e, h⟩
variable [LamTab] {S S' : List Addr} {H H' H'' : Hp} {K : PySem.W.Frag}
theorem Kp.refl (S : List Addr) (H : Hp) : Kp S H H := ⟨fun _ _ e _ _ => e, fun _ _ e => e, fun _ e => e, fun _ _ _ e => e, fun _ e => e, fun e => e⟩
theorem Kp.trans (k : Kp S H H') (k' : Kp S H' H'') : Kp S H H'' :=
  ⟨fun b o e n t => k'.keep b o (k.keep b o e n t) n t, fun b xs e => k'.tup b xs (k.tup b xs e), fun b e => k'.tab b (k.tab b e), fun b o u e => k'.frz b o u (k.frz b o u e), fun b e => k.free b (k'.free b e), fun e => k'.lam (k.lam e)⟩
theorem Kp.weak (k : Kp S H H') (h : ∀ b ∈ S, b ∈ S') : Kp S' H H' := ⟨fun b o e n t => k.keep b o e (fun q => n (h b q)) t, k.tup, k.tab, k.frz, k.free, k.lam⟩
theorem Kp.w0 (k : Kp [] H H') : Kp S H H' := k.weak fun b z => by cases z
/-- all but what stands at a stays as it is; a holds nothing that is kept -/
theorem Kp.but {a : Addr} (e : ∀ b, b ≠ a → H' b = H b) (some_a : H' a ≠ none) (k : ∀ o, H a = some o → a ∈ S ∨ ∃ ps, o = .tbl ps) (t : ∀ xs, H a ≠ some (.tup xs)) (f : ∀ o u, H a ≠ some (.frz o u)) (c : ∀ q, H a ≠ some (LamX.CodeO a q)) (g : TGen H a → TGen H' a)
    (l : ∀ ps, H a = some (.tbl ps) → a ≠ LamTab.P) : Kp S H H' := by
  refine ⟨fun b o q n tb => ?_, fun b xs q => ?_, fun b q => ?_, fun b o u q => ?_, fun b q => ?_, fun ⟨ps, h1, h2, h3⟩ => ?_⟩
  · by_cases z : b = a
    · subst z
      rcases k o q with z | ⟨ps, z⟩
      · exact absurd z n
      · exact absurd z (tb ps)
    · rw [e b z]
      exact q
  · by_cases z : b = a
    · subst z
      exact absurd q (t xs)
    · rw [e b z]
      exact q
  · by_cases z : b = a
    · subst z
      exact g q
    · obtain ⟨⟨ps, q1, q2⟩, q3⟩ := q
      exact ⟨⟨ps, by rw [e b z]; exact q1, q2⟩, q3⟩
  · by_cases z : b = a
    · subst z
      exact absurd q (f o u)
    · rw [e b z]
      exact q
  · by_cases z : b = a
    · subst z
      exact absurd q some_a
    · rw [e b z] at q
      exact q
  · have n : LamTab.P ≠ a := fun z => l ps (by rw [← z]; exact h1) z.symm
    refine ⟨ps, by rw [e _ n]; exact h1, h2, fun pos cv hcv => ?_⟩
    obtain ⟨c0, e1, e2⟩ := h3 pos cv hcv
    refine ⟨c0, e1, ?_⟩
    by_cases z : c0 = a
    · subst z
      exact absurd e2 (c _)
    · rw [e _ z]
      exact e2
/-- the tables of _are_rising_cells and of is_rising -/
def TR (H : Hp) (P : Addr) : Prop := TGen H P ∧ TGen H LamTab.Z
theorem Kp.tabr (k : Kp S H H') {P : Addr} (h : TR H P) : TR H' P := ⟨k.tab _ h.1, k.tab _ h.2⟩
theorem Kp.new {a : Addr} {o : HO} (h : H a = none) : Kp S H (upd H a o) := by
  have no : ∀ u, H a ≠ some u := fun u z => by rw [h] at z; cases z
  exact Kp.but (fun b n => upd_ne n) (by rw [upd_same]; exact fun z => by cases z) (fun u z => absurd z (no u)) (fun xs => no _) (fun _ _ => no _) (fun _ => no _) (fun ⟨⟨ps, q1, _⟩, _⟩ => absurd q1 (no _)) fun ps z => absurd z (no _)
theorem Kp.tabbed {P : Addr} (h : TGen H P) (k : GxR.Tabbed P H H') : Kp S H H' := by
  obtain ⟨⟨ps, e, _⟩, n⟩ := h
  have eq : ∀ u, H P = some u → u = .tbl ps := fun u z => by
    rw [e] at z
    exact (Option.some.inj z).symm
  obtain ⟨ps', e', t'⟩ := k.1
  exact Kp.but k.2 (by rw [e']; exact fun z => by cases z) (fun u z => .inr ⟨ps, eq u z⟩) (fun xs z => by cases eq _ z) (fun _ _ z => by cases eq _ z) (fun _ z => by cases eq _ z) (fun _ => ⟨⟨ps', e', t'⟩, n⟩) fun _ _ => n
/-- a list that stands at S, changed -/
theorem Kp.chg {a : Addr} {xs ys : List V} (h : H a = some (.lst xs)) (m : a ∈ S) : Kp S H (upd H a (.lst ys)) := by
  have eq : ∀ u, H a = some u → u = .lst xs := fun u z => by
    rw [h] at z
    exact (Option.some.inj z).symm
  exact Kp.but (fun b n => upd_ne n) (by rw [upd_same]; exact fun z => by cases z) (fun u z => .inl m) (fun xs z => by cases eq _ z) (fun _ _ z => by cases eq _ z) (fun _ z => by cases eq _ z) (fun ⟨⟨ps, q1, _⟩, _⟩ => by cases eq _ q1) fun ps z => by cases eq _ z
theorem Kp.chgD {a : Addr} {k1 k2 : List (Key × V)} (h : H a = some (.dK k1)) (m : a ∈ S) : Kp S H (upd H a (.dK k2)) := by
  have eq : ∀ u, H a = some u → u = .dK k1 := fun u z => by
    rw [h] at z
    exact (Option.some.inj z).symm
  exact Kp.but (fun b n => upd_ne n) (by rw [upd_same]; exact fun z => by cases z) (fun u z => .inl m) (fun xs z => by cases eq _ z) (fun _ _ z => by cases eq _ z) (fun _ z => by cases eq _ z) (fun ⟨⟨ps, q1, _⟩, _⟩ => by cases eq _ q1) fun ps z => by cases eq _ z
theorem Kp.lst {a : Addr} {xs : List V} (k : Kp S H H') (h : H a = some (.lst xs)) (n : a ∉ S) : H' a = some (.lst xs) := k.keep a _ h n fun ps z => by cases z
theorem Kp.sqT {a : Addr} {xs : List V} (k : Kp S H H') (h : SqT K H a xs) : SqT K H' a xs := by
  rcases h with h | h
  · rcases h with h | ⟨o, h⟩
    · exact .inl (.inl (k.tup a xs h))
    · exact .inl (.inr ⟨o, k.frz a _ _ h⟩)
  · exact .inr h
theorem Kp.sqL {a : Addr} {xs : List V} (k : Kp S H H') (h : SqL K H a xs) (n : a ∉ S) : SqL K H' a xs := by
  rcases h with h | h
  · rcases h with h | ⟨o, h⟩
    · exact .inl (.inl (k.lst h n))
    · exact .inl (.inr ⟨o, k.frz a _ _ h⟩)
  · exact .inr h

/-! ### data that holds no list is kept by any call -/
mutual
def noL : PyData → Bool
  | .list _ => false
  | .tuple ds => noLs ds
  | _ => true
def noLs : List PyData → Bool
  | [] => true
  | d :: ds => noL d && noLs ds
end
mutual
theorem dp_mono (k : Kp S H H') : ∀ (d : PyData) {v : V}, Dp K H v d → (noL d = true ∨ S = []) → Dp K H' v d
  | .none, _, h, _ => by cases h; exact .non
  | .bool _, _, h, _ => by cases h; exact .bl _
  | .int _, _, h, _ => by cases h; exact .int _
  | .str _, _, h, _ => by cases h; exact .str _
  | .list ds, _, h, n => by
    rcases n with n | n
    · exact absurd n (by unfold noL; decide)
    · cases h with
      | lst hs ha => exact .lst (k.sqL hs (by rw [n]; exact List.not_mem_nil)) (dps_mono k ds ha (.inr n))
  | .tuple ds, _, h, n => by
    cases h with
    | tup hs ha => exact .tup (k.sqT hs) (dps_mono k ds ha (n.imp_left fun q => by unfold noL at q; exact q))
  | .dict _, _, h, _ => by cases h
theorem dps_mono (k : Kp S H H') : ∀ (ds : List PyData) {vs : List V}, DpAll K H vs ds → (noLs ds = true ∨ S = []) → DpAll K H' vs ds
  | [], _, h, _ => by cases h; exact .nil
  | d :: ds, _, h, n => by
    cases h with
    | cons h1 h2 => exact .cons (dp_mono k d h1 (n.imp_left fun q => by unfold noLs at q; exact (Bool.and_eq_true_iff.mp q).1)) (dps_mono k ds h2 (n.imp_left fun q => by unfold noLs at q; exact (Bool.and_eq_true_iff.mp q).2))
end
theorem noL_c (c : C3) : noL (cD c) = true := rfl
theorem noLs_cs : ∀ cs : List C3, noLs (cs.map cD) = true
  | [] => rfl
  | c :: cs => by
    show (noL (cD c) && noLs (cs.map cD)) = true
    rw [noLs_cs cs, noL_c]
    rfl
theorem cellsL_mono {v : V} {cs : List C3} (k : Kp [] H H') (h : CellsL K H v cs) : CellsL K H' v cs := dp_mono k _ h (.inr rfl)
theorem cellsT_mono {v : V} {cs : List C3} (k : Kp S H H') (h : CellsT K H v cs) : CellsT K H' v cs := dp_mono k _ h (.inl (noLs_cs cs))
theorem c_mono {v : V} {c : C3} (k : Kp S H H') (h : Dp K H v (cD c)) : Dp K H' v (cD c) := dp_mono k _ h (.inl (noL_c c))
theorem items_mono {xs : List V} {cs : List C3} (k : Kp S H H') (h : Items K H xs cs) : Items K H' xs cs := dps_mono k _ h (.inl (noLs_cs cs))
/-- a list of cells at a -/
theorem cellsL_of {a : Addr} {xs : List V} {cs : List C3} (h : H a = some (.lst xs)) (k : Items K H xs cs) : CellsL K H (.ref a) cs := .lst (SqL.of h) k

/-! ### bodies as data -/
def bD : Bd → PyData
  | .block x y z a b c => .tuple [.str "block", cD (x, y, z), cD (a, b, c)]
  | .cells cs => .tuple [.str "cells", .tuple (cs.map cD)]
  | .wth p q => .tuple [.str "with", bD p, bD q]
  | .common p q => .tuple [.str "common", bD p, bD q]
  | .less p q => .tuple [.str "less", bD p, bD q]
  | .moved d p => .tuple [.str "moved", cD d, bD p]
  | .turnX p => .tuple [.str "turned", .str "x", bD p]
  | .turnY p => .tuple [.str "turned", .str "y", bD p]
  | .turnZ p => .tuple [.str "turned", .str "z", bD p]
theorem noL_b : ∀ b : Bd, noL (bD b) = true
  | .block .. => rfl
  | .cells cs => by show (true && (noLs (cs.map cD) && true)) = true; rw [noLs_cs]; rfl
  | .wth p q => by show (true && (noL (bD p) && (noL (bD q) && true))) = true; rw [noL_b p, noL_b q]; rfl
  | .common p q => by show (true && (noL (bD p) && (noL (bD q) && true))) = true; rw [noL_b p, noL_b q]; rfl
  | .less p q => by show (true && (noL (bD p) && (noL (bD q) && true))) = true; rw [noL_b p, noL_b q]; rfl
  | .moved d p => by show (true && (true && (noL (bD p) && true))) = true; rw [noL_b p]; rfl
  | .turnX p => by show (true && (true && (noL (bD p) && true))) = true; rw [noL_b p]; rfl
  | .turnY p => by show (true && (true && (noL (bD p) && true))) = true; rw [noL_b p]; rfl
  | .turnZ p => by show (true && (true && (noL (bD p) && true))) = true; rw [noL_b p]; rfl
abbrev Body (K : PySem.W.Frag) (H : Hp) (v : V) (b : Bd) : Prop := Dp K H v (bD b)
theorem body_mono {v : V} {b : Bd} (k : Kp S H H') (h : Body K H v b) : Body K H' v b := dp_mono k _ h (.inl (noL_b b))
theorem of_dp2 {v : V} {d e : PyData} (h : Dp K H v (.tuple [d, e])) : ∃ p x y, v = .ref p ∧ SqT K H p [x, y] ∧ Dp K H x d ∧ Dp K H y e := by
  cases h with
  | tup hs ha =>
    cases ha with
    | cons h1 ha =>
      cases ha with
      | cons h2 ha =>
        cases ha
        exact ⟨_, _, _, rfl, hs, h1, h2⟩
theorem of_dp3 {v : V} {d e g : PyData} (h : Dp K H v (.tuple [d, e, g])) : ∃ p x y z, v = .ref p ∧ SqT K H p [x, y, z] ∧ Dp K H x d ∧ Dp K H y e ∧ Dp K H z g := by
  cases h with
  | tup hs ha =>
    cases ha with
    | cons h1 ha =>
      cases ha with
      | cons h2 ha =>
        cases ha with
        | cons h3 ha =>
          cases ha
          exact ⟨_, _, _, _, rfl, hs, h1, h2, h3⟩
theorem of_dps {v : V} {x : Str} (h : Dp K H v (.str x)) : v = .str x := by cases h; rfl
theorem of_dpi {v : V} {i : Int} (h : Dp K H v (.int i)) : v = .int i := by cases h; rfl
/-- a body whose three places are these -/
theorem of_body3 {v : V} {w : Str} {e g : PyData} (h : Dp K H v (.tuple [.str w, e, g])) : ∃ p y z, v = .ref p ∧ SqT K H p [.str w, y, z] ∧ Dp K H y e ∧ Dp K H z g := by
  obtain ⟨p, x, y, z, e1, h1, h2, h3, h4⟩ := of_dp3 h
  have q := of_dps h2
  subst q
  exact ⟨p, y, z, e1, h1, h3, h4⟩
theorem of_body2 {v : V} {w : Str} {e : PyData} (h : Dp K H v (.tuple [.str w, e])) : ∃ p y, v = .ref p ∧ SqT K H p [.str w, y] ∧ Dp K H y e := by
  obtain ⟨p, x, y, e1, h1, h2, h3⟩ := of_dp2 h
  have q := of_dps h2
  subst q
  exact ⟨p, y, e1, h1, h3⟩
theorem ty_tup {a : Addr} {xs : List V} (h : SqT K H a xs) : TyX K H (.ref a) (.type "tuple") := by
  rcases h with h | ⟨o, its, n, lk, hc, _⟩
  · rcases h with h | ⟨o, h⟩
    · exact .base (.tup h)
    · exact .fTuple h
  · exact .kTuple lk hc
theorem ty_lst {a : Addr} {xs : List V} (h : SqL K H a xs) : TyX K H (.ref a) (.type "list") := by
  rcases h with h | ⟨o, its, n, lk, hc, _⟩
  · rcases h with h | ⟨o, h⟩
    · exact .base (.lst h)
    · exact .base (.frz h)
  · exact .kList lk hc
/-! ### names -/
structure Fn (K : PySem.W.Frag) (mg : Str → Option Value) (name : Str) (f : Addr) (fd : FuncData) (ps : List Str) : Prop where
  kp : PySem.W.keepIn K (.ref f) = true
  b : Binds K fd ps []
  m : mg name = some (.ref f)
/-- the built-ins whose names the program takes, its constants -/
structure Nm (K : PySem.W.Frag) (mg : Str → Option Value) : Prop where
  isinstance : mg "isinstance" = none
  int : mg "int" = none
  bool : mg "bool" = none
  tuple : mg "tuple" = none
  list : mg "list" = none
  set : mg "set" = none
  len : mg "len" = none
  all : mg "all" = none
  range : mg "range" = none
  sorted : mg "sorted" = none
  side : ∃ t, mg "SIDE" = some (.int 4 t)
  last : ∃ t, mg "LAST" = some (.int 3 t)
  most : ∃ t, mg "MOST_BODIES" = some (.int 20 t)
  edges : ∃ a, mg "EDGES" = some (.ref a) ∧ ∀ H, SqT K H a [.str "x", .str "y", .str "z"]
  joins : ∃ a, mg "JOINS" = some (.ref a) ∧ ∀ H, SqT K H a [.str "with", .str "common", .str "less"]
/-- a def whose code object is at c -/
structure FunC (K : PySem.W.Frag) (x qual : Str) (st : Stmt) (f : Addr) (fd : FuncData) (c : Addr) : Prop where
  ex : ∃ (oc : Value) (od : Option Addr) (kV doc pm : Value) (an : Option Addr) (ct : Value) (osl : Array (Option Value)),
    fd = PySem.W.fnOf x qual (defArgs st) (defBody st) (defScope st) .none kV doc pm an (.ref c) ct ∧ K.lookup f = some ⟨oc, od, .func fd, osl⟩ ∧ PySem.W.codeIn K (.ref c) qual = true
section
variable {P : Program} {w : World} {mg : Str → Option Value} {base : Heap}
theorem FunC.ok {x qual : Str} {st : Stmt} {f c : Addr} {fd : FuncData} {N ps : List Str} {k : Nat} {sp : Sp} (F : FunC K x qual st f fd c) (S : FnScope N ps (defScope st)) (len : ∀ vs H Q E, sp vs H Q E → vs.length = ps.length)
    (hbody : ∀ (A : Around) (outer : List Env) (s : Shared) (H : Hp) (vs : List V) (Q : VK) (E : XK), Room k (A.deeper (envOfC qual (defScope st) s.heap.objs.size f (.ref c))) → sp vs H Q E →
      ∃ t, PSs (cxOf CX0 P w K mg base N qual (defScope st) f (.ref c) A outer s H E).nox (defBody st) t ∧ t { nx := fun _ H' => Q .non H', rt := Q } (start N vs) H) : FnOk P w K mg base CX0 (k + 1) f fd ps sp := by
  obtain ⟨oc, od, kV, doc, pm, an, ct, osl, rfl, lk, hcd⟩ := F.ex
  refine fn_of lk hcd S len fun A outer s H vs Q E hr hsp => ?_
  obtain ⟨t, h, q⟩ := hbody A outer s H vs Q E hr hsp
  exact ⟨t, h.nox, q⟩
theorem FunC.okX {x qual : Str} {st : Stmt} {f c : Addr} {fd : FuncData} {N ps : List Str} {k : Nat} {sp : Sp} (F : FunC K x qual st f fd c) (S : FnScope N ps (defScope st)) (len : ∀ vs H Q E, sp vs H Q E → vs.length = ps.length)
    (hbody : ∀ (A : Around) (outer : List Env) (s : Shared) (H : Hp) (vs : List V) (Q : VK) (E : XK), Room k (A.deeper (envOfC qual (defScope st) s.heap.objs.size f (.ref c))) → sp vs H Q E →
      ∃ t, PSs (cxOf (L2.CX P w) P w K mg base N qual (defScope st) f (.ref c) A outer s H E) (defBody st) t ∧ t { nx := fun _ H' => Q .non H', rt := Q } (start N vs) H) : FnOk P w K mg base (L2.CX P w) (k + 1) f fd ps sp := by
  obtain ⟨oc, od, kV, doc, pm, an, ct, osl, rfl, lk, hcd⟩ := F.ex
  exact fn_of lk hcd S len fun A outer s H vs Q E hr hsp => hbody A outer s H vs Q E hr hsp
theorem fun_mkC {x qual : Str} {st : Stmt} {f c : Addr} {oc : Value} {od an : Option Addr} {osl : Array (Option Value)} {kV doc pm ct : Value} (l : K.lookup f = some ⟨oc, od, .func (PySem.W.fnOf x qual (defArgs st) (defBody st) (defScope st) .none kV doc pm an (.ref c) ct), osl⟩)
    (cd : PySem.W.codeIn K (.ref c) qual = true) : FunC K x qual st f (PySem.W.fnOf x qual (defArgs st) (defBody st) (defScope st) .none kV doc pm an (.ref c) ct) c := ⟨⟨oc, od, kV, doc, pm, an, ct, osl, rfl, l, cd⟩⟩
end
section
variable {X : Cx}
/-- what stands in the invariant may be used -/
theorem pe_fr {e : Expr} {t : TE} (h : X.A.frames = some X.stack → PE X e t) : PE X e t := ⟨fun pins s σ H Q I q => (h I.ok.frames).run pins s σ H Q I q⟩
end
end LP
end

section
set_option Elab.async false
set_option linter.all false
set_option maxRecDepth 100000
set_option maxHeartbeats 2000000
/-! is_number, _is_triple, _are_rising_cells -/
namespace LP
open PySem PySem.Spec PyProof.Rows L2 Ly GY
variable [LamTab] {P : Program} {w : World} {K : PySem.W.Frag} {mg : Str → Option Value} {base : Heap}
def btw (lo hi i : Int) : Bool := decide (lo ≤ i) && decide (i ≤ hi)
def tri (lo hi : Int) (c : C3) : Bool := btw lo hi c.1 && (btw lo hi c.2.1 && btw lo hi c.2.2)
theorem tri_room {c : C3} : tri 0 3 c = true ↔ InR c := by
  unfold tri btw InR
  simp only [Bool.and_eq_true, decide_eq_true_eq]
def spNum : Sp := fun vs H Q _ => ∃ v lo hi : Int, vs = [.int v, .int lo, .int hi] ∧ Q (.bl (btw lo hi v)) H
theorem scNum : FnScope ["value", "low", "high"] ["value", "low", "high"] (defScope sNum) := ⟨rfl, rfl, rfl, by decide +kernel, rfl, by decide +kernel, by decide +kernel⟩
theorem ok_num {f : Addr} {fd : FuncData} (F : Fun K "is_number" "is_number" sNum f fd) (T : Nm K mg) : FnOk P w K mg base CX0 1 f fd ["value", "low", "high"] spNum := by
  refine F.ok scNum (fun vs H Q E h => ?_) (fun cdv A outer s H vs Q E hr h => ?_)
  · obtain ⟨v, lo, hi, rfl, _⟩ := h
    rfl
  · obtain ⟨v, lo, hi, rfl, q⟩ := h
    refine ⟨_, pss_one (ps_ret (pe_and (pe_callB call_isi (by rfl) T.isinstance (by decide +kernel) (pa_cons (pv 0) (pa_cons (pe_bltn (by rfl) T.int (by decide +kernel) (v := .ty "int") rfl) pa_nil)))
      (pe_and (pe_not (pe_callB call_isi (by rfl) T.isinstance (by decide +kernel) (pa_cons (pv 0) (pa_cons (pe_bltn (by rfl) T.bool (by decide +kernel) (v := .ty "bool") rfl) pa_nil))))
        (pe_one (pe_chain op_le op_le (pv 1) (pv 0) (pv 2)))))), ?_⟩
    refine ⟨_, rfl, _, _, _, _, _, rfl, .ty _, .base (.int _), kit_ty (r := true) (by decide +kernel), true, rfl, iteT ?_⟩
    refine ⟨_, rfl, _, _, _, _, _, rfl, .ty _, .base (.int _), kit_ty (r := false) (by decide +kernel), false, rfl, true, rfl, iteT ?_⟩
    refine ⟨_, rfl, _, rfl, _, _, rfl, rfl, _, rfl, ?_⟩
    have e : btw lo hi v = (decide (lo ≤ v) && decide (v ≤ hi)) := rfl
    rw [e] at q
    cases h1 : decide (lo ≤ v) with
    | true =>
      rw [h1] at q
      exact iteT ⟨_, rfl, _, _, rfl, rfl, q⟩
    | false =>
      rw [h1] at q
      exact iteF q

/-! ### _is_triple -/
def spTri (K : PySem.W.Frag) (Pt : Addr) : Sp := fun vs H Q _ => ∃ (a : Addr) (c : C3) (lo hi : Int), vs = [.ref a, .int lo, .int hi] ∧ SqT K H a [.int c.1, .int c.2.1, .int c.2.2] ∧ TGen H Pt ∧ ∀ H', Kp [] H H' → Q (.bl (tri lo hi c)) H'
theorem scTri : FnScope ["value", "low", "high"] ["value", "low", "high"] (defScope sTri) := ⟨rfl, rfl, rfl, by decide +kernel, rfl, by decide +kernel, by decide +kernel⟩
/-- the scope of the one generator expression in a return -/
def genOf : Stmt → Scope
  | .Return (some (.Call _ [.GeneratorExp _ _ sc _] _ _)) _ => sc
  | .Return (some (.BoolOp _ [_, .Call _ [.GeneratorExp _ _ sc _] _ _] _)) _ => sc
  | .Return (some (.BoolOp _ [.Call _ [.GeneratorExp _ _ sc _] _ _, _] _)) _ => sc
  | .If (.BoolOp _ [_, .UnaryOp _ (.Call _ [.GeneratorExp _ _ sc _] _ _) _] _) _ _ _ => sc
  | .If (.UnaryOp _ (.Call _ [.GeneratorExp _ _ sc _] _ _) _) _ _ _ => sc
  | _ => { kind := .function, names := [], isGenerator := false, isCoroutine := false }
def stOf (st : Stmt) (i : Nat) : Stmt := (defBody st).getD i (.Pass ⟨0, 0, 0, 0⟩)
theorem gTri : GX.GOk ["value", "low", "high"] (defScope sTri) (genOf (stOf sTri 1)) "part" := ⟨rfl, rfl, by decide +kernel, rfl, rfl, by decide +kernel, by decide +kernel, by decide +kernel, by decide⟩
theorem btw_all {lo hi : Int} {ns : List Int} {i : Nat} {n : Int} (h : ns[i]? = some n) (p : (ns.take i).all (btw lo hi) = true) :
    (btw lo hi n = true → (ns.take (i + 1)).all (btw lo hi) = true) ∧ (btw lo hi n = false → ns.all (btw lo hi) = false) := by
  refine ⟨fun q => ?_, fun q => ?_⟩
  · rw [List.take_add_one, h]
    show (ns.take i ++ [n]).all _ = true
    rw [List.all_append, p]
    show (true && (btw lo hi n && true)) = true
    rw [q]
    rfl
  · cases e : ns.all (btw lo hi) with
    | false => rfl
    | true =>
      have := List.all_eq_true.mp e n (List.mem_of_getElem? h)
      rw [q] at this
      cases this
theorem int_at {ns : List Int} {i : Nat} {x : V} (h : (ns.map V.int)[i]? = some x) : ∃ n, ns[i]? = some n ∧ x = .int n := by
  rw [List.getElem?_map] at h
  cases e : ns[i]? with
  | none => rw [e] at h; cases h
  | some n => rw [e] at h; exact ⟨n, rfl, (Option.some.inj h).symm⟩
theorem ok_tri {f c Pt fN : Addr} {fd fdN : FuncData} (F : FunC K "_is_triple" "_is_triple" sTri f fd c) (TB : GxR.TabB base mg c Pt) (T : Nm K mg) (N : Fn K mg "is_number" fN fdN ["value", "low", "high"]) (G : FnOk P w K mg base CX0 1 fN fdN ["value", "low", "high"] spNum) :
    FnOk P w K mg base CX0 4 f fd ["value", "low", "high"] (spTri K Pt) := by
  refine F.ok scTri (fun vs H Q E h => ?_) (fun A outer s H vs Q E hr h => ?_)
  · obtain ⟨a, c, lo, hi, rfl, _⟩ := h
    rfl
  · obtain ⟨a, c, lo, hi, rfl, hT, hP, q⟩ := h
    refine ⟨_, pss_cons (ps_if (PW.pt (pw_or (pt_not (pt_val (pe_callB call_isi (by rfl) T.isinstance (by decide +kernel) (pa_cons (pv 0) (pa_cons (pe_bltn (by rfl) T.tuple (by decide +kernel) (v := .ty "tuple") rfl) pa_nil)))))
        (pw_or1 (pt_cmpR op_ne (pe_callB call_len_seq (by rfl) T.len PySem.boot_len (pa_cons (pv 0) pa_nil)) pe_int (nomark _))))) (pss_one (ps_ret pe_bl)) pss_nil)
      (pss_one (ps_ret (pe_fr fun hf => GX.pe_allG (k := 1) hr (by rfl) T.all TB rfl scTri.nd hf gTri (show ("part" : Str) ∉ (["value", "low", "high"] : List Str) by decide) (pi_tup (pv 0))
        (fun A s H C code fp hr1 => pe_call G hr1 (by rfl) N.m N.kp N.b .nil pass0 (pa_cons (pv 3) (pa_cons (pv 1) (pa_cons (pv 2) pa_nil))))))), ?_⟩
    refine ⟨_, rfl, _, _, _, _, _, rfl, .ty _, ty_tup hT, kit_ty (r := true) (by decide +kernel), true, rfl, iteF ?_⟩
    refine ⟨_, rfl, a, _, rfl, .inr hT, rfl, _, rfl, iteF ?_⟩
    refine ⟨_, rfl, a, rfl, ⟨_, hT⟩, hP.1, fun H2 tb => ?_⟩
    have k2 : Kp [] H H2 := Kp.tabbed hP tb
    refine ⟨_, _, ⟨Nat.zero_le _, ?p0⟩, GX.turn_tup (xs := [c.1, c.2.1, c.2.2].map V.int) (fun i H' => Kp [] H H' ∧ ([c.1, c.2.1, c.2.2].take i).all (btw lo hi) = true) rfl (fun i H' _ k => k.1.sqT hT) (fun i x H' hx ⟨k, p⟩ => ?ps) (fun H' ⟨k, p⟩ => ?pd)⟩
    case p0 => exact ⟨k2, rfl⟩
    case ps =>
      obtain ⟨n, hn, rfl⟩ := int_at hx
      refine ⟨_, rfl, _, rfl, _, rfl, n, lo, hi, rfl, _, rfl, ?_⟩
      have z := btw_all hn p
      have hi' : i < ([c.1, c.2.1, c.2.2].map V.int).length := (List.getElem?_eq_some_iff.mp hx).1
      cases e : btw lo hi n with
      | true => exact iteT ⟨hi', k, z.1 e⟩
      | false =>
        have q1 := q H' k
        rw [show tri lo hi c = false from by
          have := z.2 e
          unfold tri
          simpa using this] at q1
        exact iteF q1
    case pd =>
      have q1 := q H' k
      rw [show tri lo hi c = true from by
        unfold tri
        simpa using p] at q1
      exact q1
end LP
end

section
set_option Elab.async false
set_option linter.all false
set_option maxRecDepth 100000
set_option maxHeartbeats 2000000
/-! _are_rising_cells -/
namespace LP
open PySem PySem.Spec PyProof.Rows L2 Ly GY
variable [LamTab] {P : Program} {w : World} {K : PySem.W.Frag} {mg : Str → Option Value} {base : Heap}
theorem lex_c {a b : C3} (h : lt3 a b) : HT.lexLt [a.1, a.2.1, a.2.2] [b.1, b.2.1, b.2.2] = true := by
  unfold lt3 at h
  rw [HT.lexLt_cons, HT.lexLt_cons, HT.lexLt_cons, HT.lexLt_nil_nil]
  rcases h with h | ⟨h1, h | ⟨h2, h3⟩⟩
  · rw [if_neg (by omega)]
    exact decide_eq_true h
  · rw [if_pos h1, if_neg (by omega)]
    exact decide_eq_true h
  · rw [if_pos h1, if_pos h2, if_neg (by omega)]
    exact decide_eq_true h3
theorem asc_at {cs : List C3} (h : Asc cs) {i j : Nat} {a b : C3} (hi : cs[i]? = some a) (hj : cs[j]? = some b) (hl : i < j) : lt3 a b := by
  obtain ⟨h1, rfl⟩ := List.getElem?_eq_some_iff.mp hi
  obtain ⟨h2, rfl⟩ := List.getElem?_eq_some_iff.mp hj
  exact List.pairwise_iff_getElem.mp h i j h1 h2 hl
theorem Items.at {K : PySem.W.Frag} {H : Hp} : ∀ {xs : List V} {cs : List C3} {i : Nat}, Items K H xs cs → i < cs.length → ∃ p c, xs[i]? = some (.ref p) ∧ cs[i]? = some c ∧ SqT K H p [.int c.1, .int c.2.1, .int c.2.2] := by
  intro xs cs i h hi
  have hl := h.length
  have hx : xs[i]? = some xs[i] := List.getElem?_eq_getElem (by omega)
  obtain ⟨c, hc, hd⟩ := h.get hx
  obtain ⟨p, e, hs⟩ := of_dp_c hd
  exact ⟨p, c, by rw [hx, e], hc, hs⟩
/-! ### is_rising, of cells -/
def spRising (K : PySem.W.Frag) : Sp := fun vs H Q _ => ∃ (v : V) (cs : List C3), vs = [v] ∧ CellsT K H v cs ∧ Asc cs ∧ cs.length ≤ 64 ∧ TGen H LamTab.Z ∧ ∀ H', Kp [] H H' → Q (.bl true) H'
theorem scRising : FnScope ["values"] ["values"] (defScope sRising) := ⟨rfl, rfl, rfl, by decide +kernel, rfl, by decide +kernel, by decide +kernel⟩
theorem gRising : GX.GOk ["values"] (defScope sRising) (genOf (stOf sRising 0)) "k" := ⟨rfl, rfl, by decide +kernel, rfl, rfl, by decide +kernel, by decide +kernel, by decide +kernel, by decide⟩
theorem ok_rising {f c : Addr} {fd : FuncData} (F : FunC K "is_rising" "is_rising" sRising f fd c) (TB : GxR.TabB base mg c LamTab.Z) (T : Nm K mg) : FnOk P w K mg base CX0 4 f fd ["values"] (spRising K) := by
  refine F.ok scRising (fun vs H Q E h => ?_) (fun A outer s H vs Q E hr h => ?_)
  · obtain ⟨v, cs, rfl, _⟩ := h
    rfl
  · obtain ⟨v, cs, rfl, hC, hA, h64, hPr, q⟩ := h
    refine ⟨_, pss_one (ps_ret (pe_fr fun hf => GX.pe_allG (k := 1) hr (by rfl) T.all TB rfl scRising.nd hf gRising (show ("k" : Str) ∉ (["values"] : List Str) by decide) (pi_range2 (by rfl) T.range (pa_cons pe_int (pa_cons (pe_callB call_len_seq (by rfl) T.len PySem.boot_len (pa_cons (pv 0) pa_nil)) pa_nil)))
        (fun A s H C code fp hr1 => pe_cmpR (r := rLtT K) (op_ltT hr1.units0) (pe_ix (r := rIxT K) ix_tup (pv 0) (pe_op op_sub (pv 1) pe_int) (fun _ _ => rfl)) (pe_ix (r := rIxT K) ix_tup (pv 0) (pv 1) (fun _ _ => rfl)) (nomark _)))), ?_⟩
    obtain ⟨a, xs, rfl, hT, hI⟩ := of_cellsT hC
    have hl := hI.length
    refine ⟨_, rfl, a, _, rfl, .inr hT, 1, (xs.length : Int), rfl, ⟨by decide, by decide, by omega, by omega⟩, hPr.1, fun H3 tb3 => ?_⟩
    have k3 : Kp [] H H3 := Kp.tabbed hPr tb3
    refine ⟨_, _, ⟨Nat.zero_le _, ?p0⟩, GX.turn_rng (lo := 1) (fun i H' => Kp [] H H') rfl (fun i H' hx k => ?ps) (fun H' k => ?pd)⟩
    case p0 => exact k3
    case ps =>
      obtain ⟨p1, c1, hx1, hc1, hs1⟩ := Items.at hI (show i < cs.length by omega)
      obtain ⟨p2, c2, hx2, hc2, hs2⟩ := Items.at hI (show i + 1 < cs.length by omega)
      refine ⟨_, rfl, _, rfl, _, _, rfl, rfl, a, xs, _, _, rfl, rfl, k.sqT hT, (by rw [show (1 : Int) + (i : Int) - 1 = ((i : Nat) : Int) by omega]; exact atI_nat hx1), ?_⟩
      refine ⟨_, rfl, _, rfl, a, xs, _, _, rfl, rfl, k.sqT hT, (by rw [show (1 : Int) + (i : Int) = ((i + 1 : Nat) : Int) by omega]; exact atI_nat hx2), ?_⟩
      refine ⟨p1, p2, [c1.1, c1.2.1, c1.2.2], [c2.1, c2.2.1, c2.2.2], rfl, rfl, k.sqT hs1, k.sqT hs2, _, rfl, ?_⟩
      rw [lex_c (asc_at hA hc1 hc2 (by omega))]
      exact iteT ⟨by omega, k⟩
    case pd => exact q H' k
def spRise (K : PySem.W.Frag) (Pt Pr : Addr) : Sp := fun vs H Q _ => ∃ (v : V) (cs : List C3), vs = [v] ∧ CellsT K H v cs ∧ Asc cs ∧ (∀ c ∈ cs, InR c) ∧ cs.length ≤ 64 ∧ TGen H Pt ∧ TR H Pr ∧ ∀ H', Kp [] H H' → Q (.bl true) H'
theorem scRise : FnScope ["value"] ["value"] (defScope sRise) := ⟨rfl, rfl, rfl, by decide +kernel, rfl, by decide +kernel, by decide +kernel⟩
theorem gRise1 : GX.GOk ["value"] (defScope sRise) (genOf (stOf sRise 0)) "part" := ⟨rfl, rfl, by decide +kernel, rfl, rfl, by decide +kernel, by decide +kernel, by decide +kernel, by decide⟩
theorem ok_rise {f c Pt Pr fT fZ : Addr} {fd fdT fdZ : FuncData} (F : FunC K "_are_rising_cells" "_are_rising_cells" sRise f fd c) (TB : GxR.TabB base mg c Pr) (T : Nm K mg) (N : Fn K mg "_is_triple" fT fdT ["value", "low", "high"]) (G : FnOk P w K mg base CX0 4 fT fdT ["value", "low", "high"] (spTri K Pt))
    (NZ : Fn K mg "is_rising" fZ fdZ ["values"]) (GZ : FnOk P w K mg base CX0 4 fZ fdZ ["values"] (spRising K)) :
    FnOk P w K mg base CX0 7 f fd ["value"] (spRise K Pt Pr) := by
  obtain ⟨tl, mL⟩ := T.last
  refine F.ok scRise (fun vs H Q E h => ?_) (fun A outer s H vs Q E hr h => ?_)
  · obtain ⟨v, cs, rfl, _⟩ := h
    rfl
  · obtain ⟨v, cs, rfl, hC, hA, hR, h64, hPt, hPr, q⟩ := h
    have hr4 : Room 4 _ := hr.mono (by decide)
    refine ⟨_, pss_cons (ps_if (PW.pt (pw_or (pt_not (pt_val (pe_callB call_isi (by rfl) T.isinstance (by decide +kernel) (pa_cons (pv 0) (pa_cons (pe_bltn (by rfl) T.tuple (by decide +kernel) (v := .ty "tuple") rfl) pa_nil)))))
        (pw_or1 (pt_not (pt_val (pe_fr fun hf => GX.pe_allG (k := 4) hr (by rfl) T.all TB rfl scRise.nd hf gRise1 (show ("part" : Str) ∉ (["value"] : List Str) by decide) (pi_tup (pv 0))
          (fun A s H C code fp hr1 => pe_call G hr1 (by rfl) N.m N.kp N.b .nil pass0 (pa_cons (pv 1) (pa_cons pe_int (pa_cons (pe_glob (v := .int 3) rfl mL ⟨_, rfl⟩) pa_nil)))))))))) (pss_one (ps_ret pe_bl)) pss_nil)
      (pss_one (ps_ret (pe_call GZ hr4 (by rfl) NZ.m NZ.kp NZ.b .nil pass0 (pa_cons (pv 0) pa_nil)))), ?_⟩
    obtain ⟨a, xs, rfl, hT, hI⟩ := of_cellsT hC
    have hl := hI.length
    refine ⟨_, rfl, _, _, _, _, _, rfl, .ty _, ty_tup hT, kit_ty (r := true) (by decide +kernel), true, rfl, iteF ?_⟩
    refine ⟨_, rfl, a, rfl, ⟨_, hT⟩, hPr.1.1, fun H2 tb => ?_⟩
    refine ⟨_, _, ⟨Nat.zero_le _, ?p0⟩, GX.turn_tup (xs := xs) (fun i H' => Kp [] H H') rfl (fun i H' _ k => k.sqT hT) (fun i x H' hx k => ?ps) (fun H' k => ?pd)⟩
    case p0 => exact Kp.tabbed hPr.1 tb
    case ps =>
      obtain ⟨c, hc, hd⟩ := hI.get hx
      obtain ⟨p, rfl, hs⟩ := of_dp_c hd
      refine ⟨_, rfl, p, c, 0, 3, rfl, k.sqT hs, k.tab _ hPt, fun H3 k3 => ⟨_, rfl, ?_⟩⟩
      rw [tri_room.mpr (hR c (List.mem_of_getElem? hc))]
      exact iteT ⟨(List.getElem?_eq_some_iff.mp hx).1, k.trans k3⟩
    case pd =>
      refine ⟨_, rfl, iteF ?_⟩
      exact ⟨_, rfl, _, cs, rfl, cellsT_mono k hC, hA, h64, k.tab _ hPr.2, fun H3 k3 => q H3 (k.trans k3)⟩
end LP
end

section
set_option Elab.async false
set_option linter.all false
set_option maxRecDepth 100000
set_option maxHeartbeats 2000000
/-! _is_formed, _places_within -/
namespace LP
open PySem PySem.Spec PyProof.Rows L2 Ly GY
variable [LamTab] {P : Program} {w : World} {K : PySem.W.Frag} {mg : Str → Option Value} {base : Heap}
theorem itD0 {c A B : Prop} [Decidable c] (h : ¬ c) (b : B) : if decide c = true then A else B := by
  rw [decide_eq_false h]
  exact iteF b
theorem itD1 {c A B : Prop} [Decidable c] (h : c) (a : A) : if decide c = true then A else B := by
  rw [decide_eq_true h]
  exact iteT a
theorem few {cs : List C3} (h : Asc cs) (k : ∀ c ∈ cs, InR c) : cs.length ≤ 64 := by
  have := GZ.nodup_le (asc_nodup h) (fun x hx => mem_room.mpr (k x hx))
  have e : room.length = 64 := by unfold room; rw [List.length_map, List.length_range]
  omega
def spForm (K : PySem.W.Frag) (Pt Pr : Addr) : Sp := fun vs H Q _ => ∃ (v : V) (b : Bd), vs = [v] ∧ Body K H v b ∧ Good b ∧ TGen H Pt ∧ TR H Pr ∧ ∀ H', Kp [] H H' → Q (.bl true) H'
theorem scForm : FnScope ["body", "word"] ["body"] (defScope sFormed) := ⟨rfl, rfl, rfl, by decide +kernel, rfl, by decide +kernel, by decide +kernel⟩
theorem ok_form {f Pt Pr fT fR : Addr} {fd fdT fdR : FuncData} (F : Fun K "_is_formed" "_is_formed" sFormed f fd) (T : Nm K mg)
    (NT : Fn K mg "_is_triple" fT fdT ["value", "low", "high"]) (GT : FnOk P w K mg base CX0 4 fT fdT ["value", "low", "high"] (spTri K Pt))
    (NR : Fn K mg "_are_rising_cells" fR fdR ["value"]) (GR : FnOk P w K mg base CX0 7 fR fdR ["value"] (spRise K Pt Pr)) :
    FnOk P w K mg base CX0 8 f fd ["body"] (spForm K Pt Pr) := by
  obtain ⟨tl, mL⟩ := T.last
  obtain ⟨ts, mS⟩ := T.side
  obtain ⟨aE, mE, hE⟩ := T.edges
  obtain ⟨aJ, mJ, hJ⟩ := T.joins
  refine F.ok scForm (fun vs H Q E h => ?_) (fun cdv A outer s H vs Q E hr h => ?_)
  · obtain ⟨v, b, rfl, _⟩ := h
    rfl
  · obtain ⟨v, b, rfl, hB, hg, hPt, hPr, q⟩ := h
    have hr4 : Room 4 _ := hr.mono (by decide)
    refine ⟨_, pss_cons (ps_if (PW.pt (pw_or (pt_not (pt_val (pe_callB call_isi (by rfl) T.isinstance (by decide +kernel) (pa_cons (pv 0) (pa_cons (pe_bltn (by rfl) T.tuple (by decide +kernel) (v := .ty "tuple") rfl) pa_nil)))))
        (pw_or1 (pt_cmpR op_notIn_seq (pe_callB call_len_seq (by rfl) T.len PySem.boot_len (pa_cons (pv 0) pa_nil)) (pe_tup (pa_cons pe_int (pa_cons pe_int pa_nil))) (by rfl))))) (pss_one (ps_ret pe_bl)) pss_nil)
      (pss_cons (ps_set (i := 1) scForm.nd rfl (.inl rfl) (pe_ix ix_tup (pv 0) pe_int (fun _ _ => rfl)))
      (pss_cons (ps_if (pt_cmpR op_eq (pe_callB call_len_seq (by rfl) T.len PySem.boot_len (pa_cons (pv 0) pa_nil)) pe_int (nomark _))
        (pss_one (ps_ret (pe_and (pe_cmpR op_eq (pv 1) pe_str (nomark _)) (pe_one (pe_call GR hr (by rfl) NR.m NR.kp NR.b .nil pass0 (pa_cons (pe_ix ix_tup (pv 0) pe_int (fun _ _ => rfl)) pa_nil)))))) pss_nil)
      (pss_cons (ps_if (pt_cmpR op_eq (pv 1) pe_str (nomark _))
        (pss_one (ps_ret (pe_and (pe_call GT hr4 (by rfl) NT.m NT.kp NT.b .nil pass0 (pa_cons (pe_ix ix_tup (pv 0) pe_int (fun _ _ => rfl)) (pa_cons pe_int (pa_cons (pe_glob (v := .int 3) rfl mL ⟨_, rfl⟩) pa_nil))))
          (pe_one (pe_call GT hr4 (by rfl) NT.m NT.kp NT.b .nil pass0 (pa_cons (pe_ix ix_tup (pv 0) pe_int (fun _ _ => rfl)) (pa_cons pe_int (pa_cons (pe_glob (v := .int 4) rfl mS ⟨_, rfl⟩) pa_nil)))))))) pss_nil)
      (pss_cons (ps_if (pt_cmpR op_eq (pv 1) pe_str (nomark _))
        (pss_one (ps_ret (pe_call GT hr4 (by rfl) NT.m NT.kp NT.b .nil pass0 (pa_cons (pe_ix ix_tup (pv 0) pe_int (fun _ _ => rfl)) (pa_cons (pe_un un_neg (pe_glob (v := .int 3) rfl mL ⟨_, rfl⟩)) (pa_cons (pe_glob (v := .int 3) rfl mL ⟨_, rfl⟩) pa_nil)))))) pss_nil)
      (pss_cons (ps_if (pt_cmpR op_eq (pv 1) pe_str (nomark _)) (pss_one (ps_ret (pe_cmpR op_in_seq (pe_ix ix_tup (pv 0) pe_int (fun _ _ => rfl)) (pe_glob (v := .ref aE) rfl mE rfl) (by rfl)))) pss_nil)
      (pss_one (ps_ret (pe_cmpR op_in_seq (pv 1) (pe_glob (v := .ref aJ) rfl mJ rfl) (by rfl))))))))), ?_⟩
    cases b with
    | block x y z a b c =>
      obtain ⟨p, y1, z1, rfl, hT, h1, h2⟩ := of_body3 hB
      refine ⟨_, rfl, _, _, _, _, _, rfl, .ty _, ty_tup hT, kit_ty (r := true) (by decide +kernel), true, rfl, iteF ?_⟩
      refine ⟨_, rfl, p, _, rfl, .inr hT, (by show 2 ≤ sizeLine; decide), fun t ht => ⟨t, _, rfl, .inr (SqT.of upd_same), rfl, rfl, _, rfl, iteF ?_⟩⟩
      have k1 : Kp [] H (upd H t (.tup [.int 2, .int 3])) := Kp.new ht
      generalize upd H t (.tup [.int 2, .int 3]) = H1 at k1 ⊢
      refine ⟨_, rfl, p, _, _, _, rfl, rfl, k1.sqT hT, rfl, ?_⟩
      refine ⟨_, rfl, p, _, rfl, .inr (k1.sqT hT), rfl, _, rfl, itD0 (show ¬ V.int 3 = V.int 2 by decide) ?_⟩
      refine ⟨_, rfl, rfl, _, rfl, itD1 (by decide +kernel) ?_⟩
      obtain ⟨p1, rfl, hs1⟩ := of_dp_c h1
      obtain ⟨p2, rfl, hs2⟩ := of_dp_c h2
      obtain ⟨⟨g1, g2, g3⟩, ga, gb, gc⟩ := hg
      refine ⟨_, rfl, p, _, _, _, rfl, rfl, k1.sqT hT, rfl, p1, (x, y, z), 0, 3, rfl, k1.sqT hs1, k1.tab _ hPt, fun H2 k2 => ⟨_, rfl, ?_⟩⟩
      rw [tri_room.mpr ⟨g1, g2, g3⟩]
      refine iteT ⟨_, rfl, p, _, _, _, rfl, rfl, k2.sqT (k1.sqT hT), rfl, p2, (a, b, c), 1, 4, rfl, k2.sqT (k1.sqT hs2), k2.tab _ (k1.tab _ hPt), fun H3 k3 => ?_⟩
      have e : tri 1 4 (a, b, c) = true := by
        unfold tri btw
        simp only [Bool.and_eq_true, decide_eq_true_eq]
        simp only at g1 g2 g3
        omega
      rw [e]
      exact q H3 ((k1.trans k2).trans k3)
    | cells cs =>
      obtain ⟨p, y1, rfl, hT, h1⟩ := of_body2 hB
      refine ⟨_, rfl, _, _, _, _, _, rfl, .ty _, ty_tup hT, kit_ty (r := true) (by decide +kernel), true, rfl, iteF ?_⟩
      refine ⟨_, rfl, p, _, rfl, .inr hT, (by show 2 ≤ sizeLine; decide), fun t ht => ⟨t, _, rfl, .inr (SqT.of upd_same), rfl, rfl, _, rfl, iteF ?_⟩⟩
      have k1 : Kp [] H (upd H t (.tup [.int 2, .int 3])) := Kp.new ht
      generalize upd H t (.tup [.int 2, .int 3]) = H1 at k1 ⊢
      refine ⟨_, rfl, p, _, _, _, rfl, rfl, k1.sqT hT, rfl, ?_⟩
      refine ⟨_, rfl, p, _, rfl, .inr (k1.sqT hT), rfl, _, rfl, itD1 (show V.int 2 = V.int 2 from rfl) ?_⟩
      refine ⟨_, rfl, rfl, _, rfl, itD1 (by decide +kernel) ?_⟩
      exact ⟨_, rfl, p, _, _, _, rfl, rfl, k1.sqT hT, rfl, y1, cs, rfl, cellsT_mono k1 h1, hg.1, hg.2, few hg.1 hg.2, k1.tab _ hPt, k1.tabr hPr, fun H3 k3 => q H3 (k1.trans k3)⟩
    | wth b1 b2 =>
      obtain ⟨p, y1, z1, rfl, hT, h1, h2⟩ := of_body3 hB
      refine ⟨_, rfl, _, _, _, _, _, rfl, .ty _, ty_tup hT, kit_ty (r := true) (by decide +kernel), true, rfl, iteF ?_⟩
      refine ⟨_, rfl, p, _, rfl, .inr hT, (by show 2 ≤ sizeLine; decide), fun t ht => ⟨t, _, rfl, .inr (SqT.of upd_same), rfl, rfl, _, rfl, iteF ?_⟩⟩
      have k1 : Kp [] H (upd H t (.tup [.int 2, .int 3])) := Kp.new ht
      generalize upd H t (.tup [.int 2, .int 3]) = H1 at k1 ⊢
      refine ⟨_, rfl, p, _, _, _, rfl, rfl, k1.sqT hT, rfl, ?_⟩
      refine ⟨_, rfl, p, _, rfl, .inr (k1.sqT hT), rfl, _, rfl, itD0 (show ¬ V.int 3 = V.int 2 by decide) ?_⟩
      refine ⟨_, rfl, rfl, _, rfl, itD0 (by decide +kernel) ?_⟩
      refine ⟨_, rfl, rfl, _, rfl, itD0 (by decide +kernel) ?_⟩
      refine ⟨_, rfl, rfl, _, rfl, itD0 (by decide +kernel) ?_⟩
      exact ⟨_, rfl, aJ, _, rfl, .inr (hJ _), rfl, rfl, q H1 k1⟩
    | common b1 b2 =>
      obtain ⟨p, y1, z1, rfl, hT, h1, h2⟩ := of_body3 hB
      refine ⟨_, rfl, _, _, _, _, _, rfl, .ty _, ty_tup hT, kit_ty (r := true) (by decide +kernel), true, rfl, iteF ?_⟩
      refine ⟨_, rfl, p, _, rfl, .inr hT, (by show 2 ≤ sizeLine; decide), fun t ht => ⟨t, _, rfl, .inr (SqT.of upd_same), rfl, rfl, _, rfl, iteF ?_⟩⟩
      have k1 : Kp [] H (upd H t (.tup [.int 2, .int 3])) := Kp.new ht
      generalize upd H t (.tup [.int 2, .int 3]) = H1 at k1 ⊢
      refine ⟨_, rfl, p, _, _, _, rfl, rfl, k1.sqT hT, rfl, ?_⟩
      refine ⟨_, rfl, p, _, rfl, .inr (k1.sqT hT), rfl, _, rfl, itD0 (show ¬ V.int 3 = V.int 2 by decide) ?_⟩
      refine ⟨_, rfl, rfl, _, rfl, itD0 (by decide +kernel) ?_⟩
      refine ⟨_, rfl, rfl, _, rfl, itD0 (by decide +kernel) ?_⟩
      refine ⟨_, rfl, rfl, _, rfl, itD0 (by decide +kernel) ?_⟩
      exact ⟨_, rfl, aJ, _, rfl, .inr (hJ _), rfl, rfl, q H1 k1⟩
    | less b1 b2 =>
      obtain ⟨p, y1, z1, rfl, hT, h1, h2⟩ := of_body3 hB
      refine ⟨_, rfl, _, _, _, _, _, rfl, .ty _, ty_tup hT, kit_ty (r := true) (by decide +kernel), true, rfl, iteF ?_⟩
      refine ⟨_, rfl, p, _, rfl, .inr hT, (by show 2 ≤ sizeLine; decide), fun t ht => ⟨t, _, rfl, .inr (SqT.of upd_same), rfl, rfl, _, rfl, iteF ?_⟩⟩
      have k1 : Kp [] H (upd H t (.tup [.int 2, .int 3])) := Kp.new ht
      generalize upd H t (.tup [.int 2, .int 3]) = H1 at k1 ⊢
      refine ⟨_, rfl, p, _, _, _, rfl, rfl, k1.sqT hT, rfl, ?_⟩
      refine ⟨_, rfl, p, _, rfl, .inr (k1.sqT hT), rfl, _, rfl, itD0 (show ¬ V.int 3 = V.int 2 by decide) ?_⟩
      refine ⟨_, rfl, rfl, _, rfl, itD0 (by decide +kernel) ?_⟩
      refine ⟨_, rfl, rfl, _, rfl, itD0 (by decide +kernel) ?_⟩
      refine ⟨_, rfl, rfl, _, rfl, itD0 (by decide +kernel) ?_⟩
      exact ⟨_, rfl, aJ, _, rfl, .inr (hJ _), rfl, rfl, q H1 k1⟩
    | moved d b1 =>
      obtain ⟨p, y1, z1, rfl, hT, h1, h2⟩ := of_body3 hB
      refine ⟨_, rfl, _, _, _, _, _, rfl, .ty _, ty_tup hT, kit_ty (r := true) (by decide +kernel), true, rfl, iteF ?_⟩
      refine ⟨_, rfl, p, _, rfl, .inr hT, (by show 2 ≤ sizeLine; decide), fun t ht => ⟨t, _, rfl, .inr (SqT.of upd_same), rfl, rfl, _, rfl, iteF ?_⟩⟩
      have k1 : Kp [] H (upd H t (.tup [.int 2, .int 3])) := Kp.new ht
      generalize upd H t (.tup [.int 2, .int 3]) = H1 at k1 ⊢
      refine ⟨_, rfl, p, _, _, _, rfl, rfl, k1.sqT hT, rfl, ?_⟩
      refine ⟨_, rfl, p, _, rfl, .inr (k1.sqT hT), rfl, _, rfl, itD0 (show ¬ V.int 3 = V.int 2 by decide) ?_⟩
      refine ⟨_, rfl, rfl, _, rfl, itD0 (by decide +kernel) ?_⟩
      refine ⟨_, rfl, rfl, _, rfl, itD1 (by decide +kernel) ?_⟩
      obtain ⟨p1, rfl, hs1⟩ := of_dp_c h1
      refine ⟨_, rfl, p, _, _, _, rfl, rfl, k1.sqT hT, rfl, 3, rfl, p1, d, -3, 3, rfl, k1.sqT hs1, k1.tab _ hPt, fun H2 k2 => ?_⟩
      have e : tri (-3) 3 d = true := by
        have := hg.1
        unfold Far at this
        unfold tri btw
        simp only [Bool.and_eq_true, decide_eq_true_eq]
        omega
      rw [e]
      exact q H2 (k1.trans k2)
    | turnX b1 =>
      obtain ⟨p, y1, z1, rfl, hT, h1, h2⟩ := of_body3 hB
      refine ⟨_, rfl, _, _, _, _, _, rfl, .ty _, ty_tup hT, kit_ty (r := true) (by decide +kernel), true, rfl, iteF ?_⟩
      refine ⟨_, rfl, p, _, rfl, .inr hT, (by show 2 ≤ sizeLine; decide), fun t ht => ⟨t, _, rfl, .inr (SqT.of upd_same), rfl, rfl, _, rfl, iteF ?_⟩⟩
      have k1 : Kp [] H (upd H t (.tup [.int 2, .int 3])) := Kp.new ht
      generalize upd H t (.tup [.int 2, .int 3]) = H1 at k1 ⊢
      refine ⟨_, rfl, p, _, _, _, rfl, rfl, k1.sqT hT, rfl, ?_⟩
      refine ⟨_, rfl, p, _, rfl, .inr (k1.sqT hT), rfl, _, rfl, itD0 (show ¬ V.int 3 = V.int 2 by decide) ?_⟩
      refine ⟨_, rfl, rfl, _, rfl, itD0 (by decide +kernel) ?_⟩
      refine ⟨_, rfl, rfl, _, rfl, itD0 (by decide +kernel) ?_⟩
      refine ⟨_, rfl, rfl, _, rfl, itD1 (by decide +kernel) ?_⟩
      obtain rfl := of_dps h1
      exact ⟨_, rfl, p, _, _, _, rfl, rfl, k1.sqT hT, rfl, aE, _, rfl, .inr (hE _), rfl, rfl, q H1 k1⟩
    | turnY b1 =>
      obtain ⟨p, y1, z1, rfl, hT, h1, h2⟩ := of_body3 hB
      refine ⟨_, rfl, _, _, _, _, _, rfl, .ty _, ty_tup hT, kit_ty (r := true) (by decide +kernel), true, rfl, iteF ?_⟩
      refine ⟨_, rfl, p, _, rfl, .inr hT, (by show 2 ≤ sizeLine; decide), fun t ht => ⟨t, _, rfl, .inr (SqT.of upd_same), rfl, rfl, _, rfl, iteF ?_⟩⟩
      have k1 : Kp [] H (upd H t (.tup [.int 2, .int 3])) := Kp.new ht
      generalize upd H t (.tup [.int 2, .int 3]) = H1 at k1 ⊢
      refine ⟨_, rfl, p, _, _, _, rfl, rfl, k1.sqT hT, rfl, ?_⟩
      refine ⟨_, rfl, p, _, rfl, .inr (k1.sqT hT), rfl, _, rfl, itD0 (show ¬ V.int 3 = V.int 2 by decide) ?_⟩
      refine ⟨_, rfl, rfl, _, rfl, itD0 (by decide +kernel) ?_⟩
      refine ⟨_, rfl, rfl, _, rfl, itD0 (by decide +kernel) ?_⟩
      refine ⟨_, rfl, rfl, _, rfl, itD1 (by decide +kernel) ?_⟩
      obtain rfl := of_dps h1
      exact ⟨_, rfl, p, _, _, _, rfl, rfl, k1.sqT hT, rfl, aE, _, rfl, .inr (hE _), rfl, rfl, q H1 k1⟩
    | turnZ b1 =>
      obtain ⟨p, y1, z1, rfl, hT, h1, h2⟩ := of_body3 hB
      refine ⟨_, rfl, _, _, _, _, _, rfl, .ty _, ty_tup hT, kit_ty (r := true) (by decide +kernel), true, rfl, iteF ?_⟩
      refine ⟨_, rfl, p, _, rfl, .inr hT, (by show 2 ≤ sizeLine; decide), fun t ht => ⟨t, _, rfl, .inr (SqT.of upd_same), rfl, rfl, _, rfl, iteF ?_⟩⟩
      have k1 : Kp [] H (upd H t (.tup [.int 2, .int 3])) := Kp.new ht
      generalize upd H t (.tup [.int 2, .int 3]) = H1 at k1 ⊢
      refine ⟨_, rfl, p, _, _, _, rfl, rfl, k1.sqT hT, rfl, ?_⟩
      refine ⟨_, rfl, p, _, rfl, .inr (k1.sqT hT), rfl, _, rfl, itD0 (show ¬ V.int 3 = V.int 2 by decide) ?_⟩
      refine ⟨_, rfl, rfl, _, rfl, itD0 (by decide +kernel) ?_⟩
      refine ⟨_, rfl, rfl, _, rfl, itD0 (by decide +kernel) ?_⟩
      refine ⟨_, rfl, rfl, _, rfl, itD1 (by decide +kernel) ?_⟩
      obtain rfl := of_dps h1
      exact ⟨_, rfl, p, _, _, _, rfl, rfl, k1.sqT hT, rfl, aE, _, rfl, .inr (hE _), rfl, rfl, q H1 k1⟩
end LP
end

section
set_option Elab.async false
set_option linter.all false
set_option maxRecDepth 100000
set_option maxHeartbeats 2000000
/-! _places_within, is_body -/
namespace LP
open PySem PySem.Spec PyProof.Rows L2 Ly GY
variable [LamTab] {P : Program} {w : World} {K : PySem.W.Frag} {mg : Str → Option Value} {base : Heap}
theorem itB0 {c : Bool} {A B : Prop} (h : c = false) (b : B) : if c = true then A else B := by
  subst h
  exact iteF b
theorem itB1 {c : Bool} {A B : Prop} (h : c = true) (a : A) : if c = true then A else B := by
  subst h
  exact iteT a
def subs : Bd → List Bd
  | .wth p q => [p, q]
  | .common p q => [p, q]
  | .less p q => [p, q]
  | .moved _ p => [p]
  | .turnX p => [p]
  | .turnY p => [p]
  | .turnZ p => [p]
  | _ => []
abbrev Bodies (K : PySem.W.Frag) (H : Hp) (vs : List V) (bs : List Bd) : Prop := DpAll K H vs (bs.map bD)
theorem noLs_bs : ∀ bs : List Bd, noLs (bs.map bD) = true
  | [] => rfl
  | c :: cs => by
    show (noL (bD c) && noLs (cs.map bD)) = true
    rw [noLs_bs cs, noL_b]
    rfl
theorem bodies_mono {S : List Addr} {H H' : Hp} {vs : List V} {bs : List Bd} (k : Kp S H H') (h : Bodies K H vs bs) : Bodies K H' vs bs := dps_mono k _ h (.inl (noLs_bs bs))
theorem Bodies.length {H : Hp} : ∀ {vs : List V} {bs : List Bd}, Bodies K H vs bs → vs.length = bs.length
  | _, [], h => by cases h; rfl
  | _, _ :: _, h => by
    cases h with
    | cons _ t => exact congrArg (· + 1) (Bodies.length t)
theorem Bodies.append {H : Hp} : ∀ {vs : List V} {bs : List Bd} {ws : List V} {cs : List Bd}, Bodies K H vs bs → Bodies K H ws cs → Bodies K H (vs ++ ws) (bs ++ cs)
  | _, [], _, _, h, k => by cases h; exact k
  | _, _ :: _, _, _, h, k => by
    cases h with
    | cons a t => exact .cons a (Bodies.append t k)
/-- the last of them -/
theorem Bodies.last {H : Hp} : ∀ {vs : List V} {bs : List Bd}, Bodies K H vs bs → bs ≠ [] → ∃ v b, vs[vs.length - 1]? = some v ∧ bs = bs.dropLast ++ [b] ∧ Body K H v b ∧ Bodies K H vs.dropLast bs.dropLast
  | _, [], _, n => absurd rfl n
  | _, [b], h, _ => by
    cases h with
    | cons a t =>
      cases t
      exact ⟨_, b, rfl, rfl, a, .nil⟩
  | _, b :: c :: r, h, _ => by
    cases h with
    | @cons v vs' _ _ a t =>
      obtain ⟨x, d, h1, h2, h3, h4⟩ := Bodies.last t (by simp)
      have hl := Bodies.length (bs := c :: r) t
      obtain ⟨y, ys, rfl⟩ : ∃ y ys, vs' = y :: ys := by
        cases vs' with
        | nil => cases hl
        | cons y ys => exact ⟨y, ys, rfl⟩
      refine ⟨x, d, ?_, ?_, h3, .cons a h4⟩
      · simpa using h1
      · show b :: (c :: r) = b :: (c :: r).dropLast ++ [d]
        rw [List.cons_append, ← h2]
def spPlaces (K : PySem.W.Frag) : Sp := fun vs H Q _ => ∃ (v : V) (b : Bd), vs = [v] ∧ Body K H v b ∧ ∀ H' l us, Kp [] H H' → H l = none → H' l = some (.lst us) → Bodies K H' us (subs b) → Q (.ref l) H'
theorem scPlaces : FnScope ["body", "word"] ["body"] (defScope sPlaces) := ⟨rfl, rfl, rfl, by decide +kernel, rfl, by decide +kernel, by decide +kernel⟩
theorem ok_places {f : Addr} {fd : FuncData} (F : Fun K "_places_within" "_places_within" sPlaces f fd) (T : Nm K mg) : FnOk P w K mg base CX0 1 f fd ["body"] (spPlaces K) := by
  obtain ⟨aJ, mJ, hJ⟩ := T.joins
  refine F.ok scPlaces (fun vs H Q E h => ?_) (fun cdv A outer s H vs Q E hr h => ?_)
  · obtain ⟨v, b, rfl, _⟩ := h
    rfl
  · obtain ⟨v, b, rfl, hB, q⟩ := h
    refine ⟨_, pss_cons (ps_set (i := 1) scPlaces.nd rfl (.inl rfl) (pe_ix ix_tup (pv 0) pe_int (fun _ _ => rfl)))
      (pss_cons (ps_if (pt_cmpR op_in_seq (pv 1) (pe_glob (v := .ref aJ) rfl mJ rfl) (by rfl)) (pss_one (ps_ret (pe_lst (pa_cons (pe_ix ix_tup (pv 0) pe_int (fun _ _ => rfl)) (pa_cons (pe_ix ix_tup (pv 0) pe_int (fun _ _ => rfl)) pa_nil))))) pss_nil)
      (pss_cons (ps_if (pt_cmpR op_in_seq (pv 1) (pe_tup (pa_cons pe_str (pa_cons pe_str pa_nil))) (by rfl)) (pss_one (ps_ret (pe_lst (pa_cons (pe_ix ix_tup (pv 0) pe_int (fun _ _ => rfl)) pa_nil)))) pss_nil)
      (pss_one (ps_ret (pe_lst pa_nil))))), ?_⟩
    cases b with
    | block x y z a b c =>
      obtain ⟨p, y1, z1, rfl, hT, h1, h2⟩ := of_body3 hB
      refine ⟨_, rfl, p, _, _, _, rfl, rfl, hT, rfl, ?_⟩
      refine ⟨_, rfl, aJ, _, rfl, .inr (hJ _), rfl, rfl, _, rfl, itB0 (by decide +kernel) ?_⟩
      refine ⟨_, rfl, (by show 2 ≤ sizeLine; decide), fun t ht => ⟨t, _, rfl, .inr (SqT.of upd_same), rfl, rfl, _, rfl, itB0 (by decide +kernel) ?_⟩⟩
      have k1 : Kp [] H (upd H t (.tup [.str "moved", .str "turned"])) := Kp.new ht
      generalize upd H t (.tup [.str "moved", .str "turned"]) = H1 at k1 ⊢
      exact ⟨Nat.zero_le _, fun l hl => q _ l _ (k1.trans (Kp.new hl)) (k1.free _ hl) upd_same .nil⟩
    | cells cs =>
      obtain ⟨p, y1, rfl, hT, h1⟩ := of_body2 hB
      refine ⟨_, rfl, p, _, _, _, rfl, rfl, hT, rfl, ?_⟩
      refine ⟨_, rfl, aJ, _, rfl, .inr (hJ _), rfl, rfl, _, rfl, itB0 (by decide +kernel) ?_⟩
      refine ⟨_, rfl, (by show 2 ≤ sizeLine; decide), fun t ht => ⟨t, _, rfl, .inr (SqT.of upd_same), rfl, rfl, _, rfl, itB0 (by decide +kernel) ?_⟩⟩
      have k1 : Kp [] H (upd H t (.tup [.str "moved", .str "turned"])) := Kp.new ht
      generalize upd H t (.tup [.str "moved", .str "turned"]) = H1 at k1 ⊢
      exact ⟨Nat.zero_le _, fun l hl => q _ l _ (k1.trans (Kp.new hl)) (k1.free _ hl) upd_same .nil⟩
    | wth b1 b2 =>
      obtain ⟨p, y1, z1, rfl, hT, h1, h2⟩ := of_body3 hB
      refine ⟨_, rfl, p, _, _, _, rfl, rfl, hT, rfl, ?_⟩
      refine ⟨_, rfl, aJ, _, rfl, .inr (hJ _), rfl, rfl, _, rfl, itB1 (by decide +kernel) ?_⟩
      refine ⟨_, rfl, p, _, _, _, rfl, rfl, hT, rfl, _, rfl, p, _, _, _, rfl, rfl, hT, rfl, (by show 2 ≤ sizeLine; decide), fun l hl => ?_⟩
      have k1 : Kp [] H (upd H l (.lst [y1, z1])) := Kp.new hl
      exact q _ l _ k1 hl upd_same (.cons (body_mono k1 h1) (.cons (body_mono k1 h2) .nil))
    | common b1 b2 =>
      obtain ⟨p, y1, z1, rfl, hT, h1, h2⟩ := of_body3 hB
      refine ⟨_, rfl, p, _, _, _, rfl, rfl, hT, rfl, ?_⟩
      refine ⟨_, rfl, aJ, _, rfl, .inr (hJ _), rfl, rfl, _, rfl, itB1 (by decide +kernel) ?_⟩
      refine ⟨_, rfl, p, _, _, _, rfl, rfl, hT, rfl, _, rfl, p, _, _, _, rfl, rfl, hT, rfl, (by show 2 ≤ sizeLine; decide), fun l hl => ?_⟩
      have k1 : Kp [] H (upd H l (.lst [y1, z1])) := Kp.new hl
      exact q _ l _ k1 hl upd_same (.cons (body_mono k1 h1) (.cons (body_mono k1 h2) .nil))
    | less b1 b2 =>
      obtain ⟨p, y1, z1, rfl, hT, h1, h2⟩ := of_body3 hB
      refine ⟨_, rfl, p, _, _, _, rfl, rfl, hT, rfl, ?_⟩
      refine ⟨_, rfl, aJ, _, rfl, .inr (hJ _), rfl, rfl, _, rfl, itB1 (by decide +kernel) ?_⟩
      refine ⟨_, rfl, p, _, _, _, rfl, rfl, hT, rfl, _, rfl, p, _, _, _, rfl, rfl, hT, rfl, (by show 2 ≤ sizeLine; decide), fun l hl => ?_⟩
      have k1 : Kp [] H (upd H l (.lst [y1, z1])) := Kp.new hl
      exact q _ l _ k1 hl upd_same (.cons (body_mono k1 h1) (.cons (body_mono k1 h2) .nil))
    | moved d b1 =>
      obtain ⟨p, y1, z1, rfl, hT, h1, h2⟩ := of_body3 hB
      refine ⟨_, rfl, p, _, _, _, rfl, rfl, hT, rfl, ?_⟩
      refine ⟨_, rfl, aJ, _, rfl, .inr (hJ _), rfl, rfl, _, rfl, itB0 (by decide +kernel) ?_⟩
      refine ⟨_, rfl, (by show 2 ≤ sizeLine; decide), fun t ht => ⟨t, _, rfl, .inr (SqT.of upd_same), rfl, rfl, _, rfl, itB1 (by decide +kernel) ?_⟩⟩
      have k1 : Kp [] H (upd H t (.tup [.str "moved", .str "turned"])) := Kp.new ht
      generalize upd H t (.tup [.str "moved", .str "turned"]) = H1 at k1 ⊢
      refine ⟨_, rfl, p, _, _, _, rfl, rfl, k1.sqT hT, rfl, (by show 1 ≤ sizeLine; decide), fun l hl => ?_⟩
      have k2 : Kp [] H (upd H1 l (.lst [z1])) := k1.trans (Kp.new hl)
      exact q _ l _ k2 (k1.free _ hl) upd_same (.cons (body_mono k2 h2) .nil)
    | turnX b1 =>
      obtain ⟨p, y1, z1, rfl, hT, h1, h2⟩ := of_body3 hB
      refine ⟨_, rfl, p, _, _, _, rfl, rfl, hT, rfl, ?_⟩
      refine ⟨_, rfl, aJ, _, rfl, .inr (hJ _), rfl, rfl, _, rfl, itB0 (by decide +kernel) ?_⟩
      refine ⟨_, rfl, (by show 2 ≤ sizeLine; decide), fun t ht => ⟨t, _, rfl, .inr (SqT.of upd_same), rfl, rfl, _, rfl, itB1 (by decide +kernel) ?_⟩⟩
      have k1 : Kp [] H (upd H t (.tup [.str "moved", .str "turned"])) := Kp.new ht
      generalize upd H t (.tup [.str "moved", .str "turned"]) = H1 at k1 ⊢
      refine ⟨_, rfl, p, _, _, _, rfl, rfl, k1.sqT hT, rfl, (by show 1 ≤ sizeLine; decide), fun l hl => ?_⟩
      have k2 : Kp [] H (upd H1 l (.lst [z1])) := k1.trans (Kp.new hl)
      exact q _ l _ k2 (k1.free _ hl) upd_same (.cons (body_mono k2 h2) .nil)
    | turnY b1 =>
      obtain ⟨p, y1, z1, rfl, hT, h1, h2⟩ := of_body3 hB
      refine ⟨_, rfl, p, _, _, _, rfl, rfl, hT, rfl, ?_⟩
      refine ⟨_, rfl, aJ, _, rfl, .inr (hJ _), rfl, rfl, _, rfl, itB0 (by decide +kernel) ?_⟩
      refine ⟨_, rfl, (by show 2 ≤ sizeLine; decide), fun t ht => ⟨t, _, rfl, .inr (SqT.of upd_same), rfl, rfl, _, rfl, itB1 (by decide +kernel) ?_⟩⟩
      have k1 : Kp [] H (upd H t (.tup [.str "moved", .str "turned"])) := Kp.new ht
      generalize upd H t (.tup [.str "moved", .str "turned"]) = H1 at k1 ⊢
      refine ⟨_, rfl, p, _, _, _, rfl, rfl, k1.sqT hT, rfl, (by show 1 ≤ sizeLine; decide), fun l hl => ?_⟩
      have k2 : Kp [] H (upd H1 l (.lst [z1])) := k1.trans (Kp.new hl)
      exact q _ l _ k2 (k1.free _ hl) upd_same (.cons (body_mono k2 h2) .nil)
    | turnZ b1 =>
      obtain ⟨p, y1, z1, rfl, hT, h1, h2⟩ := of_body3 hB
      refine ⟨_, rfl, p, _, _, _, rfl, rfl, hT, rfl, ?_⟩
      refine ⟨_, rfl, aJ, _, rfl, .inr (hJ _), rfl, rfl, _, rfl, itB0 (by decide +kernel) ?_⟩
      refine ⟨_, rfl, (by show 2 ≤ sizeLine; decide), fun t ht => ⟨t, _, rfl, .inr (SqT.of upd_same), rfl, rfl, _, rfl, itB1 (by decide +kernel) ?_⟩⟩
      have k1 : Kp [] H (upd H t (.tup [.str "moved", .str "turned"])) := Kp.new ht
      generalize upd H t (.tup [.str "moved", .str "turned"]) = H1 at k1 ⊢
      refine ⟨_, rfl, p, _, _, _, rfl, rfl, k1.sqT hT, rfl, (by show 1 ≤ sizeLine; decide), fun l hl => ?_⟩
      have k2 : Kp [] H (upd H1 l (.lst [z1])) := k1.trans (Kp.new hl)
      exact q _ l _ k2 (k1.free _ hl) upd_same (.cons (body_mono k2 h2) .nil)
def total (bs : List Bd) : Nat := (bs.map nb).sum
theorem total_append (bs cs : List Bd) : total (bs ++ cs) = total bs + total cs := by unfold total; rw [List.map_append, List.sum_append]
theorem total_subs (b : Bd) : total (subs b) + 1 = nb b := by
  cases b <;> simp only [subs, total, nb, List.map, List.sum_cons, List.sum_nil] <;> omega
theorem good_subs {b : Bd} (g : Good b) : ∀ c ∈ subs b, Good c := by
  intro c hc
  cases b <;> simp only [subs, List.mem_cons, List.not_mem_nil, or_false] at hc
  · rcases hc with rfl | rfl
    · exact g.1
    · exact g.2
  · rcases hc with rfl | rfl
    · exact g.1
    · exact g.2
  · rcases hc with rfl | rfl
    · exact g.1
    · exact g.2
  · subst hc; exact g.2.1
  · subst hc; exact g
  · subst hc; exact g
  · subst hc; exact g
theorem len_total (bs : List Bd) : bs.length ≤ total bs := by
  induction bs with
  | nil => exact Nat.zero_le _
  | cons b t ih =>
    have := nb_pos b
    show t.length + 1 ≤ nb b + total t
    omega
end LP
end

section
set_option Elab.async false
set_option linter.all false
set_option maxRecDepth 100000
set_option maxHeartbeats 2000000
/-! is_body -/
namespace LP
open PySem PySem.Spec PyProof.Rows L2 Ly GY
variable [LamTab] {P : Program} {w : World} {K : PySem.W.Frag} {mg : Str → Option Value} {base : Heap}
/-- what was made since may change -/
theorem Kp.off {S : List Addr} {H H1 H2 : Hp} {l : Addr} (k : Kp S H H1) (h : H l = none) (k' : Kp (l :: S) H1 H2) : Kp S H H2 :=
  ⟨fun b o e n t => k'.keep b o (k.keep b o e n t) (fun z => by
      rcases List.mem_cons.mp z with z | z
      · rw [z, h] at e; cases e
      · exact n z) t, fun b xs e => k'.tup b xs (k.tup b xs e), fun b e => k'.tab b (k.tab b e), fun b o u e => k'.frz b o u (k.frz b o u e), fun b e => k.free b (k'.free b e), fun e => k'.lam (k.lam e)⟩
theorem Kp.chg0 {S : List Addr} {H H1 : Hp} {l : Addr} {xs ys : List V} (k : Kp S H H1) (h : H l = none) (e : H1 l = some (.lst xs)) : Kp S H (upd H1 l (.lst ys)) :=
  k.off h (Kp.chg e (List.mem_cons_self))
theorem seqI {t u : TS} {D : Ends} {σ : L2.St} {H : Hp} (h : t { D with nx := u D } σ H) : tSeq t u D σ H := h
theorem asgC {i : Nat} {v : V} {u : TS} {D : Ends} {σ : L2.St} {H : Hp} (h : u D (σ.set i (some v)) H) : tSeq (tAsg (tC v) (gName i)) u D σ H := h
theorem seqW {c : TT} {tb u : TS} {D : Ends} {σ : L2.St} {H : Hp} (h : tWhile c tb { D with nx := u D } σ H) : tSeq (tWhile c tb) u D σ H := h
theorem nameI {i : Nat} {v : V} {Q : L2.St → Hp → Prop} {σ : L2.St} {H : Hp} (h : Q (σ.set i (some v)) H) : gName i v σ H Q := h
def spIsBody (K : PySem.W.Frag) (Pt Pr : Addr) : Sp := fun vs H Q _ => ∃ (v : V) (b : Bd), vs = [v] ∧ Body K H v b ∧ Good b ∧ nb b ≤ 20 ∧ TGen H Pt ∧ TR H Pr ∧ ∀ H', Kp [] H H' → Q (.bl true) H'
theorem scIsBody : FnScope ["body", "waiting", "many", "one"] ["body"] (defScope sIsBody) := ⟨rfl, rfl, rfl, by decide +kernel, rfl, by decide +kernel, by decide +kernel⟩
theorem ok_isbody {f Pt Pr fF fW : Addr} {fd fdF fdW : FuncData} (F : Fun K "is_body" "is_body" sIsBody f fd) (T : Nm K mg)
    (NF : Fn K mg "_is_formed" fF fdF ["body"]) (GF : FnOk P w K mg base CX0 8 fF fdF ["body"] (spForm K Pt Pr))
    (NW : Fn K mg "_places_within" fW fdW ["body"]) (GW : FnOk P w K mg base CX0 1 fW fdW ["body"] (spPlaces K)) :
    FnOk P w K mg base CX0 9 f fd ["body"] (spIsBody K Pt Pr) := by
  obtain ⟨tm, mM⟩ := T.most
  refine F.ok scIsBody (fun vs H Q E h => ?_) (fun cdv A outer s H vs Q E hr h => ?_)
  · obtain ⟨v, b, rfl, _⟩ := h
    rfl
  · obtain ⟨v, b, rfl, hB, hg, hn, hPt, hPr, q⟩ := h
    have hr1 : Room 1 _ := hr.mono (by decide)
    refine ⟨_, pss_cons (ps_set (i := 1) scIsBody.nd rfl (.inl rfl) (pe_lst (pa_cons (pv 0) pa_nil)))
      (pss_cons (ps_set (i := 2) scIsBody.nd rfl (.inl rfl) pe_int)
      (pss_cons (ps_while PassesOwn.never (pt_truth (pv 1) (by intro _; rfl))
        (pss_cons (ps_set (i := 3) scIsBody.nd rfl (.inl rfl) (pe_bm0 PySem.F.plainAttrs_list PySem.F.slot_list_pop PySem.F.type_list_pop mt_pop (pv 1)))
        (pss_cons (ps_aug (i := 2) scIsBody.nd rfl (.inl rfl) pe_int ip_add)
        (pss_cons (ps_if (PW.pt (pw_or (pt_cmpR op_gt (pv 2) (pe_glob (v := .int 20) rfl mM ⟨_, rfl⟩) (nomark _)) (pw_or1 (pt_not (pt_val (pe_call GF hr (by rfl) NF.m NF.kp NF.b .nil pass0 (pa_cons (pv 3) pa_nil))))))) (pss_one (ps_ret pe_bl)) pss_nil)
        (pss_one (ps_expr (pe_bm PySem.F.plainAttrs_list PySem.F.slot_list_extend PySem.F.type_list_extend mt_extend (pv 1) (pa_cons (pe_call GW hr1 (by rfl) NW.m NW.kp NW.b .nil pass0 (pa_cons (pv 3) pa_nil)) pa_nil))))))))
      (pss_one (ps_ret pe_bl)))), ?_⟩
    refine ⟨_, rfl, (by show 1 ≤ sizeLine; decide), fun l hl => ?_⟩
    have hb := nb_pos b
    refine nameI (i := 1) (v := .ref l) (σ := [some v, none, none, none]) ?_
    refine asgC (i := 2) (v := .int 0) (σ := [some v, some (.ref l), none, none]) ?_
    dsimp only
    refine seqW ?_
    refine while_by (σ := [some v, some (.ref l), some (.int 0), none]) (fun σ H' => Kp [] H H' ∧ ∃ (many : Nat) (us : List V) (bs : List Bd) (o : Option V), σ = [some v, some (.ref l), some (.int (many : Int)), o] ∧ H' l = some (.lst us) ∧ Bodies K H' us bs ∧ (∀ c ∈ bs, Good c) ∧ many + total bs = nb b)
      (fun σ H' => match σ with | [_, _, some (.int m), _] => 20 - m.toNat | _ => 0) ⟨Kp.new hl, 0, _, [b], none, rfl, upd_same, .cons (body_mono (Kp.new hl (S := [])) hB) .nil, fun c hc => ?g0, ?t0⟩ (fun σ H' pv => ?st) (fun σ H' Q Q' hq ⟨v, e, k, t, q⟩ => ⟨v, e, k, t, hq _ _ q⟩)
    case g0 =>
      rw [List.mem_singleton.mp hc]
      exact hg
    case t0 =>
      show 0 + (nb b + 0) = nb b
      omega
    case st =>
      obtain ⟨k, many, us, bs, o, rfl, hL, hBs, hG, hT⟩ := pv
      refine ⟨_, rfl, _, .inl ⟨us, SqL.of hL, rfl⟩, ?_⟩
      by_cases hbs : bs = []
      · subst hbs
        have hl0 := hBs.length
        obtain rfl : us = [] := List.eq_nil_of_length_eq_zero hl0
        exact iteF (q H' k)
      · obtain ⟨x, c, hx, hsp, hc, hrest⟩ := Bodies.last hBs hbs
        have hune : (!us.isEmpty) = true := by
          cases us with
          | nil => cases hx
          | cons _ _ => rfl
        rw [hune]
        refine iteT ?_
        have hcm : c ∈ bs := by rw [hsp]; exact List.mem_append_right _ (List.mem_singleton.mpr rfl)
        have hcT : total bs = total bs.dropLast + nb c := by
          conv => lhs; rw [hsp]
          rw [total_append]
          show _ + (nb c + 0) = _
          omega
        have hnc := nb_pos c
        refine ⟨_, rfl, .inl ⟨rfl, _, SqL.of hL⟩, l, us, x, rfl, rfl, hL, hx, ?_⟩
        have k1 : Kp [] H (upd H' l (.lst us.dropLast)) := k.chg0 hl hL
        have kS : Kp [l] H' (upd H' l (.lst us.dropLast)) := Kp.chg hL (List.mem_singleton.mpr rfl)
        have hc1 := body_mono kS hc
        have hr1 := bodies_mono kS hrest
        have hL1 : upd H' l (.lst us.dropLast) l = some (.lst us.dropLast) := upd_same
        generalize upd H' l (.lst us.dropLast) = H1 at k1 hc1 hr1 hL1 ⊢
        refine ⟨_, rfl, _, _, rfl, rfl, ?_⟩
        refine ⟨_, rfl, _, _, rfl, rfl, _, rfl, itD0 (show ¬ ((many : Int) + 1 > 20) by omega) ?_⟩
        refine ⟨_, rfl, x, c, rfl, hc1, hG c hcm, k1.tab _ hPt, k1.tabr hPr, fun H2 k2 => ⟨true, rfl, iteF ?_⟩⟩
        have hL2 := k2.lst hL1 List.not_mem_nil
        refine ⟨_, rfl, .inl ⟨rfl, _, SqL.of hL2⟩, _, rfl, x, c, rfl, body_mono k2 hc1, fun H3 l3 us3 k3 n3 h3 b3 => ?_⟩
        have hL3 := k3.lst hL2 List.not_mem_nil
        have hlen := hr1.length
        have hlen3 := b3.length
        have h1 := len_total bs.dropLast
        have h2 := len_total (subs c)
        have h3' := total_subs c
        refine ⟨l, l3, us.dropLast, us3, rfl, rfl, hL3, h3, ?sz, ⟨((k1.trans k2).trans k3).chg0 hl hL3, many + 1, _, bs.dropLast ++ subs c, _, rfl, upd_same, ?bb, ?gg, ?tt⟩, ?mm⟩
        case sz =>
          have : (64 : Nat) ≤ sizeLine := by decide
          omega
        case bb =>
          have kS3 : Kp [l] H3 (upd H3 l (.lst (us.dropLast ++ us3))) := Kp.chg hL3 (List.mem_singleton.mpr rfl)
          exact Bodies.append (bodies_mono kS3 (bodies_mono k3 (bodies_mono k2 hr1))) (bodies_mono kS3 b3)
        case gg =>
          intro d hd
          rcases List.mem_append.mp hd with z | z
          · exact hG d (List.dropLast_subset _ z)
          · exact good_subs (hG c hcm) d z
        case tt =>
          rw [total_append]
          omega
        case mm =>
          show 20 - ((many : Int) + 1).toNat < 20 - ((many : Int)).toNat
          omega
end LP
end

section
set_option Elab.async false
set_option linter.all false
set_option maxRecDepth 100000
set_option maxHeartbeats 2000000
/-! comprehensions over cells; quarter, shifted -/
namespace LP
open PySem PySem.Spec PyProof.Rows L2 Ly GY
variable [LamTab] {P : Program} {w : World} {K : PySem.W.Frag} {mg : Str → Option Value} {base : Heap}
theorem one_map {f : C3 → C3} {cs : List C3} {i : Nat} {c : C3} (h : cs[i]? = some c) : (cs.take (i + 1)).map f = (cs.take i).map f ++ [f c] := by
  rw [List.take_add_one, h, List.map_append]
  rfl
/-- a list comprehension over a list of cells, without a test: cells are made of cells -/
theorem lc_map {a D : Addr} {xs : List V} {cs : List C3} {H H1 : Hp} {g : TG} {tt : TT} {te : TE} {vs : List Nat} {σ : L2.St} {Qd : Hp → Prop} (f : C3 → C3) (k1 : Kp [] H H1) (hD : H1 D = none) (hT : SqL K H1 a xs) (hI : Items K H1 xs cs) (hz : cs.length ≤ 64)
    (hs : ∀ (c : C3) (p : Addr) (H' : Hp) (Nx : V → Hp → Prop) (Z : Hp → Prop), Kp [] H H' → SqT K H' p [.int c.1, .int c.2.1, .int c.2.2] →
      (∀ (q : Addr) (H'' : Hp), Kp [] H' H'' → SqT K H'' q [.int (f c).1, .int (f c).2.1, .int (f c).2.2] → Nx (.ref q) H'') →
      g (.ref p) (wipe σ vs) H' fun σ2 H2 => wipe σ2 vs = wipe σ vs ∧ tt σ2 H2 fun b H3 => if b = true then te σ2 H3 Nx else Z H3)
    (hd : ∀ (H' : Hp) (ys : List V), Kp [] H H' → H' D = some (.lst ys) → Items K H' ys (cs.map f) → Qd H') :
    ∃ W : Nat → Nat → Hp → Prop, (∃ m, W 0 m (upd H1 D (.lst []))) ∧ ∀ i m H, W i m H →
      ((Itl K a).stop i H ∧ Qd H) ∨ ((Itl K a).go i H ∧ ∃ Nx : Hp → Prop, (∀ H', Nx H' → ∃ m', m' < m ∧ W (i + 1) m' H') ∧ ∀ x H', (Itl K a).yld i H x H' → g x (wipe σ vs) H' fun σ2 H2 => wipe σ2 vs = wipe σ vs ∧ tt σ2 H2 fun b H3 =>
        if b = true then te σ2 H3 fun y H4 => ∃ acc, H4 D = some (.lst acc) ∧ acc.length < sizeLine ∧ Nx (upd H4 D (.lst (acc ++ [y]))) else Nx H3) := by
  have hl := hI.length
  have hDa : ∀ H', Kp [] H1 H' → SqL K H' a xs := fun H' k => k.sqL hT List.not_mem_nil
  refine lc_list (K := K) (a := a) (xs := xs) (fun i H' => Kp [] H1 H' ∧ ∃ acc, H' D = some (.lst acc) ∧ Items K H' acc ((cs.take i).map f)) ⟨Kp.new hD, [], upd_same, .nil⟩ (fun i H' _ k => hDa H' k.1) (fun i x H' hx pv => ?_) (fun H' pv => ?_)
  · obtain ⟨k, acc, hA, hAi⟩ := pv
    obtain ⟨c, hc, hd'⟩ := (items_mono k hI).get hx
    obtain ⟨p, rfl, hp⟩ := of_dp_c hd'
    refine hs c p H' _ _ (k1.trans k) hp fun q H'' k'' hq => ?_
    have hA2 := k''.lst hA List.not_mem_nil
    have hi : i < cs.length := (List.getElem?_eq_some_iff.mp hc).1
    have hAl := hAi.length
    rw [List.length_map, List.length_take] at hAl
    have kc : Kp [D] H'' (upd H'' D (.lst (acc ++ [V.ref q]))) := Kp.chg hA2 (List.mem_singleton.mpr rfl)
    refine ⟨acc, hA2, ?_, (k.trans k'').chg0 hD hA2, _, upd_same, ?_⟩
    · have : (64 : Nat) < sizeLine := by decide
      omega
    · rw [one_map hc]
      exact Items.append (items_mono kc (items_mono k'' hAi)) (Items.one (dp_c (kc.sqT hq)))
  · obtain ⟨k, acc, hA, hAi⟩ := pv
    rw [hl, List.take_length] at hAi
    exact hd H' acc (k1.trans k) hA hAi
theorem yesI {te : TE} {σ : L2.St} {H : Hp} {Nx : V → Hp → Prop} {Z : Hp → Prop} (h : te σ H Nx) : tYes σ H fun b H3 => if b = true then te σ H3 Nx else Z H3 := by
  show (if true = true then te σ H Nx else Z H)
  rw [if_pos rfl]
  exact h
def isTurn (e : Str) (f : C3 → C3) : Prop := (e = "x" ∧ f = tX) ∨ (e = "y" ∧ f = tY) ∨ (e = "z" ∧ f = tZ)
def spQuarter (K : PySem.W.Frag) : Sp := fun vs H Q _ => ∃ (e : Str) (f : C3 → C3) (v : V) (cs : List C3), vs = [.str e, v] ∧ isTurn e f ∧ CellsL K H v cs ∧ cs.length ≤ 64 ∧
  ∀ (H' : Hp) (p : Addr) (ys : List V) (ds : List C3), Kp [] H H' → H p = none → H' p = some (.lst ys) → Items K H' ys ds → ds.Perm (cs.map f) → (ds.Pairwise fun a b => ¬ lt3 b a) → Q (.ref p) H'
theorem scQuarter : FnScope ["edge", "held", "x", "y", "z"] ["edge", "held"] (defScope sQuarter) := ⟨rfl, rfl, rfl, by decide +kernel, rfl, by decide +kernel, by decide +kernel⟩
theorem ok_quarter {f : Addr} {fd : FuncData} (F : Fun K "quarter" "quarter" sQuarter f fd) (T : Nm K mg) : FnOk P w K mg base CX0 1 f fd ["edge", "held"] (spQuarter K) := by
  obtain ⟨tl, mL⟩ := T.last
  refine F.ok scQuarter (fun vs H Q E h => ?_) (fun cdv A outer s H vs Q E hr h => ?_)
  · obtain ⟨e, f, v, cs, rfl, _⟩ := h
    rfl
  · obtain ⟨e, f, v, cs, rfl, ht, hC, h64, q⟩ := h
    refine ⟨_, pss_cons (ps_if (pt_cmpR op_eq (pv 0) pe_str (nomark _)) (pss_one (ps_ret (pe_callB (cr_sortC hr.units) (by rfl) T.sorted (by decide +kernel) (pa_cons
        (pe_lc (own := [("x", 2), ("y", 3), ("z", 4)]) (g := gTup K 3 (gCons (gName 2) (gCons (gName 3) (gCons (gName 4) gNil)))) rfl scQuarter.nd (pi_list (pv 1)) (blkOk_by (own := [("x", 2), ("y", 3), ("z", 4)]) (N := ["edge", "held", "x", "y", "z"]) (sc := defScope sQuarter) (by decide +kernel))
          (fun _ _ _ _ _ => pg_tup rfl (pgs_cons (pg_name (i := 2) scQuarter.nd rfl (.inl rfl)) (pgs_cons (pg_name (i := 3) scQuarter.nd rfl (.inl rfl)) (pgs_cons (pg_name (i := 4) scQuarter.nd rfl (.inl rfl)) pgs_nil)))) (fun _ _ _ _ _ => pts_nil)
          (fun _ _ _ _ _ => pe_tup (pa_cons (pv 2) (pa_cons (pe_op op_sub (pe_glob (v := .int 3) rfl mL ⟨_, rfl⟩) (pv 4)) (pa_cons (pv 3) pa_nil))))) pa_nil)))) pss_nil)
      (pss_cons (ps_if (pt_cmpR op_eq (pv 0) pe_str (nomark _)) (pss_one (ps_ret (pe_callB (cr_sortC hr.units) (by rfl) T.sorted (by decide +kernel) (pa_cons
        (pe_lc (own := [("x", 2), ("y", 3), ("z", 4)]) (g := gTup K 3 (gCons (gName 2) (gCons (gName 3) (gCons (gName 4) gNil)))) rfl scQuarter.nd (pi_list (pv 1)) (blkOk_by (own := [("x", 2), ("y", 3), ("z", 4)]) (N := ["edge", "held", "x", "y", "z"]) (sc := defScope sQuarter) (by decide +kernel))
          (fun _ _ _ _ _ => pg_tup rfl (pgs_cons (pg_name (i := 2) scQuarter.nd rfl (.inl rfl)) (pgs_cons (pg_name (i := 3) scQuarter.nd rfl (.inl rfl)) (pgs_cons (pg_name (i := 4) scQuarter.nd rfl (.inl rfl)) pgs_nil)))) (fun _ _ _ _ _ => pts_nil)
          (fun _ _ _ _ _ => pe_tup (pa_cons (pv 4) (pa_cons (pv 3) (pa_cons (pe_op op_sub (pe_glob (v := .int 3) rfl mL ⟨_, rfl⟩) (pv 2)) pa_nil))))) pa_nil)))) pss_nil)
      (pss_one (ps_ret (pe_callB (cr_sortC hr.units) (by rfl) T.sorted (by decide +kernel) (pa_cons
        (pe_lc (own := [("x", 2), ("y", 3), ("z", 4)]) (g := gTup K 3 (gCons (gName 2) (gCons (gName 3) (gCons (gName 4) gNil)))) rfl scQuarter.nd (pi_list (pv 1)) (blkOk_by (own := [("x", 2), ("y", 3), ("z", 4)]) (N := ["edge", "held", "x", "y", "z"]) (sc := defScope sQuarter) (by decide +kernel))
          (fun _ _ _ _ _ => pg_tup rfl (pgs_cons (pg_name (i := 2) scQuarter.nd rfl (.inl rfl)) (pgs_cons (pg_name (i := 3) scQuarter.nd rfl (.inl rfl)) (pgs_cons (pg_name (i := 4) scQuarter.nd rfl (.inl rfl)) pgs_nil)))) (fun _ _ _ _ _ => pts_nil)
          (fun _ _ _ _ _ => pe_tup (pa_cons (pe_op op_sub (pe_glob (v := .int 3) rfl mL ⟨_, rfl⟩) (pv 3)) (pa_cons (pv 2) (pa_cons (pv 4) pa_nil))))) pa_nil))))), ?_⟩
    obtain ⟨a, xs, rfl, hT, hI⟩ := of_cellsL hC
    have hz : cs.length ≤ sizeLine := Nat.le_trans h64 (by decide)
    have fin : ∀ (D : Addr) (f' : C3 → C3), f' = f → H D = none → ∀ (H' : Hp) (ys : List V), Kp [] H H' → H' D = some (.lst ys) → Items K H' ys (cs.map f') → rSortC K [V.ref D] H' Q := by
      intro D f' ef hD H' ys k hy hi
      subst ef
      refine ⟨.ref D, cs.map f', rfl, cellsL_of hy hi, (by rw [List.length_map]; exact hz), fun zs ds p hp hs hit hn => ?_⟩
      have kn : Kp [] H' (upd H' p (.lst zs)) := Kp.new hn
      exact q _ p zs ds (k.trans kn) (k.free p hn) upd_same (items_mono kn hit) hp hs
    rcases ht with ⟨rfl, rfl⟩ | ⟨rfl, rfl⟩ | ⟨rfl, rfl⟩
    · refine ⟨_, rfl, rfl, _, rfl, itD1 (by decide +kernel) ?_⟩
      refine ⟨_, rfl, a, rfl, ⟨_, hT⟩, fun D hD => lc_map (K := K) tX (Kp.refl _ _) hD hT hI h64 (fun c p H' Nx Z k hp nx => ?_) (fin D tX rfl hD)⟩
      refine ⟨p, _, rfl, hp, rfl, _, _, rfl, _, _, rfl, _, _, rfl, rfl, rfl, ?_⟩
      refine yesI ?_
      refine ⟨_, rfl, _, rfl, _, _, rfl, rfl, _, rfl, (by show 3 ≤ sizeLine; decide), fun t ht => ?_⟩
      exact nx t _ (Kp.new ht) (SqT.of upd_same)
    · refine ⟨_, rfl, rfl, _, rfl, itD0 (by decide +kernel) ?_⟩
      refine ⟨_, rfl, rfl, _, rfl, itD1 (by decide +kernel) ?_⟩
      refine ⟨_, rfl, a, rfl, ⟨_, hT⟩, fun D hD => lc_map (K := K) tY (Kp.refl _ _) hD hT hI h64 (fun c p H' Nx Z k hp nx => ?_) (fin D tY rfl hD)⟩
      refine ⟨p, _, rfl, hp, rfl, _, _, rfl, _, _, rfl, _, _, rfl, rfl, rfl, ?_⟩
      refine yesI ?_
      refine ⟨_, rfl, _, rfl, _, rfl, _, _, rfl, rfl, (by show 3 ≤ sizeLine; decide), fun t ht => ?_⟩
      exact nx t _ (Kp.new ht) (SqT.of upd_same)
    · refine ⟨_, rfl, rfl, _, rfl, itD0 (by decide +kernel) ?_⟩
      refine ⟨_, rfl, rfl, _, rfl, itD0 (by decide +kernel) ?_⟩
      refine ⟨_, rfl, a, rfl, ⟨_, hT⟩, fun D hD => lc_map (K := K) tZ (Kp.refl _ _) hD hT hI h64 (fun c p H' Nx Z k hp nx => ?_) (fin D tZ rfl hD)⟩
      refine ⟨p, _, rfl, hp, rfl, _, _, rfl, _, _, rfl, _, _, rfl, rfl, rfl, ?_⟩
      refine yesI ?_
      refine ⟨_, rfl, _, _, rfl, rfl, _, rfl, _, rfl, (by show 3 ≤ sizeLine; decide), fun t ht => ?_⟩
      exact nx t _ (Kp.new ht) (SqT.of upd_same)
end LP
end

section
set_option Elab.async false
set_option linter.all false
set_option maxRecDepth 100000
set_option maxHeartbeats 2000000
/-! shifted, _block_cells -/
namespace LP
open PySem PySem.Spec PyProof.Rows L2 Ly GY
variable [LamTab] {P : Program} {w : World} {K : PySem.W.Frag} {mg : Str → Option Value} {base : Heap}
def spShifted (K : PySem.W.Frag) : Sp := fun vs H Q _ => ∃ (e : V) (d : C3) (v : V) (cs : List C3), vs = [e, v] ∧ Dp K H e (cD d) ∧ CellsL K H v cs ∧ cs.length ≤ 64 ∧
  ∀ (H' : Hp) (p : Addr) (ys : List V), Kp [] H H' → H p = none → H' p = some (.lst ys) → Items K H' ys (cs.map (add3 d)) → Q (.ref p) H'
theorem scShifted : FnScope ["far", "held", "far_x", "far_y", "far_z", "x", "y", "z"] ["far", "held"] (defScope sShifted) := ⟨rfl, rfl, rfl, by decide +kernel, rfl, by decide +kernel, by decide +kernel⟩
theorem ok_shifted {f : Addr} {fd : FuncData} (F : Fun K "shifted" "shifted" sShifted f fd) : FnOk P w K mg base CX0 1 f fd ["far", "held"] (spShifted K) := by
  refine F.ok scShifted (fun vs H Q E h => ?_) (fun cdv A outer s H vs Q E hr h => ?_)
  · obtain ⟨e, d, v, cs, rfl, _⟩ := h
    rfl
  · obtain ⟨e, d, v, cs, rfl, he, hC, h64, q⟩ := h
    refine ⟨_, pss_cons (ps_asg (pv 0) (pg_tup rfl (pgs_cons (pg_name (i := 2) scShifted.nd rfl (.inr rfl)) (pgs_cons (pg_name (i := 3) scShifted.nd rfl (.inr rfl)) (pgs_cons (pg_name (i := 4) scShifted.nd rfl (.inr rfl)) pgs_nil)))))
      (pss_one (ps_ret (pe_lc (own := [("x", 5), ("y", 6), ("z", 7)]) (g := gTup K 3 (gCons (gName 5) (gCons (gName 6) (gCons (gName 7) gNil)))) rfl scShifted.nd (pi_list (pv 1)) (blkOk_by (own := [("x", 5), ("y", 6), ("z", 7)]) (N := ["far", "held", "far_x", "far_y", "far_z", "x", "y", "z"]) (sc := defScope sShifted) (by decide +kernel))
          (fun _ _ _ _ _ => pg_tup rfl (pgs_cons (pg_name (i := 5) scShifted.nd rfl (.inl rfl)) (pgs_cons (pg_name (i := 6) scShifted.nd rfl (.inl rfl)) (pgs_cons (pg_name (i := 7) scShifted.nd rfl (.inl rfl)) pgs_nil)))) (fun _ _ _ _ _ => pts_nil)
          (fun _ _ _ _ _ => pe_tup (pa_cons (pe_op op_add (pv 5) (pv 2)) (pa_cons (pe_op op_add (pv 6) (pv 3)) (pa_cons (pe_op op_add (pv 7) (pv 4)) pa_nil))))))), ?_⟩
    obtain ⟨pd, rfl, hpd⟩ := of_dp_c he
    obtain ⟨a, xs, rfl, hT, hI⟩ := of_cellsL hC
    refine ⟨_, rfl, pd, _, rfl, hpd, rfl, _, _, rfl, _, _, rfl, _, _, rfl, rfl, ?_⟩
    refine ⟨_, rfl, a, rfl, ⟨_, hT⟩, fun D hD => lc_map (K := K) (add3 d) (Kp.refl _ _) hD hT hI h64 (fun c p H' Nx Z k hp nx => ?_) (fun H' ys k hy hi => q H' D ys k hD hy hi)⟩
    refine ⟨p, _, rfl, hp, rfl, _, _, rfl, _, _, rfl, _, _, rfl, rfl, rfl, ?_⟩
    refine yesI ?_
    refine ⟨_, rfl, _, rfl, _, _, rfl, rfl, _, rfl, _, rfl, _, _, rfl, rfl, _, rfl, _, rfl, _, _, rfl, rfl, (by show 3 ≤ sizeLine; decide), fun t ht => ?_⟩
    exact nx t _ (Kp.new ht) (SqT.of upd_same)

/-! ### _block_cells -/
theorem len_flat {f : Nat → List C3} {m : Nat} (h : ∀ i, (f i).length = m) : ∀ n : Nat, ((List.range n).flatMap f).length = n * m
  | 0 => by simp
  | n + 1 => by
    rw [List.range_succ, List.flatMap_append, List.length_append, len_flat h n, List.flatMap_cons, List.flatMap_nil, List.append_nil, h, Nat.succ_mul]
theorem flat_succ (f : Nat → List C3) (n : Nat) : (List.range (n + 1)).flatMap f = (List.range n).flatMap f ++ f n := by
  rw [List.range_succ, List.flatMap_append, List.flatMap_cons, List.flatMap_nil, List.append_nil]
theorem len_blk1 (x y z : Int) (c : Nat) : (blk1 x y z c).length = c := by unfold blk1; rw [List.length_map, List.length_range]
theorem len_blk2 (x y z : Int) (b c : Nat) : (blk2 x y z b c).length = b * c := len_flat (fun _ => len_blk1 ..) b
theorem blk1_succ (x y z : Int) (c : Nat) : blk1 x y z (c + 1) = blk1 x y z c ++ [(x, y, z + (c : Int))] := by
  unfold blk1
  rw [List.range_succ, List.map_append]
  rfl
theorem size_ok {a b c i j k : Nat} (hi : i < a) (ha : a ≤ 4) (hb : b ≤ 4) (hc : c ≤ 4) (hj : j < b) (hk : k < c) : i * (b * c) + j * c + k < sizeLine := by
  have h1 : b * c ≤ 4 * 4 := Nat.mul_le_mul hb hc
  have h2 : i * (b * c) ≤ 4 * (4 * 4) := Nat.mul_le_mul (by omega) h1
  have h3 : j * c ≤ 4 * 4 := Nat.mul_le_mul (by omega) hc
  have h4 : (100 : Nat) < sizeLine := by decide
  omega
def spBlock (K : PySem.W.Frag) : Sp := fun vs H Q _ => ∃ (e g : V) (x y z : Int) (a b c : Nat), vs = [e, g] ∧ Dp K H e (cD (x, y, z)) ∧ Dp K H g (cD (a, b, c)) ∧ (a ≤ 4 ∧ b ≤ 4 ∧ c ≤ 4) ∧
  ∀ (H' : Hp) (p : Addr) (ys : List V), Kp [] H H' → H p = none → H' p = some (.lst ys) → Items K H' ys (blk3 x y z a b c) → Q (.ref p) H'
theorem scBlock : FnScope ["corner", "size", "x", "y", "z", "along_x", "along_y", "along_z", "i", "j", "k"] ["corner", "size"] (defScope sBlock) := ⟨rfl, rfl, rfl, by decide +kernel, rfl, by decide +kernel, by decide +kernel⟩
theorem ok_block {f : Addr} {fd : FuncData} (F : Fun K "_block_cells" "_block_cells" sBlock f fd) (T : Nm K mg) : FnOk P w K mg base CX0 1 f fd ["corner", "size"] (spBlock K) := by
  refine F.ok scBlock (fun vs H Q E h => ?_) (fun cdv A outer s H vs Q E hr h => ?_)
  · obtain ⟨e, g, x, y, z, a, b, c, rfl, _⟩ := h
    rfl
  · obtain ⟨e, g, x, y, z, a, b, c, rfl, he, hg, hsz, q⟩ := h
    refine ⟨_, pss_cons (ps_asg (pv 0) (pg_tup rfl (pgs_cons (pg_name (i := 2) scBlock.nd rfl (.inr rfl)) (pgs_cons (pg_name (i := 3) scBlock.nd rfl (.inr rfl)) (pgs_cons (pg_name (i := 4) scBlock.nd rfl (.inr rfl)) pgs_nil)))))
      (pss_cons (ps_asg (pv 1) (pg_tup rfl (pgs_cons (pg_name (i := 5) scBlock.nd rfl (.inl rfl)) (pgs_cons (pg_name (i := 6) scBlock.nd rfl (.inr rfl)) (pgs_cons (pg_name (i := 7) scBlock.nd rfl (.inr rfl)) pgs_nil)))))
      (pss_one (ps_ret (GV.pe_lc3 (own := [("i", 8), ("j", 9), ("k", 10)]) (a := 8) (b := 9) (c := 10) rfl scBlock.nd (blkOk_by (own := [("i", 8), ("j", 9), ("k", 10)]) (N := ["corner", "size", "x", "y", "z", "along_x", "along_y", "along_z", "i", "j", "k"]) (sc := defScope sBlock) (by decide +kernel)) rfl rfl rfl (by decide) (by decide)
          (pi_range1 (by rfl) T.range (pa_cons (pv 5) pa_nil)) (fun _ _ _ _ _ => pi_range1 (by rfl) T.range (pa_cons (pv 6) pa_nil)) (fun _ _ _ _ _ => pi_range1 (by rfl) T.range (pa_cons (pv 7) pa_nil))
          (fun _ _ _ _ _ => ⟨pg_name (i := 8) scBlock.nd rfl (.inl rfl), pg_name (i := 9) scBlock.nd rfl (.inl rfl), pg_name (i := 10) scBlock.nd rfl (.inl rfl)⟩)
          (fun _ _ _ _ _ => pe_tup (pa_cons (pe_op op_add (pv 2) (pv 8)) (pa_cons (pe_op op_add (pv 3) (pv 9)) (pa_cons (pe_op op_add (pv 4) (pv 10)) pa_nil)))))))), ?_⟩
    obtain ⟨p1, rfl, h1⟩ := of_dp_c he
    obtain ⟨p2, rfl, h2⟩ := of_dp_c hg
    have h1 : SqT K H p1 [.int x, .int y, .int z] := h1
    have h2 : SqT K H p2 [.int (a : Int), .int (b : Int), .int (c : Int)] := h2
    refine ⟨_, rfl, p1, _, rfl, h1, rfl, _, _, rfl, _, _, rfl, _, _, rfl, rfl, ?_⟩
    refine ⟨_, rfl, p2, _, rfl, h2, rfl, _, _, rfl, _, _, rfl, _, _, rfl, rfl, ?_⟩
    obtain ⟨ha, hb, hc⟩ := hsz
    refine ⟨_, rfl, _, rfl, (by omega), (by omega), fun D hD => ?_⟩
    refine ⟨a, fun i H' => i ≤ a ∧ Kp [] H H' ∧ ∃ acc, H' D = some (.lst acc) ∧ Items K H' acc ((List.range i).flatMap fun i : Nat => blk2 (x + (i : Int)) y z b c), ⟨Nat.zero_le _, Kp.new hD, [], upd_same, .nil⟩, fun i H0 w => ?_⟩
    obtain ⟨hi, k0, acc0, hA0, hI0⟩ := w
    by_cases hlt : i < a
    · refine .inr ⟨hlt, hlt, fun u H1 yy => ?_⟩
      obtain ⟨e1, yy⟩ := yy
      subst e1 yy
      refine ⟨_, rfl, _, rfl, (by omega), (by omega), b, fun j H' => j ≤ b ∧ Kp [] H H' ∧ ∃ acc, H' D = some (.lst acc) ∧ Items K H' acc (((List.range i).flatMap fun i : Nat => blk2 (x + (i : Int)) y z b c) ++ ((List.range j).flatMap fun j : Nat => blk1 (x + (i : Int)) (y + (j : Int)) z c)), ⟨Nat.zero_le _, k0, acc0, hA0, by simpa using hI0⟩, fun j H2 w => ?_⟩
      obtain ⟨hj, k2, acc2, hA2, hI2⟩ := w
      by_cases hlt2 : j < b
      · refine .inr ⟨hlt2, hlt2, fun u H3 yy => ?_⟩
        obtain ⟨e1, yy⟩ := yy
        subst e1 yy
        refine ⟨_, rfl, _, rfl, (by omega), (by omega), c, fun k H' => k ≤ c ∧ Kp [] H H' ∧ ∃ acc, H' D = some (.lst acc) ∧ Items K H' acc ((((List.range i).flatMap fun i : Nat => blk2 (x + (i : Int)) y z b c) ++ ((List.range j).flatMap fun j : Nat => blk1 (x + (i : Int)) (y + (j : Int)) z c)) ++ blk1 (x + (i : Int)) (y + (j : Int)) z k), ⟨Nat.zero_le _, k2, acc2, hA2, by simpa [blk1] using hI2⟩, fun k H4 w => ?_⟩
        obtain ⟨hk, k4, acc4, hA4, hI4⟩ := w
        by_cases hlt3 : k < c
        · refine .inr ⟨hlt3, hlt3, fun u H5 yy => ?_⟩
          obtain ⟨e1, yy⟩ := yy
          subst e1 yy
          refine ⟨_, rfl, _, rfl, _, _, rfl, rfl, _, rfl, _, rfl, _, _, rfl, rfl, _, rfl, _, rfl, _, _, rfl, rfl, (by show 3 ≤ sizeLine; decide), fun t ht => ?_⟩
          have kt : Kp [] H5 (upd H5 t (.tup [.int (x + (0 + (i : Int))), .int (y + (0 + (j : Int))), .int (z + (0 + (k : Int)))])) := Kp.new ht
          have hA5 := kt.lst hA4 List.not_mem_nil
          have hl4 := hI4.length
          rw [List.length_append, List.length_append, len_flat (fun _ => len_blk2 ..), len_flat (fun _ => len_blk1 ..), len_blk1] at hl4
          have hq : SqT K (upd H5 t (.tup [.int (x + (0 + (i : Int))), .int (y + (0 + (j : Int))), .int (z + (0 + (k : Int)))])) t [.int (x + (i : Int)), .int (y + (j : Int)), .int (z + (k : Int))] := by
            refine SqT.of ?_
            rw [upd_same, Int.zero_add, Int.zero_add, Int.zero_add]
          have hit := items_mono kt hI4
          refine ⟨acc4, hA5, (by rw [hl4]; exact size_ok hlt ha hb hc hlt2 hlt3), hlt3, (k4.trans kt).chg0 hD hA5, _, upd_same, ?_⟩
          have kc := Kp.chg (S := [D]) (ys := acc4 ++ [V.ref t]) hA5 (List.mem_singleton.mpr rfl)
          rw [blk1_succ, ← List.append_assoc]
          exact Items.append (items_mono kc hit) (Items.one (dp_c (c := (x + (i : Int), y + (j : Int), z + (k : Int))) (kc.sqT hq)))
        · have e : k = c := by omega
          subst e
          refine .inl ⟨rfl, Nat.le_refl _, hlt2, k4, acc4, hA4, ?_⟩
          rw [flat_succ, ← List.append_assoc]
          exact hI4
      · have e : j = b := by omega
        subst e
        refine .inl ⟨rfl, Nat.le_refl _, hlt, k2, acc2, hA2, ?_⟩
        rw [flat_succ]
        exact hI2
    · have e : i = a := by omega
      subst e
      exact .inl ⟨rfl, Nat.le_refl _, q H0 D acc0 k0 hD hA0 hI0⟩
end LP
end

section
set_option Elab.async false
set_option linter.all false
set_option maxRecDepth 100000
set_option maxHeartbeats 2000000
/-! _joined -/
namespace LP
open PySem PySem.Spec PyProof.Rows L2 Ly GY
variable [LamTab] {P : Program} {W0 : World} {K : PySem.W.Frag} {mg : Str → Option Value} {base : Heap}
theorem u65 {k : Nat} {A : Around} (r : Room k A) : A.units + 65 < cLine := by have := r.un; omega
theorem one_filter {keep : C3 → Bool} {cs : List C3} {i : Nat} {c : C3} (h : cs[i]? = some c) : (cs.take (i + 1)).filter keep = (cs.take i).filter keep ++ (if keep c = true then [c] else []) := by
  rw [List.take_add_one, h, List.filter_append]
  congr 1
  show List.filter keep [c] = _
  rw [List.filter_cons]
  simp
/-- a list comprehension over a list of cells with a test, each cell that passes kept as it is -/
theorem lc_filter {a D : Addr} {xs : List V} {cs : List C3} {H H1 : Hp} {g : TG} {tt : TT} {te : TE} {vs : List Nat} {σ : L2.St} {Qd : Hp → Prop} (keep : C3 → Bool) (k1 : Kp [] H H1) (hD : H1 D = none) (hT : SqL K H1 a xs) (hI : Items K H1 xs cs) (hz : cs.length ≤ 64)
    (hs : ∀ (c : C3) (p : Addr) (H' : Hp) (Nx : V → Hp → Prop) (Z : Hp → Prop), c ∈ cs → Kp [] H H' → SqT K H' p [.int c.1, .int c.2.1, .int c.2.2] →
      (∀ H'', Kp [] H' H'' → keep c = true → Nx (.ref p) H'') → (∀ H'', Kp [] H' H'' → keep c = false → Z H'') →
      g (.ref p) (wipe σ vs) H' fun σ2 H2 => wipe σ2 vs = wipe σ vs ∧ tt σ2 H2 fun b H3 => if b = true then te σ2 H3 Nx else Z H3)
    (hd : ∀ (H' : Hp) (ys : List V), Kp [] H H' → H' D = some (.lst ys) → Items K H' ys (cs.filter keep) → Qd H') :
    ∃ W : Nat → Nat → Hp → Prop, (∃ m, W 0 m (upd H1 D (.lst []))) ∧ ∀ i m H, W i m H →
      ((Itl K a).stop i H ∧ Qd H) ∨ ((Itl K a).go i H ∧ ∃ Nx : Hp → Prop, (∀ H', Nx H' → ∃ m', m' < m ∧ W (i + 1) m' H') ∧ ∀ x H', (Itl K a).yld i H x H' → g x (wipe σ vs) H' fun σ2 H2 => wipe σ2 vs = wipe σ vs ∧ tt σ2 H2 fun b H3 =>
        if b = true then te σ2 H3 fun y H4 => ∃ acc, H4 D = some (.lst acc) ∧ acc.length < sizeLine ∧ Nx (upd H4 D (.lst (acc ++ [y]))) else Nx H3) := by
  have hl := hI.length
  have hDa : ∀ H', Kp [] H1 H' → SqL K H' a xs := fun H' k => k.sqL hT List.not_mem_nil
  refine lc_list (K := K) (a := a) (xs := xs) (fun i H' => Kp [] H1 H' ∧ ∃ acc, H' D = some (.lst acc) ∧ Items K H' acc ((cs.take i).filter keep)) ⟨Kp.new hD, [], upd_same, .nil⟩ (fun i H' _ k => hDa H' k.1) (fun i x H' hx pv => ?_) (fun H' pv => ?_)
  · obtain ⟨k, acc, hA, hAi⟩ := pv
    obtain ⟨c, hc, hd'⟩ := (items_mono k hI).get hx
    obtain ⟨p, rfl, hp⟩ := of_dp_c hd'
    refine hs c p H' _ _ (List.mem_of_getElem? hc) (k1.trans k) hp (fun H'' k'' hk => ?_) (fun H'' k'' hk => ?_)
    · have hA2 := k''.lst hA List.not_mem_nil
      have hi : i < cs.length := (List.getElem?_eq_some_iff.mp hc).1
      have hAl := hAi.length
      have hfl := List.length_filter_le keep (cs.take i)
      rw [List.length_take] at hfl
      have kc : Kp [D] H'' (upd H'' D (.lst (acc ++ [V.ref p]))) := Kp.chg hA2 (List.mem_singleton.mpr rfl)
      refine ⟨acc, hA2, ?_, (k.trans k'').chg0 hD hA2, _, upd_same, ?_⟩
      · have : (64 : Nat) < sizeLine := by decide
        omega
      · rw [one_filter hc, if_pos hk]
        exact Items.append (items_mono kc (items_mono k'' hAi)) (Items.one (dp_c (kc.sqT (k''.sqT hp))))
    · refine ⟨k.trans k'', acc, k''.lst hA List.not_mem_nil, ?_⟩
      rw [one_filter hc, hk, if_neg (by decide), List.append_nil]
      exact items_mono k'' hAi
  · obtain ⟨k, acc, hA, hAi⟩ := pv
    rw [hl, List.take_length] at hAi
    exact hd H' acc (k1.trans k) hA hAi
def JoinIs (w : Str) (p q ds : List C3) : Prop :=
  (w = "with" ∧ (ds.Pairwise fun a b => ¬ lt3 b a) ∧ ds.Nodup ∧ ∀ c, c ∈ ds ↔ c ∈ p ++ q) ∨
  (w = "common" ∧ ds = p.filter fun c => decide (c ∈ q)) ∨ (w = "less" ∧ ds = p.filter fun c => !decide (c ∈ q))
def spJoined (K : PySem.W.Frag) : Sp := fun vs H Q _ => ∃ (w : Str) (a b : Addr) (xs ys : List V) (p q : List C3), vs = [.str w, .ref a, .ref b] ∧ (w = "with" ∨ w = "common" ∨ w = "less") ∧ H a = some (.lst xs) ∧ H b = some (.lst ys) ∧ Items K H xs p ∧ Items K H ys q ∧
  p.length ≤ 64 ∧ q.length ≤ 64 ∧ (∀ c ∈ p, InR c) ∧ (∀ c ∈ q, InR c) ∧ ∀ (H' : Hp) (r : Addr) (zs : List V) (ds : List C3), Kp [] H H' → H r = none → H' r = some (.lst zs) → Items K H' zs ds → JoinIs w p q ds → Q (.ref r) H'
theorem scJoined : FnScope ["word", "first", "second", "cell"] ["word", "first", "second"] (defScope sJoined) := ⟨rfl, rfl, rfl, by decide +kernel, rfl, by decide +kernel, by decide +kernel⟩
theorem ok_joined {f : Addr} {fd : FuncData} (F : Fun K "_joined" "_joined" sJoined f fd) (T : Nm K mg) : FnOk P W0 K mg base CX0 1 f fd ["word", "first", "second"] (spJoined K) := by
  refine F.ok scJoined (fun vs H Q E h => ?_) (fun cdv A outer s H vs Q E hr h => ?_)
  · obtain ⟨w, a, b, xs, ys, p, q, rfl, _⟩ := h
    rfl
  · obtain ⟨w, a, b, xs, ys, p, q, rfl, hw, hA, hB, hIp, hIq, lp, lq, rp, rq, k⟩ := h
    refine ⟨_, pss_cons (ps_if (pt_cmpR op_eq (pv 0) pe_str (nomark _)) (pss_one (ps_ret (pe_callB (GZ.cr_sortedQ rfl hr.units) (by rfl) T.sorted (by decide +kernel) (pa_cons
        (pe_callTy (GZ.cr_setC rfl hr.units) (by rfl) T.set (by decide +kernel) (pa_cons (pe_op op_cat (pv 1) (pv 2)) pa_nil)) pa_nil)))) pss_nil)
      (pss_cons (ps_if (pt_cmpR op_eq (pv 0) pe_str (nomark _)) (pss_one (ps_ret (pe_lc (own := [("cell", 3)]) (g := gName 3) rfl scJoined.nd (pi_list (pv 1)) (blkOk_by (own := [("cell", 3)]) (N := ["word", "first", "second", "cell"]) (sc := defScope sJoined) (by decide +kernel))
          (fun _ _ _ _ _ => pg_name (i := 3) scJoined.nd rfl (.inl rfl)) (fun _ _ _ _ _ => pts_one (pt_cmpR (r := rInD K) (op_inD (u65 hr)) (pv 3) (pv 2) (by rfl))) (fun _ _ _ _ _ => pv 3)))) pss_nil)
      (pss_one (ps_ret (pe_lc (own := [("cell", 3)]) (g := gName 3) rfl scJoined.nd (pi_list (pv 1)) (blkOk_by (own := [("cell", 3)]) (N := ["word", "first", "second", "cell"]) (sc := defScope sJoined) (by decide +kernel))
          (fun _ _ _ _ _ => pg_name (i := 3) scJoined.nd rfl (.inl rfl)) (fun _ _ _ _ _ => pts_one (pt_cmpR (r := rNotInD K) (op_notInD (u65 hr)) (pv 3) (pv 2) (by rfl))) (fun _ _ _ _ _ => pv 3))))), ?_⟩
    rcases hw with rfl | rfl | rfl
    · refine ⟨_, rfl, rfl, _, rfl, itD1 (by decide +kernel) ?_⟩
      have hl1 := hIp.length
      have hl2 := hIq.length
      have hsz : xs.length + ys.length ≤ sizeLine := by
        have : (128 : Nat) ≤ sizeLine := by decide
        omega
      refine ⟨_, rfl, _, rfl, a, b, xs, ys, rfl, rfl, hA, hB, hsz, fun t ht => ?_⟩
      have kt : Kp [] H (upd H t (.lst (xs ++ ys))) := Kp.new ht
      refine ⟨.ref t, p ++ q, rfl, .inl (cellsL_of upd_same (Items.append (items_mono kt hIp) (items_mono kt hIq))), fun c hc => ?_, fun e L he h1 h2 => ?_⟩
      · rcases List.mem_append.mp hc with z | z
        · exact rp c z
        · exact rq c z
      · have ke : Kp [] (upd H t (.lst (xs ++ ys))) (upd (upd H t (.lst (xs ++ ys))) e (GZ.SQO P W0 e L)) := Kp.new he
        refine ⟨e, L, rfl, upd_same, fun z hz => ke.sqT (h1 z hz).2, fun zs ds r hp hn hs hlen hit hr' => ?_⟩
        have kr := Kp.new (S := []) (o := .lst zs) hr'
        refine k _ r zs ds ((kt.trans ke).trans kr) ((kt.trans ke).free r hr') upd_same (items_mono kr hit) (.inl ⟨rfl, hs, hn, fun c => ?_⟩)
        rw [hp.mem_iff]
        refine ⟨fun hc => ?_, fun hc => h2 c hc⟩
        obtain ⟨z, hz, rfl⟩ := List.mem_map.mp hc
        exact (h1 z hz).1
    · refine ⟨_, rfl, rfl, _, rfl, itD0 (by decide +kernel) ?_⟩
      refine ⟨_, rfl, rfl, _, rfl, itD1 (by decide +kernel) ?_⟩
      refine ⟨_, rfl, a, rfl, ⟨_, SqL.of hA⟩, fun D hD => lc_filter (K := K) (fun c => decide (c ∈ q)) (Kp.refl _ _) hD (SqL.of hA) hIp lp (fun c z H' Nx Z hc kk hz n1 n2 => ?_) (fun H' zs kk hy hi => k H' D zs _ kk hD hy hi (.inr (.inl ⟨rfl, rfl⟩)))⟩
      refine ⟨rfl, _, rfl, _, rfl, cD c, q.map cD, dp_c hz, cellsL_of (kk.lst hB List.not_mem_nil) (items_mono kk hIq), cD_shaped c, cDs_shapedL q, _, rfl, ?_⟩
      rw [any_eqv]
      cases e : decide (c ∈ q) with
      | true => exact iteT ⟨_, rfl, n1 H' (Kp.refl _ _) e⟩
      | false => exact iteF (n2 H' (Kp.refl _ _) e)
    · refine ⟨_, rfl, rfl, _, rfl, itD0 (by decide +kernel) ?_⟩
      refine ⟨_, rfl, rfl, _, rfl, itD0 (by decide +kernel) ?_⟩
      refine ⟨_, rfl, a, rfl, ⟨_, SqL.of hA⟩, fun D hD => lc_filter (K := K) (fun c => !decide (c ∈ q)) (Kp.refl _ _) hD (SqL.of hA) hIp lp (fun c z H' Nx Z hc kk hz n1 n2 => ?_) (fun H' zs kk hy hi => k H' D zs _ kk hD hy hi (.inr (.inr ⟨rfl, rfl⟩)))⟩
      refine ⟨rfl, _, rfl, _, rfl, cD c, q.map cD, dp_c hz, cellsL_of (kk.lst hB List.not_mem_nil) (items_mono kk hIq), cD_shaped c, cDs_shapedL q, _, rfl, ?_⟩
      rw [any_eqv]
      cases e : decide (c ∈ q) with
      | true => exact iteF (n2 H' (Kp.refl _ _) (by rw [e]; rfl))
      | false => exact iteT ⟨_, rfl, n1 H' (Kp.refl _ _) (by rw [e]; rfl)⟩
end LP
end

section
set_option Elab.async false
set_option linter.all false
set_option maxRecDepth 100000
set_option maxHeartbeats 2000000
/-! _held -/
namespace LP
open PySem PySem.Spec PyProof.Rows L2 Ly GY
variable [LamTab] {P : Program} {W0 : World} {K : PySem.W.Frag} {mg : Str → Option Value} {base : Heap}
def spHeld (K : PySem.W.Frag) (Pt Ph : Addr) (n : Nat) : Sp := fun vs H Q _ => ∃ (v : V) (b : Bd), vs = [v] ∧ Body K H v b ∧ Good b ∧ dp b ≤ n ∧ TGen H Pt ∧ TGen H Ph ∧
  ∀ (H' : Hp) (r : Addr) (zs : List V), Kp [] H H' → H r = none → H' r = some (.lst zs) → Items K H' zs (all b) → Q (.ref r) H'
theorem scHeld : FnScope ["body", "word", "held"] ["body"] (defScope sHeld) := ⟨rfl, rfl, rfl, by decide +kernel, rfl, by decide +kernel, by decide +kernel⟩
theorem gHeld : GX.GOk ["body", "word", "held"] (defScope sHeld) (genOf (stOf sHeld 2)) "cell" := ⟨rfl, rfl, by decide +kernel, rfl, rfl, by decide +kernel, by decide +kernel, by decide +kernel, by decide⟩
theorem in_all {b : Bd} {c : C3} (h : c ∈ all b) : InR c := (mem_all.mp h).1
structure HeldFns (P : Program) (W0 : World) (K : PySem.W.Frag) (mg : Str → Option Value) (base : Heap) (Pt : Addr) (fT fB fS fQ fJ : Addr) (dT dB dS dQ dJ : FuncData) : Prop where
  nT : Fn K mg "_is_triple" fT dT ["value", "low", "high"]
  gT : FnOk P W0 K mg base CX0 4 fT dT ["value", "low", "high"] (spTri K Pt)
  nB : Fn K mg "_block_cells" fB dB ["corner", "size"]
  gB : FnOk P W0 K mg base CX0 1 fB dB ["corner", "size"] (spBlock K)
  nS : Fn K mg "shifted" fS dS ["far", "held"]
  gS : FnOk P W0 K mg base CX0 1 fS dS ["far", "held"] (spShifted K)
  nQ : Fn K mg "quarter" fQ dQ ["edge", "held"]
  gQ : FnOk P W0 K mg base CX0 1 fQ dQ ["edge", "held"] (spQuarter K)
  nJ : Fn K mg "_joined" fJ dJ ["word", "first", "second"]
  gJ : FnOk P W0 K mg base CX0 1 fJ dJ ["word", "first", "second"] (spJoined K)
theorem held_step {n : Nat} {f c Pt Ph fT fB fS fQ fJ : Addr} {fd dT dB dS dQ dJ : FuncData} (F : FunC K "_held" "_held" sHeld f fd c) (TB : GxR.TabB base mg c Ph) (T : Nm K mg) (Z : HeldFns P W0 K mg base Pt fT fB fS fQ fJ dT dB dS dQ dJ)
    (N : Fn K mg "_held" f fd ["body"]) (G : FnOk P W0 K mg base CX0 (6 + n) f fd ["body"] (spHeld K Pt Ph n)) : FnOk P W0 K mg base CX0 (6 + n + 1) f fd ["body"] (spHeld K Pt Ph (n + 1)) := by
  obtain ⟨tl, mL⟩ := T.last
  refine F.ok scHeld (fun vs H Q E h => ?_) (fun A outer s H vs Q E hr h => ?_)
  · obtain ⟨v, b, rfl, _⟩ := h
    rfl
  · obtain ⟨v, b, rfl, hB, hg, hn, hPt, hPh, q⟩ := h
    have hr1 : Room 1 _ := hr.mono (by omega)
    have hr6 : Room 6 _ := hr.mono (by omega)
    refine ⟨_, pss_cons (ps_set (i := 1) scHeld.nd rfl (.inl rfl) (pe_ix ix_tup (pv 0) pe_int (fun _ _ => rfl)))
      (pss_cons (ps_if (pt_cmpR op_eq (pv 1) pe_str (nomark _)) (pss_one (ps_set (i := 2) scHeld.nd rfl (.inl rfl) (pe_call Z.gB hr1 (by rfl) Z.nB.m Z.nB.kp Z.nB.b .nil pass0 (pa_cons (pe_ix ix_tup (pv 0) pe_int (fun _ _ => rfl)) (pa_cons (pe_ix ix_tup (pv 0) pe_int (fun _ _ => rfl)) pa_nil)))))
        (pss_one (ps_if (pt_cmpR op_eq (pv 1) pe_str (nomark _)) (pss_one (ps_set (i := 2) scHeld.nd rfl (.inl rfl) (pe_callTy call_list_of (by rfl) T.list (by decide +kernel) (pa_cons (pe_ix ix_tup (pv 0) pe_int (fun _ _ => rfl)) pa_nil))))
        (pss_one (ps_if (pt_cmpR op_eq (pv 1) pe_str (nomark _)) (pss_one (ps_set (i := 2) scHeld.nd rfl (.inl rfl) (pe_call Z.gS hr1 (by rfl) Z.nS.m Z.nS.kp Z.nS.b .nil pass0 (pa_cons (pe_ix ix_tup (pv 0) pe_int (fun _ _ => rfl)) (pa_cons (pe_call G hr (by rfl) N.m N.kp N.b .nil pass0 (pa_cons (pe_ix ix_tup (pv 0) pe_int (fun _ _ => rfl)) pa_nil)) pa_nil)))))
        (pss_one (ps_if (pt_cmpR op_eq (pv 1) pe_str (nomark _)) (pss_one (ps_set (i := 2) scHeld.nd rfl (.inl rfl) (pe_call Z.gQ hr1 (by rfl) Z.nQ.m Z.nQ.kp Z.nQ.b .nil pass0 (pa_cons (pe_ix ix_tup (pv 0) pe_int (fun _ _ => rfl)) (pa_cons (pe_call G hr (by rfl) N.m N.kp N.b .nil pass0 (pa_cons (pe_ix ix_tup (pv 0) pe_int (fun _ _ => rfl)) pa_nil)) pa_nil)))))
        (pss_one (ps_set (i := 2) scHeld.nd rfl (.inl rfl) (pe_call Z.gJ hr1 (by rfl) Z.nJ.m Z.nJ.kp Z.nJ.b .nil pass0 (pa_cons (pv 1) (pa_cons (pe_call G hr (by rfl) N.m N.kp N.b .nil pass0 (pa_cons (pe_ix ix_tup (pv 0) pe_int (fun _ _ => rfl)) pa_nil)) (pa_cons (pe_call G hr (by rfl) N.m N.kp N.b .nil pass0 (pa_cons (pe_ix ix_tup (pv 0) pe_int (fun _ _ => rfl)) pa_nil)) pa_nil)))))))))))))
      (pss_cons (ps_if (pt_not (pt_val (pe_fr fun hf => GX.pe_allG (k := 4) hr6 (by rfl) T.all TB rfl scHeld.nd hf gHeld (show ("cell" : Str) ∉ (["body", "word", "held"] : List Str) by decide) (pi_list (pv 2))
          (fun A s H C code fp hr1 => pe_call Z.gT hr1 (by rfl) Z.nT.m Z.nT.kp Z.nT.b .nil pass0 (pa_cons (pv 3) (pa_cons pe_int (pa_cons (pe_glob (v := .int 3) rfl mL ⟨_, rfl⟩) pa_nil))))))) (pss_one ps_never) pss_nil)
      (pss_one (ps_ret (pv 2))))), ?_⟩
    cases b with
    | block x y z a b c =>
      obtain ⟨p, y1, z1, rfl, hT, h1, h2⟩ := of_body3 hB
      refine ⟨_, rfl, p, _, _, _, rfl, rfl, hT, rfl, ?_⟩
      refine ⟨_, rfl, rfl, _, rfl, itD1 (by decide +kernel) ?_⟩
      have hg' := hg
      obtain ⟨g0, ga, gb, gc⟩ := hg
      obtain ⟨g1, g2, g3⟩ := g0
      simp only at g1 g2 g3
      obtain ⟨a', rfl⟩ := Int.eq_ofNat_of_zero_le (show 0 ≤ a by omega)
      obtain ⟨b', rfl⟩ := Int.eq_ofNat_of_zero_le (show 0 ≤ b by omega)
      obtain ⟨c', rfl⟩ := Int.eq_ofNat_of_zero_le (show 0 ≤ c by omega)
      refine ⟨_, rfl, p, _, _, _, rfl, rfl, hT, rfl, _, rfl, p, _, _, _, rfl, rfl, hT, rfl, y1, z1, x, y, z, a', b', c', rfl, h1, h2, ⟨by omega, by omega, by omega⟩, fun H1 r ys k hr' hp hI => ?_⟩
      rw [all_block hg'] at hI
      refine ⟨_, rfl, r, rfl, ⟨_, SqL.of hp⟩, (k.tab _ hPh).1, fun H2 tb => ?_⟩
      refine ⟨_, _, ⟨Nat.zero_le _, ?p0⟩, GX.turn_lst (xs := ys) (fun i H' => Kp [] H1 H') rfl (fun i H' _ k => k.sqL (SqL.of hp) List.not_mem_nil) (fun i x H' hx k' => ?ps) (fun H' k' => ?pd)⟩
      case p0 => exact Kp.tabbed (k.tab _ hPh) tb
      case ps =>
        obtain ⟨c, hc, hd⟩ := hI.get hx
        obtain ⟨p', rfl, hs⟩ := of_dp_c hd
        refine ⟨_, rfl, p', c, 0, 3, rfl, k'.sqT hs, k'.tab _ (k.tab _ hPt), fun H3 k3 => ⟨_, rfl, ?_⟩⟩
        rw [tri_room.mpr (in_all (List.mem_of_getElem? hc))]
        exact iteT ⟨(List.getElem?_eq_some_iff.mp hx).1, k'.trans k3⟩
      case pd =>
        refine ⟨_, rfl, iteF ?_⟩
        exact ⟨_, rfl, q H' r ys (k.trans k') hr' (k'.lst hp List.not_mem_nil) (items_mono k' hI)⟩
    | cells cs =>
      obtain ⟨p, y1, rfl, hT, h1⟩ := of_body2 hB
      refine ⟨_, rfl, p, _, _, _, rfl, rfl, hT, rfl, ?_⟩
      refine ⟨_, rfl, rfl, _, rfl, itD0 (by decide +kernel) ?_⟩
      refine ⟨_, rfl, rfl, _, rfl, itD1 (by decide +kernel) ?_⟩
      obtain ⟨pc, ys, rfl, hTc, hI0⟩ := of_cellsT h1
      refine ⟨_, rfl, p, _, _, _, rfl, rfl, hT, rfl, pc, ys, rfl, .inr hTc, fun r hr' => ?_⟩
      have k : Kp [] H (upd H r (.lst ys)) := Kp.new hr'
      have hp : upd H r (.lst ys) r = some (.lst ys) := upd_same
      have hI := items_mono k hI0
      rw [show cs = all (.cells cs) from all_cells hg] at hI
      generalize upd H r (.lst ys) = H1 at k hp hI ⊢
      refine ⟨_, rfl, r, rfl, ⟨_, SqL.of hp⟩, (k.tab _ hPh).1, fun H2 tb => ?_⟩
      refine ⟨_, _, ⟨Nat.zero_le _, ?p0⟩, GX.turn_lst (xs := ys) (fun i H' => Kp [] H1 H') rfl (fun i H' _ k => k.sqL (SqL.of hp) List.not_mem_nil) (fun i x H' hx k' => ?ps) (fun H' k' => ?pd)⟩
      case p0 => exact Kp.tabbed (k.tab _ hPh) tb
      case ps =>
        obtain ⟨c, hc, hd⟩ := hI.get hx
        obtain ⟨p', rfl, hs⟩ := of_dp_c hd
        refine ⟨_, rfl, p', c, 0, 3, rfl, k'.sqT hs, k'.tab _ (k.tab _ hPt), fun H3 k3 => ⟨_, rfl, ?_⟩⟩
        rw [tri_room.mpr (in_all (List.mem_of_getElem? hc))]
        exact iteT ⟨(List.getElem?_eq_some_iff.mp hx).1, k'.trans k3⟩
      case pd =>
        refine ⟨_, rfl, iteF ?_⟩
        exact ⟨_, rfl, q H' r ys (k.trans k') hr' (k'.lst hp List.not_mem_nil) (items_mono k' hI)⟩
    | moved d b1 =>
      obtain ⟨p, y1, z1, rfl, hT, h1, h2⟩ := of_body3 hB
      refine ⟨_, rfl, p, _, _, _, rfl, rfl, hT, rfl, ?_⟩
      refine ⟨_, rfl, rfl, _, rfl, itD0 (by decide +kernel) ?_⟩
      refine ⟨_, rfl, rfl, _, rfl, itD0 (by decide +kernel) ?_⟩
      refine ⟨_, rfl, rfl, _, rfl, itD1 (by decide +kernel) ?_⟩
      have hdp : dp b1 ≤ n := by
        unfold dp at hn
        omega
      refine ⟨_, rfl, p, _, _, _, rfl, rfl, hT, rfl, _, rfl, p, _, _, _, rfl, rfl, hT, rfl, z1, b1, rfl, h2, hg.2.1, hdp, hPt, hPh, fun H0 r0 ys0 k0 n0 hp0 hI0 => ?_⟩
      refine ⟨y1, d, .ref r0, all b1, rfl, c_mono k0 h1, cellsL_of hp0 hI0, all_len b1, fun H1 r ys k1 n1 hp hI => ?_⟩
      have k := k0.trans k1
      have hr' := k0.free r n1
      rw [all_moved hg] at hI
      refine ⟨_, rfl, r, rfl, ⟨_, SqL.of hp⟩, (k.tab _ hPh).1, fun H2 tb => ?_⟩
      refine ⟨_, _, ⟨Nat.zero_le _, ?p0⟩, GX.turn_lst (xs := ys) (fun i H' => Kp [] H1 H') rfl (fun i H' _ k => k.sqL (SqL.of hp) List.not_mem_nil) (fun i x H' hx k' => ?ps) (fun H' k' => ?pd)⟩
      case p0 => exact Kp.tabbed (k.tab _ hPh) tb
      case ps =>
        obtain ⟨c, hc, hd⟩ := hI.get hx
        obtain ⟨p', rfl, hs⟩ := of_dp_c hd
        refine ⟨_, rfl, p', c, 0, 3, rfl, k'.sqT hs, k'.tab _ (k.tab _ hPt), fun H3 k3 => ⟨_, rfl, ?_⟩⟩
        rw [tri_room.mpr (in_all (List.mem_of_getElem? hc))]
        exact iteT ⟨(List.getElem?_eq_some_iff.mp hx).1, k'.trans k3⟩
      case pd =>
        refine ⟨_, rfl, iteF ?_⟩
        exact ⟨_, rfl, q H' r ys (k.trans k') hr' (k'.lst hp List.not_mem_nil) (items_mono k' hI)⟩
    | turnX b1 =>
      obtain ⟨p, y1, z1, rfl, hT, h1, h2⟩ := of_body3 hB
      refine ⟨_, rfl, p, _, _, _, rfl, rfl, hT, rfl, ?_⟩
      refine ⟨_, rfl, rfl, _, rfl, itD0 (by decide +kernel) ?_⟩
      refine ⟨_, rfl, rfl, _, rfl, itD0 (by decide +kernel) ?_⟩
      refine ⟨_, rfl, rfl, _, rfl, itD0 (by decide +kernel) ?_⟩
      refine ⟨_, rfl, rfl, _, rfl, itD1 (by decide +kernel) ?_⟩
      obtain rfl := of_dps h1
      have hdp : dp b1 ≤ n := by
        unfold dp at hn
        omega
      refine ⟨_, rfl, p, _, _, _, rfl, rfl, hT, rfl, _, rfl, p, _, _, _, rfl, rfl, hT, rfl, z1, b1, rfl, h2, hg, hdp, hPt, hPh, fun H0 r0 ys0 k0 n0 hp0 hI0 => ?_⟩
      refine ⟨"x", tX, .ref r0, all b1, rfl, .inl ⟨rfl, rfl⟩, cellsL_of hp0 hI0, all_len b1, fun H1 r ys ds k1 n1 hp hI hpm hso => ?_⟩
      have k := k0.trans k1
      have hr' := k0.free r n1
      rw [all_turnX hg hso hpm] at hI
      refine ⟨_, rfl, r, rfl, ⟨_, SqL.of hp⟩, (k.tab _ hPh).1, fun H2 tb => ?_⟩
      refine ⟨_, _, ⟨Nat.zero_le _, ?p0⟩, GX.turn_lst (xs := ys) (fun i H' => Kp [] H1 H') rfl (fun i H' _ k => k.sqL (SqL.of hp) List.not_mem_nil) (fun i x H' hx k' => ?ps) (fun H' k' => ?pd)⟩
      case p0 => exact Kp.tabbed (k.tab _ hPh) tb
      case ps =>
        obtain ⟨c, hc, hd⟩ := hI.get hx
        obtain ⟨p', rfl, hs⟩ := of_dp_c hd
        refine ⟨_, rfl, p', c, 0, 3, rfl, k'.sqT hs, k'.tab _ (k.tab _ hPt), fun H3 k3 => ⟨_, rfl, ?_⟩⟩
        rw [tri_room.mpr (in_all (List.mem_of_getElem? hc))]
        exact iteT ⟨(List.getElem?_eq_some_iff.mp hx).1, k'.trans k3⟩
      case pd =>
        refine ⟨_, rfl, iteF ?_⟩
        exact ⟨_, rfl, q H' r ys (k.trans k') hr' (k'.lst hp List.not_mem_nil) (items_mono k' hI)⟩
    | turnY b1 =>
      obtain ⟨p, y1, z1, rfl, hT, h1, h2⟩ := of_body3 hB
      refine ⟨_, rfl, p, _, _, _, rfl, rfl, hT, rfl, ?_⟩
      refine ⟨_, rfl, rfl, _, rfl, itD0 (by decide +kernel) ?_⟩
      refine ⟨_, rfl, rfl, _, rfl, itD0 (by decide +kernel) ?_⟩
      refine ⟨_, rfl, rfl, _, rfl, itD0 (by decide +kernel) ?_⟩
      refine ⟨_, rfl, rfl, _, rfl, itD1 (by decide +kernel) ?_⟩
      obtain rfl := of_dps h1
      have hdp : dp b1 ≤ n := by
        unfold dp at hn
        omega
      refine ⟨_, rfl, p, _, _, _, rfl, rfl, hT, rfl, _, rfl, p, _, _, _, rfl, rfl, hT, rfl, z1, b1, rfl, h2, hg, hdp, hPt, hPh, fun H0 r0 ys0 k0 n0 hp0 hI0 => ?_⟩
      refine ⟨"y", tY, .ref r0, all b1, rfl, .inr (.inl ⟨rfl, rfl⟩), cellsL_of hp0 hI0, all_len b1, fun H1 r ys ds k1 n1 hp hI hpm hso => ?_⟩
      have k := k0.trans k1
      have hr' := k0.free r n1
      rw [all_turnY hg hso hpm] at hI
      refine ⟨_, rfl, r, rfl, ⟨_, SqL.of hp⟩, (k.tab _ hPh).1, fun H2 tb => ?_⟩
      refine ⟨_, _, ⟨Nat.zero_le _, ?p0⟩, GX.turn_lst (xs := ys) (fun i H' => Kp [] H1 H') rfl (fun i H' _ k => k.sqL (SqL.of hp) List.not_mem_nil) (fun i x H' hx k' => ?ps) (fun H' k' => ?pd)⟩
      case p0 => exact Kp.tabbed (k.tab _ hPh) tb
      case ps =>
        obtain ⟨c, hc, hd⟩ := hI.get hx
        obtain ⟨p', rfl, hs⟩ := of_dp_c hd
        refine ⟨_, rfl, p', c, 0, 3, rfl, k'.sqT hs, k'.tab _ (k.tab _ hPt), fun H3 k3 => ⟨_, rfl, ?_⟩⟩
        rw [tri_room.mpr (in_all (List.mem_of_getElem? hc))]
        exact iteT ⟨(List.getElem?_eq_some_iff.mp hx).1, k'.trans k3⟩
      case pd =>
        refine ⟨_, rfl, iteF ?_⟩
        exact ⟨_, rfl, q H' r ys (k.trans k') hr' (k'.lst hp List.not_mem_nil) (items_mono k' hI)⟩
    | turnZ b1 =>
      obtain ⟨p, y1, z1, rfl, hT, h1, h2⟩ := of_body3 hB
      refine ⟨_, rfl, p, _, _, _, rfl, rfl, hT, rfl, ?_⟩
      refine ⟨_, rfl, rfl, _, rfl, itD0 (by decide +kernel) ?_⟩
      refine ⟨_, rfl, rfl, _, rfl, itD0 (by decide +kernel) ?_⟩
      refine ⟨_, rfl, rfl, _, rfl, itD0 (by decide +kernel) ?_⟩
      refine ⟨_, rfl, rfl, _, rfl, itD1 (by decide +kernel) ?_⟩
      obtain rfl := of_dps h1
      have hdp : dp b1 ≤ n := by
        unfold dp at hn
        omega
      refine ⟨_, rfl, p, _, _, _, rfl, rfl, hT, rfl, _, rfl, p, _, _, _, rfl, rfl, hT, rfl, z1, b1, rfl, h2, hg, hdp, hPt, hPh, fun H0 r0 ys0 k0 n0 hp0 hI0 => ?_⟩
      refine ⟨"z", tZ, .ref r0, all b1, rfl, .inr (.inr ⟨rfl, rfl⟩), cellsL_of hp0 hI0, all_len b1, fun H1 r ys ds k1 n1 hp hI hpm hso => ?_⟩
      have k := k0.trans k1
      have hr' := k0.free r n1
      rw [all_turnZ hg hso hpm] at hI
      refine ⟨_, rfl, r, rfl, ⟨_, SqL.of hp⟩, (k.tab _ hPh).1, fun H2 tb => ?_⟩
      refine ⟨_, _, ⟨Nat.zero_le _, ?p0⟩, GX.turn_lst (xs := ys) (fun i H' => Kp [] H1 H') rfl (fun i H' _ k => k.sqL (SqL.of hp) List.not_mem_nil) (fun i x H' hx k' => ?ps) (fun H' k' => ?pd)⟩
      case p0 => exact Kp.tabbed (k.tab _ hPh) tb
      case ps =>
        obtain ⟨c, hc, hd⟩ := hI.get hx
        obtain ⟨p', rfl, hs⟩ := of_dp_c hd
        refine ⟨_, rfl, p', c, 0, 3, rfl, k'.sqT hs, k'.tab _ (k.tab _ hPt), fun H3 k3 => ⟨_, rfl, ?_⟩⟩
        rw [tri_room.mpr (in_all (List.mem_of_getElem? hc))]
        exact iteT ⟨(List.getElem?_eq_some_iff.mp hx).1, k'.trans k3⟩
      case pd =>
        refine ⟨_, rfl, iteF ?_⟩
        exact ⟨_, rfl, q H' r ys (k.trans k') hr' (k'.lst hp List.not_mem_nil) (items_mono k' hI)⟩
    | wth b1 b2 =>
      obtain ⟨p, y1, z1, rfl, hT, h1, h2⟩ := of_body3 hB
      refine ⟨_, rfl, p, _, _, _, rfl, rfl, hT, rfl, ?_⟩
      refine ⟨_, rfl, rfl, _, rfl, itD0 (by decide +kernel) ?_⟩
      refine ⟨_, rfl, rfl, _, rfl, itD0 (by decide +kernel) ?_⟩
      refine ⟨_, rfl, rfl, _, rfl, itD0 (by decide +kernel) ?_⟩
      refine ⟨_, rfl, rfl, _, rfl, itD0 (by decide +kernel) ?_⟩
      have hdp : dp b1 ≤ n ∧ dp b2 ≤ n := by
        unfold dp at hn
        omega
      refine ⟨_, rfl, _, rfl, p, _, _, _, rfl, rfl, hT, rfl, y1, b1, rfl, h1, hg.1, hdp.1, hPt, hPh, fun Ha ra ya ka na pa ia => ?_⟩
      refine ⟨_, rfl, p, _, _, _, rfl, rfl, (ka.sqT hT), rfl, z1, b2, rfl, body_mono ka h2, hg.2, hdp.2, ka.tab _ hPt, ka.tab _ hPh, fun Hb rb yb kb nb' pb ib => ?_⟩
      refine ⟨"with", ra, rb, ya, yb, all b1, all b2, rfl, .inl rfl, kb.lst pa List.not_mem_nil, pb, items_mono kb ia, ib, all_len b1, all_len b2, fun c hc => in_all hc, fun c hc => in_all hc, fun H1 r ys ds k1 n1 hp hI hj => ?_⟩
      have k := (ka.trans kb).trans k1
      have hr' := (ka.trans kb).free r n1
      obtain ⟨_, hso, hnd, hmem⟩ | ⟨e, _⟩ | ⟨e, _⟩ := hj
      rotate_left
      · exact absurd e (by decide +kernel)
      · exact absurd e (by decide +kernel)
      rw [all_wth hg hso hnd hmem] at hI
      refine ⟨_, rfl, r, rfl, ⟨_, SqL.of hp⟩, (k.tab _ hPh).1, fun H2 tb => ?_⟩
      refine ⟨_, _, ⟨Nat.zero_le _, ?p0⟩, GX.turn_lst (xs := ys) (fun i H' => Kp [] H1 H') rfl (fun i H' _ k => k.sqL (SqL.of hp) List.not_mem_nil) (fun i x H' hx k' => ?ps) (fun H' k' => ?pd)⟩
      case p0 => exact Kp.tabbed (k.tab _ hPh) tb
      case ps =>
        obtain ⟨c, hc, hd⟩ := hI.get hx
        obtain ⟨p', rfl, hs⟩ := of_dp_c hd
        refine ⟨_, rfl, p', c, 0, 3, rfl, k'.sqT hs, k'.tab _ (k.tab _ hPt), fun H3 k3 => ⟨_, rfl, ?_⟩⟩
        rw [tri_room.mpr (in_all (List.mem_of_getElem? hc))]
        exact iteT ⟨(List.getElem?_eq_some_iff.mp hx).1, k'.trans k3⟩
      case pd =>
        refine ⟨_, rfl, iteF ?_⟩
        exact ⟨_, rfl, q H' r ys (k.trans k') hr' (k'.lst hp List.not_mem_nil) (items_mono k' hI)⟩
    | common b1 b2 =>
      obtain ⟨p, y1, z1, rfl, hT, h1, h2⟩ := of_body3 hB
      refine ⟨_, rfl, p, _, _, _, rfl, rfl, hT, rfl, ?_⟩
      refine ⟨_, rfl, rfl, _, rfl, itD0 (by decide +kernel) ?_⟩
      refine ⟨_, rfl, rfl, _, rfl, itD0 (by decide +kernel) ?_⟩
      refine ⟨_, rfl, rfl, _, rfl, itD0 (by decide +kernel) ?_⟩
      refine ⟨_, rfl, rfl, _, rfl, itD0 (by decide +kernel) ?_⟩
      have hdp : dp b1 ≤ n ∧ dp b2 ≤ n := by
        unfold dp at hn
        omega
      refine ⟨_, rfl, _, rfl, p, _, _, _, rfl, rfl, hT, rfl, y1, b1, rfl, h1, hg.1, hdp.1, hPt, hPh, fun Ha ra ya ka na pa ia => ?_⟩
      refine ⟨_, rfl, p, _, _, _, rfl, rfl, (ka.sqT hT), rfl, z1, b2, rfl, body_mono ka h2, hg.2, hdp.2, ka.tab _ hPt, ka.tab _ hPh, fun Hb rb yb kb nb' pb ib => ?_⟩
      refine ⟨"common", ra, rb, ya, yb, all b1, all b2, rfl, .inr (.inl rfl), kb.lst pa List.not_mem_nil, pb, items_mono kb ia, ib, all_len b1, all_len b2, fun c hc => in_all hc, fun c hc => in_all hc, fun H1 r ys ds k1 n1 hp hI hj => ?_⟩
      have k := (ka.trans kb).trans k1
      have hr' := (ka.trans kb).free r n1
      obtain ⟨e, _⟩ | ⟨_, rfl⟩ | ⟨e, _⟩ := hj
      · exact absurd e (by decide +kernel)
      rotate_left
      · exact absurd e (by decide +kernel)
      rw [all_common hg] at hI
      refine ⟨_, rfl, r, rfl, ⟨_, SqL.of hp⟩, (k.tab _ hPh).1, fun H2 tb => ?_⟩
      refine ⟨_, _, ⟨Nat.zero_le _, ?p0⟩, GX.turn_lst (xs := ys) (fun i H' => Kp [] H1 H') rfl (fun i H' _ k => k.sqL (SqL.of hp) List.not_mem_nil) (fun i x H' hx k' => ?ps) (fun H' k' => ?pd)⟩
      case p0 => exact Kp.tabbed (k.tab _ hPh) tb
      case ps =>
        obtain ⟨c, hc, hd⟩ := hI.get hx
        obtain ⟨p', rfl, hs⟩ := of_dp_c hd
        refine ⟨_, rfl, p', c, 0, 3, rfl, k'.sqT hs, k'.tab _ (k.tab _ hPt), fun H3 k3 => ⟨_, rfl, ?_⟩⟩
        rw [tri_room.mpr (in_all (List.mem_of_getElem? hc))]
        exact iteT ⟨(List.getElem?_eq_some_iff.mp hx).1, k'.trans k3⟩
      case pd =>
        refine ⟨_, rfl, iteF ?_⟩
        exact ⟨_, rfl, q H' r ys (k.trans k') hr' (k'.lst hp List.not_mem_nil) (items_mono k' hI)⟩
    | less b1 b2 =>
      obtain ⟨p, y1, z1, rfl, hT, h1, h2⟩ := of_body3 hB
      refine ⟨_, rfl, p, _, _, _, rfl, rfl, hT, rfl, ?_⟩
      refine ⟨_, rfl, rfl, _, rfl, itD0 (by decide +kernel) ?_⟩
      refine ⟨_, rfl, rfl, _, rfl, itD0 (by decide +kernel) ?_⟩
      refine ⟨_, rfl, rfl, _, rfl, itD0 (by decide +kernel) ?_⟩
      refine ⟨_, rfl, rfl, _, rfl, itD0 (by decide +kernel) ?_⟩
      have hdp : dp b1 ≤ n ∧ dp b2 ≤ n := by
        unfold dp at hn
        omega
      refine ⟨_, rfl, _, rfl, p, _, _, _, rfl, rfl, hT, rfl, y1, b1, rfl, h1, hg.1, hdp.1, hPt, hPh, fun Ha ra ya ka na pa ia => ?_⟩
      refine ⟨_, rfl, p, _, _, _, rfl, rfl, (ka.sqT hT), rfl, z1, b2, rfl, body_mono ka h2, hg.2, hdp.2, ka.tab _ hPt, ka.tab _ hPh, fun Hb rb yb kb nb' pb ib => ?_⟩
      refine ⟨"less", ra, rb, ya, yb, all b1, all b2, rfl, .inr (.inr rfl), kb.lst pa List.not_mem_nil, pb, items_mono kb ia, ib, all_len b1, all_len b2, fun c hc => in_all hc, fun c hc => in_all hc, fun H1 r ys ds k1 n1 hp hI hj => ?_⟩
      have k := (ka.trans kb).trans k1
      have hr' := (ka.trans kb).free r n1
      obtain ⟨e, _⟩ | ⟨e, _⟩ | ⟨_, rfl⟩ := hj
      · exact absurd e (by decide +kernel)
      · exact absurd e (by decide +kernel)
      rw [all_less hg] at hI
      refine ⟨_, rfl, r, rfl, ⟨_, SqL.of hp⟩, (k.tab _ hPh).1, fun H2 tb => ?_⟩
      refine ⟨_, _, ⟨Nat.zero_le _, ?p0⟩, GX.turn_lst (xs := ys) (fun i H' => Kp [] H1 H') rfl (fun i H' _ k => k.sqL (SqL.of hp) List.not_mem_nil) (fun i x H' hx k' => ?ps) (fun H' k' => ?pd)⟩
      case p0 => exact Kp.tabbed (k.tab _ hPh) tb
      case ps =>
        obtain ⟨c, hc, hd⟩ := hI.get hx
        obtain ⟨p', rfl, hs⟩ := of_dp_c hd
        refine ⟨_, rfl, p', c, 0, 3, rfl, k'.sqT hs, k'.tab _ (k.tab _ hPt), fun H3 k3 => ⟨_, rfl, ?_⟩⟩
        rw [tri_room.mpr (in_all (List.mem_of_getElem? hc))]
        exact iteT ⟨(List.getElem?_eq_some_iff.mp hx).1, k'.trans k3⟩
      case pd =>
        refine ⟨_, rfl, iteF ?_⟩
        exact ⟨_, rfl, q H' r ys (k.trans k') hr' (k'.lst hp List.not_mem_nil) (items_mono k' hI)⟩

theorem held_none {f Pt Ph : Addr} {fd : FuncData} : FnOk P W0 K mg base CX0 6 f fd ["body"] (spHeld K Pt Ph 0) := by
  have no : ∀ vs H Q E, ¬ spHeld K Pt Ph 0 vs H Q E := fun vs H Q E h => by
    obtain ⟨v, b, _, _, _, hn, _⟩ := h
    have := dp_pos b
    omega
  exact ⟨fun vs H Q E h => absurd h (no vs H Q E), fun A outer s H args us vs Q E _ _ _ _ h => absurd h (no vs H Q E)⟩
theorem ok_held {f c Pt Ph fT fB fS fQ fJ : Addr} {fd dT dB dS dQ dJ : FuncData} (F : FunC K "_held" "_held" sHeld f fd c) (TB : GxR.TabB base mg c Ph) (T : Nm K mg) (Z : HeldFns P W0 K mg base Pt fT fB fS fQ fJ dT dB dS dQ dJ) (N : Fn K mg "_held" f fd ["body"]) :
    ∀ n : Nat, FnOk P W0 K mg base CX0 (6 + n) f fd ["body"] (spHeld K Pt Ph n)
  | 0 => held_none
  | n + 1 => held_step F TB T Z N (ok_held F TB T Z N n)
end LP
end

section
set_option Elab.async false
set_option linter.all false
set_option maxRecDepth 100000
set_option maxHeartbeats 2000000
/-! cells -/
namespace LP
open PySem PySem.Spec PyProof.Rows L2 Ly GY
variable [LamTab] {P : Program} {W0 : World} {K : PySem.W.Frag} {mg : Str → Option Value} {base : Heap}
/-- an own class of exceptions over ValueError -/
structure Ex (K : PySem.W.Frag) (mg : Str → Option Value) (x : Str) (C : Addr) : Prop where
  g : mg x = some (.ref C)
  x : PySem.W.excIn K C [.type "ValueError", .type "Exception", .type "BaseException", .type "object"] "ValueError.__new__" = true
  k : PySem.W.keepIn K (.ref C) = true
  b : PySem.W.subIn K (.ref C) (.type "BaseException") = some true
  t : PySem.W.typeIn K (.ref C) = some (.type "type")
theorem btw_iff {lo hi z : Int} : btw lo hi z = true ↔ (lo ≤ z ∧ z ≤ hi) := by
  unfold btw
  simp only [Bool.and_eq_true, decide_eq_true_eq]
/-- the tables of the defs with generator expressions -/
structure Tb (H : Hp) (Pt Pr Ph : Addr) : Prop where
  t : TGen H Pt
  r : TR H Pr
  h : TGen H Ph
theorem Tb.mono {S : List Addr} {H H' : Hp} {Pt Pr Ph : Addr} (b : Tb H Pt Pr Ph) (k : Kp S H H') : Tb H' Pt Pr Ph := ⟨k.tab _ b.t, k.tabr b.r, k.tab _ b.h⟩
def spCells (K : PySem.W.Frag) (Pt Pr Ph : Addr) : Sp := fun vs H Q _ => ∃ (v : V) (b : Bd), vs = [v] ∧ Body K H v b ∧ Good b ∧ nb b ≤ 20 ∧ Tb H Pt Pr Ph ∧
  ∀ (H' : Hp) (r : Addr) (zs : List V), Kp [] H H' → H r = none → H' r = some (.lst zs) → Items K H' zs (all b) → Q (.ref r) H'
theorem scCells : FnScope ["body"] ["body"] (defScope sCells) := ⟨rfl, rfl, rfl, by decide +kernel, rfl, by decide +kernel, by decide +kernel⟩
theorem ok_cells {f Pt Pr Ph fI fH : Addr} {fd dI dH : FuncData} (F : Fun K "cells" "cells" sCells f fd) (NI : Fn K mg "is_body" fI dI ["body"]) (GI : FnOk P W0 K mg base CX0 9 fI dI ["body"] (spIsBody K Pt Pr))
    (NH : Fn K mg "_held" fH dH ["body"]) (GH : FnOk P W0 K mg base CX0 (6 + 20) fH dH ["body"] (spHeld K Pt Ph 20)) : FnOk P W0 K mg base CX0 27 f fd ["body"] (spCells K Pt Pr Ph) := by
  refine F.ok scCells (fun vs H Q E h => ?_) (fun cdv A outer s H vs Q E hr h => ?_)
  · obtain ⟨v, b, rfl, _⟩ := h
    rfl
  · obtain ⟨v, b, rfl, hB, hg, hn, tb, q⟩ := h
    have hr9 : Room 9 _ := hr.mono (by decide)
    refine ⟨_, pss_cons (ps_if (pt_not (pt_val (pe_call GI hr9 (by rfl) NI.m NI.kp NI.b .nil pass0 (pa_cons (pv 0) pa_nil)))) (pss_one ps_never) pss_nil)
      (pss_one (ps_ret (pe_call GH hr (by rfl) NH.m NH.kp NH.b .nil pass0 (pa_cons (pv 0) pa_nil)))), ?_⟩
    refine ⟨_, rfl, v, b, rfl, hB, hg, hn, tb.t, tb.r, fun H1 k1 => ⟨true, rfl, iteF ?_⟩⟩
    have hd := dp_le_nb b
    exact ⟨_, rfl, v, b, rfl, body_mono k1 hB, hg, by omega, k1.tab _ tb.t, k1.tab _ tb.h, fun H2 r zs k2 n2 h2 i2 => q H2 r zs (k1.trans k2) (k1.free r n2) h2 i2⟩
end LP
end

section
set_option Elab.async false
set_option linter.all false
set_option maxRecDepth 100000
set_option maxHeartbeats 2000000
/-! the law's source of numbers -/
namespace LP
open PySem PySem.Spec PyProof.Rows L2 Ly GY
variable [LamTab] {P : Program} {W0 : World} {K : PySem.W.Frag} {mg : Str → Option Value} {base : Heap}
abbrev lMix : Stmt := top 46
abbrev lNext : Stmt := top 47
abbrev lAlike : Stmt := top 48
abbrev lInside : Stmt := top 49
abbrev lAll : Stmt := top 50
abbrev lBody : Stmt := top 51
-- _law_whole: not in this statement
-- _law_numbers: not in this statement
-- _law_counted: not in this statement
abbrev lKind : Stmt := top 52
-- _law_wrapped: not in this statement
abbrev lStrokes : Stmt := top 53
-- _law_text: not in this statement
-- _law_beside: not in this statement
-- _law_free: not in this statement
-- _law_ways: not in this statement
-- _law_hangs: not in this statement
-- _law_height: not in this statement
abbrev lSmall : Stmt := top 54
abbrev lDraw : Stmt := top 55
-- _law_best: not in this statement
-- _law_orders: not in this statement
-- _law_way: not in this statement
abbrev lLaw : Stmt := top 58
structure Nl (K : PySem.W.Frag) (mg : Str → Option Value) : Prop where
  max : mg "max" = none
  min : mg "min" = none
  str : mg "str" = none
/-- the state: a list of a number, a list of numbers and a place -/
def Sta (H : Hp) (h l : Addr) : Prop := ∃ (m t : Int) (ns : List Int), H h = some (.lst [.int m, .ref l, .int t]) ∧ H l = some (.lst (ns.map V.int)) ∧ h ≠ l ∧ 0 ≤ m ∧ m < 2147483647 ∧ ns.length ≤ 64
theorem Sta.mono {S : List Addr} {H H' : Hp} {h l : Addr} (s : Sta H h l) (k : Kp S H H') (n1 : h ∉ S) (n2 : l ∉ S) : Sta H' h l := by
  obtain ⟨m, t, ns, h1, h2, h3, h4⟩ := s
  exact ⟨m, t, ns, k.lst h1 n1, k.lst h2 n2, h3, h4⟩
theorem Sta.mono0 {H H' : Hp} {h l : Addr} (s : Sta H h l) (k : Kp [] H H') : Sta H' h l := s.mono k List.not_mem_nil List.not_mem_nil
def spMix (K : PySem.W.Frag) : Sp := fun vs H Q _ => ∃ (a : Addr) (ns : List Int) (z : Int), vs = [.ref a, .int z] ∧ SqL K H a (ns.map V.int) ∧ ns.length ≤ 64 ∧ 0 ≤ z ∧ z < 2147483647 ∧
  ∀ (H' : Hp) (h l : Addr), Kp [] H H' → H h = none → H l = none → Sta H' h l → Q (.ref h) H'
theorem scMix : FnScope ["_law_script", "_law_seed", "_law_mixed", "_law_cell"] ["_law_script", "_law_seed"] (defScope lMix) := ⟨rfl, rfl, rfl, by decide +kernel, rfl, by decide +kernel, by decide +kernel⟩
theorem ok_mix {f : Addr} {fd : FuncData} (F : Fun K "_law_mix" "_law_mix" lMix f fd) (T : Nm K mg) : FnOk P W0 K mg base CX0 1 f fd ["_law_script", "_law_seed"] (spMix K) := by
  refine F.ok scMix (fun vs H Q E h => ?_) (fun cdv A outer s H vs Q E hr h => ?_)
  · obtain ⟨a, ns, z, rfl, _⟩ := h
    rfl
  · obtain ⟨a, ns, z, rfl, hL, h64, z0, z1, q⟩ := h
    refine ⟨_, pss_cons (ps_set (i := 2) scMix.nd rfl (.inl rfl) (pv 1))
      (pss_cons (ps_for PassesOwn.never rfl (pi_list (pv 0)) (pg_name (i := 3) scMix.nd rfl (.inl rfl))
        (pss_one (ps_set (i := 2) scMix.nd rfl (.inl rfl) (pe_op op_mod (pe_op op_add (pe_op op_add (pe_op op_mul (pv 2) pe_int) (pe_op op_mod (pv 3) pe_int)) pe_int) pe_int))))
      (pss_one (ps_ret (pe_lst (pa_cons (pv 2) (pa_cons (pe_callTy call_list_of (by rfl) T.list (by decide +kernel) (pa_cons (pv 0) pa_nil)) (pa_cons pe_int pa_nil))))))), ?_⟩
    refine ⟨_, rfl, _, rfl, a, rfl, ⟨_, hL⟩, for_list (K := K) (a := a) (xs := ns.map V.int) (fun i σ H' => H' = H ∧ ∃ (m : Int) (o : Option V), σ = [some (.ref a), some (.int z), some (.int m), o] ∧ 0 ≤ m ∧ m < 2147483647) ⟨rfl, z, none, rfl, z0, z1⟩ (fun i σ H' _ p => by rw [p.1]; exact hL) (fun i x σ H' hx p => ?_) (fun σ H' p => ?_)⟩
    · obtain ⟨rfl, m, o, rfl, m0, m1⟩ := p
      obtain ⟨n, hn, rfl⟩ := int_at hx
      refine ⟨_, rfl, _, _, rfl, rfl, .inl ⟨by omega, by omega⟩, _, rfl, _, _, rfl, rfl, (by show (0 : Int) < 2147483629; decide), _, _, rfl, rfl, _, _, rfl, rfl, _, _, rfl, rfl, (by show (0 : Int) < 2147483647; decide), rfl, _, _, rfl, ?_, ?_⟩
      · exact Int.emod_nonneg _ (by decide)
      · exact Int.emod_lt_of_pos _ (by decide)
    · obtain ⟨rfl, m, o, rfl, m0, m1⟩ := p
      refine ⟨_, rfl, _, rfl, a, _, rfl, .inl hL, fun l hl => ⟨(by show 3 ≤ sizeLine; decide), fun h hh => ?_⟩⟩
      obtain ⟨hne, hh0⟩ := free_upd hh
      refine q _ h l ((Kp.new hl).trans (Kp.new hh)) hh0 hl ⟨m, 0, ns, upd_same, ?_, hne, m0, m1, h64⟩
      rw [upd_ne (Ne.symm hne)]
      exact upd_same
theorem dp_ints {H : Hp} : ∀ ns : List Int, DpAll K H (ns.map V.int) (ns.map PyData.int)
  | [] => .nil
  | n :: ns => .cons (.int n) (dp_ints ns)
theorem ints_lay : ∀ ns : List Int, PyData.canLayAll0 (ns.map PyData.int) = true
  | [] => by simp [PyData.canLayAll0]
  | c :: cs => by simp [PyData.canLayAll0, PyData.canLay0, ints_lay cs]
theorem ints_depth : ∀ ns : List Int, PyData.depthAll (ns.map PyData.int) ≤ 1
  | [] => by simp [PyData.depthAll]
  | c :: cs => by
    have h1 := ints_depth cs
    simp only [List.map_cons, PyData.depthAll, PyData.depth]
    omega
theorem ints_shaped (ns : List Int) : SeqAt.shaped (.list (ns.map PyData.int)) = true := by
  have h1 := ints_depth ns
  have h2 : PyData.depth (.list (ns.map PyData.int)) ≤ 64 := by
    simp only [PyData.depth]
    omega
  show (PyData.canLay0 (.list (ns.map PyData.int)) && decide (PyData.depth (.list (ns.map PyData.int)) ≤ 64)) = true
  rw [Bool.and_eq_true]
  exact ⟨by simp only [PyData.canLay0]; exact ints_lay ns, decide_eq_true h2⟩
theorem ixN_nat {n : Nat} {i : Int} (h0 : 0 ≤ i) (h : i < (n : Int)) : ixN n i = some i.toNat := by
  unfold ixN
  rw [if_pos h0, if_pos h]
theorem iteF' {c : Bool} {A B : Prop} (h : c = false) (b : B) : if c = true then A else B := itB0 h b
theorem iteT' {c : Bool} {A B : Prop} (h : c = true) (a : A) : if c = true then A else B := itB1 h a
def spNext : Sp := fun vs H Q _ => ∃ (h l : Addr) (many : Int), vs = [.ref h, .int many] ∧ 0 < many ∧ many < 1073741824 ∧ Sta H h l ∧
  ∀ (H' : Hp) (r : Int), Kp [h, l] H H' → Sta H' h l → 0 ≤ r → r < many → Q (.int r) H'
theorem scNext : FnScope ["_law_h", "_law_many", "_law_at", "_law_cell"] ["_law_h", "_law_many"] (defScope lNext) := ⟨rfl, rfl, rfl, by decide +kernel, rfl, by decide +kernel, by decide +kernel⟩
theorem ok_next {f : Addr} {fd : FuncData} (F : Fun K "_law_next" "_law_next" lNext f fd) (T : Nm K mg) (U : Nl K mg) : FnOk P W0 K mg base CX0 1 f fd ["_law_h", "_law_many"] spNext := by
  refine F.ok scNext (fun vs H Q E h => ?_) (fun cdv A outer s H vs Q E hr h => ?_)
  · obtain ⟨h, l, many, rfl, _⟩ := h
    rfl
  · obtain ⟨h, l, many, rfl, my0, my1, hS, q⟩ := h
    refine ⟨_, pss_cons (ps_set (i := 2) scNext.nd rfl (.inl rfl) (pe_op op_mod (pe_ix ix_list (pv 0) pe_int (fun _ _ => rfl)) (pe_callB (call_max2 rfl) (by rfl) U.max (by decide +kernel) (pa_cons pe_int (pa_cons (pe_callB call_len_seq (by rfl) T.len PySem.boot_len (pa_cons (pe_ix ix_list (pv 0) pe_int (fun _ _ => rfl)) pa_nil)) pa_nil)))))
      (pss_cons (ps_set (i := 3) scNext.nd rfl (.inl rfl) (pe_ifExp (pt_cmpR (op_neD hr.units) (pe_ix ix_list (pv 0) pe_int (fun _ _ => rfl)) (pe_lst pa_nil) (nomark _)) (pe_ix ix_list (pe_ix ix_list (pv 0) pe_int (fun _ _ => rfl)) (pv 2) (fun _ _ => rfl)) pe_int))
      (pss_cons (ps_if (pt_cmpR op_ge (pv 3) (pe_op op_pow pe_int pe_int) (nomark _))
        (pss_cons (ps_asg (pe_op op_fdiv (pv 3) (pv 1)) (pg_sub (pe_ix ix_list (pv 0) pe_int (fun _ _ => rfl)) (pv 2) set_list)) (pss_one (ps_ret (pe_op op_mod (pv 3) (pv 1))))) pss_nil)
      (pss_cons (ps_asg (pe_op op_mod (pe_op op_add (pe_op op_add (pe_op op_mul (pe_ix ix_list (pv 0) pe_int (fun _ _ => rfl)) pe_int) (pe_op op_mul (pv 3) pe_int)) pe_int) pe_int) (pg_sub (pv 0) pe_int set_list))
      (pss_cons (ps_asg (pe_op op_add (pe_ix ix_list (pv 0) pe_int (fun _ _ => rfl)) pe_int) (pg_sub (pv 0) pe_int set_list))
      (pss_one (ps_ret (pe_op op_mod (pe_op op_fdiv (pe_ix ix_list (pv 0) pe_int (fun _ _ => rfl)) pe_int) (pv 1)))))))), ?_⟩
    obtain ⟨m, t, ns, hH, hL, hne, m0, m1, h64⟩ := hS
    refine ⟨_, rfl, h, _, 2, _, rfl, rfl, SqL.of hH, rfl, ?_⟩
    refine ⟨_, rfl, h, _, 1, _, rfl, rfl, SqL.of hH, rfl, l, _, rfl, .inl (SqL.of hL), 1, _, rfl, ?_⟩
    have hjp : (0 : Int) < (if ((ns.map V.int).length : Int) > 1 then ((ns.map V.int).length : Int) else 1) := by
      split <;> omega
    refine ⟨_, _, rfl, rfl, hjp, ?_⟩
    have e0 := Int.emod_nonneg t (Int.ne_of_gt hjp)
    have e1 := Int.emod_lt_of_pos t hjp
    generalize hat : t % (if ((ns.map V.int).length : Int) > 1 then ((ns.map V.int).length : Int) else 1) = at_ at e0 e1
    refine ⟨_, rfl, h, _, 1, _, rfl, rfl, SqL.of hH, rfl, Nat.zero_le _, fun p hp => ?_⟩
    have kp : Kp [] H (upd H p (.lst [])) := Kp.new hp
    have hPp : upd H p (.lst []) p = some (.lst []) := upd_same
    have hH1 := kp.lst hH List.not_mem_nil
    have hL1 := kp.lst hL List.not_mem_nil
    generalize upd H p (.lst []) = H1 at kp hPp hH1 hL1 ⊢
    refine ⟨.list (ns.map PyData.int), .list [], .lst (SqL.of hL1) (dp_ints ns), .lst (SqL.of hPp) .nil, ints_shaped ns, ints_shaped [], ?_⟩
    by_cases hns : ns = []
    · subst hns
      refine ⟨_, rfl, iteF' (by simp [PyData.eqv, PyData.eqvAll]) ?_⟩
      refine ⟨_, rfl, _, _, rfl, rfl, ⟨by decide, by decide, by decide⟩, _, _, rfl, rfl, _, rfl, itD0 (by decide) ?_⟩
      have kend : ∀ (M' t' : Int), Kp [h, l] H (upd (upd H1 h (.lst [.int M', .ref l, .int t])) h (.lst [.int M', .ref l, .int t'])) := fun M' t' => by
        rw [upd_upd]
        exact kp.w0.trans (Kp.chg hH1 (by simp))
      refine ⟨_, rfl, h, _, 0, _, rfl, rfl, SqL.of hH1, rfl, _, _, rfl, rfl, .inl ⟨by omega, by omega⟩, _, rfl, _, _, rfl, rfl, .inr ⟨by omega, by omega⟩, _, _, rfl, rfl, _, _, rfl, rfl, _, _, rfl, rfl, (by show (0 : Int) < 2147483647; decide), ?_⟩
      refine ⟨_, rfl, h, _, 0, 0, rfl, rfl, hH1, rfl, ?_⟩
      have mz0 : 0 ≤ ((m * 48271 + 0 * 69621 + 11) % 2147483647) := by
        skip
        exact Int.emod_nonneg _ (by decide)
      have mz1 : ((m * 48271 + 0 * 69621 + 11) % 2147483647) < 2147483647 := by
        skip
        exact Int.emod_lt_of_pos _ (by decide)
      refine ⟨_, rfl, h, [.int ((m * 48271 + 0 * 69621 + 11) % 2147483647), .ref l, .int t], 2, _, rfl, rfl, SqL.of upd_same, rfl, _, _, rfl, rfl, _, rfl, h, [.int ((m * 48271 + 0 * 69621 + 11) % 2147483647), .ref l, .int t], 2, 2, rfl, rfl, upd_same, rfl, ?_⟩
      refine ⟨_, rfl, h, [.int ((m * 48271 + 0 * 69621 + 11) % 2147483647), .ref l, .int (t + 1)], 0, _, rfl, rfl, SqL.of upd_same, rfl, _, _, rfl, rfl, ⟨by show (0 : Int) < 7; decide, by show (7 : Int) < 1073741824; decide⟩, _, rfl, _, _, rfl, rfl, my0, ?_⟩
      refine q _ _ (kend ((m * 48271 + 0 * 69621 + 11) % 2147483647) (t + 1)) ⟨((m * 48271 + 0 * 69621 + 11) % 2147483647), t + 1, [], upd_same, ?_, hne, mz0, mz1, h64⟩ (Int.emod_nonneg _ (by omega)) (Int.emod_lt_of_pos _ my0)
      rw [upd_ne (Ne.symm hne), upd_ne (Ne.symm hne)]
      exact hL1
    · obtain ⟨n0, ns', hns'⟩ : ∃ n0 ns', ns = n0 :: ns' := by
        cases ns with
        | nil => exact absurd rfl hns
        | cons a b => exact ⟨a, b, rfl⟩
      have hlen : (1 : Int) ≤ ((ns.map V.int).length : Int) := by
        rw [List.length_map, hns', List.length_cons]
        omega
      have hlt : at_ < ((ns.map V.int).length : Int) := by
        split at e1 <;> omega
      have hltn : at_.toNat < ns.length := by
        rw [List.length_map] at hlt
        omega
      have hix : (ns.map V.int)[at_.toNat]? = some (.int ns[at_.toNat]) := by
        rw [List.getElem?_map, List.getElem?_eq_getElem hltn]
        rfl
      have eat : at_ = ((at_.toNat : Nat) : Int) := by omega
      have hai : atI (ns.map V.int) at_ = some (.int ns[at_.toNat]) := by
        have z := atI_nat hix
        rw [← eat] at z
        exact z
      have hin : ixN (ns.map V.int).length at_ = some at_.toNat := ixN_nat e0 hlt
      generalize ns[at_.toNat] = c at hai
      refine ⟨_, rfl, iteT' (by rw [hns']; simp [PyData.eqv, PyData.eqvAll]) ?_⟩
      refine ⟨_, rfl, h, _, 1, _, rfl, rfl, SqL.of hH1, rfl, _, rfl, l, _, at_, .int c, rfl, congrArg V.int hat, SqL.of hL1, hai, ?_⟩
      refine ⟨_, rfl, _, _, rfl, rfl, ⟨by decide, by decide, by decide⟩, _, _, rfl, rfl, _, rfl, ite2 (fun big => ?_) (fun small => ?_)⟩
      · refine ⟨_, rfl, _, rfl, _, _, rfl, rfl, ⟨my0, my1⟩, ?_⟩
        refine ⟨_, rfl, h, _, 1, _, rfl, rfl, SqL.of hH1, rfl, _, rfl, l, _, at_, _, rfl, congrArg V.int hat, hL1, hin, ?_⟩
        refine ⟨_, rfl, _, rfl, _, _, rfl, rfl, my0, ?_⟩
        refine q _ _ (kp.w0.trans (Kp.chg hL1 (by simp))) ⟨m, t, ns.set at_.toNat (c / many), ?_, ?_, hne, m0, m1, by rw [List.length_set]; exact h64⟩ (Int.emod_nonneg _ (by omega)) (Int.emod_lt_of_pos _ my0)
        · rw [upd_ne hne]
          exact hH1
        · rw [upd_same, List.map_set]
      · have dummy := small
        have kend : ∀ (M' t' : Int), Kp [h, l] H (upd (upd H1 h (.lst [.int M', .ref l, .int t])) h (.lst [.int M', .ref l, .int t'])) := fun M' t' => by
          rw [upd_upd]
          exact kp.w0.trans (Kp.chg hH1 (by simp))
        refine ⟨_, rfl, h, _, 0, _, rfl, rfl, SqL.of hH1, rfl, _, _, rfl, rfl, .inl ⟨by omega, by omega⟩, _, rfl, _, _, rfl, rfl, .inr ⟨by omega, by omega⟩, _, _, rfl, rfl, _, _, rfl, rfl, _, _, rfl, rfl, (by show (0 : Int) < 2147483647; decide), ?_⟩
        refine ⟨_, rfl, h, _, 0, 0, rfl, rfl, hH1, rfl, ?_⟩
        have mz0 : 0 ≤ ((m * 48271 + c * 69621 + 11) % 2147483647) := by
          skip
          exact Int.emod_nonneg _ (by decide)
        have mz1 : ((m * 48271 + c * 69621 + 11) % 2147483647) < 2147483647 := by
          skip
          exact Int.emod_lt_of_pos _ (by decide)
        refine ⟨_, rfl, h, [.int ((m * 48271 + c * 69621 + 11) % 2147483647), .ref l, .int t], 2, _, rfl, rfl, SqL.of upd_same, rfl, _, _, rfl, rfl, _, rfl, h, [.int ((m * 48271 + c * 69621 + 11) % 2147483647), .ref l, .int t], 2, 2, rfl, rfl, upd_same, rfl, ?_⟩
        refine ⟨_, rfl, h, [.int ((m * 48271 + c * 69621 + 11) % 2147483647), .ref l, .int (t + 1)], 0, _, rfl, rfl, SqL.of upd_same, rfl, _, _, rfl, rfl, ⟨by show (0 : Int) < 7; decide, by show (7 : Int) < 1073741824; decide⟩, _, rfl, _, _, rfl, rfl, my0, ?_⟩
        refine q _ _ (kend ((m * 48271 + c * 69621 + 11) % 2147483647) (t + 1)) ⟨((m * 48271 + c * 69621 + 11) % 2147483647), t + 1, ns, upd_same, ?_, hne, mz0, mz1, h64⟩ (Int.emod_nonneg _ (by omega)) (Int.emod_lt_of_pos _ my0)
        rw [upd_ne (Ne.symm hne), upd_ne (Ne.symm hne)]
        exact hL1
end LP
end

section
set_option Elab.async false
set_option linter.all false
set_option maxRecDepth 100000
set_option maxHeartbeats 2000000
/-! _law_alike -/
namespace LP
open PySem PySem.Spec PyProof.Rows L2 Ly GY
variable [LamTab] {P : Program} {W0 : World} {K : PySem.W.Frag} {mg : Str → Option Value} {base : Heap}
mutual
def okD : PyData → Bool
  | .int _ => true
  | .str _ => true
  | .none => true
  | .bool _ => true
  | .list ds => okDs ds && decide (ds.length ≤ 1000)
  | .tuple ds => okDs ds && decide (ds.length ≤ 1000)
  | _ => false
def okDs : List PyData → Bool
  | [] => true
  | d :: ds => okD d && okDs ds
end
theorem okDs_at : ∀ {ds : List PyData} {i : Nat} {d : PyData}, okDs ds = true → ds[i]? = some d → okD d = true
  | [], _, _, _, h => by simp at h
  | d :: ds, 0, e, h, q => by
    unfold okDs at h
    simp at q
    subst q
    exact (Bool.and_eq_true_iff.mp h).1
  | d :: ds, i + 1, e, h, q => by
    unfold okDs at h
    exact okDs_at (Bool.and_eq_true_iff.mp h).2 (by simpa using q)
theorem depth_at : ∀ {ds : List PyData} {i : Nat} {d : PyData}, ds[i]? = some d → d.depth ≤ PyData.depthAll ds
  | [], _, _, h => by simp at h
  | d :: ds, 0, e, q => by
    simp at q
    subst q
    simp only [PyData.depthAll]
    omega
  | d :: ds, i + 1, e, q => by
    have := depth_at (ds := ds) (i := i) (d := e) (by simpa using q)
    simp only [PyData.depthAll]
    omega
theorem dpAll_length {H : Hp} : ∀ {vs : List V} {ds : List PyData}, DpAll K H vs ds → vs.length = ds.length
  | _, [], h => by cases h; rfl
  | _, _ :: _, h => by
    cases h with
    | cons _ t => exact congrArg (· + 1) (dpAll_length t)
theorem dpAll_at {H : Hp} : ∀ {vs : List V} {ds : List PyData} {i : Nat}, DpAll K H vs ds → i < ds.length → ∃ v d, vs[i]? = some v ∧ ds[i]? = some d ∧ Dp K H v d
  | _, [], _, _, hi => by simp at hi
  | _, d :: ds, 0, h, _ => by
    cases h with
    | cons a _ => exact ⟨_, d, rfl, rfl, a⟩
  | _, d :: ds, i + 1, h, hi => by
    cases h with
    | cons _ t =>
      obtain ⟨v, e, h1, h2, h3⟩ := dpAll_at (i := i) t (by simpa using hi)
      exact ⟨v, e, by simpa using h1, by simpa using h2, h3⟩
theorem kaT : PySem.W.kitAny K (.type "tuple") [.type "tuple", .type "list"] = some true := kitAny_cons (b := true) (kit_ty (by decide +kernel)) (fun z => by cases z) (fun _ => rfl)
theorem kaL : PySem.W.kitAny K (.type "list") [.type "tuple", .type "list"] = some true := kitAny_cons (b := false) (kit_ty (by decide +kernel)) (fun _ => kitAny_cons (b := true) (kit_ty (by decide +kernel)) (fun z => by cases z) (fun _ => rfl)) (fun z => by cases z)
theorem kaS : PySem.W.kitAny K (.type "str") [.type "tuple", .type "list"] = some false := kitAny_cons (b := false) (kit_ty (by decide +kernel)) (fun _ => kitAny_cons (b := false) (kit_ty (by decide +kernel)) (fun _ => rfl) (fun z => by cases z)) (fun z => by cases z)
theorem kaI : PySem.W.kitAny K (.type "int") [.type "tuple", .type "list"] = some false := kitAny_cons (b := false) (kit_ty (by decide +kernel)) (fun _ => kitAny_cons (b := false) (kit_ty (by decide +kernel)) (fun _ => rfl) (fun z => by cases z)) (fun z => by cases z)
theorem kaN : PySem.W.kitAny K (.type "NoneType") [.type "tuple", .type "list"] = some false := kitAny_cons (b := false) (kit_ty (by decide +kernel)) (fun _ => kitAny_cons (b := false) (kit_ty (by decide +kernel)) (fun _ => rfl) (fun z => by cases z)) (fun z => by cases z)
theorem kaB : PySem.W.kitAny K (.type "bool") [.type "tuple", .type "list"] = some false := kitAny_cons (b := false) (kit_ty (by decide +kernel)) (fun _ => kitAny_cons (b := false) (kit_ty (by decide +kernel)) (fun _ => rfl) (fun z => by cases z)) (fun z => by cases z)
theorem itN {i j : Int} {A B : Prop} (h : i = j) (b : B) : if (!decide (V.int i = V.int j)) = true then A else B := by
  subst h
  rw [decide_eq_true rfl]
  exact iteF b
def spAlike (K : PySem.W.Frag) (n : Nat) : Sp := fun vs H Q _ => ∃ (x y : V) (d : PyData), vs = [x, y] ∧ Dp K H x d ∧ Dp K H y d ∧ okD d = true ∧ d.depth < n ∧ ∀ H', Kp [] H H' → Q (.bl true) H'
theorem scAlike : FnScope ["_law_found", "_law_due", "_law_k"] ["_law_found", "_law_due"] (defScope lAlike) := ⟨rfl, rfl, rfl, by decide +kernel, rfl, by decide +kernel, by decide +kernel⟩
theorem alike_step {n : Nat} {f : Addr} {fd : FuncData} (F : Fun K "_law_alike" "_law_alike" lAlike f fd) (T : Nm K mg) (U : Nl K mg) (N : Fn K mg "_law_alike" f fd ["_law_found", "_law_due"]) (G : FnOk P W0 K mg base CX0 (1 + n) f fd ["_law_found", "_law_due"] (spAlike K n)) :
    FnOk P W0 K mg base CX0 (1 + n + 1) f fd ["_law_found", "_law_due"] (spAlike K (n + 1)) := by
  refine F.ok scAlike (fun vs H Q E h => ?_) (fun cdv A outer s H vs Q E hr h => ?_)
  · obtain ⟨x, y, d, rfl, _⟩ := h
    rfl
  · obtain ⟨x, y, d, rfl, hx, hy, hok, hdp, q⟩ := h
    refine ⟨_, pss_cons (ps_if (pt_val (pe_callB call_isiT (by rfl) T.isinstance (by decide +kernel) (pa_cons (pv 1) (pa_cons (pe_tup (pa_cons (pe_bltn (by rfl) T.tuple (by decide +kernel) (v := .ty "tuple") rfl) (pa_cons (pe_bltn (by rfl) T.list (by decide +kernel) (v := .ty "list") rfl) pa_nil))) pa_nil)))) (pss_cons (ps_if (PW.pt (pw_or (pt_not (pt_val (pe_callB call_isiT (by rfl) T.isinstance (by decide +kernel) (pa_cons (pv 0) (pa_cons (pe_tup (pa_cons (pe_bltn (by rfl) T.tuple (by decide +kernel) (v := .ty "tuple") rfl) (pa_cons (pe_bltn (by rfl) T.list (by decide +kernel) (v := .ty "list") rfl) pa_nil))) pa_nil))))) (pw_or1 (pt_cmpR op_ne (pe_callB call_isi (by rfl) T.isinstance (by decide +kernel) (pa_cons (pv 0) (pa_cons (pe_bltn (by rfl) T.list (by decide +kernel) (v := .ty "list") rfl) pa_nil))) (pe_callB call_isi (by rfl) T.isinstance (by decide +kernel) (pa_cons (pv 1) (pa_cons (pe_bltn (by rfl) T.list (by decide +kernel) (v := .ty "list") rfl) pa_nil))) (nomark _))))) (pss_one (ps_ret pe_bl)) pss_nil)
        (pss_cons (ps_if (pt_cmpR op_ne (pe_callB call_len_seq (by rfl) T.len PySem.boot_len (pa_cons (pv 0) pa_nil)) (pe_callB call_len_seq (by rfl) T.len PySem.boot_len (pa_cons (pv 1) pa_nil)) (nomark _)) (pss_one (ps_ret pe_bl)) pss_nil)
        (pss_one (ps_ret (pe_cmpR (op_eqD hr.units) (pe_lc (own := [("_law_k", 2)]) (g := gName 2) rfl scAlike.nd (pi_range1 (by rfl) T.range (pa_cons (pe_callB call_len_seq (by rfl) T.len PySem.boot_len (pa_cons (pv 1) pa_nil)) pa_nil)) (blkOk_by (own := [("_law_k", 2)]) (N := ["_law_found", "_law_due", "_law_k"]) (sc := defScope lAlike) (by decide +kernel))
            (fun _ _ _ _ _ => pg_name (i := 2) scAlike.nd rfl (.inl rfl)) (fun _ _ _ _ _ => pts_one (pt_not (pt_val (pe_call G hr (by rfl) N.m N.kp N.b .nil pass0 (pa_cons (pe_ix (r := rIx K) ix_seq (pv 0) (pv 2) (fun _ _ => rfl)) (pa_cons (pe_ix (r := rIx K) ix_seq (pv 1) (pv 2) (fun _ _ => rfl)) pa_nil)))))) (fun _ _ _ _ _ => pv 2)) (pe_lst pa_nil) (nomark _)))))) pss_nil)
      (pss_cons (ps_if (pt_cmpR op_isN (pv 1) pe_non (nomark _)) (pss_one (ps_ret (pe_cmpR op_isN (pv 0) pe_non (nomark _)))) pss_nil)
      (pss_cons (ps_if (pt_val (pe_callB call_isi (by rfl) T.isinstance (by decide +kernel) (pa_cons (pv 1) (pa_cons (pe_bltn (by rfl) U.str (by decide +kernel) (v := .ty "str") rfl) pa_nil)))) (pss_one (ps_ret (pe_and (pe_callB call_isi (by rfl) T.isinstance (by decide +kernel) (pa_cons (pv 0) (pa_cons (pe_bltn (by rfl) U.str (by decide +kernel) (v := .ty "str") rfl) pa_nil))) (pe_one (pe_cmpR op_eq (pv 0) (pv 1) (nomark _)))))) pss_nil)
      (pss_cons (ps_if (PW.pt (pw_or (pt_val (pe_callB call_isi (by rfl) T.isinstance (by decide +kernel) (pa_cons (pv 1) (pa_cons (pe_bltn (by rfl) T.bool (by decide +kernel) (v := .ty "bool") rfl) pa_nil)))) (pw_or1 (pt_val (pe_callB call_isi (by rfl) T.isinstance (by decide +kernel) (pa_cons (pv 0) (pa_cons (pe_bltn (by rfl) T.bool (by decide +kernel) (v := .ty "bool") rfl) pa_nil))))))) (pss_one (ps_ret (pe_and (pe_callB call_isi (by rfl) T.isinstance (by decide +kernel) (pa_cons (pv 1) (pa_cons (pe_bltn (by rfl) T.bool (by decide +kernel) (v := .ty "bool") rfl) pa_nil))) (pe_and (pe_callB call_isi (by rfl) T.isinstance (by decide +kernel) (pa_cons (pv 0) (pa_cons (pe_bltn (by rfl) T.bool (by decide +kernel) (v := .ty "bool") rfl) pa_nil))) (pe_one (pe_cmpR op_eq (pv 0) (pv 1) (nomark _))))))) pss_nil)
      (pss_one (ps_ret (pe_and (pe_callB call_isi (by rfl) T.isinstance (by decide +kernel) (pa_cons (pv 0) (pa_cons (pe_bltn (by rfl) T.int (by decide +kernel) (v := .ty "int") rfl) pa_nil))) (pe_one (pe_cmpR op_eq (pv 0) (pv 1) (nomark _))))))))), ?_⟩
    cases d with
    | list ds =>
      obtain ⟨a, xs, rfl, ha, hxa⟩ : ∃ a xs, x = .ref a ∧ SqL K H a xs ∧ DpAll K H xs ds := by
        cases hx with
        | lst h1 h2 => exact ⟨_, _, rfl, h1, h2⟩
      obtain ⟨b, ys, rfl, hb, hyb⟩ : ∃ b ys, y = .ref b ∧ SqL K H b ys ∧ DpAll K H ys ds := by
        cases hy with
        | lst h1 h2 => exact ⟨_, _, rfl, h1, h2⟩
      have hlx := dpAll_length hxa
      have hly := dpAll_length hyb
      have hokp : okDs ds = true ∧ ds.length ≤ 1000 := by
        unfold okD at hok
        simpa using hok
      refine ⟨_, rfl, (by show 2 ≤ sizeLine; decide), fun T1 hT1 => ⟨_, T1, _, _, _, _, rfl, upd_same, .cons (.ty _) (.cons (.ty _) .nil), ty_lst ((Kp.new hT1 (S := [])).sqL hb List.not_mem_nil), kaL, true, rfl, iteT ?_⟩⟩
      have k1 : Kp [] H (upd H T1 (.tup [.ty "tuple", .ty "list"])) := Kp.new hT1
      generalize upd H T1 (.tup [.ty "tuple", .ty "list"]) = H1 at k1 ⊢
      refine ⟨_, rfl, (by show 2 ≤ sizeLine; decide), fun T2 hT2 => ⟨_, T2, _, _, _, _, rfl, upd_same, .cons (.ty _) (.cons (.ty _) .nil), ty_lst ((k1.trans (Kp.new hT2)).sqL ha List.not_mem_nil), kaL, true, rfl, iteF ?_⟩⟩
      have k2 : Kp [] H (upd H1 T2 (.tup [.ty "tuple", .ty "list"])) := k1.trans (Kp.new hT2)
      generalize upd H1 T2 (.tup [.ty "tuple", .ty "list"]) = H2 at k2 ⊢
      refine ⟨_, rfl, _, _, _, _, _, rfl, .ty _, (ty_lst (k2.sqL ha List.not_mem_nil)), kit_ty (r := true) (by decide +kernel), _, rfl, _, _, _, _, _, rfl, .ty _, (ty_lst (k2.sqL hb List.not_mem_nil)), kit_ty (r := true) (by decide +kernel), rfl, _, rfl, iteF ?_⟩
      refine ⟨_, rfl, a, _, rfl, .inl (k2.sqL ha List.not_mem_nil), _, rfl, b, _, rfl, .inl (k2.sqL hb List.not_mem_nil), rfl, _, rfl, itN (by rw [hlx, hly]) ?_⟩
      refine ⟨_, rfl, b, _, rfl, .inl (k2.sqL hb List.not_mem_nil), _, rfl, by omega, by omega, fun D hD => lc_range (lo := 0) (n := ys.length) (fun i H' => Kp [] H2 H' ∧ H' D = some (.lst [])) ⟨Kp.new hD, upd_same⟩ (fun i H' hi pv => ?_) (fun H' pv => ?_)⟩
      · obtain ⟨k, hDl⟩ := pv
        obtain ⟨vx, dx, ex1, ex2, ex3⟩ := dpAll_at (i := i) hxa (by omega)
        obtain ⟨vy, dy, ey1, ey2, ey3⟩ := dpAll_at (i := i) hyb (by omega)
        rw [ex2] at ey2
        cases ey2
        have e0 : (0 : Int) + (i : Int) = ((i : Nat) : Int) := by omega
        have hdd := depth_at ex2
        refine ⟨rfl, _, rfl, _, rfl, .inl ⟨a, xs, _, vx, rfl, rfl, (k2.trans k).sqL ha List.not_mem_nil, (by rw [e0]; exact atI_nat ex1), ?_⟩⟩
        refine ⟨_, rfl, _, rfl, .inl ⟨b, ys, _, vy, rfl, rfl, (k2.trans k).sqL hb List.not_mem_nil, (by rw [e0]; exact atI_nat ey1), ?_⟩⟩
        refine ⟨vx, vy, dx, rfl, dp_mono (k2.trans k) _ ex3 (.inr rfl), dp_mono (k2.trans k) _ ey3 (.inr rfl), okDs_at hokp.1 ex2, ?_, fun H4 k4 => ⟨true, rfl, iteF ⟨k.trans k4, k4.lst hDl List.not_mem_nil⟩⟩⟩
        simp only [PyData.depth] at hdp
        omega
      · obtain ⟨k, hDl⟩ := pv
        refine ⟨Nat.zero_le _, fun p hp => ?_⟩
        have kp : Kp [] H' (upd H' p (.lst [])) := Kp.new hp
        refine ⟨.list [], .list [], .lst (SqL.of (kp.lst hDl List.not_mem_nil)) .nil, .lst (SqL.of upd_same) .nil, ints_shaped [], ints_shaped [], ?_⟩
        have z := q _ ((k2.trans k).trans kp)
        rw [show PyData.eqv (.list []) (.list []) = true from by simp [PyData.eqv, PyData.eqvAll]]
        exact z
    | tuple ds =>
      obtain ⟨a, xs, rfl, ha, hxa⟩ : ∃ a xs, x = .ref a ∧ SqT K H a xs ∧ DpAll K H xs ds := by
        cases hx with
        | tup h1 h2 => exact ⟨_, _, rfl, h1, h2⟩
      obtain ⟨b, ys, rfl, hb, hyb⟩ : ∃ b ys, y = .ref b ∧ SqT K H b ys ∧ DpAll K H ys ds := by
        cases hy with
        | tup h1 h2 => exact ⟨_, _, rfl, h1, h2⟩
      have hlx := dpAll_length hxa
      have hly := dpAll_length hyb
      have hokp : okDs ds = true ∧ ds.length ≤ 1000 := by
        unfold okD at hok
        simpa using hok
      refine ⟨_, rfl, (by show 2 ≤ sizeLine; decide), fun T1 hT1 => ⟨_, T1, _, _, _, _, rfl, upd_same, .cons (.ty _) (.cons (.ty _) .nil), ty_tup ((Kp.new hT1 (S := [])).sqT hb), kaT, true, rfl, iteT ?_⟩⟩
      have k1 : Kp [] H (upd H T1 (.tup [.ty "tuple", .ty "list"])) := Kp.new hT1
      generalize upd H T1 (.tup [.ty "tuple", .ty "list"]) = H1 at k1 ⊢
      refine ⟨_, rfl, (by show 2 ≤ sizeLine; decide), fun T2 hT2 => ⟨_, T2, _, _, _, _, rfl, upd_same, .cons (.ty _) (.cons (.ty _) .nil), ty_tup ((k1.trans (Kp.new hT2)).sqT ha), kaT, true, rfl, iteF ?_⟩⟩
      have k2 : Kp [] H (upd H1 T2 (.tup [.ty "tuple", .ty "list"])) := k1.trans (Kp.new hT2)
      generalize upd H1 T2 (.tup [.ty "tuple", .ty "list"]) = H2 at k2 ⊢
      refine ⟨_, rfl, _, _, _, _, _, rfl, .ty _, (ty_tup (k2.sqT ha)), kit_ty (r := false) (by decide +kernel), _, rfl, _, _, _, _, _, rfl, .ty _, (ty_tup (k2.sqT hb)), kit_ty (r := false) (by decide +kernel), rfl, _, rfl, iteF ?_⟩
      refine ⟨_, rfl, a, _, rfl, .inr (k2.sqT ha), _, rfl, b, _, rfl, .inr (k2.sqT hb), rfl, _, rfl, itN (by rw [hlx, hly]) ?_⟩
      refine ⟨_, rfl, b, _, rfl, .inr (k2.sqT hb), _, rfl, by omega, by omega, fun D hD => lc_range (lo := 0) (n := ys.length) (fun i H' => Kp [] H2 H' ∧ H' D = some (.lst [])) ⟨Kp.new hD, upd_same⟩ (fun i H' hi pv => ?_) (fun H' pv => ?_)⟩
      · obtain ⟨k, hDl⟩ := pv
        obtain ⟨vx, dx, ex1, ex2, ex3⟩ := dpAll_at (i := i) hxa (by omega)
        obtain ⟨vy, dy, ey1, ey2, ey3⟩ := dpAll_at (i := i) hyb (by omega)
        rw [ex2] at ey2
        cases ey2
        have e0 : (0 : Int) + (i : Int) = ((i : Nat) : Int) := by omega
        have hdd := depth_at ex2
        refine ⟨rfl, _, rfl, _, rfl, .inr (.inl ⟨a, xs, _, vx, rfl, rfl, (k2.trans k).sqT ha, (by rw [e0]; exact atI_nat ex1), ?_⟩)⟩
        refine ⟨_, rfl, _, rfl, .inr (.inl ⟨b, ys, _, vy, rfl, rfl, (k2.trans k).sqT hb, (by rw [e0]; exact atI_nat ey1), ?_⟩)⟩
        refine ⟨vx, vy, dx, rfl, dp_mono (k2.trans k) _ ex3 (.inr rfl), dp_mono (k2.trans k) _ ey3 (.inr rfl), okDs_at hokp.1 ex2, ?_, fun H4 k4 => ⟨true, rfl, iteF ⟨k.trans k4, k4.lst hDl List.not_mem_nil⟩⟩⟩
        simp only [PyData.depth] at hdp
        omega
      · obtain ⟨k, hDl⟩ := pv
        refine ⟨Nat.zero_le _, fun p hp => ?_⟩
        have kp : Kp [] H' (upd H' p (.lst [])) := Kp.new hp
        refine ⟨.list [], .list [], .lst (SqL.of (kp.lst hDl List.not_mem_nil)) .nil, .lst (SqL.of upd_same) .nil, ints_shaped [], ints_shaped [], ?_⟩
        have z := q _ ((k2.trans k).trans kp)
        rw [show PyData.eqv (.list []) (.list []) = true from by simp [PyData.eqv, PyData.eqvAll]]
        exact z
    | str u =>
      obtain rfl : x = .str u := by cases hx; rfl
      obtain rfl : y = .str u := by cases hy; rfl
      refine ⟨_, rfl, (by show 2 ≤ sizeLine; decide), fun T1 hT1 => ⟨_, T1, _, _, _, _, rfl, upd_same, .cons (.ty _) (.cons (.ty _) .nil), .base (.str _), kaS, false, rfl, iteF ?_⟩⟩
      have k1 : Kp [] H (upd H T1 (.tup [.ty "tuple", .ty "list"])) := Kp.new hT1
      generalize upd H T1 (.tup [.ty "tuple", .ty "list"]) = H1 at k1 ⊢
      refine ⟨_, rfl, rfl, _, rfl, itD0 (by simp) ?_⟩
      refine ⟨_, rfl, _, _, _, _, _, rfl, .ty _, .base (.str _), kit_ty (r := true) (by decide +kernel), true, rfl, iteT ?_⟩
      refine ⟨_, rfl, _, _, _, _, _, rfl, .ty _, .base (.str _), kit_ty (r := true) (by decide +kernel), true, rfl, iteT ?_⟩
      refine ⟨_, rfl, _, rfl, (by simp [scal]), ?_⟩
      rw [decide_eq_true rfl]
      exact q H1 k1
    | int u =>
      obtain rfl : x = .int u := by cases hx; rfl
      obtain rfl : y = .int u := by cases hy; rfl
      refine ⟨_, rfl, (by show 2 ≤ sizeLine; decide), fun T1 hT1 => ⟨_, T1, _, _, _, _, rfl, upd_same, .cons (.ty _) (.cons (.ty _) .nil), .base (.int _), kaI, false, rfl, iteF ?_⟩⟩
      have k1 : Kp [] H (upd H T1 (.tup [.ty "tuple", .ty "list"])) := Kp.new hT1
      generalize upd H T1 (.tup [.ty "tuple", .ty "list"]) = H1 at k1 ⊢
      refine ⟨_, rfl, rfl, _, rfl, itD0 (by simp) ?_⟩
      refine ⟨_, rfl, _, _, _, _, _, rfl, .ty _, .base (.int _), kit_ty (r := false) (by decide +kernel), false, rfl, iteF ?_⟩
      refine ⟨_, rfl, _, _, _, _, _, rfl, .ty _, .base (.int _), kit_ty (r := false) (by decide +kernel), false, rfl, iteF ?_⟩
      refine ⟨_, rfl, _, _, _, _, _, rfl, .ty _, .base (.int _), kit_ty (r := false) (by decide +kernel), false, rfl, iteF ?_⟩
      refine ⟨_, rfl, _, _, _, _, _, rfl, .ty _, .base (.int _), kit_ty (r := true) (by decide +kernel), true, rfl, iteT ?_⟩
      refine ⟨_, rfl, _, rfl, (by simp [scal]), ?_⟩
      rw [decide_eq_true rfl]
      exact q H1 k1
    | none =>
      obtain rfl : x = .non := by cases hx; rfl
      obtain rfl : y = .non := by cases hy; rfl
      refine ⟨_, rfl, (by show 2 ≤ sizeLine; decide), fun T1 hT1 => ⟨_, T1, _, _, _, _, rfl, upd_same, .cons (.ty _) (.cons (.ty _) .nil), .base .non, kaN, false, rfl, iteF ?_⟩⟩
      have k1 : Kp [] H (upd H T1 (.tup [.ty "tuple", .ty "list"])) := Kp.new hT1
      generalize upd H T1 (.tup [.ty "tuple", .ty "list"]) = H1 at k1 ⊢
      refine ⟨_, rfl, rfl, _, rfl, itD1 rfl ?_⟩
      refine ⟨_, rfl, rfl, ?_⟩
      rw [decide_eq_true rfl]
      exact q H1 k1
    | bool u =>
      obtain rfl : x = .bl u := by cases hx; rfl
      obtain rfl : y = .bl u := by cases hy; rfl
      refine ⟨_, rfl, (by show 2 ≤ sizeLine; decide), fun T1 hT1 => ⟨_, T1, _, _, _, _, rfl, upd_same, .cons (.ty _) (.cons (.ty _) .nil), .base (.bl _), kaB, false, rfl, iteF ?_⟩⟩
      have k1 : Kp [] H (upd H T1 (.tup [.ty "tuple", .ty "list"])) := Kp.new hT1
      generalize upd H T1 (.tup [.ty "tuple", .ty "list"]) = H1 at k1 ⊢
      refine ⟨_, rfl, rfl, _, rfl, itD0 (by simp) ?_⟩
      refine ⟨_, rfl, _, _, _, _, _, rfl, .ty _, .base (.bl _), kit_ty (r := false) (by decide +kernel), false, rfl, iteF ?_⟩
      refine ⟨_, rfl, _, _, _, _, _, rfl, .ty _, .base (.bl _), kit_ty (r := true) (by decide +kernel), true, rfl, iteT ?_⟩
      refine ⟨_, rfl, _, _, _, _, _, rfl, .ty _, .base (.bl _), kit_ty (r := true) (by decide +kernel), true, rfl, iteT ?_⟩
      refine ⟨_, rfl, _, _, _, _, _, rfl, .ty _, .base (.bl _), kit_ty (r := true) (by decide +kernel), true, rfl, iteT ?_⟩
      refine ⟨_, rfl, _, rfl, (by simp [scal]), ?_⟩
      rw [decide_eq_true rfl]
      exact q H1 k1
    | dict _ => cases hok
theorem alike_none {f : Addr} {fd : FuncData} : FnOk P W0 K mg base CX0 1 f fd ["_law_found", "_law_due"] (spAlike K 0) := by
  have no : ∀ vs H Q E, ¬ spAlike K 0 vs H Q E := fun vs H Q E h => by
    obtain ⟨_, _, _, _, _, _, _, hn, _⟩ := h
    omega
  exact ⟨fun vs H Q E h => absurd h (no vs H Q E), fun A outer s H args us vs Q E _ _ _ _ h => absurd h (no vs H Q E)⟩
theorem ok_alike {f : Addr} {fd : FuncData} (F : Fun K "_law_alike" "_law_alike" lAlike f fd) (T : Nm K mg) (U : Nl K mg) (N : Fn K mg "_law_alike" f fd ["_law_found", "_law_due"]) :
    ∀ n : Nat, FnOk P W0 K mg base CX0 (1 + n) f fd ["_law_found", "_law_due"] (spAlike K n)
  | 0 => alike_none
  | n + 1 => alike_step F T U N (ok_alike F T U N n)
end LP
end

section
set_option Elab.async false
set_option linter.all false
set_option maxRecDepth 100000
set_option maxHeartbeats 2000000
/-! _law_inside -/
namespace LP
open PySem PySem.Spec PyProof.Rows L2 Ly GY
variable [LamTab] {P : Program} {W0 : World} {K : PySem.W.Frag} {mg : Str → Option Value} {base : Heap}
def blkAt (k : C3) (x y z a b c : Int) (i : Nat) : Bool :=
  if i = 0 then decide (0 ≤ k.1 - x) && decide (k.1 - x < a) else if i = 1 then decide (0 ≤ k.2.1 - y) && decide (k.2.1 - y < b) else decide (0 ≤ k.2.2 - z) && decide (k.2.2 - z < c)
theorem inside_blk (k : C3) (x y z a b c : Int) : inside (.block x y z a b c) k = (List.range 3).all (blkAt k x y z a b c) := by
  show inside (.block x y z a b c) k = [0, 1, 2].all (blkAt k x y z a b c)
  unfold inside blkAt
  rw [Bool.eq_iff_iff]
  simp
theorem all_succ (p : Nat → Bool) (i : Nat) : (List.range (i + 1)).all p = ((List.range i).all p && p i) := by
  rw [List.range_succ, List.all_append]
  simp
theorem kxy : ¬ (Sum.inr ("x" : Str) : Key) = Sum.inr ("y" : Str) := by decide +kernel
theorem kxz : ¬ (Sum.inr ("x" : Str) : Key) = Sum.inr ("z" : Str) := by decide +kernel
theorem kyz : ¬ (Sum.inr ("y" : Str) : Key) = Sum.inr ("z" : Str) := by decide +kernel
theorem kyx : ¬ (Sum.inr ("y" : Str) : Key) = Sum.inr ("x" : Str) := by decide +kernel
theorem kzx : ¬ (Sum.inr ("z" : Str) : Key) = Sum.inr ("x" : Str) := by decide +kernel
theorem kzy : ¬ (Sum.inr ("z" : Str) : Key) = Sum.inr ("y" : Str) := by decide +kernel
theorem backM (a b c : V) : mergeK [] [(Sum.inr "x", a), (Sum.inr "y", b), (Sum.inr "z", c)] = ([(Sum.inr ("x" : Str), a), (Sum.inr ("y" : Str), b), (Sum.inr ("z" : Str), c)] : List (Key × V)) := by
  simp only [mergeK, putK, List.foldl, List.any_nil, List.any_cons, List.nil_append, List.cons_append, List.map_cons, List.map_nil, decide_eq_false kxy, decide_eq_false kxz, decide_eq_false kyz, Bool.false_or, Bool.or_false, Bool.false_eq_true, if_false]
theorem backX (a b c : Addr) : valV (mergeK [] [(Sum.inr "x", V.ref a), (Sum.inr "y", V.ref b), (Sum.inr "z", V.ref c)]) (Sum.inr "x" : Key) = some (V.ref a) := by
  rw [backM, valV_pos rfl]
theorem backY (a b c : Addr) : valV (mergeK [] [(Sum.inr "x", V.ref a), (Sum.inr "y", V.ref b), (Sum.inr "z", V.ref c)]) (Sum.inr "y" : Key) = some (V.ref b) := by
  rw [backM, valV_neg kxy, valV_pos rfl]
theorem backZ (a b c : Addr) : valV (mergeK [] [(Sum.inr "x", V.ref a), (Sum.inr "y", V.ref b), (Sum.inr "z", V.ref c)]) (Sum.inr "z" : Key) = some (V.ref c) := by
  rw [backM, valV_neg kxz, valV_neg kyz, valV_pos rfl]
def spInside (K : PySem.W.Frag) (n : Nat) : Sp := fun vs H Q _ => ∃ (v : V) (p : Addr) (b : Bd) (c : C3), vs = [v, .ref p] ∧ Body K H v b ∧ dp b ≤ n ∧ SqT K H p [.int c.1, .int c.2.1, .int c.2.2] ∧ ∀ H', Kp [] H H' → Q (.bl (inside b c)) H'
theorem scInside : FnScope ["_law_body_here", "_law_cell", "_law_word", "_law_x", "_law_y", "_law_z", "_law_low", "_law_size", "_law_far", "_law_back", "_law_one", "_law_other", "_law_k"] ["_law_body_here", "_law_cell"] (defScope lInside) := ⟨rfl, rfl, rfl, by decide +kernel, rfl, by decide +kernel, by decide +kernel⟩
theorem inside_step {n : Nat} {f : Addr} {fd : FuncData} (F : Fun K "_law_inside" "_law_inside" lInside f fd) (T : Nm K mg) (N : Fn K mg "_law_inside" f fd ["_law_body_here", "_law_cell"]) (G : FnOk P W0 K mg base CX0 n f fd ["_law_body_here", "_law_cell"] (spInside K n)) :
    FnOk P W0 K mg base CX0 (n + 1) f fd ["_law_body_here", "_law_cell"] (spInside K (n + 1)) := by
  refine F.ok scInside (fun vs H Q E h => ?_) (fun cdv A outer s H vs Q E hr h => ?_)
  · obtain ⟨v, p, b, c, rfl, _⟩ := h
    rfl
  · obtain ⟨v, pc, b, c, rfl, hB, hn, hc, q⟩ := h
    have hu := hu_of hr
    refine ⟨_, pss_cons (ps_set (i := 2) scInside.nd rfl (.inl rfl) (pe_ix ix_tup (pv 0) pe_int (fun _ _ => rfl)))
      (pss_cons (ps_asg (pv 1) (pg_tup rfl (pgs_cons (pg_name (i := 3) scInside.nd rfl (.inl rfl)) (pgs_cons (pg_name (i := 4) scInside.nd rfl (.inl rfl)) (pgs_cons (pg_name (i := 5) scInside.nd rfl (.inl rfl)) pgs_nil)))))
      (pss_cons (ps_if (pt_cmpR op_eq (pv 2) pe_str (nomark _)) (pss_cons (ps_asg (pe_slice sl_tup (pv 0) (po_some pe_int) po_none) (pg_tup rfl (pgs_cons (pg_name (i := 6) scInside.nd rfl (.inr rfl)) (pgs_cons (pg_name (i := 7) scInside.nd rfl (.inr rfl)) pgs_nil))))
        (pss_one (ps_ret (pe_cmpR (op_eqD hr.units) (pe_lc (own := [("_law_k", 12)]) (g := gName 12) rfl scInside.nd (pi_range1 (by rfl) T.range (pa_cons pe_int pa_nil)) (blkOk_by (own := [("_law_k", 12)]) (N := ["_law_body_here", "_law_cell", "_law_word", "_law_x", "_law_y", "_law_z", "_law_low", "_law_size", "_law_far", "_law_back", "_law_one", "_law_other", "_law_k"]) (sc := defScope lInside) (by decide +kernel))
            (fun _ _ _ _ _ => pg_name (i := 12) scInside.nd rfl (.inl rfl)) (fun _ _ _ _ _ => pts_one (pt_not (pt_chain op_le op_lt pe_int (pe_op op_sub (pe_ix (r := rIxT K) ix_tup (pv 1) (pv 12) (fun _ _ => rfl)) (pe_ix (r := rIxT K) ix_tup (pv 6) (pv 12) (fun _ _ => rfl))) (pe_ix (r := rIxT K) ix_tup (pv 7) (pv 12) (fun _ _ => rfl))))) (fun _ _ _ _ _ => pv 12)) (pe_lst pa_nil) (nomark _))))) pss_nil)
      (pss_cons (ps_if (pt_cmpR op_eq (pv 2) pe_str (nomark _)) (pss_one (ps_ret (pe_cmpR (op_inDT (u65 hr)) (pv 1) (pe_ix ix_tup (pv 0) pe_int (fun _ _ => rfl)) (by rfl)))) pss_nil)
      (pss_cons (ps_if (pt_cmpR op_eq (pv 2) pe_str (nomark _)) (pss_cons (ps_set (i := 8) scInside.nd rfl (.inl rfl) (pe_ix ix_tup (pv 0) pe_int (fun _ _ => rfl)))
        (pss_one (ps_ret (pe_call G hr (by rfl) N.m N.kp N.b .nil pass0 (pa_cons (pe_ix ix_tup (pv 0) pe_int (fun _ _ => rfl)) (pa_cons (pe_tup (pa_cons (pe_op op_sub (pv 3) (pe_ix ix_tup (pv 8) pe_int (fun _ _ => rfl))) (pa_cons (pe_op op_sub (pv 4) (pe_ix ix_tup (pv 8) pe_int (fun _ _ => rfl))) (pa_cons (pe_op op_sub (pv 5) (pe_ix ix_tup (pv 8) pe_int (fun _ _ => rfl))) pa_nil)))) pa_nil)))))) pss_nil)
      (pss_cons (ps_if (pt_cmpR op_eq (pv 2) pe_str (nomark _)) (pss_cons (ps_set (i := 9) scInside.nd rfl (.inl rfl) (pe_disp (pps_cons pe_str (pe_tup (pa_cons (pv 3) (pa_cons (pv 5) (pa_cons (pe_op op_sub pe_int (pv 4)) pa_nil)))) (pps_cons pe_str (pe_tup (pa_cons (pe_op op_sub pe_int (pv 5)) (pa_cons (pv 4) (pa_cons (pv 3) pa_nil)))) (pps_cons pe_str (pe_tup (pa_cons (pv 4) (pa_cons (pe_op op_sub pe_int (pv 3)) (pa_cons (pv 5) pa_nil)))) pps_nil))) (by rfl) (by rfl) (fun z => by cases z) (by decide)))
        (pss_one (ps_ret (pe_call G hr (by rfl) N.m N.kp N.b .nil pass0 (pa_cons (pe_ix ix_tup (pv 0) pe_int (fun _ _ => rfl)) (pa_cons (pe_dget hu (pv 9) (pe_ix ix_tup (pv 0) pe_int (fun _ _ => rfl)) (fun _ _ => rfl)) pa_nil)))))) pss_nil)
      (pss_cons (ps_set (i := 10) scInside.nd rfl (.inl rfl) (pe_call G hr (by rfl) N.m N.kp N.b .nil pass0 (pa_cons (pe_ix ix_tup (pv 0) pe_int (fun _ _ => rfl)) (pa_cons (pv 1) pa_nil))))
      (pss_cons (ps_set (i := 11) scInside.nd rfl (.inl rfl) (pe_call G hr (by rfl) N.m N.kp N.b .nil pass0 (pa_cons (pe_ix ix_tup (pv 0) pe_int (fun _ _ => rfl)) (pa_cons (pv 1) pa_nil))))
      (pss_cons (ps_if (pt_cmpR op_eq (pv 2) pe_str (nomark _)) (pss_one (ps_ret (pe_or (pv 10) (pe_one (pv 11))))) pss_nil)
      (pss_one (ps_ret (pe_and (pv 10) (pe_one (pe_cmpR op_eq (pv 11) (pe_cmpR op_eq (pv 2) pe_str (nomark _)) (nomark _)))))))))))))), ?_⟩
    cases b with
    | block x y z a b' c' =>
      obtain ⟨p, y1, z1, rfl, hT, h1, h2⟩ := of_body3 hB
      refine ⟨_, rfl, p, _, _, _, rfl, rfl, hT, rfl, ?_⟩
      refine ⟨_, rfl, pc, _, rfl, hc, rfl, _, _, rfl, _, _, rfl, _, _, rfl, rfl, ?_⟩
      refine ⟨_, rfl, rfl, _, rfl, itD1 (by decide +kernel) ?_⟩
      obtain ⟨pl, rfl, hl⟩ := of_dp_c h1
      obtain ⟨ps, rfl, hs⟩ := of_dp_c h2
      refine ⟨_, rfl, 1, rfl, p, _, rfl, hT, (fun z => absurd (show (1 : Nat) = 0 from z.1) (by decide)), fun r hr' => ?_⟩
      have k1 : Kp [] H (upd H r (.tup (cutV [.str "block", .ref pl, .ref ps] (some 1) none))) := Kp.new hr'
      have hps : SqT K (upd H r (.tup (cutV [.str "block", .ref pl, .ref ps] (some 1) none))) r [.ref pl, .ref ps] := SqT.of upd_same
      generalize upd H r (.tup (cutV [.str "block", .ref pl, .ref ps] (some 1) none)) = H1 at k1 hps ⊢
      refine ⟨r, [.ref pl, .ref ps], rfl, hps, rfl, _, _, rfl, _, _, rfl, rfl, ?_⟩
      refine ⟨3, rfl, by decide, by decide, fun D hD => lc_range (lo := 0) (n := 3) (fun i H' => Kp [] H1 H' ∧ ∃ ks : List Int, H' D = some (.lst (ks.map V.int)) ∧ ks.length ≤ i ∧ (decide (ks = []) = (List.range i).all (blkAt c x y z a b' c'))) ⟨Kp.new hD, [], upd_same, Nat.le_refl _, rfl⟩ (fun i H' hi pv => ?_) (fun H' pv => ?_)⟩
      · obtain ⟨k, ks, hDl, hkl, hks⟩ := pv
        have kk := k1.trans k
        have fin : ∀ (lo sz u : Int), blkAt c x y z a b' c' i = (decide (0 ≤ u - lo) && decide (u - lo < sz)) → (blkAt c x y z a b' c' i = true → Kp [] H1 H' ∧ ∃ ks : List Int, H' D = some (.lst (ks.map V.int)) ∧ ks.length ≤ i + 1 ∧ (decide (ks = []) = (List.range (i + 1)).all (blkAt c x y z a b' c'))) ∧
            (blkAt c x y z a b' c' i = false → ∃ acc, H' D = some (.lst acc) ∧ acc.length < sizeLine ∧ Kp [] H1 (upd H' D (.lst (acc ++ [.int (0 + (i : Int))]))) ∧ ∃ ks : List Int, (upd H' D (.lst (acc ++ [.int (0 + (i : Int))]))) D = some (.lst (ks.map V.int)) ∧ ks.length ≤ i + 1 ∧ (decide (ks = []) = (List.range (i + 1)).all (blkAt c x y z a b' c'))) := by
          intro lo sz u e
          refine ⟨fun g => ⟨k, ks, hDl, by omega, ?_⟩, fun g => ⟨_, hDl, ?_, k.chg0 hD hDl, ks ++ [(0 + (i : Int))], ?_, ?_, ?_⟩⟩
          · rw [all_succ, hks, g, Bool.and_true]
          · rw [List.length_map]
            have : (64 : Nat) < sizeLine := by decide
            omega
          · rw [upd_same, List.map_append]
            rfl
          · rw [List.length_append, List.length_singleton]
            omega
          · rw [all_succ, g, Bool.and_false]
            simp
        rcases (show i = 0 ∨ i = 1 ∨ i = 2 by omega) with rfl | rfl | rfl
        · refine ⟨rfl, _, rfl, _, rfl, pc, _, _, _, rfl, rfl, kk.sqT hc, rfl, ?_⟩
          refine ⟨_, rfl, _, rfl, pl, _, _, _, rfl, rfl, kk.sqT hl, rfl, _, _, rfl, rfl, _, _, rfl, rfl, _, rfl, ?_⟩
          have fz := fin x a (c.1) rfl
          have ef : blkAt c x y z a b' c' 0 = (decide (0 ≤ c.1 - x) && decide (c.1 - x < a)) := rfl
          rw [ef] at fz
          show (if decide ((0 : Int) ≤ c.1 - x) = true then _ else _)
          cases e1 : decide (0 ≤ c.1 - x) with
          | false =>
            rw [e1] at fz
            exact iteF ⟨_, rfl, iteT ⟨_, rfl, fz.2 rfl⟩⟩
          | true =>
            rw [e1] at fz
            refine iteT ⟨_, rfl, _, rfl, ps, _, _, _, rfl, rfl, kk.sqT hs, rfl, _, _, rfl, rfl, _, rfl, ?_⟩
            show (if (!decide (c.1 - x < a)) = true then _ else _)
            cases e2 : decide (c.1 - x < a) with
            | false =>
              rw [e2] at fz
              exact iteT ⟨_, rfl, fz.2 rfl⟩
            | true =>
              rw [e2] at fz
              exact iteF (fz.1 rfl)
        · refine ⟨rfl, _, rfl, _, rfl, pc, _, _, _, rfl, rfl, kk.sqT hc, rfl, ?_⟩
          refine ⟨_, rfl, _, rfl, pl, _, _, _, rfl, rfl, kk.sqT hl, rfl, _, _, rfl, rfl, _, _, rfl, rfl, _, rfl, ?_⟩
          have fz := fin y b' (c.2.1) rfl
          have ef : blkAt c x y z a b' c' 1 = (decide (0 ≤ c.2.1 - y) && decide (c.2.1 - y < b')) := rfl
          rw [ef] at fz
          show (if decide ((0 : Int) ≤ c.2.1 - y) = true then _ else _)
          cases e1 : decide (0 ≤ c.2.1 - y) with
          | false =>
            rw [e1] at fz
            exact iteF ⟨_, rfl, iteT ⟨_, rfl, fz.2 rfl⟩⟩
          | true =>
            rw [e1] at fz
            refine iteT ⟨_, rfl, _, rfl, ps, _, _, _, rfl, rfl, kk.sqT hs, rfl, _, _, rfl, rfl, _, rfl, ?_⟩
            show (if (!decide (c.2.1 - y < b')) = true then _ else _)
            cases e2 : decide (c.2.1 - y < b') with
            | false =>
              rw [e2] at fz
              exact iteT ⟨_, rfl, fz.2 rfl⟩
            | true =>
              rw [e2] at fz
              exact iteF (fz.1 rfl)
        · refine ⟨rfl, _, rfl, _, rfl, pc, _, _, _, rfl, rfl, kk.sqT hc, rfl, ?_⟩
          refine ⟨_, rfl, _, rfl, pl, _, _, _, rfl, rfl, kk.sqT hl, rfl, _, _, rfl, rfl, _, _, rfl, rfl, _, rfl, ?_⟩
          have fz := fin z c' (c.2.2) rfl
          have ef : blkAt c x y z a b' c' 2 = (decide (0 ≤ c.2.2 - z) && decide (c.2.2 - z < c')) := rfl
          rw [ef] at fz
          show (if decide ((0 : Int) ≤ c.2.2 - z) = true then _ else _)
          cases e1 : decide (0 ≤ c.2.2 - z) with
          | false =>
            rw [e1] at fz
            exact iteF ⟨_, rfl, iteT ⟨_, rfl, fz.2 rfl⟩⟩
          | true =>
            rw [e1] at fz
            refine iteT ⟨_, rfl, _, rfl, ps, _, _, _, rfl, rfl, kk.sqT hs, rfl, _, _, rfl, rfl, _, rfl, ?_⟩
            show (if (!decide (c.2.2 - z < c')) = true then _ else _)
            cases e2 : decide (c.2.2 - z < c') with
            | false =>
              rw [e2] at fz
              exact iteT ⟨_, rfl, fz.2 rfl⟩
            | true =>
              rw [e2] at fz
              exact iteF (fz.1 rfl)
      · obtain ⟨k, ks, hDl, hkl, hks⟩ := pv
        refine ⟨Nat.zero_le _, fun r2 hr2 => ?_⟩
        have kp : Kp [] H' (upd H' r2 (.lst [])) := Kp.new hr2
        refine ⟨.list (ks.map PyData.int), .list [], .lst (SqL.of (kp.lst hDl List.not_mem_nil)) (dp_ints ks), .lst (SqL.of upd_same) .nil, ints_shaped ks, ints_shaped [], ?_⟩
        have z := q _ ((k1.trans k).trans kp)
        rw [inside_blk, ← hks] at z
        rw [show PyData.eqv (.list (ks.map PyData.int)) (.list []) = decide (ks = []) from by cases ks <;> simp [PyData.eqv, PyData.eqvAll]]
        exact z
    | cells cs =>
      obtain ⟨p, y1, rfl, hT, h1⟩ := of_body2 hB
      refine ⟨_, rfl, p, _, _, _, rfl, rfl, hT, rfl, ?_⟩
      refine ⟨_, rfl, pc, _, rfl, hc, rfl, _, _, rfl, _, _, rfl, _, _, rfl, rfl, ?_⟩
      refine ⟨_, rfl, rfl, _, rfl, itD0 (by decide +kernel) ?_⟩
      refine ⟨_, rfl, rfl, _, rfl, itD1 (by decide +kernel) ?_⟩
      refine ⟨_, rfl, _, rfl, p, _, _, _, rfl, rfl, hT, rfl, cD c, cs.map cD, dp_c hc, h1, cD_shaped c, cDs_shapedT cs, ?_⟩
      rw [any_eqv]
      exact q H (Kp.refl _ _)
    | moved d b1 =>
      obtain ⟨p, y1, z1, rfl, hT, h1, h2⟩ := of_body3 hB
      refine ⟨_, rfl, p, _, _, _, rfl, rfl, hT, rfl, ?_⟩
      refine ⟨_, rfl, pc, _, rfl, hc, rfl, _, _, rfl, _, _, rfl, _, _, rfl, rfl, ?_⟩
      refine ⟨_, rfl, rfl, _, rfl, itD0 (by decide +kernel) ?_⟩
      refine ⟨_, rfl, rfl, _, rfl, itD0 (by decide +kernel) ?_⟩
      refine ⟨_, rfl, rfl, _, rfl, itD1 (by decide +kernel) ?_⟩
      have hdp : dp b1 ≤ n := by
        unfold dp at hn
        omega
      obtain ⟨pd, rfl, hd⟩ := of_dp_c h1
      refine ⟨_, rfl, p, _, _, _, rfl, rfl, hT, rfl, ?_⟩
      refine ⟨_, rfl, p, _, _, _, rfl, rfl, hT, rfl, _, rfl, _, rfl, pd, _, _, _, rfl, rfl, hd, rfl, _, _, rfl, rfl, _, rfl, _, rfl, pd, _, _, _, rfl, rfl, hd, rfl, _, _, rfl, rfl, _, rfl, _, rfl, pd, _, _, _, rfl, rfl, hd, rfl, _, _, rfl, rfl, (by show 3 ≤ sizeLine; decide), fun t ht => ?_⟩
      have kt := Kp.new (S := []) (o := .tup [.int (c.1 - d.1), .int (c.2.1 - d.2.1), .int (c.2.2 - d.2.2)]) ht
      exact ⟨z1, t, b1, sub3 d c, rfl, body_mono kt h2, hdp, SqT.of upd_same, fun H' k => q H' (kt.trans k)⟩
    | turnX b1 =>
      obtain ⟨p, y1, z1, rfl, hT, h1, h2⟩ := of_body3 hB
      refine ⟨_, rfl, p, _, _, _, rfl, rfl, hT, rfl, ?_⟩
      refine ⟨_, rfl, pc, _, rfl, hc, rfl, _, _, rfl, _, _, rfl, _, _, rfl, rfl, ?_⟩
      refine ⟨_, rfl, rfl, _, rfl, itD0 (by decide +kernel) ?_⟩
      refine ⟨_, rfl, rfl, _, rfl, itD0 (by decide +kernel) ?_⟩
      refine ⟨_, rfl, rfl, _, rfl, itD0 (by decide +kernel) ?_⟩
      refine ⟨_, rfl, rfl, _, rfl, itD1 (by decide +kernel) ?_⟩
      obtain rfl := of_dps h1
      have hdp : dp b1 ≤ n := by
        unfold dp at hn
        omega
      intro dd hdd
      have k0 : Kp [] H (upd H dd (.dK [])) := Kp.new hdd
      have hd0 : upd H dd (.dK []) dd = some (.dK []) := upd_same
      show tPairs _ _ (upd H dd (.dK [])) _
      generalize upd H dd (.dK []) = H0 at k0 hd0 ⊢
      refine ⟨_, rfl, _, rfl, _, rfl, _, _, rfl, rfl, (by show 3 ≤ sizeLine; decide), fun t1 ht1 => ?_⟩
      refine ⟨_, rfl, _, _, rfl, rfl, _, rfl, _, rfl, (by show 3 ≤ sizeLine; decide), fun t2 ht2 => ?_⟩
      refine ⟨_, rfl, _, rfl, _, _, rfl, rfl, _, rfl, (by show 3 ≤ sizeLine; decide), fun t3 ht3 => ?_⟩
      have k1 := Kp.new (S := []) (o := .tup [.int c.1, .int c.2.2, .int (3 - c.2.1)]) ht1
      have k2 := Kp.new (S := []) (o := .tup [.int (3 - c.2.2), .int c.2.1, .int c.1]) ht2
      have k3 := Kp.new (S := []) (o := .tup [.int c.2.1, .int (3 - c.1), .int c.2.2]) ht3
      have hd3 := k3.keep dd _ (k2.keep dd _ (k1.keep dd _ hd0 List.not_mem_nil (fun _ z => by cases z)) List.not_mem_nil (fun _ z => by cases z)) List.not_mem_nil (fun _ z => by cases z)
      have kd := Kp.chgD (S := [dd]) (k2 := mergeK [] [(Sum.inr "x", V.ref t1), (Sum.inr "y", V.ref t2), (Sum.inr "z", V.ref t3)]) hd3 (List.mem_singleton.mpr rfl)
      have kk := (((k0.trans k1).trans k2).trans k3).off hdd kd
      refine ⟨hd3, [(Sum.inr "x", V.ref t1), (Sum.inr "y", V.ref t2), (Sum.inr "z", V.ref t3)], rfl, (by show 3 ≤ 15; decide), ?_⟩
      refine ⟨_, rfl, p, _, _, _, rfl, rfl, (kk.sqT hT), rfl, ?_⟩
      refine ⟨_, rfl, _, rfl, p, _, _, _, rfl, rfl, (kk.sqT hT), rfl, dd, V.ref t1, rfl, (by rw [← backX t1 t2 t3]; exact DGet.k (k := Sum.inr "x") upd_same), ?_⟩
      exact ⟨z1, t1, b1, uX c, rfl, body_mono kk h2, hdp, kd.sqT (k3.sqT (k2.sqT (SqT.of upd_same))), fun H' k => q H' (kk.trans k)⟩
    | turnY b1 =>
      obtain ⟨p, y1, z1, rfl, hT, h1, h2⟩ := of_body3 hB
      refine ⟨_, rfl, p, _, _, _, rfl, rfl, hT, rfl, ?_⟩
      refine ⟨_, rfl, pc, _, rfl, hc, rfl, _, _, rfl, _, _, rfl, _, _, rfl, rfl, ?_⟩
      refine ⟨_, rfl, rfl, _, rfl, itD0 (by decide +kernel) ?_⟩
      refine ⟨_, rfl, rfl, _, rfl, itD0 (by decide +kernel) ?_⟩
      refine ⟨_, rfl, rfl, _, rfl, itD0 (by decide +kernel) ?_⟩
      refine ⟨_, rfl, rfl, _, rfl, itD1 (by decide +kernel) ?_⟩
      obtain rfl := of_dps h1
      have hdp : dp b1 ≤ n := by
        unfold dp at hn
        omega
      intro dd hdd
      have k0 : Kp [] H (upd H dd (.dK [])) := Kp.new hdd
      have hd0 : upd H dd (.dK []) dd = some (.dK []) := upd_same
      show tPairs _ _ (upd H dd (.dK [])) _
      generalize upd H dd (.dK []) = H0 at k0 hd0 ⊢
      refine ⟨_, rfl, _, rfl, _, rfl, _, _, rfl, rfl, (by show 3 ≤ sizeLine; decide), fun t1 ht1 => ?_⟩
      refine ⟨_, rfl, _, _, rfl, rfl, _, rfl, _, rfl, (by show 3 ≤ sizeLine; decide), fun t2 ht2 => ?_⟩
      refine ⟨_, rfl, _, rfl, _, _, rfl, rfl, _, rfl, (by show 3 ≤ sizeLine; decide), fun t3 ht3 => ?_⟩
      have k1 := Kp.new (S := []) (o := .tup [.int c.1, .int c.2.2, .int (3 - c.2.1)]) ht1
      have k2 := Kp.new (S := []) (o := .tup [.int (3 - c.2.2), .int c.2.1, .int c.1]) ht2
      have k3 := Kp.new (S := []) (o := .tup [.int c.2.1, .int (3 - c.1), .int c.2.2]) ht3
      have hd3 := k3.keep dd _ (k2.keep dd _ (k1.keep dd _ hd0 List.not_mem_nil (fun _ z => by cases z)) List.not_mem_nil (fun _ z => by cases z)) List.not_mem_nil (fun _ z => by cases z)
      have kd := Kp.chgD (S := [dd]) (k2 := mergeK [] [(Sum.inr "x", V.ref t1), (Sum.inr "y", V.ref t2), (Sum.inr "z", V.ref t3)]) hd3 (List.mem_singleton.mpr rfl)
      have kk := (((k0.trans k1).trans k2).trans k3).off hdd kd
      refine ⟨hd3, [(Sum.inr "x", V.ref t1), (Sum.inr "y", V.ref t2), (Sum.inr "z", V.ref t3)], rfl, (by show 3 ≤ 15; decide), ?_⟩
      refine ⟨_, rfl, p, _, _, _, rfl, rfl, (kk.sqT hT), rfl, ?_⟩
      refine ⟨_, rfl, _, rfl, p, _, _, _, rfl, rfl, (kk.sqT hT), rfl, dd, V.ref t2, rfl, (by rw [← backY t1 t2 t3]; exact DGet.k (k := Sum.inr "y") upd_same), ?_⟩
      exact ⟨z1, t2, b1, uY c, rfl, body_mono kk h2, hdp, kd.sqT (k3.sqT (SqT.of upd_same)), fun H' k => q H' (kk.trans k)⟩
    | turnZ b1 =>
      obtain ⟨p, y1, z1, rfl, hT, h1, h2⟩ := of_body3 hB
      refine ⟨_, rfl, p, _, _, _, rfl, rfl, hT, rfl, ?_⟩
      refine ⟨_, rfl, pc, _, rfl, hc, rfl, _, _, rfl, _, _, rfl, _, _, rfl, rfl, ?_⟩
      refine ⟨_, rfl, rfl, _, rfl, itD0 (by decide +kernel) ?_⟩
      refine ⟨_, rfl, rfl, _, rfl, itD0 (by decide +kernel) ?_⟩
      refine ⟨_, rfl, rfl, _, rfl, itD0 (by decide +kernel) ?_⟩
      refine ⟨_, rfl, rfl, _, rfl, itD1 (by decide +kernel) ?_⟩
      obtain rfl := of_dps h1
      have hdp : dp b1 ≤ n := by
        unfold dp at hn
        omega
      intro dd hdd
      have k0 : Kp [] H (upd H dd (.dK [])) := Kp.new hdd
      have hd0 : upd H dd (.dK []) dd = some (.dK []) := upd_same
      show tPairs _ _ (upd H dd (.dK [])) _
      generalize upd H dd (.dK []) = H0 at k0 hd0 ⊢
      refine ⟨_, rfl, _, rfl, _, rfl, _, _, rfl, rfl, (by show 3 ≤ sizeLine; decide), fun t1 ht1 => ?_⟩
      refine ⟨_, rfl, _, _, rfl, rfl, _, rfl, _, rfl, (by show 3 ≤ sizeLine; decide), fun t2 ht2 => ?_⟩
      refine ⟨_, rfl, _, rfl, _, _, rfl, rfl, _, rfl, (by show 3 ≤ sizeLine; decide), fun t3 ht3 => ?_⟩
      have k1 := Kp.new (S := []) (o := .tup [.int c.1, .int c.2.2, .int (3 - c.2.1)]) ht1
      have k2 := Kp.new (S := []) (o := .tup [.int (3 - c.2.2), .int c.2.1, .int c.1]) ht2
      have k3 := Kp.new (S := []) (o := .tup [.int c.2.1, .int (3 - c.1), .int c.2.2]) ht3
      have hd3 := k3.keep dd _ (k2.keep dd _ (k1.keep dd _ hd0 List.not_mem_nil (fun _ z => by cases z)) List.not_mem_nil (fun _ z => by cases z)) List.not_mem_nil (fun _ z => by cases z)
      have kd := Kp.chgD (S := [dd]) (k2 := mergeK [] [(Sum.inr "x", V.ref t1), (Sum.inr "y", V.ref t2), (Sum.inr "z", V.ref t3)]) hd3 (List.mem_singleton.mpr rfl)
      have kk := (((k0.trans k1).trans k2).trans k3).off hdd kd
      refine ⟨hd3, [(Sum.inr "x", V.ref t1), (Sum.inr "y", V.ref t2), (Sum.inr "z", V.ref t3)], rfl, (by show 3 ≤ 15; decide), ?_⟩
      refine ⟨_, rfl, p, _, _, _, rfl, rfl, (kk.sqT hT), rfl, ?_⟩
      refine ⟨_, rfl, _, rfl, p, _, _, _, rfl, rfl, (kk.sqT hT), rfl, dd, V.ref t3, rfl, (by rw [← backZ t1 t2 t3]; exact DGet.k (k := Sum.inr "z") upd_same), ?_⟩
      exact ⟨z1, t3, b1, uZ c, rfl, body_mono kk h2, hdp, kd.sqT (SqT.of upd_same), fun H' k => q H' (kk.trans k)⟩
    | wth b1 b2 =>
      obtain ⟨p, y1, z1, rfl, hT, h1, h2⟩ := of_body3 hB
      refine ⟨_, rfl, p, _, _, _, rfl, rfl, hT, rfl, ?_⟩
      refine ⟨_, rfl, pc, _, rfl, hc, rfl, _, _, rfl, _, _, rfl, _, _, rfl, rfl, ?_⟩
      refine ⟨_, rfl, rfl, _, rfl, itD0 (by decide +kernel) ?_⟩
      refine ⟨_, rfl, rfl, _, rfl, itD0 (by decide +kernel) ?_⟩
      refine ⟨_, rfl, rfl, _, rfl, itD0 (by decide +kernel) ?_⟩
      refine ⟨_, rfl, rfl, _, rfl, itD0 (by decide +kernel) ?_⟩
      have hdp : dp b1 ≤ n ∧ dp b2 ≤ n := by
        unfold dp at hn
        omega
      refine ⟨_, rfl, p, _, _, _, rfl, rfl, hT, rfl, _, rfl, y1, pc, b1, c, rfl, h1, hdp.1, hc, fun H1 k1 => ?_⟩
      refine ⟨_, rfl, p, _, _, _, rfl, rfl, (k1.sqT hT), rfl, _, rfl, z1, pc, b2, c, rfl, body_mono k1 h2, hdp.2, k1.sqT hc, fun H2 k2 => ?_⟩
      have z := q H2 (k1.trans k2)
      refine ⟨_, rfl, rfl, _, rfl, itD1 (by decide +kernel) ?_⟩
      refine ⟨_, rfl, _, rfl, ?_⟩
      show (if inside b1 c = true then _ else _)
      unfold inside at z
      cases e : inside b1 c with
      | true =>
        rw [e, Bool.true_or] at z
        exact iteT z
      | false =>
        rw [e, Bool.false_or] at z
        exact iteF ⟨_, rfl, z⟩
    | common b1 b2 =>
      obtain ⟨p, y1, z1, rfl, hT, h1, h2⟩ := of_body3 hB
      refine ⟨_, rfl, p, _, _, _, rfl, rfl, hT, rfl, ?_⟩
      refine ⟨_, rfl, pc, _, rfl, hc, rfl, _, _, rfl, _, _, rfl, _, _, rfl, rfl, ?_⟩
      refine ⟨_, rfl, rfl, _, rfl, itD0 (by decide +kernel) ?_⟩
      refine ⟨_, rfl, rfl, _, rfl, itD0 (by decide +kernel) ?_⟩
      refine ⟨_, rfl, rfl, _, rfl, itD0 (by decide +kernel) ?_⟩
      refine ⟨_, rfl, rfl, _, rfl, itD0 (by decide +kernel) ?_⟩
      have hdp : dp b1 ≤ n ∧ dp b2 ≤ n := by
        unfold dp at hn
        omega
      refine ⟨_, rfl, p, _, _, _, rfl, rfl, hT, rfl, _, rfl, y1, pc, b1, c, rfl, h1, hdp.1, hc, fun H1 k1 => ?_⟩
      refine ⟨_, rfl, p, _, _, _, rfl, rfl, (k1.sqT hT), rfl, _, rfl, z1, pc, b2, c, rfl, body_mono k1 h2, hdp.2, k1.sqT hc, fun H2 k2 => ?_⟩
      have z := q H2 (k1.trans k2)
      refine ⟨_, rfl, rfl, _, rfl, itD0 (by decide +kernel) ?_⟩
      refine ⟨_, rfl, _, rfl, ?_⟩
      show (if inside b1 c = true then _ else _)
      unfold inside at z
      cases e : inside b1 c with
      | false =>
        rw [e, Bool.false_and] at z
        exact iteF z
      | true =>
        rw [e, Bool.true_and] at z
        refine iteT ⟨_, rfl, _, rfl, rfl, rfl, ?_⟩
        rw [show decide (V.str "common" = V.str "common") = true by decide +kernel, show decide (V.bl (inside b2 c) = V.bl true) = inside b2 c by cases inside b2 c <;> rfl]
        exact z
    | less b1 b2 =>
      obtain ⟨p, y1, z1, rfl, hT, h1, h2⟩ := of_body3 hB
      refine ⟨_, rfl, p, _, _, _, rfl, rfl, hT, rfl, ?_⟩
      refine ⟨_, rfl, pc, _, rfl, hc, rfl, _, _, rfl, _, _, rfl, _, _, rfl, rfl, ?_⟩
      refine ⟨_, rfl, rfl, _, rfl, itD0 (by decide +kernel) ?_⟩
      refine ⟨_, rfl, rfl, _, rfl, itD0 (by decide +kernel) ?_⟩
      refine ⟨_, rfl, rfl, _, rfl, itD0 (by decide +kernel) ?_⟩
      refine ⟨_, rfl, rfl, _, rfl, itD0 (by decide +kernel) ?_⟩
      have hdp : dp b1 ≤ n ∧ dp b2 ≤ n := by
        unfold dp at hn
        omega
      refine ⟨_, rfl, p, _, _, _, rfl, rfl, hT, rfl, _, rfl, y1, pc, b1, c, rfl, h1, hdp.1, hc, fun H1 k1 => ?_⟩
      refine ⟨_, rfl, p, _, _, _, rfl, rfl, (k1.sqT hT), rfl, _, rfl, z1, pc, b2, c, rfl, body_mono k1 h2, hdp.2, k1.sqT hc, fun H2 k2 => ?_⟩
      have z := q H2 (k1.trans k2)
      refine ⟨_, rfl, rfl, _, rfl, itD0 (by decide +kernel) ?_⟩
      refine ⟨_, rfl, _, rfl, ?_⟩
      show (if inside b1 c = true then _ else _)
      unfold inside at z
      cases e : inside b1 c with
      | false =>
        rw [e, Bool.false_and] at z
        exact iteF z
      | true =>
        rw [e, Bool.true_and] at z
        refine iteT ⟨_, rfl, _, rfl, rfl, rfl, ?_⟩
        rw [show decide (V.str "less" = V.str "common") = false by decide +kernel, show decide (V.bl (inside b2 c) = V.bl false) = !inside b2 c by cases inside b2 c <;> rfl]
        exact z

theorem inside_none {f : Addr} {fd : FuncData} : FnOk P W0 K mg base CX0 0 f fd ["_law_body_here", "_law_cell"] (spInside K 0) := by
  have no : ∀ vs H Q E, ¬ spInside K 0 vs H Q E := fun vs H Q E h => by
    obtain ⟨_, _, b, _, _, _, hn, _⟩ := h
    have := dp_pos b
    omega
  exact ⟨fun vs H Q E h => absurd h (no vs H Q E), fun A outer s H args us vs Q E _ _ _ _ h => absurd h (no vs H Q E)⟩
theorem ok_inside {f : Addr} {fd : FuncData} (F : Fun K "_law_inside" "_law_inside" lInside f fd) (T : Nm K mg) (N : Fn K mg "_law_inside" f fd ["_law_body_here", "_law_cell"]) :
    ∀ n : Nat, FnOk P W0 K mg base CX0 n f fd ["_law_body_here", "_law_cell"] (spInside K n)
  | 0 => inside_none
  | n + 1 => inside_step F T N (ok_inside F T N n)
end LP
end

section
set_option Elab.async false
set_option linter.all false
set_option maxRecDepth 100000
set_option maxHeartbeats 2000000
/-! _law_all -/
namespace LP
open PySem PySem.Spec PyProof.Rows L2 Ly GY
variable [LamTab] {P : Program} {W0 : World} {K : PySem.W.Frag} {mg : Str → Option Value} {base : Heap}
def spAll (K : PySem.W.Frag) : Sp := fun vs H Q _ => ∃ (v : V) (b : Bd), vs = [v] ∧ Body K H v b ∧ dp b ≤ 20 ∧ ∀ (H' : Hp) (r : Addr) (zs : List V), Kp [] H H' → H r = none → H' r = some (.lst zs) → Items K H' zs (all b) → Q (.ref r) H'
theorem scAll : FnScope ["_law_body_here", "_law_room", "_law_k", "_law_cell"] ["_law_body_here"] (defScope lAll) := ⟨rfl, rfl, rfl, by decide +kernel, rfl, by decide +kernel, by decide +kernel⟩
theorem room_len : room.length = 64 := by unfold room; rw [List.length_map, List.length_range]
theorem ok_all {f fI : Addr} {fd dI : FuncData} (F : Fun K "_law_all" "_law_all" lAll f fd) (T : Nm K mg) (NI : Fn K mg "_law_inside" fI dI ["_law_body_here", "_law_cell"]) (GI : FnOk P W0 K mg base CX0 20 fI dI ["_law_body_here", "_law_cell"] (spInside K 20)) :
    FnOk P W0 K mg base CX0 21 f fd ["_law_body_here"] (spAll K) := by
  refine F.ok scAll (fun vs H Q E h => ?_) (fun cdv A outer s H vs Q E hr h => ?_)
  · obtain ⟨v, b, rfl, _⟩ := h
    rfl
  · obtain ⟨v, b, rfl, hB, hn, q⟩ := h
    refine ⟨_, pss_cons (ps_setLc (i := 1) (own := [("_law_k", 2)]) (g := gName 2) rfl scAll.nd rfl rfl (sw_true rfl rfl rfl (by decide +kernel)) (pi_range1 (by rfl) T.range (pa_cons pe_int pa_nil)) (blkOk_by (own := [("_law_k", 2)]) (N := ["_law_body_here", "_law_room", "_law_k", "_law_cell"]) (sc := defScope lAll) (by decide +kernel))
        (fun _ _ _ _ _ => pg_name (i := 2) scAll.nd rfl (.inl rfl)) (fun _ _ _ _ _ => pts_nil) (fun _ _ _ _ _ => pe_tup (pa_cons (pe_op op_fdiv (pv 2) pe_int) (pa_cons (pe_op op_mod (pe_op op_fdiv (pv 2) pe_int) pe_int) (pa_cons (pe_op op_mod (pv 2) pe_int) pa_nil)))))
      (pss_one (ps_ret (pe_lc (own := [("_law_cell", 3)]) (g := gName 3) rfl scAll.nd (pi_list (pv 1)) (blkOk_by (own := [("_law_cell", 3)]) (N := ["_law_body_here", "_law_room", "_law_k", "_law_cell"]) (sc := defScope lAll) (by decide +kernel))
        (fun _ _ _ _ _ => pg_name (i := 3) scAll.nd rfl (.inl rfl)) (fun _ _ _ _ _ => pts_one (pt_val (pe_call GI hr (by rfl) NI.m NI.kp NI.b .nil pass0 (pa_cons (pv 0) (pa_cons (pv 3) pa_nil))))) (fun _ _ _ _ _ => pv 3)))), ?_⟩
    refine ⟨64, rfl, by decide, by decide, fun R hR => lc_range (lo := 0) (n := 64) (fun i H' => Kp [] H H' ∧ ∃ acc, H' R = some (.lst acc) ∧ Items K H' acc ((List.range i).map roomAt)) ⟨Kp.new hR, [], upd_same, .nil⟩ (fun i H' hi pv => ?_) (fun H' pv => ?_)⟩
    · obtain ⟨k, acc, hA, hI⟩ := pv
      have d16 : (0 : Int) < 16 ∧ (16 : Int) < 1073741824 := ⟨by decide, by decide⟩
      have d4 : (0 : Int) < 4 ∧ (4 : Int) < 1073741824 := ⟨by decide, by decide⟩
      refine ⟨rfl, yesI ?_⟩
      refine ⟨_, rfl, _, _, rfl, rfl, d16, _, rfl, _, _, rfl, rfl, d4, _, _, rfl, rfl, (by show (0 : Int) < 4; decide), _, rfl, _, _, rfl, rfl, (by show (0 : Int) < 4; decide), (by show 3 ≤ sizeLine; decide), fun t ht => ?_⟩
      have kt := Kp.new (S := []) (o := .tup [.int ((0 + (i : Int)) / 16), .int ((0 + (i : Int)) / 4 % 4), .int ((0 + (i : Int)) % 4)]) ht
      have hA2 := kt.lst hA List.not_mem_nil
      have hl := hI.length
      rw [List.length_map, List.length_range] at hl
      have hq : SqT K (upd H' t (.tup [.int ((0 + (i : Int)) / 16), .int ((0 + (i : Int)) / 4 % 4), .int ((0 + (i : Int)) % 4)])) t [.int (roomAt i).1, .int (roomAt i).2.1, .int (roomAt i).2.2] := by
        refine SqT.of ?_
        rw [upd_same, Int.zero_add]
        rfl
      have hit := items_mono kt hI
      have kc := Kp.chg (S := [R]) (ys := acc ++ [V.ref t]) hA2 (List.mem_singleton.mpr rfl)
      refine ⟨acc, hA2, ?_, (k.trans kt).chg0 hR hA2, _, upd_same, ?_⟩
      · have : (64 : Nat) < sizeLine := by decide
        omega
      · rw [List.range_succ, List.map_append]
        exact Items.append (items_mono kc hit) (Items.one (dp_c (kc.sqT hq)))
    · obtain ⟨k, acc, hA, hI⟩ := pv
      refine ⟨_, rfl, R, rfl, ⟨_, SqL.of hA⟩, fun D hD => lc_filter (K := K) (inside b) k hD (SqL.of hA) hI (by show room.length ≤ 64; rw [room_len]; decide) (fun c z H' Nx Z hc kk hz n1 n2 => ?_) (fun H' zs kk hy hi => q H' D zs kk (k.free D hD) hy hi)⟩
      refine ⟨rfl, _, rfl, _, rfl, v, z, b, c, rfl, body_mono kk hB, hn, hz, fun H'' k'' => ⟨_, rfl, ?_⟩⟩
      cases e : inside b c with
      | true => exact iteT ⟨_, rfl, n1 H'' k'' e⟩
      | false => exact iteF (n2 H'' k'' e)
end LP
end

section
set_option Elab.async false
set_option linter.all false
set_option maxRecDepth 100000
set_option maxHeartbeats 4000000
/-! _law_body -/
namespace LP
open PySem PySem.Spec PyProof.Rows L2 Ly GY
variable [LamTab] {P : Program} {W0 : World} {K : PySem.W.Frag} {mg : Str → Option Value} {base : Heap}
theorem Sta.apart {H : Hp} {h l r : Addr} (s : Sta H h l) (n : H r = none) : r ∉ [h, l] := by
  obtain ⟨m, t, ns, h1, h2, _⟩ := s
  intro z
  rcases List.mem_cons.mp z with z | z
  · rw [z, h1] at n; cases n
  · rw [List.mem_singleton.mp z, h2] at n; cases n
theorem Sta.ne {H : Hp} {h l r : Addr} (s : Sta H h l) (n : H r = none) : r ≠ h ∧ r ≠ l := by
  have := s.apart n
  simpa using this
/-- a new thing leaves the state -/
theorem Sta.new {H : Hp} {h l r : Addr} {o : HO} (s : Sta H h l) (n : H r = none) : Sta (upd H r o) h l := s.mono0 (Kp.new n)
/-- a change of what is not the state -/
theorem Sta.chg {H : Hp} {h l r : Addr} {xs ys : List V} (s : Sta H h l) (e : H r = some (.lst xs)) (n : r ∉ [h, l]) : Sta (upd H r (.lst ys)) h l := by
  simp at n
  exact s.mono (Kp.chg (S := [r]) e (List.mem_singleton.mpr rfl)) (by simp; exact Ne.symm n.1) (by simp; exact Ne.symm n.2)
def LowP (ns : List Int) (d m : Int) : Prop := (ns = [] ∧ m = d) ∨ (m ∈ ns ∧ ∀ j ∈ ns, m ≤ j)
def HighP (ns : List Int) (d m : Int) : Prop := (ns = [] ∧ m = d) ∨ (m ∈ ns ∧ ∀ j ∈ ns, j ≤ m)
theorem minR {H : Hp} {a : Addr} {ns : List Int} {d : Int} {Q : VK} (hL : SqL K H a (ns.map V.int)) (q : ∀ m, LowP ns d m → Q (.int m) H) : GW.rMinD K [.ref a] [.int d] H Q := ⟨a, ns, d, rfl, rfl, hL, fun e => q d (.inl ⟨e, rfl⟩), fun m h1 h2 => q m (.inr ⟨h1, h2⟩)⟩
theorem maxR {H : Hp} {a : Addr} {ns : List Int} {d : Int} {Q : VK} (hL : SqL K H a (ns.map V.int)) (q : ∀ m, HighP ns d m → Q (.int m) H) : GW.rMaxD K [.ref a] [.int d] H Q := ⟨a, ns, d, rfl, rfl, hL, fun e => q d (.inl ⟨e, rfl⟩), fun m h1 h2 => q m (.inr ⟨h1, h2⟩)⟩
def comp (j : Nat) (c : C3) : Int := if j = 0 then c.1 else if j = 1 then c.2.1 else c.2.2
theorem comp_at {i : Nat} (hi : i < 3) (c : C3) : atI [V.int c.1, V.int c.2.1, V.int c.2.2] (0 + (i : Int)) = some (.int (comp i c)) := by
  rcases (show i = 0 ∨ i = 1 ∨ i = 2 by omega) with rfl | rfl | rfl <;> rfl
theorem comp_in {c : C3} (h : InR c) (i : Nat) : 0 ≤ comp i c ∧ comp i c ≤ 3 := by
  unfold comp
  split
  · exact h.1
  · split
    · exact h.2.1
    · exact h.2.2
def FarOk (b : Bd) (j : Nat) (f : Int) : Prop := -3 ≤ f ∧ f ≤ 3 ∧ ∀ c ∈ all b, 0 ≤ comp j c + f ∧ comp j c + f ≤ 3
theorem lowhigh {b : Bd} {i : Nat} {low high : Int} (h1 : LowP ((all b).map (comp i)) 0 low) (h2 : HighP ((all b).map (comp i)) 3 high) : 0 ≤ low ∧ low ≤ 3 ∧ 0 ≤ high ∧ high ≤ 3 ∧ ∀ c ∈ all b, low ≤ comp i c ∧ comp i c ≤ high := by
  have hin : ∀ x ∈ (all b).map (comp i), 0 ≤ x ∧ x ≤ 3 := by
    intro x hx
    obtain ⟨c, hc, rfl⟩ := List.mem_map.mp hx
    exact comp_in (in_all hc) i
  rcases h1 with ⟨e, rfl⟩ | ⟨m1, q1⟩
  · rcases h2 with ⟨_, rfl⟩ | ⟨m2, q2⟩
    · refine ⟨by decide, by decide, by decide, by decide, fun c hc => ?_⟩
      have : comp i c ∈ (all b).map (comp i) := List.mem_map.mpr ⟨c, hc, rfl⟩
      rw [e] at this
      cases this
    · rw [e] at m2
      cases m2
  · rcases h2 with ⟨e, rfl⟩ | ⟨m2, q2⟩
    · rw [e] at m1
      cases m1
    · refine ⟨(hin _ m1).1, (hin _ m1).2, (hin _ m2).1, (hin _ m2).2, fun c hc => ?_⟩
      have hm : comp i c ∈ (all b).map (comp i) := List.mem_map.mpr ⟨c, hc, rfl⟩
      exact ⟨q1 _ hm, q2 _ hm⟩
def spLBody (K : PySem.W.Frag) (n : Nat) : Sp := fun vs H Q _ => ∃ (h l : Addr) (d : Nat), vs = [.ref h, .int (d : Int)] ∧ d < n ∧ n ≤ 10 ∧ Sta H h l ∧
  ∀ (H' : Hp) (v : V) (b : Bd), Kp [h, l] H H' → Sta H' h l → Body K H' v b → Good b → dp b ≤ d + 1 → Q v H'
theorem scLBody : FnScope ["_law_h", "_law_deep", "_law_way", "_law_cell", "_law_k", "_law_some", "_law_word", "_law_one", "_law_far", "_law_low", "_law_high", "_law_number"] ["_law_h", "_law_deep"] (defScope lBody) := ⟨rfl, rfl, rfl, by decide +kernel, rfl, by decide +kernel, by decide +kernel⟩
theorem lbody_step {n : Nat} {f fX fA : Addr} {fd dX dA : FuncData} (F : Fun K "_law_body" "_law_body" lBody f fd) (T : Nm K mg) (U : Nl K mg) (NB : Fn K mg "_law_body" f fd ["_law_h", "_law_deep"]) (GB : FnOk P W0 K mg base CX0 (21 + n) f fd ["_law_h", "_law_deep"] (spLBody K n))
    (NX : Fn K mg "_law_next" fX dX ["_law_h", "_law_many"]) (GX : FnOk P W0 K mg base CX0 1 fX dX ["_law_h", "_law_many"] spNext) (NA : Fn K mg "_law_all" fA dA ["_law_body_here"]) (GA : FnOk P W0 K mg base CX0 21 fA dA ["_law_body_here"] (spAll K)) :
    FnOk P W0 K mg base CX0 (21 + n + 1) f fd ["_law_h", "_law_deep"] (spLBody K (n + 1)) := by
  refine F.ok scLBody (fun vs H Q E h => ?_) (fun cdv A outer s H vs Q E hr h => ?_)
  · obtain ⟨h, l, d, rfl, _⟩ := h
    rfl
  · obtain ⟨h, l, d, rfl, hd, hn10, hS, q⟩ := h
    have hr1 : Room 1 _ := hr.mono (by omega)
    have hr21 : Room 21 _ := hr.mono (by omega)
    refine ⟨_, pss_cons (ps_set (i := 2) scLBody.nd rfl (.inl rfl) (pe_call GX hr1 (by rfl) NX.m NX.kp NX.b .nil pass0 (pa_cons (pv 0) (pa_cons pe_int pa_nil))))
      (pss_cons (ps_if (PW.pt (pw_or (pt_cmpR op_eq (pv 1) pe_int (nomark _)) (pw_or1 (pt_cmpR op_lt (pv 2) pe_int (nomark _)))))
        (pss_cons (ps_set (i := 3) scLBody.nd rfl (.inl rfl) (pe_tup (pa_cons (pe_call GX hr1 (by rfl) NX.m NX.kp NX.b .nil pass0 (pa_cons (pv 0) (pa_cons pe_int pa_nil))) (pa_cons (pe_call GX hr1 (by rfl) NX.m NX.kp NX.b .nil pass0 (pa_cons (pv 0) (pa_cons pe_int pa_nil))) (pa_cons (pe_ix ix_list (pe_lst (pa_cons pe_int (pa_cons (pe_call GX hr1 (by rfl) NX.m NX.kp NX.b .nil pass0 (pa_cons (pv 0) (pa_cons pe_int pa_nil))) pa_nil))) (pe_call GX hr1 (by rfl) NX.m NX.kp NX.b .nil pass0 (pa_cons (pv 0) (pa_cons pe_int pa_nil))) (fun _ _ => rfl)) pa_nil)))))
        (pss_one (ps_ret (pe_tup (pa_cons pe_str (pa_cons (pv 3) (pa_cons (pe_callTy call_tuple_of (by rfl) T.tuple (by decide +kernel) (pa_cons
          (pe_lc (own := [("_law_number", 11)]) (g := gName 11) rfl scLBody.nd (pi_tup (pv 3)) (blkOk_by (own := [("_law_number", 11)]) (N := ["_law_h", "_law_deep", "_law_way", "_law_cell", "_law_k", "_law_some", "_law_word", "_law_one", "_law_far", "_law_low", "_law_high", "_law_number"]) (sc := defScope lBody) (by decide +kernel))
            (fun _ _ _ _ _ => pg_name (i := 11) scLBody.nd rfl (.inl rfl)) (fun _ _ _ _ _ => pts_nil) (fun _ _ _ _ _ => pe_op op_add pe_int (pe_call GX hr1 (by rfl) NX.m NX.kp NX.b .nil pass0 (pa_cons (pv 0) (pa_cons (pe_op op_sub pe_int (pv 11)) pa_nil))))) pa_nil)) pa_nil))))))) pss_nil)
      (pss_cons (ps_if (pt_cmpR op_eq (pv 2) pe_int (nomark _))
        (pss_cons (ps_setLc (i := 5) (own := [("_law_k", 4)]) (g := gName 4) rfl scLBody.nd rfl rfl (sw_true rfl rfl rfl (by decide +kernel)) (pi_range1 (by rfl) T.range (pa_cons (pe_call GX hr1 (by rfl) NX.m NX.kp NX.b .nil pass0 (pa_cons (pv 0) (pa_cons pe_int pa_nil))) pa_nil)) (blkOk_by (own := [("_law_k", 4)]) (N := ["_law_h", "_law_deep", "_law_way", "_law_cell", "_law_k", "_law_some", "_law_word", "_law_one", "_law_far", "_law_low", "_law_high", "_law_number"]) (sc := defScope lBody) (by decide +kernel))
            (fun _ _ _ _ _ => pg_name (i := 4) scLBody.nd rfl (.inl rfl)) (fun _ _ _ _ _ => pts_nil) (fun _ _ _ _ _ => pe_tup (pa_cons (pe_call GX hr1 (by rfl) NX.m NX.kp NX.b .nil pass0 (pa_cons (pv 0) (pa_cons pe_int pa_nil))) (pa_cons (pe_call GX hr1 (by rfl) NX.m NX.kp NX.b .nil pass0 (pa_cons (pv 0) (pa_cons pe_int pa_nil))) (pa_cons (pe_call GX hr1 (by rfl) NX.m NX.kp NX.b .nil pass0 (pa_cons (pv 0) (pa_cons pe_int pa_nil))) pa_nil)))))
        (pss_one (ps_ret (pe_tup (pa_cons pe_str (pa_cons (pe_callTy call_tuple_of (by rfl) T.tuple (by decide +kernel) (pa_cons (pe_callB (GZ.cr_sortedQ rfl hr.units) (by rfl) T.sorted (by decide +kernel) (pa_cons (pe_callTy (GZ.cr_setC rfl hr.units) (by rfl) T.set (by decide +kernel) (pa_cons (pv 5) pa_nil)) pa_nil)) pa_nil)) pa_nil)))))) pss_nil)
      (pss_cons (ps_if (pt_cmpR op_lt (pv 2) pe_int (nomark _))
        (pss_cons (ps_set (i := 6) scLBody.nd rfl (.inl rfl) (pe_ix ix_list (pe_lst (pa_cons pe_str (pa_cons pe_str (pa_cons pe_str (pa_cons pe_str pa_nil))))) (pe_op op_sub (pv 2) pe_int) (fun _ _ => rfl)))
        (pss_one (ps_ret (pe_tup (pa_cons (pv 6) (pa_cons (pe_call GB hr (by rfl) NB.m NB.kp NB.b .nil pass0 (pa_cons (pv 0) (pa_cons (pe_op op_sub (pv 1) pe_int) pa_nil))) (pa_cons (pe_call GB hr (by rfl) NB.m NB.kp NB.b .nil pass0 (pa_cons (pv 0) (pa_cons (pe_op op_sub (pv 1) pe_int) pa_nil))) pa_nil))))))) pss_nil)
      (pss_cons (ps_set (i := 7) scLBody.nd rfl (.inl rfl) (pe_call GB hr (by rfl) NB.m NB.kp NB.b .nil pass0 (pa_cons (pv 0) (pa_cons (pe_op op_sub (pv 1) pe_int) pa_nil))))
      (pss_cons (ps_if (pt_cmpR op_eq (pv 2) pe_int (nomark _)) (pss_one (ps_ret (pe_tup (pa_cons pe_str (pa_cons (pe_ix ix_str pe_str (pe_call GX hr1 (by rfl) NX.m NX.kp NX.b .nil pass0 (pa_cons (pv 0) (pa_cons pe_int pa_nil))) (fun _ _ => rfl)) (pa_cons (pv 7) pa_nil)))))) pss_nil)
      (pss_cons (ps_set (i := 5) scLBody.nd rfl (.inl rfl) (pe_call GA hr21 (by rfl) NA.m NA.kp NA.b .nil pass0 (pa_cons (pv 7) pa_nil)))
      (pss_cons (ps_set (i := 8) scLBody.nd rfl (.inl rfl) (pe_lst pa_nil))
      (pss_cons (ps_for PassesOwn.never rfl (pi_range1 (by rfl) T.range (pa_cons pe_int pa_nil)) (pg_name (i := 4) scLBody.nd rfl (.inr rfl))
        (pss_cons (ps_set (i := 9) scLBody.nd rfl (.inl rfl) (pe_callBK (GW.cr_minD rfl hr.units) (by rfl) U.min (by decide +kernel) (pa_cons (pe_lc (own := [("_law_cell", 3)]) (g := gName 3) rfl scLBody.nd (pi_list (pv 5)) (blkOk_by (own := [("_law_cell", 3)]) (N := ["_law_h", "_law_deep", "_law_way", "_law_cell", "_law_k", "_law_some", "_law_word", "_law_one", "_law_far", "_law_low", "_law_high", "_law_number"]) (sc := defScope lBody) (by decide +kernel)) (fun _ _ _ _ _ => pg_name (i := 3) scLBody.nd rfl (.inl rfl)) (fun _ _ _ _ _ => pts_nil) (fun _ _ _ _ _ => pe_ix (r := rIxT K) ix_tup (pv 3) (pv 4) (fun _ _ => rfl))) pa_nil) (pk_cons pe_int pk_nil)))
        (pss_cons (ps_set (i := 10) scLBody.nd rfl (.inl rfl) (pe_callBK (GW.cr_maxD rfl hr.units) (by rfl) U.max (by decide +kernel) (pa_cons (pe_lc (own := [("_law_cell", 3)]) (g := gName 3) rfl scLBody.nd (pi_list (pv 5)) (blkOk_by (own := [("_law_cell", 3)]) (N := ["_law_h", "_law_deep", "_law_way", "_law_cell", "_law_k", "_law_some", "_law_word", "_law_one", "_law_far", "_law_low", "_law_high", "_law_number"]) (sc := defScope lBody) (by decide +kernel)) (fun _ _ _ _ _ => pg_name (i := 3) scLBody.nd rfl (.inl rfl)) (fun _ _ _ _ _ => pts_nil) (fun _ _ _ _ _ => pe_ix (r := rIxT K) ix_tup (pv 3) (pv 4) (fun _ _ => rfl))) pa_nil) (pk_cons pe_int pk_nil)))
        (pss_one (ps_expr (pe_bm PySem.F.plainAttrs_list PySem.F.slot_list_append PySem.F.type_list_append mt_append (pv 8) (pa_cons (pe_op op_sub (pe_call GX hr1 (by rfl) NX.m NX.kp NX.b .nil pass0 (pa_cons (pv 0) (pa_cons (pe_op op_add (pe_op op_sub pe_int (pv 10)) (pv 9)) pa_nil))) (pv 9)) pa_nil)))))))
      (pss_one (ps_ret (pe_tup (pa_cons pe_str (pa_cons (pe_callTy call_tuple_of (by rfl) T.tuple (by decide +kernel) (pa_cons (pv 8) pa_nil)) (pa_cons (pv 7) pa_nil)))))))))))))), ?_⟩
    refine ⟨_, rfl, h, l, 10, rfl, by decide, by decide, hS, fun H1 way k1 s1 w0 w1 => ?_⟩
    refine ⟨_, rfl, rfl, _, rfl, ?_⟩
    by_cases hd0 : d = 0
    · subst hd0
      refine itD1 (by rfl) (iteT ?_)
      refine ⟨_, rfl, h, l, 4, rfl, by decide, by decide, s1, fun H2 ra k2 s2 a0 a1 => ?_⟩
      refine ⟨_, rfl, h, l, 4, rfl, by decide, by decide, s2, fun H3 rb k3 s3 b0 b1 => ?_⟩
      refine ⟨_, rfl, h, l, 4, rfl, by decide, by decide, s3, fun H4 rc k4 s4 c0 c1 => ⟨(by show 2 ≤ sizeLine; decide), fun lq hlq => ?_⟩⟩
      have hlqA := s4.apart hlq
      have s5 := s4.new (o := .lst [.int 0, .int rc]) hlq
      have k5 : Kp [h, l] H4 (upd H4 lq (.lst [.int 0, .int rc])) := Kp.new hlq
      have e5 : upd H4 lq (.lst [.int 0, .int rc]) lq = some (.lst [.int 0, .int rc]) := upd_same
      generalize upd H4 lq (.lst [.int 0, .int rc]) = H5 at s5 k5 e5 ⊢
      refine ⟨_, rfl, h, l, 2, rfl, by decide, by decide, s5, fun H6 rd k6 s6 d0 d1 => ?_⟩
      have e6 := k6.lst e5 hlqA
      obtain ⟨z, hz, z0, z1⟩ : ∃ z, atI [V.int 0, V.int rc] rd = some (.int z) ∧ 0 ≤ z ∧ z < 4 := by
        rcases (show rd = 0 ∨ rd = 1 by omega) with rfl | rfl
        · exact ⟨0, rfl, by decide, by decide⟩
        · exact ⟨rc, rfl, c0, c1⟩
      refine ⟨lq, _, rd, _, rfl, rfl, SqL.of e6, hz, (by show 3 ≤ sizeLine; decide), fun tc htc => ?_⟩
      have s7 := s6.new (o := .tup [.int ra, .int rb, .int z]) htc
      have k7 : Kp [h, l] H (upd H6 tc (.tup [.int ra, .int rb, .int z])) := ((((k1.trans k2).trans k3).trans k4).trans (k5.trans k6)).trans (Kp.new htc)
      have hc7 : SqT K (upd H6 tc (.tup [.int ra, .int rb, .int z])) tc ([ra, rb, z].map V.int) := SqT.of upd_same
      generalize upd H6 tc (.tup [.int ra, .int rb, .int z]) = H7 at s7 k7 hc7 ⊢
      refine ⟨_, rfl, _, rfl, tc, rfl, ⟨_, hc7⟩, fun D hD => lc_tup (K := K) (xs := [ra, rb, z].map V.int) (fun i H' => Kp [h, l] H7 H' ∧ Sta H' h l ∧ ∃ ns : List Int, H' D = some (.lst (ns.map V.int)) ∧ ns.length = i ∧ ∀ (j : Nat) (n u : Int), ns[j]? = some n → [ra, rb, z][j]? = some u → 1 ≤ n ∧ u + n ≤ 4)
        ⟨Kp.new hD, s7.new hD, [], upd_same, rfl, by simp⟩ (fun i H' _ pv => pv.1.sqT hc7) (fun i x H' hx pv => ?_) (fun H' pv => ?_)⟩
      · obtain ⟨k, sx, ns, hDl, hlen, hns⟩ := pv
        have hDA := s7.apart hD
        obtain ⟨u, hu, rfl⟩ := int_at hx
        have hub : 0 ≤ u ∧ u < 4 := by
          have := List.mem_of_getElem? hu
          simp at this
          rcases this with rfl | rfl | rfl
          · exact ⟨a0, a1⟩
          · exact ⟨b0, b1⟩
          · exact ⟨z0, z1⟩
        have hi3 : i < 3 := (List.getElem?_eq_some_iff.mp hu).1
        refine ⟨rfl, yesI ?_⟩
        refine ⟨_, rfl, _, rfl, _, _, rfl, rfl, h, l, 4 - u, rfl, by omega, by omega, sx, fun H'' r k'' s'' r0 r1 => ⟨_, _, rfl, rfl, ?_⟩⟩
        have hD2 := k''.lst hDl hDA
        refine ⟨_, hD2, ?_, (k.trans k'').chg0 hD hD2, s''.chg hD2 hDA, ns ++ [1 + r], ?_, ?_, ?_⟩
        · rw [List.length_map]
          have : (64 : Nat) < sizeLine := by decide
          omega
        · rw [upd_same, List.map_append]
          rfl
        · rw [List.length_append, List.length_singleton, hlen]
        · intro j n u' hj hu'
          by_cases hji : j < ns.length
          · rw [List.getElem?_append_left hji] at hj
            exact hns j n u' hj hu'
          · have hj2 : j = ns.length := by
              have := (List.getElem?_eq_some_iff.mp hj).1
              rw [List.length_append, List.length_singleton] at this
              omega
            subst hj2
            rw [List.getElem?_append_right (Nat.le_refl _), Nat.sub_self] at hj
            have en : 1 + r = n := by simpa using hj
            rw [hlen] at hu'
            rw [hu] at hu'
            have eu : u = u' := Option.some.inj hu'
            omega
      · obtain ⟨k, sx, ns, hDl, hlen, hns⟩ := pv
        have hlen : ns.length = 3 := hlen
        obtain ⟨n1, n2, n3, rfl⟩ : ∃ n1 n2 n3, ns = [n1, n2, n3] := by
          match ns, hlen with
          | [a, b, c], _ => exact ⟨a, b, c, rfl⟩
        have g1 := hns 0 n1 ra rfl rfl
        have g2 := hns 1 n2 rb rfl rfl
        have g3 := hns 2 n3 z rfl rfl
        refine ⟨D, _, rfl, .inl ⟨SqL.of hDl, fun tn htn => ⟨(by show 3 ≤ sizeLine; decide), fun tt htt => ?_⟩⟩⟩
        have kn := Kp.new (S := [h, l]) (o := .tup ([n1, n2, n3].map V.int)) htn
        have kt := Kp.new (S := [h, l]) (o := .tup [.str "block", .ref tc, .ref tn]) htt
        refine q _ _ (.block ra rb z n1 n2 n3) (((k7.trans k).trans kn).trans kt) ((sx.new htn).new htt) (.tup (SqT.of upd_same) (.cons (.str _) (.cons (dp_c (c := (ra, rb, z)) (kt.sqT (kn.sqT (k.sqT hc7)))) (.cons (dp_c (c := (n1, n2, n3)) (kt.sqT (SqT.of upd_same))) .nil)))) ?_ ?_
        · exact ⟨⟨⟨by omega, by show ra ≤ 3; omega⟩, ⟨by show 0 ≤ rb; omega, by show rb ≤ 3; omega⟩, ⟨by show 0 ≤ z; omega, by show z ≤ 3; omega⟩⟩, g1, g2, g3⟩
        · exact Nat.le_add_left 1 _
    refine itD0 (by intro z; apply hd0; have := V.int.inj z; omega) ?_
    obtain ⟨d', rfl⟩ : ∃ d', d = d' + 1 := ⟨d - 1, by omega⟩
    have hd' : d' < n := by omega
    have eself : [V.ref h, V.int (((d' + 1 : Nat) : Int) - 1)] = [V.ref h, V.int (d' : Int)] := by
      rw [show ((d' + 1 : Nat) : Int) - 1 = (d' : Int) by omega]
    refine ⟨_, rfl, _, _, rfl, rfl, _, rfl, ?_⟩
    by_cases hw3 : way < 3
    · refine itD1 hw3 ?_
      refine ⟨_, rfl, h, l, 4, rfl, by decide, by decide, s1, fun H2 ra k2 s2 a0 a1 => ?_⟩
      refine ⟨_, rfl, h, l, 4, rfl, by decide, by decide, s2, fun H3 rb k3 s3 b0 b1 => ?_⟩
      refine ⟨_, rfl, h, l, 4, rfl, by decide, by decide, s3, fun H4 rc k4 s4 c0 c1 => ⟨(by show 2 ≤ sizeLine; decide), fun lq hlq => ?_⟩⟩
      have hlqA := s4.apart hlq
      have s5 := s4.new (o := .lst [.int 0, .int rc]) hlq
      have k5 : Kp [h, l] H4 (upd H4 lq (.lst [.int 0, .int rc])) := Kp.new hlq
      have e5 : upd H4 lq (.lst [.int 0, .int rc]) lq = some (.lst [.int 0, .int rc]) := upd_same
      generalize upd H4 lq (.lst [.int 0, .int rc]) = H5 at s5 k5 e5 ⊢
      refine ⟨_, rfl, h, l, 2, rfl, by decide, by decide, s5, fun H6 rd k6 s6 d0 d1 => ?_⟩
      have e6 := k6.lst e5 hlqA
      obtain ⟨z, hz, z0, z1⟩ : ∃ z, atI [V.int 0, V.int rc] rd = some (.int z) ∧ 0 ≤ z ∧ z < 4 := by
        rcases (show rd = 0 ∨ rd = 1 by omega) with rfl | rfl
        · exact ⟨0, rfl, by decide, by decide⟩
        · exact ⟨rc, rfl, c0, c1⟩
      refine ⟨lq, _, rd, _, rfl, rfl, SqL.of e6, hz, (by show 3 ≤ sizeLine; decide), fun tc htc => ?_⟩
      have s7 := s6.new (o := .tup [.int ra, .int rb, .int z]) htc
      have k7 : Kp [h, l] H (upd H6 tc (.tup [.int ra, .int rb, .int z])) := ((((k1.trans k2).trans k3).trans k4).trans (k5.trans k6)).trans (Kp.new htc)
      have hc7 : SqT K (upd H6 tc (.tup [.int ra, .int rb, .int z])) tc ([ra, rb, z].map V.int) := SqT.of upd_same
      generalize upd H6 tc (.tup [.int ra, .int rb, .int z]) = H7 at s7 k7 hc7 ⊢
      refine ⟨_, rfl, _, rfl, tc, rfl, ⟨_, hc7⟩, fun D hD => lc_tup (K := K) (xs := [ra, rb, z].map V.int) (fun i H' => Kp [h, l] H7 H' ∧ Sta H' h l ∧ ∃ ns : List Int, H' D = some (.lst (ns.map V.int)) ∧ ns.length = i ∧ ∀ (j : Nat) (n u : Int), ns[j]? = some n → [ra, rb, z][j]? = some u → 1 ≤ n ∧ u + n ≤ 4)
        ⟨Kp.new hD, s7.new hD, [], upd_same, rfl, by simp⟩ (fun i H' _ pv => pv.1.sqT hc7) (fun i x H' hx pv => ?_) (fun H' pv => ?_)⟩
      · obtain ⟨k, sx, ns, hDl, hlen, hns⟩ := pv
        have hDA := s7.apart hD
        obtain ⟨u, hu, rfl⟩ := int_at hx
        have hub : 0 ≤ u ∧ u < 4 := by
          have := List.mem_of_getElem? hu
          simp at this
          rcases this with rfl | rfl | rfl
          · exact ⟨a0, a1⟩
          · exact ⟨b0, b1⟩
          · exact ⟨z0, z1⟩
        have hi3 : i < 3 := (List.getElem?_eq_some_iff.mp hu).1
        refine ⟨rfl, yesI ?_⟩
        refine ⟨_, rfl, _, rfl, _, _, rfl, rfl, h, l, 4 - u, rfl, by omega, by omega, sx, fun H'' r k'' s'' r0 r1 => ⟨_, _, rfl, rfl, ?_⟩⟩
        have hD2 := k''.lst hDl hDA
        refine ⟨_, hD2, ?_, (k.trans k'').chg0 hD hD2, s''.chg hD2 hDA, ns ++ [1 + r], ?_, ?_, ?_⟩
        · rw [List.length_map]
          have : (64 : Nat) < sizeLine := by decide
          omega
        · rw [upd_same, List.map_append]
          rfl
        · rw [List.length_append, List.length_singleton, hlen]
        · intro j n u' hj hu'
          by_cases hji : j < ns.length
          · rw [List.getElem?_append_left hji] at hj
            exact hns j n u' hj hu'
          · have hj2 : j = ns.length := by
              have := (List.getElem?_eq_some_iff.mp hj).1
              rw [List.length_append, List.length_singleton] at this
              omega
            subst hj2
            rw [List.getElem?_append_right (Nat.le_refl _), Nat.sub_self] at hj
            have en : 1 + r = n := by simpa using hj
            rw [hlen] at hu'
            rw [hu] at hu'
            have eu : u = u' := Option.some.inj hu'
            omega
      · obtain ⟨k, sx, ns, hDl, hlen, hns⟩ := pv
        have hlen : ns.length = 3 := hlen
        obtain ⟨n1, n2, n3, rfl⟩ : ∃ n1 n2 n3, ns = [n1, n2, n3] := by
          match ns, hlen with
          | [a, b, c], _ => exact ⟨a, b, c, rfl⟩
        have g1 := hns 0 n1 ra rfl rfl
        have g2 := hns 1 n2 rb rfl rfl
        have g3 := hns 2 n3 z rfl rfl
        refine ⟨D, _, rfl, .inl ⟨SqL.of hDl, fun tn htn => ⟨(by show 3 ≤ sizeLine; decide), fun tt htt => ?_⟩⟩⟩
        have kn := Kp.new (S := [h, l]) (o := .tup ([n1, n2, n3].map V.int)) htn
        have kt := Kp.new (S := [h, l]) (o := .tup [.str "block", .ref tc, .ref tn]) htt
        refine q _ _ (.block ra rb z n1 n2 n3) (((k7.trans k).trans kn).trans kt) ((sx.new htn).new htt) (.tup (SqT.of upd_same) (.cons (.str _) (.cons (dp_c (c := (ra, rb, z)) (kt.sqT (kn.sqT (k.sqT hc7)))) (.cons (dp_c (c := (n1, n2, n3)) (kt.sqT (SqT.of upd_same))) .nil)))) ?_ ?_
        · exact ⟨⟨⟨by omega, by show ra ≤ 3; omega⟩, ⟨by show 0 ≤ rb; omega, by show rb ≤ 3; omega⟩, ⟨by show 0 ≤ z; omega, by show z ≤ 3; omega⟩⟩, g1, g2, g3⟩
        · exact Nat.le_add_left 1 _
    refine itD0 hw3 ?_
    refine ⟨_, rfl, rfl, _, rfl, ?_⟩
    by_cases hw4 : way = 3
    · refine itD1 (by rw [hw4]) ?_
      refine ⟨_, rfl, h, l, 14, rfl, by decide, by decide, s1, fun H2 r k2 s2 r0 r1 => ⟨r, rfl, by omega, by omega, fun D hD => lc_range (lo := 0) (n := r.toNat) (fun i H' => Kp [h, l] H2 H' ∧ Sta H' h l ∧ ∃ (acc : List V) (cs : List C3), H' D = some (.lst acc) ∧ Items K H' acc cs ∧ cs.length = i ∧ ∀ c ∈ cs, InR c) ⟨Kp.new hD, s2.new hD, [], [], upd_same, .nil, rfl, by simp⟩ (fun i H' hi pv => ?_) (fun H' pv => ?_)⟩⟩
      · obtain ⟨k, sx, acc, cs, hDl, hI, hlen, hR⟩ := pv
        have hDA := s2.apart hD
        refine ⟨rfl, yesI ?_⟩
        refine ⟨_, rfl, h, l, 4, rfl, by decide, by decide, sx, fun Ha ra ka sa a0 a1 => ?_⟩
        refine ⟨_, rfl, h, l, 4, rfl, by decide, by decide, sa, fun Hb rb kb sb b0 b1 => ?_⟩
        refine ⟨_, rfl, h, l, 4, rfl, by decide, by decide, sb, fun Hc rc kc sc c0 c1 => ⟨(by show 3 ≤ sizeLine; decide), fun t ht => ?_⟩⟩
        have kt := Kp.new (S := [h, l]) (o := .tup [.int ra, .int rb, .int rc]) ht
        have kk := ((ka.trans kb).trans kc).trans kt
        have hD2 := kk.lst hDl hDA
        have st := sc.new (o := .tup [.int ra, .int rb, .int rc]) ht
        have hq : SqT K (upd Hc t (.tup [.int ra, .int rb, .int rc])) t [.int ra, .int rb, .int rc] := SqT.of upd_same
        have hit := items_mono kk hI
        have hl := hI.length
        have kd := Kp.chg (S := [D]) (ys := acc ++ [V.ref t]) hD2 (List.mem_singleton.mpr rfl)
        refine ⟨_, hD2, ?_, (k.trans kk).chg0 hD hD2, st.chg hD2 hDA, _, cs ++ [(ra, rb, rc)], upd_same, ?_, ?_, ?_⟩
        · have : (64 : Nat) < sizeLine := by decide
          omega
        · exact Items.append (items_mono kd hit) (Items.one (dp_c (c := (ra, rb, rc)) (kd.sqT hq)))
        · rw [List.length_append, List.length_singleton, hlen]
        · intro c hc
          rcases List.mem_append.mp hc with z | z
          · exact hR c z
          · rw [List.mem_singleton.mp z]
            exact ⟨⟨a0, by show ra ≤ 3; omega⟩, ⟨b0, by show rb ≤ 3; omega⟩, ⟨c0, by show rc ≤ 3; omega⟩⟩
      · obtain ⟨k, sx, acc, cs, hDl, hI, hlen, hR⟩ := pv
        refine ⟨_, rfl, .ref D, cs, rfl, .inl (cellsL_of hDl hI), hR, fun e L he g1 g2 => ?_⟩
        have ke := Kp.new (S := [h, l]) (o := GZ.SQO P W0 e L) he
        refine ⟨e, L, rfl, upd_same, fun z hz => ke.sqT (g1 z hz).2, fun zs ds r2 hp hnd hs hlen' hit hr' => ?_⟩
        have kr := Kp.new (S := [h, l]) (o := .lst zs) hr'
        refine ⟨r2, zs, rfl, .inl ⟨SqL.of upd_same, fun tn htn => ⟨(by show 2 ≤ sizeLine; decide), fun tt htt => ?_⟩⟩⟩
        have kn := Kp.new (S := [h, l]) (o := .tup zs) htn
        have kt := Kp.new (S := [h, l]) (o := .tup [.str "cells", .ref tn]) htt
        refine q _ _ (.cells ds) ((((((k1.trans k2).trans k).trans ke).trans kr).trans kn).trans kt) ((((sx.new he).new hr').new htn).new htt)
          (.tup (SqT.of upd_same) (.cons (.str _) (.cons (.tup (kt.sqT (SqT.of upd_same)) (items_mono kt (items_mono kn (items_mono kr hit)))) .nil))) ⟨asc_of hs hnd, fun c hc => ?_⟩ (Nat.le_add_left 1 _)
        have hc2 := hp.mem_iff.mp hc
        obtain ⟨z, hz, rfl⟩ := List.mem_map.mp hc2
        exact hR _ (g1 z hz).1
    refine itD0 (by intro z; exact hw4 (V.int.inj z)) ?_
    refine ⟨_, rfl, _, _, rfl, rfl, _, rfl, ?_⟩
    by_cases hw8 : way < 8
    · refine itD1 hw8 ?_
      refine ⟨(by show 4 ≤ sizeLine; decide), fun lw hlw => ?_⟩
      have k2 := Kp.new (S := [h, l]) (o := .lst [.str "with", .str "with", .str "less", .str "common"]) hlw
      have s2 := s1.new (o := .lst [.str "with", .str "with", .str "less", .str "common"]) hlw
      obtain ⟨w, mk, hat, hmk, hgood, hdpm⟩ : ∃ (w : Str) (mk : Bd → Bd → Bd), atI [V.str "with", V.str "with", V.str "less", V.str "common"] (way - 4) = some (.str w) ∧ (∀ p q, bD (mk p q) = .tuple [.str w, bD p, bD q]) ∧ (∀ p q, Good p → Good q → Good (mk p q)) ∧ ∀ p q, dp (mk p q) = 1 + max (dp p) (dp q) := by
        rcases (show way = 4 ∨ way = 5 ∨ way = 6 ∨ way = 7 by omega) with rfl | rfl | rfl | rfl
        · exact ⟨"with", .wth, rfl, fun _ _ => rfl, fun _ _ a b => ⟨a, b⟩, fun _ _ => rfl⟩
        · exact ⟨"with", .wth, rfl, fun _ _ => rfl, fun _ _ a b => ⟨a, b⟩, fun _ _ => rfl⟩
        · exact ⟨"less", .less, rfl, fun _ _ => rfl, fun _ _ a b => ⟨a, b⟩, fun _ _ => rfl⟩
        · exact ⟨"common", .common, rfl, fun _ _ => rfl, fun _ _ a b => ⟨a, b⟩, fun _ _ => rfl⟩
      refine ⟨_, rfl, _, _, rfl, rfl, lw, _, way - 4, _, rfl, rfl, SqL.of upd_same, hat, ?_⟩
      refine ⟨_, rfl, _, rfl, _, rfl, _, _, rfl, rfl, h, l, d', eself, hd', by omega, s2, fun Ha va ba ka sa ha ga da => ?_⟩
      refine ⟨_, rfl, _, rfl, _, _, rfl, rfl, h, l, d', eself, hd', by omega, sa, fun Hb vb bb kb sb hb gb db => ?_⟩
      refine ⟨(by show 3 ≤ sizeLine; decide), fun tt htt => ?_⟩
      have kt := Kp.new (S := [h, l]) (o := .tup [.str w, va, vb]) htt
      refine q _ _ (mk ba bb) ((((k1.trans k2).trans ka).trans kb).trans kt) (sb.new htt) ?_ (hgood _ _ ga gb) ?_
      · show Dp K _ _ (bD (mk ba bb))
        rw [hmk]
        exact .tup (SqT.of upd_same) (.cons (.str _) (.cons (body_mono kt (body_mono kb ha)) (.cons (body_mono kt hb) .nil)))
      · rw [hdpm]
        omega
    refine itD0 hw8 ?_
    refine ⟨_, rfl, _, rfl, _, _, rfl, rfl, h, l, d', eself, hd', by omega, s1, fun H2 v1 b1 k2 s2 hb1 gb1 db1 => ?_⟩
    refine ⟨_, rfl, rfl, _, rfl, ?_⟩
    by_cases hw9 : way = 8
    · refine itD1 (by rw [hw9]) ?_
      refine ⟨_, rfl, h, l, 3, rfl, by decide, by decide, s2, fun H3 r k3 s3 r0 r1 => ?_⟩
      obtain ⟨c, w, mk, hat, hcw, hmk, hgood, hdpm⟩ : ∃ (c : Nat) (w : Str) (mk : Bd → Bd), atI ("xyz" : Str).cps.toList r = some c ∧ (⟨#[c]⟩ : Str) = w ∧ (∀ p, bD (mk p) = .tuple [.str "turned", .str w, bD p]) ∧ (∀ p, Good p → Good (mk p)) ∧ ∀ p, dp (mk p) = 1 + dp p := by
        rcases (show r = 0 ∨ r = 1 ∨ r = 2 by omega) with rfl | rfl | rfl
        · exact ⟨120, "x", .turnX, by decide +kernel, by decide +kernel, fun _ => rfl, fun _ a => a, fun _ => rfl⟩
        · exact ⟨121, "y", .turnY, by decide +kernel, by decide +kernel, fun _ => rfl, fun _ a => a, fun _ => rfl⟩
        · exact ⟨122, "z", .turnZ, by decide +kernel, by decide +kernel, fun _ => rfl, fun _ a => a, fun _ => rfl⟩
      refine ⟨_, r, c, rfl, rfl, (by decide +kernel), hat, _, rfl, (by show 3 ≤ sizeLine; decide), fun tt htt => ?_⟩
      have kt := Kp.new (S := [h, l]) (o := .tup [.str "turned", .str ⟨#[c]⟩, v1]) htt
      refine q _ _ (mk b1) (((k1.trans k2).trans k3).trans kt) (s3.new htt) ?_ (hgood _ gb1) ?_
      · show Dp K _ _ (bD (mk b1))
        rw [hmk, ← hcw]
        exact .tup (SqT.of upd_same) (.cons (.str _) (.cons (.str _) (.cons (body_mono kt (body_mono k3 hb1)) .nil)))
      · rw [hdpm]
        omega
    refine itD0 (by intro z; exact hw9 (V.int.inj z)) ?_
    have db1' : dp b1 ≤ 20 := by omega
    refine ⟨_, rfl, v1, b1, rfl, hb1, db1', fun H3 r zs k3 n3 h3 i3 => ?_⟩
    have s3 := s2.mono0 k3
    have hra := s2.apart n3
    refine ⟨Nat.zero_le _, fun fa hfa => ?_⟩
    have hfaA := s3.apart hfa
    have hrf : r ≠ fa := by
      intro z
      rw [z, hfa] at h3
      cases h3
    have hb3 : Body K H3 v1 b1 := body_mono k3 hb1
    refine ⟨3, rfl, by decide, by decide, for_range (lo := 0) (n := 3) (fun i σ H' => ∃ (o4 o9 o10 : Option V), σ = [some (.ref h), some (.int ((d' + 1 : Nat) : Int)), some (.int way), none, o4, some (.ref r), none, some v1, some (.ref fa), o9, o10, none] ∧ Kp [h, l] H3 H' ∧ Sta H' h l ∧ ∃ fs : List Int, H' fa = some (.lst (fs.map V.int)) ∧ fs.length = i ∧ ∀ (j : Nat) (f : Int), fs[j]? = some f → FarOk b1 j f)
      ⟨none, none, none, rfl, Kp.new hfa, s3.new hfa, [], upd_same, rfl, by simp⟩ (fun i σ H4 hi pv => ?_) (fun σ H4 pv => ?_)⟩
    · obtain ⟨o4, o9, o10, rfl, k4, s4, fs, hfs, hfl, hff⟩ := pv
      refine ⟨_, rfl, r, rfl, ⟨_, SqL.of (k4.lst h3 hra)⟩, fun D hD => lc_list (K := K) (a := r) (xs := zs) (fun j H' => Kp [] H4 H' ∧ H' D = some (.lst ((((all b1).take j).map (comp i)).map V.int))) ⟨Kp.new hD, upd_same⟩ (fun j H' _ pv => SqL.of (pv.1.lst (k4.lst h3 hra) List.not_mem_nil)) (fun j x H' hx pv => ?_) (fun H' pv => ?_)⟩
      · obtain ⟨k, hDl⟩ := pv
        obtain ⟨c, hc, hdc⟩ := i3.get hx
        obtain ⟨p, rfl, hp⟩ := of_dp_c hdc
        have hjl : j < (all b1).length := (List.getElem?_eq_some_iff.mp hc).1
        have hal := all_len b1
        refine ⟨rfl, yesI ?_⟩
        refine ⟨_, rfl, _, rfl, p, _, _, _, rfl, rfl, k.sqT (k4.sqT hp), comp_at hi c, ?_⟩
        refine ⟨_, hDl, ?_, k.chg0 hD hDl, ?_⟩
        · rw [List.length_map, List.length_map, List.length_take]
          have : (64 : Nat) < sizeLine := by decide
          omega
        · rw [upd_same, List.take_add_one, hc, List.map_append, List.map_append]
          rfl
      obtain ⟨k5, hDl⟩ := pv
      rw [i3.length, List.take_length] at hDl
      rename Hp => H5
      dsimp only [tNil, tCons, tC]
      refine minR (SqL.of hDl) (fun low hlow => ?_)
      have s5 := s4.mono0 k5
      have k45 := k4.trans (k5.w0 (S := [h, l]))
      refine ⟨_, rfl, r, rfl, ⟨_, SqL.of (k45.lst h3 hra)⟩, fun D hD => lc_list (K := K) (a := r) (xs := zs) (fun j H' => Kp [] H5 H' ∧ H' D = some (.lst ((((all b1).take j).map (comp i)).map V.int))) ⟨Kp.new hD, upd_same⟩ (fun j H' _ pv => SqL.of (pv.1.lst (k45.lst h3 hra) List.not_mem_nil)) (fun j x H' hx pv => ?_) (fun H' pv => ?_)⟩
      · obtain ⟨k, hDl⟩ := pv
        obtain ⟨c, hc, hdc⟩ := i3.get hx
        obtain ⟨p, rfl, hp⟩ := of_dp_c hdc
        have hjl : j < (all b1).length := (List.getElem?_eq_some_iff.mp hc).1
        have hal := all_len b1
        refine ⟨rfl, yesI ?_⟩
        refine ⟨_, rfl, _, rfl, p, _, _, _, rfl, rfl, k.sqT (k45.sqT hp), comp_at hi c, ?_⟩
        refine ⟨_, hDl, ?_, k.chg0 hD hDl, ?_⟩
        · rw [List.length_map, List.length_map, List.length_take]
          have : (64 : Nat) < sizeLine := by decide
          omega
        · rw [upd_same, List.take_add_one, hc, List.map_append, List.map_append]
          rfl
      obtain ⟨k6, hDl⟩ := pv
      rw [i3.length, List.take_length] at hDl
      rename Hp => H6
      dsimp only [tNil, tCons, tC]
      refine maxR (SqL.of hDl) (fun high hhigh => ?_)
      have s6 := s5.mono0 k6
      have k46 := k45.trans (k6.w0 (S := [h, l]))
      have hlh : 0 ≤ low ∧ low ≤ 3 ∧ 0 ≤ high ∧ high ≤ 3 ∧ ∀ c ∈ all b1, low ≤ comp i c ∧ comp i c ≤ high := lowhigh hlow hhigh
      obtain ⟨l0, l3, g0, g3, hcs⟩ := hlh
      have hf6 := k6.lst (k5.lst hfs List.not_mem_nil) List.not_mem_nil
      refine ⟨_, rfl, .inl ⟨rfl, _, SqL.of hf6⟩, _, rfl, _, rfl, _, _, rfl, rfl, _, rfl, _, _, rfl, rfl, h, l, 4 - high + low, rfl, by omega, by omega, s6, fun H7 rr k7 s7 r0 r1 => ?_⟩
      have hf7 := k7.lst hf6 hfaA
      refine ⟨_, rfl, _, _, rfl, rfl, fa, _, _, rfl, rfl, hf7, ?_, ?_⟩
      · rw [List.length_map]
        have : (64 : Nat) < sizeLine := by decide
        omega
      · refine ⟨_, _, _, rfl, (k46.trans k7).chg0 hfa hf7, s7.chg hf7 hfaA, fs ++ [rr - low], ?_, ?_, ?_⟩
        · rw [upd_same, List.map_append]
          rfl
        · rw [List.length_append, List.length_singleton, hfl]
        · intro j f hj
          by_cases hji : j < fs.length
          · rw [List.getElem?_append_left hji] at hj
            exact hff j f hj
          · have hj2 : j = fs.length := by
              have := (List.getElem?_eq_some_iff.mp hj).1
              rw [List.length_append, List.length_singleton] at this
              omega
            subst hj2
            rw [List.getElem?_append_right (Nat.le_refl _), Nat.sub_self] at hj
            have ef : rr - low = f := by simpa using hj
            rw [hfl]
            refine ⟨by omega, by omega, fun c hc => ?_⟩
            have := hcs c hc
            omega
    · obtain ⟨o4, o9, o10, rfl, k4, s4, fs, hfs, hfl, hff⟩ := pv
      have hfl : fs.length = 3 := hfl
      obtain ⟨n1, n2, n3', rfl⟩ : ∃ n1 n2 n3, fs = [n1, n2, n3] := by
        match fs, hfl with
        | [a, b, c], _ => exact ⟨a, b, c, rfl⟩
      have g1 := hff 0 n1 rfl
      have g2 := hff 1 n2 rfl
      have g3 := hff 2 n3' rfl
      refine ⟨_, rfl, fa, _, rfl, .inl ⟨SqL.of hfs, fun tn htn => ⟨_, rfl, (by show 3 ≤ sizeLine; decide), fun tt htt => ?_⟩⟩⟩
      have kn := Kp.new (S := [h, l]) (o := .tup ([n1, n2, n3'].map V.int)) htn
      have kt := Kp.new (S := [h, l]) (o := .tup [.str "moved", .ref tn, v1]) htt
      refine q _ _ (.moved (n1, n2, n3') b1) ((((k1.trans k2).trans (k3.w0.trans k4)).trans kn).trans kt) ((s4.new htn).new htt) (.tup (SqT.of upd_same) (.cons (.str _) (.cons (dp_c (c := (n1, n2, n3')) (kt.sqT (SqT.of upd_same))) (.cons (body_mono kt (body_mono kn (body_mono k4 hb3))) .nil)))) ⟨⟨⟨g1.1, g1.2.1⟩, ⟨g2.1, g2.2.1⟩, ⟨g3.1, g3.2.1⟩⟩, gb1, fun c hc => ?_⟩ ?_
      · have hca := (mem_good gb1).mpr hc
        have e1 := g1.2.2 c hca
        have e2 := g2.2.2 c hca
        have e3 := g3.2.2 c hca
        exact ⟨e1, e2, e3⟩
      · show 1 + dp b1 ≤ _
        omega
theorem lbody_none {f : Addr} {fd : FuncData} : FnOk P W0 K mg base CX0 21 f fd ["_law_h", "_law_deep"] (spLBody K 0) := by
  have no : ∀ vs H Q E, ¬ spLBody K 0 vs H Q E := fun vs H Q E h => by
    obtain ⟨_, _, _, _, hn, _⟩ := h
    omega
  exact ⟨fun vs H Q E h => absurd h (no vs H Q E), fun A outer s H args us vs Q E _ _ _ _ h => absurd h (no vs H Q E)⟩
theorem ok_lbody {f fX fA : Addr} {fd dX dA : FuncData} (F : Fun K "_law_body" "_law_body" lBody f fd) (T : Nm K mg) (U : Nl K mg) (NB : Fn K mg "_law_body" f fd ["_law_h", "_law_deep"])
    (NX : Fn K mg "_law_next" fX dX ["_law_h", "_law_many"]) (GX : FnOk P W0 K mg base CX0 1 fX dX ["_law_h", "_law_many"] spNext) (NA : Fn K mg "_law_all" fA dA ["_law_body_here"]) (GA : FnOk P W0 K mg base CX0 21 fA dA ["_law_body_here"] (spAll K)) :
    ∀ n : Nat, FnOk P W0 K mg base CX0 (21 + n) f fd ["_law_h", "_law_deep"] (spLBody K n)
  | 0 => lbody_none
  | n + 1 => lbody_step F T U NB (ok_lbody F T U NB NX GX NA GA n) NX GX NA GA
end LP
end

section
set_option Elab.async false
set_option linter.all false
set_option maxRecDepth 100000
set_option maxHeartbeats 2000000
/-! a lambda handed to a def, told so that all tables but the maker's stay -/
namespace LP
open PySem PySem.Spec PyProof.Rows L2
/-- all but the table at P is as it was -/
structure Oth (P : Addr) (H H1 : Hp) : Prop where
  keep : ∀ b o, b ≠ P → H b = some o → H1 b = some o
  free : ∀ b, H1 b = none → H b = none
section
variable {X : Cx} {pins : List (Addr × Obj)} {σ : L2.St} {H HZ : Hp} {s s1 : Shared}
theorem not_frame (I : Inv X pins σ H s) {f : Addr} (hf : s.heap.objs.size ≤ f) : f ∉ frs X.stack := by
  intro z
  have := I.lt
  rcases List.mem_cons.mp (I.stkSub _ z) with e | e
  · rw [← e] at this
    exact Nat.lt_irrefl _ (Nat.lt_of_lt_of_le this hf)
  · exact I.nofs hf e
theorem lam3 {c P : Addr} {params : Arguments} {body : Expr} {scope : Scope} {pos : Pos} {E : Value → Shared → Prop} {Q : Value → Shared → Prop} (I : Inv X pins σ H s) (TB : LamX.TabB X.base X.mg c P) (hcode : X.env.code = .ref c)
    (hT : LamX.TabS H P (X.env.qual ++ "<lambda>")) (hdef : defaultsOf params X.env = ([], [])) (hfree : ∀ y ∈ scope.names, y.2 = .free → ∃ c, X.env.cells.lookup y.1 = some c)
    (h : ∀ (f c' : Addr) (pm ctv : Value) (H1 : Hp) (s' : Shared), Inv X pins σ H1 s' → Oth P H H1 → LamX.TabS H1 P (X.env.qual ++ "<lambda>") →
      s'.heap.get? f = some (PySem.W.kla_obj "<lambda>" (X.env.qual ++ "<lambda>") params body scope (cloFrom X.env.cells scope.names []) pm c' ctv) → H1 f = none → f ∉ frs X.stack → H1 c' = some (LamX.CodeO c' (X.env.qual ++ "<lambda>")) → Q (.ref f) s') :
    wpAny (model X.prog X.w) X.A (eval (.Lambda params body scope pos) X.env) Q E s := by
  obtain ⟨ps, tabP, tr, told⟩ := hT
  have heapP : s.heap.get? P = some { cls := .none, data := .fields ps } := I.hok P _ tabP
  have blt := TB.bm.keeps I.bk
  refine PySem.W.kla_eval hdef ?_
  rcases hc : codeAmong pos ps.toList with _ | cv
  · -- the code object is new
    refine PySem.W.kla_makeFunction (mg := X.mg) (c := c) (P := P) (ps := ps) (closure_ok hfree) I.ok.glob (I.mod.glob.keeps I.bk) hcode (TB.code.keeps I.bk) heapP tr hc TB.gP blt fun c' ctv h' tk kept ge lt ⟨c2, oc, vs, t, e2, g1, g2, g3⟩ tab' => ?_
    cases e2
    have freeC : H c' = none := I.hok.fresh ge
    have grow : s.heap.objs.size ≤ h'.objs.size := Nat.le_trans ge (Nat.le_of_lt lt)
    have J := LamX.inv_table (t' := tk) (more := #[rawInt pos.line, rawInt pos.col, .ref c']) (h' := h'.push (PySem.W.kla_obj "<lambda>" (X.env.qual ++ "<lambda>") params body scope (cloFrom X.env.cells scope.names []) ((X.mg "__name__").getD .none) c' ctv)) I tabP
      (fun b o hb e => Heap.get?_push_of_some _ (kept b o hb e)) (Heap.get?_push_of_some _ tab') ge ⟨oc, vs, t, Heap.get?_push_of_some _ g1, g2, g3⟩
    generalize hH1 : upd (upd H P (.tbl (ps ++ #[rawInt pos.line, rawInt pos.col, .ref c']))) c' (LamX.CodeO c' (X.env.qual ++ "<lambda>")) = H1 at J
    have oth : Oth P H H1 := by
      rw [← hH1]
      refine ⟨fun b o n e => by rw [upd_ne (ne_of_none e freeC), upd_ne n]; exact e, fun b e => ?_⟩
      by_cases z : b = c'
      · rw [z, upd_same] at e
        cases e
      · rw [upd_ne z] at e
        by_cases z2 : b = P
        · rw [z2, upd_same] at e
          cases e
        · rw [upd_ne z2] at e
          exact e
    have codeC : H1 c' = some (LamX.CodeO c' (X.env.qual ++ "<lambda>")) := by rw [← hH1]; exact upd_same
    have lst : (ps ++ #[rawInt pos.line, rawInt pos.col, .ref c']).toList = ps.toList ++ [rawInt pos.line, rawInt pos.col, .ref c'] := by simp
    refine h h'.objs.size c' ((X.mg "__name__").getD .none) ctv H1 _ J oth ⟨_, by rw [← hH1, upd_ne (ne_of_none tabP freeC)]; exact upd_same, by rw [lst]; exact PySem.TriplesOk_snoc _ _ _ _ tr, fun p' cv' q => ?_⟩ (Heap.get?_push_size _ rfl) ?_ (not_frame I grow) codeC
    · rw [lst] at q
      rcases LamX.among_app _ tr q with z | z
      · obtain ⟨c0, e1, e2⟩ := told p' cv' z
        refine ⟨c0, e1, oth.keep c0 _ (fun n => ?_) e2⟩
        rw [n, tabP] at e2
        exact LamX.codeO_ne _ (Option.some.inj e2).symm
      · exact ⟨c', z, codeC⟩
    · rw [← hH1, upd_ne (Nat.ne_of_gt lt), upd_ne (fun n : h'.objs.size = P => Nat.lt_irrefl _ (Nat.lt_of_lt_of_le (by rw [n]; exact Heap.lt_size heapP) grow))]
      exact I.hok.fresh grow
  · -- it stands in the table
    obtain ⟨c', rfl, codeC⟩ := told pos cv hc
    refine PySem.W.kla_makeFunctionHit (mg := X.mg) (c := c) (P := P) (ps := ps) (closure_ok hfree) I.ok.glob (I.mod.glob.keeps I.bk) hcode (TB.code.keeps I.bk) heapP tr hc blt fun ctv h' tk kept grow => ?_
    have J : Inv X pins σ H { s with heap := h'.push (PySem.W.kla_obj "<lambda>" (X.env.qual ++ "<lambda>") params body scope (cloFrom X.env.cells scope.names []) ((X.mg "__name__").getD .none) c' ctv), toks := tk } := I.kept fun b o e => Heap.get?_push_of_some _ (kept b o e)
    exact h h'.objs.size c' ((X.mg "__name__").getD .none) ctv H _ J ⟨fun _ _ _ e => e, fun _ e => e⟩ ⟨ps, tabP, tr, told⟩ (Heap.get?_push_size _ rfl) (I.hok.fresh grow) (not_frame I grow) codeC
def tLam3 (P : Addr) (q : Str) (TT : (XK → Hp → VK → Prop) → Hp → VK → Prop) (t : XK → TE) : TE := fun σ H Q => LamX.TabS H P q ∧ ∀ H1, Oth P H H1 → LamX.TabS H1 P q → TT (fun E H' Q' => t E σ H' Q') H1 Q
/-- x(lambda: body) -/
theorem pe_lam3 {TT : (XK → Hp → VK → Prop) → Hp → VK → Prop} {x a : Str} {g c P : Addr} {k : Nat} {pg : Arguments} {bg : List Stmt} {sg : Scope} {dV kV doc pm cdv ct oc : Value} {an od : Option Addr} {osl : Array (Option Value)} {Ng : List Str}
    {params : Arguments} {body : Expr} {scope : Scope} {t : XK → TE} {p lpos pos : Pos} (hg : Gl X x) (hm : X.mg x = some (.ref g)) (hk : PySem.W.keepIn X.K (.ref g) = true)
    (lk : X.K.lookup g = some ⟨oc, od, .func (PySem.W.fnOf x x pg bg sg dV kV doc pm an cdv ct), osl⟩) (hcg : PySem.W.codeIn X.K cdv x = true) (hb : L2.Binds X.K (PySem.W.fnOf x x pg bg sg dV kV doc pm an cdv ct) [a] []) (Sg : FnScope Ng [a] sg) (hNg : Ng[0]? = some a) (hva : Vis sg a)
    (hG : LamX.GivesTo X Ng x sg g cdv bg a (X.env.qual ++ "<lambda>") TT)
    (TB : LamX.TabB X.base X.mg c P) (hcode : X.env.code = .ref c) (hr : Room (k + 2) X.A) (L : LamX.LamS X.env.scope scope) (hdef : defaultsOf params X.env = ([], []))
    (hbind : ∀ (q : Str) (cl : List (Str × Addr)) (pm cv ctv : Value), bindArgs (PySem.W.kla_fn "<lambda>" q params body scope cl pm cv ctv) ⟨[], []⟩ = pure [])
    (hbody : ∀ (A : Around) (outer : List Env) (s : Shared) (H : Hp) (E : XK) (f c' : Addr), Room k (A.deeper (LamX.lamEnv X scope s.heap.objs.size f c')) → PE (LamX.lamCx X A outer s H E scope f c') body (t E))
    (hdb : (x == ("__debug__" : Str)) = false := by decide) (hd : (a == ("__debug__" : Str)) = false := by decide) (hcd : (a == ("__classdict__" : Str)) = false := by decide) :
    PE X (.Call (.Name x p) [.Lambda params body scope lpos] [] pos) (tLam3 P (X.env.qual ++ "<lambda>") TT t) := by
  refine ⟨fun pins s σ H Q I ⟨tab, told⟩ => ?_⟩
  refine wpAny_Call_Name_kw (ld_glob I hg hm (PySem.W.callWith_K (h₀ := X.base) I.ok.mod.kin hk ?_ (by rfl) (by rfl)) hdb)
  show wpAny _ _ (spliced ((false, eval (.Lambda params body scope lpos) X.env) :: backTo pos (starEach [] X.env))) _ _ s
  refine Calls.spliced_cons (lam3 I TB hcode tab hdef (L.has I.ok) fun f c' pm' ctv H1 s' J oth tab1 of nf fr cc => Calls.spliced_nil ⟨J.kIn, wpAny_call ?_⟩)
  have called : codeAny (model X.prog X.w) X.A (.call (.ref g) ⟨[.ref f], []⟩) (CR C8.CX0 X.stack X.prog X.w H1 s' Q C8.E0) s' := by
    refine LamX.run_ofS (N := Ng) (ps := [a]) (us := [.ref f]) (vs := [.ref f]) lk hcg Sg hr J.env0 (hb s' [.ref f] J.kIn rfl) (.cons rfl .nil) rfl fun room => ?_
    have act := hG f c' s' H1 Q (fun E H' Q' => t E σ H' Q') (fun W pn xe E p1 p2 tk hW => LamX.pe_act (i := 0) J L of nf fr (hbind _ _ _ _ _) tk hW room (fun A outer s H r2 => hbody A outer s H E f c' r2) hNg hva hd hcd) cc (told H1 oth tab1)
    obtain ⟨t', a1, a2⟩ := act
    exact ⟨t', a1.nox, a2⟩
  refine codeAny_mono called fun r s2 hq => ?_
  match r, hq with
  | .error _, hq => exact (show False from hq).elim
  | .ok (.ret _), hq => exact J.after hq
  | .ok .next, hq => exact False.elim hq
  | .ok .brk, hq => exact False.elim hq
  | .ok .cont, hq => exact False.elim hq
end
section
variable [LamTab] {H H1 : Hp}
/-- what a lambda's making keeps -/
theorem Kp.oth {S : List Addr} (o : Oth LamTab.P H H1) (t : ∃ ps, H LamTab.P = some (.tbl ps)) (l : LamX.TabS H LamTab.P LamTab.q → LamX.TabS H1 LamTab.P LamTab.q) : Kp S H H1 := by
  obtain ⟨ps, e⟩ := t
  have ne : ∀ b u, H b = some u → (∀ ps, u ≠ .tbl ps) → b ≠ LamTab.P := fun b u q n z => by
    rw [z, e] at q
    exact n _ (Option.some.inj q).symm
  exact ⟨fun b u q _ n => o.keep b u (ne b u q n) q, fun b xs q => o.keep b _ (ne b _ q (fun _ z => by cases z)) q, fun b ⟨⟨qs, q1, q2⟩, q3⟩ => ⟨⟨qs, o.keep b _ q3 q1, q2⟩, q3⟩,
    fun b u v q => o.keep b _ (ne b _ q (fun _ z => by cases z)) q, o.free, l⟩
end
end LP
end

section
set_option Elab.async false
set_option linter.all false
set_option maxRecDepth 100000
set_option maxHeartbeats 4000000
/-! _law_kind -/
namespace LP
open PySem PySem.Spec PyProof.Rows L2 Ly GY
/-- xs.count(y) of flat things -/
def rCountV (K : PySem.W.Frag) : V → List V → Hp → VK → Prop := fun x xs H Q => ∃ (a : Addr) (ys : List V) (y : V), x = .ref a ∧ xs = [y] ∧ SqL K H a ys ∧ flatV y = true ∧ ys.all flatV = true ∧ Q (.int ((ys.countP fun z => eqV z y : Nat) : Int)) H
theorem countP_eqU {y : V} : ∀ {ys : List V} {us : List Value}, Vals ys us → ys.all flatV = true → us.countP (eqU y) = ys.countP fun z => eqV z y
  | _, _, .nil, _ => rfl
  | z :: zs, u :: us, .cons r t, f => by
    rw [List.all_cons, Bool.and_eq_true] at f
    rw [List.countP_cons, List.countP_cons, countP_eqU t f.2, eqU_of r f.1]
theorem mt_countV {X : Cx} : MtR X "list.count" (rCountV X.K) := by
  intro pins s σ H x xs v us Q I rx rxs h
  obtain ⟨a, ys, y, rfl, rfl, hs, fy, fys, q⟩ := h
  cases rx
  cases rxs with
  | cons ry rt =>
    rename_i uy ut
    cases rt
    obtain ⟨its, rv, ⟨⟨cls, dd, data, sl⟩, n, ho, hc, hdn, hd⟩, hlen⟩ := I.list hs
    simp only at hc hd
    subst hc hd
    refine call_meets PySem.F.slot_list_count ⟨_, ho, rfl⟩ PySem.F.entry_list_count (PySem.F.args_list_count_2 _ _)
      (SeqAt.list_countAt a its.toArray n dd sl uy (eqU y)) ⟨ho, fun u' hu' => mem_eqAt ry fy rv fys u' (by simpa using hu'), ?_⟩
    refine ⟨.int ((ys.countP fun z => eqV z y : Nat) : Int), H, I.tok _, ⟨s.toks, ?_⟩, q⟩
    rw [← countP_eqU rv fys]
variable [LamTab] {P : Program} {W0 : World} {K : PySem.W.Frag} {mg : Str → Option Value} {base : Heap}
/-- the classes of exceptions: P PrintError, L NoLayer; what an instance of NoLayer is -/
structure Kinds (K : PySem.W.Frag) (mg : Str → Option Value) (CP CB CO CL CN CR CK CT : Addr) : Prop where
  gP : mg "PrintError" = some (.ref CP)
  gB : mg "NoBody" = some (.ref CB)
  gO : mg "Outside" = some (.ref CO)
  gL : mg "NoLayer" = some (.ref CL)
  gN : mg "NoProp" = some (.ref CN)
  gR : mg "BadReach" = some (.ref CR)
  gK : mg "BadPlace" = some (.ref CK)
  gT : mg "BadText" = some (.ref CT)
  gV : mg "ValueError" = none
  e : PySem.W.exmOne K (.ref CL) (.ref CP) = some true
  x : ExcC K CL
  iB : PySem.W.kitOne K (.ref CL) (.ref CB) = some false
  iO : PySem.W.kitOne K (.ref CL) (.ref CO) = some false
  iL : PySem.W.kitOne K (.ref CL) (.ref CL) = some true
  iN : PySem.W.kitOne K (.ref CL) (.ref CN) = some false
  iR : PySem.W.kitOne K (.ref CL) (.ref CR) = some false
  iK : PySem.W.kitOne K (.ref CL) (.ref CK) = some false
  iT : PySem.W.kitOne K (.ref CL) (.ref CT) = some false
  iV : PySem.W.kitOne K (.ref CL) (.type "ValueError") = some true
theorem pss_of {X : Cx} {p : Prop} {b : List Stmt} {t : p → TS} (h : ∀ q : p, PSs X b (t q)) : PSs X b (fun D σ H => ∃ q : p, t q D σ H) := ⟨fun pins s σ H D I ⟨q, k⟩ => (h q).run pins s σ H D I k⟩
theorem pss_len {X : Cx} {b : List Stmt} {t : TS} (h : PSs X b t) : PSs X b (fun D σ H => σ.length = X.N.length → t D σ H) := ⟨fun pins s σ H D I k => h.run pins s σ H D I (k I.len)⟩
/-- what _law_kind makes of a work that raises NoLayer -/
def TTk (CL : Addr) : (XK → Hp → VK → Prop) → Hp → VK → Prop := fun tl H Q => tl (fun cls d H' => cls = .ref CL ∧ d = none ∧ ∀ H'', Kp [] H' H'' → Q (.str "NoLayer") H'') H (fun _ H' => Q (.str "") H')
def isT (K : PySem.W.Frag) (CL a : Addr) (c : V) : TE := tCB (rIsE K CL a) (tCons (tVar 1) (tCons (tC c) tNil))
def tSuite (K : PySem.W.Frag) (CB CO CL CN CR CK CT a : Addr) : TS :=
  tSeq (tAsg (tLst (tCons (isT K CL a (.ref CB)) (tCons (isT K CL a (.ref CO)) (tCons (isT K CL a (.ref CL)) (tCons (isT K CL a (.ref CN)) tNil))))) (gName 2))
  (tSeq (tAsg (tOp rCat (tVar 2) (tLst (tCons (isT K CL a (.ref CR)) (tCons (isT K CL a (.ref CK)) (tCons (isT K CL a (.ref CT)) tNil))))) (gName 2))
  (tSeq (tIfS (tOr (tTest (tOp rNe (tBM K "list" (rCountV K) (tVar 2) (tCons (tC (.bl true)) tNil)) (tC (.int 1)))) (tNot (tB (isT K CL a (.ty "ValueError"))))) (tRet (tC (.str "other"))) tNext)
  (tRet (tOp (rIxL K) (tLst (tCons (tC (.str "NoBody")) (tCons (tC (.str "Outside")) (tCons (tC (.str "NoLayer")) (tCons (tC (.str "NoProp")) (tCons (tC (.str "BadReach")) (tCons (tC (.str "BadPlace")) (tCons (tC (.str "BadText")) tNil)))))))) (tBM K "list" (rIndex K) (tVar 2) (tCons (tC (.bl true)) tNil))))))
theorem scKind : FnScope ["_law_work", "e", "_law_kinds"] ["_law_work"] (defScope lKind) := ⟨rfl, rfl, rfl, by decide +kernel, rfl, by decide +kernel, by decide +kernel⟩
theorem kind_gives {X : Cx} {g CP CB CO CL CN CR CK CT : Addr} {cdg : Value} {q : Str} (T : Nm X.K X.mg) (k : Kinds X.K X.mg CP CB CO CL CN CR CK CT) :
    LamX.GivesTo X ["_law_work", "e", "_law_kinds"] "_law_kind" (defScope lKind) g cdg (defBody lKind) "_law_work" q (TTk CL) := by
  intro f c' s H Q tl act hc h
  refine ⟨_, pss_cons (ps_try_as (X := (cxOf C8.CX0 X.prog X.w X.K X.mg X.base ["_law_work", "e", "_law_kinds"] "_law_kind" (defScope lKind) g cdg X.A X.stack s H C8.E0).nox) (i := 1) (c := .ref CP) (Wout := fun _ _ _ _ => False)
      (tb := fun W D σ H => ∃ Ech : XK, (∀ cls d σ' H', Ech cls d H' → W cls d σ' H') ∧ σ[0]? = some (some (.ref f)) ∧ H c' = some (LamX.CodeO c' q) ∧ tl Ech H (fun _ H' => D.nx σ H'))
      (ts := fun a cls d D σ H => ∃ z : cls = .ref CL ∧ d = none, σ.length = 3 → tSuite X.K CB CO CL CN CR CK CT a D σ H)
      rfl rfl scKind.nd rfl rfl ⟨rfl, by decide, .inl k.gP⟩ L2.takes0 (fun W pn xe tk _ => ?body) (fun a oe cls d pn hz hf => pss_of fun z => pss_len ?suite)) (pss_one (ps_ret pe_str)), ?read⟩
  case body =>
    refine ⟨fun pins s' σ H' D I h' => ?_⟩
    obtain ⟨Ech, hW, h1, h2, h3⟩ := h'
    exact (pss_one (ps_expr (act W pn xe Ech _ _ tk hW))).run pins s' σ H' D I ⟨h1, h2, h3⟩
  case suite =>
    obtain ⟨rfl, rfl⟩ := z
    exact pss_cons (ps_set (i := 2) scKind.nd rfl (.inl rfl) (pe_lst (pa_cons (pe_callB (call_isE k.x hz hf) (by rfl) T.isinstance (by decide +kernel) (pa_cons (pv 1) (pa_cons (pe_glob (v := .ref CB) rfl k.gB rfl) pa_nil))) (pa_cons (pe_callB (call_isE k.x hz hf) (by rfl) T.isinstance (by decide +kernel) (pa_cons (pv 1) (pa_cons (pe_glob (v := .ref CO) rfl k.gO rfl) pa_nil))) (pa_cons (pe_callB (call_isE k.x hz hf) (by rfl) T.isinstance (by decide +kernel) (pa_cons (pv 1) (pa_cons (pe_glob (v := .ref CL) rfl k.gL rfl) pa_nil))) (pa_cons (pe_callB (call_isE k.x hz hf) (by rfl) T.isinstance (by decide +kernel) (pa_cons (pv 1) (pa_cons (pe_glob (v := .ref CN) rfl k.gN rfl) pa_nil))) pa_nil))))))
      (pss_cons (ps_set (i := 2) scKind.nd rfl (.inl rfl) (pe_op op_cat (pv 2) (pe_lst (pa_cons (pe_callB (call_isE k.x hz hf) (by rfl) T.isinstance (by decide +kernel) (pa_cons (pv 1) (pa_cons (pe_glob (v := .ref CR) rfl k.gR rfl) pa_nil))) (pa_cons (pe_callB (call_isE k.x hz hf) (by rfl) T.isinstance (by decide +kernel) (pa_cons (pv 1) (pa_cons (pe_glob (v := .ref CK) rfl k.gK rfl) pa_nil))) (pa_cons (pe_callB (call_isE k.x hz hf) (by rfl) T.isinstance (by decide +kernel) (pa_cons (pv 1) (pa_cons (pe_glob (v := .ref CT) rfl k.gT rfl) pa_nil))) pa_nil))))))
      (pss_cons (ps_if (PW.pt (pw_or (pt_cmpR op_ne (pe_bm PySem.F.plainAttrs_list PySem.F.slot_list_count PySem.F.type_list_count mt_countV (pv 2) (pa_cons pe_bl pa_nil)) pe_int (nomark _))
          (pw_or1 (pt_not (pt_val (pe_callB (call_isE k.x hz hf) (by rfl) T.isinstance (by decide +kernel) (pa_cons (pv 1) (pa_cons (pe_bltn (by rfl) k.gV (by decide +kernel) (v := .ty "ValueError") rfl) pa_nil)))))))) (pss_one (ps_ret pe_str)) pss_nil)
      (pss_one (ps_ret (pe_ix ix_list (pe_lst (pa_cons pe_str (pa_cons pe_str (pa_cons pe_str (pa_cons pe_str (pa_cons pe_str (pa_cons pe_str (pa_cons pe_str pa_nil)))))))) (pe_bm PySem.F.plainAttrs_list PySem.F.slot_list_index PySem.F.type_list_index mt_index (pv 2) (pa_cons pe_bl pa_nil)) (fun _ _ => rfl))))))
  case read =>
    refine ⟨fun cls d H' => cls = .ref CL ∧ d = none ∧ ∀ H'', Kp [] H' H'' → Q (.str "NoLayer") H'', fun cls d σ' H' hE => ?_, rfl, hc, h⟩
    obtain ⟨rfl, rfl, qe⟩ := hE
    refine ⟨true, k.e, fun _ a ha => ⟨⟨rfl, rfl⟩, fun hl => ?_⟩, fun z => by cases z⟩
    rw [List.length_set] at hl
    match σ', hl with
    | [x0, x1, x2], _ =>
      refine ⟨_, rfl, _, _, _, rfl, fun _ r => r, k.iB, _, rfl, _, _, _, rfl, fun _ r => r, k.iO, _, rfl, _, _, _, rfl, fun _ r => r, k.iL, _, rfl, _, _, _, rfl, fun _ r => r, k.iN, (by show 4 ≤ sizeLine; decide), fun l1 hl1 => ?_⟩
      have k1 : Kp [] H' (upd H' l1 (.lst [.bl false, .bl false, .bl true, .bl false])) := Kp.new hl1
      have e1 : upd H' l1 (.lst [.bl false, .bl false, .bl true, .bl false]) l1 = some (.lst [.bl false, .bl false, .bl true, .bl false]) := upd_same
      generalize upd H' l1 (.lst [.bl false, .bl false, .bl true, .bl false]) = H1 at k1 e1 ⊢
      refine ⟨_, rfl, _, rfl, _, _, _, rfl, fun _ r => r, k.iR, _, rfl, _, _, _, rfl, fun _ r => r, k.iK, _, rfl, _, _, _, rfl, fun _ r => r, k.iT, (by show 3 ≤ sizeLine; decide), fun l2 hl2 => ?_⟩
      have k2 : Kp [] H1 (upd H1 l2 (.lst [.bl false, .bl false, .bl false])) := Kp.new hl2
      have e2 : upd H1 l2 (.lst [.bl false, .bl false, .bl false]) l2 = some (.lst [.bl false, .bl false, .bl false]) := upd_same
      generalize upd H1 l2 (.lst [.bl false, .bl false, .bl false]) = H2 at k2 e2 ⊢
      refine ⟨l1, l2, _, _, rfl, rfl, k2.lst e1 List.not_mem_nil, e2, (by show 7 ≤ sizeLine; decide), fun l3 hl3 => ?_⟩
      have k3 : Kp [] H2 (upd H2 l3 (.lst ([.bl false, .bl false, .bl true, .bl false] ++ [.bl false, .bl false, .bl false]))) := Kp.new hl3
      have e3 : SqL X.K (upd H2 l3 (.lst ([.bl false, .bl false, .bl true, .bl false] ++ [.bl false, .bl false, .bl false]))) l3 [.bl false, .bl false, .bl true, .bl false, .bl false, .bl false, .bl false] := SqL.of upd_same
      generalize upd H2 l3 (.lst ([.bl false, .bl false, .bl true, .bl false] ++ [.bl false, .bl false, .bl false])) = H3 at k3 e3 ⊢
      refine ⟨_, rfl, .inl ⟨rfl, _, e3⟩, l3, _, .bl true, rfl, rfl, e3, rfl, rfl, rfl, _, rfl, iteF' (by decide +kernel) ?_⟩
      refine ⟨_, rfl, _, _, _, rfl, fun _ r => r, k.iV, true, rfl, iteF ?_⟩
      refine ⟨(by show 7 ≤ sizeLine; decide), fun l4 hl4 => ?_⟩
      have k4 := Kp.new (S := []) (o := .lst [.str "NoBody", .str "Outside", .str "NoLayer", .str "NoProp", .str "BadReach", .str "BadPlace", .str "BadText"]) hl4
      have e4 := k4.sqL e3 List.not_mem_nil
      refine ⟨_, rfl, .inl ⟨rfl, _, e4⟩, l3, _, .bl true, 2, .bl true, rfl, rfl, e4, rfl, rfl, rfl, rfl, (fun m z hm hz => ?_), ?_⟩
      · rcases (show m = 0 ∨ m = 1 by omega) with rfl | rfl
        · have e : V.bl false = z := Option.some.inj hz
          rw [← e]
          rfl
        · have e : V.bl false = z := Option.some.inj hz
          rw [← e]
          rfl
      · exact ⟨l4, _, 2, _, rfl, rfl, SqL.of upd_same, rfl, qe _ (((k1.trans k2).trans k3).trans k4)⟩
end LP
end

section
set_option Elab.async false
set_option linter.all false
set_option maxRecDepth 100000
set_option maxHeartbeats 4000000
/-! cells as data, bodies' sizes -/
namespace LP
open PySem PySem.Spec PyProof.Rows L2 Ly GY
section
variable [LamTab]
theorem depthCs (cs : List C3) : (PyData.list (cs.map cD)).depth ≤ 2 := by
  have := cDs_depth cs
  simp only [PyData.depth]
  omega
theorem okDs_cells : ∀ cs : List C3, okDs (cs.map cD) = true
  | [] => rfl
  | c :: cs => by
    show (okD (cD c) && okDs (cs.map cD)) = true
    rw [okDs_cells cs]
    rfl
theorem okD_cellsL {cs : List C3} (h : cs.length ≤ 1000) : okD (.list (cs.map cD)) = true := by
  show (okDs (cs.map cD) && decide ((cs.map cD).length ≤ 1000)) = true
  rw [okDs_cells, List.length_map, decide_eq_true h]
  rfl
theorem nb_dp : ∀ b : Bd, nb b + 1 ≤ 2 ^ dp b
  | .block .. => by show 1 + 1 ≤ 2 ^ 1; decide
  | .cells _ => by show 1 + 1 ≤ 2 ^ 1; decide
  | .wth p q => nb2 p q (nb_dp p) (nb_dp q)
  | .common p q => nb2 p q (nb_dp p) (nb_dp q)
  | .less p q => nb2 p q (nb_dp p) (nb_dp q)
  | .moved _ p => nb1 p (nb_dp p)
  | .turnX p => nb1 p (nb_dp p)
  | .turnY p => nb1 p (nb_dp p)
  | .turnZ p => nb1 p (nb_dp p)
where
  nb1 (p : Bd) (h : nb p + 1 ≤ 2 ^ dp p) : 1 + nb p + 1 ≤ 2 ^ (1 + dp p) := by
    have e : 2 ^ (1 + dp p) = 2 * 2 ^ dp p := by rw [Nat.add_comm, Nat.pow_succ, Nat.mul_comm]
    have := nb_pos p
    omega
  nb2 (p q : Bd) (h : nb p + 1 ≤ 2 ^ dp p) (k : nb q + 1 ≤ 2 ^ dp q) : 1 + nb p + nb q + 1 ≤ 2 ^ (1 + max (dp p) (dp q)) := by
    have e : 2 ^ (1 + max (dp p) (dp q)) = 2 * 2 ^ max (dp p) (dp q) := by rw [Nat.add_comm, Nat.pow_succ, Nat.mul_comm]
    have h1 : 2 ^ dp p ≤ 2 ^ max (dp p) (dp q) := Nat.pow_le_pow_right (by decide) (Nat.le_max_left _ _)
    have h2 : 2 ^ dp q ≤ 2 ^ max (dp p) (dp q) := Nat.pow_le_pow_right (by decide) (Nat.le_max_right _ _)
    omega
theorem nb_of_dp {b : Bd} {n : Nat} (h : dp b ≤ n) : nb b + 1 ≤ 2 ^ n := Nat.le_trans (nb_dp b) (Nat.pow_le_pow_right (by decide) h)
theorem eqv_same (ps : List C3) : PyData.eqv (.list (ps.map cD)) (.list (ps.map cD)) = true := SeqAt.eqv_refl _ (SeqAt.canLay_of_shaped (cDs_shapedL ps))
theorem okD_cellsB {cs : List C3} (h : cs.length ≤ 1000) : okD (bD (.cells cs)) = true := by
  have e : okDs (cs.map cD) = true := okDs_cells cs
  show (true && ((okDs (cs.map cD) && decide ((cs.map cD).length ≤ 1000)) && true) && true) = true
  rw [e, List.length_map, decide_eq_true h]
  rfl
theorem depthB (cs : List C3) : (bD (.cells cs)).depth ≤ 4 := by
  have := cDs_depth cs
  show PyData.depth (.tuple [.str "cells", .tuple (cs.map cD)]) ≤ 4
  simp only [PyData.depth, PyData.depthAll]
  omega
end
end LP
end

section
set_option Elab.async false
set_option linter.all false
set_option maxRecDepth 100000
set_option maxHeartbeats 4000000
/-! what laws share -/
namespace LP
open PySem PySem.Spec PyProof.Rows L2 Ly GY
section
variable [LamTab]
/-- the def _law_kind as pe_lam3 wants it, and the classes -/
structure KF (K : PySem.W.Frag) (mg : Str → Option Value) where
  (CP CB CO CL CN CR CK CT : Addr)
  k : Kinds K mg CP CB CO CL CN CR CK CT
  fK : Addr
  (dVK kVK docK pmK cdvK ctK ocK : Value)
  (anK odK : Option Addr)
  oslK : Array (Option Value)
  mK : mg "_law_kind" = some (.ref fK)
  kK : PySem.W.keepIn K (.ref fK) = true
  lK : K.lookup fK = some ⟨ocK, odK, .func (PySem.W.fnOf "_law_kind" "_law_kind" (defArgs lKind) (defBody lKind) (defScope lKind) dVK kVK docK pmK anK cdvK ctK), oslK⟩
  cK : PySem.W.codeIn K cdvK "_law_kind" = true
  bK : Binds K (PySem.W.fnOf "_law_kind" "_law_kind" (defArgs lKind) (defBody lKind) (defScope lKind) dVK kVK docK pmK anK cdvK ctK) ["_law_work"] []
/-- what the tables are -/
structure Lv (H : Hp) (Pt Pr Ph Pw Ps : Addr) : Prop where
  tb : Tb H Pt Pr Ph
  w : TGen H Pw
  s : TGen H Ps
  l : LamX.TabS H LamTab.P LamTab.q
theorem Lv.mono {S : List Addr} {H H' : Hp} {Pt Pr Ph Pw Ps : Addr} (v : Lv H Pt Pr Ph Pw Ps) (k : Kp S H H') : Lv H' Pt Pr Ph Pw Ps := ⟨v.tb.mono k, k.tab _ v.w, k.tab _ v.s, k.lam v.l⟩
end
end LP
end

section
set_option Elab.async false
set_option linter.all false
set_option maxRecDepth 100000
set_option maxHeartbeats 4000000
/-! _law_kind, of any of the classes -/
namespace LP
open PySem PySem.Spec PyProof.Rows L2 Ly GY
variable [LamTab] {P : Program} {W0 : World} {K : PySem.W.Frag} {mg : Str → Option Value} {base : Heap}
/-- the classes' names -/
structure KindN (mg : Str → Option Value) (CP CB CO CL CN CR CK CT : Addr) : Prop where
  gP : mg "PrintError" = some (.ref CP)
  gB : mg "NoBody" = some (.ref CB)
  gO : mg "Outside" = some (.ref CO)
  gL : mg "NoLayer" = some (.ref CL)
  gN : mg "NoProp" = some (.ref CN)
  gR : mg "BadReach" = some (.ref CR)
  gK : mg "BadPlace" = some (.ref CK)
  gT : mg "BadText" = some (.ref CT)
  gV : mg "ValueError" = none
/-- what an instance of the class C is: the one numbered j -/
structure KindAt (K : PySem.W.Frag) (CP CB CO CL CN CR CK CT : Addr) (C : Addr) (j : Fin 7) : Prop where
  e : PySem.W.exmOne K (.ref C) (.ref CP) = some true
  x : ExcC K C
  iB : PySem.W.kitOne K (.ref C) (.ref CB) = some (decide (j = 0))
  iO : PySem.W.kitOne K (.ref C) (.ref CO) = some (decide (j = 1))
  iL : PySem.W.kitOne K (.ref C) (.ref CL) = some (decide (j = 2))
  iN : PySem.W.kitOne K (.ref C) (.ref CN) = some (decide (j = 3))
  iR : PySem.W.kitOne K (.ref C) (.ref CR) = some (decide (j = 4))
  iK : PySem.W.kitOne K (.ref C) (.ref CK) = some (decide (j = 5))
  iT : PySem.W.kitOne K (.ref C) (.ref CT) = some (decide (j = 6))
  iV : PySem.W.kitOne K (.ref C) (.type "ValueError") = some true
def kindW : Fin 7 → Str := fun j => match j with
  | 0 => "NoBody" | 1 => "Outside" | 2 => "NoLayer" | 3 => "NoProp" | 4 => "BadReach" | 5 => "BadPlace" | 6 => "BadText"
def kindB (j : Fin 7) : List V := [.bl (decide (j = 0)), .bl (decide (j = 1)), .bl (decide (j = 2)), .bl (decide (j = 3)), .bl (decide (j = 4)), .bl (decide (j = 5)), .bl (decide (j = 6))]
def kindS : List V := [.str "NoBody", .str "Outside", .str "NoLayer", .str "NoProp", .str "BadReach", .str "BadPlace", .str "BadText"]
theorem kindB_count : ∀ j : Fin 7, (kindB j).countP (fun z => eqV z (.bl true)) = 1 := by decide +kernel
theorem kindB_at : ∀ j : Fin 7, (kindB j)[j.val]? = some (.bl true)
  | 0 => rfl | 1 => rfl | 2 => rfl | 3 => rfl | 4 => rfl | 5 => rfl | 6 => rfl
theorem kindB_flat (j : Fin 7) : (kindB j).all flatV = true := rfl
theorem kindB_eq : ∀ (j : Fin 7) (m : Nat), m < j.val → ((kindB j)[m]?.map fun z => eqV z (.bl true)) = some false := by decide +kernel
theorem kindB_pre (j : Fin 7) (m : Nat) (z : V) (hm : m < j.val) (hz : (kindB j)[m]? = some z) : eqV z (.bl true) = false := by
  have e := kindB_eq j m hm
  rw [hz] at e
  exact Option.some.inj e
theorem kindS_at : ∀ j : Fin 7, atI kindS (j.val : Int) = some (.str (kindW j))
  | 0 => rfl | 1 => rfl | 2 => rfl | 3 => rfl | 4 => rfl | 5 => rfl | 6 => rfl
/-- what _law_kind makes of a work that raises the class C -/
def TTk2 (C : Addr) (j : Fin 7) : (XK → Hp → VK → Prop) → Hp → VK → Prop := fun tl H Q => tl (fun cls d H' => cls = .ref C ∧ d = none ∧ ∀ H'', Kp [] H' H'' → Q (.str (kindW j)) H'') H (fun _ H' => Q (.str "") H')
def isT2 (K : PySem.W.Frag) (C a : Addr) (c : V) : TE := tCB (rIsE K C a) (tCons (tVar 1) (tCons (tC c) tNil))
def tSuite2 (K : PySem.W.Frag) (C CB CO CL CN CR CK CT a : Addr) : TS :=
  tSeq (tAsg (tLst (tCons (isT2 K C a (.ref CB)) (tCons (isT2 K C a (.ref CO)) (tCons (isT2 K C a (.ref CL)) (tCons (isT2 K C a (.ref CN)) tNil))))) (gName 2))
  (tSeq (tAsg (tOp rCat (tVar 2) (tLst (tCons (isT2 K C a (.ref CR)) (tCons (isT2 K C a (.ref CK)) (tCons (isT2 K C a (.ref CT)) tNil))))) (gName 2))
  (tSeq (tIfS (tOr (tTest (tOp rNe (tBM K "list" (rCountV K) (tVar 2) (tCons (tC (.bl true)) tNil)) (tC (.int 1)))) (tNot (tB (isT2 K C a (.ty "ValueError"))))) (tRet (tC (.str "other"))) tNext)
  (tRet (tOp (rIxL K) (tLst (tCons (tC (.str "NoBody")) (tCons (tC (.str "Outside")) (tCons (tC (.str "NoLayer")) (tCons (tC (.str "NoProp")) (tCons (tC (.str "BadReach")) (tCons (tC (.str "BadPlace")) (tCons (tC (.str "BadText")) tNil)))))))) (tBM K "list" (rIndex K) (tVar 2) (tCons (tC (.bl true)) tNil))))))
theorem kind_gives2 {X : Cx} {j : Fin 7} {C g CP CB CO CL CN CR CK CT : Addr} {cdg : Value} {q : Str} (T : Nm X.K X.mg) (n : KindN X.mg CP CB CO CL CN CR CK CT) (k : KindAt X.K CP CB CO CL CN CR CK CT C j) :
    LamX.GivesTo X ["_law_work", "e", "_law_kinds"] "_law_kind" (defScope lKind) g cdg (defBody lKind) "_law_work" q (TTk2 C j) := by
  intro f c' s H Q tl act hc h
  refine ⟨_, pss_cons (ps_try_as (X := (cxOf C8.CX0 X.prog X.w X.K X.mg X.base ["_law_work", "e", "_law_kinds"] "_law_kind" (defScope lKind) g cdg X.A X.stack s H C8.E0).nox) (i := 1) (c := .ref CP) (Wout := fun _ _ _ _ => False)
      (tb := fun W D σ H => ∃ Ech : XK, (∀ cls d σ' H', Ech cls d H' → W cls d σ' H') ∧ σ[0]? = some (some (.ref f)) ∧ H c' = some (LamX.CodeO c' q) ∧ tl Ech H (fun _ H' => D.nx σ H'))
      (ts := fun a cls d D σ H => ∃ z : cls = .ref C ∧ d = none, σ.length = 3 → tSuite2 X.K C CB CO CL CN CR CK CT a D σ H)
      rfl rfl scKind.nd rfl rfl ⟨rfl, by decide, .inl n.gP⟩ L2.takes0 (fun W pn xe tk _ => ?body) (fun a oe cls d pn hz hf => pss_of fun z => pss_len ?suite)) (pss_one (ps_ret pe_str)), ?read⟩
  case body =>
    refine ⟨fun pins s' σ H' D I h' => ?_⟩
    obtain ⟨Ech, hW, h1, h2, h3⟩ := h'
    exact (pss_one (ps_expr (act W pn xe Ech _ _ tk hW))).run pins s' σ H' D I ⟨h1, h2, h3⟩
  case suite =>
    obtain ⟨rfl, rfl⟩ := z
    exact pss_cons (ps_set (i := 2) scKind.nd rfl (.inl rfl) (pe_lst (pa_cons (pe_callB (call_isE k.x hz hf) (by rfl) T.isinstance (by decide +kernel) (pa_cons (pv 1) (pa_cons (pe_glob (v := .ref CB) rfl n.gB rfl) pa_nil))) (pa_cons (pe_callB (call_isE k.x hz hf) (by rfl) T.isinstance (by decide +kernel) (pa_cons (pv 1) (pa_cons (pe_glob (v := .ref CO) rfl n.gO rfl) pa_nil))) (pa_cons (pe_callB (call_isE k.x hz hf) (by rfl) T.isinstance (by decide +kernel) (pa_cons (pv 1) (pa_cons (pe_glob (v := .ref CL) rfl n.gL rfl) pa_nil))) (pa_cons (pe_callB (call_isE k.x hz hf) (by rfl) T.isinstance (by decide +kernel) (pa_cons (pv 1) (pa_cons (pe_glob (v := .ref CN) rfl n.gN rfl) pa_nil))) pa_nil))))))
      (pss_cons (ps_set (i := 2) scKind.nd rfl (.inl rfl) (pe_op op_cat (pv 2) (pe_lst (pa_cons (pe_callB (call_isE k.x hz hf) (by rfl) T.isinstance (by decide +kernel) (pa_cons (pv 1) (pa_cons (pe_glob (v := .ref CR) rfl n.gR rfl) pa_nil))) (pa_cons (pe_callB (call_isE k.x hz hf) (by rfl) T.isinstance (by decide +kernel) (pa_cons (pv 1) (pa_cons (pe_glob (v := .ref CK) rfl n.gK rfl) pa_nil))) (pa_cons (pe_callB (call_isE k.x hz hf) (by rfl) T.isinstance (by decide +kernel) (pa_cons (pv 1) (pa_cons (pe_glob (v := .ref CT) rfl n.gT rfl) pa_nil))) pa_nil))))))
      (pss_cons (ps_if (PW.pt (pw_or (pt_cmpR op_ne (pe_bm PySem.F.plainAttrs_list PySem.F.slot_list_count PySem.F.type_list_count mt_countV (pv 2) (pa_cons pe_bl pa_nil)) pe_int (nomark _))
          (pw_or1 (pt_not (pt_val (pe_callB (call_isE k.x hz hf) (by rfl) T.isinstance (by decide +kernel) (pa_cons (pv 1) (pa_cons (pe_bltn (by rfl) n.gV (by decide +kernel) (v := .ty "ValueError") rfl) pa_nil)))))))) (pss_one (ps_ret pe_str)) pss_nil)
      (pss_one (ps_ret (pe_ix ix_list (pe_lst (pa_cons pe_str (pa_cons pe_str (pa_cons pe_str (pa_cons pe_str (pa_cons pe_str (pa_cons pe_str (pa_cons pe_str pa_nil)))))))) (pe_bm PySem.F.plainAttrs_list PySem.F.slot_list_index PySem.F.type_list_index mt_index (pv 2) (pa_cons pe_bl pa_nil)) (fun _ _ => rfl))))))
  case read =>
    refine ⟨fun cls d H' => cls = .ref C ∧ d = none ∧ ∀ H'', Kp [] H' H'' → Q (.str (kindW j)) H'', fun cls d σ' H' hE => ?_, rfl, hc, h⟩
    obtain ⟨rfl, rfl, qe⟩ := hE
    refine ⟨true, k.e, fun _ a ha => ⟨⟨rfl, rfl⟩, fun hl => ?_⟩, fun z => by cases z⟩
    rw [List.length_set] at hl
    match σ', hl with
    | [x0, x1, x2], _ =>
      refine ⟨_, rfl, _, _, _, rfl, fun _ r => r, k.iB, _, rfl, _, _, _, rfl, fun _ r => r, k.iO, _, rfl, _, _, _, rfl, fun _ r => r, k.iL, _, rfl, _, _, _, rfl, fun _ r => r, k.iN, (by show 4 ≤ sizeLine; decide), fun l1 hl1 => ?_⟩
      have k1 : Kp [] H' (upd H' l1 (.lst [.bl (decide (j = 0)), .bl (decide (j = 1)), .bl (decide (j = 2)), .bl (decide (j = 3))])) := Kp.new hl1
      have e1 : upd H' l1 (.lst [.bl (decide (j = 0)), .bl (decide (j = 1)), .bl (decide (j = 2)), .bl (decide (j = 3))]) l1 = some (.lst [.bl (decide (j = 0)), .bl (decide (j = 1)), .bl (decide (j = 2)), .bl (decide (j = 3))]) := upd_same
      generalize upd H' l1 (.lst [.bl (decide (j = 0)), .bl (decide (j = 1)), .bl (decide (j = 2)), .bl (decide (j = 3))]) = H1 at k1 e1 ⊢
      refine ⟨_, rfl, _, rfl, _, _, _, rfl, fun _ r => r, k.iR, _, rfl, _, _, _, rfl, fun _ r => r, k.iK, _, rfl, _, _, _, rfl, fun _ r => r, k.iT, (by show 3 ≤ sizeLine; decide), fun l2 hl2 => ?_⟩
      have k2 : Kp [] H1 (upd H1 l2 (.lst [.bl (decide (j = 4)), .bl (decide (j = 5)), .bl (decide (j = 6))])) := Kp.new hl2
      have e2 : upd H1 l2 (.lst [.bl (decide (j = 4)), .bl (decide (j = 5)), .bl (decide (j = 6))]) l2 = some (.lst [.bl (decide (j = 4)), .bl (decide (j = 5)), .bl (decide (j = 6))]) := upd_same
      generalize upd H1 l2 (.lst [.bl (decide (j = 4)), .bl (decide (j = 5)), .bl (decide (j = 6))]) = H2 at k2 e2 ⊢
      refine ⟨l1, l2, _, _, rfl, rfl, k2.lst e1 List.not_mem_nil, e2, (by show 7 ≤ sizeLine; decide), fun l3 hl3 => ?_⟩
      have k3 : Kp [] H2 (upd H2 l3 (.lst ([.bl (decide (j = 0)), .bl (decide (j = 1)), .bl (decide (j = 2)), .bl (decide (j = 3))] ++ [.bl (decide (j = 4)), .bl (decide (j = 5)), .bl (decide (j = 6))]))) := Kp.new hl3
      have e3 : SqL X.K (upd H2 l3 (.lst ([.bl (decide (j = 0)), .bl (decide (j = 1)), .bl (decide (j = 2)), .bl (decide (j = 3))] ++ [.bl (decide (j = 4)), .bl (decide (j = 5)), .bl (decide (j = 6))]))) l3 (kindB j) := SqL.of upd_same
      generalize upd H2 l3 (.lst ([.bl (decide (j = 0)), .bl (decide (j = 1)), .bl (decide (j = 2)), .bl (decide (j = 3))] ++ [.bl (decide (j = 4)), .bl (decide (j = 5)), .bl (decide (j = 6))])) = H3 at k3 e3 ⊢
      refine ⟨_, rfl, .inl ⟨rfl, _, e3⟩, l3, _, .bl true, rfl, rfl, e3, rfl, kindB_flat j, rfl, _, rfl, iteF' (by rw [kindB_count j]; rfl) ?_⟩
      refine ⟨_, rfl, _, _, _, rfl, fun _ r => r, k.iV, true, rfl, iteF ?_⟩
      refine ⟨(by show 7 ≤ sizeLine; decide), fun l4 hl4 => ?_⟩
      have k4 := Kp.new (S := []) (o := .lst kindS) hl4
      have e4 := k4.sqL e3 List.not_mem_nil
      refine ⟨_, rfl, .inl ⟨rfl, _, e4⟩, l3, _, .bl true, j.val, .bl true, rfl, rfl, e4, rfl, kindB_flat j, kindB_at j, rfl, (fun m z hm hz => kindB_pre j m z hm hz), ?_⟩
      exact ⟨l4, _, (j.val : Int), _, rfl, rfl, SqL.of upd_same, kindS_at j, qe _ (((k1.trans k2).trans k3).trans k4)⟩
end LP
end

section
set_option Elab.async false
set_option linter.all false
set_option maxRecDepth 100000
set_option maxHeartbeats 4000000
/-! comprehensions whose values are data -/
namespace LP
open PySem PySem.Spec PyProof.Rows L2 Ly GY
variable [LamTab] {P : Program} {W0 : World} {K : PySem.W.Frag} {mg : Str → Option Value} {base : Heap}
theorem _root_.L2.DpAll.length {K : PySem.W.Frag} {H : Hp} : ∀ {xs : List V} {ds : List PyData}, DpAll K H xs ds → xs.length = ds.length
  | _, _, .nil => rfl
  | _, _, .cons _ b => by rw [List.length_cons, List.length_cons, b.length]
theorem _root_.L2.DpAll.get {K : PySem.W.Frag} {H : Hp} : ∀ {xs : List V} {ds : List PyData} {i : Nat} {x : V}, DpAll K H xs ds → xs[i]? = some x → ∃ d, ds[i]? = some d ∧ Dp K H x d
  | _, _, 0, _, .cons a _, h => ⟨_, rfl, by rw [← Option.some.inj h]; exact a⟩
  | _, _, i + 1, _, .cons _ b, h => b.get (i := i) h
theorem dps_keep {S : List Addr} {H H' : Hp} {vs : List V} {ds : List PyData} (k : Kp S H H') (n : noLs ds = true) (h : DpAll K H vs ds) : DpAll K H' vs ds := dps_mono k ds h (.inl n)
theorem dp_keep {S : List Addr} {H H' : Hp} {v : V} {d : PyData} (k : Kp S H H') (n : noL d = true) (h : Dp K H v d) : Dp K H' v d := dp_mono k d h (.inl n)
theorem dps_append {H : Hp} : ∀ {xs : List V} {ds : List PyData} {ys es}, DpAll K H xs ds → DpAll K H ys es → DpAll K H (xs ++ ys) (ds ++ es)
  | _, _, _, _, .nil, h => h
  | _, _, _, _, .cons a b, h => .cons a (dps_append b h)
theorem dps_one {H : Hp} {v : V} {d : PyData} (h : Dp K H v d) : DpAll K H [v] [d] := .cons h .nil
theorem dps_split {H : Hp} : ∀ {ds es : List PyData} {xs : List V}, DpAll K H xs (ds ++ es) → ∃ ys zs, xs = ys ++ zs ∧ DpAll K H ys ds ∧ DpAll K H zs es
  | [], _, xs, h => ⟨[], xs, rfl, .nil, h⟩
  | d :: ds, es, _, .cons a b => by
    obtain ⟨ys, zs, e, h1, h2⟩ := dps_split (ds := ds) b
    exact ⟨_ :: ys, zs, by rw [e]; rfl, .cons a h1, h2⟩
theorem dps_ints {H : Hp} : ∀ {vs : List V} {ns : List Int}, DpAll K H vs (ns.map PyData.int) → vs = ns.map V.int
  | [], [], _ => rfl
  | _ :: _, [], h => by cases h
  | [], _ :: _, h => by cases h
  | v :: vs, n :: ns, .cons a b => by
    have e := of_dpi a
    rw [dps_ints b, e]
    rfl
theorem noLs_map {α : Type} {f : α → PyData} (h : ∀ a, noL (f a) = true) : ∀ l : List α, noLs (l.map f) = true
  | [] => rfl
  | a :: l => by
    show (noL (f a) && noLs (l.map f)) = true
    rw [h a, noLs_map h l]
    rfl
theorem noLs_at {α : Type} {f : α → PyData} {l : List α} (h : ∀ a ∈ l, noL (f a) = true) : noLs (l.map f) = true := by
  induction l with
  | nil => rfl
  | cons a l ih =>
    show (noL (f a) && noLs (l.map f)) = true
    rw [h a List.mem_cons_self, ih fun b hb => h b (List.mem_cons_of_mem _ hb)]
    rfl
theorem take_filter {α : Type} {keep : α → Bool} {cs : List α} {i : Nat} {c : α} (h : cs[i]? = some c) : (cs.take (i + 1)).filter keep = (cs.take i).filter keep ++ (if keep c = true then [c] else []) := by
  rw [List.take_add_one, h, List.filter_append]
  congr 1
  show List.filter keep [c] = _
  rw [List.filter_cons]
  simp
theorem range_filter (keep : Nat → Bool) (i : Nat) : (List.range (i + 1)).filter keep = (List.range i).filter keep ++ (if keep i = true then [i] else []) := by
  rw [List.range_succ, List.filter_append]
  congr 1
  rw [List.filter_cons]
  simp
theorem small_size {n : Nat} (h : n ≤ 100000) : n < sizeLine := by
  have : (100000 : Nat) < sizeLine := by decide
  omega
theorem yesP {F G : Hp → Prop} {σ : L2.St} {H : Hp} (h : F H) : tYes σ H fun b H3 => if b = true then F H3 else G H3 := by
  show (if true = true then F H else G H)
  rw [if_pos rfl]
  exact h
/-- over a range: what is kept, as data -/
theorem lc_dataR {n : Nat} {D : Addr} {H1 : Hp} {lo : Int} {g : TG} {tt : TT} {te : TE} {vs : List Nat} {σ : L2.St} {Qd : Hp → Prop} (keep : Nat → Bool) (f : Nat → PyData) (nl : ∀ i, noL (f i) = true) (hD : H1 D = none) (hn : n ≤ 100000)
    (hs : ∀ (i : Nat) (H' : Hp) (Nx : V → Hp → Prop) (Z : Hp → Prop), i < n → Kp [] H1 H' → (∀ H'' y, Kp [] H' H'' → keep i = true → Dp K H'' y (f i) → Nx y H'') → (∀ H'', Kp [] H' H'' → keep i = false → Z H'') →
      g (.int (lo + i)) (wipe σ vs) H' fun σ2 H2 => wipe σ2 vs = wipe σ vs ∧ tt σ2 H2 fun b H3 => if b = true then te σ2 H3 Nx else Z H3)
    (hd : ∀ (H' : Hp) (ys : List V), Kp [] H1 H' → H' D = some (.lst ys) → DpAll K H' ys (((List.range n).filter keep).map f) → Qd H') :
    ∃ W : Nat → Nat → Hp → Prop, (∃ m, W 0 m (upd H1 D (.lst []))) ∧ ∀ i m H, W i m H →
      ((Itr lo n).stop i H ∧ Qd H) ∨ ((Itr lo n).go i H ∧ ∃ Nx : Hp → Prop, (∀ H', Nx H' → ∃ m', m' < m ∧ W (i + 1) m' H') ∧ ∀ x H', (Itr lo n).yld i H x H' → g x (wipe σ vs) H' fun σ2 H2 => wipe σ2 vs = wipe σ vs ∧ tt σ2 H2 fun b H3 =>
        if b = true then te σ2 H3 fun y H4 => ∃ acc, H4 D = some (.lst acc) ∧ acc.length < sizeLine ∧ Nx (upd H4 D (.lst (acc ++ [y]))) else Nx H3) := by
  refine lc_range (fun i H' => Kp [] H1 H' ∧ ∃ acc, H' D = some (.lst acc) ∧ DpAll K H' acc (((List.range i).filter keep).map f)) ⟨Kp.new hD, [], upd_same, .nil⟩ (fun i H' hi pv => ?_) (fun H' ⟨k, acc, h1, h2⟩ => hd H' acc k h1 h2)
  obtain ⟨k, acc, hA, hAi⟩ := pv
  refine hs i H' _ _ hi k (fun H'' y k'' hk hy => ?_) (fun H'' k'' hk => ?_)
  · have hA2 := k''.lst hA List.not_mem_nil
    have hAl := hAi.length
    rw [List.length_map] at hAl
    have hfl := List.length_filter_le keep (List.range i)
    rw [List.length_range] at hfl
    have kc : Kp [D] H'' (upd H'' D (.lst (acc ++ [y]))) := Kp.chg hA2 (List.mem_singleton.mpr rfl)
    refine ⟨acc, hA2, small_size (by omega), (k.trans k'').chg0 hD hA2, _, upd_same, ?_⟩
    rw [range_filter, if_pos hk, List.map_append]
    exact dps_append (dps_keep kc (noLs_map nl _) (dps_keep k'' (noLs_map nl _) hAi)) (dps_one (dp_keep kc (nl i) hy))
  · refine ⟨k.trans k'', acc, k''.lst hA List.not_mem_nil, ?_⟩
    rw [range_filter, hk, if_neg (by decide), List.append_nil]
    exact dps_keep k'' (noLs_map nl _) hAi
/-- over a list of data -/
theorem lc_dataL {α : Type} {a D : Addr} {xs : List V} {H1 : Hp} {g : TG} {tt : TT} {te : TE} {vs : List Nat} {σ : L2.St} {Qd : Hp → Prop} (src : List α) (dA : α → PyData) (keep : α → Bool) (f : α → PyData) (nA : ∀ c, noL (dA c) = true) (nl : ∀ c ∈ src, noL (f c) = true) (hD : H1 D = none) (hT : SqL K H1 a xs) (hI : DpAll K H1 xs (src.map dA)) (hz : src.length ≤ 100000)
    (hs : ∀ (c : α) (x : V) (H' : Hp) (Nx : V → Hp → Prop) (Z : Hp → Prop), c ∈ src → Kp [] H1 H' → Dp K H' x (dA c) → (∀ H'' y, Kp [] H' H'' → keep c = true → Dp K H'' y (f c) → Nx y H'') → (∀ H'', Kp [] H' H'' → keep c = false → Z H'') →
      g x (wipe σ vs) H' fun σ2 H2 => wipe σ2 vs = wipe σ vs ∧ tt σ2 H2 fun b H3 => if b = true then te σ2 H3 Nx else Z H3)
    (hd : ∀ (H' : Hp) (ys : List V), Kp [] H1 H' → H' D = some (.lst ys) → DpAll K H' ys ((src.filter keep).map f) → Qd H') :
    ∃ W : Nat → Nat → Hp → Prop, (∃ m, W 0 m (upd H1 D (.lst []))) ∧ ∀ i m H, W i m H →
      ((Itl K a).stop i H ∧ Qd H) ∨ ((Itl K a).go i H ∧ ∃ Nx : Hp → Prop, (∀ H', Nx H' → ∃ m', m' < m ∧ W (i + 1) m' H') ∧ ∀ x H', (Itl K a).yld i H x H' → g x (wipe σ vs) H' fun σ2 H2 => wipe σ2 vs = wipe σ vs ∧ tt σ2 H2 fun b H3 =>
        if b = true then te σ2 H3 fun y H4 => ∃ acc, H4 D = some (.lst acc) ∧ acc.length < sizeLine ∧ Nx (upd H4 D (.lst (acc ++ [y]))) else Nx H3) := by
  have hl := hI.length
  rw [List.length_map] at hl
  have nf : ∀ i, noLs ((((src.take i).filter keep)).map f) = true := fun i => noLs_at fun c hc => nl c (List.mem_of_mem_take (List.mem_filter.mp hc).1)
  refine lc_list (K := K) (a := a) (xs := xs) (fun i H' => Kp [] H1 H' ∧ ∃ acc, H' D = some (.lst acc) ∧ DpAll K H' acc (((src.take i).filter keep).map f)) ⟨Kp.new hD, [], upd_same, .nil⟩ (fun i H' _ k => k.1.sqL hT List.not_mem_nil) (fun i x H' hx pv => ?_) (fun H' pv => ?_)
  · obtain ⟨k, acc, hA, hAi⟩ := pv
    obtain ⟨d, hd0, hd'⟩ := (dps_keep k (noLs_map nA _) hI).get hx
    rw [List.getElem?_map] at hd0
    obtain ⟨c, hc, rfl⟩ := Option.map_eq_some_iff.mp hd0
    refine hs c x H' _ _ (List.mem_of_getElem? hc) k hd' (fun H'' y k'' hk hy => ?_) (fun H'' k'' hk => ?_)
    · have hA2 := k''.lst hA List.not_mem_nil
      have hi : i < src.length := (List.getElem?_eq_some_iff.mp hc).1
      have hAl := hAi.length
      rw [List.length_map] at hAl
      have hfl := List.length_filter_le keep (src.take i)
      rw [List.length_take] at hfl
      have kc : Kp [D] H'' (upd H'' D (.lst (acc ++ [y]))) := Kp.chg hA2 (List.mem_singleton.mpr rfl)
      refine ⟨acc, hA2, small_size (by omega), (k.trans k'').chg0 hD hA2, _, upd_same, ?_⟩
      rw [take_filter hc, if_pos hk, List.map_append]
      exact dps_append (dps_keep kc (nf _) (dps_keep k'' (nf _) hAi)) (dps_one (dp_keep kc (nl c (List.mem_of_getElem? hc)) hy))
    · refine ⟨k.trans k'', acc, k''.lst hA List.not_mem_nil, ?_⟩
      rw [take_filter hc, hk, if_neg (by decide), List.append_nil]
      exact dps_keep k'' (nf _) hAi
  · obtain ⟨k, acc, hA, hAi⟩ := pv
    rw [hl, List.take_length] at hAi
    exact hd H' acc k hA hAi
theorem flat_ints : ∀ ns : List Int, (ns.map V.int).all flatV = true
  | [] => rfl
  | _ :: ns => flat_ints ns
theorem inV_ints (x : Int) : ∀ ns : List Int, inV (.int x) (ns.map V.int) = decide (x ∈ ns)
  | [] => rfl
  | n :: ns => by
    have h := inV_ints x ns
    unfold inV at h ⊢
    rw [List.map_cons, List.any_cons, h]
    by_cases e : n = x
    · subst e
      rw [show eqV (.int n) (.int n) = true from by simp [eqV]]
      simp
    · rw [show eqV (.int n) (.int x) = false from by simp [eqV, e]]
      have e' : ¬ x = n := fun z => e z.symm
      simp [e']
end LP
end

section
set_option Elab.async false
set_option linter.all false
set_option maxRecDepth 100000
set_option maxHeartbeats 2000000
/-! _row, slice_at -/
namespace LP
open PySem PySem.Spec PyProof.Rows L2 Ly GY
variable [LamTab] {P : Program} {W0 : World} {K : PySem.W.Frag} {mg : Str → Option Value} {base : Heap}
/-! ### _row -/
def sg (cs : List C3) (y z : Int) (x : Nat) : Str := if decide (((x : Int), y, z) ∈ cs) = true then "#" else "."
def rowT (cs : List C3) (y z : Int) : Str := Txt.join "" ((List.range 4).map (sg cs y z))
theorem row_ok (cs : List C3) (y z : Int) : JoinOk "" ((List.range 4).map (sg cs y z)) = true := by
  show JoinOk "" [sg cs y z 0, sg cs y z 1, sg cs y z 2, sg cs y z 3] = true
  unfold sg
  cases decide ((((0 : Nat) : Int), y, z) ∈ cs) <;> cases decide ((((1 : Nat) : Int), y, z) ∈ cs) <;> cases decide ((((2 : Nat) : Int), y, z) ∈ cs) <;> cases decide ((((3 : Nat) : Int), y, z) ∈ cs) <;> decide +kernel
def spRow (K : PySem.W.Frag) (Pw : Addr) : Sp := fun vs H Q _ => ∃ (v : V) (y z : Int) (cs : List C3), vs = [v, .int y, .int z] ∧ CellsL K H v cs ∧ TGen H Pw ∧ ∀ H', Kp [] H H' → Q (.str (rowT cs y z)) H'
theorem scRow : FnScope ["held", "y", "z"] ["held", "y", "z"] (defScope sRow) := ⟨rfl, rfl, rfl, by decide +kernel, rfl, by decide +kernel, by decide +kernel⟩
theorem gRow : GX.GOk ["held", "y", "z"] (defScope sRow) (genOf (stOf sRow 0)) "x" := ⟨rfl, rfl, by decide +kernel, rfl, rfl, by decide +kernel, by decide +kernel, by decide +kernel, by decide⟩
theorem ok_row {f c Pw : Addr} {fd : FuncData} (F : FunC K "_row" "_row" sRow f fd c) (TB : GxR.TabB base mg c Pw) (T : Nm K mg) : FnOk P W0 K mg base CX0 3 f fd ["held", "y", "z"] (spRow K Pw) := by
  obtain ⟨ts, mS⟩ := T.side
  refine F.ok scRow (fun vs H Q E h => ?_) (fun A outer s H vs Q E hr h => ?_)
  · obtain ⟨v, y, z, cs, rfl, _⟩ := h
    rfl
  · obtain ⟨v, y, z, cs, rfl, hC, hPw, q⟩ := h
    refine ⟨_, pss_one (ps_ret (pe_fr fun hf => GX.pe_joinG (k := 0) hr TB rfl scRow.nd hf gRow (show ("x" : Str) ∉ (["held", "y", "z"] : List Str) by decide) pe_str (pi_range1 (by rfl) T.range (pa_cons (pe_glob (v := .int 4) rfl mS ⟨_, rfl⟩) pa_nil))
      (fun A s H C code fp hr1 => pe_ifExp (pt_cmpR (r := rInD K) (op_inD (u65 hr1)) (pe_tup (pa_cons (pv 3) (pa_cons (pv 1) (pa_cons (pv 2) pa_nil)))) (pv 0) (by rfl)) pe_str pe_str))), ?_⟩
    refine ⟨"", rfl, 4, rfl, by decide, by decide, hPw.1, fun H2 tb => ?_⟩
    refine ⟨(List.range 4).map fun x => V.str (sg cs y z x), _, (by rw [List.length_map, List.length_range]; decide), ⟨Nat.zero_le _, ?p0⟩, GX.turn_rng (lo := 0) (n := 4) (fun i H' => Kp [] H H') rfl (fun i H' hi k => ?ps) (fun H' k => ?pd)⟩
    case p0 => exact Kp.tabbed hPw tb
    case ps =>
      refine ⟨_, rfl, _, rfl, _, rfl, (by show 3 ≤ sizeLine; decide), fun t ht => ?_⟩
      have kt := Kp.new (S := []) (o := .tup [.int (0 + (i : Int)), .int y, .int z]) ht
      have hC' := cellsL_mono (k.trans kt) hC
      refine ⟨_, rfl, cD ((i : Int), y, z), cs.map cD, dp_c (SqT.of (by rw [upd_same, Int.zero_add])), hC', cD_shaped _, cDs_shapedL cs, _, rfl, ?_⟩
      rw [any_eqv]
      have e : ((List.range 4).map fun x => V.str (sg cs y z x))[i]? = some (V.str (sg cs y z i)) := by
        rw [List.getElem?_map, List.getElem?_range hi]
        rfl
      unfold sg at e
      cases d : decide (((i : Int), y, z) ∈ cs) with
      | true =>
        rw [d, if_pos rfl] at e
        exact iteT ⟨e, by omega, k.trans kt⟩
      | false =>
        rw [d, if_neg (by decide)] at e
        exact iteF ⟨e, by omega, k.trans kt⟩
    case pd => exact ⟨(List.range 4).map (sg cs y z), (by rw [List.map_map]; rfl), row_ok cs y z, q H' k⟩
/-! ### slice_at -/
def spSlice (K : PySem.W.Frag) (Pt Pr Ph Pw Ps C : Addr) : Sp := fun vs H Q E => ∃ (v : V) (b : Bd) (z : Int), vs = [v, .int z] ∧ Body K H v b ∧ Good b ∧ nb b ≤ 20 ∧ Tb H Pt Pr Ph ∧ TGen H Pw ∧ TGen H Ps ∧
  ((0 ≤ z ∧ z ≤ 3) → ∀ (H' : Hp) (t : Addr), Kp [] H H' → H t = none → H' t = some (.tup ((List.range 4).map fun y : Nat => V.str (rowT (all b) (y : Int) z))) → Q (.ref t) H') ∧
  (¬ (0 ≤ z ∧ z ≤ 3) → ∀ H' : Hp, Kp [] H H' → E (.ref C) none H')
theorem scSlice : FnScope ["body", "z", "held"] ["body", "z"] (defScope sSlice) := ⟨rfl, rfl, rfl, by decide +kernel, rfl, by decide +kernel, by decide +kernel⟩
theorem gSlice : GX.GOk ["body", "z", "held"] (defScope sSlice) (genOf (stOf sSlice 2)) "y" := ⟨rfl, rfl, by decide +kernel, rfl, rfl, by decide +kernel, by decide +kernel, by decide +kernel, by decide⟩
/-! ### check_layer -/
def spChk (C : Addr) : Sp := fun vs H Q E => ∃ z : Int, vs = [.int z] ∧ ((0 ≤ z ∧ z ≤ 3) → Q .non H) ∧ (¬ (0 ≤ z ∧ z ≤ 3) → E (.ref C) none H)
theorem scChk : FnScope ["z"] ["z"] (defScope sChk) := ⟨rfl, rfl, rfl, by decide +kernel, rfl, by decide +kernel, by decide +kernel⟩
theorem ok_chk {f C fN : Addr} {fd dN : FuncData} (F : Fun K "check_layer" "check_layer" sChk f fd) (T : Nm K mg) (X : Ex K mg "NoLayer" C)
    (NN : Fn K mg "is_number" fN dN ["value", "low", "high"]) (GN : FnOk P W0 K mg base CX0 1 fN dN ["value", "low", "high"] spNum) : FnOk P W0 K mg base (L2.CX P W0) 2 f fd ["z"] (spChk C) := by
  obtain ⟨tl, mL⟩ := T.last
  refine F.okX scChk (fun vs H Q E h => ?_) (fun cdv A outer s H vs Q E hr h => ?_)
  · obtain ⟨z, rfl, _⟩ := h
    rfl
  · obtain ⟨z, rfl, q1, q2⟩ := h
    refine ⟨_, pss_one (ps_if (pt_not (pt_val (pe_call GN hr (by rfl) NN.m NN.kp NN.b .nil pass0 (pa_cons (pv 0) (pa_cons pe_int (pa_cons (pe_glob (v := .int 3) rfl mL ⟨_, rfl⟩) pa_nil))))))
        (pss_one (ps_raise rfl (takes_of rfl rfl rfl rfl) (pmk_own PySem.F.excBase_ValueError X.x X.g X.k (raises_own X.b X.t) rfl))) pss_nil), ?_⟩
    refine ⟨_, rfl, z, 0, 3, rfl, _, rfl, ?_⟩
    cases e : btw 0 3 z with
    | false =>
      refine iteT (q2 fun z' => ?_)
      rw [btw_iff.mpr z'] at e
      cases e
    | true => exact iteF (q1 (btw_iff.mp e))
theorem ok_slice {f c Pt Pr Ph Pw Ps C fC fN fW : Addr} {fd dC dN dW : FuncData} (F : FunC K "slice_at" "slice_at" sSlice f fd c) (TB : GxR.TabB base mg c Ps) (T : Nm K mg)
    (NC : Fn K mg "cells" fC dC ["body"]) (GC : FnOk P W0 K mg base CX0 27 fC dC ["body"] (spCells K Pt Pr Ph)) (NN : Fn K mg "check_layer" fN dN ["z"]) (GN : FnOk P W0 K mg base (L2.CX P W0) 2 fN dN ["z"] (spChk C))
    (NW : Fn K mg "_row" fW dW ["held", "y", "z"]) (GW : FnOk P W0 K mg base CX0 3 fW dW ["held", "y", "z"] (spRow K Pw)) : FnOk P W0 K mg base (L2.CX P W0) 28 f fd ["body", "z"] (spSlice K Pt Pr Ph Pw Ps C) := by
  obtain ⟨ts, mS⟩ := T.side
  refine F.okX scSlice (fun vs H Q E h => ?_) (fun A outer s H vs Q E hr h => ?_)
  · obtain ⟨v, b, z, rfl, _⟩ := h
    rfl
  · obtain ⟨v, b, z, rfl, hB, hg, hn, tb, hPw, hPs, q1, q2⟩ := h
    have hr2 : Room 2 _ := hr.mono (by decide)
    have hr5 : Room 5 _ := hr.mono (by decide)
    refine ⟨_, pss_cons (ps_set (i := 2) scSlice.nd rfl (.inr rfl) (pe_call GC hr (by rfl) NC.m NC.kp NC.b .nil pass0 (pa_cons (pv 0) pa_nil)))
      (pss_cons (ps_expr (pe_call (E := fun cls d H => E cls d H) GN hr2 (by rfl) NN.m NN.kp NN.b .nil (passes_call (takes_of rfl rfl rfl rfl) fun _ _ _ _ h => h) (pa_cons (pv 1) pa_nil)))
      (pss_one (ps_ret (pe_fr fun hf => GX.pe_tupG (k := 3) hr5 (by rfl) T.tuple TB rfl scSlice.nd hf gSlice (show ("y" : Str) ∉ (["body", "z", "held"] : List Str) by decide) (pi_range1 (by rfl) T.range (pa_cons (pe_glob (v := .int 4) rfl mS ⟨_, rfl⟩) pa_nil))
        (fun A s H C code fp hr3 => pe_call GW hr3 (by rfl) NW.m NW.kp NW.b .nil pass0 (pa_cons (pv 2) (pa_cons (pv 3) (pa_cons (pv 1) pa_nil)))))))), ?_⟩
    refine ⟨_, rfl, v, b, rfl, hB, hg, hn, tb, fun H1 r zs k1 n1 h1 i1 => ?_⟩
    refine ⟨_, rfl, z, rfl, fun hz => ?_, fun hz => q2 hz H1 k1⟩
    · skip
      refine ⟨4, rfl, by decide, by decide, (k1.tab _ hPs).1, fun H2 tb2 => ?_⟩
      refine ⟨(List.range 4).map fun y : Nat => V.str (rowT (all b) (y : Int) z), _, (by rw [List.length_map, List.length_range]; decide), ⟨Nat.zero_le _, ?p0⟩, GX.turn_rng (lo := 0) (n := 4) (fun i H' => Kp [] H1 H') rfl (fun i H' hi k => ?ps) (fun H' k => ?pd)⟩
      case p0 => exact Kp.tabbed (k1.tab _ hPs) tb2
      case ps =>
        refine ⟨_, rfl, _, rfl, _, rfl, .ref r, 0 + (i : Int), z, all b, rfl, cellsL_of (k.lst h1 List.not_mem_nil) (items_mono k i1), k.tab _ (k1.tab _ hPw), fun H3 k3 => ⟨?_, by omega, k.trans k3⟩⟩
        rw [List.getElem?_map, List.getElem?_range hi, Int.zero_add]
        rfl
      case pd => exact fun t ht => q1 hz _ t ((k1.trans k).trans (Kp.new ht)) ((k1.trans k).free t ht) upd_same
/-! ### rows of signs -/
def sgB (b : Bool) : Str := if b = true then "#" else "."
def cdB (b : Bool) : Nat := if b = true then 35 else 46
def rowB (b : Nat → Bool) : Str := Txt.join "" ((List.range 4).map fun x => sgB (b x))
theorem rowT_eq (cs : List C3) (y z : Int) : rowT cs y z = rowB fun x => decide (((x : Int), y, z) ∈ cs) := rfl
theorem row_codes (b : Nat → Bool) : (rowB b).cps.toList = [cdB (b 0), cdB (b 1), cdB (b 2), cdB (b 3)] := by
  show (Txt.join "" [sgB (b 0), sgB (b 1), sgB (b 2), sgB (b 3)]).cps.toList = _
  cases b 0 <;> cases b 1 <;> cases b 2 <;> cases b 3 <;> decide +kernel
theorem row_len (b : Nat → Bool) : (rowB b).length = 4 := by
  show (Txt.join "" [sgB (b 0), sgB (b 1), sgB (b 2), sgB (b 3)]).length = _
  cases b 0 <;> cases b 1 <;> cases b 2 <;> cases b 3 <;> decide +kernel
theorem row_at (b : Nat → Bool) {i : Nat} (h : i < 4) : [cdB (b 0), cdB (b 1), cdB (b 2), cdB (b 3)][i]? = some (cdB (b i)) := by
  rcases (show i = 0 ∨ i = 1 ∨ i = 2 ∨ i = 3 by omega) with rfl | rfl | rfl | rfl <;> rfl
end LP
end

section
set_option Elab.async false
set_option linter.all false
set_option maxRecDepth 100000
set_option maxHeartbeats 4000000
/-! _runs, strokes -/
namespace LP
open PySem PySem.Spec PyProof.Rows L2 Ly GY
variable [LamTab] {P : Program} {W0 : World} {K : PySem.W.Frag} {mg : Str → Option Value} {base : Heap}
/-! ### runs -/
def pD (p : Int × Int) : PyData := .tuple [.int p.1, .int p.2]
def stepR (b : Nat → Bool) (acc : List (Int × Int)) (x : Nat) : List (Int × Int) :=
  if b x = true then
    if decide (0 < x) && b (x - 1) = true then acc.dropLast ++ [((acc.getLast?.getD (0, 0)).1, (x : Int))] else acc ++ [((x : Int), (x : Int))]
  else acc
def runsTo (b : Nat → Bool) : Nat → List (Int × Int)
  | 0 => []
  | n + 1 => stepR b (runsTo b n) n
theorem runs_last {b : Nat → Bool} {n : Nat} (h : b n = true) : ∃ l p, runsTo b (n + 1) = l ++ [p] := by
  show ∃ l p, stepR b (runsTo b n) n = l ++ [p]
  unfold stepR
  rw [if_pos h]
  split
  · exact ⟨_, _, rfl⟩
  · exact ⟨_, _, rfl⟩
theorem runs_len (b : Nat → Bool) : ∀ n, (runsTo b n).length ≤ n
  | 0 => Nat.le_refl _
  | n + 1 => by
    have h := runs_len b n
    show (stepR b (runsTo b n) n).length ≤ n + 1
    unfold stepR
    split
    · split
      · rw [List.length_append, List.length_dropLast, List.length_singleton]; omega
      · rw [List.length_append, List.length_singleton]; omega
    · omega
theorem noL_p (p : Int × Int) : noL (pD p) = true := rfl
theorem noLs_ps : ∀ ps : List (Int × Int), noLs (ps.map pD) = true
  | [] => rfl
  | p :: ps => by
    show (noL (pD p) && noLs (ps.map pD)) = true
    rw [noLs_ps ps, noL_p]
    rfl
theorem of_pD {H : Hp} {v : V} {p : Int × Int} (h : Dp K H v (pD p)) : ∃ a, v = .ref a ∧ SqT K H a [.int p.1, .int p.2] := by
  obtain ⟨a, x, y, e, h1, h2, h3⟩ := of_dp2 h
  have e2 := of_dpi h2
  have e3 := of_dpi h3
  subst e2 e3
  exact ⟨a, e, h1⟩
theorem dp_p {H : Hp} {a : Addr} {p : Int × Int} (h : SqT K H a [.int p.1, .int p.2]) : Dp K H (.ref a) (pD p) := .tup h (.cons (.int _) (.cons (.int _) .nil))
def spRuns (K : PySem.W.Frag) : Sp := fun vs H Q _ => ∃ b : Nat → Bool, vs = [.str (rowB b)] ∧ ∀ (H' : Hp) (r : Addr) (ys : List V), Kp [] H H' → H r = none → H' r = some (.lst ys) → DpAll K H' ys ((runsTo b 4).map pD) → Q (.ref r) H'
theorem scRuns : FnScope ["row", "told", "x", "first", "_"] ["row"] (defScope sRuns) := ⟨rfl, rfl, rfl, by decide +kernel, rfl, by decide +kernel, by decide +kernel⟩
theorem ok_runs {f : Addr} {fd : FuncData} (F : Fun K "_runs" "_runs" sRuns f fd) (T : Nm K mg) : FnOk P W0 K mg base CX0 1 f fd ["row"] (spRuns K) := by
  refine F.ok scRuns (fun vs H Q E h => ?_) (fun cdv A outer s H vs Q E hr h => ?_)
  · obtain ⟨b, rfl, _⟩ := h
    rfl
  · obtain ⟨b, rfl, q⟩ := h
    refine ⟨_, pss_cons (ps_set (i := 1) scRuns.nd rfl (.inl rfl) (pe_lst pa_nil))
      (pss_cons (ps_for PassesOwn.never rfl (pi_range1 (by rfl) T.range (pa_cons (pe_callB call_len_str (by rfl) T.len PySem.boot_len (pa_cons (pv 0) pa_nil)) pa_nil)) (pg_name (i := 2) scRuns.nd rfl (.inl rfl))
        (pss_one (ps_if (pt_cmpR op_eq (pe_ix (r := rIxS) ix_str (pv 0) (pv 2) (fun _ _ => rfl)) pe_str (nomark _))
          (pss_cons (ps_set (i := 3) scRuns.nd rfl (.inl rfl) (pv 2))
          (pss_cons (ps_if (PW.pt (pw_and (pt_cmpR op_gt (pv 2) pe_int (nomark _)) (pw_and1 (pt_cmpR op_eq (pe_ix (r := rIxS) ix_str (pv 0) (pe_op op_sub (pv 2) pe_int) (fun _ _ => rfl)) pe_str (nomark _)))))
            (pss_one (ps_asg (pe_bm0 PySem.F.plainAttrs_list PySem.F.slot_list_pop PySem.F.type_list_pop mt_pop (pv 1)) (pg_tup rfl (pgs_cons (pg_name (i := 3) scRuns.nd rfl (.inl rfl)) (pgs_cons (pg_name (i := 4) scRuns.nd rfl (.inl rfl)) pgs_nil))))) pss_nil)
          (pss_one (ps_expr (pe_bm PySem.F.plainAttrs_list PySem.F.slot_list_append PySem.F.type_list_append mt_append (pv 1) (pa_cons (pe_tup (pa_cons (pv 3) (pa_cons (pv 2) pa_nil))) pa_nil))))))
          pss_nil)))
      (pss_one (ps_ret (pv 1)))), ?_⟩
    have hc := row_codes b
    have hlen := row_len b
    generalize rowB b = rw at hc hlen ⊢
    refine ⟨Nat.zero_le _, fun D hD => ?_⟩
    refine nameI (i := 1) (v := .ref D) (σ := [some (.str rw), none, none, none, none]) ?_
    have hz : (1000 : Nat) < sizeLine := by decide
    refine ⟨_, rfl, _, rfl, (by omega), 4, (by rw [hlen]; rfl), by decide, by decide, for_range (lo := 0) (n := 4) (fun i σ H' => Kp [] H H' ∧ (∃ o2 o3 o4, σ = [some (.str rw), some (.ref D), o2, o3, o4]) ∧ ∃ ys, H' D = some (.lst ys) ∧ DpAll K H' ys ((runsTo b i).map pD))
      ⟨Kp.new hD, ⟨_, _, _, rfl⟩, [], upd_same, .nil⟩ (fun i σ H' hi pv => ?_) (fun σ H' pv => ?_)⟩
    rotate_left
    · obtain ⟨k, ⟨o2, o3, o4, rfl⟩, ys, hy, hd⟩ := pv
      exact ⟨_, rfl, q H' D ys k hD hy hd⟩
    · obtain ⟨k, ⟨o2, o3, o4, rfl⟩, ys, hy, hd⟩ := pv
      have hl := hd.length
      rw [List.length_map] at hl
      have hrl := runs_len b i
      have e0 : (0 : Int) + (i : Int) = (i : Int) := by omega
      rw [e0]
      have at_i : atI rw.cps.toList (i : Int) = some (cdB (b i)) := by rw [hc]; exact atI_nat (row_at b hi)
      have fin : ∀ (f : Int) (acc : List (Int × Int)) (H2 : Hp) (zs : List V) (t : Addr), Kp [] H H2 → H2 D = some (.lst zs) → DpAll K H2 zs (acc.map pD) → acc.length ≤ i → stepR b (runsTo b i) i = acc ++ [(f, (i : Int))] → H2 t = none →
          upd H2 t (.tup [.int f, .int (i : Int)]) D = some (.lst zs) ∧ zs.length < sizeLine ∧ Kp [] H (upd (upd H2 t (.tup [.int f, .int (i : Int)])) D (.lst (zs ++ [.ref t]))) ∧
            ∃ ys, upd (upd H2 t (.tup [.int f, .int (i : Int)])) D (.lst (zs ++ [.ref t])) D = some (.lst ys) ∧ DpAll K (upd (upd H2 t (.tup [.int f, .int (i : Int)])) D (.lst (zs ++ [.ref t]))) ys ((runsTo b (i + 1)).map pD) := by
        intro f acc H2 zs t k2 h2 d2 hl2 hst ht
        have kt := Kp.new (S := []) (o := .tup [.int f, .int (i : Int)]) ht
        have h3 := kt.lst h2 List.not_mem_nil
        have hzl := d2.length
        rw [List.length_map] at hzl
        have kc : Kp [D] _ (upd (upd H2 t (.tup [.int f, .int (i : Int)])) D (.lst (zs ++ [.ref t]))) := Kp.chg h3 (List.mem_singleton.mpr rfl)
        refine ⟨h3, small_size (by omega), (k2.trans kt).chg0 hD h3, _, upd_same, ?_⟩
        show DpAll K _ _ ((stepR b (runsTo b i) i).map pD)
        rw [hst, List.map_append]
        exact dps_append (dps_keep kc (noLs_ps _) (dps_keep kt (noLs_ps _) d2)) (dps_one (dp_p (p := (f, (i : Int))) (kc.sqT (SqT.of upd_same))))
      refine ⟨_, rfl, _, rfl, _, _, _, rfl, rfl, (by omega), at_i, rfl, _, rfl, ?_⟩
      cases hb : b i with
      | false =>
        refine itD0 (by decide +kernel) ⟨k, ⟨_, _, _, rfl⟩, ys, hy, ?_⟩
        show DpAll K H' ys ((stepR b (runsTo b i) i).map pD)
        unfold stepR
        rw [if_neg (by rw [hb]; decide)]
        exact hd
      | true =>
        refine itD1 (by decide +kernel) ?_
        refine ⟨_, rfl, ?_⟩
        refine nameI (i := 3) (v := .int (i : Int)) (σ := [some (.str rw), some (.ref D), some (.int (i : Int)), o3, o4]) ?_
        refine ⟨_, rfl, _, _, rfl, rfl, _, rfl, ?_⟩
        by_cases h0 : 0 < i
        · refine itD1 (by omega) ?_
          obtain ⟨j, rfl⟩ : ∃ j, i = j + 1 := ⟨i - 1, by omega⟩
          have at_j : atI rw.cps.toList (((j + 1 : Nat) : Int) - 1) = some (cdB (b j)) := by rw [hc, show ((j + 1 : Nat) : Int) - 1 = ((j : Nat) : Int) by omega]; exact atI_nat (row_at b (by omega))
          refine ⟨_, rfl, _, rfl, _, _, rfl, rfl, _, _, _, rfl, rfl, (by omega), at_j, rfl, _, rfl, ?_⟩
          cases hb2 : b j with
          | true =>
            refine itD1 (by decide +kernel) ?_
            obtain ⟨l, p, hlp⟩ := runs_last hb2
            rw [hlp, List.map_append] at hd
            obtain ⟨us, zs, rfl, hu, hz'⟩ := dps_split hd
            cases hz' with
            | cons hx hn =>
              cases hn
              obtain ⟨a, rfl, ha⟩ := of_pD hx
              rw [hlp, List.length_append, List.length_singleton] at hrl
              refine ⟨_, rfl, .inl ⟨rfl, _, SqL.of hy⟩, D, _, .ref a, rfl, rfl, hy, (by simp), ?_⟩
              have k1 : Kp [] H (upd H' D (.lst (us ++ [V.ref a]).dropLast)) := k.chg0 hD hy
              have kS : Kp [D] H' (upd H' D (.lst (us ++ [V.ref a]).dropLast)) := Kp.chg hy (List.mem_singleton.mpr rfl)
              have ha1 := kS.sqT ha
              have hu1 := dps_keep kS (noLs_ps l) hu
              have hD1 : upd H' D (.lst (us ++ [V.ref a]).dropLast) D = some (.lst us) := by rw [upd_same, List.dropLast_concat]
              generalize upd H' D (.lst (us ++ [V.ref a]).dropLast) = H1 at k1 ha1 hu1 hD1 ⊢
              refine ⟨a, _, rfl, ha1, rfl, _, _, rfl, _, _, rfl, rfl, ?_⟩
              refine ⟨_, rfl, .inl ⟨rfl, _, SqL.of hD1⟩, _, rfl, _, rfl, (by show 2 ≤ sizeLine; decide), fun t ht => ?_⟩
              obtain ⟨z1, z2, z3, z4⟩ := fin p.1 l H1 us t k1 hD1 hu1 (by omega) (by
                unfold stepR
                rw [if_pos hb, if_pos (by rw [show j + 1 - 1 = j from rfl, hb2]; simp), hlp, List.dropLast_concat]
                simp) ht
              exact ⟨D, _, _, rfl, rfl, z1, z2, z3, ⟨_, _, _, rfl⟩, z4⟩
          | false =>
            refine itD0 (by decide +kernel) ?_
            refine ⟨_, rfl, .inl ⟨rfl, _, SqL.of hy⟩, _, rfl, _, rfl, (by show 2 ≤ sizeLine; decide), fun t ht => ?_⟩
            obtain ⟨z1, z2, z3, z4⟩ := fin ((j + 1 : Nat) : Int) (runsTo b (j + 1)) H' ys t k hy hd (by omega) (by
              unfold stepR
              rw [if_pos hb, if_neg (by rw [show j + 1 - 1 = j from rfl, hb2]; simp)]) ht
            exact ⟨D, _, _, rfl, rfl, z1, z2, z3, ⟨_, _, _, rfl⟩, z4⟩
        · refine itD0 (by omega) ?_
          refine ⟨_, rfl, .inl ⟨rfl, _, SqL.of hy⟩, _, rfl, _, rfl, (by show 2 ≤ sizeLine; decide), fun t ht => ?_⟩
          obtain ⟨z1, z2, z3, z4⟩ := fin (i : Int) (runsTo b i) H' ys t k hy hd (by omega) (by
            unfold stepR
            rw [if_pos hb, if_neg (by simp; omega)]) ht
          exact ⟨D, _, _, rfl, rfl, z1, z2, z3, ⟨_, _, _, rfl⟩, z4⟩
/-! ### strokes -/
def strkY (cs : List C3) (z : Int) (y : Nat) : List C3 := (runsTo (fun x => decide (((x : Int), (y : Int), z) ∈ cs)) 4).map fun p => ((y : Int), p.1, p.2)
def strk (cs : List C3) (z : Int) : List C3 := (List.range 4).flatMap (strkY cs z)
theorem strkY_len (cs : List C3) (z : Int) (y : Nat) : (strkY cs z y).length ≤ 4 := by
  unfold strkY
  rw [List.length_map]
  exact runs_len _ 4
theorem flatY_len (cs : List C3) (z : Int) : ∀ n, ((List.range n).flatMap (strkY cs z)).length ≤ 4 * n
  | 0 => by simp
  | n + 1 => by
    have h1 := flatY_len cs z n
    have h2 := strkY_len cs z n
    rw [List.range_succ, List.flatMap_append, List.length_append, List.flatMap_cons, List.flatMap_nil, List.append_nil]
    omega
theorem flatY_succ (cs : List C3) (z : Int) (n : Nat) : (List.range (n + 1)).flatMap (strkY cs z) = (List.range n).flatMap (strkY cs z) ++ strkY cs z n := by
  rw [List.range_succ, List.flatMap_append, List.flatMap_cons, List.flatMap_nil, List.append_nil]
theorem strk_len (cs : List C3) (z : Int) : (strk cs z).length ≤ 16 := flatY_len cs z 4
def spStrokes (K : PySem.W.Frag) (Pt Pr Ph Pw Ps C : Addr) : Sp := fun vs H Q E => ∃ (v : V) (b : Bd) (z : Int), vs = [v, .int z] ∧ Body K H v b ∧ Good b ∧ nb b ≤ 20 ∧ Tb H Pt Pr Ph ∧ TGen H Pw ∧ TGen H Ps ∧
  ((0 ≤ z ∧ z ≤ 3) → ∀ (H' : Hp) (r : Addr) (ys : List V), Kp [] H H' → H r = none → H' r = some (.lst ys) → Items K H' ys (strk (all b) z) → Q (.ref r) H') ∧
  (¬ (0 ≤ z ∧ z ≤ 3) → ∀ H' : Hp, Kp [] H H' → E (.ref C) none H')
theorem scStrokes : FnScope ["body", "z", "rows", "y", "first", "last"] ["body", "z"] (defScope sStrokes) := ⟨rfl, rfl, rfl, by decide +kernel, rfl, by decide +kernel, by decide +kernel⟩
theorem rows_at {cs : List C3} {z : Int} {i : Nat} (hi : i < 4) : ((List.range 4).map fun y : Nat => V.str (rowT cs (y : Int) z))[i]? = some (V.str (rowB fun x => decide (((x : Int), (i : Int), z) ∈ cs))) := by
  rw [List.getElem?_map, List.getElem?_range hi]
  rfl
theorem ok_strokes {f Pt Pr Ph Pw Ps C fS fR : Addr} {fd dS dR : FuncData} (F : Fun K "strokes" "strokes" sStrokes f fd) (T : Nm K mg)
    (NS : Fn K mg "slice_at" fS dS ["body", "z"]) (GS : FnOk P W0 K mg base (L2.CX P W0) 28 fS dS ["body", "z"] (spSlice K Pt Pr Ph Pw Ps C))
    (NR : Fn K mg "_runs" fR dR ["row"]) (GR : FnOk P W0 K mg base CX0 1 fR dR ["row"] (spRuns K)) : FnOk P W0 K mg base (L2.CX P W0) 29 f fd ["body", "z"] (spStrokes K Pt Pr Ph Pw Ps C) := by
  obtain ⟨ts, mS⟩ := T.side
  refine F.okX scStrokes (fun vs H Q E h => ?_) (fun cdv A outer s H vs Q E hr h => ?_)
  · obtain ⟨v, b, z, rfl, _⟩ := h
    rfl
  · obtain ⟨v, b, z, rfl, hB, hg, hn, tb, hPw, hPs, q1, q2⟩ := h
    have hr1 : Room 1 _ := hr.mono (by decide)
    refine ⟨_, pss_cons (ps_set (i := 2) scStrokes.nd rfl (.inr rfl) (pe_call (E := fun cls d H => E cls d H) GS hr (by rfl) NS.m NS.kp NS.b .nil (passes_call (takes_of rfl rfl rfl rfl) fun _ _ _ _ h => h) (pa_cons (pv 0) (pa_cons (pv 1) pa_nil))))
      (pss_one (ps_ret (pe_lc2 (wi1 := iList K (tCall (spRuns K) [] E0 (tCons (tOp (rIxT K) (tVar 2) (tVar 3)) tNil))) (own := [("y", 3), ("first", 4), ("last", 5)]) (vs1 := [4, 5]) (g := gName 3) (g1 := gTup K 2 (gCons (gName 4) (gCons (gName 5) gNil))) rfl scStrokes.nd (pi_range1 (by rfl) T.range (pa_cons (pe_glob (v := .int 4) rfl mS ⟨_, rfl⟩) pa_nil))
        (blkOk_by (own := [("y", 3), ("first", 4), ("last", 5)]) (N := ["body", "z", "rows", "y", "first", "last"]) (sc := defScope sStrokes) (by decide +kernel)) (by decide)
        (fun _ _ _ _ _ => pg_name (i := 3) scStrokes.nd rfl (.inl rfl)) (fun _ _ _ _ _ => pts_nil)
        (fun _ _ _ _ _ => pi_list (pe_call GR hr1 (by rfl) NR.m NR.kp NR.b .nil pass0 (pa_cons (pe_ix (r := rIxT K) ix_tup (pv 2) (pv 3) (fun _ _ => rfl)) pa_nil)))
        (fun _ _ _ _ _ => pg_tup rfl (pgs_cons (pg_name (i := 4) scStrokes.nd rfl (.inl rfl)) (pgs_cons (pg_name (i := 5) scStrokes.nd rfl (.inl rfl)) pgs_nil))) (fun _ _ _ _ _ => pts_nil)
        (fun _ _ _ _ _ => pe_tup (pa_cons (pv 3) (pa_cons (pv 4) (pa_cons (pv 5) pa_nil))))))), ?_⟩
    refine ⟨_, rfl, _, rfl, v, b, z, rfl, hB, hg, hn, tb, hPw, hPs, fun hz H1 t k1 n1 h1 => ?_, fun hz H1 k1 => q2 hz H1 k1⟩
    refine ⟨4, rfl, by decide, by decide, fun D hD => ?_⟩
    have hz64 : (64 : Nat) < sizeLine := by decide
    refine ⟨fun i m H' => m = 4 - i ∧ i ≤ 4 ∧ Kp [] H1 H' ∧ ∃ acc, H' D = some (.lst acc) ∧ Items K H' acc ((List.range i).flatMap (strkY (all b) z)), ⟨4, rfl, by decide, Kp.new hD, [], upd_same, .nil⟩, fun i m H' w => ?_⟩
    obtain ⟨rfl, hi, k, acc, hA, hI⟩ := w
    by_cases hlt : i < 4
    · refine .inr ⟨hlt, fun H'' => Kp [] H1 H'' ∧ ∃ acc, H'' D = some (.lst acc) ∧ Items K H'' acc ((List.range (i + 1)).flatMap (strkY (all b) z)), fun H'' w => ⟨4 - (i + 1), by omega, rfl, hlt, w⟩, fun x H'' yy => ?_⟩
      obtain ⟨e1, yy⟩ := yy
      subst e1 yy
      refine ⟨rfl, ?_⟩
      refine yesP ?_
      refine ⟨_, rfl, _, rfl, t, _, _, _, rfl, rfl, k.sqT (SqT.of h1), (by rw [Int.zero_add]; exact atI_nat (rows_at hlt)), _, rfl, fun H2 r ys k2 n2 h2 i2 => ?_⟩
      refine ⟨r, rfl, ⟨_, SqL.of h2⟩, ?_⟩
      have hl2 := i2.length
      rw [List.length_map] at hl2
      have hA2 := k2.lst hA List.not_mem_nil
      refine ⟨fun j m H' => m = ys.length - j ∧ j ≤ ys.length ∧ Kp [] H1 H' ∧ H' r = some (.lst ys) ∧ DpAll K H' ys ((runsTo (fun x => decide (((x : Int), (i : Int), z) ∈ all b)) 4).map pD) ∧ ∃ acc, H' D = some (.lst acc) ∧ Items K H' acc ((List.range i).flatMap (strkY (all b) z) ++ (strkY (all b) z i).take j),
        ⟨ys.length, rfl, Nat.zero_le _, k.trans k2, h2, i2, acc, hA2, by rw [List.take_zero, List.append_nil]; exact items_mono k2 hI⟩, fun j m H3 w => ?_⟩
      obtain ⟨rfl, hj, k3, hr3, d3, acc3, hA3, hI3⟩ := w
      by_cases hlt2 : j < ys.length
      · refine .inr ⟨⟨ys, ys[j], SqL.of hr3, by simp [hlt2]⟩, fun H'' => Kp [] H1 H'' ∧ H'' r = some (.lst ys) ∧ DpAll K H'' ys ((runsTo (fun x => decide (((x : Int), (i : Int), z) ∈ all b)) 4).map pD) ∧ ∃ acc, H'' D = some (.lst acc) ∧ Items K H'' acc ((List.range i).flatMap (strkY (all b) z) ++ (strkY (all b) z i).take (j + 1)),
          fun H'' w => ⟨ys.length - (j + 1), by omega, rfl, hlt2, w⟩, fun x H4 yy => ?_⟩
        obtain ⟨e1, yy⟩ := yy
        subst e1
        have hx := yy ys (SqL.of hr3)
        obtain ⟨d, hd0, hdx⟩ := d3.get hx
        rw [List.getElem?_map] at hd0
        obtain ⟨p, hp, rfl⟩ := Option.map_eq_some_iff.mp hd0
        obtain ⟨a, rfl, ha⟩ := of_pD hdx
        refine ⟨a, _, rfl, ha, rfl, _, _, rfl, _, _, rfl, rfl, rfl, ?_⟩
        refine yesI ?_
        refine ⟨_, rfl, _, rfl, _, rfl, (by show 3 ≤ sizeLine; decide), fun tn htn => ?_⟩
        rw [Int.zero_add]
        have kt := Kp.new (S := []) (o := .tup [.int (i : Int), .int p.1, .int p.2]) htn
        have hA5 := kt.lst hA3 List.not_mem_nil
        have hal := hI3.length
        rw [List.length_append, List.length_take] at hal
        have hfl := flatY_len (all b) z i
        have hyl := strkY_len (all b) z i
        have hne : D ≠ r := fun e => by rw [← e, hA] at n2; cases n2
        have kc : Kp [D] _ (upd (upd H4 tn (.tup [.int (i : Int), .int p.1, .int p.2])) D (.lst (acc3 ++ [.ref tn]))) := Kp.chg hA5 (List.mem_singleton.mpr rfl)
        refine ⟨acc3, hA5, by omega, (k3.trans kt).chg0 hD hA5, ?_, dps_keep kc (noLs_ps _) (dps_keep kt (noLs_ps _) d3), _, upd_same, ?_⟩
        · rw [upd_ne (Ne.symm hne)]
          exact kt.lst hr3 List.not_mem_nil
        · have hs : (strkY (all b) z i)[j]? = some ((i : Int), p.1, p.2) := by
            unfold strkY
            rw [List.getElem?_map, hp]
            rfl
          rw [List.take_add_one, hs, ← List.append_assoc]
          exact Items.append (items_mono kc (items_mono kt hI3)) (Items.one (dp_c (c := ((i : Int), p.1, p.2)) (kc.sqT (SqT.of upd_same))))
      · have e : j = ys.length := by omega
        subst e
        refine .inl ⟨⟨ys, SqL.of hr3, Nat.le_refl _⟩, k3, acc3, hA3, ?_⟩
        rw [flatY_succ]
        rw [List.take_of_length_le (by unfold strkY; rw [List.length_map]; omega)] at hI3
        exact hI3
    · have e : i = 4 := by omega
      subst e
      exact .inl ⟨Nat.le_refl _, q1 hz H' D acc (k1.trans k) (k1.free D hD) hA hI⟩
end LP
end

section
set_option Elab.async false
set_option linter.all false
set_option maxRecDepth 100000
set_option maxHeartbeats 2000000
/-! Dicts whose keys are tuples of any depth: what stands in them, read, asked, stored, made. -/
namespace GD
open PySem PySem.Spec PyProof.Rows L2
abbrev kn (P : Program) (w : World) : HeapKind P w NestedKey := nestedKind P w
abbrev Row := NestedKey × Addr × V
abbrev RowV := NestedKey × Addr × Value
def RelE (p : Row) (q : RowV) : Prop := p.1 = q.1 ∧ p.2.1 = q.2.1 ∧ RelV p.2.2 q.2.2
/-- the entries of the dict's own object -/
def Ent (P : Program) (w : World) (h : Heap) (a : Addr) (xs : List RowV) : Prop :=
  ∃ o es ep, h.get? a = some o ∧ o.ExactDict ∧ o.data = .dict es ep ∧ es.toList = xs.map (entryOfKey (kn P w)) ∧ (xs.map (·.1)).Nodup
def Dn0 (P : Program) (w : World) (h : Heap) (a : Addr) (L : List Row) : Prop := (a == sysModules) = false ∧ L.length ≤ sizeLine ∧ ∃ xs, Paired RelE L xs ∧ Ent P w h a xs
def DNO (P : Program) (w : World) (a : Addr) (L : List Row) : HO := .ext fun h => Dn0 P w h a L
theorem dno_ok {P : Program} {w : World} {H : Hp} {h : Heap} {a : Addr} {L : List Row} (x : Dn0 P w h a L) : ObjOk P w H h a (DNO P w a L) := by
  refine ⟨x, ?_, fun h1 h2 q k => ?_⟩
  · obtain ⟨_, _, xs, _, o, _, _, e, _⟩ := x
    exact ⟨o, e⟩
  · obtain ⟨y, z, xs, r, o, es, ep, e, c⟩ := q
    exact ⟨y, z, xs, r, o, es, ep, k o e, c⟩
theorem not_code {P : Program} {w : World} {h : Heap} {a : Addr} {L : List Row} (x : Dn0 P w h a L) : ∀ q, DNO P w a L ≠ LamX.CodeO a q := by
  intro q e
  have f : (fun h => Dn0 P w h a L) = fun h => ∃ (oc : Obj) (vs : Array Value) (t : Tok), h.get? a = some oc ∧ oc.data = .fields vs ∧ vs[1]? = some (.str q t) := by
    unfold DNO LamX.CodeO at e
    exact HO.ext.inj e
  have g := congrFun f h
  rw [eq_iff_iff] at g
  obtain ⟨oc, vs, t, e1, e2, _⟩ := g.mp x
  obtain ⟨_, _, xs, _, o, es, ep, e3, _, e4, _⟩ := x
  rw [e1] at e3
  cases e3
  rw [e2] at e4
  cases e4
/-- a key that stands at b -/
def KeyD (K : PySem.W.Frag) (H : Hp) (v : V) (k : NestedKey) : Prop := Dp K H v k.data ∧ k.depth ≤ 8 ∧ ∃ ks, k = .tup ks
/-- at a stands a dict of these keys and values -/
def DN (K : PySem.W.Frag) (P : Program) (w : World) (H : Hp) (a : Addr) (kvs : List (NestedKey × V)) : Prop :=
  ∃ (φ : Heap → Prop) (L : List Row), H a = some (.ext φ) ∧ (∀ h, φ h → Dn0 P w h a L) ∧ (L.map fun p => (p.1, p.2.2)) = kvs ∧ (∀ p ∈ L, KeyD K H (.ref p.2.1) p.1) ∧ ∀ q, H a ≠ some (LamX.CodeO a q)
theorem DN.mk0 {K : PySem.W.Frag} {P : Program} {w : World} {H : Hp} {a : Addr} {kvs : List (NestedKey × V)} {L : List Row} (e : H a = some (DNO P w a L)) (ek : (L.map fun p => (p.1, p.2.2)) = kvs) (hk : ∀ p ∈ L, KeyD K H (.ref p.2.1) p.1) (nc : ∀ q, H a ≠ some (LamX.CodeO a q)) : DN K P w H a kvs :=
  ⟨_, L, e, fun _ x => x, ek, hk, nc⟩
def valN (kvs : List (NestedKey × V)) (k : NestedKey) : Option V := (kvs.find? fun p => decide (p.1 = k)).map (·.2)
def putN (kvs : List (NestedKey × V)) (k : NestedKey) (v : V) : List (NestedKey × V) := if (valN kvs k).isSome = true then kvs.map fun p => if p.1 = k then (p.1, v) else p else kvs ++ [(k, v)]
/-- a heap of which only the dict at a is another -/
structure Chg (H H' : Hp) (a : Addr) : Prop where
  but : ∀ b, b ≠ a → H' b = H b
  now : ∃ φ, H' a = some (.ext φ)
  was : ∃ φ, H a = some (.ext φ)
  nc : ∀ q, H a ≠ some (LamX.CodeO a q)
section
variable {X : Cx} {pins : List (Addr × Obj)} {σ : L2.St} {H : Hp} {s : Shared}
mutual
theorem nis (I : Inv X pins σ H s) : ∀ (k : NestedKey) {v : V} {u : Value}, Dp X.K H v k.data → RelV v u → NestedIs s.heap k u
  | .none, v, u, h, r => by
    simp only [NestedKey.data] at h
    cases h
    cases r
    exact .none
  | .num i, v, u, h, r => by
    simp only [NestedKey.data] at h
    cases h
    obtain ⟨t, rfl⟩ := r
    exact .int i t
  | .text x, v, u, h, r => by
    simp only [NestedKey.data] at h
    cases h
    obtain ⟨t, rfl⟩ := r
    exact .text x t
  | .tup ks, v, u, h, r => by
    simp only [NestedKey.data] at h
    cases h with
    | tup hs ha =>
      cases r
      obtain ⟨its, rv, ⟨o, e, c, n, d⟩, _⟩ := I.tuple hs
      exact .tup e c d (by simpa using nisAll I ks ha rv)
theorem nisAll (I : Inv X pins σ H s) : ∀ (ks : List NestedKey) {vs : List V} {us : List Value}, DpAll X.K H vs (NestedKey.datas ks) → Vals vs us → NestedAll s.heap ks us
  | [], vs, us, h, r => by
    simp only [NestedKey.datas] at h
    cases h
    cases r
    exact .nil
  | k :: ks, vs, us, h, r => by
    simp only [NestedKey.datas] at h
    cases h with
    | cons h1 h2 =>
      cases r with
      | cons r1 r2 => exact .cons (nis I k h1 r1) (nisAll I ks h2 r2)
end
theorem KeyD.is (I : Inv X pins σ H s) {b : Addr} {k : NestedKey} (h : KeyD X.K H (.ref b) k) : (kn X.prog X.w).is s.heap k b := ⟨nis I k h.1 rfl, h.2.1⟩
theorem KeyD.ref {K : PySem.W.Frag} {v : V} {k : NestedKey} (h : KeyD K H v k) : ∃ b, v = .ref b := by
  obtain ⟨h1, _, ks, rfl⟩ := h
  simp only [NestedKey.data] at h1
  cases h1
  exact ⟨_, rfl⟩
theorem rows_keys {K : PySem.W.Frag} : ∀ {L : List Row} {xs : List RowV}, Paired RelE L xs → (∀ p ∈ L, KeyD K H (.ref p.2.1) p.1) → ∀ x ∈ xs, KeyD K H (.ref x.2.1) x.1
  | _, _, .nil, _ => fun x hx => nomatch hx
  | p :: L, q :: xs, .cons r t, h => fun x hx => by
    rcases List.mem_cons.mp hx with e | hx
    · have z := h p List.mem_cons_self
      rw [e, ← r.1, ← r.2.1]
      exact z
    · exact rows_keys t (fun p hp => h p (List.mem_cons_of_mem _ hp)) x hx
theorem rows_len {L : List Row} {xs : List RowV} (r : Paired RelE L xs) : L.length = xs.length := Paired.length r
theorem rows_val {k : NestedKey} : ∀ {L : List Row} {xs : List RowV}, Paired RelE L xs → (valN (L.map fun p => (p.1, p.2.2)) k = none ∧ atKey xs k = none) ∨ ∃ v b u, valN (L.map fun p => (p.1, p.2.2)) k = some v ∧ atKey xs k = some (b, u) ∧ RelV v u
  | _, _, .nil => .inl ⟨rfl, rfl⟩
  | p :: L, q :: xs, .cons r t => by
    obtain ⟨r1, r2, r3⟩ := r
    have ih := rows_val (k := k) t
    unfold valN atKey at ih ⊢
    rw [List.map_cons, List.find?_cons, List.find?_cons]
    by_cases e : p.1 = k
    · have e' : q.1 = k := by rw [← r1]; exact e
      simp only [e, e', decide_true]
      exact .inr ⟨_, _, _, rfl, rfl, r3⟩
    · have e' : ¬ q.1 = k := by rw [← r1]; exact e
      simp only [e, e', decide_false]
      exact ih
/-- opened -/
theorem DN.full (I : Inv X pins σ H s) {a : Addr} {kvs : List (NestedKey × V)} (d : DN X.K X.prog X.w H a kvs) : ∃ (L : List Row) (xs : List RowV), (∃ φ, H a = some (.ext φ)) ∧ (L.map fun p => (p.1, p.2.2)) = kvs ∧ (∀ p ∈ L, KeyD X.K H (.ref p.2.1) p.1) ∧
    (a == sysModules) = false ∧ L.length ≤ sizeLine ∧ Paired RelE L xs ∧ s.heap.DictOfH (kn X.prog X.w) a xs := by
  obtain ⟨φ, L, e, hφ, ek, hk, _⟩ := d
  obtain ⟨x, _, _⟩ := I.hok a _ e
  obtain ⟨y, z, xs, r, o, es, ep, h1, h2, h3, h4, h5⟩ := hφ _ x
  exact ⟨L, xs, ⟨φ, e⟩, ek, hk, y, z, r, o, es, ep, h1, h2, h3, h4, fun x hx => (rows_keys r hk x hx).is I, h5⟩
def rInN (K : PySem.W.Frag) (P : Program) (w : World) : R2 := fun x y H Q => ∃ a kvs k, y = .ref a ∧ DN K P w H a kvs ∧ KeyD K H x k ∧ Q (.bl (valN kvs k).isSome) H
theorem op_inN (hu : X.A.units + 64 < cLine) : OpR X (compareOp .In) (rInN X.K X.prog X.w) := by
  intro pins s σ H x y v u Q I rx ry h
  obtain ⟨a, kvs, k, rfl, d, hk, q⟩ := h
  obtain ⟨b, rfl⟩ := hk.ref
  cases rx
  cases ry
  obtain ⟨L, xs, e, ek, hks, hm, z, r, D⟩ := d.full I
  refine wpAny_in_heap (knd := kn X.prog X.w) (by show X.A.units + 1 + 8 < cLine; omega) (hk.is I) hm D ⟨.bl (valN kvs k).isSome, H, I.tok _, ?_, q⟩
  rw [← ek]
  rcases rows_val (k := k) r with ⟨e1, e2⟩ | ⟨v, b, u, e1, e2, _⟩
  · rw [e1, e2]; rfl
  · rw [e1, e2]; rfl
def rIxN (K : PySem.W.Frag) (P : Program) (w : World) : R2 := fun x y H Q => ∃ a kvs k v, x = .ref a ∧ DN K P w H a kvs ∧ KeyD K H y k ∧ valN kvs k = some v ∧ Q v H
theorem getN {Q : VK} {a : Addr} {kvs : List (NestedKey × V)} {k : NestedKey} {y v : V} {u : Value} (hu : X.A.units + 64 < cLine) (I : Inv X pins σ H s) (d : DN X.K X.prog X.w H a kvs) (hk : KeyD X.K H y k) (hv : valN kvs k = some v) (ry : RelV y u) (q : Q v H) :
    s.TypeIs (.ref a) "dict" ∧ wpAny (model X.prog X.w) X.A (getItem (.ref a) u) (EP X pins σ Q) X.xe s := by
  obtain ⟨b, rfl⟩ := hk.ref
  cases ry
  obtain ⟨L, xs, e, ek, hks, hm, z, r, D⟩ := d.full I
  refine ⟨D.typeIs, ?_⟩
  rcases rows_val (k := k) r with ⟨e1, e2⟩ | ⟨v', b', u', e1, e2, e3⟩
  · rw [ek, hv] at e1
    cases e1
  · rw [ek, hv] at e1
    cases e1
    exact wpAny_getItem_heap (knd := kn X.prog X.w) (by show X.A.units + 1 + 8 < cLine; omega) (hk.is I) D e2 ⟨v, H, I.tok _, e3, q⟩
theorem ix_N (hu : X.A.units + 64 < cLine) : IxR X (rIxN X.K X.prog X.w) := by
  intro value slice pins s σ H x y v u Q I rx ry h hs
  obtain ⟨a, kvs, k, z, rfl, d, hk, hv, q⟩ := h
  cases rx
  obtain ⟨t, w⟩ := getN hu I d hk hv ry q
  exact tail_any t PySem.F.slot_dict_getitem.lookup w hs
/-! ### a store -/
theorem nodup_put {xs : List RowV} {k : NestedKey} {b : Addr} {u : Value} (h : (xs.map (·.1)).Nodup) : ((storedH xs k b u).map (·.1)).Nodup := by
  cases e : atKey xs k with
  | some p => rw [storedH_old e, keys_map_putAt]; exact h
  | none =>
    rw [storedH_new e, List.map_append]
    refine List.nodup_append.mpr ⟨h, by simp, fun x hx y hy => ?_⟩
    have hy : y = k := by simpa using hy
    subst hy
    intro z
    subst z
    obtain ⟨q, hq, e2⟩ := List.mem_map.mp hx
    unfold atKey at e
    rw [Option.map_eq_none_iff, List.find?_eq_none] at e
    exact e q hq (by simp [e2])
def putL (L : List Row) (k : NestedKey) (b : Addr) (v : V) : List Row := if (valN (L.map fun p => (p.1, p.2.2)) k).isSome = true then L.map fun p => if p.1 = k then (p.1, p.2.1, v) else p else L ++ [(k, b, v)]
theorem putL_kvs (L : List Row) (k : NestedKey) (b : Addr) (v : V) : (putL L k b v).map (fun p => (p.1, p.2.2)) = putN (L.map fun p => (p.1, p.2.2)) k v := by
  unfold putL putN
  split
  · rw [List.map_map, List.map_map]
    refine List.map_congr_left fun p _ => ?_
    show ((if p.1 = k then (p.1, p.2.1, v) else p : Row).1, (if p.1 = k then (p.1, p.2.1, v) else p : Row).2.2) = if p.1 = k then (p.1, v) else (p.1, p.2.2)
    split <;> rfl
  · rw [List.map_append]
    rfl
theorem putL_len (L : List Row) (k : NestedKey) (b : Addr) (v : V) : (putL L k b v).length ≤ L.length + 1 := by
  unfold putL
  split
  · rw [List.length_map]; omega
  · rw [List.length_append]; exact Nat.le_refl _
theorem rows_map {k : NestedKey} {v : V} {u : Value} (rv : RelV v u) : ∀ {L : List Row} {xs : List RowV}, Paired RelE L xs → Paired RelE (L.map fun p => if p.1 = k then (p.1, p.2.1, v) else p) (xs.map (putAt k u))
  | _, _, .nil => .nil
  | p :: L, q :: xs, .cons r t => by
    refine .cons ?_ (rows_map rv t)
    obtain ⟨r1, r2, r3⟩ := r
    unfold putAt
    show RelE (if p.1 = k then (p.1, p.2.1, v) else p) _
    by_cases e : p.1 = k
    · rw [if_pos e, if_pos (by rw [← r1]; exact e)]
      exact ⟨r1, r2, rv⟩
    · rw [if_neg e, if_neg (by rw [← r1]; exact e)]
      exact ⟨r1, r2, r3⟩
theorem rows_put {L : List Row} {xs : List RowV} {k : NestedKey} {b : Addr} {v : V} {u : Value} (r : Paired RelE L xs) (rv : RelV v u) : Paired RelE (putL L k b v) (storedH xs k b u) := by
  unfold putL
  rcases rows_val (k := k) r with ⟨e1, e2⟩ | ⟨v', b', u', e1, e2, _⟩
  · rw [e1, storedH_new e2, if_neg (by decide)]
    exact Paired.snoc r ⟨rfl, rfl, rv⟩
  · rw [e1, storedH_old e2, if_pos (by rfl)]
    exact rows_map rv r
theorem putL_key {K : PySem.W.Frag} {L : List Row} {k : NestedKey} {b : Addr} {v : V} (h : ∀ p ∈ L, KeyD K H (.ref p.2.1) p.1) (hb : KeyD K H (.ref b) k) : ∀ p ∈ putL L k b v, KeyD K H (.ref p.2.1) p.1 := by
  intro p hp
  unfold putL at hp
  split at hp
  · obtain ⟨q, hq, e⟩ := List.mem_map.mp hp
    have z := h q hq
    split at e
    · rw [← e]; exact z
    · rw [← e]; exact z
  · rcases List.mem_append.mp hp with z | z
    · exact h p z
    · rw [List.mem_singleton.mp z]; exact hb
mutual
/-- a key stays one while the dict at a is changed -/
theorem key_keep {K : PySem.W.Frag} {H' : Hp} {a : Addr} (c : Chg H H' a) : ∀ (k : NestedKey) {v : V}, Dp K H v k.data → Dp K H' v k.data
  | .none, v, h => by simp only [NestedKey.data] at h ⊢; cases h; exact .non
  | .num i, v, h => by simp only [NestedKey.data] at h ⊢; cases h; exact .int i
  | .text x, v, h => by simp only [NestedKey.data] at h ⊢; cases h; exact .str x
  | .tup ks, v, h => by
    simp only [NestedKey.data] at h ⊢
    cases h with
    | tup hs ha =>
      refine .tup ?_ (keys_keep c ks ha)
      rcases hs with (h | ⟨o, h⟩) | h
      · exact .inl (.inl (by rw [c.but _ fun z => ?_]; exact h; rw [z] at h; obtain ⟨φ, e⟩ := c.was; rw [e] at h; cases h))
      · exact .inl (.inr ⟨o, by rw [c.but _ fun z => ?_]; exact h; rw [z] at h; obtain ⟨φ, e⟩ := c.was; rw [e] at h; cases h⟩)
      · exact .inr h
theorem keys_keep {K : PySem.W.Frag} {H' : Hp} {a : Addr} (c : Chg H H' a) : ∀ (ks : List NestedKey) {vs : List V}, DpAll K H vs (NestedKey.datas ks) → DpAll K H' vs (NestedKey.datas ks)
  | [], vs, h => by simp only [NestedKey.datas] at h ⊢; cases h; exact .nil
  | k :: ks, vs, h => by
    simp only [NestedKey.datas] at h ⊢
    cases h with
    | cons h1 h2 => exact .cons (key_keep c k h1) (keys_keep c ks h2)
end
theorem KeyD.chg {K : PySem.W.Frag} {H' : Hp} {a : Addr} {v : V} {k : NestedKey} (c : Chg H H' a) (h : KeyD K H v k) : KeyD K H' v k := ⟨key_keep c k h.1, h.2⟩
/-- d[k] = v, whichever way it is done -/
theorem put_ok {A : Around} {E : Value → Shared → Prop} {a b : Addr} {kvs : List (NestedKey × V)} {k : NestedKey} {v : V} {u : Value} {m : Sem Unit} {Q : Unit → Shared → Prop} (I : Inv X pins σ H s) (d : DN X.K X.prog X.w H a kvs) (hk : KeyD X.K H (.ref b) k) (hz : kvs.length < sizeLine) (rv : RelV v u)
    (hm : ∀ xs : List RowV, xs.length ≤ sizeLine → s.heap.DictOfH (kn X.prog X.w) a xs → (∀ h' tk, h'.DictOfH (kn X.prog X.w) a (storedH xs k b u) → Heap.SameBut a s.heap h' → Q () { s with heap := h', toks := tk }) → wpAny (model X.prog X.w) A m Q E s)
    (h : ∀ s' H', Inv X pins σ H' s' → Chg H H' a → DN X.K X.prog X.w H' a (putN kvs k v) → Q () s') : wpAny (model X.prog X.w) A m Q E s := by
  have ncd := d.choose_spec.choose_spec.2.2.2.2
  obtain ⟨L, xs, ⟨φ0, e⟩, ek, hks, hsm, z, r, D⟩ := d.full I
  have hl := rows_len r
  have hL : L.length = kvs.length := by rw [← ek, List.length_map]
  refine hm xs (by omega) D fun h' tk D' sb => ?_
  have new0 : Dn0 X.prog X.w h' a (putL L k b v) := by
    obtain ⟨o, es, ep, h1, h2, h3, h4, _, h5⟩ := D'
    have := putL_len L k b v
    exact ⟨hsm, by omega, storedH xs k b u, rows_put r rv, o, es, ep, h1, h2, h3, h4, h5⟩
  have he : ∃ q, h'.get? a = some q := by
    obtain ⟨o, es, ep, h1, _⟩ := D'
    exact ⟨o, h1⟩
  have c : Chg H (upd H a (DNO X.prog X.w a (putL L k b v))) a := ⟨fun b n => upd_ne n, ⟨_, upd_same⟩, ⟨_, e⟩, ncd⟩
  refine h _ _ (d_write I (by rw [e]; exact True.intro) sb he (dno_ok new0)) c (.mk0 upd_same (by rw [putL_kvs, ek]) (fun p hp => (putL_key hks hk p hp).chg c) fun q z => ?_)
  rw [upd_same] at z
  exact not_code new0 q (Option.some.inj z)
def rPutN (K : PySem.W.Frag) (P : Program) (w : World) : TSet := fun o i v H Q => ∃ a kvs k, o = .ref a ∧ DN K P w H a kvs ∧ KeyD K H i k ∧ kvs.length < sizeLine ∧ ∀ H', Chg H H' a → DN K P w H' a (putN kvs k v) → Q H'
theorem set_N (hu : X.A.units + 64 < cLine) : PSet X (rPutN X.K X.prog X.w) := by
  intro pins s σ H o i v ov iv u Q I ro ri rv h
  obtain ⟨a, kvs, k, rfl, d, hk, hz, q⟩ := h
  obtain ⟨b, rfl⟩ := hk.ref
  cases ro
  cases ri
  refine put_ok I d hk hz rv (fun xs hsz D g => wpAny_setItem_heap (knd := kn X.prog X.w) (hsz := hsz) (by show X.A.units + 1 + 8 < cLine; omega) (hk.is I) D fun h' D' sb => g h' _ D' sb) fun s' H' I' c d' => ⟨H', I', q H' c d'⟩
end
end GD
end

section
set_option Elab.async false
set_option linter.all false
set_option maxRecDepth 100000
set_option maxHeartbeats 2000000
/-! min of a list of data with an order (pairs, tuples, lists of them). -/
namespace GMin
open PySem PySem.Spec PyProof.Rows L2
section
variable {X : Cx} {α : Type} [DecidableEq α] [PySem.W.DatumOrd α]
def rMinT (K : PySem.W.Frag) (α : Type) [DecidableEq α] [PySem.W.DatumOrd α] : List V → Hp → VK → Prop := fun xs H Q => ∃ (a : Addr) (ys : List V) (y0 : α) (ds : List α), xs = [.ref a] ∧ SqL K H a ys ∧ DpAll K H ys ((y0 :: ds).map PySem.W.Datum.toD) ∧
  ∀ (i : Nat) (y : V), ys[i]? = some y → (y0 :: ds)[i]? = some (PySem.W.minOf y0 ds) → Q y H
theorem hold_of {pins : List (Addr × Obj)} {σ : L2.St} {H : Hp} {s : Shared} (I : Inv X pins σ H s) : ∀ {ys : List V} {us : List Value} {ds : List α}, Vals ys us → DpAll X.K H ys (ds.map PySem.W.Datum.toD) → PySem.W.HoldAll s.heap us ds
  | [], [], [], _, _ => PySem.W.HoldAll.nil
  | _ :: _, _ :: _, _ :: _, .cons r t, .cons d e => PySem.W.HoldAll.cons (Dp.reads I _ _ _ d r) (hold_of I t e)
theorem vals_at : ∀ {ys : List V} {us : List Value} {i : Nat} {u : Value}, Vals ys us → us[i]? = some u → ∃ y, ys[i]? = some y ∧ RelV y u
  | _, _, _, _, .nil, e => by simp at e
  | _, _, 0, _, .cons r _, e => by simp at e; subst e; exact ⟨_, rfl, r⟩
  | _, _, i + 1, _, .cons _ t, e => by
    obtain ⟨y, e1, e2⟩ := vals_at (i := i) t (by simpa using e)
    exact ⟨y, by simpa using e1, e2⟩
theorem dp_at {K : PySem.W.Frag} {H : Hp} : ∀ {xs : List V} {ds : List PyData} {i : Nat} {x : V}, DpAll K H xs ds → xs[i]? = some x → ∃ d, ds[i]? = some d ∧ Dp K H x d
  | _, _, 0, _, .cons a _, h => ⟨_, rfl, by rw [← Option.some.inj h]; exact a⟩
  | _, _, i + 1, _, .cons _ b, h => dp_at (i := i) b h
theorem cr_minT (hc : X.calm = true) (hu : X.A.units + 1 + PySem.W.Datum.depth α < cLine) : CallR X (.builtin "min") (rMinT X.K α) := by
  intro pins s σ H xs us Q I r1 h
  obtain ⟨a, ys, y0, ds, rfl, hs, hd, q⟩ := h
  cases r1 with
  | cons r1 t1 =>
    cases t1
    cases r1
    obtain ⟨its, rv, pl, hz⟩ := I.list hs
    have ha : PySem.W.HoldAll s.heap its.toArray.toList (y0 :: ds) := by simpa using hold_of I rv hd
    refine PySem.W.min_list_datum (α := α) (I.ok.hd hc) pl.isList ha hu fun i v h' tk hi hh k => ?_
    obtain ⟨y, hy, ry⟩ := vals_at (i := i) (u := v) rv (by simpa using hi)
    obtain ⟨d, hd1, hd2⟩ := dp_at hd hy
    obtain ⟨as, rd⟩ := Dp.reads I d y v hd2 ry
    obtain ⟨bs, rb⟩ := hh
    have e := (reads_det (h := s.heap) (h' := h') (fun b o e _ => k b o e) rd rb).1
    rw [List.getElem?_map] at hd1
    obtain ⟨d0, hd0, rfl⟩ := Option.map_eq_some_iff.mp hd1
    have e3 := PySem.W.Datum.eqv (PySem.W.minOf y0 ds) d0
    rw [e, PySem.W.Datum.eqv] at e3
    have e4 : PySem.W.minOf y0 ds = d0 := by simpa using e3
    exact ⟨y, H, I.kept (t' := tk) k, ry, q i y hy (by rw [e4]; exact hd0)⟩
end
end GMin
end

section
set_option Elab.async false
set_option linter.all false
set_option maxRecDepth 100000
set_option maxHeartbeats 2000000
/-! the least empty way as a recursion, in plain Lean -/
namespace Ly
abbrev AO := Int × PySem.W.Tup (Int × Int)
def iabs (i : Int) : Int := if i < 0 then -i else i
def stepsI (p q : Int × Int) : Int := iabs (p.1 - q.1) + iabs (p.2 - q.2)
def endsI (r : C3) (w : Int) : (Int × Int) × (Int × Int) := if w = 0 then ((r.2.1, r.1), (r.2.2, r.1)) else ((r.2.2, r.1), (r.2.1, r.1))
def srt (l : List Int) : List Int := l.mergeSort fun a b => decide (a ≤ b)
theorem srt_perm (l : List Int) : (srt l).Perm l := List.mergeSort_perm l _
theorem srt_sorted (l : List Int) : (srt l).Pairwise (· ≤ ·) := by
  have h := List.pairwise_mergeSort (le := fun (a b : Int) => decide (a ≤ b)) (fun a b c h1 h2 => by simp at *; omega) (fun a b => by simp; omega) l
  exact h.imp fun {a b} q => by simpa using q
theorem srt_eq {l m : List Int} (p : m.Perm l) (s : m.Pairwise (· ≤ ·)) : m = srt l :=
  List.Perm.eq_of_pairwise (le := (· ≤ ·)) (fun a b _ _ h1 h2 => Int.le_antisymm h1 h2) s (srt_sorted l) (p.trans (srt_perm l).symm)
theorem srt_len (l : List Int) : (srt l).length = l.length := (srt_perm l).length_eq
def minA : List AO → AO
  | [] => (0, ⟨[]⟩)
  | y :: ys => PySem.W.minOf y ys
/-- what one stroke makes -/
def one (L : List C3) (done : List Int) (p : Int × Int) (rec : List Int → Int × Int → AO) (n : Nat) (w : Int) : AO :=
  (stepsI p (endsI (L.getD n (0, 0, 0)) w).1 + (rec (srt (done ++ [(n : Int)])) (endsI (L.getD n (0, 0, 0)) w).2).1, ⟨((n : Int), w) :: (rec (srt (done ++ [(n : Int)])) (endsI (L.getD n (0, 0, 0)) w).2).2.items⟩)
def cand1 (L : List C3) (done : List Int) (p : Int × Int) (rec : List Int → Int × Int → AO) (n : Nat) : List AO :=
  if (n : Int) ∈ done then [] else [one L done p rec n 0, one L done p rec n 1]
def cand (L : List C3) (done : List Int) (p : Int × Int) (rec : List Int → Int × Int → AO) : List AO := (List.range L.length).flatMap (cand1 L done p rec)
theorem one_congr {L : List C3} {done : List Int} {p : Int × Int} {r1 r2 : List Int → Int × Int → AO} (h : ∀ d q, d.length = done.length + 1 → r1 d q = r2 d q) (n : Nat) (w : Int) : one L done p r1 n w = one L done p r2 n w := by
  unfold one
  rw [h _ _ (by rw [srt_len, List.length_append]; rfl)]
theorem cand_congr {L : List C3} {done : List Int} {p : Int × Int} {r1 r2 : List Int → Int × Int → AO} (h : ∀ d q, d.length = done.length + 1 → r1 d q = r2 d q) : cand L done p r1 = cand L done p r2 := by
  unfold cand
  congr 1
  funext n
  unfold cand1
  rw [one_congr h, one_congr h]
def bestA (Ls : List (List C3)) : Nat → Nat → List Int → Int × Int → AO
  | 0, _, _, _ => (0, ⟨[]⟩)
  | n + 1, at_, done, p => match Ls[at_]? with
    | none => (0, ⟨[]⟩)
    | some L => if done.length = L.length then bestA Ls n (at_ + 1) [] p else minA (cand L done p (bestA Ls n at_))
/-- how many turns are left -/
def meas (Ls : List (List C3)) (at_ : Nat) : Nat := ((Ls.drop at_).map fun L => L.length + 1).sum
def best (Ls : List (List C3)) (at_ : Nat) (done : List Int) (p : Int × Int) : AO := bestA Ls (meas Ls at_ - done.length) at_ done p
theorem meas_at {Ls : List (List C3)} {at_ : Nat} {L : List C3} (h : Ls[at_]? = some L) : meas Ls at_ = (L.length + 1) + meas Ls (at_ + 1) := by
  obtain ⟨hi, e⟩ := List.getElem?_eq_some_iff.mp h
  unfold meas
  rw [List.drop_eq_getElem_cons hi, e, List.map_cons, List.sum_cons]
theorem best_end {Ls : List (List C3)} {at_ : Nat} (done : List Int) (p : Int × Int) (h : Ls.length ≤ at_) : best Ls at_ done p = (0, ⟨[]⟩) := by
  unfold best meas
  rw [List.drop_eq_nil_of_le h]
  show bestA Ls (0 - done.length) at_ done p = _
  rw [Nat.zero_sub]
  rfl
theorem best_next {Ls : List (List C3)} {at_ : Nat} {L : List C3} {done : List Int} {p : Int × Int} (h : Ls[at_]? = some L) (hl : done.length = L.length) : best Ls at_ done p = best Ls (at_ + 1) [] p := by
  unfold best
  rw [meas_at h, hl, show L.length + 1 + meas Ls (at_ + 1) - L.length = meas Ls (at_ + 1) + 1 by omega]
  show (match Ls[at_]? with | none => ((0, ⟨[]⟩) : AO) | some L => if done.length = L.length then bestA Ls (meas Ls (at_ + 1)) (at_ + 1) [] p else minA (cand L done p (bestA Ls (meas Ls (at_ + 1)) at_))) = _
  rw [h]
  show (if done.length = L.length then _ else _) = _
  rw [if_pos hl]
  rfl
theorem best_min {Ls : List (List C3)} {at_ : Nat} {L : List C3} {done : List Int} {p : Int × Int} (h : Ls[at_]? = some L) (hl : done.length < L.length) : best Ls at_ done p = minA (cand L done p (best Ls at_)) := by
  have e : meas Ls at_ - done.length = (meas Ls at_ - (done.length + 1)) + 1 := by
    have := meas_at h
    omega
  show bestA Ls (meas Ls at_ - done.length) at_ done p = _
  rw [e]
  show (match Ls[at_]? with | none => ((0, ⟨[]⟩) : AO) | some L => if done.length = L.length then bestA Ls (meas Ls at_ - (done.length + 1)) (at_ + 1) [] p else minA (cand L done p (bestA Ls (meas Ls at_ - (done.length + 1)) at_))) = _
  rw [h]
  show (if done.length = L.length then _ else _) = _
  rw [if_neg (by omega)]
  congr 1
  refine cand_congr fun d q hd => ?_
  unfold best
  rw [hd]
/-! ### states, and how many there are -/
def sbs : Nat → List (List Int)
  | 0 => [[]]
  | n + 1 => sbs n ++ (sbs n).map fun d => d ++ [(n : Int)]
theorem mem_sbs : ∀ (n : Nat) {d : List Int}, d.Pairwise (· < ·) → (∀ x ∈ d, 0 ≤ x ∧ x < n) → d ∈ sbs n
  | 0, d, _, h => by
    cases d with
    | nil => exact List.mem_singleton.mpr rfl
    | cons x d => have := h x List.mem_cons_self; omega
  | n + 1, d, s, h => by
    rcases List.eq_nil_or_concat d with e | ⟨d', x, e⟩
    · subst e
      exact List.mem_append_left _ (mem_sbs n .nil fun x hx => by cases hx)
    · rw [List.concat_eq_append] at e
      subst e
      obtain ⟨s1, _, s3⟩ := List.pairwise_append.mp s
      have hx := h x (List.mem_append_right _ (List.mem_singleton.mpr rfl))
      have hd : ∀ y ∈ d', 0 ≤ y ∧ y < x := fun y hy => ⟨(h y (List.mem_append_left _ hy)).1, s3 y hy x (List.mem_singleton.mpr rfl)⟩
      by_cases e : x = (n : Int)
      · subst e
        exact List.mem_append_right _ (List.mem_map.mpr ⟨d', mem_sbs n s1 hd, rfl⟩)
      · refine List.mem_append_left _ (mem_sbs n s fun y hy => ?_)
        have hy0 := h y hy
        rcases List.mem_append.mp hy with z | z
        · have := hd y z; omega
        · rw [List.mem_singleton.mp z] at hy0 ⊢; omega
theorem sbs_len : ∀ n, (sbs n).length = 2 ^ n
  | 0 => rfl
  | n + 1 => by
    show (sbs n ++ _).length = _
    rw [List.length_append, List.length_map, sbs_len n, Nat.pow_succ]
    omega
theorem nodup_le {α : Type} [DecidableEq α] : ∀ {l U : List α}, l.Nodup → (∀ x ∈ l, x ∈ U) → l.length ≤ U.length
  | [], _, _, _ => Nat.zero_le _
  | x :: l, U, h, s => by
    obtain ⟨h1, h2⟩ := List.nodup_cons.mp h
    have := nodup_le (l := l) (U := U.erase x) h2 fun y hy => (List.mem_erase_of_ne (fun e => h1 (by rw [← e]; exact hy))).mpr (s y (List.mem_cons_of_mem _ hy))
    have hx := s x List.mem_cons_self
    rw [List.length_erase_of_mem hx] at this
    have := List.length_pos_of_mem hx
    rw [List.length_cons]
    omega
/-! ### how long an answer is -/
theorem min_mem {α : Type} [DecidableEq α] [PySem.W.DatumOrd α] : ∀ (ys : List α) (y : α), PySem.W.minOf y ys ∈ y :: ys
  | [], y => List.mem_cons_self
  | z :: ys, y => by
    have e : PySem.W.minOf y (z :: ys) = PySem.W.minOf (if PySem.W.DatumOrd.lt z y = true then z else y) ys := rfl
    rw [e]
    have h := min_mem ys (if PySem.W.DatumOrd.lt z y = true then z else y)
    rcases List.mem_cons.mp h with q | q
    · rw [q]
      split
      · exact List.mem_cons_of_mem _ List.mem_cons_self
      · exact List.mem_cons_self
    · exact List.mem_cons_of_mem _ (List.mem_cons_of_mem _ q)
theorem minA_mem : ∀ {l : List AO}, l ≠ [] → minA l ∈ l
  | [], h => absurd rfl h
  | y :: ys, _ => min_mem ys y
theorem cand_len {L : List C3} {done : List Int} {p : Int × Int} {rec : List Int → Int × Int → AO} {m : Nat} (h : ∀ d q, (rec d q).2.items.length ≤ m) : ∀ a ∈ cand L done p rec, a.2.items.length ≤ m + 1 := fun a ha => by
  obtain ⟨n, _, hn⟩ := List.mem_flatMap.mp ha
  unfold cand1 at hn
  split at hn
  · cases hn
  · rcases List.mem_cons.mp hn with e | e
    · rw [e]; exact Nat.succ_le_succ (h _ _)
    · rw [List.mem_singleton.mp e]; exact Nat.succ_le_succ (h _ _)
theorem bestA_len (Ls : List (List C3)) : ∀ (n at_ : Nat) (done : List Int) (p : Int × Int), (bestA Ls n at_ done p).2.items.length ≤ n
  | 0, _, _, _ => Nat.zero_le _
  | n + 1, at_, done, p => by
    show (match Ls[at_]? with | none => ((0, ⟨[]⟩) : AO) | some L => if done.length = L.length then bestA Ls n (at_ + 1) [] p else minA (cand L done p (bestA Ls n at_))).2.items.length ≤ n + 1
    cases Ls[at_]? with
    | none => exact Nat.zero_le _
    | some L =>
      show (if done.length = L.length then bestA Ls n (at_ + 1) [] p else minA (cand L done p (bestA Ls n at_))).2.items.length ≤ n + 1
      split
      · exact Nat.le_succ_of_le (bestA_len Ls n _ _ _)
      · by_cases e : cand L done p (bestA Ls n at_) = []
        · rw [e]; exact Nat.zero_le _
        · exact cand_len (bestA_len Ls n at_) _ (minA_mem e)
theorem meas_le {Ls : List (List C3)} (f : Ls.length ≤ 4) (h : ∀ L ∈ Ls, L.length ≤ 8) (at_ : Nat) : meas Ls at_ ≤ 36 := by
  have go : ∀ l : List (List C3), (∀ L ∈ l, L.length ≤ 8) → (l.map fun L => L.length + 1).sum ≤ 9 * l.length := fun l => by
    induction l with
    | nil => intro _; exact Nat.le_refl _
    | cons L l ih =>
      intro hl
      have h1 := hl L List.mem_cons_self
      have h2 := ih fun M hM => hl M (List.mem_cons_of_mem _ hM)
      rw [List.map_cons, List.sum_cons, List.length_cons]
      omega
  have h1 := go (Ls.drop at_) fun L hL => h L (List.mem_of_mem_drop hL)
  rw [List.length_drop] at h1
  unfold meas
  omega
theorem best_len {Ls : List (List C3)} (f : Ls.length ≤ 4) (h : ∀ L ∈ Ls, L.length ≤ 8) (at_ : Nat) (done : List Int) (p : Int × Int) : (best Ls at_ done p).2.items.length ≤ 36 := by
  have h1 := bestA_len Ls (meas Ls at_ - done.length) at_ done p
  have h2 := meas_le f h at_
  unfold best
  omega
theorem cand_ne {L : List C3} {done : List Int} {p : Int × Int} {rec : List Int → Int × Int → AO} (nd : done.Nodup) (hl : done.length < L.length) : cand L done p rec ≠ [] := fun e => by
  have hall : ∀ n, n < L.length → (n : Int) ∈ done := fun n hn => by
    refine Classical.byContradiction fun m => ?_
    have : one L done p rec n 0 ∈ cand L done p rec := List.mem_flatMap.mpr ⟨n, List.mem_range.mpr hn, by unfold cand1; rw [if_neg m]; exact List.mem_cons_self⟩
    rw [e] at this
    cases this
  have h := nodup_le (l := (List.range L.length).map fun i : Nat => (i : Int)) (U := done) (List.pairwise_map.mpr (List.nodup_range.imp fun {a b} q => by omega)) fun x hx => by
    obtain ⟨i, hi, rfl⟩ := List.mem_map.mp hx
    exact hall i (List.mem_range.mp hi)
  rw [List.length_map, List.length_range] at h
  omega
/-! ### the answer, layer by layer -/
def chunks : List (List C3) → List (Int × Int) → List (List (Int × Int))
  | [], _ => []
  | L :: Ls, xs => xs.take L.length :: chunks Ls (xs.drop L.length)
/-- where layer i begins -/
def begL (Ls : List (List C3)) (i : Nat) : Nat := ((Ls.take i).map List.length).sum
theorem begL_succ {Ls : List (List C3)} {i : Nat} {L : List C3} (h : Ls[i]? = some L) : begL Ls (i + 1) = begL Ls i + L.length := by
  unfold begL
  rw [List.take_add_one, h, List.map_append, List.sum_append]
  show _ + (L.length + 0) = _
  rw [Nat.add_zero]
theorem chunks_at : ∀ (Ls : List (List C3)) (xs : List (Int × Int)) (i : Nat) {L : List C3}, Ls[i]? = some L → (chunks Ls xs)[i]? = some ((xs.drop (begL Ls i)).take L.length)
  | M :: Ls, xs, 0, L, h => by
    have h : M = L := by simpa using h
    subst h
    rfl
  | M :: Ls, xs, i + 1, L, h => by
    have h : Ls[i]? = some L := by simpa using h
    have ih := chunks_at Ls (xs.drop M.length) i h
    show (chunks Ls (xs.drop M.length))[i]? = _
    rw [ih, List.drop_drop]
    rfl
theorem chunks_len : ∀ (Ls : List (List C3)) (xs : List (Int × Int)), (chunks Ls xs).length = Ls.length
  | [], _ => rfl
  | L :: Ls, xs => by show (chunks Ls _).length + 1 = _; rw [chunks_len Ls]; rfl
/-- how many strokes there are from a layer on -/
def tot (Ls : List (List C3)) (at_ : Nat) : Nat := ((Ls.drop at_).map List.length).sum
theorem tot_at {Ls : List (List C3)} {at_ : Nat} {L : List C3} (h : Ls[at_]? = some L) : tot Ls at_ = L.length + tot Ls (at_ + 1) := by
  obtain ⟨hi, e⟩ := List.getElem?_eq_some_iff.mp h
  unfold tot
  rw [List.drop_eq_getElem_cons hi, e, List.map_cons, List.sum_cons]
theorem cand_cnt {L : List C3} {done : List Int} {p : Int × Int} {rec : List Int → Int × Int → AO} {m : Nat} (h : ∀ d q, d.length = done.length + 1 → (rec d q).2.items.length ≤ m) : ∀ a ∈ cand L done p rec, a.2.items.length ≤ m + 1 := fun a ha => by
  obtain ⟨n, _, hn⟩ := List.mem_flatMap.mp ha
  have hl : (srt (done ++ [(n : Int)])).length = done.length + 1 := by rw [srt_len, List.length_append]; rfl
  unfold cand1 at hn
  split at hn
  · cases hn
  · rcases List.mem_cons.mp hn with e | e
    · rw [e]; exact Nat.succ_le_succ (h _ _ hl)
    · rw [List.mem_singleton.mp e]; exact Nat.succ_le_succ (h _ _ hl)
theorem bestA_cnt (Ls : List (List C3)) : ∀ (n at_ : Nat) (done : List Int) (p : Int × Int), (∀ L, Ls[at_]? = some L → done.length ≤ L.length) → n = meas Ls at_ - done.length → (bestA Ls n at_ done p).2.items.length ≤ tot Ls at_ - done.length
  | 0, _, _, _, _, _ => Nat.zero_le _
  | n + 1, at_, done, p, hd, hn => by
    show (match Ls[at_]? with | none => ((0, ⟨[]⟩) : AO) | some L => if done.length = L.length then bestA Ls n (at_ + 1) [] p else minA (cand L done p (bestA Ls n at_))).2.items.length ≤ _
    cases e : Ls[at_]? with
    | none => exact Nat.zero_le _
    | some L =>
      have h1 := hd L e
      have h2 := meas_at e
      have h3 := tot_at e
      show (if done.length = L.length then bestA Ls n (at_ + 1) [] p else minA (cand L done p (bestA Ls n at_))).2.items.length ≤ _
      split
      · have := bestA_cnt Ls n (at_ + 1) [] p (fun _ _ => Nat.zero_le _) (by show n = meas Ls (at_ + 1) - 0; omega)
        have this : _ ≤ tot Ls (at_ + 1) - 0 := this
        omega
      · by_cases z : cand L done p (bestA Ls n at_) = []
        · rw [z]; exact Nat.zero_le _
        · have := cand_cnt (m := tot Ls at_ - (done.length + 1)) (fun d q hl => by
            have := bestA_cnt Ls n at_ d q (fun M hM => by rw [e] at hM; cases hM; omega) (by omega)
            rw [hl] at this
            exact this) _ (minA_mem z)
          omega
theorem best_one (L : List C3) (p : Int × Int) : (best [L] 0 [] p).2.items.length ≤ L.length := by
  have := bestA_cnt [L] (meas [L] 0 - 0) 0 [] p (fun _ _ => Nat.zero_le _) rfl
  have e : tot [L] 0 = L.length := by simp [tot]
  rw [e] at this
  exact this
/-! ### the same with lists -/
abbrev AL := Int × List (Int × Int)
def toAO (a : AL) : AO := (a.1, ⟨a.2⟩)
theorem toAO_lt (a b : AL) : PySem.W.DatumOrd.lt (toAO a) (toAO b) = PySem.W.DatumOrd.lt a b := rfl
theorem minOf_toAO : ∀ (ys : List AL) (y : AL), PySem.W.minOf (toAO y) (ys.map toAO) = toAO (PySem.W.minOf y ys)
  | [], y => rfl
  | z :: ys, y => by
    have e1 : PySem.W.minOf (toAO y) ((z :: ys).map toAO) = PySem.W.minOf (if PySem.W.DatumOrd.lt (toAO z) (toAO y) = true then toAO z else toAO y) (ys.map toAO) := rfl
    have e2 : PySem.W.minOf y (z :: ys) = PySem.W.minOf (if PySem.W.DatumOrd.lt z y = true then z else y) ys := rfl
    rw [e1, e2, toAO_lt]
    split
    · exact minOf_toAO ys z
    · exact minOf_toAO ys y
def ofAO (a : AO) : AL := (a.1, a.2.items)
theorem to_of (a : AO) : toAO (ofAO a) = a := rfl
theorem of_to (a : AL) : ofAO (toAO a) = a := rfl
theorem minOf_ofAO (ys : List AO) (y : AO) : PySem.W.minOf (ofAO y) (ys.map ofAO) = ofAO (PySem.W.minOf y ys) := by
  have h := minOf_toAO (ys.map ofAO) (ofAO y)
  rw [List.map_map] at h
  have e : (toAO ∘ ofAO) = id := rfl
  rw [e, List.map_id, to_of] at h
  rw [h, of_to]
theorem srt_snoc (done : List Int) (n : Int) : srt (srt done ++ [n]) = srt (done ++ [n]) :=
  srt_eq ((srt_perm _).trans ((srt_perm done).append_right [n])) (srt_sorted _)
theorem mem_srt {done : List Int} {n : Int} : n ∈ srt done ↔ n ∈ done := (srt_perm done).mem_iff
end Ly
end

section
set_option Elab.async false
set_option linter.all false
set_option maxRecDepth 100000
set_option maxHeartbeats 2000000
/-! Dicts with keys of any depth: {k: v for x in xs}, dict(pairs). -/
namespace GD
open PySem PySem.Spec PyProof.Rows L2
/-- an empty one is made -/
structure New (H H' : Hp) (a : Addr) : Prop where
  free : H a = none
  but : ∀ b, b ≠ a → H' b = H b
  now : ∃ φ, H' a = some (.ext φ)
  nc : ∀ q, H' a ≠ some (LamX.CodeO a q)
theorem new_upd {P : Program} {w : World} {H : Hp} {h : Heap} {a : Addr} {L : List Row} (n : H a = none) (x : Dn0 P w h a L) : New H (upd H a (DNO P w a L)) a :=
  ⟨n, fun b e => upd_ne e, ⟨_, upd_same⟩, fun q e => by rw [upd_same] at e; exact not_code x q (Option.some.inj e)⟩
theorem dn_nil {K : PySem.W.Frag} {P : Program} {w : World} {H : Hp} {h : Heap} {a : Addr} (x : Dn0 P w h a []) : DN K P w (upd H a (DNO P w a [])) a [] :=
  .mk0 upd_same rfl (fun p hp => (by cases hp)) fun q (e : upd H a (DNO P w a []) a = some (LamX.CodeO a q)) => by rw [upd_same] at e; exact not_code x q (Option.some.inj e)
section
variable {B : Cx} {pl : List (Addr × Obj)} {σ : L2.St} {lvl i : Nat} {x : Str} {px ip : Pos} {J : It} {it : Addr} {fp : List Addr} {tn : Nat → Heap → Prop} {acc : Value} {N : Nat} {W : Nat → Hp → Prop} {We : Hp → Prop} {bd : Sem Unit}
theorem eachD {kx vx : Expr} {gs : List Comprehension} {scope : Scope} {pos : Pos} (hc : B.calm = true) (hxe : B.xe = fun _ _ => False)
    (hturn : compTurn (.DictComp kx vx gs scope pos) lvl (.ref it) acc B.env = (do
      standAt ip
      match ← pyNext (.ref it) with
      | none => pure (.done .next)
      | some v => do
        letOwnedTupleGo (.Name x px) (.ref it) v
        assign (.Name x px) B.env v
        bd
        again (.compLoop (.DictComp kx vx gs scope pos) lvl (.ref it) acc B.env)))
    (T : Turn B.prog B.w B.K (.Name x px) J fp it tn) (pg : PG B (.Name x px) (gName i)) (hi : σ[i]? = some none)
    (fpo : ∀ {H' : Hp}, (∀ b ∈ fp, H' b = none) → ∀ b ∈ fp, FpOk B pl H' b)
    (turn : ∀ j H, W j H → (j = N ∧ J.stop j H ∧ We H) ∨ (j < N ∧ J.go j H ∧ ∀ y H', J.yld j H y H' → ∀ (pl' : List (Addr × Obj)) (s : Shared), Inv B (pl ++ pl') (σ.set i (some y)) H' s →
      wpAny (model B.prog B.w) B.A bd (fun _ s' => ∃ H2, Inv B (pl ++ pl') (σ.set i (some y)) H2 s' ∧ W (j + 1) H2) (fun _ _ => False) s))
    {Rr : Result → Shared → Prop} (hR : ∀ s' H', Inv B pl σ H' s' → We H' → Rr (.ok .next) s') (s : Shared) (H : Hp) (I : Inv B pl σ H s) (st : tn 0 s.heap) (nfp : ∀ b ∈ fp, H b = none) (w : W 0 H) :
    codeAny (model B.prog B.w) B.A (.compLoop (.DictComp kx vx gs scope pos) lvl (.ref it) acc B.env) Rr s := by
  refine codeAny_loop rfl (fun n s' => ∃ j H', Inv B pl σ H' s' ∧ tn j s'.heap ∧ (∀ b ∈ fp, H' b = none) ∧ W j H' ∧ j ≤ N ∧ n = N - j) ?_ (N - 0) ⟨0, H, I, st, nfp, w, Nat.zero_le _, rfl⟩
  rintro n s1 ⟨j, H1, I1, st1, n1, w1, hj, hn⟩
  show wpAny _ B.A ((compTurn (.DictComp kx vx gs scope pos) lvl (.ref it) acc B.env).onRaise (fun x => do noteFrame x B.env; theTreesLotGoes x)) _ _ s1
  refine wpAny_noted ?_
  rw [hturn]
  refine wpAny_bind (wpAny_standAt (wpAny_bind ?_))
  rcases turn j H1 w1 with ⟨ej, stop, we⟩ | ⟨lt, go, step⟩
  · refine thnF (T.done B rfl rfl rfl hc j pl s1 σ H1 (fun _ _ => False) I1 (fpo n1) st1 stop) fun r s2 ⟨hr, I2⟩ => ?_
    subst hr
    exact wpAny_pure (hR s2 H1 I2 we)
  · refine thnF (T.item B rfl rfl rfl hc j pl s1 σ H1 (fun _ _ => False) I1 (fpo n1) st1 go) fun r s2 ⟨u, hr, h2⟩ => ?_
    subst hr
    refine wpAny_bind (thnF h2 fun _ s3 ⟨y, H3, I3, r3, y3, st3, n3⟩ => ?_)
    have I3' := I3.pinned (fpo n3) (T.obj _ _ st3)
    have pr := pg.run _ s3 σ H3 y u (fun σ' H' => σ' = σ.set i (some y) ∧ H' = H3) I3' r3 ⟨rfl, rfl⟩
    rw [hxe] at pr
    refine wpAny_bind (thnF pr fun _ s4 ⟨σ4, H4, I4, e4, e4'⟩ => ?_)
    subst e4
    subst e4'
    refine wpAny_bind (thnF (step y H4 y3 _ s4 I4) fun _ s5 ⟨H5, I5, w5⟩ => ?_)
    refine wpAny_pure ⟨rfl, N - (j + 1), by omega, j + 1, H5, ?_, ?_, fun b hb => ?_, w5, lt, rfl⟩
    · have sb := GV.Sub.set (v := y) hi
      exact (I5.unpinned).weak sb.1 sb.2
    · exact T.keep _ _ _ st3 fun b hb o e => (I5.pin (b, o) (List.mem_append_right _ (List.mem_append_right _ (mem_pinsAt hb e)))).1
    · obtain ⟨o, e, _⟩ := T.obj _ _ st3 b hb
      exact (I5.pin (b, o) (List.mem_append_right _ (List.mem_append_right _ (mem_pinsAt hb e)))).2.1
end
section
variable {X : Cx}
/-- a: the slot of the name -/
def tDcN (K : PySem.W.Frag) (P : Program) (w : World) (wi : TI) (tk tv : TE) (vs : List Nat) (a : Nat) : TE := fun σ H Q => wi σ H fun J H1 => ∀ D H2, New H1 H2 D → DN K P w H2 D [] → ∃ (N : Nat) (W : Nat → Hp → Prop), W 0 H2 ∧ ∀ i H, W i H →
  (i = N ∧ J.stop i H ∧ Q (.ref D) H) ∨ (i < N ∧ J.go i H ∧ ∀ x H', J.yld i H x H' → tk ((wipe σ vs).set a (some x)) H' fun y H4 => tv ((wipe σ vs).set a (some x)) H4 fun z H5 =>
    ∃ kvs k, DN K P w H5 D kvs ∧ KeyD K H5 y k ∧ kvs.length < sizeLine ∧ ∀ H6, Chg H5 H6 D → DN K P w H6 D (putN kvs k z) → W (i + 1) H6)
theorem dcN_core {pins : List (Addr × Obj)} {s : Shared} {σ : L2.St} {H : Hp} {Q : VK} {pos' : Pos} {use : Option (Value → Sem Unit)} {Qf : Value → Shared → Prop} {kx vx i0 : Expr} {x0 : Str} {p0 pos : Pos} {scope : Scope} {own : List (Str × Nat)} {wi : TI} {tk tv : TE} {a : Nat} (hc : X.calm = true) (hN : X.N.Nodup) (hu : X.A.units + 64 < cLine) (ok : BlkOk X.N X.env.scope scope own)
    (ha : X.N[a]? = some x0) (ho : a ∈ own.map (·.2)) (hi : PI X (.Name x0 p0) i0 wi)
    (hg : ∀ (s : Shared) (H : Hp) (C : Addr) (cl : List (Str × Addr)) (fp : List Addr), PG (X.blk s H scope (compEnvC scope cl C X.env) fp) (.Name x0 p0) (gName a))
    (hk : ∀ (s : Shared) (H : Hp) (C : Addr) (cl : List (Str × Addr)) (fp : List Addr), PE (X.blk s H scope (compEnvC scope cl C X.env) fp) kx tk)
    (hv : ∀ (s : Shared) (H : Hp) (C : Addr) (cl : List (Str × Addr)) (fp : List Addr), PE (X.blk s H scope (compEnvC scope cl C X.env) fp) vx tv)
    (hs : ∀ x, foldedSetIterable i0 X.env x = pure x) (I : Inv X pins σ H s) (h : tDcN X.K X.prog X.w wi tk tv (own.map (·.2)) a σ H Q)
    (fin : ∀ D C s' m H', Inv X pins σ H' s' → Q (.ref D) H' → s'.heap.Ns C m → FpOk X pins H' C → compPost (model X.prog X.w) X.A X.xe use Qf (.ref D) C (.ok .next) s') :
    wpAny (model X.prog X.w) X.A (comprehension (.DictComp kx vx [⟨.Name x0 p0, i0, [], 0⟩] scope pos) scope X.env pos' newDict false (eval i0 X.env) use) Qf X.xe s := by
  have hfree : ∀ y ∈ scope.names, y.2 = .free → ∃ c, X.env.cells.lookup y.1 = some c := fun y hy e => by
    rcases ok.free y hy e with k | k
    · exact I.ok.has _ (.inl k)
    · exact I.ok.has _ (.inr k)
  refine wpAny_comprehension_free (use := use) rfl hs (closure_ok hfree) ok.kind (fun y hy e => by rw [ok.uniq y hy, e])
    (thn (hi.run pins s σ H _ I h) fun xv s1 hx => thn hx fun itv s2 h2 => ?_)
  obtain ⟨it, fp, tn, J, H2, e, I2, T, st2, f2, q⟩ := h2
  subst e
  refine wpAny_newObj_type (newEnv_comp ?_)
  generalize hD : s2.heap.objs.size = D
  have hDn : H2 D = none := I2.hok.fresh (Nat.le_of_eq hD)
  generalize hs3 : ({ s2 with heap := s2.heap.push { cls := .type "dict", data := .dict #[] } } : Shared) = s3
  have h3 : s3.heap = s2.heap.push { cls := .type "dict", data := .dict #[] } := by rw [← hs3]
  have d0 : Dn0 X.prog X.w s3.heap D [] := by
    refine ⟨?_, Nat.zero_le _, [], .nil, { cls := .type "dict", data := .dict #[] }, #[], 0, ?_, ⟨rfl, rfl, rfl⟩, rfl, rfl, List.nodup_nil⟩
    · rw [← hD]
      exact beq_eq_false_iff_ne.mpr (Nat.ne_of_gt I2.big)
    · rw [h3, ← hD]
      exact Heap.get?_push_size _ rfl
  obtain ⟨N, W, w0, turn⟩ := q D (upd H2 D (DNO X.prog X.w D [])) (new_upd hDn d0) (dn_nil d0)
  have I3 : Inv X pins σ (upd H2 D (DNO X.prog X.w D [])) s3 := by
    rw [← hs3]
    refine I2.laid (t' := s2.toks) (fun b o e => Heap.get?_push_of_some _ e) (Nat.le_of_eq hD) ?_
    rw [← h3]
    exact dno_ok d0
  have f3 : ∀ b ∈ fp, FpOk X pins (upd H2 D (DNO X.prog X.w D [])) b ∧ b < s3.heap.objs.size := fun b hb => by
    obtain ⟨o, e, _⟩ := T.obj _ _ st2 b hb
    have hlt := Heap.lt_size e
    refine ⟨⟨?_, (f2 b hb).2⟩, by rw [h3, Heap.size_push]; exact Nat.lt_succ_of_lt hlt⟩
    rw [upd_ne (by rw [← hD]; exact Nat.ne_of_lt hlt)]
    exact (f2 b hb).1
  have st3 : tn 0 s3.heap := T.keep _ _ _ st2 fun b _ o e => by rw [h3]; exact Heap.get?_push_of_some _ e
  have I4 := block_start I3 ok hN f3
  have pk := hk s3 (upd H2 D (DNO X.prog X.w D [])) s3.heap.objs.size (cellsFrom (s3.heap.objs.size + 1) scope.names (cloFrom X.env.cells scope.names [])) fp
  have pv := hv s3 (upd H2 D (DNO X.prog X.w D [])) s3.heap.objs.size (cellsFrom (s3.heap.objs.size + 1) scope.names (cloFrom X.env.cells scope.names [])) fp
  have pga := hg s3 (upd H2 D (DNO X.prog X.w D [])) s3.heap.objs.size (cellsFrom (s3.heap.objs.size + 1) scope.names (cloFrom X.env.cells scope.names [])) fp
  have hsc : (compEnvC scope (cellsFrom (s3.heap.objs.size + 1) scope.names (cloFrom X.env.cells scope.names [])) s3.heap.objs.size X.env).locals = s3.heap.objs.size := rfl
  show codeAny _ _ (.compStart (.DictComp kx vx [⟨.Name x0 p0, i0, [], 0⟩] scope pos) 0 (.ref it) (.ref D) (compEnvC scope (cellsFrom (s3.heap.objs.size + 1) scope.names (cloFrom X.env.cells scope.names [])) s3.heap.objs.size X.env)) (compPost (model X.prog X.w) X.A X.xe use Qf (.ref D) s3.heap.objs.size) { s3 with heap := pushCells (s3.heap.push { cls := .type "dict", data := .dict #[] }) scope.names }
  generalize hce : compEnvC scope (cellsFrom (s3.heap.objs.size + 1) scope.names (cloFrom X.env.cells scope.names [])) s3.heap.objs.size X.env = ce at I4 pk pv pga hsc ⊢
  have nfp : ∀ b ∈ fp, (upd H2 D (DNO X.prog X.w D [])) b = none := fun b hb => (f3 b hb).1.1
  generalize hH3 : upd H2 D (DNO X.prog X.w D []) = H3 at I3 I4 pk pv pga w0 nfp f3
  generalize hs4 : ({ s3 with heap := pushCells (s3.heap.push { cls := .type "dict", data := .dict #[] }) scope.names } : Shared) = s4 at I4 ⊢
  have st4 : tn 0 s4.heap := T.keep _ _ _ st3 fun b _ o e => by rw [← hs4]; exact pushCells_keeps _ _ _ _ (Heap.get?_push_of_some _ e)
  generalize hσ : wipe σ (own.map (·.2)) = σ0 at I4 turn
  have len0 : σ0.length = X.N.length := by rw [← hσ, wipe_length]; exact I.len
  have free0 : σ0[a]? = some none := by
    have hil : a < σ0.length := by
      rw [len0]
      exact (List.getElem?_eq_some_iff.mp ha).1
    cases hq : σ0[a]? with
    | none => rw [List.getElem?_eq_none_iff] at hq; omega
    | some o =>
      cases o with
      | none => rfl
      | some v =>
        rw [← hσ] at hq
        exact absurd ho (wipe_some hq).2
  have fpB : ∀ {H' : Hp}, (∀ b ∈ fp, H' b = none) → ∀ b ∈ fp, FpOk (X.blk s3 H3 scope ce fp) [] H' b := fun {H'} hn b hb =>
    ⟨hn b hb, (I4.ok.exf b hb).1, I4.ok.exfs b hb, .inl hb, fun x c e => (I4.ok.exf b hb).2 x c e, fun p hp => absurd (show p ∈ ([] : List (Addr × Obj)) ++ [] from hp) (by simp)⟩
  have loop : codeAny (model X.prog X.w) X.A (.compLoop (.DictComp kx vx [⟨.Name x0 p0, i0, [], 0⟩] scope pos) 0 (.ref it) (.ref D) ce) (compPost (model X.prog X.w) X.A X.xe use Qf (.ref D) s3.heap.objs.size) s4 := by
    refine eachD (B := X.blk s3 H3 scope ce fp) (pl := []) (σ := σ0) (i := a) (N := N) (W := W) (We := fun H => Q (.ref D) H) hc rfl (compTurn_dict kx vx (.Name x0 p0) i0 [] scope pos (.ref it) D ce) T pga free0 fpB (fun j H w => ?_) (fun s' H' I' hq => ?_) s4 H3 I4 st4 nfp w0
    · rcases turn j H w with z | ⟨lt, go, step⟩
      · exact .inl z
      · refine .inr ⟨lt, go, fun y H' hy pl' s5 I5 => ?_⟩
        refine wpAny_bind (thnF (pk.run _ s5 _ H' _ I5 (step y H' hy)) fun z s6 ⟨yk, H6, I6, r6, q6⟩ => ?_)
        refine wpAny_bind (wpAny_holding (thnF (pv.run _ s6 _ H6 _ I6 q6) fun z2 s7 ⟨yv, H7, I7, r7, kvs, k, dn, hkd, hz, nx⟩ => ?_))
        refine wpAny_bind (wpAny_standAt (wpAny_holding ?_))
        obtain ⟨b, rfl⟩ := hkd.ref
        cases r6
        refine put_ok (X := X.blk s3 H3 scope ce fp) I7 dn hkd hz r7 (fun xs hsz D' g => wpAny_dictSet_heap (knd := kn X.prog X.w) (hsz := hsz) (by show X.A.units + 8 < cLine; omega) (hkd.is (X := X.blk s3 H3 scope ce fp) I7) D' fun h' D2 sb => g h' _ D2 sb) fun s' H8 I8 c8 d8 => ?_
        exact ⟨H8, I8, nx H8 c8 d8⟩
    · have I7 : Inv X pins σ H' s' := I3.call' (ch := fp) I'.os I'.base I'.hok I'.bare fun b hb => ⟨(f3 b hb).1.2.2.2.1, (f3 b hb).1.2.1, (f3 b hb).1.2.2.2.2.1, (f3 b hb).1.2.2.2.2.2⟩
      have nC : H' s3.heap.objs.size = none := by
        have z : H' ce.locals = none := I'.free
        rw [hsc] at z
        exact z
      obtain ⟨m, hn, _⟩ := I'.loc
      have hn : s'.heap.Ns ce.locals m := hn
      rw [hsc] at hn
      exact fin D s3.heap.objs.size s' m H' I7 hq hn (I3.fpOk (Nat.le_refl _) nC)
  exact codeAny_compStart_dict loop (T.self X.A 0 _ _ _ st4 loop)
theorem pe_dcN {kx vx i0 : Expr} {x0 : Str} {p0 pos : Pos} {scope : Scope} {own : List (Str × Nat)} {wi : TI} {tk tv : TE} {a : Nat} (hc : X.calm = true) (hN : X.N.Nodup) (hu : X.A.units + 64 < cLine) (ok : BlkOk X.N X.env.scope scope own)
    (ha : X.N[a]? = some x0) (ho : a ∈ own.map (·.2)) (hi : PI X (.Name x0 p0) i0 wi)
    (hg : ∀ (s : Shared) (H : Hp) (C : Addr) (cl : List (Str × Addr)) (fp : List Addr), PG (X.blk s H scope (compEnvC scope cl C X.env) fp) (.Name x0 p0) (gName a))
    (hk : ∀ (s : Shared) (H : Hp) (C : Addr) (cl : List (Str × Addr)) (fp : List Addr), PE (X.blk s H scope (compEnvC scope cl C X.env) fp) kx tk)
    (hv : ∀ (s : Shared) (H : Hp) (C : Addr) (cl : List (Str × Addr)) (fp : List Addr), PE (X.blk s H scope (compEnvC scope cl C X.env) fp) vx tv)
    (hs : ∀ x, foldedSetIterable i0 X.env x = pure x := by intro _; rfl) :
    PE X (.DictComp kx vx [⟨.Name x0 p0, i0, [], 0⟩] scope pos) (tDcN X.K X.prog X.w wi tk tv (own.map (·.2)) a) := by
  refine ⟨fun pins s σ H Q I h => ?_⟩
  rw [arm_eval_DictComp]
  refine dcN_core hc hN hu ok ha ho hi hg hk hv hs I h fun D C s' m H' J q hn f => ⟨m, hn, fun h'' sb => ?_⟩
  obtain ⟨f0, f1, f2, f3, f4, f5⟩ := f
  exact ⟨.ref D, H', J.turned (t' := s'.toks) (fun b o hb e => (sb.2 b hb).trans e) f0 f1 f3 f4 f5, rfl, q⟩
/-- y = {k: v for x in xs}, y a local, on one line -/
theorem ps_setDcN {i : Nat} {y : Str} {py spos : Pos} {kx vx i0 : Expr} {x0 : Str} {p0 pos : Pos} {scope : Scope} {own : List (Str × Nat)} {wi : TI} {tk tv : TE} {a : Nat} (hc : X.calm = true) (hN : X.N.Nodup) (hu : X.A.units + 64 < cLine) (ok : BlkOk X.N X.env.scope scope own)
    (ha : X.N[a]? = some x0) (ho : a ∈ own.map (·.2)) (hi : PI X (.Name x0 p0) i0 wi)
    (hg : ∀ (s : Shared) (H : Hp) (C : Addr) (cl : List (Str × Addr)) (fp : List Addr), PG (X.blk s H scope (compEnvC scope cl C X.env) fp) (.Name x0 p0) (gName a))
    (hk : ∀ (s : Shared) (H : Hp) (C : Addr) (cl : List (Str × Addr)) (fp : List Addr), PE (X.blk s H scope (compEnvC scope cl C X.env) fp) kx tk)
    (hv : ∀ (s : Shared) (H : Hp) (C : Addr) (cl : List (Str × Addr)) (fp : List Addr), PE (X.blk s H scope (compEnvC scope cl C X.env) fp) vx tv)
    (hy : X.N[i]? = some y) (hyl : X.env.scope.names.lookup y = some .local) (hsw : swapsWith (.DictComp kx vx [⟨.Name x0 p0, i0, [], 0⟩] scope pos) (some (.Name y py)) spos.line X.env = pure true) (hs : ∀ x, foldedSetIterable i0 X.env x = pure x := by intro _; rfl) :
    PS X (.Assign [.Name y py] (.DictComp kx vx [⟨.Name x0 p0, i0, [], 0⟩] scope pos) spos) (tAsg (tDcN X.K X.prog X.w wi tk tv (own.map (·.2)) a) (gName i)) := by
  refine ⟨fun pins s σ H D I h => ?_⟩
  rw [exec_Assign_Name_used _ _ _ _ hsw]
  refine wpAny_bind (wpAny_standAt (wpAny_bind ?_))
  show wpAny _ X.A (do let _ ← comprehension (.DictComp kx vx [⟨.Name x0 p0, i0, [], 0⟩] scope pos) scope X.env (firstIterPos [⟨.Name x0 p0, i0, [], 0⟩] pos) newDict false (eval i0 X.env) (some (assign (.Name y py) X.env))) _ _ s
  have h : tDcN X.K X.prog X.w wi tk tv (own.map (·.2)) a σ H (fun x H1 => gName i x σ H1 D.nx) := h
  refine wpAny_bind (thn (dcN_core (Qf := fun _ s' => SP X pins D .next s') hc hN hu ok ha ho hi hg hk hv hs I h fun L C s' m H' J q hn f => ?_) fun _ s' hq => wpAny_pure (wpAny_pure hq))
  show wpAny _ _ (assign (.Name y py) X.env (.ref L)) _ _ _
  refine wpAny_assign_Name (store_ok2 (v := V.ref L) J hN hy (.inl hyl) rfl (fun s2 I2 ⟨c, sb, hc2⟩ => ?_) (.inr hyl))
  obtain ⟨f0, f1, f2, f3, f4, f5⟩ := f
  have apart : C ≠ c := by
    rcases hc2 with z | z
    · rw [z]; exact f1
    · exact fun e => f4 y c z e.symm
  refine ⟨m, hn.sameBut sb apart, fun h3 sb3 => ?_⟩
  exact ⟨_, H', I2.turned (t' := s2.toks) (fun b o hb e => (sb3.2 b hb).trans e) f0 f1 f3 f4 f5, q⟩
theorem swD {kx vx : Expr} {gs : List Comprehension} {scope : Scope} {pos py : Pos} {y : Str} {l : Nat} {env : Env} (hk : env.scope.kind = .function) (hy : env.scope.names.lookup y = some .local) (hl : (py.line == pos.line) = true)
    (hn : (scope.names.any fun (n, k) => n == y && (k == .local || k == .cell)) = false) : swapsWith (.DictComp kx vx gs scope pos) (some (.Name y py)) l env = pure true := by
  have k1 : env.kindOf y = some .local := hy
  have k2 : env.blockKind = .function := by unfold Env.blockKind; rw [hk]; rfl
  unfold swapsWith
  simp only [k1, k2, hn, Expr.pos, hl]
  rfl
end
end GD
end

section
set_option Elab.async false
set_option linter.all false
set_option maxRecDepth 100000
set_option maxHeartbeats 2000000
/-! dict(pairs), the keys of any depth, each once. -/
namespace GD
open PySem PySem.Spec PyProof.Rows L2
abbrev PRow := Addr × RowV
theorem stored_fresh : ∀ {ps xs : List RowV}, ((xs ++ ps).map (·.1)).Nodup → storedAllH xs ps = xs ++ ps
  | [], xs, _ => by rw [List.append_nil]; rfl
  | p :: ps, xs, h => by
    have hn : atKey xs p.1 = none := by
      unfold atKey
      rw [Option.map_eq_none_iff, List.find?_eq_none]
      intro x hx e
      have e : x.1 = p.1 := of_decide_eq_true e
      rw [List.map_append, List.nodup_append] at h
      exact h.2.2 x.1 (List.mem_map.mpr ⟨x, hx, rfl⟩) p.1 (by simp) e
    show storedAllH (storedH xs p.1 p.2.1 p.2.2) ps = _
    rw [storedH_new hn]
    have e : xs ++ p :: ps = (xs ++ [p]) ++ ps := by simp
    rw [e] at h ⊢
    exact stored_fresh h
/-- pairs of a key and a value -/
def PairsD (K : PySem.W.Frag) (H : Hp) (vs : List V) (kvs : List (NestedKey × V)) : Prop := Paired (fun v (p : NestedKey × V) => ∃ t b, v = .ref t ∧ SqT K H t [.ref b, p.2] ∧ KeyD K H (.ref b) p.1) vs kvs
section
variable {X : Cx} {pins : List (Addr × Obj)} {σ : L2.St} {H : Hp} {s : Shared}
theorem pairs_open (I : Inv X pins σ H s) : ∀ {vs : List V} {kvs : List (NestedKey × V)} {its : List Value}, PairsD X.K H vs kvs → Vals vs its → ∃ (rows : List PRow) (L : List Row), its = rows.map (fun r => Value.ref r.1) ∧ Paired RelE L (rows.map (·.2)) ∧ (L.map fun p => (p.1, p.2.2)) = kvs ∧
    (∀ p ∈ L, KeyD X.K H (.ref p.2.1) p.1) ∧ ∀ r ∈ rows, PairAt s.heap r.1 (.ref r.2.2.1) r.2.2.2
  | _, _, _, .nil, .nil => ⟨[], [], rfl, .nil, rfl, fun p hp => (by cases hp), fun r hr => (by cases hr)⟩
  | _, p :: kvs, _, .cons ⟨t, b, e, hs, hk⟩ ps, .cons r rs => by
    subst e
    cases r
    obtain ⟨rows, L, e1, e2, e3, e4, e5⟩ := pairs_open I ps rs
    obtain ⟨its, rv, pl, _⟩ := I.tuple hs
    cases rv with
    | cons r1 rv =>
      cases rv with
      | cons r2 rv =>
        cases rv
        cases r1
        refine ⟨(t, p.1, b, _) :: rows, (p.1, b, p.2) :: L, by rw [e1]; rfl, .cons ⟨rfl, rfl, r2⟩ e2, by rw [← e3]; rfl, fun q hq => ?_, fun q hq => ?_⟩
        · rcases List.mem_cons.mp hq with z | z
          · rw [z]; exact hk
          · exact e4 q z
        · rcases List.mem_cons.mp hq with z | z
          · rw [z]; exact .inl pl
          · exact e5 q z
mutual
theorem knew {K : PySem.W.Frag} {a : Addr} {o : HO} (n : H a = none) : ∀ (k : NestedKey) {v : V}, Dp K H v k.data → Dp K (upd H a o) v k.data
  | .none, v, h => by simp only [NestedKey.data] at h ⊢; cases h; exact .non
  | .num i, v, h => by simp only [NestedKey.data] at h ⊢; cases h; exact .int i
  | .text x, v, h => by simp only [NestedKey.data] at h ⊢; cases h; exact .str x
  | .tup ks, v, h => by
    simp only [NestedKey.data] at h ⊢
    cases h with
    | tup hs ha =>
      refine .tup ?_ (knews n ks ha)
      rcases hs with (h | ⟨o, h⟩) | h
      · exact .inl (.inl (by rw [upd_ne (ne_of_none h n)]; exact h))
      · exact .inl (.inr ⟨o, by rw [upd_ne (ne_of_none h n)]; exact h⟩)
      · exact .inr h
theorem knews {K : PySem.W.Frag} {a : Addr} {o : HO} (n : H a = none) : ∀ (ks : List NestedKey) {vs : List V}, DpAll K H vs (NestedKey.datas ks) → DpAll K (upd H a o) vs (NestedKey.datas ks)
  | [], vs, h => by simp only [NestedKey.datas] at h ⊢; cases h; exact .nil
  | k :: ks, vs, h => by
    simp only [NestedKey.datas] at h ⊢
    cases h with
    | cons h1 h2 => exact .cons (knew n k h1) (knews n ks h2)
end
theorem key_new {K : PySem.W.Frag} {a : Addr} {o : HO} {v : V} {k : NestedKey} (n : H a = none) (h : KeyD K H v k) : KeyD K (upd H a o) v k := ⟨knew n k h.1, h.2⟩
def rDictN (K : PySem.W.Frag) (P : Program) (w : World) : List V → Hp → VK → Prop := fun xs H Q => ∃ (a : Addr) (vs : List V) (kvs : List (NestedKey × V)), xs = [.ref a] ∧ SqL K H a vs ∧ PairsD K H vs kvs ∧ (kvs.map (·.1)).Nodup ∧ ∀ D H', New H H' D → DN K P w H' D kvs → Q (.ref D) H'
theorem rows_fst : ∀ {L : List Row} {xs : List RowV}, Paired RelE L xs → L.map (·.1) = xs.map (·.1)
  | _, _, .nil => rfl
  | _, _, .cons r t => by rw [List.map_cons, List.map_cons, r.1, rows_fst t]
theorem call_dictN (hc : X.calm = true) (hu : X.A.units + 64 < cLine) : CallR X (.type "dict") (rDictN X.K X.prog X.w) := by
  intro pins s σ H xs us Q I r h
  obtain ⟨a, vs, kvs, rfl, hs, hp, hn, q⟩ := h
  obtain ⟨u, rfl, ru⟩ := vals1 r
  cases ru
  obtain ⟨its, rv, pl, hz⟩ := I.list hs
  obtain ⟨rows, L, e1, e2, e3, e4, e5⟩ := pairs_open I hp rv
  subst e1
  have hlen : rows.length = vs.length := by have := rv.length; rw [List.length_map] at this; exact this.symm
  have nd : ((rows.map (·.2)).map (·.1)).Nodup := by
    rw [← rows_fst e2]
    have := hn
    rw [← e3, List.map_map] at this
    exact this
  refine call_dict_pairsH (knd := kn X.prog X.w) (ps := rows.map (·.2)) (PairArg.list a (rows.map fun r => Value.ref r.1).toArray (fun j => ((rows[j]?).map (·.1)).getD 0) (rows.map fun r => (Value.ref r.2.2.1, r.2.2.2))) (I.ok.hd hc) (by show X.A.units + 1 + 1 + 8 < cLine; omega) ⟨?pl, ?it⟩ ?hv ?st ?sz fun h' tk D' keep => ?fin
  case pl =>
    obtain ⟨o, n, x1, x2, x3, x4⟩ := pl
    exact ⟨o, n, x1, x2, x3, x4⟩
  case it =>
    refine ⟨by simp, fun j k v hj => ?_⟩
    rw [List.getElem?_map] at hj
    cases hr : rows[j]? with
    | none => rw [hr] at hj; cases hj
    | some r =>
      rw [hr] at hj
      cases hj
      refine ⟨by simp [hr], ?_⟩
      show PairAt s.heap (((rows[j]?).map (·.1)).getD 0) _ _
      rw [hr]
      exact e5 r (List.mem_of_getElem? hr)
  case hv =>
    refine ⟨by simp, fun i key v hi => ?_⟩
    have hi : (rows.map fun r => (Value.ref r.2.2.1, r.2.2.2))[i]? = some (key, v) := hi
    rw [List.getElem?_map] at hi
    cases hr : rows[i]? with
    | none => rw [hr] at hi; cases hi
    | some r =>
      rw [hr] at hi
      cases hi
      exact ⟨r.2.1, r.2.2.1, by rw [List.getElem?_map, hr]; rfl, rfl⟩
  case st =>
    intro h' keep x hx
    refine nestedKind_stays.stays (fun b o _ _ e _ => keep b o (Nat.ne_of_lt (Heap.lt_size e)) (by simp) e) ((rows_keys e2 e4 x hx).is I)
  case sz => rw [List.length_map]; omega
  case fin =>
    have es : storedAllH [] (rows.map (·.2)) = rows.map (·.2) := stored_fresh (xs := []) (by rw [List.nil_append]; exact nd)
    rw [es] at D'
    obtain ⟨o, en, ep, h1, h2, h3, h4, _, h5⟩ := D'
    have hl := rows_len e2
    rw [List.length_map] at hl
    have d0 : Dn0 X.prog X.w h' s.heap.objs.size L := ⟨beq_eq_false_iff_ne.mpr (Nat.ne_of_gt I.big), by omega, _, e2, o, en, ep, h1, h2, h3, h4, h5⟩
    have hf : H s.heap.objs.size = none := I.hok.fresh (Nat.le_refl _)
    refine ⟨.ref s.heap.objs.size, _, I.laid (t' := tk) (fun b o e => keep b o (by simp) e) (Nat.le_refl _) (dno_ok d0), rfl, q _ _ (new_upd hf d0) (.mk0 upd_same e3 (fun p hp => ?_) fun q z => ?_)⟩
    · exact key_new hf (e4 p hp)
    · rw [upd_same] at z
      exact not_code d0 q (Option.some.inj z)
end
end GD
end

section
set_option Elab.async false
set_option linter.all false
set_option maxRecDepth 100000
set_option maxHeartbeats 2000000
/-! {} and `not in`, keys of any depth. -/
namespace GD
open PySem PySem.Spec PyProof.Rows L2
section
variable {prog : Program} {w : World} {K : Type} [DecidableEq K] {knd : HeapKind prog w K} {A : Around} {E : Value → Shared → Prop} {s : Shared} {d a : Addr} {k : K} {xs : List (K × Addr × Value)}
theorem wpAny_notin_heap {Q : Value → Shared → Prop} (hu : knd.room A.in1) (hkey : knd.is s.heap k a) (hd : (d == sysModules) = false) (hm : s.heap.DictOfH knd d xs)
    (h : Q (.bool (!(atKey xs k).isSome)) { s with toks := s.toks + knd.draws k }) : wpAny (model prog w) A (compareOp .NotIn (.ref a) (.ref d)) Q E s := by
  show wpAny _ _ (do return .bool (!(← contains (.ref d) (.ref a)))) Q E s
  refine wpAny_bind ?_
  unfold contains
  try with_reducible refine wpAny_holding ?_
  refine wpAny_bind (wpAny_specialOf hm.typeIs slot_dict_contains.lookup ?_)
  show wpAny _ _ (if (some (Value.builtin "dict.__contains__") == some Value.none) = true then _ else _) _ E s
  rw [if_neg (by rw [beq_builtin_none]; exact Bool.false_ne_true)]
  refine wpAny_bind (wpAny_callSpecialUnlessNone?_slot (name := Str.ofString "__contains__") hm.typeIs slot_dict_contains
    (wpAny_call_entry slot_dict_contains hm.typeIs entry_dict_contains ?_ (args_dict_contains _ _)))
  show wpAny _ _ (dictGet d (.ref a) >>= _) _ _ s
  refine wpAny_bind (wpAny_dictGet_heap hu hkey hm ?_)
  cases hf : atKey xs k with
  | some p =>
    rw [hf] at h
    show wpAny _ _ (ret (.bool true)) _ _ _
    exact wpAny_pure ⟨_, rfl, wpAny_truthy_bool (wpAny_pure h)⟩
  | none =>
    rw [hf] at h
    show wpAny _ _ (Builtin.Dict.pendingKey? d (.ref a) >>= _) _ _ _
    exact wpAny_bind (wpAny_pendingKey_other hd (wpAny_pure ⟨_, rfl, wpAny_truthy_bool (wpAny_pure h)⟩))
end
section
variable {X : Cx} {pins : List (Addr × Obj)} {σ : L2.St} {H : Hp} {s : Shared}
def rNotInN (K : PySem.W.Frag) (P : Program) (w : World) : R2 := fun x y H Q => ∃ a kvs k, y = .ref a ∧ DN K P w H a kvs ∧ KeyD K H x k ∧ Q (.bl (!(valN kvs k).isSome)) H
theorem op_notInN (hu : X.A.units + 64 < cLine) : OpR X (compareOp .NotIn) (rNotInN X.K X.prog X.w) := by
  intro pins s σ H x y v u Q I rx ry h
  obtain ⟨a, kvs, k, rfl, d, hk, q⟩ := h
  obtain ⟨b, rfl⟩ := hk.ref
  cases rx
  cases ry
  obtain ⟨L, xs, e, ek, hks, hm, z, r, D⟩ := d.full I
  refine wpAny_notin_heap (knd := kn X.prog X.w) (by show X.A.units + 1 + 8 < cLine; omega) (hk.is I) hm D ⟨.bl (!(valN kvs k).isSome), H, I.tok _, ?_, q⟩
  rw [← ek]
  rcases rows_val (k := k) r with ⟨e1, e2⟩ | ⟨v, b, u, e1, e2, _⟩
  · rw [e1, e2]; rfl
  · rw [e1, e2]; rfl
/-- {} -/
def tD0 (K : PySem.W.Frag) (P : Program) (w : World) : TE := fun σ H Q => ∀ D H', New H H' D → DN K P w H' D [] → Q (.ref D) H'
theorem pe_d0 {pos : Pos} : PE X (.Dict [] [] pos) (tD0 X.K X.prog X.w) := ⟨fun pins s σ H Q I h => by
  have d0 : Dn0 X.prog X.w (s.heap.push { cls := .type "dict", data := .dict #[] }) s.heap.objs.size [] := by
    refine ⟨beq_eq_false_iff_ne.mpr (Nat.ne_of_gt I.big), Nat.zero_le _, [], .nil, { cls := .type "dict", data := .dict #[] }, #[], 0, ?_, ⟨rfl, rfl, rfl⟩, rfl, rfl, List.nodup_nil⟩
    exact Heap.get?_push_size _ rfl
  have hf : H s.heap.objs.size = none := I.hok.fresh (Nat.le_refl _)
  exact wpAny_Dict_empty ⟨.ref s.heap.objs.size, _, I.laid (t' := s.toks) (fun _ _ q => Heap.get?_push_of_some _ q) (Nat.le_refl _) (dno_ok d0), rfl, h _ _ (new_upd hf d0) (dn_nil d0)⟩⟩
end
end GD
end

section
set_option Elab.async false
set_option linter.all false
set_option maxRecDepth 100000
set_option maxHeartbeats 2000000
/-! sorted of a tuple of ints. -/
namespace GSort
open PySem PySem.Spec PyProof.Rows L2
section
variable {prog : Program} {w : World} {A : Around} {E : Value → Shared → Prop} {s : Shared}
theorem collect_tup {l : Addr} {vs : List Value} {Q : List Value → Shared → Prop} (hl : IsTup s.heap l vs.toArray) (hsz : vs.length ≤ sizeLine)
    (h : Q vs { s with heap := (s.heap.push (seqObj "list" #[] 0)).update s.heap.objs.size (Obj.mapSeq (· ++ vs.toArray)) }) :
    wpAny (model prog w) A (collect (.ref l)) Q E s := by
  obtain ⟨o, ho, hc, n, hd⟩ := id hl
  unfold collect
  refine wpAny_bind (wpAny_runValue (codeAny_builtin entry_proto_collect' ?_))
  show wpAny _ _ (do again (.builtin "list.__iadd__" ⟨[← newList [], .ref l], []⟩)) _ _ s
  refine wpAny_bind (wpAny_newList (wpAny_pure ⟨Code.quiet_builtin _ (by decide +kernel), codeAny_builtin entry_list_iadd' ?_⟩))
  show wpAny _ _ (Builtin.List.listExtendWith (.ref s.heap.objs.size) (.ref l) (.ref s.heap.objs.size)) _ _ { s with heap := s.heap.push (seqObj "list" #[] 0) }
  unfold Builtin.List.listExtendWith
  have ho' : (s.heap.push (seqObj "list" #[] 0)).get? l = some o := Heap.get?_push_of_some _ ho
  refine wpAny_bind (wpAny_typeOf (T := "tuple") ⟨o, ho', hc⟩ ?_)
  have ht : (Value.type "tuple" == Value.type "tuple") = true := by rfl
  rw [if_pos (by rw [ht]; simp)]
  refine wpAny_bind (listItems_at ho' hd ?_)
  refine wpAny_bind (listItems_at (xs := #[]) (n := 0) (Heap.get?_push_size _ rfl) rfl ?_)
  rw [if_neg (by simp)]
  refine wpAny_bind (listUpdate_at (xs := #[]) (n := 0) (Heap.get?_push_size _ rfl) rfl ?_ (Nat.zero_le _) (by show (#[] ++ vs.toArray).size ≤ sizeLine + 1; simp only [Array.size_append, List.size_toArray, List.length_nil]; omega))
  refine wpAny_pure ?_
  show wpAny (model prog w) A (do
      let o ← load s.heap.objs.size
      match o.data with
      | .seq xs _ => pure xs.toList
      | _ => unsupported "internal:collect") Q E { s with heap := (s.heap.push (seqObj "list" #[] 0)).update s.heap.objs.size (Obj.mapSeq (· ++ vs.toArray)) }
  refine wpAny_bind (wpAny_load (get?_update_seq (Heap.get?_push_size _ rfl) _) ?_)
  show wpAny _ _ (pure ((#[] : Array Value) ++ vs.toArray).toList) Q E _
  rw [show ((#[] : Array Value) ++ vs.toArray).toList = vs by simp]
  exact wpAny_pure h
theorem sorted_tup {l : Addr} {vs : List Value} {ltv : Value → Value → Bool} {Q : Value → Shared → Prop} (O : SrtO.Swo ltv) (hl : IsTup s.heap l vs.toArray) (hz : vs.length ≤ sizeLine)
    (hS : 2 ≤ vs.length → ∀ (h₁ : Heap) (a : Addr), h₁.get? a = some (seqObj "list" vs.toArray 0) → (∀ b o, s.heap.get? b = some o → b ≠ a ∧ h₁.get? b = some o) → SrtO.SortableO prog w A.in1.in1 { s with heap := h₁ } a vs ltv)
    (h : ∀ out : List Value, SrtO.Srtd ltv out → SrtO.Stb ltv out vs → Q (.ref (s.heap.objs.size + 1)) { s with heap := sortedAll s.heap vs out.toArray }) :
    wpAny (model prog w) A (call (.builtin "sorted") [.ref l]) Q E s := by
  refine Calls.call_function_entry kind_sorted plain_sorted entry_sorted (args_sorted1 _) ?_
  unfold Builtin.«sorted»
  refine wpAny_bind (m := checkCount "sorted" 1 1 _) (wpAny_pure ?_)
  refine wpAny_bind (collect_tup hl hz ?_)
  refine wpAny_bind (wpAny_newList ?_ hz)
  have hsz : ((s.heap.push (seqObj "list" #[] 0)).update s.heap.objs.size (Obj.mapSeq (· ++ vs.toArray))).objs.size = s.heap.objs.size + 1 := by
    rw [Heap.size_update, size_push']
  have hoL : (((s.heap.push (seqObj "list" #[] 0)).update s.heap.objs.size (Obj.mapSeq (· ++ vs.toArray))).push (seqObj "list" vs.toArray 0)).get? (s.heap.objs.size + 1) = some (seqObj "list" vs.toArray 0) := by
    rw [← hsz]; exact Heap.get?_push_size _ rfl
  have keep : ∀ b o, s.heap.get? b = some o → b ≠ s.heap.objs.size + 1 ∧ (((s.heap.push (seqObj "list" #[] 0)).update s.heap.objs.size (Obj.mapSeq (· ++ vs.toArray))).push (seqObj "list" vs.toArray 0)).get? b = some o := fun b o q => by
    have hlt : b < s.heap.objs.size := Heap.lt_size q
    refine ⟨Nat.ne_of_lt (Nat.lt_succ_of_lt hlt), Heap.get?_push_of_some _ ?_⟩
    rw [Heap.get?_update_ne _ _ _ _ (Nat.ne_of_lt hlt)]
    exact Heap.get?_push_of_some _ q
  show wpAny _ _ _ _ _ { s with heap := ((s.heap.push (seqObj "list" #[] 0)).update s.heap.objs.size (Obj.mapSeq (· ++ vs.toArray))).push (seqObj "list" vs.toArray 0) }
  rw [hsz]
  refine wpAny_bind (wpAny_holding (wpAny_call_entry slot_list_sort ⟨_, hoL, rfl⟩ entry_list_sort (SrtO.list_sort_ord O hoL hz (fun h2 => hS h2 _ _ hoL keep) fun out hs hb => ⟨_, rfl, ?_⟩) (args_list_sort _)))
  exact wpAny_pure ⟨_, rfl, h out hs hb⟩
end
section
variable {X : Cx}
/-- sorted(t), a tuple of ints -/
def rSortedT (K : PySem.W.Frag) : List V → Hp → VK → Prop := fun vs H Q => ∃ (a : Addr) (ns : List Int), vs = [V.ref a] ∧ SqT K H a (ns.map V.int) ∧
  ∀ (ns' : List Int) (p : Addr), ns'.Perm ns → ns'.Pairwise (· ≤ ·) → H p = none → Q (.ref p) (upd H p (.lst (ns'.map V.int)))
theorem cr_sortedT : CallR X (.builtin "sorted") (rSortedT X.K) := by
  intro pins s σ H vs us Q I r h
  obtain ⟨a, ns, rfl, hs, q⟩ := h
  obtain ⟨its, rv, hl, hz⟩ := I.tuple hs
  rw [Vals.ref1 r]
  have hi := rv.ints
  refine sorted_tup SrtO.swo_int hl (by rw [← rv.length]; exact hz) (fun h2 h₁ a' _ _ => SrtO.ints_sortable hi h2) fun out h1 h2 => ?_
  obtain ⟨k1, k2, k3⟩ := SrtO.ints_out hi h1 h2
  obtain ⟨ep, he'⟩ := PyProof.Rows.sortedAll_at s.heap its out.toArray
  have hlen : ((out.map SrtO.iv).map V.int).length ≤ sizeLine := by
    rw [List.length_map, k2.length_eq]
    rw [List.length_map] at hz
    exact hz
  exact ⟨.ref _, upd H (s.heap.objs.size + 1) (.lst ((out.map SrtO.iv).map V.int)), I.laid (t' := s.toks) (fun _ _ => PyProof.Rows.sortedAll_old) (Nat.le_succ _) ⟨hlen, out, ep, vals_of_ints k1, he'⟩, rfl, q _ _ k2 k3 (I.hok.fresh (Nat.le_succ _))⟩
end
end GSort
end

section
set_option linter.all false
set_option maxRecDepth 100000
/-! The mathematics of ways: steps within a layer, what is reached first, what is never less. Plain Lean. -/
namespace Ly
def nb4 (c : C3) : List C3 := [(c.1 - 1, c.2.1, c.2.2), (c.1, c.2.1 - 1, c.2.2), (c.1, c.2.1 + 1, c.2.2), (c.1 + 1, c.2.1, c.2.2)]
theorem nb4_sym {c d : C3} (h : d ∈ nb4 c) : c ∈ nb4 d := by
  obtain ⟨x, y, z⟩ := c
  obtain ⟨x', y', z'⟩ := d
  simp only [nb4, List.mem_cons, List.not_mem_nil, or_false, Prod.mk.injEq] at h ⊢
  omega
theorem nb4_z {c d : C3} (h : d ∈ nb4 c) : d.2.2 = c.2.2 := by
  obtain ⟨x, y, z⟩ := c
  obtain ⟨x', y', z'⟩ := d
  simp only [nb4, List.mem_cons, List.not_mem_nil, or_false, Prod.mk.injEq] at h ⊢
  omega
inductive Path (cs src : List C3) : Nat → C3 → Prop
  | zero {c} : c ∈ src → Path cs src 0 c
  | step {n c d} : Path cs src n c → d ∈ nb4 c → d ∈ cs → Path cs src (n + 1) d
theorem Path.mem {cs src : List C3} (h : ∀ c ∈ src, c ∈ cs) : ∀ {n c}, Path cs src n c → c ∈ cs
  | _, _, .zero q => h _ q
  | _, _, .step _ _ q => q
def IsWay (cs src : List C3) (c : C3) : Option Nat → Prop
  | some n => Path cs src n c ∧ ∀ m, Path cs src m c → n ≤ m
  | none => ∀ m, ¬ Path cs src m c
theorem IsWay.uniq {cs src : List C3} {c : C3} : ∀ {o p : Option Nat}, IsWay cs src c o → IsWay cs src c p → o = p
  | some n, some m, h, k => by rw [Nat.le_antisymm (h.2 m k.1) (k.2 n h.1)]
  | some n, none, h, k => absurd h.1 (k n)
  | none, some m, h, k => absurd k.1 (h m)
  | none, none, _, _ => rfl
def wset {α : Type} (w : C3 → α) (d : C3) (v : α) : C3 → α := fun c => if c = d then v else w c
theorem wset_same {α : Type} {w : C3 → α} {d : C3} {v : α} : wset w d v d = v := if_pos rfl
theorem wset_ne {α : Type} {w : C3 → α} {c d : C3} {v : α} (h : c ≠ d) : wset w d v c = w c := if_neg h
/-! ### what is reached first -/
abbrev St2 := (C3 → Option Nat) × List C3
def visit (cs : List C3) (n : Nat) (s : St2) (d : C3) : St2 := if d ∈ cs ∧ s.1 d = none then (wset s.1 d (some (n + 1)), s.2 ++ [d]) else s
def vof (w : C3 → Option Nat) (c : C3) : Nat := (w c).getD 0
structure Bfs (cs src : List C3) (w : C3 → Option Nat) (r : List C3) (at_ : Nat) : Prop where
  sub : ∀ c ∈ r, c ∈ cs
  nd : r.Nodup
  some_ : ∀ c ∈ cs, (∃ n, w c = some n) ↔ c ∈ r
  path : ∀ c ∈ r, Path cs src (vof w c) c
  src0 : ∀ c ∈ src, c ∈ r ∧ vof w c = 0
  done : ∀ (i : Nat) (u : C3), i < at_ → r[i]? = some u → ∀ d ∈ nb4 u, d ∈ cs → d ∈ r ∧ vof w d ≤ vof w u + 1
  sorted : ∀ (i j : Nat) (u v : C3), i ≤ j → r[i]? = some u → r[j]? = some v → vof w u ≤ vof w v
  near : ∀ (u v : C3), r[at_]? = some u → v ∈ r → vof w v ≤ vof w u + 1
  low : ∀ (i : Nat) (u : C3), r[i]? = some u → vof w u ≤ i
/-- some of the neighbours of u are visited: d1 -/
structure Mid (cs src : List C3) (w : C3 → Option Nat) (r : List C3) (at_ : Nat) (u : C3) (n : Nat) (d1 : List C3) : Prop where
  sub : ∀ c ∈ r, c ∈ cs
  nd : r.Nodup
  some_ : ∀ c ∈ cs, (∃ n, w c = some n) ↔ c ∈ r
  path : ∀ c ∈ r, Path cs src (vof w c) c
  src0 : ∀ c ∈ src, c ∈ r ∧ vof w c = 0
  here : r[at_]? = some u
  val : vof w u = n
  done : ∀ (i : Nat) (u : C3), i < at_ → r[i]? = some u → ∀ d ∈ nb4 u, d ∈ cs → d ∈ r ∧ vof w d ≤ vof w u + 1
  seen : ∀ d ∈ d1, d ∈ cs → d ∈ r ∧ vof w d ≤ n + 1
  sorted : ∀ (i j : Nat) (u v : C3), i ≤ j → r[i]? = some u → r[j]? = some v → vof w u ≤ vof w v
  near : ∀ v ∈ r, vof w v ≤ n + 1
  low : ∀ (i : Nat) (u : C3), r[i]? = some u → vof w u ≤ i
theorem at_lt {α : Type} {l : List α} {i : Nat} {x : α} (h : l[i]? = some x) : i < l.length := (List.getElem?_eq_some_iff.mp h).1
theorem Bfs.mid {cs src : List C3} {w : C3 → Option Nat} {r : List C3} {i : Nat} {u : C3} (b : Bfs cs src w r i) (h : r[i]? = some u) : Mid cs src w r i u (vof w u) [] :=
  ⟨b.sub, b.nd, b.some_, b.path, b.src0, h, rfl, b.done, fun d hd => (by cases hd), b.sorted, fun v hv => b.near u v h hv, b.low⟩
theorem app_old {α : Type} {l : List α} {y : α} {i : Nat} {x : α} (h : (l ++ [y])[i]? = some x) : l[i]? = some x ∨ (i = l.length ∧ x = y) := by
  by_cases hi : i < l.length
  · rw [List.getElem?_append_left hi] at h
    exact .inl h
  · rw [List.getElem?_append_right (by omega)] at h
    have hz := at_lt h
    rw [List.length_singleton] at hz
    have e : i - l.length = 0 := by omega
    rw [e] at h
    exact .inr ⟨by omega, (Option.some.inj h).symm⟩
theorem Mid.visit {cs src : List C3} {w : C3 → Option Nat} {r : List C3} {i n : Nat} {u d : C3} {d1 : List C3} (m : Mid cs src w r i u n d1) (hd : d ∈ nb4 u) :
    Mid cs src (visit cs n (w, r) d).1 (visit cs n (w, r) d).2 i u n (d1 ++ [d]) := by
  unfold Ly.visit
  by_cases h : d ∈ cs ∧ w d = none
  · obtain ⟨h1, h2⟩ := h
    rw [if_pos ⟨h1, h2⟩]
    have nr : d ∉ r := fun z => by
      obtain ⟨k, e⟩ := (m.some_ d h1).mpr z
      rw [h2] at e
      cases e
    have ne : ∀ c ∈ r, c ≠ d := fun c hc e => nr (e ▸ hc)
    have vold : ∀ c ∈ r, vof (wset w d (some (n + 1))) c = vof w c := fun c hc => by unfold vof; rw [wset_ne (ne c hc)]
    have vnew : vof (wset w d (some (n + 1))) d = n + 1 := by unfold vof; rw [wset_same]; rfl
    have hu : u ∈ r := List.mem_of_getElem? m.here
    have hi := at_lt m.here
    refine ⟨fun c hc => ?_, ?_, fun c hc => ?_, fun c hc => ?_, fun c hc => ?_, ?_, ?_, fun j v hj hv e he hec => ?_, fun e he hec => ?_, fun j k v v' hjk hv hv' => ?_, fun v hv => ?_, fun j v hv => ?_⟩
    · rcases List.mem_append.mp hc with z | z
      · exact m.sub c z
      · rw [List.mem_singleton.mp z]; exact h1
    · exact List.nodup_append.mpr ⟨m.nd, by simp, fun a ha b hb e => by rw [List.mem_singleton.mp hb] at e; exact nr (e ▸ ha)⟩
    · by_cases e : c = d
      · subst e
        exact ⟨fun _ => List.mem_append_right _ (by simp), fun _ => ⟨n + 1, wset_same⟩⟩
      · show (∃ k, wset w d (some (n + 1)) c = some k) ↔ _
        rw [wset_ne e, m.some_ c hc, List.mem_append]
        exact ⟨.inl, fun z => z.elim id fun z => absurd (List.mem_singleton.mp z) e⟩
    · rcases List.mem_append.mp hc with z | z
      · show Path cs src (vof (wset w d (some (n + 1))) c) c
        rw [vold c z]
        exact m.path c z
      · rw [List.mem_singleton.mp z]
        show Path cs src (vof (wset w d (some (n + 1))) d) d
        rw [vnew]
        have := m.path u hu
        rw [m.val] at this
        exact .step this hd h1
    · obtain ⟨z1, z2⟩ := m.src0 c hc
      exact ⟨List.mem_append_left _ z1, by rw [vold c z1]; exact z2⟩
    · rw [List.getElem?_append_left hi]
      exact m.here
    · rw [vold u hu]
      exact m.val
    · have hv : r[j]? = some v := by
        rcases app_old hv with z | ⟨z, _⟩
        · exact z
        · have z : j = r.length := z
          omega
      obtain ⟨z1, z2⟩ := m.done j v hj hv e he hec
      have hvr : v ∈ r := List.mem_of_getElem? hv
      exact ⟨List.mem_append_left _ z1, by rw [vold e z1, vold v hvr]; exact z2⟩
    · rcases List.mem_append.mp he with z | z
      · obtain ⟨z1, z2⟩ := m.seen e z hec
        exact ⟨List.mem_append_left _ z1, by rw [vold e z1]; exact z2⟩
      · rw [List.mem_singleton.mp z]
        exact ⟨List.mem_append_right _ (by simp), by rw [vnew]; exact Nat.le_refl _⟩
    · rcases app_old hv with z | ⟨z, z'⟩ <;> rcases app_old hv' with y | ⟨y, y'⟩
      · rw [vold v (List.mem_of_getElem? z), vold v' (List.mem_of_getElem? y)]
        exact m.sorted j k v v' hjk z y
      · rw [y', vnew, vold v (List.mem_of_getElem? z)]
        exact m.near v (List.mem_of_getElem? z)
      · have := at_lt y
        omega
      · rw [z', y']
        exact Nat.le_refl _
    · rcases List.mem_append.mp hv with z | z
      · rw [vold v z]
        exact m.near v z
      · rw [List.mem_singleton.mp z, vnew]
        exact Nat.le_refl _
    · rcases app_old hv with z | ⟨z, z'⟩
      · rw [vold v (List.mem_of_getElem? z)]
        exact m.low j v z
      · rw [z', vnew]
        have z : j = r.length := z
        have := m.low i u m.here
        rw [m.val] at this
        omega
  · rw [if_neg h]
    refine ⟨m.sub, m.nd, m.some_, m.path, m.src0, m.here, m.val, m.done, fun e he hec => ?_, m.sorted, m.near, m.low⟩
    rcases List.mem_append.mp he with z | z
    · exact m.seen e z hec
    · rw [List.mem_singleton.mp z] at hec ⊢
      have hr : d ∈ r := by
        refine (m.some_ d hec).mp ?_
        cases e : w d with
        | none => exact absurd ⟨hec, e⟩ h
        | some k => exact ⟨k, rfl⟩
      exact ⟨hr, m.near d hr⟩
theorem Mid.bfs {cs src : List C3} {w : C3 → Option Nat} {r : List C3} {i n : Nat} {u : C3} (m : Mid cs src w r i u n (nb4 u)) : Bfs cs src w r (i + 1) := by
  refine ⟨m.sub, m.nd, m.some_, m.path, m.src0, fun j v hj hv d hd hdc => ?_, m.sorted, fun v v' hv hv' => ?_, m.low⟩
  · by_cases e : j < i
    · exact m.done j v e hv d hd hdc
    · have e : j = i := by omega
      rw [e, m.here] at hv
      cases hv
      rw [m.val]
      exact m.seen d hd hdc
  · have z := m.sorted i (i + 1) u v (by omega) m.here hv
    rw [m.val] at z
    have := m.near v' hv'
    omega
theorem Bfs.len {cs src : List C3} {w : C3 → Option Nat} {r : List C3} {i : Nat} (b : Bfs cs src w r i) (h64 : cs.length ≤ 64) : r.length ≤ cs.length := by
  have : ∀ (l : List C3), l.Nodup → (∀ x ∈ l, x ∈ cs) → l.length ≤ cs.length := by
    intro l
    induction l generalizing cs with
    | nil => exact fun _ _ => Nat.zero_le _
    | cons a l ih =>
      intro hn hs
      exact List.Nodup.length_le_of_subset hn fun x hx => hs x hx
  exact this r b.nd b.sub
theorem Bfs.least {cs src : List C3} {w : C3 → Option Nat} {r : List C3} (b : Bfs cs src w r r.length) : ∀ {n c}, Path cs src n c → c ∈ r ∧ vof w c ≤ n
  | _, _, .zero q => ⟨(b.src0 _ q).1, by rw [(b.src0 _ q).2]; exact Nat.le_refl _⟩
  | _, _, .step p hd hc => by
    obtain ⟨z1, z2⟩ := b.least p
    obtain ⟨i, hi⟩ := List.mem_iff_getElem?.mp z1
    obtain ⟨y1, y2⟩ := b.done i _ (at_lt hi) hi _ hd hc
    exact ⟨y1, by omega⟩
theorem Bfs.way {cs src : List C3} {w : C3 → Option Nat} {r : List C3} (b : Bfs cs src w r r.length) (h64 : cs.length ≤ 64) {c : C3} (hc : c ∈ cs) : IsWay cs src c (w c) ∧ ∀ n, w c = some n → n ≤ 63 := by
  cases e : w c with
  | none =>
    refine ⟨fun m p => ?_, fun n z => by cases z⟩
    obtain ⟨k, z⟩ := (b.some_ c hc).mpr (b.least p).1
    rw [e] at z
    cases z
  | some n =>
    have hr : c ∈ r := (b.some_ c hc).mp ⟨n, e⟩
    have ev : vof w c = n := by unfold vof; rw [e]; rfl
    refine ⟨⟨?_, fun m p => ?_⟩, fun k z => ?_⟩
    · have := b.path c hr
      rw [ev] at this
      exact this
    · have := (b.least p).2
      rw [ev] at this
      exact this
    · cases z
      obtain ⟨i, hi⟩ := List.mem_iff_getElem?.mp hr
      have h1 := b.low i c hi
      have h2 := at_lt hi
      have h3 := b.len h64
      omega
/-- the beginning -/
theorem Bfs.start {cs src : List C3} {w : C3 → Option Nat} (hs : ∀ c ∈ src, c ∈ cs) (hn : src.Nodup) (h0 : ∀ c ∈ src, w c = some 0) (h1 : ∀ c, c ∉ src → w c = none) : Bfs cs src w src 0 := by
  have v0 : ∀ c ∈ src, vof w c = 0 := fun c hc => by unfold vof; rw [h0 c hc]; rfl
  refine ⟨hs, hn, fun c _ => ⟨fun ⟨n, e⟩ => ?_, fun hc => ⟨0, h0 c hc⟩⟩, fun c hc => by rw [v0 c hc]; exact .zero hc, fun c hc => ⟨hc, v0 c hc⟩, fun i u hi => by omega, fun i j u v _ hu hv => ?_, fun u v hu hv => ?_, fun i u hu => ?_⟩
  · by_cases z : c ∈ src
    · exact z
    · rw [h1 c z] at e
      cases e
  · rw [v0 u (List.mem_of_getElem? hu)]; omega
  · rw [v0 v hv]; omega
  · rw [v0 u (List.mem_of_getElem? hu)]; omega
/-! ### what is never less -/
structure Rlx (cs src : List C3) (f : C3 → Nat) : Prop where
  most : ∀ c ∈ cs, f c ≤ 99
  path : ∀ c ∈ cs, f c < 99 → Path cs src (f c) c
  src0 : ∀ c ∈ src, f c = 0
theorem Rlx.put {cs src : List C3} {f : C3 → Nat} (r : Rlx cs src f) {c d : C3} {m : Nat} (hc : c ∈ cs) (hd : d ∈ cs) (hn : d ∈ nb4 c) (e : m = f d + 1) (l : m < f c) : Rlx cs src (wset f c m) := by
  have hm := r.most c hc
  refine ⟨fun x hx => ?_, fun x hx q => ?_, fun x hx => ?_⟩
  · by_cases z : x = c
    · rw [z, wset_same]; omega
    · rw [wset_ne z]; exact r.most x hx
  · by_cases z : x = c
    · rw [z, wset_same]
      rw [e]
      exact .step (r.path d hd (by omega)) (nb4_sym hn) hc
    · rw [wset_ne z] at q ⊢
      exact r.path x hx q
  · by_cases z : x = c
    · have := r.src0 x hx
      rw [z] at this
      omega
    · rw [wset_ne z]; exact r.src0 x hx
def Stable (cs : List C3) (f : C3 → Nat) : Prop := ∀ c ∈ cs, ∀ d ∈ nb4 c, d ∈ cs → f c ≤ f d + 1
theorem Rlx.least {cs src : List C3} {f : C3 → Nat} (r : Rlx cs src f) (s : Stable cs f) (hs : ∀ c ∈ src, c ∈ cs) : ∀ {n c}, Path cs src n c → f c ≤ n
  | _, _, .zero q => by rw [r.src0 _ q]; exact Nat.le_refl _
  | _, _, .step p hd hc => by
    have h1 := r.least s hs p
    have h2 := s _ hc _ (nb4_sym hd) (p.mem hs)
    omega
def w99 : Option Nat → Nat
  | some n => n
  | none => 99
theorem Rlx.eq {cs src : List C3} {f : C3 → Nat} (r : Rlx cs src f) (s : Stable cs f) (hs : ∀ c ∈ src, c ∈ cs) {c : C3} (hc : c ∈ cs) {o : Option Nat} (h : IsWay cs src c o) (hb : ∀ n, o = some n → n ≤ 63) : f c = w99 o := by
  cases o with
  | some n =>
    have h1 := r.least s hs h.1
    have h2 := hb n rfl
    have h3 := h.2 _ (r.path c hc (by omega))
    show f c = n
    omega
  | none =>
    show f c = 99
    have h1 := r.most c hc
    by_cases e : f c < 99
    · exact absurd (r.path c hc e) (h _)
    · omega
theorem sum_put {f : C3 → Nat} {c : C3} {m : Nat} (l : m < f c) : ∀ {cs : List C3}, c ∈ cs → (cs.map (wset f c m)).sum < (cs.map f).sum
  | d :: cs, h => by
    have le : ∀ l : List C3, (l.map (wset f c m)).sum ≤ (l.map f).sum := by
      intro l
      induction l with
      | nil => exact Nat.le_refl _
      | cons x l ih =>
        simp only [List.map_cons, List.sum_cons]
        have : wset f c m x ≤ f x := by
          by_cases e : x = c
          · rw [e, wset_same]; omega
          · rw [wset_ne e]; exact Nat.le_refl _
        omega
    simp only [List.map_cons, List.sum_cons]
    by_cases e : d = c
    · have h1 := le cs
      rw [e, wset_same]
      omega
    · have h1 : c ∈ cs := (List.mem_cons.mp h).resolve_left fun z => e z.symm
      have h2 := sum_put l h1
      rw [wset_ne e]
      omega
end Ly
end

section
set_option Elab.async false
set_option linter.all false
set_option maxRecDepth 100000
set_option maxHeartbeats 4000000
/-! dicts by cells -/
namespace LP
open PySem PySem.Spec PyProof.Rows L2 Ly GY
section
variable [LamTab] {P : Program} {W0 : World} {K : PySem.W.Frag} {S : List Addr} {H H' H1 H2 : Hp} {a : Addr}
theorem Kp.chgN (c : GD.Chg H H' a) (m : a ∈ S) : Kp S H H' := by
  obtain ⟨φ, was⟩ := c.was
  obtain ⟨ψ, now⟩ := c.now
  have eq : ∀ u, H a = some u → u = .ext φ := fun u z => by
    rw [was] at z
    exact (Option.some.inj z).symm
  exact Kp.but c.but (by rw [now]; exact fun z => by cases z) (fun u z => .inl m) (fun xs z => by cases eq _ z) (fun _ _ z => by cases eq _ z) c.nc (fun ⟨⟨ps, q1, _⟩, _⟩ => by cases eq _ q1) fun ps z => by cases eq _ z
theorem Kp.newN (n : GD.New H H' a) : Kp S H H' := by
  obtain ⟨ψ, now⟩ := n.now
  have no : ∀ u, H a ≠ some u := fun u z => by rw [n.free] at z; cases z
  exact Kp.but n.but (by rw [now]; exact fun z => by cases z) (fun u z => absurd z (no u)) (fun xs => no _) (fun _ _ => no _) (fun _ => no _) (fun ⟨⟨ps, q1, _⟩, _⟩ => absurd q1 (no _)) fun ps z => absurd z (no _)
theorem Kp.chgN0 (k : Kp S H H1) (h : H a = none) (c : GD.Chg H1 H2 a) : Kp S H H2 := k.off h (Kp.chgN c List.mem_cons_self)
mutual
theorem noL_k : ∀ k : NestedKey, noL k.data = true
  | .none => by simp only [NestedKey.data]; rfl
  | .num _ => by simp only [NestedKey.data]; rfl
  | .text _ => by simp only [NestedKey.data]; rfl
  | .tup ks => by simp only [NestedKey.data]; unfold noL; exact noL_ks ks
theorem noL_ks : ∀ ks : List NestedKey, noLs (NestedKey.datas ks) = true
  | [] => by simp only [NestedKey.datas]; rfl
  | k :: ks => by
    simp only [NestedKey.datas]
    unfold noLs
    rw [noL_k k, noL_ks ks]
    rfl
end
theorem key_mono {v : V} {k : NestedKey} (kp : Kp S H H') (h : GD.KeyD K H v k) : GD.KeyD K H' v k := ⟨dp_keep kp (noL_k k) h.1, h.2⟩
theorem dn_mono {kvs : List (NestedKey × V)} (k : Kp S H H') (n : a ∉ S) (d : GD.DN K P W0 H a kvs) : GD.DN K P W0 H' a kvs := by
  obtain ⟨φ, L, e, hφ, ek, hk, nc⟩ := d
  have e' := k.keep a _ e n fun ps z => by cases z
  exact ⟨φ, L, e', hφ, ek, fun p hp => key_mono k (hk p hp), fun q z => nc q (by rw [e, ← e', z])⟩
/-! ### a reading goes on with more -/
def MonE (t : TE) : Prop := ∀ σ H (Q Q' : V → Hp → Prop), (∀ v H1, Q v H1 → Q' v H1) → t σ H Q → t σ H Q'
def MonA (t : TA) : Prop := ∀ σ H (Q Q' : List V → Hp → Prop), (∀ v H1, Q v H1 → Q' v H1) → t σ H Q → t σ H Q'
def MonT (t : TT) : Prop := ∀ σ H (Q Q' : Bool → Hp → Prop), (∀ b H1, Q b H1 → Q' b H1) → t σ H Q → t σ H Q'
def MonR (r : R2) : Prop := ∀ x y H (Q Q' : V → Hp → Prop), (∀ v H1, Q v H1 → Q' v H1) → r x y H Q → r x y H Q'
theorem mon_var (i : Nat) : MonE (tVar i) := fun _ _ _ _ h ⟨v, e, q⟩ => ⟨v, e, h _ _ q⟩
theorem mon_c (v : V) : MonE (tC v) := fun _ _ _ _ h q => h _ _ q
theorem mon_op {r : R2} {a b : TE} (hr : MonR r) (ha : MonE a) (hb : MonE b) : MonE (tOp r a b) := fun σ H Q Q' h q => ha σ H _ _ (fun x H1 q1 => hb σ H1 _ _ (fun y H2 q2 => hr x y H2 _ _ h q2) q1) q
theorem mon_nil : MonA tNil := fun _ _ _ _ h q => h _ _ q
theorem mon_cons {a : TE} {t : TA} (ha : MonE a) (ht : MonA t) : MonA (tCons a t) := fun σ H Q Q' h q => ha σ H _ _ (fun x H1 q1 => ht σ H1 _ _ (fun xs H2 q2 => h _ _ q2) q1) q
theorem mon_tup {t : TA} (ht : MonA t) : MonE (tTup t) := fun σ H Q Q' h q => ht σ H _ _ (fun xs H1 ⟨z, q1⟩ => ⟨z, fun p hp => h _ _ (q1 p hp)⟩) q
theorem mon_test {t : TE} (ht : MonE t) : MonT (tTest t) := fun σ H Q Q' h q => ht σ H _ _ (fun x H1 ⟨k, e, q1⟩ => ⟨k, e, h _ _ q1⟩) q
theorem mon_and {t u : TT} (ht : MonT t) (hu : MonT u) : MonT (tAnd t u) := fun σ H Q Q' h q => ht σ H _ _ (fun c H1 q1 => by
  cases c with
  | true => exact iteT (hu σ H1 _ _ h (by simpa using q1))
  | false => exact iteF (h _ _ (by simpa using q1))) q
theorem mon_rI0 (g : Int → Int → V) : MonR (rI0 g) := fun _ _ _ _ _ h ⟨i, j, e1, e2, q⟩ => ⟨i, j, e1, e2, h _ _ q⟩
theorem mon_rInD (K : PySem.W.Frag) : MonR (rInD K) := fun _ _ _ _ _ h ⟨d, ds, h1, h2, h3, h4, q⟩ => ⟨d, ds, h1, h2, h3, h4, h _ _ q⟩
theorem mon_rNotInD (K : PySem.W.Frag) : MonR (rNotInD K) := fun _ _ _ _ _ h ⟨d, ds, h1, h2, h3, h4, q⟩ => ⟨d, ds, h1, h2, h3, h4, h _ _ q⟩
/-! ### keyed by cells -/
def kC (c : C3) : NestedKey := .tup [.num c.1, .num c.2.1, .num c.2.2]
theorem kC_data (c : C3) : (kC c).data = cD c := by simp [kC, NestedKey.data, NestedKey.datas, cD]
theorem kC_inj {c d : C3} (h : kC c = kC d) : c = d := by
  unfold kC at h
  injection h with h
  injection h with h1 h
  injection h with h2 h
  injection h with h3 h
  injection h1 with h1
  injection h2 with h2
  injection h3 with h3
  exact c3_ext h1 h2 h3
theorem keyD_c {v : V} {c : C3} (h : Dp K H v (cD c)) : GD.KeyD K H v (kC c) := ⟨by rw [kC_data]; exact h, by show NestedKey.depth (kC c) ≤ 8; simp [kC, NestedKey.depth, NestedKey.depthAll], _, rfl⟩
def kvs (cs : List C3) (w : C3 → V) : List (NestedKey × V) := cs.map fun c => (kC c, w c)
theorem valN_kvs (cs : List C3) (w : C3 → V) (d : C3) : GD.valN (kvs cs w) (kC d) = if d ∈ cs then some (w d) else none := by
  induction cs with
  | nil => rfl
  | cons c cs ih =>
    unfold GD.valN kvs at ih ⊢
    rw [List.map_cons, List.find?_cons]
    by_cases e : c = d
    · subst e
      simp
    · have e' : ¬ kC c = kC d := fun z => e (kC_inj z)
      simp only [e', decide_false]
      rw [ih]
      have e2 : ¬ d = c := fun z => e z.symm
      simp [e2]
theorem putN_old {cs : List C3} {w : C3 → V} {d : C3} {v : V} (h : d ∈ cs) : GD.putN (kvs cs w) (kC d) v = kvs cs (wset w d v) := by
  unfold GD.putN
  rw [valN_kvs, if_pos h, if_pos (by rfl)]
  unfold kvs
  rw [List.map_map]
  refine List.map_congr_left fun c _ => ?_
  show (if kC c = kC d then (kC c, v) else (kC c, w c)) = (kC c, wset w d v c)
  by_cases e : c = d
  · rw [if_pos (by rw [e]), e, wset_same]
  · rw [if_neg (fun z => e (kC_inj z)), wset_ne e]
theorem putN_new {cs : List C3} {w : C3 → V} {d : C3} (h : d ∉ cs) : GD.putN (kvs cs w) (kC d) (w d) = kvs (cs ++ [d]) w := by
  unfold GD.putN
  rw [valN_kvs, if_neg h, if_neg (by decide)]
  unfold kvs
  rw [List.map_append]
  rfl
theorem kvs_len (cs : List C3) (w : C3 → V) : (kvs cs w).length = cs.length := by unfold kvs; rw [List.length_map]
theorem kvs_congr {cs : List C3} {w w' : C3 → V} (h : ∀ c ∈ cs, w c = w' c) : kvs cs w = kvs cs w' := List.map_congr_left fun c hc => by rw [h c hc]
end
end LP
end

section
set_option Elab.async false
set_option linter.all false
set_option maxRecDepth 100000
set_option maxHeartbeats 4000000
/-! the head's steps, where strokes begin and end, its place -/
namespace LP
open PySem PySem.Spec PyProof.Rows L2 Ly GY
variable [LamTab] {P : Program} {W0 : World} {K : PySem.W.Frag} {mg : Str → Option Value} {base : Heap}
structure No (mg : Str → Option Value) : Prop where
  abs : mg "abs" = none
  min : mg "min" = none
  fwd : ∃ t, mg "FORWARD" = some (.int 0 t)
  back : ∃ t, mg "BACK" = some (.int 1 t)
/-! ### _steps -/
def spSteps (K : PySem.W.Frag) : Sp := fun vs H Q _ => ∃ (u v : V) (p q : Int × Int), vs = [u, v] ∧ Dp K H u (pD p) ∧ Dp K H v (pD q) ∧ Q (.int (stepsI p q)) H
theorem scSteps : FnScope ["place", "other"] ["place", "other"] (defScope sSteps) := ⟨rfl, rfl, rfl, by decide +kernel, rfl, by decide +kernel, by decide +kernel⟩
theorem ok_steps {f : Addr} {fd : FuncData} (F : Fun K "_steps" "_steps" sSteps f fd) (O : No mg) : FnOk P W0 K mg base CX0 1 f fd ["place", "other"] (spSteps K) := by
  refine F.ok scSteps (fun vs H Q E h => ?_) (fun cdv A outer s H vs Q E hr h => ?_)
  · obtain ⟨u, v, p, q, rfl, _⟩ := h
    rfl
  · obtain ⟨u, v, p, q, rfl, hu, hv, hQ⟩ := h
    refine ⟨_, pss_one (ps_ret (pe_op op_add (pe_callB call_abs (by rfl) O.abs (by decide +kernel) (pa_cons (pe_op op_sub (pe_ix (r := rIxT K) ix_tup (pv 0) pe_int (fun _ _ => rfl)) (pe_ix (r := rIxT K) ix_tup (pv 1) pe_int (fun _ _ => rfl))) pa_nil))
      (pe_callB call_abs (by rfl) O.abs (by decide +kernel) (pa_cons (pe_op op_sub (pe_ix (r := rIxT K) ix_tup (pv 0) pe_int (fun _ _ => rfl)) (pe_ix (r := rIxT K) ix_tup (pv 1) pe_int (fun _ _ => rfl))) pa_nil)))), ?_⟩
    obtain ⟨a, rfl, ha⟩ := of_pD hu
    obtain ⟨b, rfl, hb⟩ := of_pD hv
    exact ⟨_, rfl, a, _, 0, _, rfl, rfl, ha, rfl, _, rfl, b, _, 0, _, rfl, rfl, hb, rfl, _, _, rfl, rfl, _, rfl, _, rfl, a, _, 1, _, rfl, rfl, ha, rfl, _, rfl, b, _, 1, _, rfl, rfl, hb, rfl, _, _, rfl, rfl, _, rfl, _, _, rfl, rfl, hQ⟩
/-! ### _ends -/
def ppD (p : (Int × Int) × (Int × Int)) : PyData := .tuple [pD p.1, pD p.2]
def spEnds (K : PySem.W.Frag) : Sp := fun vs H Q _ => ∃ (u : V) (r : C3) (w : Int), vs = [u, .int w] ∧ Dp K H u (cD r) ∧ ∀ (H' : Hp) (t a b : Addr), Kp [] H H' → SqT K H' t [.ref a, .ref b] → SqT K H' a [.int (endsI r w).1.1, .int (endsI r w).1.2] → SqT K H' b [.int (endsI r w).2.1, .int (endsI r w).2.2] → Q (.ref t) H'
theorem scEnds : FnScope ["run", "way", "y", "first", "last"] ["run", "way"] (defScope sEnds) := ⟨rfl, rfl, rfl, by decide +kernel, rfl, by decide +kernel, by decide +kernel⟩
theorem ok_ends {f : Addr} {fd : FuncData} (F : Fun K "_ends" "_ends" sEnds f fd) (O : No mg) : FnOk P W0 K mg base CX0 1 f fd ["run", "way"] (spEnds K) := by
  obtain ⟨tf, mF⟩ := O.fwd
  refine F.ok scEnds (fun vs H Q E h => ?_) (fun cdv A outer s H vs Q E hr h => ?_)
  · obtain ⟨u, r, w, rfl, _⟩ := h
    rfl
  · obtain ⟨u, r, w, rfl, hu, q⟩ := h
    refine ⟨_, pss_cons (ps_asg (pv 0) (pg_tup rfl (pgs_cons (pg_name (i := 2) scEnds.nd rfl (.inl rfl)) (pgs_cons (pg_name (i := 3) scEnds.nd rfl (.inl rfl)) (pgs_cons (pg_name (i := 4) scEnds.nd rfl (.inl rfl)) pgs_nil)))))
      (pss_cons (ps_if (pt_cmpR op_eq (pv 1) (pe_glob (v := .int 0) rfl mF ⟨_, rfl⟩) (nomark _)) (pss_one (ps_ret (pe_tup (pa_cons (pe_tup (pa_cons (pv 3) (pa_cons (pv 2) pa_nil))) (pa_cons (pe_tup (pa_cons (pv 4) (pa_cons (pv 2) pa_nil))) pa_nil))))) pss_nil)
      (pss_one (ps_ret (pe_tup (pa_cons (pe_tup (pa_cons (pv 4) (pa_cons (pv 2) pa_nil))) (pa_cons (pe_tup (pa_cons (pv 3) (pa_cons (pv 2) pa_nil))) pa_nil)))))), ?_⟩
    obtain ⟨pc, rfl, hT⟩ := of_dp_c hu
    have go : ∀ (x1 x2 : Int), endsI r w = ((x1, r.1), (x2, r.1)) → ∀ t1 : Addr, H t1 = none → ∀ t2 : Addr, upd H t1 (.tup [.int x1, .int r.1]) t2 = none → ∀ t3 : Addr, upd (upd H t1 (.tup [.int x1, .int r.1])) t2 (.tup [.int x2, .int r.1]) t3 = none →
        Q (.ref t3) (upd (upd (upd H t1 (.tup [.int x1, .int r.1])) t2 (.tup [.int x2, .int r.1])) t3 (.tup [.ref t1, .ref t2])) := fun x1 x2 e t1 h1 t2 h2 t3 h3 => by
      have k1 := Kp.new (S := []) (o := .tup [.int x1, .int r.1]) h1
      have k2 := Kp.new (S := []) (o := .tup [.int x2, .int r.1]) h2
      have k3 := Kp.new (S := []) (o := .tup [.ref t1, .ref t2]) h3
      refine q _ t3 t1 t2 ((k1.trans k2).trans k3) (SqT.of upd_same) ?_ ?_
      · rw [e]
        exact k3.sqT (k2.sqT (SqT.of (K := K) upd_same))
      · rw [e]
        exact k3.sqT (SqT.of (K := K) upd_same)
    refine ⟨_, rfl, pc, _, rfl, hT, rfl, _, _, rfl, _, _, rfl, _, _, rfl, rfl, ?_⟩
    refine ⟨_, rfl, rfl, _, rfl, ?_⟩
    by_cases wz : w = 0
    · refine itD1 (by rw [wz]) ?_
      exact ⟨_, rfl, _, rfl, (by show 2 ≤ sizeLine; decide), fun t1 h1 => ⟨_, rfl, _, rfl, (by show 2 ≤ sizeLine; decide), fun t2 h2 => ⟨(by show 2 ≤ sizeLine; decide), fun t3 h3 => go r.2.1 r.2.2 (by unfold endsI; rw [if_pos wz]) t1 h1 t2 h2 t3 h3⟩⟩⟩
    · refine itD0 (fun e => wz (V.int.inj e)) ?_
      exact ⟨_, rfl, _, rfl, (by show 2 ≤ sizeLine; decide), fun t1 h1 => ⟨_, rfl, _, rfl, (by show 2 ≤ sizeLine; decide), fun t2 h2 => ⟨(by show 2 ≤ sizeLine; decide), fun t3 h3 => go r.2.2 r.2.1 (by unfold endsI; rw [if_neg wz]) t1 h1 t2 h2 t3 h3⟩⟩⟩
/-! ### is_place, check_place -/
def inPl (p : Int × Int) : Bool := btw 0 3 p.1 && btw 0 3 p.2
def spIsPl (K : PySem.W.Frag) (Pc : Addr) : Sp := fun vs H Q _ => ∃ (u : V) (p : Int × Int), vs = [u] ∧ Dp K H u (pD p) ∧ TGen H Pc ∧ ∀ H', Kp [] H H' → Q (.bl (inPl p)) H'
theorem scIsPl : FnScope ["place"] ["place"] (defScope sIsPlace) := ⟨rfl, rfl, rfl, by decide +kernel, rfl, by decide +kernel, by decide +kernel⟩
theorem gIsPl : GX.GOk ["place"] (defScope sIsPlace) (genOf (stOf sIsPlace 0)) "part" := ⟨rfl, rfl, by decide +kernel, rfl, rfl, by decide +kernel, by decide +kernel, by decide +kernel, by decide⟩
theorem ok_ispl {f c Pc fN : Addr} {fd dN : FuncData} (F : FunC K "is_place" "is_place" sIsPlace f fd c) (TB : GxR.TabB base mg c Pc) (T : Nm K mg)
    (NN : Fn K mg "is_number" fN dN ["value", "low", "high"]) (GN : FnOk P W0 K mg base CX0 1 fN dN ["value", "low", "high"] spNum) : FnOk P W0 K mg base CX0 4 f fd ["place"] (spIsPl K Pc) := by
  obtain ⟨tl, mL⟩ := T.last
  refine F.ok scIsPl (fun vs H Q E h => ?_) (fun A outer s H vs Q E hr h => ?_)
  · obtain ⟨u, p, rfl, _⟩ := h
    rfl
  · obtain ⟨u, p, rfl, hu, hP, q⟩ := h
    refine ⟨_, pss_one (ps_ret (pe_and (pe_cmpR op_eq (pe_callB call_len_seq (by rfl) T.len PySem.boot_len (pa_cons (pv 0) pa_nil)) pe_int (nomark _))
        (pe_one (pe_fr fun hf => GX.pe_allG (k := 1) hr (by rfl) T.all TB rfl scIsPl.nd hf gIsPl (show ("part" : Str) ∉ (["place"] : List Str) by decide) (pi_tup (pv 0))
          (fun A s H C code fp hr1 => pe_call GN hr1 (by rfl) NN.m NN.kp NN.b .nil pass0 (pa_cons (pv 1) (pa_cons pe_int (pa_cons (pe_glob (v := .int 3) rfl mL ⟨_, rfl⟩) pa_nil)))))))), ?_⟩
    obtain ⟨a, rfl, ha⟩ := of_pD hu
    refine ⟨_, rfl, a, _, rfl, .inr ha, rfl, _, rfl, itD1 rfl ?_⟩
    refine ⟨_, rfl, a, rfl, ⟨_, ha⟩, hP.1, fun H2 tb => ?_⟩
    have k2 : Kp [] H H2 := Kp.tabbed hP tb
    refine ⟨_, _, ⟨Nat.zero_le _, ?p0⟩, GX.turn_tup (xs := [p.1, p.2].map V.int) (fun i H' => Kp [] H H' ∧ ([p.1, p.2].take i).all (btw 0 3) = true) rfl (fun i H' _ k => k.1.sqT ha) (fun i x H' hx ⟨k, p'⟩ => ?ps) (fun H' ⟨k, p'⟩ => ?pd)⟩
    case p0 => exact ⟨k2, rfl⟩
    case ps =>
      obtain ⟨n, hn, rfl⟩ := int_at hx
      refine ⟨_, rfl, n, 0, 3, rfl, _, rfl, ?_⟩
      have z := btw_all hn p'
      have hi' : i < ([p.1, p.2].map V.int).length := (List.getElem?_eq_some_iff.mp hx).1
      cases e : btw 0 3 n with
      | true => exact iteT ⟨hi', k, z.1 e⟩
      | false =>
        have q1 := q H' k
        rw [show inPl p = false from by
          have := z.2 e
          unfold inPl
          simpa using this] at q1
        exact iteF q1
    case pd =>
      have q1 := q H' k
      rw [show inPl p = true from by
        unfold inPl
        simpa using p'] at q1
      exact q1
def spChkPl (K : PySem.W.Frag) (Pc C : Addr) : Sp := fun vs H Q E => ∃ (u : V) (p : Int × Int), vs = [u] ∧ Dp K H u (pD p) ∧ TGen H Pc ∧ (inPl p = true → ∀ H', Kp [] H H' → Q .non H') ∧ (inPl p = false → ∀ H', Kp [] H H' → E (.ref C) none H')
theorem scChkPl : FnScope ["place"] ["place"] (defScope sChkPl) := ⟨rfl, rfl, rfl, by decide +kernel, rfl, by decide +kernel, by decide +kernel⟩
theorem ok_chkpl {f Pc C fN : Addr} {fd dN : FuncData} (F : Fun K "check_place" "check_place" sChkPl f fd) (X : Ex K mg "BadPlace" C)
    (NN : Fn K mg "is_place" fN dN ["place"]) (GN : FnOk P W0 K mg base CX0 4 fN dN ["place"] (spIsPl K Pc)) : FnOk P W0 K mg base (L2.CX P W0) 5 f fd ["place"] (spChkPl K Pc C) := by
  refine F.okX scChkPl (fun vs H Q E h => ?_) (fun cdv A outer s H vs Q E hr h => ?_)
  · obtain ⟨u, p, rfl, _⟩ := h
    rfl
  · obtain ⟨u, p, rfl, hu, hP, q1, q2⟩ := h
    refine ⟨_, pss_one (ps_if (pt_not (pt_val (pe_call GN hr (by rfl) NN.m NN.kp NN.b .nil pass0 (pa_cons (pv 0) pa_nil))))
        (pss_one (ps_raise rfl (takes_of rfl rfl rfl rfl) (pmk_own PySem.F.excBase_ValueError X.x X.g X.k (raises_own X.b X.t) rfl))) pss_nil), ?_⟩
    refine ⟨_, rfl, u, p, rfl, hu, hP, fun H1 k1 => ⟨_, rfl, ?_⟩⟩
    cases e : inPl p with
    | true => exact iteF (q1 e H1 k1)
    | false => exact iteT (q2 e H1 k1)
end LP
end

section
set_option Elab.async false
set_option linter.all false
set_option maxRecDepth 100000
set_option maxHeartbeats 4000000
/-! what is known of the least empty ways -/
namespace LP
open PySem PySem.Spec PyProof.Rows L2 Ly GY
section
variable [LamTab] {P : Program} {W0 : World} {K : PySem.W.Frag} {mg : Str → Option Value} {base : Heap}
/-! ### layers: lists of lists of strokes -/
def LA (K : PySem.W.Frag) (H : Hp) : List V → List (List C3) → Prop := fun xs Ls => Paired (fun (x : V) (L : List C3) => ∃ b ys, x = .ref b ∧ H b = some (.lst ys) ∧ Items K H ys L) xs Ls
def LayersAt (K : PySem.W.Frag) (H : Hp) (la : Addr) (Ls : List (List C3)) : Prop := ∃ xs, H la = some (.lst xs) ∧ LA K H xs Ls
/-- what changes are objects of another kind -/
def Exts (H : Hp) (S : List Addr) : Prop := ∀ a ∈ S, ∃ φ, H a = some (.ext φ)
theorem Exts.lst {H : Hp} {S : List Addr} {a : Addr} {xs : List V} (e : Exts H S) (h : H a = some (.lst xs)) : a ∉ S := fun m => by
  obtain ⟨φ, q⟩ := e a m
  rw [h] at q
  cases q
theorem LA.mono {S : List Addr} {H H' : Hp} (k : Kp S H H') (e : Exts H S) : ∀ {xs : List V} {Ls : List (List C3)}, LA K H xs Ls → LA K H' xs Ls
  | _, _, .nil => .nil
  | _, _, .cons ⟨b, ys, e1, e2, e3⟩ t => .cons ⟨b, ys, e1, k.lst e2 (e.lst e2), items_mono k e3⟩ (LA.mono k e t)
theorem LayersAt.mono {S : List Addr} {H H' : Hp} {la : Addr} {Ls : List (List C3)} (h : LayersAt K H la Ls) (k : Kp S H H') (e : Exts H S) : LayersAt K H' la Ls := by
  obtain ⟨xs, h1, h2⟩ := h
  exact ⟨xs, k.lst h1 (e.lst h1), h2.mono k e⟩
theorem LA.at {H : Hp} : ∀ {xs : List V} {Ls : List (List C3)} {i : Nat} {L : List C3}, LA K H xs Ls → Ls[i]? = some L → ∃ b ys, xs[i]? = some (.ref b) ∧ H b = some (.lst ys) ∧ Items K H ys L
  | _, M :: _, 0, L, .cons ⟨b, ys, e1, e2, e3⟩ _, h => by
    have h : M = L := by simpa using h
    subst h
    exact ⟨b, ys, by rw [e1]; rfl, e2, e3⟩
  | _, _, i + 1, L, .cons _ t, h => by
    obtain ⟨b, ys, q⟩ := LA.at (i := i) t (by simpa using h)
    exact ⟨b, ys, by simpa using q.1, q.2⟩
theorem LA.length {H : Hp} : ∀ {xs : List V} {Ls : List (List C3)}, LA K H xs Ls → xs.length = Ls.length
  | _, _, .nil => rfl
  | _, _, .cons _ t => by rw [List.length_cons, List.length_cons, LA.length t]
/-! ### keys -/
def kB (at_ : Nat) (done : List Int) (p : Int × Int) : NestedKey := .tup [.num (at_ : Int), .tup (done.map NestedKey.num), .tup [.num p.1, .num p.2]]
def iT (done : List Int) : PyData := .tuple (done.map PyData.int)
theorem datas_num : ∀ l : List Int, NestedKey.datas (l.map NestedKey.num) = l.map PyData.int
  | [] => by simp [NestedKey.datas]
  | x :: l => by simp [NestedKey.datas, NestedKey.data, datas_num l]
theorem kB_data (at_ : Nat) (done : List Int) (p : Int × Int) : (kB at_ done p).data = .tuple [.int (at_ : Int), iT done, pD p] := by
  simp [kB, NestedKey.data, NestedKey.datas, datas_num, iT, pD]
theorem depth_nums : ∀ l : List Int, NestedKey.depthAll (l.map NestedKey.num) = 0
  | [] => by simp [NestedKey.depthAll]
  | x :: l => by simp [NestedKey.depthAll, NestedKey.depth, depth_nums l]
theorem kB_depth (at_ : Nat) (done : List Int) (p : Int × Int) : (kB at_ done p).depth ≤ 8 := by
  simp [kB, NestedKey.depth, NestedKey.depthAll, depth_nums]
theorem num_map_inj : ∀ {a b : List Int}, a.map NestedKey.num = b.map NestedKey.num → a = b
  | [], [], _ => rfl
  | [], _ :: _, h => by simp at h
  | _ :: _, [], h => by simp at h
  | x :: a, y :: b, h => by
    rw [List.map_cons, List.map_cons] at h
    injection h with h1 h2
    injection h1 with h1
    rw [h1, num_map_inj h2]
theorem kB_inj {a a' : Nat} {d d' : List Int} {p p' : Int × Int} (h : kB a d p = kB a' d' p') : a = a' ∧ d = d' ∧ p = p' := by
  unfold kB at h
  injection h with h
  injection h with h1 h
  injection h with h2 h
  injection h with h3 h
  injection h1 with h1
  injection h2 with h2
  injection h3 with h3
  injection h3 with h4 h3
  injection h3 with h5 h3
  injection h4 with h4
  injection h5 with h5
  exact ⟨by omega, num_map_inj h2, Prod.ext h4 h5⟩
/-! ### what is known -/
def aoD (a : AO) : PyData := PySem.W.Datum.toD a
theorem aoD_eq (a : AO) : aoD a = .tuple [.int a.1, .tuple (a.2.items.map pD)] := rfl
theorem noL_ao (a : AO) : noL (aoD a) = true := by
  rw [aoD_eq]
  show (true && (noLs (a.2.items.map pD) && true)) = true
  rw [noLs_map noL_p]
  rfl
/-- a state that is asked of -/
structure Lg (Ls : List (List C3)) (at_ : Nat) (done : List Int) (p : Int × Int) : Prop where
  ex : ∃ L, Ls[at_]? = some L ∧ done.length ≤ L.length ∧ ∀ x ∈ done, 0 ≤ x ∧ x < (L.length : Int)
  asc : done.Pairwise (· < ·)
  pl : inPl p = true
def U : List NestedKey := (List.range 4).flatMap fun a => (sbs 8).flatMap fun d => (List.range 4).flatMap fun (x : Nat) => (List.range 4).map fun (y : Nat) => kB a d ((x : Int), (y : Int))
structure Rm (Ls : List (List C3)) : Prop where
  few : Ls.length ≤ 4
  le : ∀ L ∈ Ls, L.length ≤ 8
  rm : ∀ L ∈ Ls, ∀ r ∈ L, (0 ≤ r.1 ∧ r.1 ≤ 3) ∧ (0 ≤ r.2.1 ∧ r.2.1 ≤ 3) ∧ (0 ≤ r.2.2 ∧ r.2.2 ≤ 3)
theorem flat_len {α β : Type} {f : α → List β} {n : Nat} (h : ∀ a, (f a).length = n) : ∀ l : List α, (l.flatMap f).length = l.length * n
  | [] => by simp
  | a :: l => by
    rw [List.flatMap_cons, List.length_append, h a, flat_len h l, List.length_cons, Nat.add_mul, Nat.one_mul, Nat.add_comm]
theorem U_len : U.length = 16384 := by
  unfold U
  rw [flat_len (n := 4096) fun a => by
    rw [flat_len (n := 16) fun d => by
      rw [flat_len (n := 4) fun x => by rw [List.length_map, List.length_range]]
      rfl]
    rw [sbs_len]]
  rfl
theorem mem_U {Ls : List (List C3)} {at_ : Nat} {done : List Int} {p : Int × Int} (r : Rm Ls) (g : Lg Ls at_ done p) : kB at_ done p ∈ U := by
  obtain ⟨L, hL, h1, h2⟩ := g.ex
  have hi := (List.getElem?_eq_some_iff.mp hL).1
  have hf := r.few
  have hm := r.le L (List.mem_of_getElem? hL)
  have hp := g.pl
  unfold inPl at hp
  rw [Bool.and_eq_true, btw_iff, btw_iff] at hp
  refine List.mem_flatMap.mpr ⟨at_, List.mem_range.mpr (by omega), List.mem_flatMap.mpr ⟨done, mem_sbs 8 g.asc fun x hx => ⟨(h2 x hx).1, by have := (h2 x hx).2; omega⟩, List.mem_flatMap.mpr ⟨p.1.toNat, List.mem_range.mpr (by omega), List.mem_map.mpr ⟨p.2.toNat, List.mem_range.mpr (by omega), ?_⟩⟩⟩⟩
  rw [show ((p.1.toNat : Nat) : Int) = p.1 by omega, show ((p.2.toNat : Nat) : Int) = p.2 by omega]
/-- the dict of what is known -/
structure RS (P : Program) (W0 : World) (K : PySem.W.Frag) (H : Hp) (dk : Addr) (Ls : List (List C3)) (kvs : List (NestedKey × V)) : Prop where
  dn : GD.DN K P W0 H dk kvs
  nd : (kvs.map (·.1)).Nodup
  ok : ∀ k v, (k, v) ∈ kvs → ∃ at_ done p, Lg Ls at_ done p ∧ k = kB at_ done p ∧ Dp K H v (aoD (best Ls at_ done p))
theorem RS.le {H : Hp} {dk : Addr} {Ls : List (List C3)} {kvs : List (NestedKey × V)} (r : RS P W0 K H dk Ls kvs) (m : Rm Ls) : kvs.length < sizeLine := by
  have := nodup_le (U := U) r.nd fun k hk => by
    obtain ⟨⟨k', v⟩, hq, rfl⟩ := List.mem_map.mp hk
    obtain ⟨a, d, p, g, rfl, _⟩ := r.ok _ _ hq
    exact mem_U m g
  rw [U_len, List.length_map] at this
  have : (16384 : Nat) < sizeLine := by decide
  omega
theorem RS.exts {H : Hp} {dk : Addr} {Ls : List (List C3)} {kvs : List (NestedKey × V)} (r : RS P W0 K H dk Ls kvs) : Exts H [dk] := fun a ha => by
  obtain ⟨φ, L, e, _⟩ := r.dn
  rw [List.mem_singleton.mp ha]
  exact ⟨_, e⟩
theorem RS.mono {H H' : Hp} {dk : Addr} {Ls : List (List C3)} {kvs : List (NestedKey × V)} (r : RS P W0 K H dk Ls kvs) (k : Kp [] H H') : RS P W0 K H' dk Ls kvs :=
  ⟨dn_mono k List.not_mem_nil r.dn, r.nd, fun x v h => by
    obtain ⟨a, d, p, g, e, q⟩ := r.ok x v h
    exact ⟨a, d, p, g, e, dp_keep k (noL_ao _) q⟩⟩
theorem val_mem {kvs : List (NestedKey × V)} {k : NestedKey} {v : V} (h : GD.valN kvs k = some v) : (k, v) ∈ kvs := by
  unfold GD.valN at h
  obtain ⟨⟨k', v'⟩, h1, h2⟩ := Option.map_eq_some_iff.mp h
  have e : k' = k := by simpa using List.find?_some h1
  have m := List.mem_of_find?_eq_some h1
  have h2 : v' = v := h2
  rw [← e, ← h2]
  exact m
theorem RS.get {H : Hp} {dk : Addr} {Ls : List (List C3)} {kvs : List (NestedKey × V)} {at_ : Nat} {done : List Int} {p : Int × Int} {v : V} (r : RS P W0 K H dk Ls kvs) (h : GD.valN kvs (kB at_ done p) = some v) : Dp K H v (aoD (best Ls at_ done p)) := by
  obtain ⟨a, d, q, g, e, x⟩ := r.ok _ _ (val_mem h)
  obtain ⟨rfl, rfl, rfl⟩ := kB_inj e
  exact x
theorem val_none {kvs : List (NestedKey × V)} {k : NestedKey} (h : (GD.valN kvs k).isSome = false) : k ∉ kvs.map (·.1) := fun m => by
  obtain ⟨⟨k', v⟩, hq, e⟩ := List.mem_map.mp m
  have e : k' = k := e
  unfold GD.valN at h
  rw [Option.isSome_map] at h
  have := (List.find?_isSome (p := fun q : NestedKey × V => decide (q.1 = k))).mpr ⟨(k', v), hq, by simpa using e⟩
  rw [this] at h
  cases h
/-- one more is known -/
theorem RS.put {H H' : Hp} {dk : Addr} {Ls : List (List C3)} {kvs : List (NestedKey × V)} {at_ : Nat} {done : List Int} {p : Int × Int} {v : V} (r : RS P W0 K H dk Ls kvs) (g : Lg Ls at_ done p) (n : (GD.valN kvs (kB at_ done p)).isSome = false) (hv : Dp K H v (aoD (best Ls at_ done p)))
    (c : GD.Chg H H' dk) (d : GD.DN K P W0 H' dk (GD.putN kvs (kB at_ done p) v)) : RS P W0 K H' dk Ls (GD.putN kvs (kB at_ done p) v) ∧ GD.valN (GD.putN kvs (kB at_ done p) v) (kB at_ done p) = some v := by
  have e : GD.putN kvs (kB at_ done p) v = kvs ++ [(kB at_ done p, v)] := by unfold GD.putN; rw [if_neg (by rw [n]; decide)]
  have nm := val_none n
  have kc : Kp [dk] H H' := Kp.chgN c (List.mem_singleton.mpr rfl)
  refine ⟨⟨d, ?_, fun k w h => ?_⟩, ?_⟩
  · rw [e, List.map_append]
    refine List.nodup_append.mpr ⟨r.nd, by simp, fun x hx y hy => ?_⟩
    have hy : y = kB at_ done p := by simpa using hy
    rw [hy]
    intro z
    rw [z] at hx
    exact nm hx
  · rw [e] at h
    rcases List.mem_append.mp h with h | h
    · obtain ⟨a, d', q, g', e', x⟩ := r.ok k w h
      exact ⟨a, d', q, g', e', dp_keep kc (noL_ao _) x⟩
    · have h : (k, w) = (kB at_ done p, v) := List.mem_singleton.mp h
      injection h with h1 h2
      rw [h2]
      exact ⟨at_, done, p, g, h1, dp_keep kc (noL_ao _) hv⟩
  · rw [e]
    unfold GD.valN
    rw [List.find?_append]
    have : kvs.find? (fun q => decide (q.1 = kB at_ done p)) = none := by
      rw [List.find?_eq_none]
      intro q hq
      simp only [decide_eq_true_eq]
      intro z
      exact nm (List.mem_map.mpr ⟨q, hq, z⟩)
    rw [this]
    simp
end
end LP
end

section
set_option Elab.async false
set_option linter.all false
set_option maxRecDepth 100000
set_option maxHeartbeats 4000000
/-! drawn_next, _best_rest's promise -/
namespace LP
open PySem PySem.Spec PyProof.Rows L2 Ly GY
section
variable [LamTab] {P : Program} {W0 : World} {K : PySem.W.Frag} {mg : Str → Option Value} {base : Heap}
theorem lt_of_le_nodup {l : List Int} (h : l.Pairwise (· ≤ ·)) (n : l.Nodup) : l.Pairwise (· < ·) := by
  have := List.Pairwise.and h n
  exact this.imp fun {a b} ⟨h1, h2⟩ => by have := h2; omega
theorem nodup_of_lt {l : List Int} (h : l.Pairwise (· < ·)) : l.Nodup := h.imp fun {a b} q e => by omega
theorem nodup_snoc {done : List Int} {n : Int} (h : done.Nodup) (m : n ∉ done) : (done ++ [n]).Nodup := List.nodup_append.mpr ⟨h, by simp, fun x hx y hy e => by
  rw [List.mem_singleton.mp hy] at e
  rw [e] at hx
  exact m hx⟩
theorem len_lt {done : List Int} {k n : Nat} (h : done.Nodup) (m : (n : Int) ∉ done) (hn : n < k) (r : ∀ x ∈ done, 0 ≤ x ∧ x < (k : Int)) : done.length < k := by
  have := nodup_le (U := (List.range k).map fun i : Nat => (i : Int)) (nodup_snoc h m) fun x hx => by
    rcases List.mem_append.mp hx with z | z
    · have := r x z
      exact List.mem_map.mpr ⟨x.toNat, List.mem_range.mpr (by omega), by omega⟩
    · rw [List.mem_singleton.mp z]
      exact List.mem_map.mpr ⟨n, List.mem_range.mpr hn, rfl⟩
  rw [List.length_append, List.length_map, List.length_range] at this
  have : done.length + 1 ≤ k := this
  omega
theorem Lg.step {Ls : List (List C3)} {at_ : Nat} {done : List Int} {p q : Int × Int} {L : List C3} {n : Nat} (g : Lg Ls at_ done p) (hL : Ls[at_]? = some L) (hn : n < L.length) (m : (n : Int) ∉ done) (hq : inPl q = true) : done.length < L.length ∧ Lg Ls at_ (srt (done ++ [(n : Int)])) q := by
  obtain ⟨L', e, h1, h2⟩ := g.ex
  rw [hL] at e
  cases e
  have nd := nodup_of_lt g.asc
  have hl := len_lt nd m hn h2
  refine ⟨hl, ⟨L, hL, ?_, fun x hx => ?_⟩, lt_of_le_nodup (srt_sorted _) ((srt_perm _).nodup_iff.mpr (nodup_snoc nd m)), hq⟩
  · rw [srt_len, List.length_append]
    show done.length + 1 ≤ L.length
    omega
  · rcases List.mem_append.mp ((srt_perm _).mem_iff.mp hx) with z | z
    · exact h2 x z
    · rw [List.mem_singleton.mp z]
      omega
theorem ends_in {L : List C3} {r : C3} {w : Int} (h : (0 ≤ r.1 ∧ r.1 ≤ 3) ∧ (0 ≤ r.2.1 ∧ r.2.1 ≤ 3) ∧ (0 ≤ r.2.2 ∧ r.2.2 ≤ 3)) : inPl (endsI r w).2 = true := by
  unfold inPl endsI
  rw [Bool.and_eq_true, btw_iff, btw_iff]
  split
  · exact ⟨⟨h.2.2.1, h.2.2.2⟩, h.1⟩
  · exact ⟨⟨h.2.1.1, h.2.1.2⟩, h.1⟩
theorem of_iT {H : Hp} {v : V} {done : List Int} (h : Dp K H v (iT done)) : ∃ a, v = .ref a ∧ SqT K H a (done.map V.int) := by
  unfold iT at h
  cases h with
  | tup hs ha => exact ⟨_, rfl, by rw [dps_ints ha] at hs; exact hs⟩
theorem dp_iT {H : Hp} {a : Addr} {done : List Int} (h : SqT K H a (done.map V.int)) : Dp K H (.ref a) (iT done) := .tup h (ints_dp done)
  where ints_dp : ∀ l : List Int, DpAll K H (l.map V.int) (l.map PyData.int)
    | [] => .nil
    | x :: l => .cons (.int x) (ints_dp l)
theorem catA {H : Hp} {a b : Addr} {xs ys : List V} {Q : V → Hp → Prop} (ha : SqT K H a xs) (hb : SqT K H b ys) (hz : xs.length + ys.length ≤ sizeLine) (q : ∀ (H' : Hp) (c : Addr), Kp [] H H' → SqT K H' c (xs ++ ys) → Q (.ref c) H') : rCatA K (.ref a) (.ref b) H Q := by
  refine ⟨a, b, xs, ys, rfl, rfl, ha, hb, hz, fun e => ?_, fun _ e => ?_, fun _ _ p hp => ?_⟩
  · subst e
    exact q H b (Kp.refl _ _) hb
  · subst e
    exact q H a (Kp.refl _ _) (by rw [List.append_nil]; exact ha)
  · exact q _ p (Kp.new hp) (SqT.of upd_same)
theorem of_ao {H : Hp} {v : V} {a : AO} (h : Dp K H v (aoD a)) : ∃ r b, v = .ref r ∧ SqT K H r [.int a.1, .ref b] ∧ Dp K H (.ref b) (.tuple (a.2.items.map pD)) := by
  rw [aoD_eq] at h
  cases h with
  | tup hs ha =>
    cases ha with
    | cons h1 h2 =>
      cases h2 with
      | cons h2 h3 =>
        cases h3
        have e1 := of_dpi h1
        subst e1
        cases h2 with
        | tup h4 h5 => exact ⟨_, _, rfl, hs, .tup h4 h5⟩
/-! ### drawn_next -/
def nxD (L : List C3) (done : List Int) (p : Int × Int) (q : Nat × Int) : PyData :=
  .tuple [pD ((q.1 : Int), q.2), .int (stepsI p (endsI (L.getD q.1 (0, 0, 0)) q.2).1), iT (srt (done ++ [(q.1 : Int)])), pD (endsI (L.getD q.1 (0, 0, 0)) q.2).2]
def nx1 (done : List Int) (n : Nat) : List (Nat × Int) := if (n : Int) ∈ done then [] else [(n, 0), (n, 1)]
def nxs (L : List C3) (done : List Int) : List (Nat × Int) := (List.range L.length).flatMap (nx1 done)
theorem noL_iT (l : List Int) : noL (iT l) = true := noLs_map (fun _ => rfl) l
theorem noL_nx (L : List C3) (done : List Int) (p : Int × Int) (q : Nat × Int) : noL (nxD L done p q) = true := by
  show (noL (pD ((q.1 : Int), q.2)) && (true && (noL (iT (srt (done ++ [(q.1 : Int)]))) && (noL (pD (endsI (L.getD q.1 (0, 0, 0)) q.2).2) && true)))) = true
  rw [noL_p, noL_iT, noL_p]
  rfl
theorem nx_succ (done : List Int) (n : Nat) : (List.range (n + 1)).flatMap (nx1 done) = (List.range n).flatMap (nx1 done) ++ nx1 done n := by
  rw [List.range_succ, List.flatMap_append, List.flatMap_cons, List.flatMap_nil, List.append_nil]
theorem nx1_le (done : List Int) (n : Nat) : (nx1 done n).length ≤ 2 := by
  unfold nx1
  split
  · exact Nat.zero_le _
  · exact Nat.le_refl _
theorem nx_le (done : List Int) : ∀ n, ((List.range n).flatMap (nx1 done)).length ≤ 2 * n
  | 0 => by simp
  | n + 1 => by
    have h1 := nx_le done n
    have h2 := nx1_le done n
    rw [nx_succ, List.length_append]
    omega
def spNext2 (K : PySem.W.Frag) : Sp := fun vs H Q _ => ∃ (rb : Addr) (ys : List V) (dv pv : V) (L : List C3) (done : List Int) (p : Int × Int), vs = [.ref rb, dv, pv] ∧ H rb = some (.lst ys) ∧ Items K H ys L ∧ L.length ≤ 1000 ∧ done.length ≤ 1000 ∧ Dp K H dv (iT done) ∧ Dp K H pv (pD p) ∧
  ∀ (H' : Hp) (r : Addr) (zs : List V), Kp [] H H' → H r = none → H' r = some (.lst zs) → DpAll K H' zs ((nxs L done).map (nxD L done p)) → Q (.ref r) H'
theorem scNext2 : FnScope ["runs", "done", "place", "told", "number", "way", "start", "end"] ["runs", "done", "place"] (defScope sDrawn) := ⟨rfl, rfl, rfl, by decide +kernel, rfl, by decide +kernel, by decide +kernel⟩
theorem ok_drawn {f fE fS : Addr} {fd dE dS : FuncData} (F : Fun K "drawn_next" "drawn_next" sDrawn f fd) (T : Nm K mg) (O : No mg) (NE : Fn K mg "_ends" fE dE ["run", "way"]) (GE : FnOk P W0 K mg base CX0 1 fE dE ["run", "way"] (spEnds K))
    (NS : Fn K mg "_steps" fS dS ["place", "other"]) (GS : FnOk P W0 K mg base CX0 1 fS dS ["place", "other"] (spSteps K)) : FnOk P W0 K mg base CX0 2 f fd ["runs", "done", "place"] (spNext2 K) := by
  obtain ⟨tf, mF⟩ := O.fwd
  obtain ⟨tb, mB⟩ := O.back
  refine F.ok scNext2 (fun vs H Q E h => ?_) (fun cdv A outer s H vs Q E hr h => ?_)
  · obtain ⟨rb, ys, dv, pv', L, done, p, rfl, _⟩ := h
    rfl
  · obtain ⟨rb, ys, dv, pv', L, done, p, rfl, hb, hI, hL, hd, hdv, hpv, q⟩ := h
    refine ⟨_, pss_cons (ps_set (i := 3) scNext2.nd rfl (.inl rfl) (pe_lst pa_nil))
      (pss_cons (ps_for PassesOwn.never rfl (pi_range1 (by rfl) T.range (pa_cons (pe_callB call_len_seq (by rfl) T.len PySem.boot_len (pa_cons (pv 0) pa_nil)) pa_nil)) (pg_name (i := 4) scNext2.nd rfl (.inl rfl))
        (pss_one (ps_for PassesOwn.never rfl (pi_tup (pe_tup (pa_cons (pe_glob (v := .int 0) rfl mF ⟨_, rfl⟩) (pa_cons (pe_glob (v := .int 1) rfl mB ⟨_, rfl⟩) pa_nil)))) (pg_name (i := 5) scNext2.nd rfl (.inl rfl))
          (pss_one (ps_if (pt_cmpR (r := rIn K true) op_notIn_seq (pv 4) (pv 1) (by rfl))
            (pss_cons (ps_asg (pe_call GE hr (by rfl) NE.m NE.kp NE.b .nil pass0 (pa_cons (pe_ix (r := rIxL K) ix_list (pv 0) (pv 4) (fun _ _ => rfl)) (pa_cons (pv 5) pa_nil))) (pg_tup rfl (pgs_cons (pg_name (i := 6) scNext2.nd rfl (.inl rfl)) (pgs_cons (pg_name (i := 7) scNext2.nd rfl (.inl rfl)) pgs_nil))))
            (pss_one (ps_expr (pe_bm PySem.F.plainAttrs_list PySem.F.slot_list_append PySem.F.type_list_append mt_append (pv 3) (pa_cons (pe_tup
              (pa_cons (pe_tup (pa_cons (pv 4) (pa_cons (pv 5) pa_nil)))
              (pa_cons (pe_call GS hr (by rfl) NS.m NS.kp NS.b .nil pass0 (pa_cons (pv 2) (pa_cons (pv 6) pa_nil)))
              (pa_cons (pe_callTy call_tuple_of (by rfl) T.tuple (by decide +kernel) (pa_cons (pe_callB GSort.cr_sortedT (by rfl) T.sorted (by decide +kernel) (pa_cons (pe_op op_catA (pv 1) (pe_tup (pa_cons (pv 4) pa_nil))) pa_nil)) pa_nil))
              (pa_cons (pv 7) pa_nil))))) pa_nil)))))
            pss_nil)))))
      (pss_one (ps_ret (pv 3)))), ?_⟩
    obtain ⟨da, rfl, hda⟩ := of_iT hdv
    obtain ⟨pa, rfl, hpa⟩ := of_pD hpv
    have hyl := hI.length
    refine ⟨Nat.zero_le _, fun D hD => ?_⟩
    refine nameI (i := 3) (v := .ref D) (σ := [some (.ref rb), some (.ref da), some (.ref pa), none, none, none, none, none]) ?_
    have kD : Kp [] H (upd H D (.lst [])) := Kp.new hD
    refine ⟨_, rfl, rb, _, rfl, .inl (SqL.of (kD.lst hb List.not_mem_nil)), (ys.length : Int), rfl, by omega, by omega, for_range (lo := 0) (n := ys.length) (fun i σ H' => Kp [] H H' ∧ (∃ o4 o5 o6 o7, σ = [some (.ref rb), some (.ref da), some (.ref pa), some (.ref D), o4, o5, o6, o7]) ∧ ∃ acc, H' D = some (.lst acc) ∧ DpAll K H' acc (((List.range i).flatMap (nx1 done)).map (nxD L done p)))
      ⟨kD, ⟨_, _, _, _, rfl⟩, [], upd_same, .nil⟩ (fun i σ H' hi pv => ?_) (fun σ H' pv => ?_)⟩
    rotate_left
    · obtain ⟨k, ⟨o4, o5, o6, o7, rfl⟩, acc, hA, hd'⟩ := pv
      rw [hyl] at hd'
      exact ⟨_, rfl, q H' D acc k hD hA hd'⟩
    · obtain ⟨k, ⟨o4, o5, o6, o7, rfl⟩, acc, hA, hAi⟩ := pv
      rw [Int.zero_add]
      refine ⟨(by show 2 ≤ sizeLine; decide), fun t ht => ⟨t, rfl, ⟨_, SqT.of upd_same⟩, ?_⟩⟩
      have kt : Kp [] H' (upd H' t (.tup [.int 0, .int 1])) := Kp.new ht
      refine for_tup (xs := [V.int 0, V.int 1]) (fun j σ H3 => Kp [] H H3 ∧ SqT K H3 t [.int 0, .int 1] ∧ (∃ o5 o6 o7, σ = [some (.ref rb), some (.ref da), some (.ref pa), some (.ref D), some (.int (i : Int)), o5, o6, o7]) ∧ ∃ acc, H3 D = some (.lst acc) ∧ DpAll K H3 acc (((List.range i).flatMap (nx1 done) ++ (nx1 done i).take j).map (nxD L done p)))
        ⟨k.trans kt, SqT.of upd_same, ⟨_, _, _, rfl⟩, acc, kt.lst hA List.not_mem_nil, by rw [List.take_zero, List.append_nil]; exact dps_keep kt (noLs_map (noL_nx _ _ _) _) hAi⟩ (fun j σ H3 _ pv => pv.2.1) (fun j x σ H3 hx pv => ?_) (fun σ H3 pv => ?_)
      rotate_left
      · obtain ⟨k3, _, ⟨o5, o6, o7, rfl⟩, acc3, hA3, hAi3⟩ := pv
        refine ⟨k3, ⟨_, _, _, _, rfl⟩, acc3, hA3, ?_⟩
        rw [nx_succ]
        rw [show ([V.int 0, V.int 1] : List V).length = 2 from rfl, List.take_of_length_le (nx1_le _ _)] at hAi3
        exact hAi3
      · obtain ⟨k3, ht3, ⟨o5, o6, o7, rfl⟩, acc3, hA3, hAi3⟩ := pv
        have hj : j < 2 := (List.getElem?_eq_some_iff.mp hx).1
        have hxe : x = .int (j : Int) := by
          rcases (show j = 0 ∨ j = 1 by omega) with rfl | rfl
          · exact (Option.some.inj hx).symm
          · exact (Option.some.inj hx).symm
        subst hxe
        refine ⟨_, rfl, _, rfl, da, _, rfl, .inr (k3.sqT hda), rfl, flat_ints _, _, rfl, ?_⟩
        rw [if_pos rfl, inV_ints]
        by_cases hm : (i : Int) ∈ done
        · refine iteF' (by rw [decide_eq_true hm]; rfl) ⟨k3, ht3, ⟨_, _, _, rfl⟩, acc3, hA3, ?_⟩
          have e0 : nx1 done i = [] := by unfold nx1; rw [if_pos hm]
          rw [e0] at hAi3 ⊢
          simpa using hAi3
        · refine iteT' (by rw [decide_eq_false hm]; rfl) ?_
          have hI3 := items_mono k3 hI
          obtain ⟨pc, cc, ey, ec, hc⟩ := Items.at hI3 (show i < L.length by omega)
          refine ⟨_, rfl, _, rfl, rb, ys, _, _, rfl, rfl, SqL.of (k3.lst hb List.not_mem_nil), atI_nat ey, _, rfl, _, cc, (j : Int), rfl, dp_c hc, fun H4 u a b k4 hu ha hb' => ?_⟩
          refine ⟨u, _, rfl, hu, rfl, _, _, rfl, _, _, rfl, rfl, ?_⟩
          have eg : L.getD i (0, 0, 0) = cc := by rw [List.getD_eq_getElem?_getD, ec]; rfl
          have hA4 := k4.lst hA3 List.not_mem_nil
          refine ⟨_, rfl, .inl ⟨rfl, _, SqL.of hA4⟩, ?_⟩
          refine ⟨_, rfl, _, rfl, (by show 2 ≤ sizeLine; decide), fun t1 h1 => ?_⟩
          have k5 : Kp [] H4 (upd H4 t1 (.tup [.int (i : Int), .int (j : Int)])) := Kp.new h1
          have e5 : SqT K (upd H4 t1 (.tup [.int (i : Int), .int (j : Int)])) t1 [.int (i : Int), .int (j : Int)] := SqT.of upd_same
          generalize upd H4 t1 (.tup [.int (i : Int), .int (j : Int)]) = H5 at k5 e5 ⊢
          have k05 := (k3.trans k4).trans k5
          refine ⟨_, rfl, _, rfl, .ref pa, .ref a, p, (endsI cc (j : Int)).1, rfl, dp_p (k05.sqT hpa), dp_p (k5.sqT ha), ?_⟩
          refine ⟨_, rfl, _, rfl, (by show 1 ≤ sizeLine; decide), fun t2 ht2 => ?_⟩
          have k6 : Kp [] H5 (upd H5 t2 (.tup [.int (i : Int)])) := Kp.new ht2
          have e6 : SqT K (upd H5 t2 (.tup [.int (i : Int)])) t2 [.int (i : Int)] := SqT.of upd_same
          generalize upd H5 t2 (.tup [.int (i : Int)]) = H6 at k6 e6 ⊢
          refine catA ((k05.trans k6).sqT hda) e6 (Nat.le_of_lt (small_size (by rw [List.length_map]; show done.length + 1 ≤ _; omega))) fun H7 t3 k7 hct => ?_
          refine ⟨t3, done ++ [(i : Int)], rfl, by rw [List.map_append]; exact hct, fun ns' t4 pm so ht4 => ?_⟩
          have es := srt_eq pm so
          subst es
          have k8 : Kp [] H7 (upd H7 t4 (.lst ((srt (done ++ [(i : Int)])).map V.int))) := Kp.new ht4
          have e8 : upd H7 t4 (.lst ((srt (done ++ [(i : Int)])).map V.int)) t4 = some (.lst ((srt (done ++ [(i : Int)])).map V.int)) := upd_same
          generalize upd H7 t4 (.lst ((srt (done ++ [(i : Int)])).map V.int)) = H8 at k8 e8 ⊢
          refine ⟨t4, _, rfl, .inl ⟨SqL.of e8, fun t5 ht5 => ?_⟩⟩
          have k9 : Kp [] H8 (upd H8 t5 (.tup ((srt (done ++ [(i : Int)])).map V.int))) := Kp.new ht5
          have e9 : SqT K (upd H8 t5 (.tup ((srt (done ++ [(i : Int)])).map V.int))) t5 ((srt (done ++ [(i : Int)])).map V.int) := SqT.of upd_same
          generalize upd H8 t5 (.tup ((srt (done ++ [(i : Int)])).map V.int)) = H9 at k9 e9 ⊢
          have k69 := ((k6.trans k7).trans k8).trans k9
          have k49 := k5.trans k69
          refine ⟨_, rfl, (by show 4 ≤ sizeLine; decide), fun t6 ht6 => ?_⟩
          generalize hst : stepsI p (endsI cc (j : Int)).1 = wy at ht6 ⊢
          have k10 : Kp [] H9 (upd H9 t6 (.tup [.ref t1, .int wy, .ref t5, .ref b])) := Kp.new ht6
          have e10 : SqT K (upd H9 t6 (.tup [.ref t1, .int wy, .ref t5, .ref b])) t6 [.ref t1, .int wy, .ref t5, .ref b] := SqT.of upd_same
          generalize upd H9 t6 (.tup [.ref t1, .int wy, .ref t5, .ref b]) = H10 at k10 e10 ⊢
          have k410 := k49.trans k10
          have hA10 := k410.lst hA4 List.not_mem_nil
          have kc : Kp [D] H10 (upd H10 D (.lst (acc3 ++ [.ref t6]))) := Kp.chg hA10 (List.mem_singleton.mpr rfl)
          have hal := hAi3.length
          rw [List.length_map, List.length_append, List.length_take] at hal
          have hnl := nx_le done i
          have hn1 := nx1_le done i
          have k310 := k4.trans k410
          refine ⟨D, _, _, rfl, rfl, hA10, small_size (by omega), (k3.trans k310).chg0 hD hA10, kc.sqT (k310.sqT ht3), ⟨_, _, _, rfl⟩, _, upd_same, ?_⟩
          have e0 : (nx1 done i)[j]? = some (i, (j : Int)) := by
            unfold nx1
            rw [if_neg hm]
            rcases (show j = 0 ∨ j = 1 by omega) with rfl | rfl <;> rfl
          rw [List.take_add_one, e0, ← List.append_assoc, List.map_append]
          refine dps_append (dps_keep kc (noLs_map (noL_nx _ _ _) _) (dps_keep k310 (noLs_map (noL_nx _ _ _) _) hAi3)) (dps_one (dp_keep kc (noL_nx _ _ _ _) ?_))
          unfold nxD
          simp only
          rw [eg, hst]
          exact .tup e10 (.cons (dp_keep (k69.trans k10) (noL_p _) (dp_p (p := ((i : Int), (j : Int))) e5)) (.cons (.int _) (.cons (dp_keep k10 (noL_iT _) (dp_iT e9)) (.cons (dp_keep k410 (noL_p _) (dp_p hb')) .nil))))
theorem of_nx {H : Hp} {v : V} {L : List C3} {done : List Int} {p : Int × Int} {q : Nat × Int} (h : Dp K H v (nxD L done p q)) : ∃ a s d e, v = .ref a ∧ SqT K H a [.ref s, .int (stepsI p (endsI (L.getD q.1 (0, 0, 0)) q.2).1), .ref d, .ref e] ∧
    Dp K H (.ref s) (pD ((q.1 : Int), q.2)) ∧ Dp K H (.ref d) (iT (srt (done ++ [(q.1 : Int)]))) ∧ Dp K H (.ref e) (pD (endsI (L.getD q.1 (0, 0, 0)) q.2).2) := by
  unfold nxD at h
  cases h with
  | tup hs ha =>
    cases ha with
    | cons h1 ha =>
      cases ha with
      | cons h2 ha =>
        cases ha with
        | cons h3 ha =>
          cases ha with
          | cons h4 ha =>
            cases ha
            have e2 := of_dpi h2
            subst e2
            obtain ⟨a1, rfl, _⟩ := of_pD h1
            obtain ⟨a3, rfl, _⟩ := of_iT h3
            obtain ⟨a4, rfl, _⟩ := of_pD h4
            exact ⟨_, _, _, _, rfl, hs, h1, h3, h4⟩
theorem cand_nx (L : List C3) (done : List Int) (p : Int × Int) (rec : List Int → Int × Int → AO) : cand L done p rec = (nxs L done).map fun q => one L done p rec q.1 q.2 := by
  unfold cand nxs
  rw [List.map_flatMap]
  congr 1
  funext n
  unfold cand1 nx1
  split <;> rfl
theorem mem_nxs {L : List C3} {done : List Int} {q : Nat × Int} (h : q ∈ nxs L done) : q.1 < L.length ∧ (q.1 : Int) ∉ done := by
  unfold nxs at h
  obtain ⟨n, hn, hq⟩ := List.mem_flatMap.mp h
  unfold nx1 at hq
  split at hq
  · cases hq
  · rename_i hm
    have hn := List.mem_range.mp hn
    rcases List.mem_cons.mp hq with e | hq
    · subst e; exact ⟨hn, hm⟩
    · rw [List.mem_singleton.mp hq]; exact ⟨hn, hm⟩
end
end LP
end

section
set_option Elab.async false
set_option linter.all false
set_option maxRecDepth 100000
set_option maxHeartbeats 4000000
/-! _best_rest -/
namespace LP
open PySem PySem.Spec PyProof.Rows L2 Ly GY
section
variable [LamTab] {P : Program} {W0 : World} {K : PySem.W.Frag} {mg : Str → Option Value} {base : Heap}
def spRest (P : Program) (W0 : World) (K : PySem.W.Frag) (n : Nat) : Sp := fun vs H Q _ => ∃ (la dk : Addr) (dv pv : V) (at_ : Nat) (done : List Int) (p : Int × Int) (Ls : List (List C3)) (kvs : List (NestedKey × V)), vs = [.ref la, .int (at_ : Int), dv, pv, .ref dk] ∧
  LayersAt K H la Ls ∧ Rm Ls ∧ RS P W0 K H dk Ls kvs ∧ inPl p = true ∧ ((Ls.length = at_ ∧ done = []) ∨ Lg Ls at_ done p) ∧ Dp K H dv (iT done) ∧ Dp K H pv (pD p) ∧ meas Ls at_ - done.length < n ∧
  ∀ (H' : Hp) (v : V) (kvs' : List (NestedKey × V)), Kp [dk] H H' → RS P W0 K H' dk Ls kvs' → Dp K H' v (aoD (best Ls at_ done p)) → Q v H'
theorem RS.monoS {S : List Addr} {H H' : Hp} {dk : Addr} {Ls : List (List C3)} {kvs : List (NestedKey × V)} (r : RS P W0 K H dk Ls kvs) (k : Kp S H H') (n : dk ∉ S) : RS P W0 K H' dk Ls kvs :=
  ⟨dn_mono k n r.dn, r.nd, fun x v h => by
    obtain ⟨a, d, p, g, e, q⟩ := r.ok x v h
    exact ⟨a, d, p, g, e, dp_keep k (noL_ao _) q⟩⟩
theorem keyD_B {H : Hp} {t da pa : Addr} {at_ : Nat} {done : List Int} {p : Int × Int} (h : SqT K H t [.int (at_ : Int), .ref da, .ref pa]) (hd : Dp K H (.ref da) (iT done)) (hp : Dp K H (.ref pa) (pD p)) : GD.KeyD K H (.ref t) (kB at_ done p) :=
  ⟨by rw [kB_data]; exact .tup h (.cons (.int _) (.cons hd (.cons hp .nil))), kB_depth _ _ _, _, rfl⟩
theorem cand_split (L : List C3) (done : List Int) (p : Int × Int) (rec : List Int → Int × Int → AO) (n : Nat) : (List.range (n + 1)).flatMap (cand1 L done p rec) = (List.range n).flatMap (cand1 L done p rec) ++ cand1 L done p rec n := by
  rw [List.range_succ, List.flatMap_append, List.flatMap_cons, List.flatMap_nil, List.append_nil]
theorem cand1_le (L : List C3) (done : List Int) (p : Int × Int) (rec : List Int → Int × Int → AO) (n : Nat) : (cand1 L done p rec n).length ≤ 2 := by
  unfold cand1
  split
  · exact Nat.zero_le _
  · exact Nat.le_refl _
theorem candn_le (L : List C3) (done : List Int) (p : Int × Int) (rec : List Int → Int × Int → AO) : ∀ n, ((List.range n).flatMap (cand1 L done p rec)).length ≤ 2 * n
  | 0 => by simp
  | n + 1 => by
    have h1 := candn_le L done p rec n
    have h2 := cand1_le L done p rec n
    rw [cand_split, List.length_append]
    omega
theorem val_map {k : NestedKey} {v : V} : ∀ {kvs : List (NestedKey × V)}, (GD.valN kvs k).isSome = true → GD.valN (kvs.map fun p => if p.1 = k then (p.1, v) else p) k = some v
  | [], h => by simp [GD.valN] at h
  | q :: kvs, h => by
    unfold GD.valN at h ⊢
    rw [List.map_cons, List.find?_cons]
    rw [List.find?_cons] at h
    by_cases e : q.1 = k
    · simp [e]
    · simp only [e, decide_false] at h
      simp only [e, if_false, decide_false]
      exact val_map (kvs := kvs) h
/-- one more is known, or the same again -/
theorem RS.put2 {H H' : Hp} {dk : Addr} {Ls : List (List C3)} {kvs : List (NestedKey × V)} {at_ : Nat} {done : List Int} {p : Int × Int} {v : V} (r : RS P W0 K H dk Ls kvs) (g : Lg Ls at_ done p) (hv : Dp K H v (aoD (best Ls at_ done p)))
    (c : GD.Chg H H' dk) (d : GD.DN K P W0 H' dk (GD.putN kvs (kB at_ done p) v)) : RS P W0 K H' dk Ls (GD.putN kvs (kB at_ done p) v) ∧ GD.valN (GD.putN kvs (kB at_ done p) v) (kB at_ done p) = some v := by
  cases n : (GD.valN kvs (kB at_ done p)).isSome with
  | false => exact r.put g n hv c d
  | true =>
    have e : GD.putN kvs (kB at_ done p) v = kvs.map fun q => if q.1 = kB at_ done p then (q.1, v) else q := by unfold GD.putN; rw [if_pos n]
    have kc : Kp [dk] H H' := Kp.chgN c (List.mem_singleton.mpr rfl)
    refine ⟨⟨d, ?_, fun k w h => ?_⟩, by rw [e]; exact val_map n⟩
    · rw [e, List.map_map]
      have : ((fun q : NestedKey × V => q.1) ∘ fun q => if q.1 = kB at_ done p then (q.1, v) else q) = fun q => q.1 := by
        funext q
        show (if q.1 = kB at_ done p then (q.1, v) else q).1 = q.1
        split <;> rfl
      rw [this]
      exact r.nd
    · rw [e] at h
      obtain ⟨q, hq, e1⟩ := List.mem_map.mp h
      by_cases z : q.1 = kB at_ done p
      · rw [if_pos z] at e1
        injection e1 with h1 h2
        rw [← h2, ← h1]
        exact ⟨at_, done, p, g, z, dp_keep kc (noL_ao _) hv⟩
      · rw [if_neg z] at e1
        obtain ⟨a, d', q', g', e', x⟩ := r.ok k w (by rw [← e1]; exact hq)
        exact ⟨a, d', q', g', e', dp_keep kc (noL_ao _) x⟩
end
end LP
end

section
set_option Elab.async false
set_option linter.all false
set_option maxRecDepth 100000
set_option maxHeartbeats 4000000
/-! keys of what is done and a place; how many there are -/
namespace LP
open PySem PySem.Spec PyProof.Rows L2 Ly GY
section
variable [LamTab] {P : Program} {W0 : World} {K : PySem.W.Frag} {mg : Str → Option Value} {base : Heap}
def kL (done : List Int) (p : Int × Int) : NestedKey := .tup [.tup (done.map NestedKey.num), .tup [.num p.1, .num p.2]]
theorem kL_data (done : List Int) (p : Int × Int) : (kL done p).data = .tuple [iT done, pD p] := by
  simp [kL, NestedKey.data, NestedKey.datas, datas_num, iT, pD]
theorem kL_depth (done : List Int) (p : Int × Int) : (kL done p).depth ≤ 8 := by
  simp [kL, NestedKey.depth, NestedKey.depthAll, depth_nums]
theorem kL_inj {d d' : List Int} {p p' : Int × Int} (h : kL d p = kL d' p') : d = d' ∧ p = p' := by
  unfold kL at h
  injection h with h
  injection h with h2 h
  injection h with h3 h
  injection h2 with h2
  injection h3 with h3
  injection h3 with h4 h3
  injection h3 with h5 h3
  injection h4 with h4
  injection h5 with h5
  exact ⟨num_map_inj h2, Prod.ext h4 h5⟩
theorem keyD_L {H : Hp} {t da pa : Addr} {done : List Int} {p : Int × Int} (h : SqT K H t [.ref da, .ref pa]) (hd : Dp K H (.ref da) (iT done)) (hp : Dp K H (.ref pa) (pD p)) : GD.KeyD K H (.ref t) (kL done p) :=
  ⟨by rw [kL_data]; exact .tup h (.cons hd (.cons hp .nil)), kL_depth _ _, _, rfl⟩
def UL : List NestedKey := (sbs 8).flatMap fun d => (List.range 4).flatMap fun (x : Nat) => (List.range 4).map fun (y : Nat) => kL d ((x : Int), (y : Int))
theorem UL_len : UL.length = 4096 := by
  unfold UL
  rw [flat_len (n := 16) fun d => by
    rw [flat_len (n := 4) fun x => by rw [List.length_map, List.length_range]]
    rfl]
  rw [sbs_len]
theorem mem_UL {L : List C3} {done : List Int} {p : Int × Int} (r : Rm [L]) (g : Lg [L] 0 done p) : kL done p ∈ UL := by
  obtain ⟨M, hM, h1, h2⟩ := g.ex
  have hm := r.le M (List.mem_of_getElem? hM)
  have hp := g.pl
  unfold inPl at hp
  rw [Bool.and_eq_true, btw_iff, btw_iff] at hp
  refine List.mem_flatMap.mpr ⟨done, mem_sbs 8 g.asc fun x hx => ⟨(h2 x hx).1, by have := (h2 x hx).2; omega⟩, List.mem_flatMap.mpr ⟨p.1.toNat, List.mem_range.mpr (by omega), List.mem_map.mpr ⟨p.2.toNat, List.mem_range.mpr (by omega), ?_⟩⟩⟩
  rw [show ((p.1.toNat : Nat) : Int) = p.1 by omega, show ((p.2.toNat : Nat) : Int) = p.2 by omega]
end
end LP
end

section
set_option Elab.async false
set_option linter.all false
set_option maxRecDepth 100000
set_option maxHeartbeats 4000000
/-! answers: a number and a list of pairs that stands apart -/
namespace LP
open PySem PySem.Spec PyProof.Rows L2 Ly GY
section
variable [LamTab] {P : Program} {W0 : World} {K : PySem.W.Frag} {mg : Str → Option Value} {base : Heap}
/-- at v stands an answer whose list stands apart from av -/
def AtL (K : PySem.W.Frag) (H : Hp) (av : List Addr) (v : V) (a : AO) : Prop := ∃ r b zs, v = .ref r ∧ SqT K H r [.int a.1, .ref b] ∧ H b = some (.lst zs) ∧ DpAll K H zs (a.2.items.map pD) ∧ b ∉ av
theorem AtL.mono {S av : List Addr} {H H' : Hp} {v : V} {a : AO} (x : AtL K H av v a) (k : Kp S H H') (n : ∀ b zs, H b = some (.lst zs) → b ∉ av → b ∉ S) : AtL K H' av v a := by
  obtain ⟨r, b, zs, e, h1, h2, h3, h4⟩ := x
  exact ⟨r, b, zs, e, k.sqT h1, k.lst h2 (n b zs h2 h4), dps_keep k (noLs_map noL_p _) h3, h4⟩
theorem AtL.mono0 {av : List Addr} {H H' : Hp} {v : V} {a : AO} (x : AtL K H av v a) (k : Kp [] H H') : AtL K H' av v a := x.mono k fun _ _ _ _ => List.not_mem_nil
theorem AtL.less {av aw : List Addr} {H : Hp} {v : V} {a : AO} (x : AtL K H av v a) (s : ∀ b, b ∈ aw → b ∈ av) : AtL K H aw v a := by
  obtain ⟨r, b, zs, e, h1, h2, h3, h4⟩ := x
  exact ⟨r, b, zs, e, h1, h2, h3, fun m => h4 (s b m)⟩
theorem flat_filter {α : Type} (keep : Nat → Bool) (f : Nat → List α) : ∀ l : List Nat, (l.filter keep).flatMap f = l.flatMap fun n => if keep n = true then f n else []
  | [] => rfl
  | n :: l => by
    rw [List.filter_cons, List.flatMap_cons, ← flat_filter keep f l]
    split
    · rw [List.flatMap_cons]
    · rfl
/-- answers, one by one -/
def CA (K : PySem.W.Frag) (H : Hp) (av : List Addr) : List V → List AO → Prop := fun vs as => Paired (fun v a => AtL K H av v a) vs as
theorem CA.mono {S av : List Addr} {H H' : Hp} (k : Kp S H H') (n : ∀ b zs, H b = some (.lst zs) → b ∉ av → b ∉ S) : ∀ {vs : List V} {as : List AO}, CA K H av vs as → CA K H' av vs as
  | _, _, .nil => .nil
  | _, _, .cons x t => .cons (x.mono k n) (CA.mono k n t)
theorem CA.snoc {av : List Addr} {H : Hp} {v : V} {a : AO} (x : AtL K H av v a) : ∀ {vs : List V} {as : List AO}, CA K H av vs as → CA K H av (vs ++ [v]) (as ++ [a])
  | _, _, .nil => .cons x .nil
  | _, _, .cons y t => .cons y (CA.snoc x t)
theorem CA.length {av : List Addr} {H : Hp} : ∀ {vs : List V} {as : List AO}, CA K H av vs as → vs.length = as.length
  | _, _, .nil => rfl
  | _, _, .cons _ t => by rw [List.length_cons, List.length_cons, CA.length t]
theorem CA.at {av : List Addr} {H : Hp} : ∀ {vs : List V} {as : List AO} {i : Nat} {v : V}, CA K H av vs as → vs[i]? = some v → ∃ a, as[i]? = some a ∧ AtL K H av v a
  | _, _, 0, _, .cons x _, h => ⟨_, rfl, by rw [← Option.some.inj h]; exact x⟩
  | _, _, i + 1, _, .cons _ t, h => CA.at (i := i) t h
theorem AtL.dp {av : List Addr} {H : Hp} {v : V} {a : AO} (x : AtL K H av v a) : Dp K H v (PySem.W.Datum.toD (ofAO a)) := by
  obtain ⟨r, b, zs, rfl, h1, h2, h3, _⟩ := x
  exact .tup h1 (.cons (.int _) (.cons (.lst (SqL.of h2) h3) .nil))
theorem CA.dps {av : List Addr} {H : Hp} : ∀ {vs : List V} {as : List AO}, CA K H av vs as → DpAll K H vs ((as.map ofAO).map PySem.W.Datum.toD)
  | _, _, .nil => .nil
  | _, _, .cons x t => .cons x.dp (CA.dps t)
theorem AtL.up {av : List Addr} {H H' : Hp} {D : Addr} {v : V} {a : AO} (x : AtL K H av v a) (n : H D = none) (k : Kp [] H H') : AtL K H' (D :: av) v a := by
  obtain ⟨r, b, zs, e, h1, h2, h3, h4⟩ := x
  refine ⟨r, b, zs, e, k.sqT h1, k.lst h2 List.not_mem_nil, dps_keep k (noLs_map noL_p _) h3, fun m => ?_⟩
  rcases List.mem_cons.mp m with z | z
  · rw [z, n] at h2; cases h2
  · exact h4 z
end
end LP
end

section
set_option Elab.async false
set_option linter.all false
set_option maxRecDepth 100000
set_option maxHeartbeats 2000000
/-! The keys of a dict whose keys are tuples, one after another. -/
namespace GD
open PySem PySem.Spec PyProof.Rows L2
/-- the dict's own object, its entries -/
def Pin (P : Program) (w : World) (a : Addr) (o : Obj) (L : List Row) (h : Heap) : Prop := h.get? a = some o ∧ Dn0 P w h a L
theorem pin_ok {P : Program} {w : World} {H : Hp} {h : Heap} {a : Addr} {o : Obj} {L : List Row} (x : Pin P w a o L h) : ObjOk P w H h a (.ext (Pin P w a o L)) := by
  refine ⟨x, ⟨o, x.1⟩, fun h1 h2 q k => ?_⟩
  obtain ⟨e0, y, z, xs, r, o', es, ep, e, c⟩ := q
  exact ⟨k o e0, y, z, xs, r, o', es, ep, k o' e, c⟩
theorem pin_code {P : Program} {w : World} {h : Heap} {a : Addr} {o : Obj} {L : List Row} (x : Pin P w a o L h) : ∀ q, HO.ext (Pin P w a o L) ≠ LamX.CodeO a q := by
  intro q e
  have f : Pin P w a o L = fun h => ∃ (oc : Obj) (vs : Array Value) (t : Tok), h.get? a = some oc ∧ oc.data = .fields vs ∧ vs[1]? = some (.str q t) := by
    unfold LamX.CodeO at e
    exact HO.ext.inj e
  have g := congrFun f h
  rw [eq_iff_iff] at g
  obtain ⟨oc, vs, t, e1, e2, _⟩ := g.mp x
  obtain ⟨_, _, _, xs, _, o', es, ep, e3, _, e4, _⟩ := x
  rw [e1] at e3
  cases e3
  rw [e2] at e4
  cases e4
/-- the dict at a, of which nothing changes while its keys are told -/
structure Pinned (K : PySem.W.Frag) (P : Program) (w : World) (H : Hp) (a : Addr) (o : Obj) (L : List Row) (kvs : List (NestedKey × V)) : Prop where
  at_ : H a = some (.ext (Pin P w a o L))
  ek : (L.map fun p => (p.1, p.2.2)) = kvs
  keys : ∀ p ∈ L, KeyD K H (.ref p.2.1) p.1
  nc : ∀ q, H a ≠ some (LamX.CodeO a q)
theorem Pinned.dn {K : PySem.W.Frag} {P : Program} {w : World} {H : Hp} {a : Addr} {o : Obj} {L : List Row} {kvs : List (NestedKey × V)} (p : Pinned K P w H a o L kvs) : DN K P w H a kvs := ⟨_, L, p.at_, fun _ x => x.2, p.ek, p.keys, p.nc⟩
def Itn (K : PySem.W.Frag) (P : Program) (w : World) (a : Addr) (o : Obj) (L : List Row) (kvs : List (NestedKey × V)) : It :=
  ⟨fun i H => Pinned K P w H a o L kvs ∧ i < kvs.length, fun i H x H' => H' = H ∧ ∃ k v, kvs[i]? = some (k, v) ∧ KeyD K H x k, fun i H => Pinned K P w H a o L kvs ∧ kvs.length ≤ i⟩
theorem entry_is {P : Program} {w : World} {es : Array DictEntry} {xs : List RowV} (h : es.toList = xs.map (entryOfKey (kn P w))) {i : Nat} {x : RowV} (hx : xs[i]? = some x) : ∃ en, es[i]? = some en ∧ en.key = .ref x.2.1 := by
  refine ⟨entryOfKey (kn P w) x, ?_, rfl⟩
  rw [← Array.getElem?_toList, h, List.getElem?_map, hx]
  rfl
theorem turn_keysN {P : Program} {w : World} {K : PySem.W.Frag} {tg : Expr} {a : Addr} {o : Obj} {es : Array DictEntry} {ep : Nat} {L : List Row} {kvs : List (NestedKey × V)} (it : Addr) (hod : o.data = .dict es ep) :
    Turn P w K tg (Itn K P w a o L kvs) [it] it (fun i h => h.IsKeyIter it a i kvs.length ep) where
  mem := by simp
  obj := fun i h st b hb => by
    have e : b = it := by simpa using hb
    subst e
    obtain ⟨oi, e, c, dd⟩ := st
    exact ⟨oi, e, fun v z => by rw [dd] at z; cases z⟩
  keep := fun i h h' st k => st.at fun oi e => k it (by simp) oi e
  item := by
    intro X hP hw hK hc i pins s σ H E I hf st hg
    subst hP hw hK
    obtain ⟨hd, hi⟩ := hg
    obtain ⟨f0, f1, f2, f3, f4, f5⟩ := hf it (by simp)
    obtain ⟨⟨ho, y, z, xs, r, o', es', ep', h1, h2, h3, h4, h5⟩, _, _⟩ := I.hok a _ hd.at_
    rw [ho] at h1
    cases h1
    rw [hod] at h3
    cases h3
    have l1 := rows_len r
    have l2 : kvs.length = L.length := by rw [← hd.ek, List.length_map]
    have l3 : es.size = xs.length := by rw [← Array.length_toList, h4, List.length_map]
    have hLi : L[i]? = some (L[i]'(by omega)) := List.getElem?_eq_getElem (by omega)
    generalize L[i]'(by omega) = p at hLi
    obtain ⟨x, hx, hr⟩ := paired_get r hLi
    obtain ⟨en, hen, hkey⟩ := entry_is h4 hx
    have hkv : kvs[i]? = some (p.1, p.2.2) := by rw [← hd.ek, List.getElem?_map, hLi]; rfl
    refine next_key_item st ho hod (by omega) hen fun h' st' sb => ?_
    have I1 : Inv X pins σ H { s with heap := h' } := I.turned (t' := s.toks) (fun b ob hb e => (sb.2 b hb).trans e) f0 f1 f3 f4 f5
    obtain ⟨oi, e, c, dd⟩ := id st'
    refine ⟨en.key, rfl, go_of (s := { s with heap := h' }) e c dd (by decide) ⟨.ref p.2.1, H, I1, ?_, ⟨rfl, p.1, p.2.2, hkv, hd.keys p (List.mem_of_getElem? hLi)⟩, st', fun b hb => (hf b hb).1⟩⟩
    rw [hkey, hr.2.1]
    rfl
  done := by
    intro X hP hw hK hc i pins s σ H E I hf st hg
    subst hP hw hK
    obtain ⟨hd, hi⟩ := hg
    obtain ⟨f0, f1, f2, f3, f4, f5⟩ := hf it (by simp)
    obtain ⟨⟨ho, y, z, xs, r, o', es', ep', h1, h2, h3, h4, h5⟩, _, _⟩ := I.hok a _ hd.at_
    rw [ho] at h1
    cases h1
    rw [hod] at h3
    cases h3
    have l1 := rows_len r
    have l2 : kvs.length = L.length := by rw [← hd.ek, List.length_map]
    have l3 : es.size = xs.length := by rw [← Array.length_toList, h4, List.length_map]
    exact next_key_end (I.ok.hd hc) st ho hod (by omega) hi fun h' eb => ⟨rfl, I.turned (t' := s.toks) (fun b o hb e => eb b o hb e) f0 f1 f3 f4 f5⟩
  self := fun A i s Q E st h => wpAny_pyIter_keyiter st h
section
variable {X : Cx} {tg e : Expr} {td : TE}
def iKeysN (K : PySem.W.Frag) (P : Program) (w : World) (td : TE) : TI := fun σ H R => td σ H fun x H1 => ∃ a kvs, x = .ref a ∧ DN K P w H1 a kvs ∧ ∀ o L H2, Chg H1 H2 a → Pinned K P w H2 a o L kvs → R (Itn K P w a o L kvs) H2
theorem pi_keysN (he : PE X e td) : PI X tg e (iKeysN X.K X.prog X.w td) := by
  refine ⟨fun pins s σ H R I h => ?_⟩
  refine thn (he.run pins s σ H _ I h) fun u s1 ⟨x, H1, I1, rx, a, kvs, ex, d, q⟩ => ?_
  subst ex
  obtain rfl : u = Value.ref a := rx
  obtain ⟨φ, L, e0, hφ, ek, hk, nc⟩ := d
  obtain ⟨x0, _, _⟩ := I1.hok a _ e0
  have x1 := hφ _ x0
  obtain ⟨hs, z, xs, r, o, es, ep, h1, h2, h3, h4, h5⟩ := x1
  have pn : Pin X.prog X.w a o L s1.heap := ⟨h1, hs, z, xs, r, o, es, ep, h1, h2, h3, h4, h5⟩
  have c : Chg H1 (upd H1 a (.ext (Pin X.prog X.w a o L))) a := ⟨fun b n => upd_ne n, ⟨_, upd_same⟩, ⟨_, e0⟩, nc⟩
  have I2 : Inv X pins σ (upd H1 a (.ext (Pin X.prog X.w a o L))) s1 := d_write (h' := s1.heap) (t' := s1.toks) I1 (by rw [e0]; exact True.intro) ⟨rfl, fun _ _ => rfl⟩ ⟨o, h1⟩ (pin_ok pn)
  have pd : Pinned X.K X.prog X.w (upd H1 a (.ext (Pin X.prog X.w a o L))) a o L kvs := ⟨upd_same, ek, fun p hp => (hk p hp).chg c, fun q' z' => ?_⟩
  · have l1 := rows_len r
    have l2 : kvs.length = L.length := by rw [← ek, List.length_map]
    have l3 : es.size = xs.length := by rw [← Array.length_toList, h4, List.length_map]
    refine iter_keys hs h1 h2 h3 (pi_one (tk := s1.toks) I2 _ (turn_keysN _ h3) ⟨_, Heap.get?_push_size _ rfl, rfl, ?_⟩ (q o L _ c pd))
    rw [show kvs.length = es.size by omega] <;> rfl
  · rw [upd_same] at z'
    exact pin_code pn q' (Option.some.inj z')
/-! ### d.get(k, x) -/
variable {f : Expr} {tx ty : TE} {apos cpos : Pos}
def tGet2N (K : PySem.W.Frag) (P : Program) (w : World) (td ty tx : TE) : TE := fun σ H Q => td σ H fun x H1 => ∃ a kvs0, x = .ref a ∧ DN K P w H1 a kvs0 ∧ ty σ H1 fun y H2 => tx σ H2 fun z H3 => ∃ kvs k, DN K P w H3 a kvs ∧ KeyD K H3 y k ∧ Q ((valN kvs k).getD z) H3
theorem pe_get2N {o e : Expr} (hu : X.A.units + 64 < cLine) (ho : PE X o td) (he : PE X e ty) (hf : PE X f tx) (m : M2 X o "get" apos e f cpos) : PE X (.Call (.Attribute o "get" apos) [e, f] [] cpos) (tGet2N X.K X.prog X.w td ty tx) := by
  refine ⟨fun pins s σ H Q I h => ?_⟩
  refine wpAny_Call_method m.base m.few m.line PySem.F.plainAttrs_dict PySem.F.slot_dict_get PySem.F.type_dict_get (thn (ho.run pins s σ H _ I h) fun u s1 ⟨x, H1, I1, rx, a, kvs0, ex, d, q1⟩ => ?_)
  subst ex
  obtain rfl : u = Value.ref a := rx
  obtain ⟨L0, xs0, _, _, _, _, _, _, D0⟩ := d.full I1
  refine ⟨D0.typeIs, fun b q => ?_, ?_⟩
  · cases q
    obtain ⟨ob, _, _, h1, h2, _⟩ := D0
    exact ⟨ob, h1, h2.2.1⟩
  rw [m.trees]
  refine Calls.callWith_builtin rfl (Calls.evalArgs_plain (Calls.spliced_cons (thn (he.run pins s1 σ H1 _ I1 q1) fun iv s2 ⟨y, H2, I2, ry, q2⟩ =>
    Calls.spliced_cons (thn (hf.run pins s2 σ H2 _ I2 q2) fun fv s3 ⟨z, H3, I3, rz, kvs, k, d3, hk, q3⟩ => Calls.spliced_nil ?_))))
  obtain ⟨b, rfl⟩ := hk.ref
  obtain rfl : iv = Value.ref b := ry
  obtain ⟨L, xs, ⟨φ, e0⟩, ek, hks, hsm, zz, r, D⟩ := d3.full I3
  refine call_meetsIn PySem.F.slot_dict_get D.typeIs PySem.F.entry_dict_get (PySem.F.args_dict_get_3 _ _ _) (meetsH_dict_get_default (kn X.prog X.w) a b hsm fv) ⟨by show X.A.units + 1 + 8 < cLine; omega, k, xs, hk.is I3, D, ⟨(valN kvs k).getD z, H3, I3.tok _, ?_, q3⟩⟩
  rw [← ek]
  rcases rows_val (k := k) r with ⟨e1, e2⟩ | ⟨v', b', u', e1, e2, e3⟩
  · rw [e1, e2]
    exact rz
  · rw [e1, e2]
    exact e3
end
end GD
end

section
set_option Elab.async false
set_option linter.all false
set_option maxRecDepth 100000
set_option maxHeartbeats 2000000
/-! how many entries a dict with tuple keys has -/
namespace GD
open PySem PySem.Spec PyProof.Rows L2
variable {X : Cx}
def rLenN (K : PySem.W.Frag) (P : Program) (w : World) : List V → Hp → VK → Prop := fun xs H Q => ∃ (a : Addr) (kvs : List (NestedKey × V)), xs = [.ref a] ∧ DN K P w H a kvs ∧ Q (.int ((kvs.length : Nat) : Int)) H
theorem call_lenN : CallR X (.builtin "len") (rLenN X.K X.prog X.w) := by
  intro pins s σ H xs us Q I r h
  obtain ⟨a, kvs, rfl, d, q⟩ := h
  cases r with
  | cons r1 r2 =>
    cases r2
    cases r1
    obtain ⟨L, ys, _, ek, _, hd, hz, rel, dd⟩ := d.full I
    have hl : kvs.length = ys.length := by rw [← ek, List.length_map]; exact rows_len rel
    have hz2 : L.length = ys.length := rows_len rel
    refine call_len_dictH hd dd (by rw [sizeLine_eq] at hz; omega) ?_
    rw [← hl]
    exact ⟨.int ((kvs.length : Nat) : Int), H, I.tok _, ⟨_, rfl⟩, q⟩
end GD
end

section
set_option Elab.async false
set_option linter.all false
set_option maxRecDepth 100000
set_option maxHeartbeats 4000000
/-! walks and comprehensions over the keys of a dict, whatever each turn gives -/
namespace LP
open PySem PySem.Spec PyProof.Rows L2 Ly GY
section
variable [LamTab] {P : Program} {W0 : World} {K : PySem.W.Frag} {mg : Str → Option Value} {base : Heap}
theorem pin_keep {S : List Addr} {H H' : Hp} {a : Addr} {o : Obj} {L : List GD.Row} {kvs : List (NestedKey × V)} (k : Kp S H H') (n : a ∉ S) (p : GD.Pinned K P W0 H a o L kvs) : GD.Pinned K P W0 H' a o L kvs := by
  have e' := k.keep a _ p.at_ n fun ps z => by cases z
  exact ⟨e', p.ek, fun r hr => key_mono k (p.keys r hr), fun q z => p.nc q (by rw [p.at_, ← e', z])⟩
theorem walk_keysK {a : Addr} {o : Obj} {Lr : List GD.Row} {kvs : List (NestedKey × V)} : Walk (GD.Itn K P W0 a o Lr kvs) kvs.length (fun H => GD.Pinned K P W0 H a o Lr kvs) (fun i H x H' => H' = H ∧ ∃ k v, kvs[i]? = some (k, v) ∧ GD.KeyD K H x k) :=
  ⟨fun i H hi p => ⟨p, hi⟩, fun H p => ⟨p, Nat.le_refl _⟩, fun i H x H' _ p y => y⟩
theorem paired_snoc {α β : Type} {R : α → β → Prop} {x : α} {y : β} (h : R x y) : ∀ {xs : List α} {ys : List β}, Paired R xs ys → Paired R (xs ++ [x]) (ys ++ [y])
  | _, _, .nil => .cons h .nil
  | _, _, .cons a t => .cons a (paired_snoc h t)
theorem paired_imp {α β : Type} {R R' : α → β → Prop} (h : ∀ x y, R x y → R' x y) : ∀ {xs : List α} {ys : List β}, Paired R xs ys → Paired R' xs ys
  | _, _, .nil => .nil
  | _, _, .cons a t => .cons (h _ _ a) (paired_imp h t)
theorem paired_len {α β : Type} {R : α → β → Prop} : ∀ {xs : List α} {ys : List β}, Paired R xs ys → xs.length = ys.length
  | _, _, .nil => rfl
  | _, _, .cons _ t => by rw [List.length_cons, List.length_cons, paired_len t]
theorem paired_fst {α β : Type} {R : α → β → Prop} : ∀ {xs : List α} {ys : List β} {i : Nat} {x : α}, Paired R xs ys → xs[i]? = some x → ∃ y, ys[i]? = some y ∧ R x y
  | _, _, 0, _, .cons a _, h => ⟨_, rfl, by rw [← Option.some.inj h]; exact a⟩
  | _, _, i + 1, _, .cons _ t, h => paired_fst (i := i) t h
theorem val_at {kvs : List (NestedKey × V)} (nd : (kvs.map (·.1)).Nodup) {k : NestedKey} {v : V} (m : (k, v) ∈ kvs) : GD.valN kvs k = some v := by
  induction kvs with
  | nil => cases m
  | cons q kvs ih =>
    rw [List.map_cons, List.nodup_cons] at nd
    unfold GD.valN
    rw [List.find?_cons]
    rcases List.mem_cons.mp m with e | m
    · rw [← e]
      simp
    · have ne : ¬ q.1 = k := fun e => nd.1 (by rw [e]; exact List.mem_map.mpr ⟨(k, v), m, rfl⟩)
      rw [decide_eq_false ne]
      exact ih nd.2 m
/-- over the keys of a dict: what each gives, whatever it is -/
theorem lc_keysA {a D : Addr} {o : Obj} {L : List GD.Row} {kvs : List (NestedKey × V)} {H1 : Hp} {g : TG} {tt : TT} {te : TE} {vs : List Nat} {σ : L2.St} {Qd : Hp → Prop} (R : V → NestedKey × V → Hp → Prop) (mono : ∀ S H H' y kv, (∀ b ∈ S, b = D) → Kp S H H' → R y kv H → R y kv H') (hD : H1 D = none) (hn : kvs.length ≤ 100000) (hp : GD.Pinned K P W0 H1 a o L kvs)
    (hs : ∀ (i : Nat) (x : V) (k : NestedKey) (v : V) (H' : Hp) (Nx : V → Hp → Prop) (Z : Hp → Prop), kvs[i]? = some (k, v) → Kp [] H1 H' → GD.Pinned K P W0 H' a o L kvs → GD.KeyD K H' x k → (∀ H'' y, Kp [] H' H'' → R y (k, v) H'' → Nx y H'') →
      g x (wipe σ vs) H' fun σ2 H2 => wipe σ2 vs = wipe σ vs ∧ tt σ2 H2 fun b H3 => if b = true then te σ2 H3 Nx else Z H3)
    (hd : ∀ (H' : Hp) (ys : List V), Kp [] H1 H' → GD.Pinned K P W0 H' a o L kvs → H' D = some (.lst ys) → Paired (fun y kv => R y kv H') ys kvs → Qd H') :
    ∃ W : Nat → Nat → Hp → Prop, (∃ m, W 0 m (upd H1 D (.lst []))) ∧ ∀ i m H, W i m H →
      ((GD.Itn K P W0 a o L kvs).stop i H ∧ Qd H) ∨ ((GD.Itn K P W0 a o L kvs).go i H ∧ ∃ Nx : Hp → Prop, (∀ H', Nx H' → ∃ m', m' < m ∧ W (i + 1) m' H') ∧ ∀ x H', (GD.Itn K P W0 a o L kvs).yld i H x H' → g x (wipe σ vs) H' fun σ2 H2 => wipe σ2 vs = wipe σ vs ∧ tt σ2 H2 fun b H3 =>
        if b = true then te σ2 H3 fun y H4 => ∃ acc, H4 D = some (.lst acc) ∧ acc.length < sizeLine ∧ Nx (upd H4 D (.lst (acc ++ [y]))) else Nx H3) := by
  refine ⟨fun i m H' => m = kvs.length - i ∧ i ≤ kvs.length ∧ Kp [] H1 H' ∧ ∃ acc, H' D = some (.lst acc) ∧ Paired (fun y kv => R y kv H') acc (kvs.take i), ⟨kvs.length, by simp, Nat.zero_le _, Kp.new hD, [], upd_same, by rw [List.take_zero]; exact .nil⟩, ?_⟩
  rintro i m H' ⟨rfl, hi, k, acc, hA, hAi⟩
  have pd := pin_keep k List.not_mem_nil hp
  by_cases hlt : i < kvs.length
  · refine .inr ⟨⟨pd, hlt⟩, fun H'' => Kp [] H1 H'' ∧ ∃ acc, H'' D = some (.lst acc) ∧ Paired (fun y kv => R y kv H'') acc (kvs.take (i + 1)), fun H'' p' => ⟨kvs.length - (i + 1), by omega, rfl, hlt, p'⟩, fun x H2 y => ?_⟩
    obtain ⟨e, kk, v, hk, hx⟩ := y
    subst e
    refine hs i x kk v _ _ _ hk k pd hx fun H'' y k'' hy => ?_
    have hA2 := k''.lst hA List.not_mem_nil
    have hAl := paired_len hAi
    rw [List.length_take] at hAl
    have kc : Kp [D] H'' (upd H'' D (.lst (acc ++ [y]))) := Kp.chg hA2 (List.mem_singleton.mpr rfl)
    have mD : ∀ b ∈ [D], b = D := fun b hb => List.mem_singleton.mp hb
    refine ⟨acc, hA2, small_size (by omega), (k.trans k'').chg0 hD hA2, _, upd_same, ?_⟩
    rw [List.take_add_one, hk]
    exact paired_snoc (R := fun z kv => R z kv (upd H'' D (.lst (acc ++ [y])))) (mono _ _ _ _ _ mD kc hy) (paired_imp (fun y kv r => mono _ _ _ _ _ mD kc (mono [] _ _ _ _ (fun b hb => by cases hb) k'' r)) hAi)
  · have e : i = kvs.length := by omega
    subst e
    rw [List.take_length] at hAi
    exact .inl ⟨⟨pd, Nat.le_refl _⟩, hd H' acc k pd hA hAi⟩
end
end LP
end

section
set_option Elab.async false
set_option linter.all false
set_option maxRecDepth 100000
set_option maxHeartbeats 2000000
/-! the least of all orders is what the recursion tells -/
namespace Ly
/-! ### the order of answers -/
def ltL (a b : AL) : Bool := PySem.W.DatumOrd.lt a b
theorem ltP_eq (p q : Int × Int) : PySem.W.DatumOrd.lt p q = if p.1 = q.1 then decide (p.2 < q.2) else decide (p.1 < q.1) := rfl
theorem ltL_eq (a b : AL) : ltL a b = if a.1 = b.1 then PySem.W.listLt a.2 b.2 else decide (a.1 < b.1) := rfl
theorem ltP_irr (p : Int × Int) : PySem.W.DatumOrd.lt p p = false := by rw [ltP_eq, if_pos rfl]; simp
theorem ltP_tri {p q : Int × Int} (n : p ≠ q) : PySem.W.DatumOrd.lt p q = false → PySem.W.DatumOrd.lt q p = true := by
  rw [ltP_eq, ltP_eq]
  intro h
  by_cases e : p.1 = q.1
  · rw [if_pos e] at h
    rw [if_pos e.symm]
    have h2 : ¬ p.2 = q.2 := fun z => n (Prod.ext e z)
    simp at h ⊢
    omega
  · rw [if_neg e] at h
    rw [if_neg (fun z => e z.symm)]
    simp at h ⊢
    omega
theorem ltP_tr {p q r : Int × Int} : PySem.W.DatumOrd.lt p q = true → PySem.W.DatumOrd.lt q r = true → PySem.W.DatumOrd.lt p r = true := by
  rw [ltP_eq, ltP_eq, ltP_eq]
  intro h1 h2
  split at h1 <;> split at h2 <;> split <;> simp at * <;> omega
theorem ltS_anti : ∀ a b : List (Int × Int), PySem.W.listLt a b = false → PySem.W.listLt b a = false → a = b
  | [], [], _, _ => rfl
  | [], _ :: _, h, _ => by simp [PySem.W.listLt] at h
  | _ :: _, [], _, h => by simp [PySem.W.listLt] at h
  | x :: a, y :: b, h1, h2 => by
    unfold PySem.W.listLt at h1 h2
    by_cases e : x = y
    · rw [if_pos e] at h1
      rw [if_pos e.symm] at h2
      rw [e, ltS_anti a b h1 h2]
    · rw [if_neg e] at h1
      rw [if_neg (fun z => e z.symm)] at h2
      rw [ltP_tri e h1] at h2
      cases h2
theorem ltS_tr : ∀ a b c : List (Int × Int), PySem.W.listLt a b = true → PySem.W.listLt b c = true → PySem.W.listLt a c = true
  | [], [], _, h, _ => by simp [PySem.W.listLt] at h
  | [], _ :: _, [], _, h => by simp [PySem.W.listLt] at h
  | [], _ :: _, _ :: _, _, _ => by simp [PySem.W.listLt]
  | _ :: _, [], _, h, _ => by simp [PySem.W.listLt] at h
  | _ :: _, _ :: _, [], _, h => by simp [PySem.W.listLt] at h
  | x :: a, y :: b, z :: c, h1, h2 => by
    unfold PySem.W.listLt at h1 h2 ⊢
    by_cases e1 : x = y
    · rw [if_pos e1] at h1
      by_cases e2 : y = z
      · rw [if_pos e2] at h2
        rw [if_pos (e1.trans e2)]
        exact ltS_tr a b c h1 h2
      · rw [if_neg e2] at h2
        rw [if_neg (by rw [e1]; exact e2), e1]
        exact h2
    · rw [if_neg e1] at h1
      by_cases e2 : y = z
      · rw [if_neg (by rw [← e2]; exact e1), ← e2]
        exact h1
      · rw [if_neg e2] at h2
        have h3 := ltP_tr h1 h2
        rw [if_neg (fun e3 => by rw [e3, ltP_irr] at h3; cases h3)]
        exact h3
theorem ltL_anti {a b : AL} (h1 : ltL a b = false) (h2 : ltL b a = false) : a = b := by
  rw [ltL_eq] at h1 h2
  by_cases e : a.1 = b.1
  · rw [if_pos e] at h1
    rw [if_pos e.symm] at h2
    exact Prod.ext e (ltS_anti _ _ h1 h2)
  · rw [if_neg e] at h1
    rw [if_neg (fun z => e z.symm)] at h2
    simp at h1 h2
    omega
theorem ltL_tr {a b c : AL} (h1 : ltL a b = true) (h2 : ltL b c = true) : ltL a c = true := by
  rw [ltL_eq] at h1 h2 ⊢
  by_cases e1 : a.1 = b.1
  · rw [if_pos e1] at h1
    by_cases e2 : b.1 = c.1
    · rw [if_pos e2] at h2
      rw [if_pos (e1.trans e2)]
      exact ltS_tr _ _ _ h1 h2
    · rw [if_neg e2] at h2
      rw [if_neg (by rw [e1]; exact e2), e1]
      exact h2
  · rw [if_neg e1] at h1
    by_cases e2 : b.1 = c.1
    · rw [if_neg (by rw [← e2]; exact e1), ← e2]
      exact h1
    · rw [if_neg e2] at h2
      simp at h1 h2
      rw [if_neg (by omega)]
      simp
      omega
/-- no more than -/
def leL (a b : AL) : Prop := ltL b a = false
theorem leL_refl (a : AL) : leL a a := by
  unfold leL
  rw [ltL_eq, if_pos rfl]
  cases h : PySem.W.listLt a.2 a.2 with
  | false => rfl
  | true =>
    have : ∀ l : List (Int × Int), PySem.W.listLt l l = false := fun l => by
      induction l with
      | nil => rfl
      | cons x l ih => unfold PySem.W.listLt; rw [if_pos rfl]; exact ih
    rw [this] at h
    cases h
theorem leL_tr {a b c : AL} (h1 : leL a b) (h2 : leL b c) : leL a c := by
  unfold leL at *
  cases h : ltL c a with
  | false => rfl
  | true =>
    by_cases e : a = b
    · rw [e] at h
      rw [h2] at h
      cases h
    · have h3 : ltL a b = true := by
        cases h4 : ltL a b with
        | true => rfl
        | false => exact absurd (ltL_anti h4 h1) e
      have := ltL_tr h h3
      rw [h2] at this
      cases this
theorem leL_anti {a b : AL} (h1 : leL a b) (h2 : leL b a) : a = b := ltL_anti h2 h1
theorem leL_cons {a b : AL} {s : Int} {x : Int × Int} (h : leL a b) : leL (s + a.1, x :: a.2) (s + b.1, x :: b.2) := by
  unfold leL at *
  rw [ltL_eq] at h ⊢
  by_cases e : b.1 = a.1
  · rw [if_pos e] at h
    rw [if_pos (by show s + b.1 = s + a.1; rw [e])]
    show PySem.W.listLt (x :: b.2) (x :: a.2) = false
    unfold PySem.W.listLt
    rw [if_pos rfl]
    exact h
  · rw [if_neg e] at h
    rw [if_neg (by show ¬ s + b.1 = s + a.1; omega)]
    simp at h ⊢
    omega
theorem min_le : ∀ (ys : List AL) (y : AL), ∀ z ∈ y :: ys, leL (PySem.W.minOf y ys) z
  | [], y, z, hz => by rw [List.mem_singleton.mp hz]; exact leL_refl _
  | w :: ys, y, z, hz => by
    have e : PySem.W.minOf y (w :: ys) = PySem.W.minOf (if ltL w y = true then w else y) ys := rfl
    rw [e]
    have ih := min_le ys (if ltL w y = true then w else y)
    have h0 := ih _ List.mem_cons_self
    have both : leL (if ltL w y = true then w else y) y ∧ leL (if ltL w y = true then w else y) w := by
      cases h : ltL w y with
      | true =>
        rw [if_pos rfl]
        refine ⟨?_, leL_refl _⟩
        unfold leL
        cases h2 : ltL y w with
        | false => rfl
        | true =>
          have h3 := ltL_tr h h2
          have h4 : leL w w := leL_refl w
          unfold leL at h4
          rw [h4] at h3
          cases h3
      | false =>
        rw [if_neg (by decide)]
        exact ⟨leL_refl _, h⟩
    rcases List.mem_cons.mp hz with q | q
    · rw [q]; exact leL_tr h0 both.1
    · rcases List.mem_cons.mp q with q | q
      · rw [q]; exact leL_tr h0 both.2
      · exact ih z (List.mem_cons_of_mem _ q)
theorem minA_le {l : List AO} {a : AO} (h : a ∈ l) : leL (ofAO (minA l)) (ofAO a) := by
  cases l with
  | nil => cases h
  | cons y ys =>
    show leL (ofAO (PySem.W.minOf y ys)) (ofAO a)
    rw [← minOf_ofAO]
    exact min_le _ _ _ (by rw [← List.map_cons]; exact List.mem_map.mpr ⟨a, h, rfl⟩)
/-! ### orders -/
def wayI (L : List C3) : List (Int × Int) → Int × Int → Int
  | [], _ => 0
  | (k, w) :: o, p => stepsI p (endsI (L.getD k.toNat (0, 0, 0)) w).1 + wayI L o (endsI (L.getD k.toNat (0, 0, 0)) w).2
def OrdOk (L : List C3) (o : List (Int × Int)) : Prop := ∀ x ∈ o, 0 ≤ x.1 ∧ x.1 < (L.length : Int) ∧ (x.2 = 0 ∨ x.2 = 1)
/-- what goes on from done to the end -/
structure Cont (L : List C3) (done : List Int) (o : List (Int × Int)) : Prop where
  nd : (done ++ o.map (·.1)).Nodup
  ok : OrdOk L o
  len : done.length + o.length = L.length
theorem Cont.tail {L : List C3} {done : List Int} {x : Int × Int} {o : List (Int × Int)} (c : Cont L done (x :: o)) : Cont L (done ++ [x.1]) o :=
  ⟨by have := c.nd; rw [List.map_cons] at this; rw [List.append_assoc]; exact this, fun y hy => c.ok y (List.mem_cons_of_mem _ hy), by have := c.len; rw [List.length_cons] at this; rw [List.length_append]; show done.length + 1 + o.length = _; omega⟩
theorem Cont.head {L : List C3} {done : List Int} {x : Int × Int} {o : List (Int × Int)} (c : Cont L done (x :: o)) : x.1 ∉ done := fun m => by
  have := (List.nodup_append.mp c.nd).2.2 x.1 m x.1 (by simp)
  exact this rfl
theorem one_ao (L : List C3) (done : List Int) (p : Int × Int) (n : Nat) (w : Int) : one L (srt done) p (best [L] 0) n w = (stepsI p (endsI (L.getD n (0, 0, 0)) w).1 + (best [L] 0 (srt (done ++ [(n : Int)])) (endsI (L.getD n (0, 0, 0)) w).2).1, ⟨((n : Int), w) :: (best [L] 0 (srt (done ++ [(n : Int)])) (endsI (L.getD n (0, 0, 0)) w).2).2.items⟩) := by
  unfold one
  rw [srt_snoc]
theorem best_le (L : List C3) : ∀ (o : List (Int × Int)) (done : List Int) (p : Int × Int), Cont L done o → leL (ofAO (best [L] 0 (srt done) p)) (wayI L o p, o)
  | [], done, p, c => by
    have e : (srt done).length = L.length := by rw [srt_len]; have := c.len; simpa using this
    rw [best_next (Ls := [L]) (at_ := 0) (L := L) rfl e, best_end (Ls := [L]) (at_ := 0 + 1) [] p (Nat.le_refl _)]
    exact leL_refl _
  | (k, w) :: o, done, p, c => by
    obtain ⟨k0, k1, kw⟩ := c.ok (k, w) List.mem_cons_self
    obtain ⟨n, hn⟩ : ∃ n : Nat, k = (n : Int) := ⟨k.toNat, by have : 0 ≤ k := k0; omega⟩
    subst hn
    have hn : n < L.length := by have : (n : Int) < (L.length : Int) := k1; omega
    have hm := c.head
    have hl : (srt done).length < L.length := by rw [srt_len]; have := c.len; rw [List.length_cons] at this; omega
    rw [best_min (Ls := [L]) (at_ := 0) (L := L) rfl hl]
    have hmem : one L (srt done) p (best [L] 0) n w ∈ cand L (srt done) p (best [L] 0) := by
      refine List.mem_flatMap.mpr ⟨n, List.mem_range.mpr hn, ?_⟩
      unfold cand1
      rw [if_neg (fun z => hm (mem_srt.mp z))]
      rcases kw with e | e
      · rw [show w = 0 from e]; exact List.mem_cons_self
      · rw [show w = 1 from e]; exact List.mem_cons_of_mem _ List.mem_cons_self
    refine leL_tr (minA_le hmem) ?_
    rw [one_ao]
    have ih := best_le L o (done ++ [(n : Int)]) (endsI (L.getD n (0, 0, 0)) w).2 c.tail
    exact leL_cons ih
theorem best_cont (L : List C3) : ∀ (m : Nat) (done : List Int) (p : Int × Int), L.length - done.length = m → done.length ≤ L.length → done.Nodup → (∀ x ∈ done, 0 ≤ x ∧ x < (L.length : Int)) →
    Cont L done (best [L] 0 (srt done) p).2.items ∧ (best [L] 0 (srt done) p).1 = wayI L (best [L] 0 (srt done) p).2.items p
  | 0, done, p, hm, hl, nd, hr => by
    have e : (srt done).length = L.length := by rw [srt_len]; omega
    rw [best_next (Ls := [L]) (at_ := 0) (L := L) rfl e, best_end (Ls := [L]) (at_ := 0 + 1) [] p (Nat.le_refl _)]
    exact ⟨⟨by simpa using nd, fun x hx => (by cases hx), by show done.length + 0 = _; omega⟩, rfl⟩
  | m + 1, done, p, hm, hl, nd, hr => by
    have hl2 : (srt done).length < L.length := by rw [srt_len]; omega
    have hcn := cand_ne (p := p) (rec := best [L] 0) ((srt_perm done).nodup_iff.mpr nd) hl2
    rw [best_min (Ls := [L]) (at_ := 0) (L := L) rfl hl2]
    have hmA := minA_mem hcn
    generalize minA (cand L (srt done) p (best [L] 0)) = aa at hmA ⊢
    obtain ⟨n, hn, hx⟩ := List.mem_flatMap.mp hmA
    have hn := List.mem_range.mp hn
    unfold cand1 at hx
    split at hx
    · cases hx
    rename_i hnd
    have hnd : (n : Int) ∉ done := fun z => hnd (mem_srt.mpr z)
    have nd2 : (done ++ [(n : Int)]).Nodup := List.nodup_append.mpr ⟨nd, by simp, fun x hx y hy e => by
      rw [List.mem_singleton.mp hy] at e
      rw [e] at hx
      exact hnd hx⟩
    have fin : ∀ w, (w = 0 ∨ w = 1) → Cont L done (one L (srt done) p (best [L] 0) n w).2.items ∧ (one L (srt done) p (best [L] 0) n w).1 = wayI L (one L (srt done) p (best [L] 0) n w).2.items p := fun w hw => by
      obtain ⟨c, e⟩ := best_cont L m (done ++ [(n : Int)]) (endsI (L.getD n (0, 0, 0)) w).2 (by rw [List.length_append]; show L.length - (done.length + 1) = m; omega) (by rw [List.length_append]; show done.length + 1 ≤ _; omega) nd2 (fun x hx => by
        rcases List.mem_append.mp hx with z | z
        · exact hr x z
        · rw [List.mem_singleton.mp z]; omega)
      rw [one_ao]
      refine ⟨⟨?_, fun x hx => ?_, ?_⟩, ?_⟩
      · have := c.nd
        rw [List.append_assoc] at this
        exact this
      · rcases List.mem_cons.mp hx with z | z
        · rw [z]; exact ⟨by show (0 : Int) ≤ (n : Int); omega, by show (n : Int) < _; omega, hw⟩
        · exact c.ok x z
      · have := c.len
        rw [List.length_append] at this
        show done.length + (_ + 1) = _
        have this : done.length + 1 + _ = L.length := this
        omega
      · show _ + _ = stepsI p (endsI (L.getD ((n : Int)).toNat (0, 0, 0)) w).1 + wayI L _ (endsI (L.getD ((n : Int)).toNat (0, 0, 0)) w).2
        rw [Int.toNat_natCast, e]
    rcases List.mem_cons.mp hx with e | e
    · rw [e]; exact fin 0 (.inl rfl)
    · rw [List.mem_singleton.mp e]; exact fin 1 (.inr rfl)
/-- the least of some orders, among them the best one -/
theorem least_best {L : List C3} {p : Int × Int} {os : List (List (Int × Int))} (h : ∀ o ∈ os, Cont L [] o) (m : (best [L] 0 [] p).2.items ∈ os) : ∃ y ys, (os.map fun o => ((wayI L o p, o) : AL)) = y :: ys ∧ PySem.W.minOf y ys = ofAO (best [L] 0 [] p) := by
  have hb := best_cont L L.length [] p (by simp) (Nat.zero_le _) .nil (fun x hx => by cases hx)
  have hs : srt ([] : List Int) = [] := List.eq_nil_of_length_eq_zero (by rw [srt_len]; rfl)
  rw [hs] at hb
  cases e : (os.map fun o => ((wayI L o p, o) : AL)) with
  | nil =>
    rw [List.map_eq_nil_iff] at e
    rw [e] at m
    cases m
  | cons y ys =>
    refine ⟨y, ys, rfl, leL_anti ?_ ?_⟩
    · refine min_le ys y _ ?_
      rw [← e]
      exact List.mem_map.mpr ⟨_, m, by show ((wayI L _ p, _) : AL) = (_, _); rw [← hb.2]⟩
    · have := min_mem ys y
      rw [← e] at this
      obtain ⟨o, ho, eo⟩ := List.mem_map.mp this
      rw [← eo]
      have hle := best_le L o [] p (h o ho)
      rw [hs] at hle
      exact hle
end Ly
end

section
set_option Elab.async false
set_option linter.all false
set_option maxRecDepth 100000
set_option maxHeartbeats 2000000
/-! the least of all orders, layer by layer -/
namespace Ly
/-- where the head is behind an order -/
def plE (L : List C3) : List (Int × Int) → Int × Int → Int × Int
  | [], p => p
  | (k, w) :: o, p => plE L o (endsI (L.getD k.toNat (0, 0, 0)) w).2
theorem wayE_snoc (L : List C3) : ∀ (o : List (Int × Int)) (x : Int × Int) (p : Int × Int), wayI L (o ++ [x]) p = wayI L o p + stepsI (plE L o p) (endsI (L.getD x.1.toNat (0, 0, 0)) x.2).1
  | [], x, p => by show stepsI p _ + 0 = 0 + stepsI p _; omega
  | (k, w) :: o, x, p => by
    show stepsI p _ + wayI L (o ++ [x]) _ = stepsI p _ + wayI L o _ + _
    rw [wayE_snoc L o x, Int.add_assoc]
    rfl
theorem plE_snoc (L : List C3) : ∀ (o : List (Int × Int)) (x : Int × Int) (p : Int × Int), plE L (o ++ [x]) p = (endsI (L.getD x.1.toNat (0, 0, 0)) x.2).2
  | [], _, _ => rfl
  | (k, w) :: o, x, p => plE_snoc L o x _
theorem ltS_irr : ∀ l : List (Int × Int), PySem.W.listLt l l = false
  | [] => rfl
  | x :: l => by unfold PySem.W.listLt; rw [if_pos rfl]; exact ltS_irr l
theorem ltS_app : ∀ (b a t : List (Int × Int)), b.length = a.length → PySem.W.listLt b a = false → PySem.W.listLt (b ++ t) (a ++ t) = false
  | [], [], t, _, _ => ltS_irr t
  | [], _ :: _, _, h, _ => by cases h
  | _ :: _, [], _, h, _ => by cases h
  | x :: b, y :: a, t, hl, h => by
    have hl : b.length = a.length := by simpa using hl
    rw [List.cons_append, List.cons_append]
    unfold PySem.W.listLt at h ⊢
    by_cases e : x = y
    · rw [if_pos e] at h ⊢
      exact ltS_app b a t hl h
    · rw [if_neg e] at h ⊢
      exact h
theorem leL_app {a b : AL} {c : Int} {t : List (Int × Int)} (h : leL a b) (hl : a.2.length = b.2.length) : leL (a.1 + c, a.2 ++ t) (b.1 + c, b.2 ++ t) := by
  unfold leL at *
  rw [ltL_eq] at h ⊢
  by_cases e : b.1 = a.1
  · rw [if_pos e] at h
    rw [if_pos (by show b.1 + c = a.1 + c; rw [e])]
    exact ltS_app b.2 a.2 t hl.symm h
  · rw [if_neg e] at h
    rw [if_neg (by show ¬ b.1 + c = a.1 + c; omega)]
    simp at h ⊢
    omega
theorem one_aoM (Ls : List (List C3)) (at_ : Nat) (L : List C3) (done : List Int) (p : Int × Int) (n : Nat) (w : Int) : one L (srt done) p (best Ls at_) n w = (stepsI p (endsI (L.getD n (0, 0, 0)) w).1 + (best Ls at_ (srt (done ++ [(n : Int)])) (endsI (L.getD n (0, 0, 0)) w).2).1, ⟨((n : Int), w) :: (best Ls at_ (srt (done ++ [(n : Int)])) (endsI (L.getD n (0, 0, 0)) w).2).2.items⟩) := by
  unfold one
  rw [srt_snoc]
/-- the order o of this layer, then the best of all behind it -/
def thenM (Ls : List (List C3)) (at_ : Nat) (L : List C3) (o : List (Int × Int)) (p : Int × Int) : AL := (wayI L o p + (best Ls (at_ + 1) [] (plE L o p)).1, o ++ (best Ls (at_ + 1) [] (plE L o p)).2.items)
theorem best_leM {Ls : List (List C3)} {at_ : Nat} {L : List C3} (hL : Ls[at_]? = some L) : ∀ (o : List (Int × Int)) (done : List Int) (p : Int × Int), Cont L done o → leL (ofAO (best Ls at_ (srt done) p)) (thenM Ls at_ L o p)
  | [], done, p, c => by
    have e : (srt done).length = L.length := by rw [srt_len]; have := c.len; simpa using this
    rw [best_next hL e]
    have e2 : thenM Ls at_ L [] p = ofAO (best Ls (at_ + 1) [] p) := by
      show ((0 : Int) + _, [] ++ _) = ((best Ls (at_ + 1) [] p).1, (best Ls (at_ + 1) [] p).2.items)
      rw [Int.zero_add, List.nil_append]
      rfl
    rw [e2]
    exact leL_refl _
  | (k, w) :: o, done, p, c => by
    obtain ⟨k0, k1, kw⟩ := c.ok (k, w) List.mem_cons_self
    obtain ⟨n, hn⟩ : ∃ n : Nat, k = (n : Int) := ⟨k.toNat, by have : 0 ≤ k := k0; omega⟩
    subst hn
    have hn : n < L.length := by have : (n : Int) < (L.length : Int) := k1; omega
    have hm := c.head
    have hl : (srt done).length < L.length := by rw [srt_len]; have := c.len; rw [List.length_cons] at this; omega
    rw [best_min hL hl]
    have hmem : one L (srt done) p (best Ls at_) n w ∈ cand L (srt done) p (best Ls at_) := by
      refine List.mem_flatMap.mpr ⟨n, List.mem_range.mpr hn, ?_⟩
      unfold cand1
      rw [if_neg (fun z => hm (mem_srt.mp z))]
      rcases kw with e | e
      · rw [show w = 0 from e]; exact List.mem_cons_self
      · rw [show w = 1 from e]; exact List.mem_cons_of_mem _ List.mem_cons_self
    refine leL_tr (minA_le hmem) ?_
    rw [one_aoM]
    have ih := best_leM hL o (done ++ [(n : Int)]) (endsI (L.getD n (0, 0, 0)) w).2 c.tail
    have h2 := leL_cons (s := stepsI p (endsI (L.getD n (0, 0, 0)) w).1) (x := ((n : Int), w)) ih
    have e2 : thenM Ls at_ L (((n : Int), w) :: o) p = (stepsI p (endsI (L.getD n (0, 0, 0)) w).1 + (thenM Ls at_ L o (endsI (L.getD n (0, 0, 0)) w).2).1, ((n : Int), w) :: (thenM Ls at_ L o (endsI (L.getD n (0, 0, 0)) w).2).2) := by
      unfold thenM
      refine Prod.ext ?_ rfl
      show stepsI p _ + wayI L o _ + _ = stepsI p _ + (wayI L o _ + _)
      rw [Int.add_assoc]
      rfl
    rw [e2]
    exact h2
theorem best_contM {Ls : List (List C3)} {at_ : Nat} {L : List C3} (hL : Ls[at_]? = some L) : ∀ (m : Nat) (done : List Int) (p : Int × Int), L.length - done.length = m → done.length ≤ L.length → done.Nodup → (∀ x ∈ done, 0 ≤ x ∧ x < (L.length : Int)) →
    ∃ o, Cont L done o ∧ ofAO (best Ls at_ (srt done) p) = thenM Ls at_ L o p
  | 0, done, p, hm, hl, nd, hr => by
    have e : (srt done).length = L.length := by rw [srt_len]; omega
    refine ⟨[], ⟨by simpa using nd, fun x hx => (by cases hx), by show done.length + 0 = _; omega⟩, ?_⟩
    rw [best_next hL e]
    show ((best Ls (at_ + 1) [] p).1, (best Ls (at_ + 1) [] p).2.items) = ((0 : Int) + _, [] ++ _)
    rw [Int.zero_add, List.nil_append]
    rfl
  | m + 1, done, p, hm, hl, nd, hr => by
    have hl2 : (srt done).length < L.length := by rw [srt_len]; omega
    have hcn := cand_ne (p := p) (rec := best Ls at_) ((srt_perm done).nodup_iff.mpr nd) hl2
    rw [best_min hL hl2]
    have hmA := minA_mem hcn
    generalize minA (cand L (srt done) p (best Ls at_)) = aa at hmA ⊢
    obtain ⟨n, hn, hx⟩ := List.mem_flatMap.mp hmA
    have hn := List.mem_range.mp hn
    unfold cand1 at hx
    split at hx
    · cases hx
    rename_i hnd
    have hnd : (n : Int) ∉ done := fun z => hnd (mem_srt.mpr z)
    have nd2 : (done ++ [(n : Int)]).Nodup := List.nodup_append.mpr ⟨nd, by simp, fun x hx y hy e => by
      rw [List.mem_singleton.mp hy] at e
      rw [e] at hx
      exact hnd hx⟩
    have fin : ∀ w, (w = 0 ∨ w = 1) → ∃ o, Cont L done o ∧ ofAO (one L (srt done) p (best Ls at_) n w) = thenM Ls at_ L o p := fun w hw => by
      obtain ⟨o, c, e⟩ := best_contM hL m (done ++ [(n : Int)]) (endsI (L.getD n (0, 0, 0)) w).2 (by rw [List.length_append]; show L.length - (done.length + 1) = m; omega) (by rw [List.length_append]; show done.length + 1 ≤ _; omega) nd2 (fun x hx => by
        rcases List.mem_append.mp hx with z | z
        · exact hr x z
        · rw [List.mem_singleton.mp z]; omega)
      rw [one_aoM]
      refine ⟨((n : Int), w) :: o, ⟨?_, fun x hx => ?_, ?_⟩, ?_⟩
      · have := c.nd
        rw [List.append_assoc] at this
        exact this
      · rcases List.mem_cons.mp hx with z | z
        · rw [z]; exact ⟨by show (0 : Int) ≤ (n : Int); omega, by show (n : Int) < _; omega, hw⟩
        · exact c.ok x z
      · have := c.len
        rw [List.length_append] at this
        show done.length + (_ + 1) = _
        have this : done.length + 1 + _ = L.length := this
        omega
      · have e1 := congrArg Prod.fst e
        have e2 := congrArg Prod.snd e
        refine Prod.ext ?_ ?_
        · show stepsI p _ + (ofAO (best Ls at_ (srt (done ++ [(n : Int)])) (endsI (L.getD n (0, 0, 0)) w).2)).1 = stepsI p _ + wayI L o _ + _
          rw [e1, Int.add_assoc]
          rfl
        · show ((n : Int), w) :: (ofAO (best Ls at_ (srt (done ++ [(n : Int)])) (endsI (L.getD n (0, 0, 0)) w).2)).2 = _
          rw [e2]
          rfl
    rcases List.mem_cons.mp hx with e | e
    · rw [e]; exact fin 0 (.inl rfl)
    · rw [List.mem_singleton.mp e]; exact fin 1 (.inr rfl)
/-! ### goals: for each place where a layer's order may end, the least -/
abbrev Goal := (Int × Int) × AL
structure GoalsOk (L : List C3) (p : Int × Int) (gs : List Goal) : Prop where
  nd : (gs.map (·.1)).Nodup
  ok : ∀ g ∈ gs, Cont L [] g.2.2 ∧ g.2.1 = wayI L g.2.2 p ∧ plE L g.2.2 p = g.1
  le : ∀ o, Cont L [] o → ∃ g ∈ gs, g.1 = plE L o p ∧ leL g.2 (wayI L o p, o)
def goalM (Ls : List (List C3)) (at_ : Nat) (g : Goal) : AL := (g.2.1 + (best Ls (at_ + 1) [] g.1).1, g.2.2 ++ (best Ls (at_ + 1) [] g.1).2.items)
theorem goals_best {Ls : List (List C3)} {at_ : Nat} {L : List C3} {p : Int × Int} {gs : List Goal} (hL : Ls[at_]? = some L) (x : GoalsOk L p gs) : ∃ y ys, gs.map (goalM Ls at_) = y :: ys ∧ PySem.W.minOf y ys = ofAO (best Ls at_ [] p) := by
  have hs : srt ([] : List Int) = [] := List.eq_nil_of_length_eq_zero (by rw [srt_len]; rfl)
  have low : ∀ g ∈ gs, leL (ofAO (best Ls at_ [] p)) (goalM Ls at_ g) := fun g hg => by
    obtain ⟨c, e1, e2⟩ := x.ok g hg
    have := best_leM hL g.2.2 [] p c
    rw [hs] at this
    have e3 : thenM Ls at_ L g.2.2 p = goalM Ls at_ g := by unfold thenM goalM; rw [e2, ← e1]
    rw [← e3]
    exact this
  obtain ⟨o, co, eo⟩ := best_contM hL L.length [] p (by simp) (Nat.zero_le _) .nil (fun x hx => by cases hx)
  rw [hs] at eo
  obtain ⟨g, hg, eg, lg⟩ := x.le o co
  obtain ⟨cg, e1, e2⟩ := x.ok g hg
  have hlen : g.2.2.length = o.length := by
    have a1 := cg.len
    have a2 := co.len
    omega
  have h1 : leL (goalM Ls at_ g) (ofAO (best Ls at_ [] p)) := by
    rw [eo]
    unfold thenM goalM
    rw [← eg]
    exact leL_app lg hlen
  cases e : gs.map (goalM Ls at_) with
  | nil =>
    rw [List.map_eq_nil_iff] at e
    rw [e] at hg
    cases hg
  | cons y ys =>
    refine ⟨y, ys, rfl, leL_anti ?_ ?_⟩
    · exact leL_tr (min_le ys y _ (by rw [← e]; exact List.mem_map.mpr ⟨g, hg, rfl⟩)) h1
    · have hm := min_mem ys y
      rw [← e] at hm
      obtain ⟨g2, hg2, e2⟩ := List.mem_map.mp hm
      rw [← e2]
      exact low g2 hg2
end Ly
end

section
set_option Elab.async false
set_option linter.all false
set_option maxRecDepth 100000
set_option maxHeartbeats 2000000
/-! the least orders by what is done and where they end, turn by turn -/
namespace Ly
abbrev DpE := (List Int × (Int × Int)) × AL
structure DpOk (L : List C3) (p : Int × Int) (t : Nat) (hs : List DpE) : Prop where
  nd : (hs.map (·.1)).Nodup
  ok : ∀ e ∈ hs, (e.2.2.map (·.1)).Nodup ∧ OrdOk L e.2.2 ∧ e.2.2.length = t ∧ srt (e.2.2.map (·.1)) = e.1.1 ∧ plE L e.2.2 p = e.1.2 ∧ e.2.1 = wayI L e.2.2 p
  le : ∀ o, (o.map (·.1)).Nodup → OrdOk L o → o.length = t → ∃ e ∈ hs, e.1 = (srt (o.map (·.1)), plE L o p) ∧ leL e.2 (wayI L o p, o)
theorem dp_start (L : List C3) (p : Int × Int) : DpOk L p 0 [(([], p), (0, []))] := by
  have hs : srt ([] : List Int) = [] := List.eq_nil_of_length_eq_zero (by rw [srt_len]; rfl)
  refine ⟨by simp, fun e he => ?_, fun o _ _ hl => ?_⟩
  · rw [List.mem_singleton.mp he]
    exact ⟨.nil, fun x hx => (by cases hx), rfl, hs, rfl, rfl⟩
  · have ho := List.eq_nil_of_length_eq_zero hl
    subst ho
    exact ⟨_, List.mem_singleton.mpr rfl, by rw [show ([] : List (Int × Int)).map (·.1) = [] from rfl, hs]; rfl, leL_refl _⟩
/-- one stroke more -/
def extE (L : List C3) (e : DpE) (k : Nat) (w : Int) : DpE :=
  ((srt (e.1.1 ++ [(k : Int)]), (endsI (L.getD k (0, 0, 0)) w).2), (e.2.1 + stepsI e.1.2 (endsI (L.getD k (0, 0, 0)) w).1, e.2.2 ++ [((k : Int), w)]))
/-- later tells the least of all candidates by key -/
structure LatOk (cs later : List DpE) : Prop where
  nd : (later.map (·.1)).Nodup
  sub : ∀ e ∈ later, e ∈ cs
  le : ∀ c ∈ cs, ∃ e ∈ later, e.1 = c.1 ∧ leL e.2 c.2
structure CsOk (L : List C3) (hs cs : List DpE) : Prop where
  of : ∀ c ∈ cs, ∃ e ∈ hs, ∃ (k : Nat) (w : Int), k < L.length ∧ (k : Int) ∉ e.1.1 ∧ (w = 0 ∨ w = 1) ∧ c = extE L e k w
  all : ∀ e ∈ hs, ∀ (k : Nat) (w : Int), k < L.length → (k : Int) ∉ e.1.1 → (w = 0 ∨ w = 1) → extE L e k w ∈ cs
theorem srt_cong {a b : List Int} (h : srt a = srt b) : a.Perm b := (srt_perm a).symm.trans (by rw [h]; exact srt_perm b)
theorem srt_of_perm {a b : List Int} (h : a.Perm b) : srt a = srt b := srt_eq ((srt_perm a).trans h) (srt_sorted a)
theorem nodup_endE {l : List Int} {x : Int} (h : l.Nodup) (m : x ∉ l) : (l ++ [x]).Nodup := List.nodup_append.mpr ⟨h, by simp, fun a ha b hb e => by
  rw [List.mem_singleton.mp hb] at e
  rw [e] at ha
  exact m ha⟩
theorem dp_step {L : List C3} {p : Int × Int} {t : Nat} {hs cs later : List DpE} (x : DpOk L p t hs) (c : CsOk L hs cs) (y : LatOk cs later) : DpOk L p (t + 1) later := by
  refine ⟨y.nd, fun e he => ?_, fun o nd ok hl => ?_⟩
  · obtain ⟨e0, he0, k, w, hk, hn, hw, rfl⟩ := c.of e (y.sub e he)
    obtain ⟨a1, a2, a3, a4, a5, a6⟩ := x.ok e0 he0
    have hkn : (k : Int) ∉ e0.2.2.map (·.1) := fun m => hn (by rw [← a4]; exact mem_srt.mpr m)
    refine ⟨?_, fun z hz => ?_, ?_, ?_, ?_, ?_⟩
    · show ((e0.2.2 ++ [((k : Int), w)]).map (·.1)).Nodup
      rw [List.map_append]
      exact nodup_endE a1 hkn
    · rcases List.mem_append.mp hz with z1 | z1
      · exact a2 z z1
      · rw [List.mem_singleton.mp z1]; exact ⟨by show (0 : Int) ≤ (k : Int); omega, by show (k : Int) < _; omega, hw⟩
    · show (e0.2.2 ++ [((k : Int), w)]).length = t + 1
      rw [List.length_append, a3]; rfl
    · show srt ((e0.2.2 ++ [((k : Int), w)]).map (·.1)) = srt (e0.1.1 ++ [(k : Int)])
      rw [List.map_append, ← a4]
      exact (srt_snoc _ _).symm
    · show plE L (e0.2.2 ++ [((k : Int), w)]) p = _
      rw [plE_snoc]
      show (endsI (L.getD ((k : Int)).toNat (0, 0, 0)) w).2 = _
      rw [Int.toNat_natCast]
      rfl
    · show e0.2.1 + stepsI e0.1.2 (endsI (L.getD k (0, 0, 0)) w).1 = wayI L (e0.2.2 ++ [((k : Int), w)]) p
      rw [wayE_snoc, a5, ← a6]
      show _ = e0.2.1 + stepsI e0.1.2 (endsI (L.getD ((k : Int)).toNat (0, 0, 0)) w).1
      rw [Int.toNat_natCast]
  · rcases List.eq_nil_or_concat o with e | ⟨o', z, e⟩
    · rw [e] at hl; cases hl
    rw [List.concat_eq_append] at e
    subst e
    rw [List.length_append] at hl
    have hl : o'.length + 1 = t + 1 := hl
    rw [List.map_append] at nd
    obtain ⟨n1, _, n3⟩ := List.nodup_append.mp nd
    obtain ⟨z0, z1, z2⟩ := ok z (List.mem_append_right _ (List.mem_singleton.mpr rfl))
    obtain ⟨k, hk⟩ : ∃ k : Nat, z.1 = (k : Int) := ⟨z.1.toNat, by omega⟩
    obtain ⟨a, w⟩ := z
    have hk : a = (k : Int) := hk
    subst hk
    have hkl : k < L.length := by have : (k : Int) < (L.length : Int) := z1; omega
    have hkn : (k : Int) ∉ o'.map (·.1) := fun m => n3 _ m (k : Int) (by simp) rfl
    obtain ⟨e0, he0, ee, le0⟩ := x.le o' n1 (fun y hy => ok y (List.mem_append_left _ hy)) (by omega)
    obtain ⟨a1, a2, a3, a4, a5, a6⟩ := x.ok e0 he0
    have e11 : e0.1.1 = srt (o'.map (·.1)) := by rw [ee]
    have e12 : e0.1.2 = plE L o' p := by rw [ee]
    have hkn0 : (k : Int) ∉ e0.1.1 := fun m => hkn (by rw [e11] at m; exact mem_srt.mp m)
    obtain ⟨f, hf, ef, lf⟩ := y.le _ (c.all e0 he0 k w hkl hkn0 z2)
    refine ⟨f, hf, ?_, ?_⟩
    · rw [ef]
      show (srt (e0.1.1 ++ [(k : Int)]), (endsI (L.getD k (0, 0, 0)) w).2) = (srt ((o' ++ [((k : Int), w)]).map (·.1)), plE L (o' ++ [((k : Int), w)]) p)
      rw [plE_snoc, List.map_append, e11]
      show _ = (_, (endsI (L.getD ((k : Int)).toNat (0, 0, 0)) w).2)
      rw [Int.toNat_natCast]
      exact Prod.ext (srt_snoc _ _) rfl
    · refine leL_tr lf ?_
      have h1 := leL_app (c := stepsI (plE L o' p) (endsI (L.getD k (0, 0, 0)) w).1) (t := [((k : Int), w)]) le0 (by show e0.2.2.length = o'.length; omega)
      have e2 : (extE L e0 k w).2 = (e0.2.1 + stepsI (plE L o' p) (endsI (L.getD k (0, 0, 0)) w).1, e0.2.2 ++ [((k : Int), w)]) := by
        unfold extE
        rw [e12]
      rw [e2, wayE_snoc]
      show leL _ (wayI L o' p + stepsI (plE L o' p) (endsI (L.getD ((k : Int)).toNat (0, 0, 0)) w).1, _)
      rw [Int.toNat_natCast]
      exact h1
theorem dp_goals {L : List C3} {p : Int × Int} {hs : List DpE} (x : DpOk L p L.length hs) : GoalsOk L p (hs.map fun e => (e.1.2, e.2)) := by
  have full : ∀ o : List (Int × Int), (o.map (·.1)).Nodup → OrdOk L o → o.length = L.length → srt (o.map (·.1)) = (List.range L.length).map fun i : Nat => (i : Int) := fun o nd ok hl => by
    have hp : (o.map (·.1)).Perm ((List.range L.length).map fun i : Nat => (i : Int)) := by
      have nr : ((List.range L.length).map fun i : Nat => (i : Int)).Nodup := List.pairwise_map.mpr (List.nodup_range.imp fun {a b} q => by omega)
      have sub : ∀ v ∈ o.map (·.1), v ∈ (List.range L.length).map fun i : Nat => (i : Int) := fun v hv => by
        obtain ⟨z, hz, rfl⟩ := List.mem_map.mp hv
        obtain ⟨z0, z1, _⟩ := ok z hz
        exact List.mem_map.mpr ⟨z.1.toNat, List.mem_range.mpr (by omega), by omega⟩
      refine (List.perm_ext_iff_of_nodup nd nr).mpr fun v => ⟨sub v, fun hv => ?_⟩
      refine Classical.byContradiction fun m => ?_
      have h2 := nodup_le (l := v :: o.map (·.1)) (U := (List.range L.length).map fun i : Nat => (i : Int)) (List.nodup_cons.mpr ⟨m, nd⟩) fun u hu => by
        rcases List.mem_cons.mp hu with z | z
        · rw [z]; exact hv
        · exact sub u z
      rw [List.length_cons, List.length_map, List.length_map, List.length_range] at h2
      omega
    have hsd : ((List.range L.length).map fun i : Nat => (i : Int)).Pairwise (· ≤ ·) := List.pairwise_map.mpr (List.pairwise_lt_range.imp fun {a b} h => by omega)
    exact (srt_eq hp.symm hsd).symm
  have key : ∀ e ∈ hs, e.1.1 = (List.range L.length).map fun i : Nat => (i : Int) := fun e he => by
    obtain ⟨a1, a2, a3, a4, _, _⟩ := x.ok e he
    rw [← a4]
    exact full _ a1 a2 a3
  refine ⟨?_, fun g hg => ?_, fun o co => ?_⟩
  · rw [List.map_map]
    refine List.pairwise_map.mpr (List.Pairwise.imp_of_mem (fun {a b} ha hb hne e => ?_) (List.pairwise_map.mp x.nd))
    exact hne (Prod.ext ((key a ha).trans (key b hb).symm) e)
  · obtain ⟨e, he, rfl⟩ := List.mem_map.mp hg
    obtain ⟨a1, a2, a3, a4, a5, a6⟩ := x.ok e he
    exact ⟨⟨by simpa using a1, a2, by rw [a3]; simp⟩, a6, a5⟩
  · have nd : (o.map (·.1)).Nodup := by simpa using co.nd
    have hl : o.length = L.length := by simpa using co.len
    obtain ⟨e, he, ee, le⟩ := x.le o nd co.ok hl
    exact ⟨_, List.mem_map.mpr ⟨e, he, rfl⟩, by show e.1.2 = _; rw [ee], le⟩
end Ly
end

section
set_option Elab.async false
set_option linter.all false
set_option maxRecDepth 100000
set_option maxHeartbeats 2000000
/-! the candidates met so far, and the least of them by key; orders in lists of lists -/
namespace Ly
def cE (L : List C3) (e : DpE) : List DpE := ((List.range L.length).filter fun k : Nat => !decide ((k : Int) ∈ e.1.1)).flatMap fun k => [extE L e k 0, extE L e k 1]
theorem cs_ok (L : List C3) (hs : List DpE) : CsOk L hs (hs.flatMap (cE L)) := by
  refine ⟨fun c hc => ?_, fun e he k w hk hn hw => ?_⟩
  · obtain ⟨e, he, h⟩ := List.mem_flatMap.mp hc
    obtain ⟨k, hk, h2⟩ := List.mem_flatMap.mp h
    obtain ⟨h3, h4⟩ := List.mem_filter.mp hk
    have hk := List.mem_range.mp h3
    have hn : (k : Int) ∉ e.1.1 := by simpa using h4
    rcases List.mem_cons.mp h2 with z | z
    · exact ⟨e, he, k, 0, hk, hn, .inl rfl, z⟩
    · exact ⟨e, he, k, 1, hk, hn, .inr rfl, List.mem_singleton.mp z⟩
  · refine List.mem_flatMap.mpr ⟨e, he, List.mem_flatMap.mpr ⟨k, List.mem_filter.mpr ⟨List.mem_range.mpr hk, by simpa using hn⟩, ?_⟩⟩
    rcases hw with z | z
    · rw [z]; exact List.mem_cons_self
    · rw [z]; exact List.mem_cons_of_mem _ List.mem_cons_self
abbrev EKey := List Int × (Int × Int)
def hasE (l : List DpE) (k : EKey) : Bool := l.any fun e => decide (e.1 = k)
theorem hasE_iff {l : List DpE} {k : EKey} : hasE l k = true ↔ k ∈ l.map (·.1) := by
  unfold hasE
  rw [List.any_eq_true]
  constructor
  · rintro ⟨e, he, h⟩
    exact List.mem_map.mpr ⟨e, he, of_decide_eq_true h⟩
  · intro h
    obtain ⟨e, he, h⟩ := List.mem_map.mp h
    exact ⟨e, he, decide_eq_true h⟩
def put5 (l : List DpE) (k : EKey) (a : AL) : List DpE := if hasE l k = true then l.map (fun e => if e.1 = k then (e.1, a) else e) else l ++ [(k, a)]
theorem lat_nil : LatOk [] [] := ⟨.nil, fun e h => (by cases h), fun c h => (by cases h)⟩
theorem lat_new {cs l : List DpE} {c : DpE} (x : LatOk cs l) (h : hasE l c.1 = false) : LatOk (cs ++ [c]) (put5 l c.1 c.2) := by
  unfold put5
  rw [if_neg (by rw [h]; decide)]
  have hn : c.1 ∉ l.map (·.1) := fun m => by rw [hasE_iff.mpr m] at h; cases h
  refine ⟨?_, fun e he => ?_, fun d hd => ?_⟩
  · rw [List.map_append]
    refine List.nodup_append.mpr ⟨x.nd, by simp, fun a ha b hb e => ?_⟩
    have hb : b = c.1 := by simpa using hb
    rw [e, hb] at ha
    exact hn ha
  · rcases List.mem_append.mp he with z | z
    · exact List.mem_append_left _ (x.sub e z)
    · exact List.mem_append_right _ z
  · rcases List.mem_append.mp hd with z | z
    · obtain ⟨e, he, h1, h2⟩ := x.le d z
      exact ⟨e, List.mem_append_left _ he, h1, h2⟩
    · rw [List.mem_singleton.mp z]
      exact ⟨c, List.mem_append_right _ (List.mem_singleton.mpr rfl), rfl, leL_refl _⟩
theorem one_key {l : List DpE} (nd : (l.map (·.1)).Nodup) {e f : DpE} (he : e ∈ l) (hf : f ∈ l) (h : e.1 = f.1) : e = f := by
  induction l with
  | nil => cases he
  | cons x l ih =>
    rw [List.map_cons, List.nodup_cons] at nd
    rcases List.mem_cons.mp he with a | a <;> rcases List.mem_cons.mp hf with b | b
    · rw [a, b]
    · exact absurd (List.mem_map.mpr ⟨f, b, by rw [← h, a]⟩) nd.1
    · exact absurd (List.mem_map.mpr ⟨e, a, by rw [h, b]⟩) nd.1
    · exact ih nd.2 a b
theorem leL_min1 (a b : AL) : leL (if ltL a b = true then a else b) b := by
  by_cases h : ltL a b = true
  · rw [if_pos h]
    unfold leL
    cases z : ltL b a with
    | false => rfl
    | true =>
      have := ltL_tr h z
      have r := leL_refl a
      unfold leL at r
      rw [this] at r
      cases r
  · rw [if_neg h]
    exact leL_refl _
theorem leL_min2 (a b : AL) : leL (if ltL a b = true then a else b) a := by
  by_cases h : ltL a b = true
  · rw [if_pos h]
    exact leL_refl _
  · rw [if_neg h]
    unfold leL
    simpa using h
theorem lat_old {cs l : List DpE} {c e0 : DpE} (x : LatOk cs l) (he : e0 ∈ l) (h : e0.1 = c.1) : LatOk (cs ++ [c]) (put5 l c.1 (if ltL e0.2 c.2 = true then e0.2 else c.2)) := by
  have hh : hasE l c.1 = true := hasE_iff.mpr (List.mem_map.mpr ⟨e0, he, h⟩)
  unfold put5
  rw [if_pos hh]
  generalize ha : (if ltL e0.2 c.2 = true then e0.2 else c.2) = a
  have ha1 : leL a c.2 := by rw [← ha]; exact leL_min1 _ _
  have ha2 : leL a e0.2 := by rw [← ha]; exact leL_min2 _ _
  have ha3 : a = e0.2 ∨ a = c.2 := by
    rw [← ha]
    split
    · exact .inl rfl
    · exact .inr rfl
  have keep : ∀ e ∈ l, ∃ f ∈ l.map (fun e => if e.1 = c.1 then (e.1, a) else e), f.1 = e.1 ∧ leL f.2 e.2 := fun e hm => by
    refine ⟨_, List.mem_map.mpr ⟨e, hm, rfl⟩, ?_⟩
    by_cases z : e.1 = c.1
    · have ee := one_key x.nd hm he (z.trans h.symm)
      subst ee
      rw [if_pos z]
      exact ⟨rfl, ha2⟩
    · rw [if_neg z]
      exact ⟨rfl, leL_refl _⟩
  refine ⟨?_, fun e hm => ?_, fun d hd => ?_⟩
  · rw [List.map_map]
    have e : ((fun e : DpE => e.1) ∘ fun e => if e.1 = c.1 then (e.1, a) else e) = fun e : DpE => e.1 := by
      funext e
      show (if e.1 = c.1 then (e.1, a) else e).1 = e.1
      split <;> rfl
    rw [e]
    exact x.nd
  · obtain ⟨f, hf, e1⟩ := List.mem_map.mp hm
    by_cases z : f.1 = c.1
    · rw [if_pos z] at e1
      have ee := one_key x.nd hf he (z.trans h.symm)
      subst ee
      rw [← e1]
      rcases ha3 with z3 | z3
      · rw [z3]; exact List.mem_append_left _ (x.sub _ hf)
      · rw [z3, z]; exact List.mem_append_right _ (List.mem_singleton.mpr rfl)
    · rw [if_neg z] at e1
      rw [← e1]
      exact List.mem_append_left _ (x.sub _ hf)
  · rcases List.mem_append.mp hd with z | z
    · obtain ⟨e, he2, h1, h2⟩ := x.le d z
      obtain ⟨f, hf, f1, f2⟩ := keep e he2
      exact ⟨f, hf, f1.trans h1, leL_tr f2 h2⟩
    · rw [List.mem_singleton.mp z]
      obtain ⟨f, hf, f1, f2⟩ := keep e0 he
      refine ⟨f, hf, f1.trans h, ?_⟩
      obtain ⟨g, hg, e1⟩ := List.mem_map.mp hf
      by_cases z : g.1 = c.1
      · rw [if_pos z] at e1
        rw [← e1]
        exact ha1
      · rw [if_neg z] at e1
        rw [← e1] at f1
        exact absurd (f1.trans h) z
/-! ### orders as lists of lists -/
abbrev LL := Int × List (List (Int × Int))
theorem listLt_cons {α : Type} [DecidableEq α] [PySem.W.DatumOrd α] (x y : α) (xs ys : List α) : PySem.W.listLt (x :: xs) (y :: ys) = if x = y then PySem.W.listLt xs ys else PySem.W.DatumOrd.lt x y := by
  conv => lhs; unfold PySem.W.listLt
theorem listLt_app {a b : List (Int × Int)} (x y : List (Int × Int)) (h : a.length = b.length) : PySem.W.listLt (a ++ x) (b ++ y) = if a = b then PySem.W.listLt x y else PySem.W.listLt a b := by
  induction a generalizing b with
  | nil =>
    cases b with
    | nil => rw [if_pos rfl]; rfl
    | cons _ _ => cases h
  | cons p a ih =>
    cases b with
    | nil => cases h
    | cons q b =>
      have h2 : a.length = b.length := by simpa using h
      rw [List.cons_append, List.cons_append, listLt_cons, listLt_cons, ih h2]
      by_cases e : p = q
      · subst e
        rw [if_pos rfl, if_pos rfl]
        by_cases e2 : a = b
        · subst e2
          rw [if_pos rfl, if_pos rfl]
        · rw [if_neg e2, if_neg (fun z => e2 (List.cons.inj z).2)]
      · rw [if_neg e, if_neg e, if_neg (fun z => e (List.cons.inj z).1)]
def lens (Ls : List (List C3)) : Nat := (Ls.map List.length).sum
theorem chunks_inj {L : List C3} {a b : List (Int × Int)} (ha : L.length ≤ a.length) (h : a.length = b.length) : (a.take L.length).length = (b.take L.length).length := by
  rw [List.length_take, List.length_take, h]
theorem chunks_lt : ∀ (Ls : List (List C3)) (a b : List (Int × Int)), a.length = lens Ls → b.length = lens Ls → PySem.W.listLt (chunks Ls a) (chunks Ls b) = PySem.W.listLt a b
  | [], a, b, ha, hb => by
    have ha : a = [] := List.eq_nil_of_length_eq_zero ha
    have hb : b = [] := List.eq_nil_of_length_eq_zero hb
    subst ha; subst hb
    rfl
  | L :: Ls, a, b, ha, hb => by
    have ha : a.length = L.length + lens Ls := ha
    have hb : b.length = L.length + lens Ls := hb
    have ih := chunks_lt Ls (a.drop L.length) (b.drop L.length) (by rw [List.length_drop]; omega) (by rw [List.length_drop]; omega)
    have h := listLt_app (a := a.take L.length) (b := b.take L.length) (a.drop L.length) (b.drop L.length) (by rw [List.length_take, List.length_take]; omega)
    rw [List.take_append_drop, List.take_append_drop] at h
    rw [h]
    show PySem.W.listLt (a.take L.length :: chunks Ls (a.drop L.length)) (b.take L.length :: chunks Ls (b.drop L.length)) = _
    rw [listLt_cons, ih]
    rfl
/-- the answer with a list for each layer -/
def toLL (Ls : List (List C3)) (a : AL) : LL := (a.1, chunks Ls a.2)
theorem toLL_lt {Ls : List (List C3)} {a b : AL} (ha : a.2.length = lens Ls) (hb : b.2.length = lens Ls) : PySem.W.DatumOrd.lt (toLL Ls a) (toLL Ls b) = PySem.W.DatumOrd.lt a b := by
  show (if a.1 = b.1 then PySem.W.listLt (chunks Ls a.2) (chunks Ls b.2) else PySem.W.DatumOrd.lt a.1 b.1) = (if a.1 = b.1 then PySem.W.listLt a.2 b.2 else PySem.W.DatumOrd.lt a.1 b.1)
  rw [chunks_lt Ls _ _ ha hb]
theorem minOf_toLL {Ls : List (List C3)} : ∀ (ys : List AL) (y : AL), (∀ a ∈ y :: ys, a.2.length = lens Ls) → PySem.W.minOf (toLL Ls y) (ys.map (toLL Ls)) = toLL Ls (PySem.W.minOf y ys)
  | [], y, _ => rfl
  | z :: ys, y, h => by
    have e1 : PySem.W.minOf (toLL Ls y) ((z :: ys).map (toLL Ls)) = PySem.W.minOf (if PySem.W.DatumOrd.lt (toLL Ls z) (toLL Ls y) = true then toLL Ls z else toLL Ls y) (ys.map (toLL Ls)) := rfl
    have e2 : PySem.W.minOf y (z :: ys) = PySem.W.minOf (if PySem.W.DatumOrd.lt z y = true then z else y) ys := rfl
    have hz := h z (List.mem_cons_of_mem _ List.mem_cons_self)
    have hy := h y List.mem_cons_self
    rw [e1, e2, toLL_lt hz hy]
    split
    · exact minOf_toLL ys z fun a ha => by
        rcases List.mem_cons.mp ha with q | q
        · rw [q]; exact hz
        · exact h a (List.mem_cons_of_mem _ (List.mem_cons_of_mem _ q))
    · exact minOf_toLL ys y fun a ha => by
        rcases List.mem_cons.mp ha with q | q
        · rw [q]; exact hy
        · exact h a (List.mem_cons_of_mem _ (List.mem_cons_of_mem _ q))
/-- how long the best of all is -/
theorem best_lens (Ls : List (List C3)) : ∀ (m at_ : Nat) (p : Int × Int), Ls.length - at_ = m → (best Ls at_ [] p).2.items.length = lens (Ls.drop at_)
  | 0, at_, p, h => by
    rw [best_end [] p (by omega), List.drop_eq_nil_of_le (by omega)]
    rfl
  | m + 1, at_, p, h => by
    have hi : at_ < Ls.length := by omega
    have hL : Ls[at_]? = some Ls[at_] := List.getElem?_eq_getElem hi
    obtain ⟨o, co, eo⟩ := best_contM hL Ls[at_].length [] p (by simp) (Nat.zero_le _) .nil (fun x hx => by cases hx)
    have hs : srt ([] : List Int) = [] := List.eq_nil_of_length_eq_zero (by rw [srt_len]; rfl)
    rw [hs] at eo
    have e2 := congrArg Prod.snd eo
    have e2 : (best Ls at_ [] p).2.items = o ++ (best Ls (at_ + 1) [] (plE Ls[at_] o p)).2.items := e2
    rw [e2, List.length_append, best_lens Ls m (at_ + 1) _ (by omega), List.drop_eq_getElem_cons hi]
    have := co.len
    show o.length + lens (Ls.drop (at_ + 1)) = Ls[at_].length + lens (Ls.drop (at_ + 1))
    have this : 0 + o.length = _ := this
    omega
theorem chunks_cons {L : List C3} {Ls : List (List C3)} {o xs : List (Int × Int)} (h : o.length = L.length) : chunks (L :: Ls) (o ++ xs) = o :: chunks Ls xs := by
  show (o ++ xs).take L.length :: chunks Ls ((o ++ xs).drop L.length) = _
  rw [← h, List.take_left, List.drop_left]
/-- the best of all, a list for each layer -/
def bestLL (Ls : List (List C3)) (at_ : Nat) (p : Int × Int) : LL := toLL (Ls.drop at_) (ofAO (best Ls at_ [] p))
/-- an order of this layer, then the best behind it -/
def goalLL (Ls : List (List C3)) (at_ : Nat) (g : Goal) : LL := (g.2.1 + (bestLL Ls (at_ + 1) g.1).1, g.2.2 :: (bestLL Ls (at_ + 1) g.1).2)
theorem goals_bestLL {Ls : List (List C3)} {at_ : Nat} {L : List C3} {p : Int × Int} {gs : List Goal} (hL : Ls[at_]? = some L) (x : GoalsOk L p gs) : ∃ y ys, gs.map (goalLL Ls at_) = y :: ys ∧ PySem.W.minOf y ys = bestLL Ls at_ p := by
  obtain ⟨y, ys, e, h⟩ := goals_best hL x
  obtain ⟨hi, eL⟩ := List.getElem?_eq_some_iff.mp hL
  have ed : Ls.drop at_ = L :: Ls.drop (at_ + 1) := by rw [List.drop_eq_getElem_cons hi, eL]
  have ll : ∀ g ∈ gs, goalLL Ls at_ g = toLL (Ls.drop at_) (goalM Ls at_ g) := fun g hg => by
    have hl : g.2.2.length = L.length := by have := (x.ok g hg).1.len; simpa using this
    rw [ed]
    refine Prod.ext rfl ?_
    exact (chunks_cons hl).symm
  have ln : ∀ a ∈ y :: ys, a.2.length = lens (Ls.drop at_) := fun a ha => by
    rw [← e] at ha
    obtain ⟨g, hg, rfl⟩ := List.mem_map.mp ha
    have hl : g.2.2.length = L.length := by have := (x.ok g hg).1.len; simpa using this
    show (g.2.2 ++ _).length = _
    rw [List.length_append, best_lens Ls _ (at_ + 1) g.1 rfl, ed, hl]
    rfl
  refine ⟨toLL (Ls.drop at_) y, ys.map (toLL (Ls.drop at_)), ?_, ?_⟩
  · rw [List.map_congr_left ll, ← List.map_cons, ← e, List.map_map]
    rfl
  · rw [minOf_toLL ys y ln, h]
    rfl
end Ly
end

section
set_option Elab.async false
set_option linter.all false
set_option maxRecDepth 100000
set_option maxHeartbeats 4000000
/-! what the law knows of a layer's orders by what is done and where they end -/
namespace LP
open PySem PySem.Spec PyProof.Rows L2 Ly GY
section
variable [LamTab] {P : Program} {W0 : World} {K : PySem.W.Frag} {mg : Str → Option Value} {base : Heap} {av : List Addr}
theorem dn_exts {H : Hp} {a : Addr} {kvs : List (NestedKey × V)} (d : GD.DN K P W0 H a kvs) : Exts H [a] := fun b hb => by
  obtain ⟨φ, M, e, _⟩ := d
  rw [List.mem_singleton.mp hb]
  exact ⟨_, e⟩
/-- the dict's entries, one by one -/
def HK (K : PySem.W.Frag) (H : Hp) (av : List Addr) : List (NestedKey × V) → List DpE → Prop := fun kvs hs => Paired (fun (kv : NestedKey × V) (e : DpE) => kv.1 = kL e.1.1 e.1.2 ∧ AtL K H av kv.2 (toAO e.2)) kvs hs
theorem HK.mono {S : List Addr} {H H' : Hp} {kvs : List (NestedKey × V)} {hs : List DpE} (x : HK K H av kvs hs) (k : Kp S H H') (n : Exts H S) : HK K H' av kvs hs :=
  paired_imp (fun kv e r => ⟨r.1, r.2.mono k fun b zs h _ => n.lst h⟩) x
theorem HK.keys {H : Hp} : ∀ {kvs : List (NestedKey × V)} {hs : List DpE}, HK K H av kvs hs → kvs.map (·.1) = hs.map fun e => kL e.1.1 e.1.2
  | _, _, .nil => rfl
  | _, _, .cons a t => by rw [List.map_cons, List.map_cons, a.1, HK.keys t]
theorem HK.nodup {H : Hp} {kvs : List (NestedKey × V)} {hs : List DpE} (x : HK K H av kvs hs) (nd : (hs.map (·.1)).Nodup) : (kvs.map (·.1)).Nodup := by
  rw [x.keys]
  refine List.pairwise_map.mpr ((List.pairwise_map.mp nd).imp fun {a b} h e => ?_)
  obtain ⟨h1, h2⟩ := kL_inj e
  exact h (Prod.ext h1 h2)
theorem HK.le {H : Hp} {kvs : List (NestedKey × V)} {hs : List DpE} {L : List C3} (x : HK K H av kvs hs) (nd : (hs.map (·.1)).Nodup) (m : Rm [L]) (g : ∀ e ∈ hs, Lg [L] 0 e.1.1 e.1.2) : kvs.length ≤ 4096 := by
  have := nodup_le (U := UL) (x.nodup nd) fun k hk => by
    rw [x.keys] at hk
    obtain ⟨e, he, rfl⟩ := List.mem_map.mp hk
    exact mem_UL m (g e he)
  rwa [UL_len, List.length_map] at this
theorem HK.val {H : Hp} {d : List Int} {p : Int × Int} : ∀ {kvs : List (NestedKey × V)} {hs : List DpE}, HK K H av kvs hs → (GD.valN kvs (kL d p) = none ∧ hasE hs (d, p) = false) ∨ ∃ v e, GD.valN kvs (kL d p) = some v ∧ e ∈ hs ∧ e.1 = (d, p) ∧ AtL K H av v (toAO e.2)
  | _, _, .nil => .inl ⟨rfl, rfl⟩
  | kv :: _, e :: _, .cons a t => by
    have ih := HK.val (d := d) (p := p) t
    unfold GD.valN hasE at ih ⊢
    rw [List.find?_cons, List.any_cons]
    by_cases z : e.1 = (d, p)
    · have zk : kv.1 = kL d p := by rw [a.1, z]
      rw [decide_eq_true zk]
      exact .inr ⟨kv.2, e, rfl, List.mem_cons_self, z, a.2⟩
    · have zk : ¬ kv.1 = kL d p := fun q => z (by
        rw [a.1] at q
        obtain ⟨h1, h2⟩ := kL_inj q
        exact Prod.ext h1 h2)
      rw [decide_eq_false zk, decide_eq_false z]
      rcases ih with ⟨h1, h2⟩ | ⟨v, e', h1, h2, h3, h4⟩
      · exact .inl ⟨h1, by rw [h2]; rfl⟩
      · exact .inr ⟨v, e', h1, List.mem_cons_of_mem _ h2, h3, h4⟩
theorem HK.mapd {H : Hp} {d : List Int} {p : Int × Int} {v : V} {a : AL} (hv : AtL K H av v (toAO a)) : ∀ {kvs : List (NestedKey × V)} {hs : List DpE}, HK K H av kvs hs → HK K H av (kvs.map fun q => if q.1 = kL d p then (q.1, v) else q) (hs.map fun e => if e.1 = (d, p) then (e.1, a) else e)
  | _, _, .nil => .nil
  | kv :: _, e :: _, .cons x t => by
    refine .cons ?_ (HK.mapd hv t)
    dsimp only
    by_cases z : e.1 = (d, p)
    · have zk : kv.1 = kL d p := by rw [x.1, z]
      rw [if_pos zk, if_pos z]
      exact ⟨x.1, hv⟩
    · have zk : ¬ kv.1 = kL d p := fun q => z (by
        rw [x.1] at q
        obtain ⟨h1, h2⟩ := kL_inj q
        exact Prod.ext h1 h2)
      rw [if_neg zk, if_neg z]
      exact x
theorem HK.put {H : Hp} {d : List Int} {p : Int × Int} {v : V} {a : AL} {kvs : List (NestedKey × V)} {hs : List DpE} (x : HK K H av kvs hs) (hv : AtL K H av v (toAO a)) : HK K H av (GD.putN kvs (kL d p) v) (put5 hs (d, p) a) := by
  unfold GD.putN put5
  rcases x.val (d := d) (p := p) with ⟨h1, h2⟩ | ⟨v', e, h1, h2, h3, h4⟩
  · rw [h1, h2, if_neg (by decide), if_neg (by decide)]
    exact paired_snoc ⟨rfl, hv⟩ x
  · have : hasE hs (d, p) = true := hasE_iff.mpr (List.mem_map.mpr ⟨e, h2, h3⟩)
    rw [h1, this, if_pos (by rfl), if_pos rfl]
    exact x.mapd hv
theorem put5_key {l : List DpE} {k : EKey} {a : AL} {e : DpE} (h : e ∈ put5 l k a) : e.1 ∈ l.map (·.1) ∨ e.1 = k := by
  unfold put5 at h
  split at h
  · obtain ⟨f, hf, rfl⟩ := List.mem_map.mp h
    refine .inl (List.mem_map.mpr ⟨f, hf, ?_⟩)
    show f.1 = (if f.1 = k then (f.1, a) else f).1
    split <;> rfl
  · rcases List.mem_append.mp h with z | z
    · exact .inl (List.mem_map.mpr ⟨e, z, rfl⟩)
    · rw [List.mem_singleton.mp z]; exact .inr rfl
/-- the dict of the later ones -/
structure LI (P : Program) (W0 : World) (K : PySem.W.Frag) (H : Hp) (av : List Addr) (dl : Addr) (L : List C3) (cs : List DpE) (kvs : List (NestedKey × V)) (later : List DpE) : Prop where
  dn : GD.DN K P W0 H dl kvs
  hk : HK K H av kvs later
  ok : LatOk cs later
  lg : ∀ e ∈ later, Lg [L] 0 e.1.1 e.1.2
theorem LI.exts {H : Hp} {dl : Addr} {L : List C3} {cs later : List DpE} {kvs : List (NestedKey × V)} (x : LI P W0 K H av dl L cs kvs later) : Exts H [dl] := fun a ha => by
  obtain ⟨φ, M, e, _⟩ := x.dn
  rw [List.mem_singleton.mp ha]
  exact ⟨_, e⟩
theorem LI.mono0 {H H' : Hp} {dl : Addr} {L : List C3} {cs later : List DpE} {kvs : List (NestedKey × V)} (x : LI P W0 K H av dl L cs kvs later) (k : Kp [] H H') : LI P W0 K H' av dl L cs kvs later :=
  ⟨dn_mono k List.not_mem_nil x.dn, x.hk.mono k (fun a h => by cases h), x.ok, x.lg⟩
theorem LI.put {H H' : Hp} {dl : Addr} {L : List C3} {cs later : List DpE} {kvs : List (NestedKey × V)} {c : DpE} {w : V} {a : AL} (x : LI P W0 K H av dl L cs kvs later) (g : Lg [L] 0 c.1.1 c.1.2) (hv : AtL K H av w (toAO a))
    (ha : (hasE later c.1 = false ∧ a = c.2) ∨ ∃ e ∈ later, e.1 = c.1 ∧ a = if ltL e.2 c.2 = true then e.2 else c.2) (ch : GD.Chg H H' dl) (dn : GD.DN K P W0 H' dl (GD.putN kvs (kL c.1.1 c.1.2) w)) : LI P W0 K H' av dl L (cs ++ [c]) (GD.putN kvs (kL c.1.1 c.1.2) w) (put5 later c.1 a) := by
  have kc : Kp [dl] H H' := Kp.chgN ch (List.mem_singleton.mpr rfl)
  refine ⟨dn, (x.hk.put hv).mono kc x.exts, ?_, fun e he => ?_⟩
  · rcases ha with ⟨h1, h2⟩ | ⟨e, h1, h2, h3⟩
    · rw [h2]; exact lat_new x.ok h1
    · rw [h3]; exact lat_old x.ok h1 h2
  · rcases put5_key he with z | z
    · obtain ⟨f, hf, e1⟩ := List.mem_map.mp z
      rw [← e1]; exact x.lg f hf
    · rw [z]; exact g
/-! ### goals by their places -/
def kP (p : Int × Int) : NestedKey := .tup [.num p.1, .num p.2]
theorem kP_data (p : Int × Int) : (kP p).data = pD p := by simp [kP, NestedKey.data, NestedKey.datas, pD]
theorem kP_depth (p : Int × Int) : (kP p).depth ≤ 8 := by simp [kP, NestedKey.depth, NestedKey.depthAll]
theorem kP_inj {p q : Int × Int} (h : kP p = kP q) : p = q := by
  unfold kP at h
  injection h with h
  injection h with h1 h
  injection h with h2 h
  injection h1 with h1
  injection h2 with h2
  exact Prod.ext h1 h2
theorem keyD_P {H : Hp} {v : V} {p : Int × Int} (h : Dp K H v (pD p)) : GD.KeyD K H v (kP p) := ⟨by rw [kP_data]; exact h, kP_depth _, _, rfl⟩
def GK (K : PySem.W.Frag) (H : Hp) (av : List Addr) : List (NestedKey × V) → List Goal → Prop := fun kvs gs => Paired (fun (kv : NestedKey × V) (g : Goal) => kv.1 = kP g.1 ∧ AtL K H av kv.2 (toAO g.2)) kvs gs
theorem GK.mono {S : List Addr} {H H' : Hp} {kvs : List (NestedKey × V)} {gs : List Goal} (x : GK K H av kvs gs) (k : Kp S H H') (n : Exts H S) : GK K H' av kvs gs :=
  paired_imp (fun kv e r => ⟨r.1, r.2.mono k fun b zs h _ => n.lst h⟩) x
theorem GK.keys {H : Hp} : ∀ {kvs : List (NestedKey × V)} {gs : List Goal}, GK K H av kvs gs → kvs.map (·.1) = gs.map fun g => kP g.1
  | _, _, .nil => rfl
  | _, _, .cons a t => by rw [List.map_cons, List.map_cons, a.1, GK.keys t]
theorem GK.nodup {H : Hp} {kvs : List (NestedKey × V)} {gs : List Goal} (x : GK K H av kvs gs) (nd : (gs.map (·.1)).Nodup) : (kvs.map (·.1)).Nodup := by
  rw [x.keys]
  exact List.pairwise_map.mpr ((List.pairwise_map.mp nd).imp fun {a b} h e => h (kP_inj e))
/-- what the last comprehension gives for each key -/
def RG (K : PySem.W.Frag) (y : V) (kv : NestedKey × V) (H : Hp) : Prop := ∃ t b d p, y = .ref t ∧ SqT K H t [.ref b, kv.2] ∧ kv.1 = kL d p ∧ GD.KeyD K H (.ref b) (kP p)
theorem RG.mono {S : List Addr} {H H' : Hp} {y : V} {kv : NestedKey × V} (k : Kp S H H') (r : RG K y kv H) : RG K y kv H' := by
  obtain ⟨t, b, d, p, e, h1, h2, h3⟩ := r
  exact ⟨t, b, d, p, e, k.sqT h1, h2, key_mono k h3⟩
theorem rg_pairs {H : Hp} : ∀ {ys : List V} {kvs : List (NestedKey × V)} {hs : List DpE}, Paired (fun y kv => RG K y kv H) ys kvs → HK K H av kvs hs → ∃ gk, GD.PairsD K H ys gk ∧ GK K H av gk (hs.map fun e => (e.1.2, e.2))
  | _, _, _, .nil, .nil => ⟨[], .nil, .nil⟩
  | _, kv :: _, e :: _, .cons r t, .cons x u => by
    obtain ⟨gk, h1, h2⟩ := rg_pairs t u
    obtain ⟨tt, b, d, p, e1, q1, q2, q3⟩ := r
    have e2 := q2.symm.trans x.1
    obtain ⟨_, e3⟩ := kL_inj e2
    subst e3
    exact ⟨(kP e.1.2, kv.2) :: gk, .cons ⟨tt, b, e1, q1, q3⟩ h1, .cons ⟨rfl, x.2⟩ h2⟩
theorem goals_few {gs : List Goal} (nd : (gs.map (·.1)).Nodup) (h : ∀ g ∈ gs, inPl g.1 = true) : gs.length ≤ 16 := by
  have := nodup_le (U := (List.range 4).flatMap fun (x : Nat) => (List.range 4).map fun (y : Nat) => (((x : Int), (y : Int)) : Int × Int)) nd fun p hp => by
    obtain ⟨g, hg, rfl⟩ := List.mem_map.mp hp
    have := h g hg
    unfold inPl at this
    rw [Bool.and_eq_true, btw_iff, btw_iff] at this
    refine List.mem_flatMap.mpr ⟨g.1.1.toNat, List.mem_range.mpr (by omega), List.mem_map.mpr ⟨g.1.2.toNat, List.mem_range.mpr (by omega), Prod.ext ?_ ?_⟩⟩
    · show ((g.1.1.toNat : Nat) : Int) = g.1.1; omega
    · show ((g.1.2.toNat : Nat) : Int) = g.1.2; omega
  rw [List.length_map] at this
  exact this
end
end LP
end

section
set_option Elab.async false
set_option linter.all false
set_option maxRecDepth 100000
set_option maxHeartbeats 4000000
/-! _law_strokes -/
namespace LP
open PySem PySem.Spec PyProof.Rows L2 Ly GY
variable [LamTab] {P : Program} {W0 : World} {K : PySem.W.Frag} {mg : Str → Option Value} {base : Heap}
/-! ### the law's runs -/
def rowI (b : Nat → Bool) : List Int := ((List.range 4).filter b).map fun x : Nat => (x : Int)
def begI (r : List Int) : List Int := r.filter fun x => !decide (x - 1 ∈ r)
def lasI (r : List Int) : List Int := r.filter fun x => !decide (x + 1 ∈ r)
def lawRuns (b : Nat → Bool) : List (Int × Int) := (List.range (begI (rowI b)).length).map fun k => ((begI (rowI b)).getD k 0, (lasI (rowI b)).getD k 0)
def tb4 (b0 b1 b2 b3 : Bool) (x : Nat) : Bool := [b0, b1, b2, b3].getD x false
theorem runs_congr {b c : Nat → Bool} : ∀ {n : Nat}, (∀ x, x < n → b x = c x) → runsTo b n = runsTo c n
  | 0, _ => rfl
  | n + 1, h => by
    show stepR b (runsTo b n) n = stepR c (runsTo c n) n
    rw [runs_congr fun x hx => h x (by omega)]
    unfold stepR
    rw [h n (by omega), h (n - 1) (by omega)]
theorem rowI_congr {b c : Nat → Bool} (h : ∀ x, x < 4 → b x = c x) : rowI b = rowI c := by
  unfold rowI
  rw [List.filter_congr fun x hx => h x (List.mem_range.mp hx)]
theorem tb4_eq (b : Nat → Bool) : ∀ x, x < 4 → b x = tb4 (b 0) (b 1) (b 2) (b 3) x := by
  intro x hx
  rcases (show x = 0 ∨ x = 1 ∨ x = 2 ∨ x = 3 by omega) with rfl | rfl | rfl | rfl <;> rfl
theorem law_runs4 : ∀ b0 b1 b2 b3 : Bool, lawRuns (tb4 b0 b1 b2 b3) = runsTo (tb4 b0 b1 b2 b3) 4 ∧ (lasI (rowI (tb4 b0 b1 b2 b3))).length = (begI (rowI (tb4 b0 b1 b2 b3))).length := by decide +kernel
theorem law_runs (b : Nat → Bool) : lawRuns b = runsTo b 4 ∧ (lasI (rowI b)).length = (begI (rowI b)).length := by
  have e := tb4_eq b
  rw [runs_congr e]
  unfold lawRuns
  rw [rowI_congr e]
  exact law_runs4 _ _ _ _
theorem rowI_len (b : Nat → Bool) : (rowI b).length ≤ 4 := by
  unfold rowI
  rw [List.length_map]
  exact Nat.le_trans (List.length_filter_le _ _) (by simp)
theorem begI_len (r : List Int) : (begI r).length ≤ r.length := List.length_filter_le _ _
theorem lasI_len (r : List Int) : (lasI r).length ≤ r.length := List.length_filter_le _ _
theorem at_getD {l : List Int} {k : Nat} (h : k < l.length) : atI (l.map V.int) (k : Int) = some (.int (l.getD k 0)) := by
  refine atI_nat ?_
  rw [List.getElem?_map, List.getElem?_eq_getElem h, List.getD_eq_getElem?_getD, List.getElem?_eq_getElem h]
  rfl
def spLStr (K : PySem.W.Frag) : Sp := fun vs H Q _ => ∃ (v : V) (cs : List C3) (z : Int), vs = [v, .int z] ∧ CellsL K H v cs ∧ ∀ (H' : Hp) (r : Addr) (ys : List V), Kp [] H H' → H r = none → H' r = some (.lst ys) → Items K H' ys (strk cs z) → Q (.ref r) H'
theorem scLStr : FnScope ["_law_some", "_law_z", "_law_found", "_law_y", "_law_row", "_law_begins", "_law_lasts", "_law_x", "_law_k"] ["_law_some", "_law_z"] (defScope lStrokes) := ⟨rfl, rfl, rfl, by decide +kernel, rfl, by decide +kernel, by decide +kernel⟩
theorem ok_lstr {f : Addr} {fd : FuncData} (F : Fun K "_law_strokes" "_law_strokes" lStrokes f fd) (T : Nm K mg) : FnOk P W0 K mg base CX0 1 f fd ["_law_some", "_law_z"] (spLStr K) := by
  refine F.ok scLStr (fun vs H Q E h => ?_) (fun cdv A outer s H vs Q E hr h => ?_)
  · obtain ⟨v, cs, z, rfl, _⟩ := h
    rfl
  · obtain ⟨v, cs, z, rfl, hC, q⟩ := h
    refine ⟨_, pss_cons (ps_set (i := 2) scLStr.nd rfl (.inl rfl) (pe_lst pa_nil))
      (pss_cons (ps_for PassesOwn.never rfl (pi_range1 (by rfl) T.range (pa_cons pe_int pa_nil)) (pg_name (i := 3) scLStr.nd rfl (.inr rfl))
        (pss_cons (ps_set (i := 4) scLStr.nd rfl (.inr rfl) (pe_lc (own := [("_law_x", 7)]) (g := gName 7) rfl scLStr.nd (pi_range1 (by rfl) T.range (pa_cons pe_int pa_nil)) (blkOk_by (own := [("_law_x", 7)]) (N := ["_law_some", "_law_z", "_law_found", "_law_y", "_law_row", "_law_begins", "_law_lasts", "_law_x", "_law_k"]) (sc := defScope lStrokes) (by decide +kernel))
          (fun _ _ _ _ _ => pg_name (i := 7) scLStr.nd rfl (.inl rfl)) (fun _ _ _ _ _ => pts_one (pt_cmpR (r := rInD K) (op_inD (u65 hr)) (pe_tup (pa_cons (pv 7) (pa_cons (pv 3) (pa_cons (pv 1) pa_nil)))) (pv 0) (by rfl))) (fun _ _ _ _ _ => pv 7)))
        (pss_cons (ps_set (i := 5) scLStr.nd rfl (.inr rfl) (pe_lc (own := [("_law_x", 7)]) (g := gName 7) rfl scLStr.nd (pi_list (pv 4)) (blkOk_by (own := [("_law_x", 7)]) (N := ["_law_some", "_law_z", "_law_found", "_law_y", "_law_row", "_law_begins", "_law_lasts", "_law_x", "_law_k"]) (sc := defScope lStrokes) (by decide +kernel))
          (fun _ _ _ _ _ => pg_name (i := 7) scLStr.nd rfl (.inl rfl)) (fun _ _ _ _ _ => pts_one (pt_cmpR (r := rIn K true) op_notIn_seq (pe_op op_sub (pv 7) pe_int) (pv 4) (by rfl))) (fun _ _ _ _ _ => pv 7)))
        (pss_cons (ps_set (i := 6) scLStr.nd rfl (.inr rfl) (pe_lc (own := [("_law_x", 7)]) (g := gName 7) rfl scLStr.nd (pi_list (pv 4)) (blkOk_by (own := [("_law_x", 7)]) (N := ["_law_some", "_law_z", "_law_found", "_law_y", "_law_row", "_law_begins", "_law_lasts", "_law_x", "_law_k"]) (sc := defScope lStrokes) (by decide +kernel))
          (fun _ _ _ _ _ => pg_name (i := 7) scLStr.nd rfl (.inl rfl)) (fun _ _ _ _ _ => pts_one (pt_cmpR (r := rIn K true) op_notIn_seq (pe_op op_add (pv 7) pe_int) (pv 4) (by rfl))) (fun _ _ _ _ _ => pv 7)))
        (pss_one (ps_expr (pe_bm PySem.F.plainAttrs_list PySem.F.slot_list_extend PySem.F.type_list_extend mt_extend (pv 2) (pa_cons
          (pe_lc (own := [("_law_k", 8)]) (g := gName 8) rfl scLStr.nd (pi_range1 (by rfl) T.range (pa_cons (pe_callB call_len_seq (by rfl) T.len PySem.boot_len (pa_cons (pv 5) pa_nil)) pa_nil)) (blkOk_by (own := [("_law_k", 8)]) (N := ["_law_some", "_law_z", "_law_found", "_law_y", "_law_row", "_law_begins", "_law_lasts", "_law_x", "_law_k"]) (sc := defScope lStrokes) (by decide +kernel))
          (fun _ _ _ _ _ => pg_name (i := 8) scLStr.nd rfl (.inl rfl)) (fun _ _ _ _ _ => pts_nil) (fun _ _ _ _ _ => pe_tup (pa_cons (pv 3) (pa_cons (pe_ix (r := rIxL K) ix_list (pv 5) (pv 8) (fun _ _ => rfl)) (pa_cons (pe_ix (r := rIxL K) ix_list (pv 6) (pv 8) (fun _ _ => rfl)) pa_nil))))) pa_nil))))))))
      (pss_one (ps_ret (pv 2)))), ?_⟩
    obtain ⟨ca, cxs, rfl, hcL, hcI⟩ := of_cellsL hC
    refine ⟨Nat.zero_le _, fun D hD => ?_⟩
    refine nameI (i := 2) (v := .ref D) (σ := [some (.ref ca), some (.int z), none, none, none, none, none, none, none]) ?_
    refine ⟨4, rfl, by decide, by decide, for_range (lo := 0) (n := 4) (fun i σ H' => Kp [] H H' ∧ (∃ o3 o4 o5 o6, σ = [some (.ref ca), some (.int z), some (.ref D), o3, o4, o5, o6, none, none]) ∧ ∃ acc, H' D = some (.lst acc) ∧ Items K H' acc ((List.range i).flatMap (strkY cs z)))
      ⟨Kp.new hD, ⟨_, _, _, _, rfl⟩, [], upd_same, .nil⟩ (fun i σ H' hi pv => ?_) (fun σ H' pv => ?_)⟩
    rotate_left
    · obtain ⟨k, ⟨o3, o4, o5, o6, rfl⟩, acc, hA, hI⟩ := pv
      exact ⟨_, rfl, q H' D acc k hD hA hI⟩
    · obtain ⟨k, ⟨o3, o4, o5, o6, rfl⟩, acc, hA, hI⟩ := pv
      have e0 : (0 : Int) + (i : Int) = (i : Int) := Int.zero_add _
      rw [e0]
      refine ⟨4, rfl, by decide, by decide, fun D1 hD1 => lc_dataR (K := K) (n := 4) (lo := 0) (fun x => decide (((x : Int), (i : Int), z) ∈ cs)) (fun x => .int (x : Int)) (fun _ => rfl) hD1 (by decide) (fun x H2 Nx Z hx k2 n1 n2 => ?t1) (fun H2 rs k2 h2 d2 => ?d1)⟩
      case t1 =>
        rw [Int.zero_add]
        refine ⟨rfl, _, rfl, _, rfl, _, rfl, (by show 3 ≤ sizeLine; decide), fun t ht => ?_⟩
        have kt := Kp.new (S := []) (o := .tup [.int (x : Int), .int (i : Int), .int z]) ht
        have kk := (k.trans k2).trans kt
        refine ⟨_, rfl, cD ((x : Int), (i : Int), z), cs.map cD, dp_c (SqT.of upd_same), .lst (kk.sqL hcL List.not_mem_nil) (items_mono kk hcI), cD_shaped _, cDs_shapedL cs, _, rfl, ?_⟩
        rw [any_eqv]
        cases e : decide (((x : Int), (i : Int), z) ∈ cs) with
        | true => exact iteT ⟨_, rfl, n1 _ _ kt e (.int _)⟩
        | false => exact iteF (n2 _ kt e)
      case d1 =>
        have d2' : DpAll K H2 rs ((rowI fun x => decide (((x : Int), (i : Int), z) ∈ cs)).map PyData.int) := by
          unfold rowI
          rw [List.map_map]
          exact d2
        have hrs := dps_ints d2'
        have hRl := rowI_len fun x => decide (((x : Int), (i : Int), z) ∈ cs)
        have hLR := law_runs fun x => decide (((x : Int), (i : Int), z) ∈ cs)
        have hstr : strkY cs z i = (lawRuns fun x => decide (((x : Int), (i : Int), z) ∈ cs)).map fun p => ((i : Int), p.1, p.2) := by rw [hLR.1]; rfl
        unfold lawRuns at hstr
        have hll := hLR.2
        clear hLR
        clear d2
        generalize (rowI fun x => decide (((x : Int), (i : Int), z) ∈ cs)) = row at d2' hrs hRl hstr hll
        subst hrs
        have hbl := begI_len row
        refine ⟨_, rfl, D1, rfl, ⟨_, SqL.of h2⟩, fun D2 hD2 => lc_dataL (K := K) row PyData.int (fun x => !decide (x - 1 ∈ row)) PyData.int (fun _ => rfl) (fun _ _ => rfl) hD2 (SqL.of h2) d2' (by omega) (fun c x H3 Nx Z hc k3 hx n1 n2 => ?t2) (fun H3 bs k3 h3 d3 => ?d2)⟩
        case t2 =>
          have ex := of_dpi hx
          subst ex
          refine ⟨rfl, _, rfl, _, _, rfl, rfl, _, rfl, D1, _, rfl, .inl (SqL.of (k3.lst h2 List.not_mem_nil)), rfl, flat_ints _, _, rfl, ?_⟩
          rw [if_pos rfl, inV_ints]
          cases e : decide (c - 1 ∈ row) with
          | true => exact iteF (n2 _ (Kp.refl _ _) (by rw [e]; rfl))
          | false => exact iteT ⟨_, rfl, n1 _ _ (Kp.refl _ _) (by rw [e]; rfl) (.int _)⟩
        case d2 =>
          have hbs : bs = (begI row).map V.int := dps_ints d3
          subst hbs
          have h2b := k3.lst h2 List.not_mem_nil
          refine ⟨_, rfl, D1, rfl, ⟨_, SqL.of h2b⟩, fun D3 hD3 => lc_dataL (K := K) row PyData.int (fun x => !decide (x + 1 ∈ row)) PyData.int (fun _ => rfl) (fun _ _ => rfl) hD3 (SqL.of h2b) (dps_keep k3 (noLs_map (fun _ => rfl) _) d2') (by omega) (fun c x H4 Nx Z hc k4 hx n1 n2 => ?t3) (fun H4 ls k4 h4 d4 => ?d3)⟩
          case t3 =>
            have ex := of_dpi hx
            subst ex
            refine ⟨rfl, _, rfl, _, _, rfl, rfl, _, rfl, D1, _, rfl, .inl (SqL.of (k4.lst h2b List.not_mem_nil)), rfl, flat_ints _, _, rfl, ?_⟩
            rw [if_pos rfl, inV_ints]
            cases e : decide (c + 1 ∈ row) with
            | true => exact iteF (n2 _ (Kp.refl _ _) (by rw [e]; rfl))
            | false => exact iteT ⟨_, rfl, n1 _ _ (Kp.refl _ _) (by rw [e]; rfl) (.int _)⟩
          case d3 =>
            have hls : ls = (lasI row).map V.int := dps_ints d4
            subst hls
            have h3b := k4.lst h3 List.not_mem_nil
            have k24 := (k2.trans k3).trans k4
            have hA4 := k24.lst hA List.not_mem_nil
            have hbz : (begI row).length ≤ 4 := by omega
            refine ⟨_, rfl, .inl ⟨rfl, _, SqL.of hA4⟩, _, rfl, D2, _, rfl, .inl (SqL.of h3b), ((begI row).length : Int), (by rw [List.length_map]), by omega, by omega, fun D4 hD4 => lc_dataR (K := K) (n := (begI row).length) (lo := 0) (fun _ => true) (fun j => cD ((i : Int), (begI row).getD j 0, (lasI row).getD j 0)) (fun _ => rfl) hD4 (by omega) (fun j H5 Nx Z hj k5 n1 n2 => ?t4) (fun H5 zs k5 h5 d5 => ?d4)⟩
            case t4 =>
              rw [Int.zero_add]
              refine ⟨rfl, yesI ?_⟩
              refine ⟨_, rfl, _, rfl, _, rfl, D2, _, _, _, rfl, rfl, SqL.of (k5.lst h3b List.not_mem_nil), at_getD hj, _, rfl, _, rfl, D3, _, _, _, rfl, rfl, SqL.of (k5.lst h4 List.not_mem_nil), at_getD (by omega), (by show 3 ≤ sizeLine; decide), fun t ht => ?_⟩
              exact n1 _ _ (Kp.new ht) rfl (dp_c (SqT.of upd_same))
            case d4 =>
              have k25 := k24.trans k5
              have hA5 := k5.lst hA4 List.not_mem_nil
              have ef : (List.range (begI row).length).filter (fun _ => true) = List.range (begI row).length := List.filter_eq_self.mpr fun _ _ => rfl
              rw [ef] at d5
              have hzl := d5.length
              rw [List.length_map, List.length_range] at hzl
              have hal := hI.length
              have hfl := flatY_len cs z i
              refine ⟨D, D4, acc, zs, rfl, rfl, hA5, h5, small_size (by omega) |> Nat.le_of_lt, (k.trans k25).chg0 hD hA5, ⟨_, _, _, _, rfl⟩, _, upd_same, ?_⟩
              have kc : Kp [D] H5 (upd H5 D (.lst (acc ++ zs))) := Kp.chg hA5 (List.mem_singleton.mpr rfl)
              rw [flatY_succ, hstr, List.map_map]
              refine Items.append (items_mono kc (items_mono k25 hI)) (dps_keep kc (noLs_cs _) ?_)
              rw [List.map_map]
              exact d5
end LP
end

section
set_option Elab.async false
set_option linter.all false
set_option maxRecDepth 100000
set_option maxHeartbeats 4000000
/-! _law_draw, _law_small, _law_way -/
namespace LP
open PySem PySem.Spec PyProof.Rows L2 Ly GY
section
variable [LamTab] {P : Program} {W0 : World} {K : PySem.W.Frag} {mg : Str → Option Value} {base : Heap}
theorem iabs_sub (a b : Int) : (if a - b < 0 then -(a - b) else a - b) = iabs (b - a) := by
  unfold iabs
  split <;> split <;> omega
/-! ### _law_draw -/
def spDraw (K : PySem.W.Frag) : Sp := fun vs H Q _ => ∃ (u v : V) (r : C3) (w : Int) (p : Int × Int), vs = [u, .int w, v] ∧ (w = 0 ∨ w = 1) ∧ Dp K H u (cD r) ∧ Dp K H v (pD p) ∧ ∀ (H' : Hp) (t e : Addr), Kp [] H H' → SqT K H' t [.int (stepsI p (endsI r w).1), .ref e] → SqT K H' e [.int (endsI r w).2.1, .int (endsI r w).2.2] → Q (.ref t) H'
theorem scDraw : FnScope ["_law_run", "_law_way", "_law_place", "_law_y", "_law_first", "_law_last", "_law_begin", "_law_end"] ["_law_run", "_law_way", "_law_place"] (defScope lDraw) := ⟨rfl, rfl, rfl, by decide +kernel, rfl, by decide +kernel, by decide +kernel⟩
theorem ok_draw {f : Addr} {fd : FuncData} (F : Fun K "_law_draw" "_law_draw" lDraw f fd) (O : No mg) : FnOk P W0 K mg base CX0 1 f fd ["_law_run", "_law_way", "_law_place"] (spDraw K) := by
  refine F.ok scDraw (fun vs H Q E h => ?_) (fun cdv A outer s H vs Q E hr h => ?_)
  · obtain ⟨u, v, r, w, p, rfl, _⟩ := h
    rfl
  · obtain ⟨u, v, r, w, p, rfl, hw, hu, hv, q⟩ := h
    refine ⟨_, pss_cons (ps_asg (pv 0) (pg_tup rfl (pgs_cons (pg_name (i := 3) scDraw.nd rfl (.inl rfl)) (pgs_cons (pg_name (i := 4) scDraw.nd rfl (.inl rfl)) (pgs_cons (pg_name (i := 5) scDraw.nd rfl (.inl rfl)) pgs_nil)))))
      (pss_cons (ps_asg (pe_ix (r := rIxL K) ix_list (pe_lst (pa_cons (pe_tup (pa_cons (pv 4) (pa_cons (pv 5) pa_nil))) (pa_cons (pe_tup (pa_cons (pv 5) (pa_cons (pv 4) pa_nil))) pa_nil))) (pv 1) (fun _ _ => rfl)) (pg_tup rfl (pgs_cons (pg_name (i := 6) scDraw.nd rfl (.inl rfl)) (pgs_cons (pg_name (i := 7) scDraw.nd rfl (.inl rfl)) pgs_nil))))
      (pss_one (ps_ret (pe_tup (pa_cons (pe_op op_add (pe_callB call_abs (by rfl) O.abs (by decide +kernel) (pa_cons (pe_op op_sub (pv 6) (pe_ix (r := rIxT K) ix_tup (pv 2) pe_int (fun _ _ => rfl))) pa_nil))
        (pe_callB call_abs (by rfl) O.abs (by decide +kernel) (pa_cons (pe_op op_sub (pv 3) (pe_ix (r := rIxT K) ix_tup (pv 2) pe_int (fun _ _ => rfl))) pa_nil))) (pa_cons (pe_tup (pa_cons (pv 7) (pa_cons (pv 3) pa_nil))) pa_nil)))))), ?_⟩
    obtain ⟨pc, rfl, hT⟩ := of_dp_c hu
    obtain ⟨pp, rfl, hp⟩ := of_pD hv
    refine ⟨_, rfl, pc, _, rfl, hT, rfl, _, _, rfl, _, _, rfl, _, _, rfl, rfl, ?_⟩
    refine ⟨_, rfl, _, rfl, (by show 2 ≤ sizeLine; decide), fun t1 h1 => ⟨_, rfl, _, rfl, (by show 2 ≤ sizeLine; decide), fun t2 h2 => ⟨(by show 2 ≤ sizeLine; decide), fun lo hlo => ?_⟩⟩⟩
    have k1 : Kp [] H (upd H t1 (.tup [.int r.2.1, .int r.2.2])) := Kp.new h1
    have e1 : SqT K (upd H t1 (.tup [.int r.2.1, .int r.2.2])) t1 [.int r.2.1, .int r.2.2] := SqT.of upd_same
    generalize upd H t1 (.tup [.int r.2.1, .int r.2.2]) = H1 at k1 e1 h2 hlo ⊢
    have k2 : Kp [] H1 (upd H1 t2 (.tup [.int r.2.2, .int r.2.1])) := Kp.new h2
    have e2 : SqT K (upd H1 t2 (.tup [.int r.2.2, .int r.2.1])) t2 [.int r.2.2, .int r.2.1] := SqT.of upd_same
    have e12 := k2.sqT e1
    generalize upd H1 t2 (.tup [.int r.2.2, .int r.2.1]) = H2 at k2 e2 e12 hlo ⊢
    have k3 : Kp [] H2 (upd H2 lo (.lst [.ref t1, .ref t2])) := Kp.new hlo
    have e3 : SqL K (upd H2 lo (.lst [.ref t1, .ref t2])) lo [.ref t1, .ref t2] := SqL.of upd_same
    have e13 := k3.sqT e12
    have e23 := k3.sqT e2
    generalize upd H2 lo (.lst [.ref t1, .ref t2]) = H3 at k3 e3 e13 e23 ⊢
    have k03 := (k1.trans k2).trans k3
    have hp3 := k03.sqT hp
    have fin : ∀ (x1 x2 : Int), endsI r w = ((x1, r.1), (x2, r.1)) → ∀ t4 : Addr, H3 t4 = none → ∀ t5 : Addr, upd H3 t4 (.tup [.int x2, .int r.1]) t5 = none →
        Q (.ref t5) (upd (upd H3 t4 (.tup [.int x2, .int r.1])) t5 (.tup [.int ((if x1 - p.1 < 0 then -(x1 - p.1) else x1 - p.1) + (if r.1 - p.2 < 0 then -(r.1 - p.2) else r.1 - p.2)), .ref t4])) := fun x1 x2 e t4 h4 t5 h5 => by
      have k4 : Kp [] H3 (upd H3 t4 (.tup [.int x2, .int r.1])) := Kp.new h4
      have k5 := Kp.new (S := []) (o := .tup [.int ((if x1 - p.1 < 0 then -(x1 - p.1) else x1 - p.1) + (if r.1 - p.2 < 0 then -(r.1 - p.2) else r.1 - p.2)), .ref t4]) h5
      refine q _ t5 t4 ((k03.trans k4).trans k5) ?_ ?_
      · rw [e]
        show SqT K _ t5 [.int (iabs (p.1 - x1) + iabs (p.2 - r.1)), .ref t4]
        rw [← iabs_sub x1 p.1, ← iabs_sub r.1 p.2]
        exact SqT.of upd_same
      · rw [e]
        exact k5.sqT (SqT.of (K := K) upd_same)
    rcases hw with rfl | rfl
    · refine ⟨_, rfl, lo, _, 0, _, rfl, rfl, e3, rfl, t1, _, rfl, e13, rfl, _, _, rfl, _, _, rfl, rfl, ?_⟩
      exact ⟨_, rfl, _, rfl, pp, _, 0, _, rfl, rfl, hp3, rfl, _, _, rfl, rfl, _, rfl, _, rfl, _, rfl, pp, _, 1, _, rfl, rfl, hp3, rfl, _, _, rfl, rfl, _, rfl, _, _, rfl, rfl, _, rfl, _, rfl, (by show 2 ≤ sizeLine; decide), fun t4 h4 => ⟨(by show 2 ≤ sizeLine; decide), fun t5 h5 => fin r.2.1 r.2.2 rfl t4 h4 t5 h5⟩⟩
    · refine ⟨_, rfl, lo, _, 1, _, rfl, rfl, e3, rfl, t2, _, rfl, e23, rfl, _, _, rfl, _, _, rfl, rfl, ?_⟩
      exact ⟨_, rfl, _, rfl, pp, _, 0, _, rfl, rfl, hp3, rfl, _, _, rfl, rfl, _, rfl, _, rfl, _, rfl, pp, _, 1, _, rfl, rfl, hp3, rfl, _, _, rfl, rfl, _, rfl, _, _, rfl, rfl, _, rfl, _, rfl, (by show 2 ≤ sizeLine; decide), fun t4 h4 => ⟨(by show 2 ≤ sizeLine; decide), fun t5 h5 => fin r.2.2 r.2.1 rfl t4 h4 t5 h5⟩⟩
/-! ### _law_way -/
def rLenK (K : PySem.W.Frag) : List V → Hp → VK → Prop := fun xs H Q => ∃ p ys, xs = [V.ref p] ∧ (SqL K H p ys ∨ SqT K H p ys) ∧ Q (.int ys.length) H
def spSmall (K : PySem.W.Frag) : Sp := fun vs H Q _ => ∃ (h l : Addr) (m : Int), vs = [.ref h, .int m] ∧ Sta H h l ∧ ∀ (H' : Hp) (v : V) (b : Bd), Kp [h, l] H H' → Sta H' h l → Body K H' v b → Good b → dp b ≤ 4 → Q v H'
theorem scSmall : FnScope ["_law_h", "_law_most", "_law_body_here", "_law_some", "_law_z"] ["_law_h", "_law_most"] (defScope lSmall) := ⟨rfl, rfl, rfl, by decide +kernel, rfl, by decide +kernel, by decide +kernel⟩
theorem ok_small {f fB fL fS : Addr} {fd dB dL dS : FuncData} (F : Fun K "_law_small" "_law_small" lSmall f fd) (T : Nm K mg) (U : Nl K mg) (NB : Fn K mg "_law_body" fB dB ["_law_h", "_law_deep"]) (GB : FnOk P W0 K mg base CX0 (21 + 5) fB dB ["_law_h", "_law_deep"] (spLBody K 5))
    (NL : Fn K mg "_law_all" fL dL ["_law_body_here"]) (GL : FnOk P W0 K mg base CX0 21 fL dL ["_law_body_here"] (spAll K)) (NS : Fn K mg "_law_strokes" fS dS ["_law_some", "_law_z"]) (GS : FnOk P W0 K mg base CX0 1 fS dS ["_law_some", "_law_z"] (spLStr K)) : FnOk P W0 K mg base CX0 27 f fd ["_law_h", "_law_most"] (spSmall K) := by
  refine F.ok scSmall (fun vs H Q E h => ?_) (fun cdv A outer s H vs Q E hr h => ?_)
  · obtain ⟨h, l, m, rfl, _⟩ := h
    rfl
  · obtain ⟨h, l, m, rfl, s0, q⟩ := h
    have hr1 : Room 1 _ := hr.mono (by decide)
    have hr21 : Room 21 _ := hr.mono (by decide)
    have hr26 : Room 26 _ := hr.mono (by decide)
    refine ⟨_, pss_cons (ps_set (i := 2) scSmall.nd rfl (.inl rfl) (pe_call GB hr26 (by rfl) NB.m NB.kp NB.b .nil pass0 (pa_cons (pv 0) (pa_cons pe_int pa_nil))))
      (pss_cons (ps_set (i := 3) scSmall.nd rfl (.inr rfl) (pe_call GL hr21 (by rfl) NL.m NL.kp NL.b .nil pass0 (pa_cons (pv 2) pa_nil)))
      (pss_cons (ps_if (pt_cmpR op_le (pe_callB (cr_max rfl) (by rfl) U.max (by decide +kernel) (pa_cons (pe_lc (own := [("_law_z", 4)]) (g := gName 4) rfl scSmall.nd (pi_range1 (by rfl) T.range (pa_cons pe_int pa_nil)) (blkOk_by (own := [("_law_z", 4)]) (N := ["_law_h", "_law_most", "_law_body_here", "_law_some", "_law_z"]) (sc := defScope lSmall) (by decide +kernel))
          (fun _ _ _ _ _ => pg_name (i := 4) scSmall.nd rfl (.inl rfl)) (fun _ _ _ _ _ => pts_nil) (fun _ _ _ _ _ => pe_callB (r := rLenK K) call_len_seq (by rfl) T.len PySem.boot_len (pa_cons (pe_call GS hr1 (by rfl) NS.m NS.kp NS.b .nil pass0 (pa_cons (pv 3) (pa_cons (pv 4) pa_nil))) pa_nil))) pa_nil)) (pv 1) (nomark _)) (pss_one (ps_ret (pv 2))) pss_nil)
      (pss_one (ps_ret (pe_call GB hr26 (by rfl) NB.m NB.kp NB.b .nil pass0 (pa_cons (pv 0) (pa_cons pe_int pa_nil))))))), ?_⟩
    refine ⟨_, rfl, h, l, 3, rfl, by decide, by decide, s0, fun H1 v b k1 s1 hB hg hd => ?_⟩
    refine ⟨_, rfl, v, b, rfl, hB, by omega, fun H2 du dys k2 n2 h2 i2 => ?_⟩
    refine ⟨4, rfl, by decide, by decide, fun D hD => lc_dataR (K := K) (n := 4) (lo := 0) (fun _ => true) (fun z => .int ((strk (all b) (0 + (z : Int))).length : Nat)) (fun _ => rfl) hD (by decide) (fun z H' Nx Z hz k n1 n2 => ?t) (fun H3 ys k3 h3 d3 => ?d)⟩
    case t =>
      refine ⟨rfl, yesP ?_⟩
      refine ⟨_, rfl, _, rfl, _, all b, _, rfl, cellsL_mono k (cellsL_of h2 i2), fun H4 r zs k4 n4 h4 i4 => ?_⟩
      have hl := i4.length
      exact ⟨r, zs, rfl, .inl (SqL.of h4), n1 H4 _ k4 rfl (by rw [hl]; exact .int _)⟩
    case d =>
      have ef : (List.range 4).filter (fun _ => true) = List.range 4 := List.filter_eq_self.mpr fun _ _ => rfl
      rw [ef] at d3
      have ey : ys = ((List.range 4).map fun z : Nat => (((strk (all b) (0 + (z : Int))).length : Nat) : Int)).map V.int := dps_ints (by rw [List.map_map]; exact d3)
      subst ey
      refine ⟨D, _, rfl, SqL.of h3, by rw [List.length_map, List.length_range]; decide, fun mx _ _ => ⟨_, rfl, _, _, rfl, rfl, _, rfl, ?_⟩⟩
      have k23 := k2.trans k3
      by_cases c : mx ≤ m
      · exact itD1 c ⟨_, rfl, q H3 v b (k1.trans k23.w0) (s1.mono0 k23) (body_mono k23 hB) hg hd⟩
      · refine itD0 c ⟨_, rfl, h, l, 0, rfl, by decide, by decide, s1.mono0 k23, fun H4 v4 b4 k4 s4 hB4 hg4 hd4 => q H4 v4 b4 ((k1.trans k23.w0).trans k4) s4 hB4 hg4 (by omega)⟩
end
end LP
end

section
/-! places of more defs of the laws -/
namespace LP
open PySem PySem.Spec PyProof.Rows L2
-- _law_rows: not in this statement
-- _law_turned: not in this statement
-- _law_due: not in this statement
-- _law_is_held: not in this statement
-- _law_are_rows: not in this statement
abbrev lGoals : Stmt := top 56
abbrev lChain : Stmt := top 57
end LP
end

section
set_option Elab.async false
set_option linter.all false
set_option maxRecDepth 100000
set_option maxHeartbeats 2000000
/-! A dict display with one entry whose key is a tuple. -/
namespace GD
open PySem PySem.Spec PyProof.Rows L2
section
variable {X : Cx} {ke ve : Expr} {tk tv : TE}
def tD1 (K : PySem.W.Frag) (P : Program) (w : World) (tk tv : TE) : TE := fun σ H Q => ∀ D H1, New H H1 D → DN K P w H1 D [] → tk σ H1 fun x H2 => tv σ H2 fun y H3 => ∃ k, DN K P w H3 D [] ∧ KeyD K H3 x k ∧ ∀ H4, Chg H3 H4 D → DN K P w H4 D [(k, y)] → Q (.ref D) H4
theorem pe_d1 {pos : Pos} (hu : X.A.units + 64 < cLine) (hk : PE X ke tk) (hv : PE X ve tv) : PE X (.Dict [some ke] [ve] pos) (tD1 X.K X.prog X.w tk tv) := by
  refine ⟨fun pins s σ H Q I h => ?_⟩
  have d0 : Dn0 X.prog X.w (s.heap.push { cls := .type "dict", data := .dict #[] }) s.heap.objs.size [] := by
    refine ⟨beq_eq_false_iff_ne.mpr (Nat.ne_of_gt I.big), Nat.zero_le _, [], .nil, { cls := .type "dict", data := .dict #[] }, #[], 0, ?_, ⟨rfl, rfl, rfl⟩, rfl, rfl, List.nodup_nil⟩
    exact Heap.get?_push_size _ rfl
  have hf : H s.heap.objs.size = none := I.hok.fresh (Nat.le_refl _)
  have I0 := I.laid (a := s.heap.objs.size) (h' := s.heap.push { cls := .type "dict", data := .dict #[] }) (t' := s.toks) (fun _ _ q => Heap.get?_push_of_some _ q) (Nat.le_refl _) (dno_ok d0)
  have hz := zip_pairTrees [some ke] [ve] X.env pos rfl rfl
  have hn := pairTrees_length [some ke] [ve] X.env pos rfl rfl
  have hn : (pairTrees [some ke] [ve] X.env pos).length = 1 := hn
  rw [arm_eval_Dict, hz, dictDisplay_pairs _ (fun e => by rw [e] at hn; cases hn) (by omega)]
  refine wpAny_bind (wpAny_standAt (wpAny_bind (wpAny_subDictH (knd := kn X.prog X.w) (Q := fun d s' => wpAny (model X.prog X.w) X.A (pure (Value.ref d)) (EP X pins σ Q) X.xe s') (by show X.A.units + 8 < cLine; omega) (by omega) ?_)))
  refine pairTrees_cons_walk (thn (hk.run pins _ σ _ _ I0 (h _ _ (new_upd hf d0) (dn_nil d0))) fun u s1 ⟨x, H2, I2, rx, q2⟩ => thn (hv.run pins s1 σ H2 _ I2 q2) fun w' s2 ⟨y, H3, I3, ry, k, d3, hk3, q3⟩ => pairTrees_nil_walk ?_)
  obtain ⟨b, rfl⟩ := hk3.ref
  cases rx
  have ncd := d3.choose_spec.choose_spec.2.2.2.2
  obtain ⟨L, xs, ⟨φ0, e⟩, ek, hks, hsm, z, r, D⟩ := d3.full I3
  have eL : L = [] := List.map_eq_nil_iff.mp ek
  subst eL
  cases r
  refine ⟨[(k, b, w')], ⟨rfl, rfl, hk3.is I3, trivial⟩, D, fun h' tk D' sb => ?_⟩
  have D' : h'.DictOfH (kn X.prog X.w) s.heap.objs.size (storedH [] k b w') := D'
  have new0 : Dn0 X.prog X.w h' s.heap.objs.size (putL [] k b y) := by
    obtain ⟨o, es, ep, h1, h2, h3, h4, _, h5⟩ := D'
    exact ⟨hsm, by have := putL_len [] k b y; rw [sizeLine_eq]; show (putL [] k b y).length ≤ _; have h0 : ([] : List Row).length = 0 := rfl; omega, storedH [] k b w', rows_put .nil ry, o, es, ep, h1, h2, h3, h4, h5⟩
  have he : ∃ q, h'.get? s.heap.objs.size = some q := by
    obtain ⟨o, es, ep, h1, _⟩ := D'
    exact ⟨o, h1⟩
  have c : Chg H3 (upd H3 s.heap.objs.size (DNO X.prog X.w s.heap.objs.size (putL [] k b y))) s.heap.objs.size := ⟨fun b n => upd_ne n, ⟨_, upd_same⟩, ⟨_, e⟩, ncd⟩
  refine wpAny_pure ⟨.ref s.heap.objs.size, _, d_write (t' := tk) I3 (by rw [e]; exact True.intro) sb he (dno_ok new0), rfl, q3 _ c (.mk0 upd_same rfl (fun p hp => (putL_key (L := []) (fun p hp => by cases hp) hk3 p hp).chg c) fun q z => ?_)⟩
  rw [upd_same] at z
  exact not_code new0 q (Option.some.inj z)
end
end GD
end

section
set_option Elab.async false
set_option linter.all false
set_option maxRecDepth 100000
set_option maxHeartbeats 2000000
/-! min of two data. -/
namespace GMin2
open PySem PySem.Spec PyProof.Rows L2
section
variable {prog : Program} {w : World} {A : Around} {E : Value → Shared → Prop} {s : Shared}
theorem two_walk {a b : Value} {Q : Value → Shared → Prop}
    (h : wpAny (model prog w) A.in1 (pyIter (.ref s.heap.objs.size)) (fun it s₂ => ∃ I fp wr G n P St H bt, it = .ref I ∧ WalksS prog w A.in1 I fp wr G n P St ∧ St 0 s₂ ∧ (∀ b ∈ fp, b < s₂.heap.objs.size) ∧ 0 < n ∧
      (∀ b o, H.get? b = some o → b ∉ wr) ∧ (∀ b o, H.get? b = some o → s₂.heap.get? b = some o) ∧ CmpIn prog w A.in1 .Lt H P bt ∧ ∀ v s', P (argBest bt (n - 1)) v → Moved wr G s₂ s' → Q v s') E
      { s with heap := s.heap.push { cls := .type "tuple", data := .seq #[a, b] } }) :
    wpAny (model prog w) A (call (.builtin "min") [a, b]) Q E s := by
  have hname : (toString "min" ++ toString ".loop" : String) = "min.loop" := by decide
  refine call_function_tree F.kind_min F.plain_min F.entry_min (F.args_min2 _ _) ?_
  show wpAny _ A.in1 (Builtin.Builtins.bindParams "min" ["key", "default"] 0 ⟨[], []⟩ >>= _) _ _ s
  refine wpAny_bind (wpAny_of_eq (show Builtin.Builtins.bindParams "min" ["key", "default"] 0 ⟨[], []⟩ = pure [none, none] from rfl) ?_)
  show wpAny _ A.in1 (newTuple [a, b] >>= _) _ _ s
  refine wpAny_bind (wpAny_newObj_type ?_)
  refine wpAny_bind (wpAny_mono h (fun it s₂ h₂ => ?_) fun _ _ e => e)
  obtain ⟨I, fp, wr, G, n, P, St, H, bt, rfl, W, hst, hfp, hn, hw, hkeep, hcmp, hQ⟩ := h₂
  refine wpAny_bind (wpAny_newObj_type ?_)
  have hSf : s₂.heap.objs.size ∉ fp := fun hm => Nat.lt_irrefl _ (hfp _ hm)
  rw [hname]
  refine wpAny_pure ⟨plainId_quiet F.plain_min_loop _, codeAny_min_loop_firstH W H hw bt hcmp s₂.heap.objs.size hSf (fresh_in hkeep) _ hn (fun b o e => Heap.get?_push_of_some _ (hkeep b o e)) (W.frame 0 s₂ _ s₂.toks hst (Nat.le_refl _) fun b _ o e => Heap.get?_push_of_some _ e) (Heap.get?_push_size _ rfl) fun v s' hP hm => ?_⟩
  exact hQ v s' hP (Moved.drop_new (tk := s₂.toks) hm (Nat.le_refl _))
theorem min_two_data {a b : Value} {x y : PyData} {as : List Addr} {Q : Value → Shared → Prop} (hh : A.handled = none) (hr : ReadsAll s.heap [a, b] [x, y] as) (ha : PySem.W.AlikeAll [x, y]) (hu : A.units + 1 + PyData.depthAll [x, y] < cLine)
    (h : ∀ h' tk, (∀ c o, s.heap.get? c = some o → h'.get? c = some o) → Q (if PySem.W.dataLt y x = true then b else a) { s with heap := h', toks := tk }) :
    wpAny (model prog w) A (call (.builtin "min") [a, b]) Q E s := by
  have hT : (s.heap.push { cls := .type "tuple", data := .seq #[a, b] }).IsTuple s.heap.objs.size #[a, b] := ⟨_, Heap.get?_push_size _ rfl, rfl, 0, rfl⟩
  have kp : ∀ c o, s.heap.get? c = some o → (s.heap.push { cls := .type "tuple", data := .seq #[a, b] }).get? c = some o := fun c o e => Heap.get?_push_of_some _ e
  have hr2 : ReadsAll (s.heap.push { cls := .type "tuple", data := .seq #[a, b] }) (#[a, b] : Array Value).toList [x, y] as := PyProof.Rows.ReadsAll.keeps kp hr
  refine two_walk (PySem.W.iter_tupleW (A := A.in1) (s := { s with heap := s.heap.push { cls := .type "tuple", data := .seq #[a, b] } }) hh hT fun s₂ e W st hfp hw hk => ?_)
  refine ⟨_, _, _, _, _, _, _, (s.heap.push { cls := .type "tuple", data := .seq #[a, b] }), _, rfl, W, st, hfp, (by show 0 < 2; decide), hw, hk, PySem.W.cmpIn_lt (A := A.in1) (s := { s with heap := s.heap.push { cls := .type "tuple", data := .seq #[a, b] } }) hr2 ha (by show A.units + 1 + _ < _; exact hu), fun v s' hP m => ?_⟩
  obtain ⟨h', tk, rfl, hk'⟩ := PySem.W.moved_old e rfl m
  have hP : (#[a, b] : Array Value)[argBest (fun i j => PySem.W.dataLt (([x, y] : List PyData).getD i .none) (([x, y] : List PyData).getD j .none)) 1]? = some v := hP
  have hv : v = if PySem.W.dataLt y x = true then b else a := by
    by_cases c : PySem.W.dataLt y x = true
    · have e1 : argBest (fun i j => PySem.W.dataLt (([x, y] : List PyData).getD i .none) (([x, y] : List PyData).getD j .none)) 1 = 1 := by simp [argBest, c]
      rw [e1] at hP
      rw [if_pos c]
      simpa using hP.symm
    · have e1 : argBest (fun i j => PySem.W.dataLt (([x, y] : List PyData).getD i .none) (([x, y] : List PyData).getD j .none)) 1 = 0 := by simp [argBest, c]
      rw [e1] at hP
      rw [if_neg c]
      simpa using hP.symm
  rw [hv]
  exact h h' tk fun c o e => hk' c o (kp c o e)
end
section
variable {X : Cx} {α : Type} [DecidableEq α] [PySem.W.DatumOrd α]
/-- min(u, v) of two data: v where it is less, else u -/
def rMin2T (K : PySem.W.Frag) (α : Type) [DecidableEq α] [PySem.W.DatumOrd α] : List V → Hp → VK → Prop := fun xs H Q => ∃ (u v : V) (y0 y1 : α), xs = [u, v] ∧ Dp K H u (PySem.W.Datum.toD y0) ∧ Dp K H v (PySem.W.Datum.toD y1) ∧
  Q (if PySem.W.DatumOrd.lt y1 y0 = true then v else u) H
theorem cr_min2T (hc : X.calm = true) (hu : X.A.units + 1 + PySem.W.Datum.depth α < cLine) : CallR X (.builtin "min") (rMin2T X.K α) := by
  intro pins s σ H xs us Q I r h
  obtain ⟨u, v, y0, y1, rfl, h0, h1, q⟩ := h
  obtain ⟨a, b, rfl, ra, rb⟩ := vals2 r
  obtain ⟨as, r0⟩ := Dp.reads I _ u a h0 ra
  obtain ⟨bs, r1⟩ := Dp.reads I _ v b h1 rb
  refine min_two_data (I.ok.hd hc) (.cons r0 (.cons r1 .nil)) (PySem.W.alikeAll_datum [y0, y1]) (PySem.W.room_all (PySem.W.depthAll_map [y0, y1]) hu) fun h' tk k => ?_
  rw [PySem.W.DatumOrd.lt_eq y1 y0]
  refine ⟨_, H, I.kept (t' := tk) k, ?_, q⟩
  by_cases c : PySem.W.DatumOrd.lt y1 y0 = true
  · rw [if_pos c, if_pos c]; exact rb
  · rw [if_neg c, if_neg c]; exact ra
end
end GMin2
end

section
set_option Elab.async false
set_option linter.all false
set_option maxRecDepth 100000
set_option maxHeartbeats 4000000
/-! _law_goals -/
namespace LP
open PySem PySem.Spec PyProof.Rows L2 Ly GY
section
variable [LamTab] {P : Program} {W0 : World} {K : PySem.W.Frag} {mg : Str → Option Value} {base : Heap}
def spGoals (P : Program) (W0 : World) (K : PySem.W.Frag) : Sp := fun vs H Q _ => ∃ (ra : Addr) (pv : V) (xs : List V) (L : List C3) (p : Int × Int) (av : List Addr), vs = [.ref ra, pv] ∧ (∀ a ∈ av, H a ≠ none) ∧ H ra = some (.lst xs) ∧ Items K H xs L ∧ Rm [L] ∧ inPl p = true ∧ Dp K H pv (pD p) ∧
  ∀ (H' : Hp) (dg : Addr) (gk : List (NestedKey × V)) (gs : List Goal), Kp [] H H' → H dg = none → GD.DN K P W0 H' dg gk → GK K H' av gk gs → GoalsOk L p gs → (∀ g ∈ gs, inPl g.1 = true) → Q (.ref dg) H'
abbrev nGoals : List Str := ["_law_runs", "_law_place", "_law_here", "_law_turn", "_law_later", "_law_done", "_law_there", "_law_way", "_law_order", "_law_one", "_law_k", "_law_about", "_law_far", "_law_end", "_law_at"]
theorem scGoals : FnScope nGoals ["_law_runs", "_law_place"] (defScope lGoals) := ⟨rfl, rfl, rfl, by decide +kernel, rfl, by decide +kernel, by decide +kernel⟩
theorem ok_goals {f fD : Addr} {fd dD : FuncData} (F : Fun K "_law_goals" "_law_goals" lGoals f fd) (T : Nm K mg) (O : No mg) (hDi : mg "dict" = none) (ND : Fn K mg "_law_draw" fD dD ["_law_run", "_law_way", "_law_place"]) (GDr : FnOk P W0 K mg base CX0 1 fD dD ["_law_run", "_law_way", "_law_place"] (spDraw K)) :
    FnOk P W0 K mg base CX0 2 f fd ["_law_runs", "_law_place"] (spGoals P W0 K) := by
  refine F.ok scGoals (fun vs H Q E h => ?_) (fun cdv A outer s H vs Q E hr h => ?_)
  · obtain ⟨ra, pv', xs, L, p, av, rfl, _⟩ := h
    rfl
  · obtain ⟨ra, pv', xs, L, p, av, rfl, hav, hxs, hI, hrm, hp, hpv, q⟩ := h
    have hU : (A.deeper (envOfC "_law_goals" (defScope lGoals) s.heap.objs.size f cdv)).units + 64 < cLine := by have := u65 hr; omega
    have hM : (A.deeper (envOfC "_law_goals" (defScope lGoals) s.heap.objs.size f cdv)).units + 1 + PySem.W.Datum.depth AL < cLine := by
      have e : PySem.W.Datum.depth AL ≤ 10 := by decide
      omega
    refine ⟨_, pss_cons (ps_set (i := 2) scGoals.nd rfl (.inr rfl) (GD.pe_d1 hU (pe_tup (pa_cons (pe_tup pa_nil) (pa_cons (pv 1) pa_nil))) (pe_tup (pa_cons pe_int (pa_cons (pe_lst pa_nil) pa_nil)))))
      (pss_cons (ps_for PassesOwn.never rfl (pi_list (pv 0)) (pg_name (i := 3) scGoals.nd rfl (.inl rfl))
        (pss_cons (ps_set (i := 4) scGoals.nd rfl (.inl rfl) GD.pe_d0)
        (pss_cons (ps_for PassesOwn.never rfl (GD.pi_keysN (pv 2)) (pg_tup rfl (pgs_cons (pg_name (i := 5) scGoals.nd rfl (.inr rfl)) (pgs_cons (pg_name (i := 6) scGoals.nd rfl (.inl rfl)) pgs_nil)))
          (pss_cons (ps_asg (pe_ix (r := GD.rIxN K P W0) (GD.ix_N hU) (pv 2) (pe_tup (pa_cons (pv 5) (pa_cons (pv 6) pa_nil))) (fun _ _ => rfl)) (pg_tup rfl (pgs_cons (pg_name (i := 7) scGoals.nd rfl (.inl rfl)) (pgs_cons (pg_name (i := 8) scGoals.nd rfl (.inl rfl)) pgs_nil))))
          (pss_one (ps_for PassesOwn.never rfl (pi_list (pe_lc (own := [("_law_one", 9)]) (g := gName 9) rfl scGoals.nd (pi_range1 (by rfl) T.range (pa_cons (pe_callB call_len_seq (by rfl) T.len PySem.boot_len (pa_cons (pv 0) pa_nil)) pa_nil)) (blkOk_by (own := [("_law_one", 9)]) (N := nGoals) (sc := defScope lGoals) (by decide +kernel))
              (fun _ _ _ _ _ => pg_name (i := 9) scGoals.nd rfl (.inl rfl)) (fun _ _ _ _ _ => pts_one (pt_cmpR (r := rIn K true) op_notIn_seq (pv 9) (pv 5) (by rfl))) (fun _ _ _ _ _ => pv 9))) (pg_name (i := 10) scGoals.nd rfl (.inl rfl))
            (pss_one (ps_for PassesOwn.never rfl (pi_range1 (by rfl) T.range (pa_cons pe_int pa_nil)) (pg_name (i := 11) scGoals.nd rfl (.inl rfl))
              (pss_cons (ps_asg (pe_call GDr hr (by rfl) ND.m ND.kp ND.b .nil pass0 (pa_cons (pe_ix (r := rIxL K) ix_list (pv 0) (pv 10) (fun _ _ => rfl)) (pa_cons (pv 11) (pa_cons (pv 6) pa_nil)))) (pg_tup rfl (pgs_cons (pg_name (i := 12) scGoals.nd rfl (.inl rfl)) (pgs_cons (pg_name (i := 13) scGoals.nd rfl (.inl rfl)) pgs_nil))))
              (pss_cons (ps_set (i := 14) scGoals.nd rfl (.inl rfl) (pe_tup (pa_cons (pe_callTy call_tuple_of (by rfl) T.tuple (by decide +kernel) (pa_cons (pe_callB GSort.cr_sortedT (by rfl) T.sorted (by decide +kernel) (pa_cons (pe_op op_catA (pv 5) (pe_tup (pa_cons (pv 10) pa_nil))) pa_nil)) pa_nil)) (pa_cons (pv 13) pa_nil))))
              (pss_cons (ps_set (i := 9) scGoals.nd rfl (.inl rfl) (pe_tup (pa_cons (pe_op op_add (pv 7) (pv 12)) (pa_cons (pe_op op_cat (pv 8) (pe_lst (pa_cons (pe_tup (pa_cons (pv 10) (pa_cons (pv 11) pa_nil))) pa_nil))) pa_nil))))
              (pss_one (ps_asg (pe_callB (GMin2.cr_min2T (α := AL) rfl hM) (by rfl) O.min (by decide +kernel) (pa_cons (pv 9) (pa_cons (GD.pe_get2N hU (pv 4) (pv 14) (pv 9) ⟨rfl, rfl, rfl, rfl⟩) pa_nil))) (pg_sub (pv 4) (pv 14) (GD.set_N hU)))))))))))))
        (pss_one (ps_set (i := 2) scGoals.nd rfl (.inr rfl) (pv 4))))))
      (pss_one (ps_ret (pe_callTy (GD.call_dictN rfl hU) (by rfl) hDi (by decide +kernel) (pa_cons (pe_lc (own := [("_law_done", 5), ("_law_there", 6)]) (g := gTup K 2 (gCons (gName 5) (gCons (gName 6) gNil))) rfl scGoals.nd (GD.pi_keysN (pv 2))
        (blkOk_by (own := [("_law_done", 5), ("_law_there", 6)]) (N := nGoals) (sc := defScope lGoals) (by decide +kernel))
        (fun _ _ _ _ _ => pg_tup rfl (pgs_cons (pg_name (i := 5) scGoals.nd rfl (.inl rfl)) (pgs_cons (pg_name (i := 6) scGoals.nd rfl (.inl rfl)) pgs_nil))) (fun _ _ _ _ _ => pts_nil)
        (fun _ _ _ _ _ => pe_tup (pa_cons (pv 6) (pa_cons (pe_ix (r := GD.rIxN K P W0) (GD.ix_N hU) (pv 2) (pe_tup (pa_cons (pv 5) (pa_cons (pv 6) pa_nil))) (fun _ _ => rfl)) pa_nil)))) pa_nil))))), ?_⟩
    obtain ⟨pa, rfl, hpa⟩ := of_pD hpv
    have hxl := hI.length
    have hL8 := hrm.le L (List.mem_singleton.mpr rfl)
    refine fun d0 H1 nw dn0 => ?_
    have k1 : Kp [] H H1 := Kp.newN nw
    refine ⟨(by show 0 ≤ sizeLine; decide), fun t1 ht1 => ⟨_, rfl, (by show 2 ≤ sizeLine; decide), fun t2 ht2 => ?_⟩⟩
    have kt1 : Kp [] H1 (upd H1 t1 (.tup [])) := Kp.new ht1
    have et1 : SqT K (upd H1 t1 (.tup [])) t1 ([] : List V) := SqT.of upd_same
    generalize upd H1 t1 (.tup []) = H2 at kt1 et1 ht2 ⊢
    have kt2 : Kp [] H2 (upd H2 t2 (.tup [.ref t1, .ref pa])) := Kp.new ht2
    have et2 : SqT K (upd H2 t2 (.tup [.ref t1, .ref pa])) t2 [.ref t1, .ref pa] := SqT.of upd_same
    generalize upd H2 t2 (.tup [.ref t1, .ref pa]) = H3 at kt2 et2 ⊢
    refine ⟨(by show 0 ≤ sizeLine; decide), fun q1 hq1 => ⟨(by show 2 ≤ sizeLine; decide), fun t3 ht3 => ?_⟩⟩
    have kq : Kp [] H3 (upd H3 q1 (.lst [])) := Kp.new hq1
    have eq1 : upd H3 q1 (.lst []) q1 = some (.lst []) := upd_same
    generalize upd H3 q1 (.lst []) = H4 at kq eq1 ht3 ⊢
    have kt3 : Kp [] H4 (upd H4 t3 (.tup [.int 0, .ref q1])) := Kp.new ht3
    have et3 : SqT K (upd H4 t3 (.tup [.int 0, .ref q1])) t3 [.int 0, .ref q1] := SqT.of upd_same
    generalize upd H4 t3 (.tup [.int 0, .ref q1]) = H5 at kt3 et3 ⊢
    have k15 := ((kt1.trans kt2).trans kq).trans kt3
    have key5 : GD.KeyD K H5 (.ref t2) (kL [] p) := key_mono (kq.trans kt3) (keyD_L et2 (dp_iT (done := []) (kt2.sqT et1)) (dp_p ((k1.trans (kt1.trans kt2)).sqT hpa)))
    have dn5 := dn_mono k15 List.not_mem_nil dn0
    refine ⟨kL [] p, dn5, key5, fun H6 ch dn6 => ?_⟩
    have k6 : Kp [] H H6 := (k1.trans k15).chgN0 nw.free ch
    have hk6 : HK K H6 av [(kL [] p, .ref t3)] [(([], p), (0, []))] := HK.mono (.cons ⟨rfl, t3, q1, [], rfl, et3, kt3.lst eq1 List.not_mem_nil, .nil, fun m => hav q1 m ((k1.trans (kt1.trans kt2)).free q1 hq1)⟩ .nil) (Kp.chgN ch (List.mem_singleton.mpr rfl)) (dn_exts dn5)
    refine nameI (i := 2) (v := .ref d0) (σ := [some (.ref ra), some (.ref pa), none, none, none, none, none, none, none, none, none, none, none, none, none]) ?_
    refine ⟨_, rfl, ra, rfl, ⟨_, SqL.of (k6.lst hxs List.not_mem_nil)⟩, for_list (K := K) (a := ra) (xs := xs) (fun t σ H' => Kp [] H H' ∧ ∃ (dh : Addr) (kvs : List (NestedKey × V)) (hs : List DpE) (o3 o4 o5 o6 o7 o8 o9 o10 o11 o12 o13 o14 : Option V), σ = [some (.ref ra), some (.ref pa), some (.ref dh), o3, o4, o5, o6, o7, o8, o9, o10, o11, o12, o13, o14] ∧ H dh = none ∧ GD.DN K P W0 H' dh kvs ∧ HK K H' av kvs hs ∧ DpOk L p t hs ∧ ∀ e ∈ hs, Lg [L] 0 e.1.1 e.1.2)
      ⟨k6, d0, _, _, none, none, none, none, none, none, none, none, none, none, none, none, rfl, nw.free, dn6, hk6, dp_start L p, fun e he => ?lg0⟩ (fun t σ H' _ pv => pv.1.sqL (SqL.of hxs) List.not_mem_nil) (fun t xr σ H' hx pv => ?turn) (fun σ H' pv => ?fin)⟩
    case lg0 =>
      rw [List.mem_singleton.mp he]
      exact ⟨⟨L, rfl, Nat.zero_le _, fun x hx => by cases hx⟩, .nil, hp⟩
    case turn =>
      obtain ⟨kk, dh, kvs, hs, o3, o4, o5, o6, o7, o8, o9, o10, o11, o12, o13, o14, rfl, nf, dn, hk, dp, lg⟩ := pv
      have ht : t < L.length := by have := (List.getElem?_eq_some_iff.mp hx).1; omega
      refine fun dl H1' nw' dnl => ?_
      refine nameI (i := 4) (v := .ref dl) (σ := [some (.ref ra), some (.ref pa), some (.ref dh), some xr, o4, o5, o6, o7, o8, o9, o10, o11, o12, o13, o14]) ?_
      have kn : Kp [] H' H1' := Kp.newN nw'
      have nfl : H dl = none := kk.free dl nw'.free
      have ne : dl ≠ dh := fun z => by
        obtain ⟨φ, M, e, _⟩ := dn
        rw [← z, nw'.free] at e
        cases e
      have dn1 := dn_mono kn List.not_mem_nil dn
      refine ⟨_, rfl, dh, kvs, rfl, dn1, fun o Lr H2 ch2 pd => ?_⟩
      have k2c : Kp [dh] H1' H2 := Kp.chgN ch2 (List.mem_singleton.mpr rfl)
      have k2 : Kp [] H H2 := (kk.trans kn).chgN0 nf ch2
      have hk2 : HK K H2 av kvs hs := (hk.mono kn (fun a h => by cases h)).mono k2c (dn_exts dn1)
      have dnl2 := dn_mono k2c (fun z => ne (List.mem_singleton.mp z)) dnl
      have li0 : LI P W0 K H2 av dl L [] [] [] := ⟨dnl2, .nil, lat_nil, fun e h => by cases h⟩
      have exl : Exts H2 [dl] := dn_exts dnl2
      have ndh : dh ∉ [dl] := fun z => ne (List.mem_singleton.mp z).symm
      refine for_it walk_keysK (fun i σ H3 => Kp [dl] H2 H3 ∧ ∃ (o5 o6 o7 o8 o9 o10 o11 o12 o13 o14 : Option V) (kvl : List (NestedKey × V)) (later : List DpE), σ = [some (.ref ra), some (.ref pa), some (.ref dh), some xr, some (.ref dl), o5, o6, o7, o8, o9, o10, o11, o12, o13, o14] ∧ LI P W0 K H3 av dl L ((hs.take i).flatMap (cE L)) kvl later)
        ⟨Kp.refl _ _, o5, o6, o7, o8, o9, o10, o11, o12, o13, o14, [], [], rfl, li0⟩ (fun i σ H3 _ pv => pin_keep pv.1 ndh pd) (fun i xk σ H0 H3 hi pv y => ?key) (fun σ H3 pv => ?tend)
      case tend =>
        obtain ⟨k3, p5, p6, p7, p8, p9, p10, p11, p12, p13, p14, kvl, later, rfl, li⟩ := pv
        rw [show kvs.length = hs.length from paired_len hk2, List.take_length] at li
        exact ⟨_, rfl, Kp.off k2 nfl k3, dl, kvl, later, some xr, some (.ref dl), p5, p6, p7, p8, p9, p10, p11, p12, p13, p14, rfl, nfl, li.dn, li.hk, dp_step dp (cs_ok L hs) li.ok, li.lg⟩
      case key =>
        obtain ⟨rfl, key, vv, hkv, hxk⟩ := y
        obtain ⟨k3, p5, p6, p7, p8, p9, p10, p11, p12, p13, p14, kvl, later, rfl, li⟩ := pv
        have hk3 : HK K H3 av kvs hs := hk2.mono k3 exl
        obtain ⟨e, he, ek, hat⟩ := paired_fst hk3 hkv
        have ek : key = kL e.1.1 e.1.2 := ek
        subst ek
        have hem := List.mem_of_getElem? he
        obtain ⟨a1, a2, a3, a4, a5, a6⟩ := dp.ok e hem
        have hlg := lg e hem
        have hx1 := hxk.1
        rw [kL_data] at hx1
        obtain ⟨ak, x1, x2, rfl, hsk, hd1, hd2⟩ := of_dp2 hx1
        obtain ⟨da, rfl, hda⟩ := of_iT hd1
        obtain ⟨pt, rfl, hpt⟩ := of_pD hd2
        refine ⟨ak, _, rfl, hsk, rfl, _, _, rfl, _, _, rfl, rfl, ?_⟩
        have pd3 := pin_keep k3 ndh pd
        refine ⟨_, rfl, _, rfl, _, rfl, (by show 2 ≤ sizeLine; decide), fun u1 hu1 => ?_⟩
        have ku1 : Kp [] H3 (upd H3 u1 (.tup [.ref da, .ref pt])) := Kp.new hu1
        have eu1 : SqT K (upd H3 u1 (.tup [.ref da, .ref pt])) u1 [.ref da, .ref pt] := SqT.of upd_same
        generalize upd H3 u1 (.tup [.ref da, .ref pt]) = H4' at ku1 eu1 ⊢
        have hva : GD.valN kvs (kL e.1.1 e.1.2) = some vv := val_at (hk3.nodup dp.nd) (List.mem_of_getElem? hkv)
        refine ⟨dh, kvs, kL e.1.1 e.1.2, vv, rfl, (pin_keep ku1 List.not_mem_nil pd3).dn, keyD_L eu1 (dp_keep ku1 (noL_iT _) hd1) (dp_keep ku1 (noL_p _) hd2), hva, ?_⟩
        obtain ⟨r, b, zs, rfl, hr', hb, hzd, _⟩ := hat.mono0 ku1
        have hr' : SqT K H4' r [.int e.2.1, .ref b] := hr'
        have hzd : DpAll K H4' zs (e.2.2.map pD) := hzd
        have hzl := hzd.length
        rw [List.length_map] at hzl
        refine ⟨r, _, rfl, hr', rfl, _, _, rfl, _, _, rfl, rfl, ?_⟩
        have k24 : Kp [dl] H2 H4' := k3.trans ku1.w0
        have k04 : Kp [] H H4' := Kp.off k2 nfl k24
        refine ⟨_, rfl, ra, xs, rfl, .inl (SqL.of (k04.lst hxs List.not_mem_nil)), (xs.length : Int), rfl, by omega, by omega, fun lf hlf => lc_dataR (K := K) (n := xs.length) (lo := 0) (fun k => !decide ((k : Int) ∈ e.1.1)) (fun k => .int (k : Int)) (fun _ => rfl) hlf (by omega) (fun j H5 Nx Z hj k5 n1 n2 => ?t) (fun H5 zs5 k5 h5 d5 => ?d)⟩
        case t =>
          rw [Int.zero_add]
          refine ⟨rfl, _, rfl, _, rfl, da, _, rfl, .inr (k5.sqT (ku1.sqT hda)), rfl, flat_ints _, _, rfl, ?_⟩
          rw [if_pos rfl, inV_ints]
          cases e9 : decide ((j : Int) ∈ e.1.1) with
          | true => exact iteF (n2 H5 (Kp.refl _ _) (by rw [e9]; rfl))
          | false => exact iteT ⟨_, rfl, n1 H5 _ (Kp.refl _ _) (by rw [e9]; rfl) (.int _)⟩
        case d =>
          generalize els : (List.range xs.length).filter (fun k : Nat => !decide ((k : Int) ∈ e.1.1)) = ls at d5
          have ey : zs5 = (ls.map fun k : Nat => (k : Int)).map V.int := dps_ints (by rw [List.map_map]; exact d5)
          have hls : ∀ k, k ∈ ls → k < L.length ∧ (k : Int) ∉ e.1.1 := fun k hk => by
            rw [← els, List.mem_filter, List.mem_range, hxl] at hk
            simpa using hk
          have hll : ls.length ≤ 8 := by
            rw [← els]
            have := List.length_filter_le (fun k : Nat => !decide ((k : Int) ∈ e.1.1)) (List.range xs.length)
            rw [List.length_range] at this
            omega
          have li5 := (li.mono0 ku1).mono0 k5
          have nlf : lf ∉ [dl] := li5.exts.lst h5
          have k25 : Kp [dl] H2 H5 := k24.trans k5.w0
          have hda5 := k5.sqT (ku1.sqT hda)
          have hpt5 := k5.sqT (ku1.sqT hpt)
          have hb5 := k5.lst hb List.not_mem_nil
          have nb : b ∉ [dl] := li5.exts.lst hb5
          have hzd5 := dps_keep k5 (noLs_map noL_p _) hzd
          have ecE : cE L e = ls.flatMap fun k => [extE L e k 0, extE L e k 1] := by unfold cE; rw [← els, hxl]
          refine ⟨lf, rfl, ⟨_, SqL.of h5⟩, for_list (K := K) (a := lf) (xs := zs5) (fun j σ H6 => Kp [dl] H5 H6 ∧ ∃ (o9 o10 o11 o12 o13 o14 : Option V) (kvl : List (NestedKey × V)) (later : List DpE), σ = [some (.ref ra), some (.ref pa), some (.ref dh), some xr, some (.ref dl), some (.ref da), some (.ref pt), some (.int e.2.1), some (.ref b), o9, o10, o11, o12, o13, o14] ∧ LI P W0 K H6 av dl L ((hs.take i).flatMap (cE L) ++ (ls.take j).flatMap fun k => [extE L e k 0, extE L e k 1]) kvl later)
            ⟨Kp.refl _ _, p9, p10, p11, p12, p13, p14, kvl, later, rfl, by simpa using li5⟩ (fun j σ H6 _ hi => hi.1.sqL (SqL.of h5) nlf) (fun j y σ H6 hy hi => ?st) (fun σ H6 hi => ?zdn)⟩
          case zdn =>
            obtain ⟨k6', r9, r10, r11, r12, r13, r14, kvl6, later6, rfl, li6⟩ := hi
            have zl : zs5.length = ls.length := by rw [ey, List.length_map, List.length_map]
            rw [zl, List.take_length, ← ecE] at li6
            refine ⟨k25.trans k6', some (.ref da), some (.ref pt), some (.int e.2.1), some (.ref b), r9, r10, r11, r12, r13, r14, kvl6, later6, rfl, ?_⟩
            rw [List.take_add_one, he, List.flatMap_append]
            show LI P W0 K H6 av dl L (_ ++ (cE L e ++ [])) kvl6 later6
            rw [List.append_nil]
            exact li6
          case st =>
            obtain ⟨k6', r9, r10, r11, r12, r13, r14, kvl6, later6, rfl, li6⟩ := hi
            rw [ey] at hy
            obtain ⟨kz, hkz, rfl⟩ := int_at hy
            rw [List.getElem?_map] at hkz
            obtain ⟨k', hk', rfl⟩ := Option.map_eq_some_iff.mp hkz
            obtain ⟨hkl, hkd⟩ := hls k' (List.mem_of_getElem? hk')
            generalize epre : (hs.take i).flatMap (cE L) ++ (ls.take j).flatMap (fun k => [extE L e k 0, extE L e k 1]) = pre at li6
            refine ⟨2, rfl, by decide, by decide, for_range (lo := 0) (n := 2) (fun w σ H7 => Kp [dl] H5 H7 ∧ ∃ (o9 o11 o12 o13 o14 : Option V) (kvl : List (NestedKey × V)) (later : List DpE), σ = [some (.ref ra), some (.ref pa), some (.ref dh), some xr, some (.ref dl), some (.ref da), some (.ref pt), some (.int e.2.1), some (.ref b), o9, some (.int (k' : Int)), o11, o12, o13, o14] ∧ LI P W0 K H7 av dl L (pre ++ [extE L e k' 0, extE L e k' 1].take w) kvl later)
              ⟨k6', r9, r11, r12, r13, r14, kvl6, later6, rfl, by rw [List.take_zero, List.append_nil]; exact li6⟩ (fun w σ H7 hw hi2 => ?inn) (fun σ H7 hi2 => ?out)⟩
            case out =>
              obtain ⟨k7, s9, s11, s12, s13, s14, kvl7, later7, rfl, li7⟩ := hi2
              refine ⟨k7, s9, some (.int (k' : Int)), s11, s12, s13, s14, kvl7, later7, rfl, ?_⟩
              rw [List.take_add_one, hk', List.flatMap_append, ← List.append_assoc, epre]
              exact li7
            case inn =>
              obtain ⟨k7, s9, s11, s12, s13, s14, kvl7, later7, rfl, li7⟩ := hi2
              rw [Int.zero_add]
              have k07 : Kp [] H H7 := Kp.off k2 nfl (k25.trans k7)
              obtain ⟨pc, cc, ex, ec, hc⟩ := Items.at (items_mono k07 hI) hkl
              have eg : L.getD k' (0, 0, 0) = cc := by rw [List.getD_eq_getElem?_getD, ec]; rfl
              refine ⟨_, rfl, _, rfl, ra, xs, _, _, rfl, rfl, SqL.of (k07.lst hxs List.not_mem_nil), atI_nat ex, _, rfl, _, rfl, .ref pc, .ref pt, cc, (w : Int), e.1.2, rfl, by omega, dp_c hc, dp_p (k7.sqT hpt5), fun H8 tt en k8 htt hen => ?_⟩
              refine ⟨tt, _, rfl, htt, rfl, _, _, rfl, _, _, rfl, rfl, ?_⟩
              refine ⟨_, rfl, _, rfl, (by show 1 ≤ sizeLine; decide), fun u2 hu2 => ?_⟩
              have ku2 : Kp [] H8 (upd H8 u2 (.tup [.int (k' : Int)])) := Kp.new hu2
              have eu2 : SqT K (upd H8 u2 (.tup [.int (k' : Int)])) u2 [.int (k' : Int)] := SqT.of upd_same
              generalize upd H8 u2 (.tup [.int (k' : Int)]) = H9 at ku2 eu2 ⊢
              have k79 := k8.trans ku2
              have edl : e.1.1.length ≤ 8 := by
                obtain ⟨L', eL, hdl', _⟩ := hlg.ex
                have eL : L = L' := by simpa using eL
                rw [← eL] at hdl'
                omega
              refine catA (k79.sqT (k7.sqT hda5)) eu2 (Nat.le_of_lt (small_size (by rw [List.length_map]; show e.1.1.length + 1 ≤ _; omega))) fun H10 u3 k10 hct => ?_
              refine ⟨u3, e.1.1 ++ [(k' : Int)], rfl, by rw [List.map_append]; exact hct, fun ns' u4 pm so hu4 => ?_⟩
              have es := srt_eq pm so
              subst es
              have ku4 : Kp [] H10 (upd H10 u4 (.lst ((srt (e.1.1 ++ [(k' : Int)])).map V.int))) := Kp.new hu4
              have eu4 : upd H10 u4 (.lst ((srt (e.1.1 ++ [(k' : Int)])).map V.int)) u4 = some (.lst ((srt (e.1.1 ++ [(k' : Int)])).map V.int)) := upd_same
              generalize upd H10 u4 (.lst ((srt (e.1.1 ++ [(k' : Int)])).map V.int)) = H11 at ku4 eu4 ⊢
              refine ⟨u4, _, rfl, .inl ⟨SqL.of eu4, fun u5 hu5 => ?_⟩⟩
              have ku5 : Kp [] H11 (upd H11 u5 (.tup ((srt (e.1.1 ++ [(k' : Int)])).map V.int))) := Kp.new hu5
              have eu5 : SqT K (upd H11 u5 (.tup ((srt (e.1.1 ++ [(k' : Int)])).map V.int))) u5 ((srt (e.1.1 ++ [(k' : Int)])).map V.int) := SqT.of upd_same
              generalize upd H11 u5 (.tup ((srt (e.1.1 ++ [(k' : Int)])).map V.int)) = H12 at ku5 eu5 ⊢
              refine ⟨_, rfl, (by show 2 ≤ sizeLine; decide), fun u6 hu6 => ?_⟩
              have ku6 : Kp [] H12 (upd H12 u6 (.tup [.ref u5, .ref en])) := Kp.new hu6
              have eu6 : SqT K (upd H12 u6 (.tup [.ref u5, .ref en])) u6 [.ref u5, .ref en] := SqT.of upd_same
              generalize upd H12 u6 (.tup [.ref u5, .ref en]) = H13 at ku6 eu6 ⊢
              have k913 := ((k10.trans ku4).trans ku5).trans ku6
              have k813 := ku2.trans k913
              have k713 := k8.trans k813
              have key13 : GD.KeyD K H13 (.ref u6) (kL (srt (e.1.1 ++ [(k' : Int)])) (endsI cc (w : Int)).2) := keyD_L eu6 (dp_iT (ku6.sqT eu5)) (dp_p (k813.sqT hen))
              refine ⟨_, rfl, _, rfl, _, _, rfl, rfl, ?_⟩
              refine ⟨_, rfl, _, rfl, _, rfl, (by show 2 ≤ sizeLine; decide), fun u7 hu7 => ⟨(by show 1 ≤ sizeLine; decide), fun q2 hq2 => ?_⟩⟩
              have ku7 : Kp [] H13 (upd H13 u7 (.tup [.int (k' : Int), .int (w : Int)])) := Kp.new hu7
              have eu7 : SqT K (upd H13 u7 (.tup [.int (k' : Int), .int (w : Int)])) u7 [.int (k' : Int), .int (w : Int)] := SqT.of upd_same
              generalize upd H13 u7 (.tup [.int (k' : Int), .int (w : Int)]) = H14 at ku7 eu7 hq2 ⊢
              have kq2 : Kp [] H14 (upd H14 q2 (.lst [.ref u7])) := Kp.new hq2
              have eq2 : upd H14 q2 (.lst [.ref u7]) q2 = some (.lst [.ref u7]) := upd_same
              have eu72 := kq2.sqT eu7
              generalize upd H14 q2 (.lst [.ref u7]) = H15 at kq2 eq2 eu72 ⊢
              have k715 := k713.trans (ku7.trans kq2)
              have hb15 := k715.lst (k7.lst hb5 nb) List.not_mem_nil
              have hzd15 := dps_keep k715 (noLs_map noL_p _) (dps_keep k7 (noLs_map noL_p _) hzd5)
              refine ⟨b, q2, zs, _, rfl, rfl, hb15, eq2, Nat.le_of_lt (small_size (by show zs.length + 1 ≤ _; omega)), fun q3 hq3 => ⟨(by show 2 ≤ sizeLine; decide), fun u8 hu8 => ?_⟩⟩
              have kq3 : Kp [] H15 (upd H15 q3 (.lst (zs ++ [.ref u7]))) := Kp.new hq3
              have eq3 : upd H15 q3 (.lst (zs ++ [.ref u7])) q3 = some (.lst (zs ++ [.ref u7])) := upd_same
              have eu73 := kq3.sqT eu72
              generalize upd H15 q3 (.lst (zs ++ [.ref u7])) = H16 at kq3 eq3 eu73 hu8 ⊢
              have hzd16 := dps_keep kq3 (noLs_map noL_p _) hzd15
              have ku8 : Kp [] H16 (upd H16 u8 (.tup [.int (e.2.1 + stepsI e.1.2 (endsI cc (w : Int)).1), .ref q3])) := Kp.new hu8
              have eu8 : SqT K (upd H16 u8 (.tup [.int (e.2.1 + stepsI e.1.2 (endsI cc (w : Int)).1), .ref q3])) u8 [.int (e.2.1 + stepsI e.1.2 (endsI cc (w : Int)).1), .ref q3] := SqT.of upd_same
              generalize upd H16 u8 (.tup [.int (e.2.1 + stepsI e.1.2 (endsI cc (w : Int)).1), .ref q3]) = H17 at ku8 eu8 ⊢
              have k717 := k715.trans (kq3.trans ku8)
              have hcx : extE L e k' (w : Int) = ((srt (e.1.1 ++ [(k' : Int)]), (endsI cc (w : Int)).2), (e.2.1 + stepsI e.1.2 (endsI cc (w : Int)).1, e.2.2 ++ [((k' : Int), (w : Int))])) := by unfold extE; rw [eg]
              have hone : AtL K H17 av (.ref u8) (toAO (e.2.1 + stepsI e.1.2 (endsI cc (w : Int)).1, e.2.2 ++ [((k' : Int), (w : Int))])) := by
                refine ⟨u8, q3, _, rfl, eu8, ku8.lst eq3 List.not_mem_nil, ?_, fun m => hav q3 m (k07.free q3 (k715.free q3 hq3))⟩
                show DpAll K H17 (zs ++ [.ref u7]) ((e.2.2 ++ [((k' : Int), (w : Int))]).map pD)
                rw [List.map_append]
                exact dps_append (dps_keep ku8 (noLs_map noL_p _) hzd16) (dps_one (dp_p (p := ((k' : Int), (w : Int))) (ku8.sqT eu73)))
              have key17 : GD.KeyD K H17 (.ref u6) (kL (srt (e.1.1 ++ [(k' : Int)])) (endsI cc (w : Int)).2) := key_mono ((ku7.trans kq2).trans (kq3.trans ku8)) key13
              have lgc : Lg [L] 0 (srt (e.1.1 ++ [(k' : Int)])) (endsI cc (w : Int)).2 := (hlg.step (q := (endsI cc (w : Int)).2) (L := L) rfl hkl hkd (ends_in (L := L) (hrm.rm L (List.mem_singleton.mpr rfl) cc (List.mem_of_getElem? ec)))).2
              have li17 := li7.mono0 k717
              have e0 : ([extE L e k' 0, extE L e k' 1] : List DpE)[w]? = some (extE L e k' (w : Int)) := by
                rcases (show w = 0 ∨ w = 1 by omega) with rfl | rfl <;> rfl
              generalize extE L e k' (w : Int) = c at hcx e0
              obtain ⟨c1, c2⟩ := c
              injection hcx with hc1 hc2
              rw [← hc2] at hone
              have hc11 : c1.1 = srt (e.1.1 ++ [(k' : Int)]) := by rw [hc1]
              have hc12 : c1.2 = (endsI cc (w : Int)).2 := by rw [hc1]
              rw [← hc11, ← hc12] at key17 lgc
              have hres : ∃ (v1 : V) (y1 : AL) (w0 : V) (a : AL), (GD.valN kvl7 (kL c1.1 c1.2)).getD (.ref u8) = v1 ∧ Dp K H17 v1 (PySem.W.Datum.toD y1) ∧ (if PySem.W.DatumOrd.lt y1 c2 = true then v1 else .ref u8) = w0 ∧ AtL K H17 av w0 (toAO a) ∧ ((hasE later7 c1 = false ∧ a = c2) ∨ ∃ e ∈ later7, e.1 = c1 ∧ a = if ltL e.2 c2 = true then e.2 else c2) := by
                rcases li17.hk.val (d := c1.1) (p := c1.2) with ⟨h1, h2⟩ | ⟨v', e', h1, h2, h3, h4⟩
                · exact ⟨.ref u8, c2, .ref u8, c2, by rw [h1]; rfl, hone.dp, ite_self _, hone, .inl ⟨h2, rfl⟩⟩
                · refine ⟨v', e'.2, _, if ltL e'.2 c2 = true then e'.2 else c2, by rw [h1]; rfl, h4.dp, rfl, ?_, .inr ⟨e', h2, h3, rfl⟩⟩
                  unfold ltL
                  by_cases z : PySem.W.DatumOrd.lt e'.2 c2 = true
                  · rw [if_pos z, if_pos z]; exact h4
                  · rw [if_neg z, if_neg z]; exact hone
              obtain ⟨v1, y1, w0, a, hget, hdp, hw0, hat0, hrel⟩ := hres
              refine ⟨_, rfl, _, rfl, dl, kvl7, rfl, li17.dn, _, rfl, _, rfl, kvl7, kL c1.1 c1.2, li17.dn, key17, ?_⟩
              refine ⟨.ref u8, v1, c2, y1, by rw [hget], hone.dp, hdp, ?_⟩
              rw [hw0]
              refine ⟨_, rfl, _, rfl, dl, kvl7, kL c1.1 c1.2, rfl, li17.dn, key17, small_size (Nat.le_trans (li17.hk.le li17.ok.nd hrm li17.lg) (by decide)), fun H18 ch18 dn18 => ?_⟩
              have li18 := li17.put (c := (c1, c2)) lgc hat0 hrel ch18 dn18
              refine ⟨(k7.trans k717.w0).trans (Kp.chgN ch18 (List.mem_singleton.mpr rfl)), _, _, _, _, _, GD.putN kvl7 (kL c1.1 c1.2) w0, put5 later7 c1 a, rfl, ?_⟩
              rw [List.take_add_one, e0, ← List.append_assoc]
              exact li18
    case fin =>
      obtain ⟨kk, dh, kvs, hs, o3, o4, o5, o6, o7, o8, o9, o10, o11, o12, o13, o14, rfl, nf, dn, hk, dp, lg⟩ := pv
      rw [hxl] at dp
      have gok := dp_goals dp
      have kle := hk.le dp.nd hrm lg
      refine ⟨_, rfl, dh, kvs, rfl, dn, fun o Lr H2 ch2 pd => fun D hD => lc_keysA (K := K) (P := P) (W0 := W0) (RG K) (fun S H H' y kv _ k r => r.mono k) hD (by omega) pd (fun i xk key vv H3 Nx Z hkv k3 pd3 hxk nx => ?el) (fun H3 ys k3 pd3 h3 pr => ?zdn)⟩
      case el =>
        obtain ⟨e, he, ek, hat⟩ := paired_fst hk hkv
        have ek : key = kL e.1.1 e.1.2 := ek
        subst ek
        have hx1 := hxk.1
        rw [kL_data] at hx1
        obtain ⟨ak, x1, x2, rfl, hsk, hd1, hd2⟩ := of_dp2 hx1
        obtain ⟨da, rfl, hda⟩ := of_iT hd1
        obtain ⟨pt, rfl, hpt⟩ := of_pD hd2
        refine ⟨ak, _, rfl, hsk, rfl, _, _, rfl, _, _, rfl, rfl, ?_⟩
        refine ⟨rfl, yesP ?_⟩
        refine ⟨_, rfl, _, rfl, _, rfl, _, rfl, (by show 2 ≤ sizeLine; decide), fun u1 hu1 => ?_⟩
        have ku1 : Kp [] H3 (upd H3 u1 (.tup [.ref da, .ref pt])) := Kp.new hu1
        have eu1 : SqT K (upd H3 u1 (.tup [.ref da, .ref pt])) u1 [.ref da, .ref pt] := SqT.of upd_same
        generalize upd H3 u1 (.tup [.ref da, .ref pt]) = H4' at ku1 eu1 ⊢
        have hva : GD.valN kvs (kL e.1.1 e.1.2) = some vv := val_at (hk.nodup dp.nd) (List.mem_of_getElem? hkv)
        refine ⟨dh, kvs, kL e.1.1 e.1.2, vv, rfl, (pin_keep ku1 List.not_mem_nil pd3).dn, keyD_L eu1 (dp_keep ku1 (noL_iT _) hd1) (dp_keep ku1 (noL_p _) hd2), hva, (by show 2 ≤ sizeLine; decide), fun u2 hu2 => ?_⟩
        have ku2 := Kp.new (S := []) (o := .tup [.ref pt, vv]) hu2
        have ku12 := ku1.trans ku2
        exact nx _ _ ku12 ⟨u2, pt, e.1.1, e.1.2, rfl, SqT.of upd_same, rfl, keyD_P (dp_keep ku12 (noL_p _) hd2)⟩
      case zdn =>
        have hk3 : HK K H3 av kvs hs := (hk.mono (Kp.chgN ch2 (List.mem_singleton.mpr rfl)) (dn_exts dn)).mono k3 (fun a h => by cases h)
        obtain ⟨gk, hpd, hgk⟩ := rg_pairs pr hk3
        refine ⟨D, ys, gk, rfl, SqL.of h3, hpd, hgk.nodup gok.nd, fun Dg H4' nw4 dn4 => ?_⟩
        have k4 : Kp [] H3 H4' := Kp.newN nw4
        have kall : Kp [] H H3 := (kk.chgN0 nf ch2).trans k3
        refine q H4' Dg gk _ (kall.trans k4) (kall.free Dg nw4.free) dn4 (hgk.mono k4 (fun a h => by cases h)) gok (fun g hg => ?_)
        obtain ⟨e, he, rfl⟩ := List.mem_map.mp hg
        exact (lg e he).pl
end
end LP
end

section
set_option Elab.async false
set_option linter.all false
set_option maxRecDepth 100000
set_option maxHeartbeats 4000000
/-! what the law knows of the layers from a place on -/
namespace LP
open PySem PySem.Spec PyProof.Rows L2 Ly GY
section
variable [LamTab] {P : Program} {W0 : World} {K : PySem.W.Frag} {mg : Str → Option Value} {base : Heap}
/-- lists of pairs that stand apart from av -/
def OC (K : PySem.W.Frag) (H : Hp) (av : List Addr) : List V → List (List (Int × Int)) → Prop := fun vs os => Paired (fun (v : V) (o : List (Int × Int)) => ∃ b zs, v = .ref b ∧ H b = some (.lst zs) ∧ DpAll K H zs (o.map pD) ∧ b ∉ av) vs os
theorem OC.mono {S av : List Addr} {H H' : Hp} {vs : List V} {os : List (List (Int × Int))} (x : OC K H av vs os) (k : Kp S H H') (n : ∀ b zs, H b = some (.lst zs) → b ∉ av → b ∉ S) : OC K H' av vs os :=
  paired_imp (fun v o ⟨b, zs, e, h, d, m⟩ => ⟨b, zs, e, k.lst h (n b zs h m), dps_keep k (noLs_map noL_p _) d, m⟩) x
theorem OC.less {av aw : List Addr} {H : Hp} {vs : List V} {os : List (List (Int × Int))} (x : OC K H av vs os) (s : ∀ b, b ∈ aw → b ∈ av) : OC K H aw vs os :=
  paired_imp (fun v o ⟨b, zs, e, h, d, m⟩ => ⟨b, zs, e, h, d, fun z => m (s b z)⟩) x
theorem OC.up {av : List Addr} {H H' : Hp} {D : Addr} {vs : List V} {os : List (List (Int × Int))} (x : OC K H av vs os) (n : H D = none) (k : Kp [] H H') : OC K H' (D :: av) vs os :=
  paired_imp (fun v o ⟨b, zs, e, h, d, m⟩ => ⟨b, zs, e, k.lst h List.not_mem_nil, dps_keep k (noLs_map noL_p _) d, fun z => by
    rcases List.mem_cons.mp z with z | z
    · rw [z, n] at h; cases h
    · exact m z⟩) x
theorem OC.dps {av : List Addr} {H : Hp} : ∀ {vs : List V} {os : List (List (Int × Int))}, OC K H av vs os → DpAll K H vs (os.map PySem.W.Datum.toD)
  | _, _, .nil => .nil
  | _, _, .cons ⟨b, zs, e, h, d, _⟩ t => by
    subst e
    exact .cons (.lst (SqL.of h) d) (OC.dps t)
/-- at v stands a number and lists of pairs, apart from av -/
def AtC (K : PySem.W.Frag) (H : Hp) (av : List Addr) (v : V) (a : LL) : Prop := ∃ r b ws, v = .ref r ∧ SqT K H r [.int a.1, .ref b] ∧ H b = some (.lst ws) ∧ OC K H av ws a.2 ∧ b ∉ av
theorem AtC.mono {S av : List Addr} {H H' : Hp} {v : V} {a : LL} (x : AtC K H av v a) (k : Kp S H H') (n : ∀ b zs, H b = some (.lst zs) → b ∉ av → b ∉ S) : AtC K H' av v a := by
  obtain ⟨r, b, ws, e, h1, h2, h3, h4⟩ := x
  exact ⟨r, b, ws, e, k.sqT h1, k.lst h2 (n b ws h2 h4), h3.mono k n, h4⟩
theorem AtC.mono0 {av : List Addr} {H H' : Hp} {v : V} {a : LL} (x : AtC K H av v a) (k : Kp [] H H') : AtC K H' av v a := x.mono k fun _ _ _ _ => List.not_mem_nil
theorem AtC.less {av aw : List Addr} {H : Hp} {v : V} {a : LL} (x : AtC K H av v a) (s : ∀ b, b ∈ aw → b ∈ av) : AtC K H aw v a := by
  obtain ⟨r, b, ws, e, h1, h2, h3, h4⟩ := x
  exact ⟨r, b, ws, e, h1, h2, h3.less s, fun m => h4 (s b m)⟩
theorem AtC.up {av : List Addr} {H H' : Hp} {D : Addr} {v : V} {a : LL} (x : AtC K H av v a) (n : H D = none) (k : Kp [] H H') : AtC K H' (D :: av) v a := by
  obtain ⟨r, b, ws, e, h1, h2, h3, h4⟩ := x
  refine ⟨r, b, ws, e, k.sqT h1, k.lst h2 List.not_mem_nil, h3.up n k, fun m => ?_⟩
  rcases List.mem_cons.mp m with z | z
  · rw [z, n] at h2; cases h2
  · exact h4 z
theorem AtC.dp {av : List Addr} {H : Hp} {v : V} {a : LL} (x : AtC K H av v a) : Dp K H v (PySem.W.Datum.toD a) := by
  obtain ⟨r, b, ws, rfl, h1, h2, h3, _⟩ := x
  exact .tup h1 (.cons (.int _) (.cons (.lst (SqL.of h2) h3.dps) .nil))
/-- answers, one by one -/
def CC (K : PySem.W.Frag) (H : Hp) (av : List Addr) : List V → List LL → Prop := fun vs as => Paired (fun v a => AtC K H av v a) vs as
theorem CC.mono {S av : List Addr} {H H' : Hp} {vs : List V} {as : List LL} (x : CC K H av vs as) (k : Kp S H H') (n : ∀ b zs, H b = some (.lst zs) → b ∉ av → b ∉ S) : CC K H' av vs as := paired_imp (fun _ _ r => r.mono k n) x
theorem CC.dps {av : List Addr} {H : Hp} : ∀ {vs : List V} {as : List LL}, CC K H av vs as → DpAll K H vs (as.map PySem.W.Datum.toD)
  | _, _, .nil => .nil
  | _, _, .cons x t => .cons x.dp (CC.dps t)
/-! ### what is known, by how many layers are left and the place -/
def kA (m : Nat) (p : Int × Int) : NestedKey := .tup [.num (m : Int), .tup [.num p.1, .num p.2]]
theorem kA_data (m : Nat) (p : Int × Int) : (kA m p).data = .tuple [.int (m : Int), pD p] := by simp [kA, NestedKey.data, NestedKey.datas, pD]
theorem kA_depth (m : Nat) (p : Int × Int) : (kA m p).depth ≤ 8 := by simp [kA, NestedKey.depth, NestedKey.depthAll]
theorem kA_inj {m m' : Nat} {p q : Int × Int} (h : kA m p = kA m' q) : m = m' ∧ p = q := by
  unfold kA at h
  injection h with h
  injection h with h1 h
  injection h with h2 h
  injection h1 with h1
  injection h2 with h2
  injection h2 with h3 h2
  injection h2 with h4 h2
  injection h3 with h3
  injection h4 with h4
  exact ⟨by omega, Prod.ext h3 h4⟩
theorem keyD_A {H : Hp} {t pa : Addr} {m : Nat} {p : Int × Int} (h : SqT K H t [.int (m : Int), .ref pa]) (hp : Dp K H (.ref pa) (pD p)) : GD.KeyD K H (.ref t) (kA m p) :=
  ⟨by rw [kA_data]; exact .tup h (.cons (.int _) (.cons hp .nil)), kA_depth _ _, _, rfl⟩
def UA : List NestedKey := (List.range 5).flatMap fun m => (List.range 4).flatMap fun (x : Nat) => (List.range 4).map fun (y : Nat) => kA m ((x : Int), (y : Int))
theorem UA_len : UA.length = 80 := by
  unfold UA
  rw [flat_len (n := 16) fun d => by
    rw [flat_len (n := 4) fun x => by rw [List.length_map, List.length_range]]
    rfl]
  rfl
theorem mem_UA {m : Nat} {p : Int × Int} (h : m ≤ 4) (hp : inPl p = true) : kA m p ∈ UA := by
  unfold inPl at hp
  rw [Bool.and_eq_true, btw_iff, btw_iff] at hp
  refine List.mem_flatMap.mpr ⟨m, List.mem_range.mpr (by omega), List.mem_flatMap.mpr ⟨p.1.toNat, List.mem_range.mpr (by omega), List.mem_map.mpr ⟨p.2.toNat, List.mem_range.mpr (by omega), ?_⟩⟩⟩
  rw [show ((p.1.toNat : Nat) : Int) = p.1 by omega, show ((p.2.toNat : Nat) : Int) = p.2 by omega]
structure RC (P : Program) (W0 : World) (K : PySem.W.Frag) (H : Hp) (dk : Addr) (av : List Addr) (Ls : List (List C3)) (kvs : List (NestedKey × V)) : Prop where
  dn : GD.DN K P W0 H dk kvs
  nd : (kvs.map (·.1)).Nodup
  ok : ∀ k v, (k, v) ∈ kvs → ∃ at_ p, at_ < Ls.length ∧ inPl p = true ∧ k = kA (Ls.length - at_) p ∧ AtC K H av v (bestLL Ls at_ p)
theorem RC.le {H : Hp} {dk : Addr} {av : List Addr} {Ls : List (List C3)} {kvs : List (NestedKey × V)} (r : RC P W0 K H dk av Ls kvs) (m : Rm Ls) : kvs.length < sizeLine := by
  have := nodup_le (U := UA) r.nd fun k hk => by
    obtain ⟨⟨k', v⟩, hq, rfl⟩ := List.mem_map.mp hk
    obtain ⟨a, p, g, hp, rfl, _⟩ := r.ok _ _ hq
    exact mem_UA (by have := m.few; omega) hp
  rw [UA_len, List.length_map] at this
  have : (80 : Nat) < sizeLine := by decide
  omega
theorem RC.mono {S : List Addr} {H H' : Hp} {dk : Addr} {av : List Addr} {Ls : List (List C3)} {kvs : List (NestedKey × V)} (r : RC P W0 K H dk av Ls kvs) (k : Kp S H H') (n : dk ∉ S) (f : ∀ b zs, H b = some (.lst zs) → b ∉ av → b ∉ S) : RC P W0 K H' dk av Ls kvs :=
  ⟨dn_mono k n r.dn, r.nd, fun x v h => by
    obtain ⟨a, p, g, hp, e, q⟩ := r.ok x v h
    exact ⟨a, p, g, hp, e, q.mono k f⟩⟩
theorem RC.mono0 {H H' : Hp} {dk : Addr} {av : List Addr} {Ls : List (List C3)} {kvs : List (NestedKey × V)} (r : RC P W0 K H dk av Ls kvs) (k : Kp [] H H') : RC P W0 K H' dk av Ls kvs := r.mono k List.not_mem_nil fun _ _ _ _ => List.not_mem_nil
theorem RC.less {av aw : List Addr} {H : Hp} {dk : Addr} {Ls : List (List C3)} {kvs : List (NestedKey × V)} (r : RC P W0 K H dk av Ls kvs) (s : ∀ b, b ∈ aw → b ∈ av) : RC P W0 K H dk aw Ls kvs :=
  ⟨r.dn, r.nd, fun x v h => by
    obtain ⟨a, p, g, hp, e, q⟩ := r.ok x v h
    exact ⟨a, p, g, hp, e, q.less s⟩⟩
theorem RC.up {H H' : Hp} {dk D : Addr} {av : List Addr} {Ls : List (List C3)} {kvs : List (NestedKey × V)} (r : RC P W0 K H dk av Ls kvs) (n : H D = none) (k : Kp [] H H') : RC P W0 K H' dk (D :: av) Ls kvs :=
  ⟨dn_mono k List.not_mem_nil r.dn, r.nd, fun x v h => by
    obtain ⟨a, p, g, hp, e, q⟩ := r.ok x v h
    exact ⟨a, p, g, hp, e, q.up n k⟩⟩
theorem RC.get {H : Hp} {dk : Addr} {av : List Addr} {Ls : List (List C3)} {kvs : List (NestedKey × V)} {at_ : Nat} {p : Int × Int} {v : V} (r : RC P W0 K H dk av Ls kvs) (ha : at_ < Ls.length) (h : GD.valN kvs (kA (Ls.length - at_) p) = some v) : AtC K H av v (bestLL Ls at_ p) := by
  obtain ⟨a, q, g, _, e, x⟩ := r.ok _ _ (val_mem h)
  obtain ⟨h1, rfl⟩ := kA_inj e
  have : a = at_ := by omega
  rw [← this]
  exact x
theorem RC.put {H H' : Hp} {dk : Addr} {av : List Addr} {Ls : List (List C3)} {kvs : List (NestedKey × V)} {at_ : Nat} {p : Int × Int} {v : V} (r : RC P W0 K H dk av Ls kvs) (ha : at_ < Ls.length) (hp : inPl p = true) (hv : AtC K H av v (bestLL Ls at_ p))
    (c : GD.Chg H H' dk) (d : GD.DN K P W0 H' dk (GD.putN kvs (kA (Ls.length - at_) p) v)) : RC P W0 K H' dk av Ls (GD.putN kvs (kA (Ls.length - at_) p) v) ∧ GD.valN (GD.putN kvs (kA (Ls.length - at_) p) v) (kA (Ls.length - at_) p) = some v := by
  have kc : Kp [dk] H H' := Kp.chgN c (List.mem_singleton.mpr rfl)
  have apart : ∀ b zs, H b = some (.lst zs) → b ∉ av → b ∉ [dk] := fun b zs h _ => (dn_exts r.dn).lst h
  cases n : (GD.valN kvs (kA (Ls.length - at_) p)).isSome with
  | false =>
    have e : GD.putN kvs (kA (Ls.length - at_) p) v = kvs ++ [(kA (Ls.length - at_) p, v)] := by unfold GD.putN; rw [if_neg (by rw [n]; decide)]
    have nm := val_none n
    refine ⟨⟨d, ?_, fun k w h => ?_⟩, ?_⟩
    · rw [e, List.map_append]
      refine List.nodup_append.mpr ⟨r.nd, by simp, fun x hx y hy => ?_⟩
      have hy : y = kA (Ls.length - at_) p := by simpa using hy
      rw [hy]
      intro z
      rw [z] at hx
      exact nm hx
    · rw [e] at h
      rcases List.mem_append.mp h with h | h
      · obtain ⟨a, q, g, hq, e', x⟩ := r.ok k w h
        exact ⟨a, q, g, hq, e', x.mono kc apart⟩
      · have h : (k, w) = (kA (Ls.length - at_) p, v) := List.mem_singleton.mp h
        injection h with h1 h2
        rw [h2]
        exact ⟨at_, p, ha, hp, h1, hv.mono kc apart⟩
    · rw [e]
      unfold GD.valN
      rw [List.find?_append]
      have : kvs.find? (fun q => decide (q.1 = kA (Ls.length - at_) p)) = none := by
        rw [List.find?_eq_none]
        intro q hq
        simp only [decide_eq_true_eq]
        intro z
        exact nm (List.mem_map.mpr ⟨q, hq, z⟩)
      rw [this]
      simp
  | true =>
    have e : GD.putN kvs (kA (Ls.length - at_) p) v = kvs.map fun q => if q.1 = kA (Ls.length - at_) p then (q.1, v) else q := by unfold GD.putN; rw [if_pos n]
    refine ⟨⟨d, ?_, fun k w h => ?_⟩, by rw [e]; exact val_map n⟩
    · rw [e, List.map_map]
      have : ((fun q : NestedKey × V => q.1) ∘ fun q => if q.1 = kA (Ls.length - at_) p then (q.1, v) else q) = fun q => q.1 := by
        funext q
        show (if q.1 = kA (Ls.length - at_) p then (q.1, v) else q).1 = q.1
        split <;> rfl
      rw [this]
      exact r.nd
    · rw [e] at h
      obtain ⟨q, hq, e1⟩ := List.mem_map.mp h
      by_cases z : q.1 = kA (Ls.length - at_) p
      · rw [if_pos z] at e1
        injection e1 with h1 h2
        rw [← h2, ← h1]
        exact ⟨at_, p, ha, hp, z, hv.mono kc apart⟩
      · rw [if_neg z] at e1
        obtain ⟨a, q', g, hq', e', x⟩ := r.ok k w (by rw [← e1]; exact hq)
        exact ⟨a, q', g, hq', e', x.mono kc apart⟩
/-! ### layers as data -/
def lsD (L : List C3) : PyData := .list (L.map cD)
theorem la_dps {H : Hp} : ∀ {xs : List V} {Ls : List (List C3)}, LA K H xs Ls → DpAll K H xs (Ls.map lsD)
  | _, _, .nil => .nil
  | _, _, .cons ⟨b, ys, e, h, i⟩ t => by
    subst e
    exact .cons (.lst (SqL.of h) i) (la_dps t)
theorem cs_lay : ∀ L : List C3, PyData.canLayAll0 (L.map cD) = true
  | [] => by simp [PyData.canLayAll0]
  | c :: L => by simp [PyData.canLayAll0, cD, PyData.canLay0, cs_lay L]
theorem cs_dep : ∀ L : List C3, PyData.depthAll (L.map cD) ≤ 2
  | [] => by simp [PyData.depthAll]
  | c :: L => by
    have := cs_dep L
    simp only [List.map_cons, PyData.depthAll, cD, PyData.depth]
    omega
theorem ls_lay : ∀ Ls : List (List C3), PyData.canLayAll0 (Ls.map lsD) = true
  | [] => by simp [PyData.canLayAll0]
  | L :: Ls => by
    have h := cs_lay L
    simp only [List.map_cons, PyData.canLayAll0, lsD, PyData.canLay0, Bool.and_eq_true]
    exact ⟨by simpa using h, by simpa [lsD] using ls_lay Ls⟩
theorem ls_dep : ∀ Ls : List (List C3), PyData.depthAll (Ls.map lsD) ≤ 4
  | [] => by simp [PyData.depthAll]
  | L :: Ls => by
    have h1 := ls_dep Ls
    have h2 := cs_dep L
    have e : (lsD L).depth = 1 + PyData.depthAll (L.map cD) := by unfold lsD; simp only [PyData.depth]; try omega
    simp only [List.map_cons, PyData.depthAll]
    omega
theorem ls_shaped (Ls : List (List C3)) : SeqAt.shaped (.list (Ls.map lsD)) = true := by
  have h1 := ls_lay Ls
  have h2 := ls_dep Ls
  have h3 : PyData.depth (.list (Ls.map lsD)) ≤ 64 := by
    simp only [PyData.depth]
    omega
  show (PyData.canLay0 (.list (Ls.map lsD)) && decide (PyData.depth (.list (Ls.map lsD)) ≤ 64)) = true
  rw [Bool.and_eq_true]
  exact ⟨by simp only [PyData.canLay0]; exact h1, decide_eq_true h3⟩
theorem ls_eqv (Ls : List (List C3)) : PyData.eqv (.list (Ls.map lsD)) (.list []) = decide (Ls = []) := by
  cases Ls <;> simp [PyData.eqv, PyData.eqvAll]
theorem cut1 (x : V) (xs : List V) : cutV (x :: xs) (some 1) none = xs := by
  unfold cutV
  rw [show (some (1 : Int)) = some (((1 : Nat) : Int)) from rfl, HT.sIx_nat]
  have e : HT.sIx (x :: xs).length (x :: xs).length none = (x :: xs).length := rfl
  rw [e, Nat.min_eq_left (show 1 ≤ (x :: xs).length by rw [List.length_cons]; omega)]
  show (List.take (xs.length + 1 - 1) xs) = xs
  rw [Nat.add_sub_cancel, List.take_length]
end
end LP
end

section
set_option Elab.async false
set_option linter.all false
set_option maxRecDepth 100000
set_option maxHeartbeats 4000000
/-! _law_chain -/
namespace LP
open PySem PySem.Spec PyProof.Rows L2 Ly GY
section
variable [LamTab] {P : Program} {W0 : World} {K : PySem.W.Frag} {mg : Str → Option Value} {base : Heap}
def spChain (P : Program) (W0 : World) (K : PySem.W.Frag) (n : Nat) : Sp := fun vs H Q _ => ∃ (la dk : Addr) (pv : V) (at_ : Nat) (p : Int × Int) (Ls : List (List C3)) (xs : List V) (av : List Addr) (kvs : List (NestedKey × V)), vs = [.ref la, pv, .ref dk] ∧
  H la = some (.lst xs) ∧ LA K H xs (Ls.drop at_) ∧ Rm Ls ∧ at_ ≤ Ls.length ∧ inPl p = true ∧ Dp K H pv (pD p) ∧ RC P W0 K H dk av Ls kvs ∧ (∀ a ∈ av, H a ≠ none) ∧ Ls.length - at_ < n ∧
  ∀ (H' : Hp) (v : V) (kvs' : List (NestedKey × V)), Kp [dk] H H' → RC P W0 K H' dk av Ls kvs' → AtC K H' av v (bestLL Ls at_ p) → Q v H'
abbrev nChain : List Str := ["_law_layers", "_law_place", "_law_known", "_law_at", "_law_goals_here", "_law_some", "_law_there", "_law_way", "_law_order", "_law_more", "_law_orders"]
theorem scChain : FnScope nChain ["_law_layers", "_law_place", "_law_known"] (defScope lChain) := ⟨rfl, rfl, rfl, by decide +kernel, rfl, by decide +kernel, by decide +kernel⟩
theorem chain_none {f : Addr} {fd : FuncData} : FnOk P W0 K mg base CX0 2 f fd ["_law_layers", "_law_place", "_law_known"] (spChain P W0 K 0) := by
  have no : ∀ vs H Q E, ¬ spChain P W0 K 0 vs H Q E := fun vs H Q E h => by
    obtain ⟨_, _, _, _, _, _, _, _, _, _, _, _, _, _, _, _, _, _, hn, _⟩ := h
    omega
  exact ⟨fun vs H Q E h => absurd h (no vs H Q E), fun A outer s H args us vs Q E _ _ _ _ h => absurd h (no vs H Q E)⟩
theorem chain_step {n r : Nat} {f fG : Addr} {fd dG : FuncData} (hr0 : 2 ≤ r) (F : Fun K "_law_chain" "_law_chain" lChain f fd) (T : Nm K mg) (O : No mg) (NG : Fn K mg "_law_goals" fG dG ["_law_runs", "_law_place"]) (GG : FnOk P W0 K mg base CX0 2 fG dG ["_law_runs", "_law_place"] (spGoals P W0 K))
    (NR : Fn K mg "_law_chain" f fd ["_law_layers", "_law_place", "_law_known"]) (GR : FnOk P W0 K mg base CX0 r f fd ["_law_layers", "_law_place", "_law_known"] (spChain P W0 K n)) :
    FnOk P W0 K mg base CX0 (r + 1) f fd ["_law_layers", "_law_place", "_law_known"] (spChain P W0 K (n + 1)) := by
  refine F.ok scChain (fun vs H Q E h => ?_) (fun cdv A outer s H vs Q E hr h => ?_)
  · obtain ⟨la, dk, pv', at_, p, Ls, xs, av, kvs, rfl, _⟩ := h
    rfl
  · obtain ⟨la, dk, pv', at_, p, Ls, xs, av, kvs, rfl, hxs, hLA, hrm, hat, hp, hpv, hrc, hav, hms, q⟩ := h
    have hr2 : Room 2 _ := hr.mono (by omega)
    have hU : (A.deeper (envOfC "_law_chain" (defScope lChain) s.heap.objs.size f cdv)).units + 64 < cLine := by have := u65 hr; omega
    have hM : (A.deeper (envOfC "_law_chain" (defScope lChain) s.heap.objs.size f cdv)).units + 1 + PySem.W.Datum.depth LL < cLine := by
      have e : PySem.W.Datum.depth LL ≤ 10 := by decide
      omega
    refine ⟨_, pss_cons (ps_if (pt_cmpR (op_eqD hU) (pv 0) (pe_lst pa_nil) (nomark _)) (pss_one (ps_ret (pe_tup (pa_cons pe_int (pa_cons (pe_lst pa_nil) pa_nil))))) pss_nil)
      (pss_cons (ps_set (i := 3) scChain.nd rfl (.inl rfl) (pe_tup (pa_cons (pe_callB call_len_seq (by rfl) T.len PySem.boot_len (pa_cons (pv 0) pa_nil)) (pa_cons (pv 1) pa_nil))))
      (pss_cons (ps_if (pt_cmpR (r := GD.rNotInN K P W0) (GD.op_notInN hU) (pv 3) (pv 2) (by rfl))
        (pss_cons (ps_set (i := 4) scChain.nd rfl (.inl rfl) (pe_call GG hr2 (by rfl) NG.m NG.kp NG.b .nil pass0 (pa_cons (pe_ix (r := rIxL K) ix_list (pv 0) pe_int (fun _ _ => rfl)) (pa_cons (pv 1) pa_nil))))
        (pss_cons (ps_set (i := 5) scChain.nd rfl (.inl rfl) (pe_lst pa_nil))
        (pss_cons (ps_for PassesOwn.never rfl (GD.pi_keysN (pv 4)) (pg_name (i := 6) scChain.nd rfl (.inl rfl))
          (pss_cons (ps_asg (pe_ix (r := GD.rIxN K P W0) (GD.ix_N hU) (pv 4) (pv 6) (fun _ _ => rfl)) (pg_tup rfl (pgs_cons (pg_name (i := 7) scChain.nd rfl (.inl rfl)) (pgs_cons (pg_name (i := 8) scChain.nd rfl (.inl rfl)) pgs_nil))))
          (pss_cons (ps_asg (pe_call GR hr (by rfl) NR.m NR.kp NR.b .nil pass0 (pa_cons (pe_slice sl_list (pv 0) (po_some pe_int) po_none) (pa_cons (pv 6) (pa_cons (pv 2) pa_nil)))) (pg_tup rfl (pgs_cons (pg_name (i := 9) scChain.nd rfl (.inl rfl)) (pgs_cons (pg_name (i := 10) scChain.nd rfl (.inl rfl)) pgs_nil))))
          (pss_one (ps_expr (pe_bm PySem.F.plainAttrs_list PySem.F.slot_list_append PySem.F.type_list_append mt_append (pv 5) (pa_cons (pe_tup (pa_cons (pe_op op_add (pv 7) (pv 9)) (pa_cons (pe_op op_cat (pe_lst (pa_cons (pv 8) pa_nil)) (pv 10)) pa_nil))) pa_nil)))))))
        (pss_one (ps_asg (pe_callB (GMin.cr_minT (α := LL) rfl hM) (by rfl) O.min (by decide +kernel) (pa_cons (pv 5) pa_nil)) (pg_sub (pv 2) (pv 3) (GD.set_N hU))))))) pss_nil)
      (pss_one (ps_ret (pe_ix (r := GD.rIxN K P W0) (GD.ix_N hU) (pv 2) (pv 3) (fun _ _ => rfl)))))), ?_⟩
    obtain ⟨pa, rfl, hpa⟩ := of_pD hpv
    have hf4 := hrm.few
    refine ⟨_, rfl, (by show 0 ≤ sizeLine; decide), fun e0 he0 => ?_⟩
    have k1 : Kp [] H (upd H e0 (.lst [])) := Kp.new he0
    have ee0 : upd H e0 (.lst []) e0 = some (.lst []) := upd_same
    generalize upd H e0 (.lst []) = H1 at k1 ee0 ⊢
    have hLA1 := hLA.mono k1 (fun a h => by cases h)
    have hxs1 := k1.lst hxs List.not_mem_nil
    refine ⟨.list ((Ls.drop at_).map lsD), .list [], .lst (SqL.of hxs1) (la_dps hLA1), .lst (SqL.of ee0) .nil, ls_shaped _, ls_shaped [], _, rfl, ?_⟩
    rw [ls_eqv]
    by_cases c0 : Ls.length ≤ at_
    · have ed := List.drop_eq_nil_of_le c0
      refine iteT' (by rw [decide_eq_true ed]) ⟨(by show 0 ≤ sizeLine; decide), fun q1 hq1 => ⟨(by show 2 ≤ sizeLine; decide), fun t ht => ?_⟩⟩
      have k2 : Kp [] H1 (upd H1 q1 (.lst [])) := Kp.new hq1
      have k3 := Kp.new (S := []) (o := .tup [.int 0, .ref q1]) ht
      have k03 := (k1.trans k2).trans k3
      refine q _ (.ref t) kvs k03.w0 (hrc.mono0 k03) ?_
      have eb : bestLL Ls at_ p = (0, []) := by
        unfold bestLL
        rw [ed, best_end [] p c0]
        rfl
      rw [eb]
      exact ⟨t, q1, [], rfl, SqT.of upd_same, k3.lst upd_same List.not_mem_nil, .nil, fun m => hav q1 m (k1.free q1 hq1)⟩
    · have hlt : at_ < Ls.length := by omega
      have hL : Ls[at_]? = some Ls[at_] := List.getElem?_eq_getElem hlt
      have ed : Ls.drop at_ = Ls[at_] :: Ls.drop (at_ + 1) := List.drop_eq_getElem_cons hlt
      generalize Ls[at_] = L at hL ed
      refine iteF' (by rw [decide_eq_false (by rw [ed]; intro z; cases z)]) ?_
      rw [ed] at hLA1
      cases hLA1 with
      | cons hx0 hLAt =>
      rename_i x0 xs'
      obtain ⟨lb, ys, rfl, hlb, hIb⟩ := hx0
      have hxl := hLAt.length
      rw [List.length_drop] at hxl
      refine ⟨_, rfl, la, _, rfl, .inl (SqL.of hxs1), _, rfl, (by show 2 ≤ sizeLine; decide), fun t1 ht1 => ?_⟩
      have em : ((V.ref lb :: xs').length : Int) = ((Ls.length - at_ : Nat) : Int) := by rw [List.length_cons, hxl]; omega
      have k2 : Kp [] H1 (upd H1 t1 (.tup [.int ((V.ref lb :: xs').length : Int), .ref pa])) := Kp.new ht1
      have e2 : SqT K (upd H1 t1 (.tup [.int ((V.ref lb :: xs').length : Int), .ref pa])) t1 [.int ((V.ref lb :: xs').length : Int), .ref pa] := SqT.of upd_same
      generalize upd H1 t1 (.tup [.int ((V.ref lb :: xs').length : Int), .ref pa]) = Hb at k2 e2 ⊢
      rw [em] at e2
      have kb := k1.trans k2
      have hrcb := hrc.mono0 kb
      have hpab := kb.sqT hpa
      have key : ∀ {S : List Addr} {H' : Hp}, Kp S Hb H' → GD.KeyD K H' (.ref t1) (kA (Ls.length - at_) p) := fun k' => key_mono k' (keyD_A e2 (dp_p hpab))
      refine ⟨_, rfl, _, rfl, dk, kvs, kA (Ls.length - at_) p, rfl, hrcb.dn, key (Kp.refl [] _), _, rfl, ?_⟩
      cases hv0 : (GD.valN kvs (kA (Ls.length - at_) p)).isSome with
      | true =>
        refine iteF' rfl ?_
        obtain ⟨v0, e0'⟩ := Option.isSome_iff_exists.mp hv0
        exact ⟨_, rfl, _, rfl, dk, kvs, kA (Ls.length - at_) p, v0, rfl, hrcb.dn, key (Kp.refl [] _), e0', q Hb v0 kvs kb.w0 hrcb (hrcb.get hlt e0')⟩
      | false =>
        refine iteT' rfl ?_
        have hxsb := k2.lst hxs1 List.not_mem_nil
        have hLAb := LA.mono k2 (fun a h => by cases h) hLAt
        have hlbb := k2.lst hlb List.not_mem_nil
        have hIbb := items_mono k2 hIb
        have hrmL : Rm [L] := ⟨by show 1 ≤ 4; decide, fun M hM => by rw [List.mem_singleton.mp hM]; exact hrm.le L (List.mem_of_getElem? hL), fun M hM => by rw [List.mem_singleton.mp hM]; exact hrm.rm L (List.mem_of_getElem? hL)⟩
        refine ⟨_, rfl, la, _, 0, _, rfl, rfl, SqL.of hxsb, (atI_nat (j := 0) (xs := V.ref lb :: xs') (v := .ref lb) rfl), _, rfl, lb, .ref pa, ys, L, p, av, rfl, fun a ha z => hav a ha (kb.free a z), hlbb, hIbb, hrmL, hp, dp_p hpab, fun H3 dg gk gs k3 nfg dng hgk gok hpl => ?_⟩
        refine ⟨(by show 0 ≤ sizeLine; decide), fun D hD => ?_⟩
        have kD : Kp [] H3 (upd H3 D (.lst [])) := Kp.new hD
        have eD : upd H3 D (.lst []) D = some (.lst []) := upd_same
        generalize upd H3 D (.lst []) = HD at kD eD ⊢
        have kbD := k3.trans kD
        have hrcD : RC P W0 K HD dk (D :: av) Ls kvs := (hrcb.mono0 k3).up hD kD
        have hgkD : GK K HD (D :: av) gk gs := paired_imp (fun kv g r => ⟨r.1, r.2.up hD kD⟩) hgk
        have dngD := dn_mono kD List.not_mem_nil dng
        refine ⟨_, rfl, dg, gk, rfl, dngD, fun o Lr H4 ch pd => ?_⟩
        have k4 : Kp [dg] HD H4 := Kp.chgN ch (List.mem_singleton.mpr rfl)
        have kb4 : Kp [] Hb H4 := kbD.chgN0 nfg ch
        have exg : Exts HD [dg] := dn_exts dngD
        have hgk4 : GK K H4 (D :: av) gk gs := hgkD.mono k4 exg
        have exk : Exts HD [dk] := dn_exts hrcD.dn
        have ngk : dg ≠ dk := fun z => by
          obtain ⟨φ, M, e, _⟩ := hrcb.dn
          rw [← z, nfg] at e
          cases e
        have hrc4 : RC P W0 K H4 dk (D :: av) Ls kvs := hrcD.mono k4 (fun z => ngk (List.mem_singleton.mp z).symm) (fun b zs h _ => exg.lst h)
        have hD4 := k4.lst eD (exg.lst eD)
        have ndk : dk ∉ [D] := fun z => by
          obtain ⟨φ, M, e, _⟩ := hrc4.dn
          rw [List.mem_singleton.mp z, hD4] at e
          cases e
        have ndg : dg ∉ [D] := fun z => by
          have e := pd.at_
          rw [List.mem_singleton.mp z, hD4] at e
          cases e
        have gdk : dg ∉ [dk] := fun z => ngk (List.mem_singleton.mp z)
        have nDk : D ∉ [dk] := fun z => ndk (by rw [List.mem_singleton.mp z]; exact List.mem_singleton.mpr rfl)
        have hav4 : ∀ {S : List Addr} {H' : Hp}, Kp S Hb H' → ∀ a ∈ av, H' a ≠ none := fun k' a ha z => hav a ha (kb.free a (k'.free a z))
        have ex4 : Exts H4 [dk] := dn_exts hrc4.dn
        have nbD : Hb D = none := k3.free D hD
        have gfew := goals_few gok.nd hpl
        have gkl : gk.length = gs.length := paired_len hgk
        refine for_it walk_keysK (fun i σ H5 => Kp [dk] Hb H5 ∧ ∃ (o6 o7 o8 o9 o10 : Option V) (kvs' : List (NestedKey × V)) (acc : List V), σ = [some (.ref la), some (.ref pa), some (.ref dk), some (.ref t1), some (.ref dg), some (.ref D), o6, o7, o8, o9, o10] ∧ GD.Pinned K P W0 H5 dg o Lr gk ∧ GK K H5 (D :: av) gk gs ∧ RC P W0 K H5 dk (D :: av) Ls kvs' ∧ H5 D = some (.lst acc) ∧ CC K H5 (D :: av) acc ((gs.take i).map (goalLL Ls at_)))
          ⟨kb4.w0, none, none, none, none, none, kvs, [], rfl, pd, hgk4, hrc4, hD4, .nil⟩ (fun i σ H5 _ pv => pv.2.choose_spec.choose_spec.choose_spec.choose_spec.choose_spec.choose_spec.choose_spec.2.1) (fun i xk σ H0 H5 hi pv y => ?key) (fun σ H5 pv => ?tend)
        case tend =>
          obtain ⟨k5, p6, p7, p8, p9, p10, kvs5, acc, rfl, pd5, hgk5, hrc5, hA, hcc⟩ := pv
          rw [gkl, List.take_length] at hcc
          obtain ⟨y0, ds, eg, emin⟩ := goals_bestLL hL gok
          rw [eg] at hcc
          refine ⟨_, rfl, D, acc, y0, ds, rfl, SqL.of hA, hcc.dps, fun i2 y hy hiy => ?_⟩
          obtain ⟨a2, ha2, hat2⟩ := paired_fst hcc hy
          have ea : a2 = bestLL Ls at_ p := by
            rw [hiy, emin] at ha2
            exact (Option.some.inj ha2).symm
          subst ea
          refine ⟨_, rfl, _, rfl, dk, kvs5, kA (Ls.length - at_) p, rfl, hrc5.dn, key k5, hrc5.le hrm, fun H6 ch6 dn6 => ?_⟩
          obtain ⟨hrc6, hval⟩ := hrc5.put hlt hp hat2 ch6 dn6
          have k6 : Kp [dk] H5 H6 := Kp.chgN ch6 (List.mem_singleton.mpr rfl)
          exact ⟨_, rfl, _, rfl, dk, _, kA (Ls.length - at_) p, y, rfl, dn6, key (k5.trans k6), hval, q H6 y _ ((kb.w0.trans k5).trans k6) (hrc6.less fun b m => List.mem_cons_of_mem _ m) ((hrc6.get hlt hval).less fun b m => List.mem_cons_of_mem _ m)⟩
        case key =>
          obtain ⟨rfl, kk, vv, hkv, hxk⟩ := y
          obtain ⟨k5, p6, p7, p8, p9, p10, kvs5, acc, rfl, pd5, hgk5, hrc5, hA, hcc⟩ := pv
          obtain ⟨g, hg, ek, hatg⟩ := paired_fst hgk5 hkv
          have ek : kk = kP g.1 := ek
          subst ek
          have hgm := List.mem_of_getElem? hg
          have hpg := hpl g hgm
          have hx1 := hxk.1
          rw [kP_data] at hx1
          obtain ⟨pt, rfl, hpt⟩ := of_pD hx1
          have hva : GD.valN gk (kP g.1) = some vv := val_at (hgk5.nodup gok.nd) (List.mem_of_getElem? hkv)
          obtain ⟨r5, b5, zs5, rfl, hr5, hb5, hz5, hn5⟩ := hatg
          have hr5 : SqT K H5 r5 [.int g.2.1, .ref b5] := hr5
          have hz5 : DpAll K H5 zs5 (g.2.2.map pD) := hz5
          refine ⟨_, rfl, _, rfl, dg, gk, kP g.1, _, rfl, pd5.dn, hxk, hva, r5, _, rfl, hr5, rfl, _, _, rfl, _, _, rfl, rfl, ?_⟩
          have exb : Exts Hb [dk] := dn_exts hrcb.dn
          have hxs5 := k5.lst hxsb (exb.lst hxsb)
          refine ⟨_, rfl, 1, rfl, la, _, rfl, SqL.of hxs5, fun sl hsl => ?_⟩
          rw [cut1]
          have k6 : Kp [] H5 (upd H5 sl (.lst xs')) := Kp.new hsl
          have e6 : upd H5 sl (.lst xs') sl = some (.lst xs') := upd_same
          generalize upd H5 sl (.lst xs') = H6 at k6 e6 ⊢
          have k56 : Kp [dk] Hb H6 := k5.trans k6.w0
          have hav6 : ∀ a ∈ D :: av, H6 a ≠ none := fun a ha z => by
            rcases List.mem_cons.mp ha with e | e
            · rw [e] at z
              have := k6.free D z
              rw [hA] at this
              cases this
            · exact hav4 k56 a e z
          refine ⟨_, rfl, _, rfl, sl, dk, .ref pt, at_ + 1, g.1, Ls, xs', D :: av, kvs5, rfl, e6, LA.mono k56 exb hLAb, hrm, hlt, hpg, dp_keep k6 (noL_p _) hx1, hrc5.mono0 k6, hav6, by omega, fun H7 v7 kvs7 k7 hrc7 hat7 => ?_⟩
          have ex6 : Exts H6 [dk] := dn_exts (hrc5.mono0 k6).dn
          obtain ⟨r7, b7, ws, rfl, hr7, hb7, hoc7, hn7⟩ := hat7
          refine ⟨r7, _, rfl, hr7, rfl, _, _, rfl, _, _, rfl, rfl, ?_⟩
          have hA6 := k6.lst hA List.not_mem_nil
          have hA7 := k7.lst hA6 nDk
          have hb57 := k7.lst (k6.lst hb5 List.not_mem_nil) (ex6.lst (k6.lst hb5 List.not_mem_nil))
          have hz57 := dps_keep k7 (noLs_map noL_p _) (dps_keep k6 (noLs_map noL_p _) hz5)
          have hcc7 : CC K H7 (D :: av) acc _ := (hcc.mono k6 (fun _ _ _ _ => List.not_mem_nil)).mono k7 (fun b zs h _ => ex6.lst h)
          have hgk7 : GK K H7 (D :: av) gk gs := (hgk5.mono k6 (fun a h => by cases h)).mono k7 ex6
          have pd7 := pin_keep k7 gdk (pin_keep k6 List.not_mem_nil pd5)
          refine ⟨_, rfl, .inl ⟨rfl, _, SqL.of hA7⟩, _, rfl, _, rfl, _, _, rfl, rfl, _, rfl, (by show 1 ≤ sizeLine; decide), fun q2 hq2 => ?_⟩
          have k8 : Kp [] H7 (upd H7 q2 (.lst [.ref b5])) := Kp.new hq2
          have e8 : upd H7 q2 (.lst [.ref b5]) q2 = some (.lst [.ref b5]) := upd_same
          generalize upd H7 q2 (.lst [.ref b5]) = H8 at k8 e8 ⊢
          have hb8 := k8.lst hb7 List.not_mem_nil
          have hwl : ws.length = (Ls.drop (at_ + 1)).length := by
            rw [paired_len hoc7]
            show (chunks (Ls.drop (at_ + 1)) _).length = _
            rw [chunks_len]
          rw [List.length_drop] at hwl
          refine ⟨_, rfl, q2, b7, _, ws, rfl, rfl, e8, hb8, Nat.le_of_lt (small_size (by show 1 + ws.length ≤ _; omega)), fun q3 hq3 => ⟨(by show 2 ≤ sizeLine; decide), fun t9 ht9 => ?_⟩⟩
          have k9 : Kp [] H8 (upd H8 q3 (.lst ([.ref b5] ++ ws))) := Kp.new hq3
          have e9 : upd H8 q3 (.lst ([.ref b5] ++ ws)) q3 = some (.lst ([.ref b5] ++ ws)) := upd_same
          generalize upd H8 q3 (.lst ([.ref b5] ++ ws)) = H9 at k9 e9 ht9 ⊢
          have k10 : Kp [] H9 (upd H9 t9 (.tup [.int (g.2.1 + (bestLL Ls (at_ + 1) g.1).1), .ref q3])) := Kp.new ht9
          have e10 : SqT K (upd H9 t9 (.tup [.int (g.2.1 + (bestLL Ls (at_ + 1) g.1).1), .ref q3])) t9 [.int (g.2.1 + (bestLL Ls (at_ + 1) g.1).1), .ref q3] := SqT.of upd_same
          generalize upd H9 t9 (.tup [.int (g.2.1 + (bestLL Ls (at_ + 1) g.1).1), .ref q3]) = H10 at k10 e10 ⊢
          have k710 := (k8.trans k9).trans k10
          have hA10 := k710.lst hA7 List.not_mem_nil
          have kall : Kp [dk] Hb H10 := (k56.trans k7).trans k710.w0
          have n3 : q3 ∉ D :: av := fun m => by
            rcases List.mem_cons.mp m with e | e
            · rw [e] at hq3
              have := k8.free D hq3
              rw [hA7] at this
              cases this
            · exact hav4 ((k56.trans k7).trans k8.w0) q3 e hq3
          have hat10 : AtC K H10 (D :: av) (.ref t9) (goalLL Ls at_ g) := by
            refine ⟨t9, q3, _, rfl, e10, k10.lst e9 List.not_mem_nil, ?_, n3⟩
            refine .cons ⟨b5, zs5, rfl, k710.lst hb57 List.not_mem_nil, dps_keep k710 (noLs_map noL_p _) hz57, hn5⟩ (hoc7.mono k710 (fun _ _ _ _ => List.not_mem_nil))
          have kc : Kp [D] H10 (upd H10 D (.lst (acc ++ [.ref t9]))) := Kp.chg hA10 (List.mem_singleton.mpr rfl)
          have offD : ∀ (H' : Hp) (b : Addr) (zs : List V), H' b = some (.lst zs) → b ∉ D :: av → b ∉ [D] := fun H' b zs _ m z => m (by rw [List.mem_singleton.mp z]; exact List.mem_cons_self)
          have hal := paired_len hcc7
          rw [List.length_map, List.length_take] at hal
          refine ⟨D, acc, _, rfl, rfl, hA10, small_size (by omega), kall.chg0 nbD hA10, _, _, _, _, _, kvs7, acc ++ [.ref t9], rfl, pin_keep kc ndg (pin_keep k710 List.not_mem_nil pd7), ?_, ?_, upd_same, ?_⟩
          · exact paired_imp (fun kv g r => ⟨r.1, r.2.mono kc (offD _)⟩) (hgk7.mono k710 (fun a h => by cases h))
          · exact (hrc7.mono0 k710).mono kc ndk (offD _)
          · rw [List.take_add_one, hg, List.map_append]
            exact paired_snoc (hat10.mono kc (offD _)) ((hcc7.mono k710 (fun _ _ _ _ => List.not_mem_nil)).mono kc (offD _))
theorem ok_chain {f fG : Addr} {fd dG : FuncData} (F : Fun K "_law_chain" "_law_chain" lChain f fd) (T : Nm K mg) (O : No mg) (NG : Fn K mg "_law_goals" fG dG ["_law_runs", "_law_place"]) (GG : FnOk P W0 K mg base CX0 2 fG dG ["_law_runs", "_law_place"] (spGoals P W0 K))
    (NR : Fn K mg "_law_chain" f fd ["_law_layers", "_law_place", "_law_known"]) : ∀ n : Nat, FnOk P W0 K mg base CX0 (n + 2) f fd ["_law_layers", "_law_place", "_law_known"] (spChain P W0 K n)
  | 0 => chain_none
  | n + 1 => chain_step (r := n + 2) (by omega) F T O NG GG NR (ok_chain F T O NG GG NR n)
end
end LP
end

section
set_option Elab.async false
set_option linter.all false
set_option maxRecDepth 100000
set_option maxHeartbeats 4000000
/-! _best_rest -/
namespace LP
open PySem PySem.Spec PyProof.Rows L2 Ly GY
section
variable [LamTab] {P : Program} {W0 : World} {K : PySem.W.Frag} {mg : Str → Option Value} {base : Heap}
theorem scRest : FnScope ["layers", "at", "done", "place", "known", "key", "tried", "stroke", "far", "further", "end", "way", "rest"] ["layers", "at", "done", "place", "known"] (defScope sBestRest) := ⟨rfl, rfl, rfl, by decide +kernel, rfl, by decide +kernel, by decide +kernel⟩
theorem rest_step {n r : Nat} {f fW fR : Addr} {fd dW dR : FuncData} (hu0 : r ≤ 200) (hu1 : 1 ≤ r) (F : Fun K "_best_rest" "_best_rest" sBestRest f fd) (T : Nm K mg) (O : No mg) (NW : Fn K mg "drawn_next" fW dW ["runs", "done", "place"]) (GW : FnOk P W0 K mg base CX0 2 fW dW ["runs", "done", "place"] (spNext2 K))
    (NR : Fn K mg "_best_rest" fR dR ["layers", "at", "done", "place", "known"]) (GR : FnOk P W0 K mg base CX0 r fR dR ["layers", "at", "done", "place", "known"] (spRest P W0 K n)) :
    FnOk P W0 K mg base CX0 (r + 1 + 1) f fd ["layers", "at", "done", "place", "known"] (spRest P W0 K (n + 1)) := by
  refine F.ok scRest (fun vs H Q E h => ?_) (fun cdv A outer s H vs Q E hr h => ?_)
  · obtain ⟨la, dk, dv, pv', at_, done, p, Ls, kvs, rfl, _⟩ := h
    rfl
  · obtain ⟨la, dk, dv, pv', at_, done, p, Ls, kvs, rfl, hla, hrm, hrs, hpl, hst, hdv, hpv, hms, q⟩ := h
    have hrr : Room r _ := hr.mono (by omega)
    have hr2 : Room 2 _ := hr.mono (by omega)
    have hU : (A.deeper (envOfC "_best_rest" (defScope sBestRest) s.heap.objs.size f cdv)).units + 64 < cLine := by have := u65 hr; omega
    have hM : (A.deeper (envOfC "_best_rest" (defScope sBestRest) s.heap.objs.size f cdv)).units + 1 + PySem.W.Datum.depth AO < cLine := by
      have e : PySem.W.Datum.depth AO ≤ 10 := by decide
      omega
    refine ⟨_, pss_cons (ps_if (pt_cmpR op_eq (pv 1) (pe_callB call_len_seq (by rfl) T.len PySem.boot_len (pa_cons (pv 0) pa_nil)) (nomark _)) (pss_one (ps_ret (pe_tup (pa_cons pe_int (pa_cons (pe_tup pa_nil) pa_nil))))) pss_nil)
      (pss_cons (ps_if (pt_cmpR op_eq (pe_callB call_len_seq (by rfl) T.len PySem.boot_len (pa_cons (pv 2) pa_nil)) (pe_callB call_len_seq (by rfl) T.len PySem.boot_len (pa_cons (pe_ix (r := rIxL K) ix_list (pv 0) (pv 1) (fun _ _ => rfl)) pa_nil)) (nomark _))
          (pss_one (ps_ret (pe_call GR hrr (by rfl) NR.m NR.kp NR.b .nil pass0 (pa_cons (pv 0) (pa_cons (pe_op op_add (pv 1) pe_int) (pa_cons (pe_tup pa_nil) (pa_cons (pv 3) (pa_cons (pv 4) pa_nil)))))))) pss_nil)
      (pss_cons (ps_set (i := 5) scRest.nd rfl (.inl rfl) (pe_tup (pa_cons (pv 1) (pa_cons (pv 2) (pa_cons (pv 3) pa_nil)))))
      (pss_cons (ps_if (pt_cmpR (r := GD.rNotInN K P W0) (GD.op_notInN hU) (pv 5) (pv 4) (by rfl))
          (pss_cons (ps_set (i := 6) scRest.nd rfl (.inl rfl) (pe_lst pa_nil))
          (pss_cons (ps_for PassesOwn.never rfl (pi_list (pe_call GW hr2 (by rfl) NW.m NW.kp NW.b .nil pass0 (pa_cons (pe_ix (r := rIxL K) ix_list (pv 0) (pv 1) (fun _ _ => rfl)) (pa_cons (pv 2) (pa_cons (pv 3) pa_nil)))))
              (pg_tup rfl (pgs_cons (pg_name (i := 7) scRest.nd rfl (.inl rfl)) (pgs_cons (pg_name (i := 8) scRest.nd rfl (.inl rfl)) (pgs_cons (pg_name (i := 9) scRest.nd rfl (.inl rfl)) (pgs_cons (pg_name (i := 10) scRest.nd rfl (.inl rfl)) pgs_nil)))))
            (pss_cons (ps_asg (pe_call GR hrr (by rfl) NR.m NR.kp NR.b .nil pass0 (pa_cons (pv 0) (pa_cons (pv 1) (pa_cons (pv 9) (pa_cons (pv 10) (pa_cons (pv 4) pa_nil)))))) (pg_tup rfl (pgs_cons (pg_name (i := 11) scRest.nd rfl (.inl rfl)) (pgs_cons (pg_name (i := 12) scRest.nd rfl (.inl rfl)) pgs_nil))))
            (pss_one (ps_expr (pe_bm PySem.F.plainAttrs_list PySem.F.slot_list_append PySem.F.type_list_append mt_append (pv 6) (pa_cons (pe_tup (pa_cons (pe_op op_add (pv 8) (pv 11)) (pa_cons (pe_op op_catA (pe_tup (pa_cons (pv 7) pa_nil)) (pv 12)) pa_nil))) pa_nil))))))
          (pss_one (ps_asg (pe_callB (GMin.cr_minT (α := AO) rfl hM) (by rfl) O.min (by decide +kernel) (pa_cons (pv 6) pa_nil)) (pg_sub (pv 4) (pv 5) (GD.set_N hU)))))) pss_nil)
      (pss_one (ps_ret (pe_ix (r := GD.rIxN K P W0) (GD.ix_N hU) (pv 4) (pv 5) (fun _ _ => rfl))))))), ?_⟩
    obtain ⟨da, rfl, hda⟩ := of_iT hdv
    obtain ⟨pa, rfl, hpa⟩ := of_pD hpv
    obtain ⟨xs, hxs, hLA⟩ := hla
    have hxl := hLA.length
    refine ⟨_, rfl, _, rfl, la, _, rfl, .inl (SqL.of hxs), rfl, _, rfl, ?_⟩
    by_cases c1 : V.int (at_ : Int) = V.int (xs.length : Int)
    · refine itD1 c1 ⟨(by show 0 ≤ sizeLine; decide), fun t1 h1 => ⟨(by show 2 ≤ sizeLine; decide), fun t2 h2 => ?_⟩⟩
      have e1 : Ls.length ≤ at_ := by
        have := V.int.inj c1
        omega
      have k1 : Kp [] H (upd H t1 (.tup [])) := Kp.new h1
      have k2 := k1.trans (Kp.new (S := []) (o := .tup [.int 0, .ref t1]) h2)
      refine q _ (.ref t2) kvs k2.w0 (hrs.mono k2) ?_
      rw [best_end done p e1, aoD_eq]
      exact .tup (SqT.of upd_same) (.cons (.int 0) (.cons (.tup ((Kp.new (S := []) h2).sqT (SqT.of (K := K) upd_same)) .nil) .nil))
    refine itD0 c1 ?_
    have hlg : Lg Ls at_ done p := hst.resolve_left fun z => c1 (by rw [hxl, z.1])
    obtain ⟨L, hL, hdl, hdr⟩ := hlg.ex
    obtain ⟨lb, ys, hx, hy, hI⟩ := LA.at hLA hL
    have hyl := hI.length
    have d8 := hrm.le L (List.mem_of_getElem? hL)
    refine ⟨_, rfl, da, _, rfl, .inr hda, _, rfl, _, rfl, la, xs, _, _, rfl, rfl, SqL.of hxs, atI_nat hx, lb, _, rfl, .inl (SqL.of hy), rfl, _, rfl, ?_⟩
    by_cases c2 : V.int ((done.map V.int).length : Int) = V.int (ys.length : Int)
    · have e2 : done.length = L.length := by
        have := V.int.inj c2
        rw [List.length_map] at this
        omega
      refine itD1 c2 ⟨_, rfl, _, rfl, _, _, rfl, rfl, (by show 0 ≤ sizeLine; decide), fun t1 h1 => ?_⟩
      have k1 : Kp [] H (upd H t1 (.tup [])) := Kp.new h1
      have hla1 : LayersAt K (upd H t1 (.tup [])) la Ls := LayersAt.mono ⟨xs, hxs, hLA⟩ k1 (fun a z => by cases z)
      refine ⟨_, rfl, _, rfl, la, dk, .ref t1, .ref pa, at_ + 1, [], p, Ls, kvs, (by show [V.ref la, V.int ((at_ : Int) + 1), V.ref t1, V.ref pa, V.ref dk] = _; rw [show ((at_ : Int) + 1) = ((at_ + 1 : Nat) : Int) by omega]), hla1, hrm, hrs.mono k1, hpl, ?st, .tup (SqT.of upd_same) .nil, dp_keep k1 (noL_p p) hpv, ?ms, fun H' v kvs' k' hrs' hv => q H' v kvs' (k1.w0.trans k') hrs' (by rw [best_next hL e2]; exact hv)⟩
      case st =>
        by_cases z : at_ + 1 < Ls.length
        · exact .inr ⟨⟨Ls[at_ + 1], List.getElem?_eq_getElem z, Nat.zero_le _, fun x hx => by cases hx⟩, .nil, hpl⟩
        · have := (List.getElem?_eq_some_iff.mp hL).1
          exact .inl ⟨by omega, rfl⟩
      case ms =>
        have := meas_at hL
        show meas Ls (at_ + 1) - 0 < n
        omega
    refine itD0 c2 ⟨_, rfl, _, rfl, _, rfl, (by show 3 ≤ sizeLine; decide), fun tk htk => ?_⟩
    have e2 : done.length < L.length := by
      have : ¬ done.length = L.length := fun z => c2 (by rw [List.length_map, hyl, z])
      omega
    have k1 : Kp [] H (upd H tk (.tup [.int (at_ : Int), .ref da, .ref pa])) := Kp.new htk
    have ek : SqT K (upd H tk (.tup [.int (at_ : Int), .ref da, .ref pa])) tk [.int (at_ : Int), .ref da, .ref pa] := SqT.of upd_same
    generalize upd H tk (.tup [.int (at_ : Int), .ref da, .ref pa]) = H1 at k1 ek ⊢
    have hrs1 := hrs.mono k1
    have key : ∀ {S : List Addr} {H' : Hp}, Kp S H1 H' → GD.KeyD K H' (.ref tk) (kB at_ done p) := fun k' => key_mono k' (keyD_B ek (dp_iT (k1.sqT hda)) (dp_p (k1.sqT hpa)))
    refine ⟨_, rfl, _, rfl, dk, kvs, kB at_ done p, rfl, hrs1.dn, key (Kp.refl [] _), _, rfl, ?_⟩
    cases hv0 : (GD.valN kvs (kB at_ done p)).isSome with
    | true =>
      refine iteF' rfl ?_
      obtain ⟨v0, e0⟩ := Option.isSome_iff_exists.mp hv0
      exact ⟨_, rfl, _, rfl, dk, kvs, kB at_ done p, v0, rfl, hrs1.dn, key (Kp.refl [] _), e0, q H1 v0 kvs k1.w0 hrs1 (hrs1.get e0)⟩
    | false =>
      refine iteT' rfl ?_
      have hxs1 := k1.lst hxs List.not_mem_nil
      have hy1 := k1.lst hy List.not_mem_nil
      refine ⟨Nat.zero_le _, fun D hD => ?_⟩
      refine nameI (i := 6) (v := .ref D) (σ := [some (.ref la), some (.int (at_ : Int)), some (.ref da), some (.ref pa), some (.ref dk), some (.ref tk), none, none, none, none, none, none, none]) ?_
      have hDk : D ∉ [dk] := fun m => by
        obtain ⟨φ, e⟩ := hrs1.exts dk (List.mem_singleton.mpr rfl)
        rw [List.mem_singleton.mp m, e] at hD
        cases hD
      have hDk2 : dk ∉ [D] := fun m => hDk (by rw [List.mem_singleton.mp m]; exact List.mem_singleton.mpr rfl)
      have kD : Kp [] H1 (upd H1 D (.lst [])) := Kp.new hD
      have eD : upd H1 D (.lst []) D = some (.lst []) := upd_same
      generalize upd H1 D (.lst []) = HD at kD eD ⊢
      have k0D := k1.trans kD
      refine ⟨_, rfl, _, rfl, la, xs, _, _, rfl, rfl, SqL.of (kD.lst hxs1 List.not_mem_nil), atI_nat hx, _, rfl, _, rfl, lb, ys, _, _, L, done, p, rfl, kD.lst hy1 List.not_mem_nil, items_mono k0D hI, by omega, by omega, dp_iT (k0D.sqT hda), dp_p (k0D.sqT hpa), fun H2 rr zs k2 nr hr' dz => ?_⟩
      have hrD : rr ≠ D := fun e => by rw [e, eD] at nr; cases nr
      have hrk : rr ∉ [dk] := fun m => by
        obtain ⟨φ, e⟩ := (hrs1.mono kD).exts dk (List.mem_singleton.mpr rfl)
        rw [List.mem_singleton.mp m, e] at nr
        cases nr
      have k12 := kD.trans k2
      have zl := dz.length
      rw [List.length_map] at zl
      have hnl : (nxs L done).length ≤ 2 * L.length := nx_le done L.length
      refine ⟨rr, rfl, ⟨_, SqL.of hr'⟩, for_list (xs := zs) (fun j σ H3 => Kp [dk] H1 H3 ∧ (∃ o7 o8 o9 o10 o11 o12, σ = [some (.ref la), some (.int (at_ : Int)), some (.ref da), some (.ref pa), some (.ref dk), some (.ref tk), some (.ref D), o7, o8, o9, o10, o11, o12]) ∧ H3 rr = some (.lst zs) ∧ DpAll K H3 zs ((nxs L done).map (nxD L done p)) ∧
          ∃ kvs' acc, RS P W0 K H3 dk Ls kvs' ∧ H3 D = some (.lst acc) ∧ DpAll K H3 acc ((((nxs L done).take j).map fun q => one L done p (best Ls at_) q.1 q.2).map aoD))
        ⟨k12.w0, ⟨_, _, _, _, _, _, rfl⟩, hr', dz, kvs, [], hrs1.mono k12, k2.lst eD List.not_mem_nil, .nil⟩ (fun j σ H3 _ pv => SqL.of pv.2.2.1) (fun j x σ H3 hx pv => ?_) (fun σ H3 pv => ?_)⟩
      rotate_left
      · obtain ⟨kk, ⟨o7, o8, o9, o10, o11, o12, rfl⟩, _, _, kvs', acc, hrs', hA, hAi⟩ := pv
        rw [List.take_of_length_le (by omega), ← cand_nx] at hAi
        have hcn := cand_ne (p := p) (rec := best Ls at_) (nodup_of_lt hlg.asc) e2
        have hbm := best_min (p := p) hL e2
        revert hAi hcn hbm
        generalize cand L done p (best Ls at_) = cs
        intro hAi hcn hbm
        match cs, hcn with
        | y0 :: ds, _ =>
        refine ⟨_, rfl, D, acc, y0, ds, rfl, SqL.of hA, hAi, fun i2 y hy hiy => ?_⟩
        have hdy : Dp K H3 y (aoD (best Ls at_ done p)) := by
          obtain ⟨d, e1, e3⟩ := hAi.get hy
          rw [List.getElem?_map, hiy] at e1
          rw [hbm, show aoD (minA (y0 :: ds)) = d from Option.some.inj e1]
          exact e3
        refine ⟨_, rfl, _, rfl, dk, kvs', kB at_ done p, rfl, hrs'.dn, key kk, hrs'.le hrm, fun H'' chg dn'' => ?_⟩
        obtain ⟨hrs'', hval⟩ := hrs'.put2 hlg hdy chg dn''
        have kc : Kp [dk] H3 H'' := Kp.chgN chg (List.mem_singleton.mpr rfl)
        exact ⟨_, rfl, _, rfl, dk, _, kB at_ done p, y, rfl, dn'', key (kk.trans kc), hval, q H'' y _ ((k1.w0.trans kk).trans kc) hrs'' (dp_keep kc (noL_ao _) hdy)⟩
      · obtain ⟨kk, ⟨o7, o8, o9, o10, o11, o12, rfl⟩, hr3, dz3, kvs', acc, hrs', hA, hAi⟩ := pv
        have hAl := hAi.length
        rw [List.length_map, List.length_map, List.length_take] at hAl
        obtain ⟨d, hd0, hdx⟩ := dz3.get hx
        rw [List.getElem?_map] at hd0
        obtain ⟨⟨nn, w⟩, hq, rfl⟩ := Option.map_eq_some_iff.mp hd0
        obtain ⟨hnn, hmem⟩ := mem_nxs (List.mem_of_getElem? hq)
        obtain ⟨xa, sa, fa, ea, rfl, hxa, hsa, hfa, hea⟩ := of_nx hdx
        simp only at hnn hmem hxa hsa hfa hea
        refine ⟨xa, _, rfl, hxa, rfl, _, _, rfl, _, _, rfl, _, _, rfl, _, _, rfl, rfl, ?_⟩
        have k03 : Kp [dk] H H3 := k1.w0.trans kk
        have ec : L[nn]? = some (L.getD nn (0, 0, 0)) := by rw [List.getD_eq_getElem?_getD, List.getElem?_eq_getElem hnn]; rfl
        obtain ⟨hdl, hg2⟩ := hlg.step (q := (endsI (L.getD nn (0, 0, 0)) w).2) hL hnn hmem (ends_in (L := L) (hrm.rm L (List.mem_of_getElem? hL) _ (List.mem_of_getElem? ec)))
        have hmm := meas_at hL
        refine ⟨_, rfl, _, rfl, _, rfl, _, rfl, _, rfl, la, dk, .ref fa, .ref ea, at_, _, _, Ls, kvs', rfl, LayersAt.mono ⟨xs, hxs, hLA⟩ k03 hrs.exts, hrm, hrs', hg2.pl, .inr hg2, hfa, hea, (by rw [srt_len, List.length_append]; show meas Ls at_ - (done.length + 1) < n; omega), fun H4 v kvs4 k4 hrs4 hv => ?_⟩
        obtain ⟨ra, rb, rfl, hra, hrb⟩ := of_ao hv
        refine ⟨ra, _, rfl, hra, rfl, _, _, rfl, _, _, rfl, rfl, ?_⟩
        have hA4 := k4.lst hA hDk
        refine ⟨_, rfl, .inl ⟨rfl, _, SqL.of hA4⟩, ?_⟩
        refine ⟨_, rfl, _, rfl, _, _, rfl, rfl, _, rfl, (by show 1 ≤ sizeLine; decide), fun t7 ht7 => ?_⟩
        have k7 : Kp [] H4 (upd H4 t7 (.tup [.ref sa])) := Kp.new ht7
        have e7 : SqT K (upd H4 t7 (.tup [.ref sa])) t7 [.ref sa] := SqT.of upd_same
        generalize upd H4 t7 (.tup [.ref sa]) = H7 at k7 e7 ⊢
        cases hrb with
        | tup hs7 ha7 =>
          rename_i vs7
          have hl7 := ha7.length
          rw [List.length_map] at hl7
          refine ⟨_, rfl, catA e7 (k7.sqT hs7) ?sz fun H8 t8 k8 ht8 => ?_⟩
          case sz =>
            have := best_len hrm.few hrm.le at_ (srt (done ++ [(nn : Int)])) (endsI (L.getD nn (0, 0, 0)) w).2
            refine Nat.le_of_lt (small_size ?_)
            show 1 + vs7.length ≤ 100000
            omega
          refine ⟨(by show 2 ≤ sizeLine; decide), fun t9 ht9 => ?_⟩
          dsimp only at ht9 ⊢
          generalize hst : stepsI p (endsI (L.getD nn (0, 0, 0)) w).1 + (best Ls at_ (srt (done ++ [(nn : Int)])) (endsI (L.getD nn (0, 0, 0)) w).2).1 = wy at ht9 ⊢
          have k9 : Kp [] H8 (upd H8 t9 (.tup [.int wy, .ref t8])) := Kp.new ht9
          have e9 : SqT K (upd H8 t9 (.tup [.int wy, .ref t8])) t9 [.int wy, .ref t8] := SqT.of upd_same
          generalize upd H8 t9 (.tup [.int wy, .ref t8]) = H9 at k9 e9 ⊢
          have k79 := (k7.trans k8).trans k9
          have k39 : Kp [dk] H3 H9 := k4.trans k79.w0
          have hA9 := k39.lst hA hDk
          have kc : Kp [D] H9 (upd H9 D (.lst (acc ++ [.ref t9]))) := Kp.chg hA9 (List.mem_singleton.mpr rfl)
          refine ⟨D, _, _, rfl, rfl, hA9, small_size (by omega), (kk.trans k39).chg0 hD hA9, ⟨_, _, _, _, _, _, rfl⟩, ?_, ?_, kvs4, _, (hrs4.mono k79).monoS kc hDk2, upd_same, ?_⟩
          · rw [upd_ne hrD]
            exact k39.lst hr3 hrk
          · exact dps_keep kc (noLs_map (noL_nx _ _ _) _) (dps_keep k39 (noLs_map (noL_nx _ _ _) _) dz3)
          · rw [List.take_add_one, hq, List.map_append, List.map_append]
            refine dps_append (dps_keep kc (noLs_map noL_ao _) (dps_keep k39 (noLs_map noL_ao _) hAi)) (dps_one ?_)
            refine dp_keep kc (noL_ao _) ?_
            unfold one
            rw [aoD_eq]
            simp only
            rw [hst]
            refine .tup e9 (.cons (.int _) (.cons (.tup (k9.sqT ht8) ?_) .nil))
            refine .cons ?_ ?_
            · exact dp_keep (k39) (noL_p _) hsa
            · exact dps_keep k79 (noLs_map noL_p _) ha7
end
end LP
end

section
set_option Elab.async false
set_option linter.all false
set_option maxRecDepth 100000
set_option maxHeartbeats 4000000
/-! _best_orders, best_order -/
namespace LP
open PySem PySem.Spec PyProof.Rows L2 Ly GY
section
variable [LamTab] {P : Program} {W0 : World} {K : PySem.W.Frag} {mg : Str → Option Value} {base : Heap}
theorem rest_none {f : Addr} {fd : FuncData} : FnOk P W0 K mg base CX0 1 f fd ["layers", "at", "done", "place", "known"] (spRest P W0 K 0) := by
  have no : ∀ vs H Q E, ¬ spRest P W0 K 0 vs H Q E := fun vs H Q E h => by
    obtain ⟨_, _, _, _, _, _, _, _, _, _, _, _, _, _, _, _, _, hn, _⟩ := h
    omega
  exact ⟨fun vs H Q E h => absurd h (no vs H Q E), fun A outer s H args us vs Q E _ _ _ _ h => absurd h (no vs H Q E)⟩
theorem ok_rest {fR fW : Addr} {dR dW : FuncData} (FR : Fun K "_best_rest" "_best_rest" sBestRest fR dR) (T : Nm K mg) (O : No mg) (NR : Fn K mg "_best_rest" fR dR ["layers", "at", "done", "place", "known"]) (NW : Fn K mg "drawn_next" fW dW ["runs", "done", "place"]) (GW : FnOk P W0 K mg base CX0 2 fW dW ["runs", "done", "place"] (spNext2 K)) :
    ∀ n : Nat, n ≤ 60 → FnOk P W0 K mg base CX0 (2 * n + 1) fR dR ["layers", "at", "done", "place", "known"] (spRest P W0 K n)
  | 0, _ => rest_none
  | n + 1, hn => rest_step (r := 2 * n + 1) (by omega) (by omega) FR T O NW GW NR (ok_rest FR T O NR NW GW n (by omega))
/-! ### _best_orders -/
/-- lists of orders, each new -/
def OA (K : PySem.W.Frag) (H0 H : Hp) (ys : List V) (cs : List (List (Int × Int))) : Prop := Paired (fun (y : V) (c : List (Int × Int)) => ∃ b zs, y = .ref b ∧ H0 b = none ∧ H b = some (.lst zs) ∧ DpAll K H zs (c.map pD)) ys cs
theorem OA.mono {H0 H H' : Hp} (k : Kp [] H H') : ∀ {ys : List V} {cs : List (List (Int × Int))}, OA K H0 H ys cs → OA K H0 H' ys cs
  | _, _, .nil => .nil
  | _, _, .cons ⟨b, zs, e, n, h, d⟩ t => .cons ⟨b, zs, e, n, k.lst h List.not_mem_nil, dps_keep k (noLs_map noL_p _) d⟩ (OA.mono k t)
theorem OA.snoc {H0 H : Hp} {y : V} {c : List (Int × Int)} (h : ∃ b zs, y = .ref b ∧ H0 b = none ∧ H b = some (.lst zs) ∧ DpAll K H zs (c.map pD)) : ∀ {ys : List V} {cs : List (List (Int × Int))}, OA K H0 H ys cs → OA K H0 H (ys ++ [y]) (cs ++ [c])
  | _, _, .nil => .cons h .nil
  | _, _, .cons a t => .cons a (OA.snoc h t)
theorem OA.length {H0 H : Hp} : ∀ {ys : List V} {cs : List (List (Int × Int))}, OA K H0 H ys cs → ys.length = cs.length
  | _, _, .nil => rfl
  | _, _, .cons _ t => by rw [List.length_cons, List.length_cons, OA.length t]
def spOrds (K : PySem.W.Frag) : Sp := fun vs H Q _ => ∃ (la : Addr) (pv : V) (p : Int × Int) (Ls : List (List C3)), vs = [.ref la, pv] ∧ LayersAt K H la Ls ∧ Rm Ls ∧ inPl p = true ∧ Dp K H pv (pD p) ∧
  ∀ (H' : Hp) (t o : Addr) (ys : List V), Kp [] H H' → SqT K H' t [.int (best Ls 0 [] p).1, .ref o] → H o = none → H' o = some (.lst ys) → OA K H H' ys (chunks Ls (best Ls 0 [] p).2.items) → (∀ y ∈ ys, y ≠ .ref o) → Q (.ref t) H'
theorem scOrds : FnScope ["layers", "place", "way", "drawn", "orders", "start", "runs"] ["layers", "place"] (defScope sBestOrds) := ⟨rfl, rfl, rfl, by decide +kernel, rfl, by decide +kernel, by decide +kernel⟩
theorem dps_take {H : Hp} {xs : List V} {cs : List (Int × Int)} {i j : Nat} (h : DpAll K H xs (cs.map pD)) : DpAll K H (cutV xs (some (i : Int)) (some ((i : Int) + (j : Int)))) (((cs.drop i).take j).map pD) := by
  have hl := h.length
  rw [List.length_map] at hl
  have e : cutV xs (some (i : Int)) (some ((i : Int) + (j : Int))) = (xs.drop i).take j := by
    unfold cutV
    rw [HT.sIx_nat, show ((i : Int) + (j : Int)) = ((i + j : Nat) : Int) by omega, HT.sIx_nat]
    by_cases hi : i ≤ xs.length
    · rw [Nat.min_eq_left hi]
      by_cases hj : i + j ≤ xs.length
      · rw [Nat.min_eq_left hj, show i + j - i = j by omega]
      · rw [Nat.min_eq_right (by omega), List.take_of_length_le (by rw [List.length_drop]; omega), List.take_of_length_le (by rw [List.length_drop]; omega)]
    · rw [Nat.min_eq_right (show xs.length ≤ i by omega), Nat.min_eq_right (show xs.length ≤ i + j by omega), Nat.sub_self, List.take_zero, List.drop_eq_nil_of_le (show xs.length ≤ i by omega), List.take_nil]
  rw [e]
  have e1 : cs.map pD = (cs.take i).map pD ++ (((cs.drop i).take j).map pD ++ ((cs.drop i).drop j).map pD) := by
    rw [← List.map_append, List.take_append_drop, ← List.map_append, List.take_append_drop]
  rw [e1] at h
  obtain ⟨a, b, rfl, h1, h2⟩ := dps_split h
  obtain ⟨c, d, rfl, h3, h4⟩ := dps_split h2
  have l1 := h1.length
  have l3 := h3.length
  rw [List.length_map] at l1 l3
  rw [List.length_take] at l1
  rw [List.length_take, List.length_drop] at l3
  by_cases hi : i ≤ cs.length
  · have ea : a.length = i := by omega
    rw [show i = a.length from ea.symm, List.drop_left]
    by_cases hj : j ≤ cs.length - i
    · rw [show j = c.length by omega, List.take_left, ea]
      rw [show j = c.length by omega] at h3
      exact h3
    · have l4 := h4.length
      rw [List.length_map, List.length_drop, List.length_drop] at l4
      have ed : d = [] := List.length_eq_zero_iff.mp (by omega)
      subst ed
      rw [List.append_nil, List.take_of_length_le (by omega), ea]
      exact h3
  · have l4 := h4.length
    rw [List.length_map, List.length_drop, List.length_drop] at l4
    have ec : c = [] := List.length_eq_zero_iff.mp (by omega)
    have ed : d = [] := List.length_eq_zero_iff.mp (by omega)
    subst ec ed
    rw [List.append_nil, List.append_nil, List.drop_eq_nil_of_le (by omega), List.take_nil]
    exact h3
theorem slA {H : Hp} {a : Addr} {xs : List V} {lo hi : Option Int} {Q : V → Hp → Prop} (ha : SqT K H a xs) (q : ∀ (H' : Hp) (c : Addr), Kp [] H H' → SqT K H' c (cutV xs lo hi) → Q (.ref c) H') : rSlA K (.ref a) lo hi H Q := by
  refine ⟨a, xs, rfl, ha, fun w => ?_, fun _ p hp => q _ p (Kp.new hp) (SqT.of upd_same)⟩
  refine q H a (Kp.refl _ _) ?_
  unfold cutV
  rw [w.1, w.2, List.drop_zero, Nat.sub_zero, List.take_length]
  exact ha
theorem OA.monoO {H0 H H' : Hp} {o : Addr} (k : Kp [o] H H') (n : H0 o ≠ none) : ∀ {ys : List V} {cs : List (List (Int × Int))}, OA K H0 H ys cs → OA K H0 H' ys cs
  | _, _, .nil => .nil
  | _, _, .cons ⟨b, zs, e, nb, h, d⟩ t => .cons ⟨b, zs, e, nb, k.lst h (fun m => n (by rw [← List.mem_singleton.mp m]; exact nb)), dps_keep k (noLs_map noL_p _) d⟩ (OA.monoO k n t)
theorem OA.free {H0 H1 H : Hp} (f : ∀ b, H0 b = none → H1 b = none) : ∀ {ys : List V} {cs : List (List (Int × Int))}, OA K H0 H ys cs → OA K H1 H ys cs
  | _, _, .nil => .nil
  | _, _, .cons ⟨b, zs, e, nb, h, d⟩ t => .cons ⟨b, zs, e, f b nb, h, d⟩ (OA.free f t)
theorem OA.ne {H0 H : Hp} {o : Addr} (n : H0 o ≠ none) : ∀ {ys : List V} {cs : List (List (Int × Int))}, OA K H0 H ys cs → ∀ y ∈ ys, y ≠ .ref o
  | _, _, .nil => fun y h => by cases h
  | _, _, .cons ⟨b, zs, e, nb, _, _⟩ t => fun y h => by
    rcases List.mem_cons.mp h with z | z
    · rw [z, e]
      intro q
      injection q with q
      rw [q] at nb
      exact n nb
    · exact OA.ne n t y z
theorem ok_ords {f fR : Addr} {fd dR : FuncData} {r : Nat} (F : Fun K "_best_orders" "_best_orders" sBestOrds f fd) (T : Nm K mg) (NR : Fn K mg "_best_rest" fR dR ["layers", "at", "done", "place", "known"]) (GR : FnOk P W0 K mg base CX0 r fR dR ["layers", "at", "done", "place", "known"] (spRest P W0 K 37)) :
    FnOk P W0 K mg base CX0 (r + 1) f fd ["layers", "place"] (spOrds K) := by
  refine F.ok scOrds (fun vs H Q E h => ?_) (fun cdv A outer s H vs Q E hr h => ?_)
  · obtain ⟨la, pv', p, Ls, rfl, _⟩ := h
    rfl
  · obtain ⟨la, pv', p, Ls, rfl, hla, hrm, hpl, hpv, q⟩ := h
    refine ⟨_, pss_cons (ps_asg (pe_call GR hr (by rfl) NR.m NR.kp NR.b .nil pass0 (pa_cons (pv 0) (pa_cons pe_int (pa_cons (pe_tup pa_nil) (pa_cons (pv 1) (pa_cons GD.pe_d0 pa_nil)))))) (pg_tup rfl (pgs_cons (pg_name (i := 2) scOrds.nd rfl (.inl rfl)) (pgs_cons (pg_name (i := 3) scOrds.nd rfl (.inl rfl)) pgs_nil))))
      (pss_cons (ps_set (i := 4) scOrds.nd rfl (.inl rfl) (pe_lst pa_nil))
      (pss_cons (ps_set (i := 5) scOrds.nd rfl (.inl rfl) pe_int)
      (pss_cons (ps_for PassesOwn.never rfl (pi_list (pv 0)) (pg_name (i := 6) scOrds.nd rfl (.inl rfl))
          (pss_cons (ps_expr (pe_bm PySem.F.plainAttrs_list PySem.F.slot_list_append PySem.F.type_list_append mt_append (pv 4) (pa_cons (pe_callTy call_list_of (by rfl) T.list (by decide +kernel) (pa_cons (pe_slice sl_tupA (pv 3) (po_some (pv 5)) (po_some (pe_op op_add (pv 5) (pe_callB call_len_seq (by rfl) T.len PySem.boot_len (pa_cons (pv 6) pa_nil))))) pa_nil)) pa_nil)))
          (pss_one (ps_aug (i := 5) scOrds.nd rfl (.inl rfl) (pe_callB call_len_seq (by rfl) T.len PySem.boot_len (pa_cons (pv 6) pa_nil)) ip_add))))
      (pss_one (ps_ret (pe_tup (pa_cons (pv 2) (pa_cons (pv 4) pa_nil)))))))), ?_⟩
    refine ⟨_, rfl, (by show 0 ≤ sizeLine; decide), fun t1 h1 => ⟨_, rfl, fun D H2 nw dn => ?_⟩⟩
    have k1 : Kp [] H (upd H t1 (.tup [])) := Kp.new h1
    have e1 : SqT K (upd H t1 (.tup [])) t1 [] := SqT.of upd_same
    generalize upd H t1 (.tup []) = H1 at k1 e1 nw
    have k2 : Kp [] H1 H2 := Kp.newN nw
    have k12 := k1.trans k2
    have hdone : Dp K H2 (.ref t1) (iT []) := .tup (k2.sqT e1) .nil
    refine ⟨la, D, .ref t1, pv', 0, [], p, Ls, [], rfl, hla.mono k12 (fun a z => by cases z), hrm, ⟨dn, .nil, fun k v h => by cases h⟩, hpl, ?st, hdone, dp_keep k12 (noL_p p) hpv, ?ms, fun H3 v kvs' k3 hrs3 hv => ?_⟩
    case st =>
      by_cases z : 0 < Ls.length
      · exact .inr ⟨⟨Ls[0], List.getElem?_eq_getElem z, Nat.zero_le _, fun x hx => by cases hx⟩, .nil, hpl⟩
      · exact .inl ⟨by omega, rfl⟩
    case ms =>
      have := meas_le hrm.few hrm.le 0
      show meas Ls 0 - 0 < 37
      omega
    have k03 : Kp [] H H3 := k12.off (k1.free D nw.free) (k3.weak fun b m => m)
    obtain ⟨rr, rb, rfl, hrr, hrb⟩ := of_ao hv
    refine ⟨rr, _, rfl, hrr, rfl, _, _, rfl, _, _, rfl, rfl, ?_⟩
    refine ⟨(by show 0 ≤ sizeLine; decide), fun o ho => ?_⟩
    have k4 : Kp [] H3 (upd H3 o (.lst [])) := Kp.new ho
    have eo : upd H3 o (.lst []) o = some (.lst []) := upd_same
    have k04 := k03.trans k4
    have hoH := k03.free o ho
    cases hrb with
    | tup hsb hdb =>
    rename_i vsb
    have hsb4 := k4.sqT hsb
    have hdb4 := dps_keep k4 (noLs_map noL_p _) hdb
    generalize upd H3 o (.lst []) = H4 at k4 eo k04 hsb4 hdb4 ⊢
    obtain ⟨xs, hxs, hLA⟩ := hla
    have hxl := hLA.length
    have no4 : H4 o ≠ none := by rw [eo]; exact fun z => by cases z
    refine ⟨_, rfl, la, rfl, ⟨_, SqL.of (k04.lst hxs List.not_mem_nil)⟩, for_list (K := K) (a := la) (xs := xs) (fun i σ H' => Kp [] H H' ∧ Kp [o] H4 H' ∧ ∃ (o6 : Option V) (ys : List V), σ = [some (.ref la), some pv', some (.int (best Ls 0 [] p).1), some (.ref rb), some (.ref o), some (.int ((begL Ls i : Nat) : Int)), o6] ∧ H' o = some (.lst ys) ∧ OA K H4 H' ys ((chunks Ls (best Ls 0 [] p).2.items).take i))
      ⟨k04, Kp.refl _ _, none, [], rfl, eo, .nil⟩ (fun i σ H' _ hi => SqL.of (hi.1.lst hxs List.not_mem_nil)) (fun i x σ H' hx hi => ?_) (fun σ H' hi => ?_)⟩
    · obtain ⟨kk, ko, o6, ys, rfl, hys, hoa⟩ := hi
      have hil : i < xs.length := (List.getElem?_eq_some_iff.mp hx).1
      have hL : Ls[i]? = some Ls[i] := List.getElem?_eq_getElem (by omega)
      obtain ⟨lb, rs, ex, hrs, hI⟩ := LA.at hLA hL
      rw [hx] at ex
      have ex : x = .ref lb := Option.some.inj ex
      subst ex
      have hrs' := kk.lst hrs List.not_mem_nil
      have hrl := hI.length
      have hsb' := ko.sqT hsb4
      have hoal := hoa.length
      rw [List.length_take, chunks_len] at hoal
      have hf := hrm.few
      refine ⟨_, rfl, .inl ⟨rfl, _, SqL.of hys⟩, _, rfl, _, rfl, _, rfl, _, rfl, _, rfl, lb, _, rfl, .inl (SqL.of hrs'), _, _, rfl, rfl, _, rfl, ?_⟩
      refine slA hsb' fun H5 c k5 hc => ?_
      refine ⟨c, _, rfl, .inr hc, fun l hl => ?_⟩
      have k6 := k5.trans (Kp.new (S := []) (o := .lst (cutV vsb (some ((begL Ls i : Nat) : Int)) (some (((begL Ls i : Nat) : Int) + (rs.length : Int))))) hl)
      have el : upd H5 l (.lst (cutV vsb (some ((begL Ls i : Nat) : Int)) (some (((begL Ls i : Nat) : Int) + (rs.length : Int))))) l = some (.lst (cutV vsb (some ((begL Ls i : Nat) : Int)) (some (((begL Ls i : Nat) : Int) + (rs.length : Int))))) := upd_same
      have nl4 : H4 l = none := ko.free l (k5.free l hl)
      generalize upd H5 l (.lst (cutV vsb (some ((begL Ls i : Nat) : Int)) (some (((begL Ls i : Nat) : Int) + (rs.length : Int))))) = H6 at k6 el ⊢
      have hys6 := k6.lst hys List.not_mem_nil
      refine ⟨o, ys, _, rfl, rfl, hys6, small_size (by omega), ?_⟩
      have kc : Kp [o] H6 (upd H6 o (.lst (ys ++ [.ref l]))) := Kp.chg hys6 (List.mem_singleton.mpr rfl)
      refine ⟨_, rfl, _, rfl, lb, rs, rfl, .inl (SqL.of ?_), _, _, rfl, rfl, ⟨(kk.trans k6).chg0 hoH hys6, (ko.trans k6.w0).trans kc, some (.ref lb), _, ?_, upd_same, ?_⟩⟩
      · exact kc.lst (k6.lst hrs' List.not_mem_nil) (fun m => by
          have e := List.mem_singleton.mp m
          have z := kk.lst hrs List.not_mem_nil
          have : H lb = none := by rw [e]; exact hoH
          rw [hrs] at this
          cases this)
      · rw [begL_succ hL, ← hrl, Int.natCast_add]; rfl
      · rw [List.take_add_one, chunks_at Ls _ i hL]
        refine OA.snoc ⟨l, _, rfl, nl4, kc.lst el (fun m => no4 (by rw [← List.mem_singleton.mp m]; exact nl4)), ?_⟩ (OA.monoO kc no4 (OA.mono k6 hoa))
        refine dps_keep kc (noLs_map noL_p _) (dps_keep k6 (noLs_map noL_p _) (dps_keep ko (noLs_map noL_p _) ?_))
        rw [← hrl]
        exact dps_take hdb4
    · obtain ⟨kk, ko, o6, ys, rfl, hys, hoa⟩ := hi
      rw [hxl, List.take_of_length_le (by rw [chunks_len]; exact Nat.le_refl _)] at hoa
      refine ⟨_, rfl, _, rfl, (by show 2 ≤ sizeLine; decide), fun t ht => ?_⟩
      have kt : Kp [] H' (upd H' t (.tup [.int (best Ls 0 [] p).1, .ref o])) := Kp.new ht
      exact q _ t o ys (kk.trans kt) (SqT.of upd_same) hoH (kt.lst hys List.not_mem_nil) (OA.mono kt (OA.free (fun b hb => k04.free b hb) hoa)) (OA.ne no4 hoa)
end
end LP
end

section
set_option Elab.async false
set_option linter.all false
set_option maxRecDepth 100000
set_option maxHeartbeats 4000000
/-! the strokes of a layer: how many, and where -/
namespace LP
open PySem PySem.Spec PyProof.Rows L2 Ly GY
section
variable [LamTab] {P : Program} {W0 : World} {K : PySem.W.Frag} {mg : Str → Option Value} {base : Heap}
theorem runs_cg7 {b c : Nat → Bool} : ∀ n, (∀ i, i < n → b i = c i) → runsTo b n = runsTo c n
  | 0, _ => rfl
  | n + 1, h => by
    show stepR b (runsTo b n) n = stepR c (runsTo c n) n
    rw [runs_cg7 n fun i hi => h i (by omega)]
    unfold stepR
    rw [h n (by omega)]
    by_cases z : 0 < n
    · rw [h (n - 1) (by omega)]
    · simp [z]
def b4 (b0 b1 b2 b3 : Bool) : Nat → Bool
  | 0 => b0
  | 1 => b1
  | 2 => b2
  | _ => b3
theorem runs4 : ∀ b0 b1 b2 b3 : Bool, (runsTo (b4 b0 b1 b2 b3) 4).length ≤ 2 ∧ ∀ q ∈ runsTo (b4 b0 b1 b2 b3) 4, (0 ≤ q.1 ∧ q.1 ≤ 3) ∧ (0 ≤ q.2 ∧ q.2 ≤ 3) := by decide +kernel
theorem runs_room (b : Nat → Bool) : (runsTo b 4).length ≤ 2 ∧ ∀ q ∈ runsTo b 4, (0 ≤ q.1 ∧ q.1 ≤ 3) ∧ (0 ≤ q.2 ∧ q.2 ≤ 3) := by
  rw [runs_cg7 (c := b4 (b 0) (b 1) (b 2) (b 3)) 4 fun i hi => by
    rcases (show i = 0 ∨ i = 1 ∨ i = 2 ∨ i = 3 by omega) with rfl | rfl | rfl | rfl <;> rfl]
  exact runs4 _ _ _ _
theorem strk_room (cs : List C3) (z : Int) : (strk cs z).length ≤ 8 ∧ ∀ r ∈ strk cs z, (0 ≤ r.1 ∧ r.1 ≤ 3) ∧ (0 ≤ r.2.1 ∧ r.2.1 ≤ 3) ∧ (0 ≤ r.2.2 ∧ r.2.2 ≤ 3) := by
  refine ⟨?_, fun r hr => ?_⟩
  · have h : ∀ n, ((List.range n).flatMap (strkY cs z)).length ≤ 2 * n := fun n => by
      induction n with
      | zero => simp
      | succ n ih =>
        rw [flatY_succ, List.length_append]
        have : (strkY cs z n).length ≤ 2 := by unfold strkY; rw [List.length_map]; exact (runs_room _).1
        omega
    exact h 4
  · obtain ⟨y, hy, hr⟩ := List.mem_flatMap.mp hr
    have hy := List.mem_range.mp hy
    unfold strkY at hr
    obtain ⟨q, hq, rfl⟩ := List.mem_map.mp hr
    exact ⟨⟨by show (0 : Int) ≤ (y : Int); omega, by show (y : Int) ≤ 3; omega⟩, (runs_room _).2 q hq⟩
theorem rm_one (cs : List C3) (z : Int) : Rm [strk cs z] := ⟨by show 1 ≤ 4; decide, fun L hL => by rw [List.mem_singleton.mp hL]; exact (strk_room cs z).1, fun L hL => by rw [List.mem_singleton.mp hL]; exact (strk_room cs z).2⟩
end
end LP
end

section
set_option Elab.async false
set_option linter.all false
set_option maxRecDepth 100000
set_option maxHeartbeats 2000000
/-! enumerate over a text; extend by a tuple; a generator expression over a text -/
namespace GE
open PySem PySem.Spec PyProof.Rows L2
section
open AutoSeq1 (wpAny_loadPart')
set_option maxRecDepth 8000 in
theorem ext_tup (l b : Addr) (xs ys : Array Value) (n m : Nat) (dc : Option Addr) (sl : Array (Option Value)) (h1 : ¬(!xs.isEmpty && Builtin.List.listTooLong (xs.size + ys.size)) = true) (h2 : xs.size ≤ sizeLine) (h3 : xs.size + ys.size ≤ sizeLine + 1) :
    Meets (Builtin.«list.extend» ⟨[.ref l, .ref b], []⟩) (fun _ R s => s.heap.get? l = some { cls := .type "list", dict := none, data := .seq xs n, slots := #[] } ∧ s.heap.get? b = some { cls := .type "tuple", dict := dc, data := .seq ys m, slots := sl } ∧
      R (.ok (.ret Value.none)) { s with heap := s.heap.update l (Obj.mapSeq fun x => x ++ ys), toks := s.toks }) := .of_wp fun prog w A R s h => by
  obtain ⟨hp, g, d, tk, os⟩ := s
  obtain ⟨hl, hb, q⟩ := h
  have g1 := AutoSeq1.idx_int
  have g2 := AutoSeq1.sub_tuple_tuple
  have g3 := AutoSeq1.sub_list_list
  have g4 := AutoSeq1.sub_tuple_list
  have g5 := AutoSeq1.sub_list_tuple
  have hz : (xs ++ ys).size ≤ sizeLine + 1 := by rw [Array.size_append]; exact h3
  wp_walk using (wpAny_updateSeq hl rfl (hz := h2) (_hz' := hz)), wpAny_loadPart' hl, wpAny_loadPart' hb
  exact ⟨_, rfl, q⟩
end
section
variable {X : Cx}
def rExtendT (K : PySem.W.Frag) : V → List V → Hp → VK → Prop := fun x vs H Q => ∃ l b xs zs, x = .ref l ∧ vs = [.ref b] ∧ H l = some (.lst xs) ∧ SqT K H b zs ∧ xs.length + zs.length ≤ sizeLine ∧ Q .non (upd H l (.lst (xs ++ zs)))
theorem mt_extendT : MtM X "list.extend" (rExtendT X.K) := by
  intro pins s σ H x vs v us Q I rx rv h
  obtain ⟨l, b, xs, zs, rfl, rfl, hH, hB, hz, q⟩ := h
  cases rx
  obtain ⟨u, rfl, ru⟩ := rv.one
  cases ru
  obtain ⟨z, its, n, r, hl, e⟩ := I.lstM hH
  obtain ⟨its2, r2, ⟨⟨c2, dc, dt, sl⟩, ho2, hc2, m, hd2⟩, hz2⟩ := I.tuple hB
  replace hc2 : c2 = .type "tuple" := hc2
  replace hd2 : dt = .seq its2.toArray m := hd2
  subst hc2 hd2
  have l1 := r.length
  have l2 := r2.length
  have hsz : its.toArray.size + its2.toArray.size ≤ sizeLine := by rw [List.size_toArray, List.size_toArray]; omega
  have hlong : ¬ (!its.toArray.isEmpty && Builtin.List.listTooLong (its.toArray.size + its2.toArray.size)) = true := by
    rw [notLongL hsz, Bool.and_false]
    exact Bool.false_ne_true
  refine call_meets F.slot_list_extend ⟨_, e, rfl⟩ F.entry_list_extend (F.args_list_extend_2 _ _)
    (ext_tup l b its.toArray its2.toArray n m dc sl hlong (by rw [List.size_toArray]; omega) (by omega)) ⟨e, ho2, ?_⟩
  refine ⟨.non, _, I.lset (its' := its ++ its2) hH e (by simp) (r.append r2) ?_, rfl, q⟩
  rw [List.length_append]
  omega
/-! ### enumerate over a text -/
def Ites (x : Str) : It :=
  ⟨fun i _ => i < x.cps.size, fun i H v H' => ∃ T c, v = .ref T ∧ H T = none ∧ x.cps[i]? = some c ∧ H' = upd H T (.tup [.int (i : Int), .str ⟨#[c]⟩]), fun i _ => i = x.cps.size⟩
theorem turn_enumS {P : Program} {w : World} {K : PySem.W.Frag} {elts : List Expr} {kk : Nat} {tpos : Pos} (x : Str) (t : Tok) (ty : String) (hty : ty = "str_ascii_iterator" ∨ ty = "str_iterator") (e it : Addr) :
    Turn P w K (.Tuple elts kk tpos) (Ites x) [e, it] e (fun i h => (∃ old, IsEnum h e it ((i : Nat) : Int) old) ∧ h.IsStrIter it ty x t i ∧ e ≠ it) where
  mem := by simp
  obj := fun i h st b hb => by
    obtain ⟨⟨old, he⟩, ⟨o, ho, hc, hd⟩, _⟩ := st
    rcases (show b = e ∨ b = it by simpa using hb) with z | z
    · rw [z]; exact ⟨_, he, fun v q => nomatch q⟩
    · rw [z]; exact ⟨o, ho, fun v q => by rw [hd] at q; cases q⟩
  keep := fun i h h' st k => let ⟨⟨old, he⟩, ⟨o, ho, r⟩, hne⟩ := st; ⟨⟨old, k e (by simp) _ he⟩, ⟨o, k it (by simp) o ho, r⟩, hne⟩
  item := by
    intro X hP hw hK hc i pins s σ H E I hf st hg
    subst hP hw hK
    obtain ⟨⟨old, he⟩, hit, hne⟩ := st
    have D : Draws X.prog X.w X.A.in1 it [it] x.cps.size (fun i v => ∃ c u, x.cps[i]? = some c ∧ v = Value.str ⟨#[c]⟩ u) (fun i h => h.IsStrIter it ty x t i) := by
      rcases hty with z | z
      · rw [z]; exact Draws.strAscii (A := X.A.in1) (I.ok.hd hc) it x t
      · rw [z]; exact Draws.strWide (A := X.A.in1) (I.ok.hd hc) it x t
    have hel : e < s.heap.objs.size := Heap.lt_size he
    have hil : it < s.heap.objs.size := by obtain ⟨_, q, _⟩ := hit; exact Heap.lt_size q
    refine wpAny_pyNext_enum_itemD D he hit hg hne (by simpa using hne) fun v h' tk hv ho hit' hT hsz hk => ?_
    obtain ⟨c, u, hcx, rfl⟩ := hv
    refine ⟨_, rfl, wpAny_letOwnedTupleGo_enum (s := { s with heap := h', toks := tk + 1 }) ho fun h'' he' sb => ?_⟩
    have hT2 : h''.get? s.heap.objs.size = some { cls := .type "tuple", data := .seq #[.int i tk, .str ⟨#[c]⟩ u] } := (sb.2 _ (Nat.ne_of_gt hel)).trans hT
    have new : ObjOk X.prog X.w (upd H s.heap.objs.size (.tup [.int (i : Nat), .str ⟨#[c]⟩])) h'' s.heap.objs.size (.tup [.int (i : Nat), .str ⟨#[c]⟩]) :=
      ⟨by show 2 ≤ sizeLine; decide, [.int i tk, .str ⟨#[c]⟩ u], .cons ⟨_, rfl⟩ (.cons ⟨_, rfl⟩ .nil), ⟨_, hT2, rfl, _, rfl⟩⟩
    have I1 : Inv X pins σ (upd H s.heap.objs.size (.tup [.int (i : Nat), .str ⟨#[c]⟩])) { s with heap := h'', toks := tk + 1 } :=
      I.turnedNew (ch := [e, it]) (fun b ob hb q => (sb.2 b (fun z => hb (by simp [z]))).trans (hk b ob (fun z => hb (by simp [z])) (fun z => hb (by simp [z])) q)) hf (Nat.le_refl _) new
    refine ⟨.ref s.heap.objs.size, _, I1, rfl, ⟨_, c, rfl, I.hok.fresh (Nat.le_refl _), hcx, rfl⟩, ⟨⟨.str ⟨#[c]⟩ u, ?_⟩, ?_, hne⟩, fun b hb => ?_⟩
    · have e1 : ((i + 1 : Nat) : Int) = (i : Int) + 1 := by omega
      rw [e1]; exact he'
    · obtain ⟨o, q, r⟩ := hit'
      exact ⟨o, (sb.2 it (Ne.symm hne)).trans q, r⟩
    · have hb' : b < s.heap.objs.size := by
        rcases (show b = e ∨ b = it by simpa using hb) with z | z
        · rw [z]; exact hel
        · rw [z]; exact hil
      rw [upd_ne (Nat.ne_of_lt hb')]
      exact (hf b hb).1
  done := by
    intro X hP hw hK hc i pins s σ H E I hf st hg
    subst hP hw hK
    obtain ⟨⟨old, he⟩, hit, hne⟩ := st
    have D : Draws X.prog X.w X.A.in1 it [it] x.cps.size (fun i v => ∃ c u, x.cps[i]? = some c ∧ v = Value.str ⟨#[c]⟩ u) (fun i h => h.IsStrIter it ty x t i) := by
      rcases hty with z | z
      · rw [z]; exact Draws.strAscii (A := X.A.in1) (I.ok.hd hc) it x t
      · rw [z]; exact Draws.strWide (A := X.A.in1) (I.ok.hd hc) it x t
    obtain ⟨f0, f1, f2, f3, f4, f5⟩ := hf it (by simp)
    replace hg : i = x.cps.size := hg
    subst hg
    exact wpAny_pyNext_enum_endD D he hit fun h' eb => ⟨rfl, I.turned (t' := s.toks) (fun b o hb q => eb b o (by simpa using hb) q) f0 f1 f3 f4 f5⟩
  self := fun A i s Q E st h => let ⟨⟨_, he⟩, _⟩ := st; wpAny_pyIter_enum he h
end
section
variable {X : Cx}
def iEnumS (ta : TA) : TI := fun σ H R => ta σ H fun vs H1 => ∃ x, vs = [.str x] ∧ R (Ites x) H1
theorem pi_enumS {e : Expr} {ta : TA} {p pos tpos : Pos} {elts : List Expr} {kk : Nat} (hg : Gl X "enumerate") (hm : X.mg "enumerate" = none) (ha : PA X [e] ta) (hs : starEach [e] X.env = [(false, eval e X.env)] := by rfl) :
    PI X (.Tuple elts kk tpos) (.Call (.Name "enumerate" p) [e] [] pos) (iEnumS ta) := by
  refine ⟨fun pins s σ H R I h => ?_⟩
  refine Call_ (ld_blt I hg hm boot_enumerate (PyProof.Rows.callWith_type1 (thn (ha.run pos pins s σ H _ I h) fun us s1 ⟨vs, H1, I1, r1, q1⟩ => ?_) hs rfl))
  obtain ⟨x, ex, q⟩ := q1
  subst ex
  cases r1 with
  | cons r rr =>
    cases rr
    obtain ⟨t, rfl⟩ := r
    have hty : strIterType x = "str_ascii_iterator" ∨ strIterType x = "str_iterator" := by
      unfold strIterType
      split
      · exact .inl rfl
      · exact .inr rfl
    refine call_enumerate_str fun h' he hit hsz hk => wpAny_pyIter_enum he ?_
    have I2 : Inv X pins σ H1 { s1 with heap := h' } := I1.kept (t' := s1.toks) hk
    refine ⟨s1.heap.objs.size + 1, [s1.heap.objs.size + 1, s1.heap.objs.size], _, _, H1, rfl, I2, turn_enumS x t _ hty (s1.heap.objs.size + 1) s1.heap.objs.size, ⟨⟨.none, he⟩, hit, Nat.succ_ne_self _⟩, fun b hb => ?_, q⟩
    have hle : s1.heap.objs.size ≤ b := by
      rcases (show b = s1.heap.objs.size + 1 ∨ b = s1.heap.objs.size by simpa using hb) with z | z
      · rw [z]; exact Nat.le_add_right _ _
      · rw [z]; exact Nat.le_refl _
    exact I1.fpOk hle (I1.hok.fresh hle)
end
/-! ### a generator expression over a text -/
theorem turn_txt {x : Str} {te : TE} {σ : L2.St} {Yv : Nat → V → Hp → Prop} {Qe : Hp → Prop} {N : Nat} (Pv : Nat → Hp → Prop) (hN : N = x.cps.size)
    (hs : ∀ i c H, x.cps[i]? = some c → Pv i H → te (σ ++ [some (.str ⟨#[c]⟩)]) H fun y H3 => Yv i y H3) (hd : ∀ H, Pv x.cps.size H → Qe H) : GX.GTurn (Its x) te σ N (fun i H => i ≤ x.cps.size ∧ Pv i H) Yv Qe := by
  subst hN
  rintro i H ⟨hi, p⟩
  by_cases hlt : i < x.cps.size
  · refine .inr ⟨hlt, hlt, fun v H' y => ?_⟩
    obtain ⟨e, c, hc, ev⟩ := y
    subst e ev
    exact hs i c _ hc p
  · have e : i = x.cps.size := by omega
    subst e
    exact .inl ⟨rfl, Nat.le_refl _, hd H p⟩
end GE
end

section
set_option Elab.async false
set_option linter.all false
set_option maxRecDepth 100000
set_option maxHeartbeats 4000000
/-! layer_count, written -/
namespace LP
open PySem PySem.Spec PyProof.Rows L2 Ly GY
variable [LamTab] {P : Program} {W0 : World} {K : PySem.W.Frag} {mg : Str → Option Value} {base : Heap}
/-! ### how many layers -/
def mx : List Int → Int
  | [] => 0
  | x :: l => if mx l ≤ x then x else mx l
theorem mx_ge : ∀ {l : List Int} {j : Int}, j ∈ l → j ≤ mx l
  | x :: l, j, h => by
    unfold mx
    rcases List.mem_cons.mp h with e | h
    · subst e
      split <;> omega
    · have := mx_ge h
      split <;> omega
theorem mx_in : ∀ {l : List Int}, (∀ x ∈ l, 0 < x) → l ≠ [] → mx l ∈ l
  | [], _, n => absurd rfl n
  | [x], h, _ => by
    have := h x (List.mem_singleton.mpr rfl)
    unfold mx mx
    rw [if_pos (by omega)]
    exact List.mem_singleton.mpr rfl
  | x :: y :: l, h, _ => by
    have q := mx_in (l := y :: l) (fun z hz => h z (List.mem_cons_of_mem _ hz)) (by simp)
    show (if mx (y :: l) ≤ x then x else mx (y :: l)) ∈ _
    split
    · exact List.mem_cons_self
    · exact List.mem_cons_of_mem _ q
def zs1 (cs : List C3) : List Int := cs.map fun c => c.2.2 + 1
def lay (cs : List C3) : Nat := (mx (zs1 cs)).toNat
theorem zs1_pos {cs : List C3} (h : ∀ c ∈ cs, InR c) : ∀ x ∈ zs1 cs, 0 < x := fun x hx => by
  obtain ⟨c, hc, rfl⟩ := List.mem_map.mp hx
  have := (h c hc).2.2
  show 0 < c.2.2 + 1
  omega
theorem lay_in {cs : List C3} (h : ∀ c ∈ cs, InR c) (n : cs ≠ []) : ∃ c ∈ cs, c.2.2 + 1 = (lay cs : Int) := by
  have q := mx_in (zs1_pos h) (by unfold zs1; simpa using n)
  obtain ⟨c, hc, e⟩ := List.mem_map.mp q
  have := (h c hc).2.2
  have e : c.2.2 + 1 = mx (zs1 cs) := e
  exact ⟨c, hc, by unfold lay; omega⟩
theorem lay_ge {cs : List C3} {c : C3} (h : ∀ c ∈ cs, InR c) (hc : c ∈ cs) : c.2.2 + 1 ≤ (lay cs : Int) := by
  have := mx_ge (l := zs1 cs) (List.mem_map.mpr ⟨c, hc, rfl⟩)
  have h0 := (h c hc).2.2
  unfold lay
  omega
theorem lay_le {cs : List C3} (h : ∀ c ∈ cs, InR c) : lay cs ≤ 4 := by
  by_cases n : cs = []
  · subst n
    exact Nat.zero_le 4
  · obtain ⟨c, hc, e⟩ := lay_in h n
    have := (h c hc).2.2
    omega
theorem lay_nil : lay [] = 0 := rfl
theorem lay_of {cs : List C3} {m : Int} (h : ∀ c ∈ cs, InR c) (q : HighP (zs1 cs) 0 m) : m = (lay cs : Int) := by
  by_cases n : cs = []
  · subst n
    rcases q with ⟨_, e⟩ | ⟨e, _⟩
    · exact e
    · cases e
  · obtain ⟨c, hc, e⟩ := lay_in h n
    rcases q with ⟨z, _⟩ | ⟨q1, q2⟩
    · exact absurd (List.map_eq_nil_iff.mp z) n
    · obtain ⟨d, hd, e2⟩ := List.mem_map.mp q1
      have e2 : d.2.2 + 1 = m := e2
      have := lay_ge h hd
      have := q2 _ (List.mem_map.mpr ⟨c, hc, rfl⟩)
      have : c.2.2 + 1 ≤ m := this
      omega
def spLayC (K : PySem.W.Frag) : Sp := fun vs H Q _ => ∃ (v : V) (cs : List C3), vs = [v] ∧ CellsL K H v cs ∧ cs.length ≤ 64 ∧ (∀ c ∈ cs, InR c) ∧ ∀ H', Kp [] H H' → Q (.int (lay cs : Int)) H'
theorem scLayC : FnScope ["held", "_", "z"] ["held"] (defScope sLayerC) := ⟨rfl, rfl, rfl, by decide +kernel, rfl, by decide +kernel, by decide +kernel⟩
theorem ok_layerc {f : Addr} {fd : FuncData} (F : Fun K "layer_count" "layer_count" sLayerC f fd) (U : Nl K mg) : FnOk P W0 K mg base CX0 2 f fd ["held"] (spLayC K) := by
  refine F.ok scLayC (fun vs H Q E h => ?_) (fun cdv A outer s H vs Q E hr h => ?_)
  · obtain ⟨v, cs, rfl, _⟩ := h
    rfl
  · obtain ⟨v, cs, rfl, hC, h64, hR, q⟩ := h
    refine ⟨_, pss_one (ps_ret (pe_callBK (GW.cr_maxD rfl hr.units) (by rfl) U.max (by decide +kernel) (pa_cons
      (pe_lc (own := [("_", 1), ("z", 2)]) (g := gTup K 3 (gCons (gName 1) (gCons (gName 1) (gCons (gName 2) gNil)))) rfl scLayC.nd (pi_list (pv 0)) (blkOk_by (own := [("_", 1), ("z", 2)]) (N := ["held", "_", "z"]) (sc := defScope sLayerC) (by decide +kernel))
        (fun _ _ _ _ _ => pg_tup rfl (pgs_cons (pg_name (i := 1) scLayC.nd rfl (.inl rfl)) (pgs_cons (pg_name (i := 1) scLayC.nd rfl (.inl rfl)) (pgs_cons (pg_name (i := 2) scLayC.nd rfl (.inl rfl)) pgs_nil)))) (fun _ _ _ _ _ => pts_nil)
        (fun _ _ _ _ _ => pe_op op_add (pv 2) pe_int)) pa_nil) (pk_cons pe_int pk_nil))), ?_⟩
    obtain ⟨a, xs, rfl, hT, hI⟩ := of_cellsL hC
    refine ⟨_, rfl, a, rfl, ⟨_, hT⟩, fun D hD => lc_dataL (K := K) cs cD (fun _ => true) (fun c => .int (c.2.2 + 1)) noL_c (fun _ _ => rfl) hD hT hI (by omega) (fun c x H' Nx Z _ k hx nx _ => ?_) (fun H' ys k hy hd => ?_)⟩
    · obtain ⟨p, rfl, hp⟩ := of_dp_c hx
      refine ⟨p, _, rfl, hp, rfl, _, _, rfl, _, _, rfl, _, _, rfl, rfl, rfl, ?_⟩
      refine yesI ?_
      exact ⟨_, rfl, _, _, rfl, rfl, nx _ _ (Kp.refl _ _) rfl (.int _)⟩
    · have e : (cs.filter fun _ => true).map (fun c : C3 => PyData.int (c.2.2 + 1)) = (zs1 cs).map PyData.int := by
        rw [List.filter_eq_self.mpr fun _ _ => rfl]
        unfold zs1
        rw [List.map_map]
        rfl
      rw [e] at hd
      have e2 := dps_ints hd
      subst e2
      refine maxR (SqL.of hy) fun m hm => ?_
      rw [lay_of hR hm]
      exact q H' k
end LP
end

section
set_option Elab.async false
set_option linter.all false
set_option maxRecDepth 100000
set_option maxHeartbeats 4000000
/-! printed -/
namespace LP
open PySem PySem.Spec PyProof.Rows L2 Ly GY
section
variable [LamTab] {P : Program} {W0 : World} {K : PySem.W.Frag} {mg : Str → Option Value} {base : Heap}
/-- the strokes of all layers that a body has -/
def laysOf (b : Bd) : List (List C3) := (List.range (lay (all b))).map fun z : Nat => strk (all b) (z : Int)
theorem rm_lays (b : Bd) : Rm (laysOf b) := by
  have h4 := lay_le (cs := all b) fun c hc => (mem_all.mp hc).1
  refine ⟨by unfold laysOf; rw [List.length_map, List.length_range]; exact h4, fun L hL => ?_, fun L hL => ?_⟩
  · obtain ⟨z, _, rfl⟩ := List.mem_map.mp hL
    exact (strk_room _ _).1
  · obtain ⟨z, _, rfl⟩ := List.mem_map.mp hL
    exact (strk_room _ _).2
/-- lists of strokes that stand apart from D -/
def LD8 (K : PySem.W.Frag) (H : Hp) (D : Addr) : List V → List (List C3) → Prop := fun xs Ls => Paired (fun (x : V) (L : List C3) => ∃ r ys, x = .ref r ∧ H r = some (.lst ys) ∧ Items K H ys L ∧ r ≠ D) xs Ls
theorem LD8.mono {S : List Addr} {H H' : Hp} {D : Addr} (k : Kp S H H') (hS : ∀ a ∈ S, a = D) : ∀ {xs : List V} {Ls : List (List C3)}, LD8 K H D xs Ls → LD8 K H' D xs Ls
  | _, _, .nil => .nil
  | _, _, .cons ⟨r, ys, e, h, i, n⟩ t => .cons ⟨r, ys, e, k.lst h (fun m => n (hS r m)), items_mono k i, n⟩ (LD8.mono k hS t)
theorem LD8.snoc {H : Hp} {D : Addr} {x : V} {L : List C3} (h : ∃ r ys, x = .ref r ∧ H r = some (.lst ys) ∧ Items K H ys L ∧ r ≠ D) : ∀ {xs : List V} {Ls : List (List C3)}, LD8 K H D xs Ls → LD8 K H D (xs ++ [x]) (Ls ++ [L])
  | _, _, .nil => .cons h .nil
  | _, _, .cons y t => .cons y (LD8.snoc h t)
theorem LD8.length {H : Hp} {D : Addr} : ∀ {xs : List V} {Ls : List (List C3)}, LD8 K H D xs Ls → xs.length = Ls.length
  | _, _, .nil => rfl
  | _, _, .cons _ t => by rw [List.length_cons, List.length_cons, LD8.length t]
theorem LD8.la {H : Hp} {D : Addr} : ∀ {xs : List V} {Ls : List (List C3)}, LD8 K H D xs Ls → LA K H xs Ls
  | _, _, .nil => .nil
  | _, _, .cons ⟨r, ys, e, h, i, _⟩ t => .cons ⟨r, ys, e, h, i⟩ (LD8.la t)
def spPrinted (K : PySem.W.Frag) (Pt Pr Ph Pw Ps Pc CK : Addr) : Sp := fun vs H Q E => ∃ (v pv : V) (b : Bd) (p : Int × Int), vs = [v, pv] ∧ Body K H v b ∧ Good b ∧ nb b ≤ 20 ∧ Tb H Pt Pr Ph ∧ TGen H Pw ∧ TGen H Ps ∧ TGen H Pc ∧ Dp K H pv (pD p) ∧
  (inPl p = false → ∀ H' : Hp, Kp [] H H' → E (.ref CK) none H') ∧
  (inPl p = true → ∀ (H0 H' : Hp) (t o : Addr) (ys : List V), Kp [] H H0 → Kp [] H0 H' → SqT K H' t [.int (best (laysOf b) 0 [] p).1, .ref o] → H0 o = none → H' o = some (.lst ys) → OA K H0 H' ys (chunks (laysOf b) (best (laysOf b) 0 [] p).2.items) → (∀ y ∈ ys, y ≠ .ref o) → Q (.ref t) H')
abbrev nPrinted : List Str := ["body", "place", "held", "layers", "z"]
theorem scPrinted : FnScope nPrinted ["body", "place"] (defScope sPrinted) := ⟨rfl, rfl, rfl, by decide +kernel, rfl, by decide +kernel, by decide +kernel⟩
theorem ok_printed {f Pt Pr Ph Pw Ps Pc CL CK fc fS fC fL fO : Addr} {fd dc dS dC dL dO : FuncData} (F : Fun K "printed" "printed" sPrinted f fd) (T : Nm K mg) (Nc : Fn K mg "cells" fc dc ["body"]) (Gc : FnOk P W0 K mg base CX0 27 fc dc ["body"] (spCells K Pt Pr Ph))
    (NS : Fn K mg "strokes" fS dS ["body", "z"]) (GS : FnOk P W0 K mg base (L2.CX P W0) 29 fS dS ["body", "z"] (spStrokes K Pt Pr Ph Pw Ps CL))
    (NC : Fn K mg "check_place" fC dC ["place"]) (GC : FnOk P W0 K mg base (L2.CX P W0) 5 fC dC ["place"] (spChkPl K Pc CK)) (NL : Fn K mg "layer_count" fL dL ["held"]) (GL : FnOk P W0 K mg base CX0 2 fL dL ["held"] (spLayC K))
    (NO : Fn K mg "_best_orders" fO dO ["layers", "place"]) (GO : FnOk P W0 K mg base CX0 76 fO dO ["layers", "place"] (spOrds K)) :
    FnOk P W0 K mg base (L2.CX P W0) 77 f fd ["body", "place"] (spPrinted K Pt Pr Ph Pw Ps Pc CK) := by
  refine F.okX scPrinted (fun vs H Q E h => ?_) (fun cdv A outer s H vs Q E hr h => ?_)
  · obtain ⟨v, pv', b, p, rfl, _⟩ := h
    rfl
  · obtain ⟨v, pv', b, p, rfl, hB, hg, hn, tbl, hPw, hPs, hPc, hpv, q2, q3⟩ := h
    have hr27 : Room 27 _ := hr.mono (by decide)
    have hr29 : Room 29 _ := hr.mono (by decide)
    have hr5 : Room 5 _ := hr.mono (by decide)
    have hr2 : Room 2 _ := hr.mono (by decide)
    refine ⟨_, pss_cons (ps_set (i := 2) scPrinted.nd rfl (.inl rfl) (pe_call Gc hr27 (by rfl) Nc.m Nc.kp Nc.b .nil pass0 (pa_cons (pv 0) pa_nil)))
      (pss_cons (ps_expr (pe_call (E := fun cls d H => E cls d H) GC hr5 (by rfl) NC.m NC.kp NC.b .nil (passes_call (takes_of rfl rfl rfl rfl) fun _ _ _ _ h => h) (pa_cons (pv 1) pa_nil)))
      (pss_cons (ps_setLc (i := 3) (own := [("z", 4)]) (g := gName 4) rfl scPrinted.nd rfl rfl (sw_true rfl rfl rfl (by decide +kernel)) (pi_range1 (by rfl) T.range (pa_cons (pe_call GL hr2 (by rfl) NL.m NL.kp NL.b .nil pass0 (pa_cons (pv 2) pa_nil)) pa_nil))
        (blkOk_by (own := [("z", 4)]) (N := nPrinted) (sc := defScope sPrinted) (by decide +kernel))
        (fun _ _ _ _ _ => pg_name (i := 4) scPrinted.nd rfl (.inl rfl)) (fun _ _ _ _ _ => pts_nil)
        (fun _ _ _ _ _ => pe_call GS hr29 (by rfl) NS.m NS.kp NS.b .nil passL (pa_cons (pv 0) (pa_cons (pv 4) pa_nil))))
      (pss_one (ps_ret (pe_call GO hr (by rfl) NO.m NO.kp NO.b .nil pass0 (pa_cons (pv 3) (pa_cons (pv 1) pa_nil))))))), ?_⟩
    refine ⟨_, rfl, v, b, rfl, hB, hg, hn, tbl, fun H1 cr zs k1 n1 h1 i1 => ?_⟩
    refine ⟨_, rfl, pv', p, rfl, dp_keep k1 (noL_p p) hpv, k1.tab _ hPc, fun hp H2 k2 => ?_, fun hp H2 k2 => q2 hp H2 (k1.trans k2)⟩
    have k12 := k1.trans k2
    have hIn : ∀ c ∈ all b, InR c := fun c hc => (mem_all.mp hc).1
    have h4 := lay_le hIn
    refine ⟨_, rfl, .ref cr, all b, rfl, cellsL_of (k2.lst h1 List.not_mem_nil) (items_mono k2 i1), all_len b, hIn, fun H3 k3 => ?_⟩
    have k13 := k12.trans k3
    refine ⟨(lay (all b) : Int), rfl, by omega, by omega, fun D hD => lc_range (lo := 0) (n := lay (all b)) (fun i H' => Kp [] H3 H' ∧ ∃ acc, H' D = some (.lst acc) ∧ LD8 K H' D acc ((List.range i).map fun z : Nat => strk (all b) (z : Int)))
      ⟨Kp.new hD, [], upd_same, .nil⟩ (fun i H' hi pv => ?el) (fun H' pv => ?done)⟩
    case el =>
      obtain ⟨kk, acc, hA, hld⟩ := pv
      have k0 := k13.trans kk
      have hal := hld.length
      rw [List.length_map, List.length_range] at hal
      refine ⟨rfl, yesP ?_⟩
      rw [Int.zero_add]
      refine ⟨_, rfl, _, rfl, v, b, (i : Int), rfl, body_mono k0 hB, hg, hn, tbl.mono k0, k0.tab _ hPw, k0.tab _ hPs, fun hz H5 r ys k5 n5 h5 i5 => ?_, fun hz => absurd ⟨by omega, by omega⟩ hz⟩
      have hA5 := k5.lst hA List.not_mem_nil
      have nrD : r ≠ D := fun z => by rw [z, hA] at n5; cases n5
      have kc : Kp [D] H5 (upd H5 D (.lst (acc ++ [.ref r]))) := Kp.chg hA5 (List.mem_singleton.mpr rfl)
      refine ⟨acc, hA5, small_size (by omega), (kk.trans k5).chg0 hD hA5, _, upd_same, ?_⟩
      rw [List.range_succ, List.map_append]
      refine LD8.snoc ⟨r, ys, rfl, kc.lst h5 (fun m => nrD (List.mem_singleton.mp m)), items_mono kc i5, nrD⟩ (LD8.mono kc (fun a m => List.mem_singleton.mp m) (LD8.mono k5 (fun a m => by cases m) hld))
    case done =>
      obtain ⟨kk, acc, hA, hld⟩ := pv
      have k0 := k13.trans kk
      refine ⟨_, rfl, _, rfl, D, pv', p, laysOf b, rfl, ⟨acc, hA, hld.la⟩, rm_lays b, hp, dp_keep k0 (noL_p p) hpv, fun H5 t o ys k5 ht no ho hoa hne => ?_⟩
      exact q3 hp H' H5 t o ys k0 k5 ht no ho hoa hne
end
end LP
end

section
set_option Elab.async false
set_option linter.all false
set_option maxRecDepth 100000
set_option maxHeartbeats 4000000
/-! law_k11, its end -/
namespace LP
open PySem PySem.Spec PyProof.Rows L2 Ly GY
section
variable [LamTab]
structure KF11 (K : PySem.W.Frag) (mg : Str → Option Value) where
  (CP CB CO CL CN CR CK CT : Addr)
  n : KindN mg CP CB CO CL CN CR CK CT
  fK : Addr
  (dVK kVK docK pmK cdvK ctK ocK : Value)
  (anK odK : Option Addr)
  oslK : Array (Option Value)
  mK : mg "_law_kind" = some (.ref fK)
  kK : PySem.W.keepIn K (.ref fK) = true
  lK : K.lookup fK = some ⟨ocK, odK, .func (PySem.W.fnOf "_law_kind" "_law_kind" (defArgs lKind) (defBody lKind) (defScope lKind) dVK kVK docK pmK anK cdvK ctK), oslK⟩
  cK : PySem.W.codeIn K cdvK "_law_kind" = true
  bK : Binds K (PySem.W.fnOf "_law_kind" "_law_kind" (defArgs lKind) (defBody lKind) (defScope lKind) dVK kVK docK pmK anK cdvK ctK) ["_law_work"] []
abbrev KF11.at {K : PySem.W.Frag} {mg : Str → Option Value} (k : KF11 K mg) (C : Addr) (j : Fin 7) : Prop := KindAt K k.CP k.CB k.CO k.CL k.CN k.CR k.CK k.CT C j
structure LF11 (P : Program) (W0 : World) (K : PySem.W.Frag) (mg : Str → Option Value) (base : Heap) where
  (Pt Pr Ph Pw Ps Pc : Addr)
  (fM fX fA fL fS fl fc fp : Addr)
  (dM dX dA dL dS dl dc dp : FuncData)
  nM : Fn K mg "_law_mix" fM dM ["_law_script", "_law_seed"]
  gM : FnOk P W0 K mg base CX0 1 fM dM ["_law_script", "_law_seed"] (spMix K)
  nX : Fn K mg "_law_next" fX dX ["_law_h", "_law_many"]
  gX : FnOk P W0 K mg base CX0 1 fX dX ["_law_h", "_law_many"] spNext
  nA : Fn K mg "_law_alike" fA dA ["_law_found", "_law_due"]
  gA : FnOk P W0 K mg base CX0 (1 + 10) fA dA ["_law_found", "_law_due"] (spAlike K 10)
  nL : Fn K mg "_law_all" fL dL ["_law_body_here"]
  gL : FnOk P W0 K mg base CX0 21 fL dL ["_law_body_here"] (spAll K)
  nS : Fn K mg "_law_small" fS dS ["_law_h", "_law_most"]
  gS : FnOk P W0 K mg base CX0 27 fS dS ["_law_h", "_law_most"] (spSmall K)
  nl : Fn K mg "_law_strokes" fl dl ["_law_some", "_law_z"]
  gl : FnOk P W0 K mg base CX0 1 fl dl ["_law_some", "_law_z"] (spLStr K)
  nc : Fn K mg "_law_chain" fc dc ["_law_layers", "_law_place", "_law_known"]
  gc : FnOk P W0 K mg base CX0 7 fc dc ["_law_layers", "_law_place", "_law_known"] (spChain P W0 K 5)
  T : Nm K mg
  U : Nl K mg
  k : KF11 K mg
  aK : k.at k.CK 5
  np : Fn K mg "printed" fp dp ["body", "place"]
  gp : FnOk P W0 K mg base (L2.CX P W0) 77 fp dp ["body", "place"] (spPrinted K Pt Pr Ph Pw Ps Pc k.CK)
variable {P : Program} {W0 : World} {K : PySem.W.Frag} {mg : Str → Option Value} {base : Heap}
structure Liv11 (H : Hp) (Pt Pr Ph Pw Ps Pc : Addr) : Prop where
  tb : Tb H Pt Pr Ph
  w : TGen H Pw
  s : TGen H Ps
  c : TGen H Pc
  l : LamX.TabS H LamTab.P LamTab.q
theorem Liv11.mono {S : List Addr} {H H' : Hp} {Pt Pr Ph Pw Ps Pc : Addr} (v : Liv11 H Pt Pr Ph Pw Ps Pc) (k : Kp S H H') : Liv11 H' Pt Pr Ph Pw Ps Pc := ⟨v.tb.mono k, k.tab _ v.w, k.tab _ v.s, k.tab _ v.c, k.lam v.l⟩
abbrev LF11.Liv (F : LF11 P W0 K mg base) (H : Hp) : Prop := Liv11 H F.Pt F.Pr F.Ph F.Pw F.Ps F.Pc
def lawLoop11 : List Stmt := match stOf lLaw 1 with
  | .For _ _ b _ _ => b
  | _ => []
abbrev names11 : List Str := ["_law_script", "_law_h", "_law_turn", "_law_body_here", "_law_some", "_law_layers", "_law_place", "_law_due", "_law_again", "_law_found", "_law_order", "_law_far", "_law_odd", "_law_z", "_law_cell"]
theorem scLaw11 : FnScope names11 ["_law_script"] (defScope lLaw) := ⟨rfl, rfl, rfl, by decide +kernel, rfl, by decide +kernel, by decide +kernel⟩
abbrev lawX11 (P : Program) (W0 : World) (K : PySem.W.Frag) (mg : Str → Option Value) (base : Heap) (f c : Addr) (A : Around) (outer : List Env) (s : Shared) (H : Hp) (E : XK) : Cx := (cxOf CX0 P W0 K mg base names11 "law" (defScope lLaw) f (.ref c) A outer s H E).nox
structure B11 (F : LF11 P W0 K mg base) (h l : Addr) (H0 : Hp) (v : V) (b : Bd) (H : Hp) : Prop where
  k : Kp [h, l] H0 H
  s : Sta H h l
  lv : F.Liv H
  hB : Body K H v b
  hg : Good b
  hn : nb b ≤ 20
theorem B11.mono {F : LF11 P W0 K mg base} {h l : Addr} {H0 H H' : Hp} {v : V} {b : Bd} (x : B11 F h l H0 v b H) (k : Kp [h, l] H H') (s : Sta H' h l) : B11 F h l H0 v b H' := ⟨x.k.trans k, s, x.lv.mono k, body_mono k x.hB, x.hg, x.hn⟩
theorem B11.mono0 {F : LF11 P W0 K mg base} {h l : Addr} {H0 H H' : Hp} {v : V} {b : Bd} (x : B11 F h l H0 v b H) (k : Kp [] H H') : B11 F h l H0 v b H' := x.mono k.w0 (x.s.mono0 k)
def Nxt11 (F : LF11 P W0 K mg base) (a h l : Addr) (H0 : Hp) (σ : L2.St) (H : Hp) : Prop :=
  (∃ σ', σ = some (.ref a) :: some (.ref h) :: σ' ∧ σ'.length = 13) ∧ Kp [h, l] H0 H ∧ Sta H h l ∧ F.Liv H
section
variable (F : LF11 P W0 K mg base) {f c : Addr} {A : Around} {outer : List Env} {s : Shared} {H : Hp} {E : XK}
  (hr : Room 79 (A.deeper (envOfC "law" (defScope lLaw) s.heap.objs.size f (.ref c)))) (TB : LamX.TabB base mg c LamTab.P) (hq : LamTab.q = (envOfC "law" (defScope lLaw) s.heap.objs.size f (.ref c)).qual ++ "<lambda>")
include hr TB hq
theorem part11_g : ∃ t, PSs (lawX11 P W0 K mg base f c A outer s H E) (lawLoop11.drop 6) t ∧ ∀ (a h l : Addr) (H0 : Hp) (v : V) (b : Bd) (D : Ends) (o2 o4 o5 o6 o7 o8 o9 o10 o11 o12 o13 o14 : Option V) (H1 : Hp), B11 F h l H0 v b H1 → (∀ σ' H', Nxt11 F a h l H0 σ' H' → D.nx σ' H') →
    t D [some (.ref a), some (.ref h), o2, some v, o4, o5, o6, o7, o8, o9, o10, o11, o12, o13, o14] H1 := by
  have hr1 : Room 1 _ := hr.mono (by decide)
  refine ⟨_, pss_cons (ps_set (i := 11) scLaw11.nd rfl (.inl rfl) (pe_op op_add pe_int (pe_call F.gX hr1 (by rfl) F.nX.m F.nX.kp F.nX.b .nil pass0 (pa_cons (pv 1) (pa_cons (pe_op op_pow pe_int pe_int) pa_nil)))))
    (pss_cons (ps_set (i := 12) scLaw11.nd rfl (.inr rfl) (pe_ix ix_list (pe_lst (pa_cons (pe_tup (pa_cons (pv 11) (pa_cons pe_int pa_nil))) (pa_cons (pe_tup (pa_cons pe_int (pa_cons (pv 11) pa_nil))) (pa_cons (pe_tup (pa_cons (pe_un un_neg pe_int) (pa_cons pe_int pa_nil))) (pa_cons (pe_tup (pa_cons pe_int (pa_cons (pe_op op_sub pe_int (pv 11)) pa_nil))) pa_nil)))))
      (pe_call F.gX hr1 (by rfl) F.nX.m F.nX.kp F.nX.b .nil pass0 (pa_cons (pv 1) (pa_cons pe_int pa_nil))) (fun _ _ => rfl)))
    (pss_one (ps_if (pt_cmpR op_ne (pe_lam3 (k := 77) (by rfl) F.k.mK F.k.kK F.k.lK F.k.cK F.k.bK scKind rfl (.inl rfl) (kind_gives2 F.T F.k.n F.aK) TB rfl hr (LamX.lamS_by (sc := defScope lLaw) (by decide +kernel)) rfl (fun _ _ _ _ _ => rfl)
      (fun A outer s H E f c' hr2 => pe_callS F.gp hr2 (by rfl) F.np.m F.np.kp F.np.b (fun σ => L2.passAt (takes_of rfl rfl rfl rfl) σ) (pa_cons (pv 3) (pa_cons (pv 12) pa_nil)))) pe_str (nomark _)) (pss_one (ps_ret pe_bl)) pss_nil))), ?_⟩
  intro a h l H0 v b D o2 o4 o5 o6 o7 o8 o9 o10 o11 o12 o13 o14 H0' x0 nx
  refine ⟨_, rfl, _, _, rfl, rfl, ⟨by decide, by decide, by decide⟩, h, l, _, rfl, (by show (0 : Int) < 10 ^ 6; decide), (by show (10 ^ 6 : Int) < 1073741824; decide), x0.s, fun H1 rr k01 s1 f0 f1 => ?_⟩
  have x1 := x0.mono k01 s1
  refine ⟨_, _, rfl, rfl, ?_⟩
  obtain ⟨far, hfe⟩ : ∃ far : Int, 4 + rr = far := ⟨_, rfl⟩
  have hfar : 4 ≤ far := by omega
  refine nameI (i := 11) (v := .int (4 + rr)) (σ := [some (.ref a), some (.ref h), o2, some v, o4, o5, o6, o7, o8, o9, o10, o11, o12, o13, o14]) ?_
  rw [hfe]
  refine ⟨_, rfl, (by show 2 ≤ sizeLine; decide), fun t1 ht1 => ⟨_, rfl, (by show 2 ≤ sizeLine; decide), fun t2 ht2 => ⟨1, rfl, (by show 2 ≤ sizeLine; decide), fun t3 ht3 => ⟨_, rfl, _, _, rfl, rfl, (by show 2 ≤ sizeLine; decide), fun t4 ht4 => ⟨(by show 4 ≤ sizeLine; decide), fun lo hlo => ?_⟩⟩⟩⟩⟩
  have k1 : Kp [] H1 (upd H1 t1 (.tup [.int far, .int 0])) := Kp.new ht1
  have e1 : SqT K (upd H1 t1 (.tup [.int far, .int 0])) t1 [.int far, .int 0] := SqT.of upd_same
  generalize upd H1 t1 (.tup [.int far, .int 0]) = H2 at k1 e1 ht2 ht3 ht4 hlo ⊢
  have k2 : Kp [] H2 (upd H2 t2 (.tup [.int 0, .int far])) := Kp.new ht2
  have e2 : SqT K (upd H2 t2 (.tup [.int 0, .int far])) t2 [.int 0, .int far] := SqT.of upd_same
  generalize upd H2 t2 (.tup [.int 0, .int far]) = H3 at k2 e2 ht3 ht4 hlo ⊢
  have k3 : Kp [] H3 (upd H3 t3 (.tup [.int (-1), .int 0])) := Kp.new ht3
  have e3 : SqT K (upd H3 t3 (.tup [.int (-1), .int 0])) t3 [.int (-1), .int 0] := SqT.of upd_same
  generalize upd H3 t3 (.tup [.int (-1), .int 0]) = H4 at k3 e3 ht4 hlo ⊢
  have k4 : Kp [] H4 (upd H4 t4 (.tup [.int 0, .int (3 - far)])) := Kp.new ht4
  have e4 : SqT K (upd H4 t4 (.tup [.int 0, .int (3 - far)])) t4 [.int 0, .int (3 - far)] := SqT.of upd_same
  generalize upd H4 t4 (.tup [.int 0, .int (3 - far)]) = H5 at k4 e4 hlo ⊢
  have k5 : Kp [] H5 (upd H5 lo (.lst [.ref t1, .ref t2, .ref t3, .ref t4])) := Kp.new hlo
  have e5 : upd H5 lo (.lst [.ref t1, .ref t2, .ref t3, .ref t4]) lo = some (.lst [.ref t1, .ref t2, .ref t3, .ref t4]) := upd_same
  have k14 := ((k1.trans k2).trans k3).trans k4
  have hloA := (x1.mono0 k14).s.apart hlo
  have x6 := (x1.mono0 k14).mono0 k5
  have e1' := k5.sqT (k4.sqT (k3.sqT (k2.sqT e1)))
  have e2' := k5.sqT (k4.sqT (k3.sqT e2))
  have e3' := k5.sqT (k4.sqT e3)
  have e4' := k5.sqT e4
  generalize upd H5 lo (.lst [.ref t1, .ref t2, .ref t3, .ref t4]) = H6 at k5 e5 x6 e1' e2' e3' e4' ⊢
  refine ⟨_, rfl, h, l, 4, rfl, by decide, by decide, x6.s, fun H7 r k7 s7 r0 r1 => ?_⟩
  have x7 := x6.mono k7 s7
  obtain ⟨z, p, hz, hzp, hin⟩ : ∃ z p, atI [V.ref t1, .ref t2, .ref t3, .ref t4] r = some (.ref z) ∧ SqT K H7 z [.int p.1, .int p.2] ∧ inPl p = false := by
    rcases (show r = 0 ∨ r = 1 ∨ r = 2 ∨ r = 3 by omega) with rfl | rfl | rfl | rfl
    · exact ⟨t1, (far, 0), rfl, k7.sqT e1', by unfold inPl btw; simp; omega⟩
    · exact ⟨t2, (0, far), rfl, k7.sqT e2', by unfold inPl btw; simp; omega⟩
    · exact ⟨t3, (-1, 0), rfl, k7.sqT e3', by decide⟩
    · exact ⟨t4, (0, 3 - far), rfl, k7.sqT e4', by unfold inPl btw; simp; omega⟩
  refine ⟨lo, _, r, _, rfl, rfl, SqL.of (k7.lst e5 hloA), hz, ?_⟩
  have tabq := x7.lv.l
  rw [hq] at tabq
  refine ⟨tabq, fun H8 oth tab8 => ?_⟩
  have k8 : Kp [] H7 H8 := Kp.oth oth (by obtain ⟨ps, e, _⟩ := tabq; exact ⟨ps, e⟩) (fun _ => by rw [hq]; exact tab8)
  have x8 := x7.mono0 k8
  refine ⟨_, rfl, _, rfl, v, .ref z, b, p, rfl, x8.hB, x8.hg, x8.hn, x8.lv.tb, x8.lv.w, x8.lv.s, x8.lv.c, dp_p (k8.sqT hzp), fun _ H9 k9 => ⟨rfl, rfl, fun H10 k10 => ?_⟩, fun hp => by rw [hin] at hp; cases hp⟩
  refine ⟨rfl, _, rfl, iteF' (by decide +kernel) (nx _ _ ?_)⟩
  have x10 := x8.mono0 (k9.trans k10)
  exact ⟨⟨_, rfl, rfl⟩, x10.k, x10.s, x10.lv⟩
end
end
end LP
end

section
set_option Elab.async false
set_option linter.all false
set_option maxRecDepth 100000
set_option maxHeartbeats 4000000
/-! law_k11 -/
namespace LP
open PySem PySem.Spec PyProof.Rows L2 Ly GY
section
variable [LamTab] {P : Program} {W0 : World} {K : PySem.W.Frag} {mg : Str → Option Value} {base : Heap}
/-! ### answers as data -/
theorem prs_ok : ∀ l : List (Int × Int), okDs (l.map pD) = true
  | [] => rfl
  | x :: l => by
    show (okD (pD x) && okDs (l.map pD)) = true
    rw [prs_ok l]
    rfl
theorem prs_dep : ∀ l : List (Int × Int), PyData.depthAll (l.map pD) ≤ 1
  | [] => by simp [PyData.depthAll]
  | x :: l => by
    have h1 := prs_dep l
    have h2 : (pD x).depth = 1 := by simp [pD, PyData.depth, PyData.depthAll]
    simp only [List.map_cons, PyData.depthAll]
    omega
def ordD (o : List (Int × Int)) : PyData := .list (o.map pD)
def llD (a : LL) : PyData := .tuple [.int a.1, .list (a.2.map ordD)]
theorem llD_eq (a : LL) : PySem.W.Datum.toD a = llD a := rfl
theorem ords_ok : ∀ os : List (List (Int × Int)), (∀ o ∈ os, o.length ≤ 36) → okDs (os.map ordD) = true
  | [], _ => rfl
  | o :: os, h => by
    show ((okDs (o.map pD) && decide ((o.map pD).length ≤ 1000)) && okDs (os.map ordD)) = true
    have h1 := h o List.mem_cons_self
    rw [prs_ok, ords_ok os fun o m => h o (List.mem_cons_of_mem _ m), List.length_map, decide_eq_true (show o.length ≤ 1000 by omega)]
    rfl
theorem ords_dep : ∀ os : List (List (Int × Int)), PyData.depthAll (os.map ordD) ≤ 3
  | [] => by simp [PyData.depthAll]
  | o :: os => by
    have h1 := ords_dep os
    have h2 := prs_dep o
    have e : (ordD o).depth = 1 + PyData.depthAll (o.map pD) := by unfold ordD; simp only [PyData.depth]; try omega
    simp only [List.map_cons, PyData.depthAll]
    omega
theorem llD_ok {a : LL} (h : ∀ o ∈ a.2, o.length ≤ 36) (hl : a.2.length ≤ 4) : okD (llD a) = true := by
  show ((true && ((okDs (a.2.map ordD) && decide ((a.2.map ordD).length ≤ 1000)) && true)) && decide (2 ≤ 1000)) = true
  rw [ords_ok _ h, List.length_map, decide_eq_true (show a.2.length ≤ 1000 by omega)]
  rfl
theorem llD_dep (a : LL) : (llD a).depth < 10 := by
  have := ords_dep a.2
  simp only [llD, PyData.depth, PyData.depthAll]
  omega
theorem chunk_le : ∀ (Ls : List (List C3)) (xs : List (Int × Int)), ∀ o ∈ chunks Ls xs, o.length ≤ xs.length
  | [], _, o, h => by cases h
  | L :: Ls, xs, o, h => by
    rcases List.mem_cons.mp (show o ∈ xs.take L.length :: chunks Ls (xs.drop L.length) from h) with e | e
    · rw [e, List.length_take]; omega
    · have := chunk_le Ls (xs.drop L.length) o e
      rw [List.length_drop] at this
      omega
theorem oa_dps {H0 H : Hp} : ∀ {ys : List V} {cs : List (List (Int × Int))}, OA K H0 H ys cs → DpAll K H ys (cs.map ordD)
  | _, _, .nil => .nil
  | _, _, .cons ⟨b, zs, e, n, h, d⟩ t => by
    subst e
    exact .cons (.lst (SqL.of h) d) (oa_dps t)
theorem oa_each {H0 H : Hp} {n : Nat} : ∀ {ys : List V} {cs : List (List (Int × Int))}, OA K H0 H ys cs → (∀ o ∈ cs, o.length ≤ n) → ∀ y ∈ ys, ∃ b zs, y = .ref b ∧ H0 b = none ∧ H b = some (.lst zs) ∧ zs.length ≤ n
  | _, _, .nil, _ => fun y h => by cases h
  | _, _, .cons ⟨b, zs, e, m, h, d⟩ t, hc => fun y hy => by
    rcases List.mem_cons.mp hy with z | z
    · have l := d.length
      rw [List.length_map] at l
      exact ⟨b, zs, by rw [z, e], m, h, by rw [l]; exact hc _ List.mem_cons_self⟩
    · exact oa_each t (fun o ho => hc o (List.mem_cons_of_mem _ ho)) y z
theorem hi_z {cs : List C3} {m : Int} (h : ∀ c ∈ cs, InR c) (q : HighP (cs.map fun c => c.2.2) (-1) m) : m + 1 = (lay cs : Int) := by
  refine lay_of h ?_
  have e : zs1 cs = (cs.map fun c => c.2.2).map (· + 1) := by unfold zs1; rw [List.map_map]; rfl
  rw [e]
  rcases q with ⟨h1, h2⟩ | ⟨h1, h2⟩
  · exact .inl ⟨by rw [h1]; rfl, by omega⟩
  · refine .inr ⟨List.mem_map.mpr ⟨m, h1, rfl⟩, fun j hj => ?_⟩
    obtain ⟨i, hi, rfl⟩ := List.mem_map.mp hj
    have := h2 i hi
    show i + 1 ≤ m + 1
    omega
/-- lists of strokes that stand apart from av -/
def LX (K : PySem.W.Frag) (H : Hp) (av : List Addr) : List V → List (List C3) → Prop := fun xs Ls => Paired (fun (x : V) (L : List C3) => ∃ r ys, x = .ref r ∧ H r = some (.lst ys) ∧ Items K H ys L ∧ r ∉ av) xs Ls
theorem LX.mono {S av : List Addr} {H H' : Hp} {xs : List V} {Ls : List (List C3)} (x : LX K H av xs Ls) (k : Kp S H H') (hS : ∀ a ∈ S, a ∈ av) : LX K H' av xs Ls :=
  paired_imp (fun v L ⟨r, ys, e, h, i, n⟩ => ⟨r, ys, e, k.lst h (fun m => n (hS r m)), items_mono k i, n⟩) x
theorem LX.la {av : List Addr} {H : Hp} {xs : List V} {Ls : List (List C3)} (x : LX K H av xs Ls) : LA K H xs Ls :=
  paired_imp (fun v L ⟨r, ys, e, h, i, _⟩ => ⟨r, ys, e, h, i⟩) x
section
variable (F : LF11 P W0 K mg base) {f c : Addr} {A : Around} {outer : List Env} {s : Shared} {H : Hp} {E : XK}
  (hr : Room 79 (A.deeper (envOfC "law" (defScope lLaw) s.heap.objs.size f (.ref c)))) (TB : LamX.TabB base mg c LamTab.P) (hq : LamTab.q = (envOfC "law" (defScope lLaw) s.heap.objs.size f (.ref c)).qual ++ "<lambda>")
include hr TB hq
theorem part11_h : ∃ t, PSs (lawX11 P W0 K mg base f c A outer s H E) (lawLoop11.drop 5) t ∧ ∀ (a h l : Addr) (H0 : Hp) (v : V) (b : Bd) (pa : Addr) (p : Int × Int) (vd : V) (D : Ends) (o2 o4 o5 o8 o9 o10 o11 o12 o13 o14 : Option V) (H1 : Hp), B11 F h l H0 v b H1 → SqT K H1 pa [.int p.1, .int p.2] → inPl p = true → AtC K H1 [] vd (bestLL (laysOf b) 0 p) → (∀ σ' H', Nxt11 F a h l H0 σ' H' → D.nx σ' H') →
    t D [some (.ref a), some (.ref h), o2, some v, o4, o5, some (.ref pa), some vd, o8, o9, o10, o11, o12, o13, o14] H1 := by
  obtain ⟨tg, pg, qg⟩ := part11_g F hr TB hq (H := H) (E := E) (outer := outer)
  have hr11 : Room 11 _ := hr.mono (by decide)
  have hr77 : Room 77 _ := hr.mono (by decide)
  refine ⟨_, pss_cons (ps_for PassesOwn.never rfl (pi_range1 (by rfl) F.T.range (pa_cons pe_int pa_nil)) (pg_name (i := 8) scLaw11.nd rfl (.inl rfl))
        (pss_cons (ps_set (i := 9) scLaw11.nd rfl (.inl rfl) (pe_call F.gp hr77 (by rfl) F.np.m F.np.kp F.np.b .nil passL (pa_cons (pv 3) (pa_cons (pv 6) pa_nil))))
        (pss_cons (ps_if (pt_not (pt_val (pe_call F.gA hr11 (by rfl) F.nA.m F.nA.kp F.nA.b .nil pass0 (pa_cons (pv 9) (pa_cons (pv 7) pa_nil))))) (pss_one (ps_ret pe_bl)) pss_nil)
        (pss_cons (ps_for PassesOwn.never rfl (pi_list (pe_ix (r := rIxT K) ix_tup (pv 9) pe_int (fun _ _ => rfl))) (pg_name (i := 10) scLaw11.nd rfl (.inl rfl))
          (pss_one (ps_expr (pe_bm PySem.F.plainAttrs_list PySem.F.slot_list_append PySem.F.type_list_append mt_append (pv 10) (pa_cons (pe_tup (pa_cons pe_int (pa_cons pe_int pa_nil))) pa_nil)))))
        (pss_one (ps_expr (pe_bm PySem.F.plainAttrs_list PySem.F.slot_list_append PySem.F.type_list_append mt_append (pe_ix (r := rIxT K) ix_tup (pv 9) pe_int (fun _ _ => rfl)) (pa_cons (pe_lst pa_nil) pa_nil)))))))) pg, ?_⟩
  intro a h l H0 v b pa p vd D o2 o4 o5 o8 o9 o10 o11 o12 o13 o14 H1 x1 hpa hpl hvd nx
  have hrm := rm_lays b
  have hbl := best_len hrm.few hrm.le 0 [] p
  have hch : ∀ o ∈ chunks (laysOf b) (best (laysOf b) 0 [] p).2.items, o.length ≤ 36 := fun o ho => Nat.le_trans (chunk_le _ _ o ho) hbl
  refine ⟨2, rfl, by decide, by decide, for_range (lo := 0) (n := 2) (fun j σ H' => Kp [] H1 H' ∧ ∃ o8 o9 o10 : Option V, σ = [some (.ref a), some (.ref h), o2, some v, o4, o5, some (.ref pa), some vd, o8, o9, o10, o11, o12, o13, o14]) ⟨Kp.refl _ _, o8, o9, o10, rfl⟩ (fun j σ H2 hj hi => ?_) (fun σ H2 hi => ?_)⟩
  · obtain ⟨kk, p8, p9, p10, rfl⟩ := hi
    have x2 := x1.mono0 kk
    refine ⟨_, rfl, _, rfl, v, .ref pa, b, p, rfl, x2.hB, x2.hg, x2.hn, x2.lv.tb, x2.lv.w, x2.lv.s, x2.lv.c, dp_p (kk.sqT hpa), fun ni => (by rw [hpl] at ni; cases ni), fun _ Hm H3 t o ys km k3 ht no ho hoa hne => ?_⟩
    have k12 : Kp [] H1 Hm := kk.trans km
    have k13 : Kp [] H1 H3 := k12.trans k3
    have hvd3 := hvd.mono0 k13
    have hyl := hoa.length
    rw [chunks_len] at hyl
    have hf4 := hrm.few
    have each := oa_each hoa hch
    refine ⟨_, rfl, _, rfl, .ref t, vd, llD (bestLL (laysOf b) 0 p), rfl, .tup ht (.cons (.int _) (.cons (.lst (SqL.of ho) (oa_dps hoa)) .nil)), hvd3.dp, llD_ok hch (by show (chunks _ _).length ≤ 4; rw [chunks_len]; exact hf4), llD_dep _, fun H4 k4 => ⟨true, rfl, iteF ?_⟩⟩
    have ht4 := k4.sqT ht
    have ho4 := k4.lst ho List.not_mem_nil
    have k14 := k13.trans k4
    refine ⟨_, rfl, t, _, 1, _, rfl, rfl, ht4, rfl, o, rfl, ⟨_, SqL.of ho4⟩, for_list (K := K) (a := o) (xs := ys) (fun i σ H' => Kp [] H1 H' ∧ H' o = some (.lst ys) ∧ SqT K H' t [.int (best (laysOf b) 0 [] p).1, .ref o] ∧ (∀ y ∈ ys, ∃ b zs, y = .ref b ∧ H1 b = none ∧ H' b = some (.lst zs) ∧ zs.length ≤ 36 + i) ∧ ∃ o10 : Option V, σ = [some (.ref a), some (.ref h), o2, some v, o4, o5, some (.ref pa), some vd, some (.int (0 + (j : Int))), some (.ref t), o10, o11, o12, o13, o14])
      ⟨k14, ho4, ht4, fun y hy => ?e0, p10, rfl⟩ (fun i σ H' _ hi => SqL.of hi.2.1) (fun i y σ H' hy hi => ?ap) (fun σ H' hi => ?af)⟩
    case e0 =>
      obtain ⟨b', zs, e, n, hb, hl⟩ := each y hy
      exact ⟨b', zs, e, k12.free b' n, k4.lst hb List.not_mem_nil, hl⟩
    case ap =>
      obtain ⟨k5, ho5, ht5, ev, p10', rfl⟩ := hi
      have hym := List.mem_of_getElem? hy
      have hil : i < ys.length := (List.getElem?_eq_some_iff.mp hy).1
      obtain ⟨b', zs, rfl, nb, hb, hl⟩ := ev y hym
      refine ⟨_, rfl, .inl ⟨rfl, _, SqL.of hb⟩, (by show 2 ≤ sizeLine; decide), fun t6 ht6 => ?_⟩
      have k6 : Kp [] H' (upd H' t6 (.tup [.int 0, .int 0])) := Kp.new ht6
      have e6 : SqT K (upd H' t6 (.tup [.int 0, .int 0])) t6 [.int 0, .int 0] := SqT.of upd_same
      have hb6 := k6.lst hb List.not_mem_nil
      have ho6 := k6.lst ho5 List.not_mem_nil
      have ht6' := k6.sqT ht5
      have ev6 : ∀ y ∈ ys, ∃ b zs, y = .ref b ∧ H1 b = none ∧ upd H' t6 (.tup [.int 0, .int 0]) b = some (.lst zs) ∧ zs.length ≤ 36 + i := fun y hy => by
        obtain ⟨b2, z2, e2, n2, h2, l2⟩ := ev y hy
        exact ⟨b2, z2, e2, n2, k6.lst h2 List.not_mem_nil, l2⟩
      have k56 := k5.trans k6
      generalize upd H' t6 (.tup [.int 0, .int 0]) = H6 at k6 e6 hb6 ho6 ht6' ev6 k56 ⊢
      have nob : o ≠ b' := fun z => hne _ hym (by rw [z])
      have kc : Kp [b'] H6 (upd H6 b' (.lst (zs ++ [.ref t6]))) := Kp.chg hb6 (List.mem_singleton.mpr rfl)
      refine ⟨b', _, _, rfl, rfl, hb6, small_size (by omega), k56.chg0 nb hb6, ?_, kc.sqT ht6', fun y hy => ?_, _, rfl⟩
      · rw [upd_ne nob]; exact ho6
      · obtain ⟨b2, z2, e2, n2, h2, l2⟩ := ev6 y hy
        by_cases z : b2 = b'
        · refine ⟨b', zs ++ [.ref t6], by rw [e2, z], nb, upd_same, ?_⟩
          rw [List.length_append]
          show zs.length + 1 ≤ _
          omega
        · exact ⟨b2, z2, e2, n2, by rw [upd_ne z]; exact h2, by omega⟩
    case af =>
      obtain ⟨k5, ho5, ht5, ev, p10', rfl⟩ := hi
      refine ⟨_, rfl, t, _, 1, _, rfl, rfl, ht5, rfl, .inl ⟨rfl, _, SqL.of ho5⟩, (by show 0 ≤ sizeLine; decide), fun l6 hl6 => ?_⟩
      have k6 := Kp.new (S := []) (o := .lst []) hl6
      have ho6 := k6.lst ho5 List.not_mem_nil
      exact ⟨o, _, _, rfl, rfl, ho6, small_size (by omega), (k5.trans k6).chg0 (ys := ys ++ [V.ref l6]) (k12.free o no) ho6, _, _, _, rfl⟩
  · obtain ⟨kk, p8, p9, p10, rfl⟩ := hi
    exact qg a h l H0 v b D o2 o4 o5 _ _ p8 p9 p10 o11 o12 o13 o14 H2 (x1.mono0 kk) nx
theorem part11_a : ∃ t, PSs (lawX11 P W0 K mg base f c A outer s H E) (lawLoop11.drop 0) t ∧ ∀ (a h l : Addr) (H0 : Hp) (D : Ends) (σ : L2.St) (H1 : Hp), Nxt11 F a h l H0 σ H1 → (∀ σ' H', Nxt11 F a h l H0 σ' H' → D.nx σ' H') → t D σ H1 := by
  obtain ⟨th, ph, qh⟩ := part11_h F hr TB hq (H := H) (E := E) (outer := outer)
  have hr1 : Room 1 _ := hr.mono (by decide)
  have hr7 : Room 7 _ := hr.mono (by decide)
  have hr21 : Room 21 _ := hr.mono (by decide)
  have hr27 : Room 27 _ := hr.mono (by decide)
  have hU : (A.deeper (envOfC "law" (defScope lLaw) s.heap.objs.size f (.ref c))).units + 64 < cLine := by have := u65 hr; omega
  refine ⟨_, pss_cons (ps_set (i := 3) scLaw11.nd rfl (.inr rfl) (pe_call F.gS hr27 (by rfl) F.nS.m F.nS.kp F.nS.b .nil pass0 (pa_cons (pv 1) (pa_cons (pe_ix (r := rIxL K) ix_list (pe_lst (pa_cons pe_int (pa_cons pe_int (pa_cons pe_int (pa_cons pe_int pa_nil)))))
      (pe_call F.gX hr1 (by rfl) F.nX.m F.nX.kp F.nX.b .nil pass0 (pa_cons (pv 1) (pa_cons pe_int pa_nil))) (fun _ _ => rfl)) pa_nil))))
    (pss_cons (ps_set (i := 4) scLaw11.nd rfl (.inr rfl) (pe_call F.gL hr21 (by rfl) F.nL.m F.nL.kp F.nL.b .nil pass0 (pa_cons (pv 3) pa_nil)))
    (pss_cons (ps_setLc (i := 5) (own := [("_law_z", 13)]) (g := gName 13) rfl scLaw11.nd rfl rfl (sw_true rfl rfl rfl (by decide +kernel)) (pi_range1 (by rfl) F.T.range (pa_cons (pe_op op_add (pe_callBK (GW.cr_maxD rfl hU) (by rfl) F.U.max (by decide +kernel) (pa_cons
          (pe_lc (own := [("_law_cell", 14)]) (g := gName 14) rfl scLaw11.nd (pi_list (pv 4)) (blkOk_by (own := [("_law_cell", 14)]) (N := names11) (sc := defScope lLaw) (by decide +kernel)) (fun _ _ _ _ _ => pg_name (i := 14) scLaw11.nd rfl (.inl rfl)) (fun _ _ _ _ _ => pts_nil) (fun _ _ _ _ _ => pe_ix (r := rIxT K) ix_tup (pv 14) pe_int (fun _ _ => rfl))) pa_nil)
          (pk_cons (pe_un un_neg pe_int) pk_nil)) pe_int) pa_nil))
        (blkOk_by (own := [("_law_z", 13)]) (N := names11) (sc := defScope lLaw) (by decide +kernel))
        (fun _ _ _ _ _ => pg_name (i := 13) scLaw11.nd rfl (.inl rfl)) (fun _ _ _ _ _ => pts_nil)
        (fun _ _ _ _ _ => pe_call F.gl hr1 (by rfl) F.nl.m F.nl.kp F.nl.b .nil pass0 (pa_cons (pv 4) (pa_cons (pv 13) pa_nil))))
    (pss_cons (ps_set (i := 6) scLaw11.nd rfl (.inl rfl) (pe_tup (pa_cons (pe_call F.gX hr1 (by rfl) F.nX.m F.nX.kp F.nX.b .nil pass0 (pa_cons (pv 1) (pa_cons pe_int pa_nil))) (pa_cons (pe_call F.gX hr1 (by rfl) F.nX.m F.nX.kp F.nX.b .nil pass0 (pa_cons (pv 1) (pa_cons pe_int pa_nil))) pa_nil))))
    (pss_cons (ps_set (i := 7) scLaw11.nd rfl (.inl rfl) (pe_call F.gc hr7 (by rfl) F.nc.m F.nc.kp F.nc.b .nil pass0 (pa_cons (pv 5) (pa_cons (pv 6) (pa_cons GD.pe_d0 pa_nil))))) ph)))), ?_⟩
  intro a h l H0 D σ H1 hat nx
  obtain ⟨⟨σ', rfl, hlen⟩, k1, s1, v1⟩ := hat
  match σ', hlen with
  | [o2, o3, o4, o5, o6, o7, o8, o9, o10, o11, o12, o13, o14], _ =>
  refine ⟨_, rfl, (by show 4 ≤ sizeLine; decide), fun lo hlo => ?_⟩
  have kl : Kp [] H1 (upd H1 lo (.lst [.int 4, .int 4, .int 4, .int 6])) := Kp.new hlo
  have el : upd H1 lo (.lst [.int 4, .int 4, .int 4, .int 6]) lo = some (.lst [.int 4, .int 4, .int 4, .int 6]) := upd_same
  have hloA := s1.apart hlo
  generalize upd H1 lo (.lst [.int 4, .int 4, .int 4, .int 6]) = Hl at kl el ⊢
  have sl := s1.mono0 kl
  refine ⟨_, rfl, h, l, 4, rfl, by decide, by decide, sl, fun H2 r k2 s2 r0 r1 => ?_⟩
  obtain ⟨m, hm⟩ : ∃ m : Int, atI [V.int 4, .int 4, .int 4, .int 6] r = some (.int m) := by
    rcases (show r = 0 ∨ r = 1 ∨ r = 2 ∨ r = 3 by omega) with rfl | rfl | rfl | rfl
    · exact ⟨4, rfl⟩
    · exact ⟨4, rfl⟩
    · exact ⟨4, rfl⟩
    · exact ⟨6, rfl⟩
  refine ⟨lo, _, r, _, rfl, rfl, SqL.of (k2.lst el hloA), hm, h, l, m, rfl, s2, fun H3 v b k3 s3 hB hg hd => ?_⟩
  have hnb := nb_of_dp hd
  have k13 := (kl.w0.trans k2).trans k3
  refine ⟨_, rfl, v, b, rfl, hB, by omega, fun H6 du dys k6 n6 h6 i6 => ?_⟩
  have x6 : B11 F h l H0 v b H6 := ⟨(k1.trans k13).trans k6.w0, s3.mono0 k6, (v1.mono k13).mono k6, body_mono k6 hB, hg, by omega⟩
  have duA := s3.apart n6
  have hIn : ∀ c ∈ all b, InR c := fun c hc => (mem_all.mp hc).1
  have h4 := lay_le hIn
  have h64 := all_len b
  refine ⟨_, rfl, du, rfl, ⟨_, SqL.of h6⟩, fun D1 hD1 => lc_dataL (K := K) (all b) cD (fun _ => true) (fun c => .int c.2.2) noL_c (fun _ _ => rfl) hD1 (SqL.of h6) i6 (by omega) (fun c x H' Nx Z _ k hx nx _ => ?cel) (fun H7 zs k7 h7 d7 => ?cdn)⟩
  case cel =>
    obtain ⟨pc, rfl, hp⟩ := of_dp_c hx
    refine ⟨rfl, yesI ?_⟩
    exact ⟨_, rfl, pc, _, 2, _, rfl, rfl, hp, rfl, nx _ _ (Kp.refl _ _) rfl (.int _)⟩
  case cdn =>
  have e : ((all b).filter fun _ => true).map (fun c : C3 => PyData.int c.2.2) = ((all b).map fun c => c.2.2).map PyData.int := by
    rw [List.filter_eq_self.mpr fun _ _ => rfl, List.map_map]
    rfl
  rw [e] at d7
  have e2 := dps_ints d7
  subst e2
  dsimp only [tNil, tCons, tC]
  refine ⟨_, rfl, ?_⟩
  refine maxR (SqL.of h7) fun mz hmz => ?_
  have hlay := hi_z hIn hmz
  have x7 := x6.mono0 k7
  have h67 := k7.lst h6 List.not_mem_nil
  have i67 := items_mono k7 i6
  refine ⟨_, _, rfl, rfl, (lay (all b) : Int), by show [V.int (mz + 1)] = _; rw [hlay], by omega, by omega, fun D2 hD2 => lc_range (lo := 0) (n := lay (all b)) (fun i H' => Kp [] H7 H' ∧ ∃ acc, H' D2 = some (.lst acc) ∧ LX K H' [D2, h, l] acc ((List.range i).map fun z : Nat => strk (all b) (z : Int)))
    ⟨Kp.new hD2, [], upd_same, .nil⟩ (fun i H' hi pv => ?sel) (fun H8 pv => ?sdn)⟩
  case sel =>
    obtain ⟨kk, acc, hA, hlx⟩ := pv
    have hal := paired_len hlx
    rw [List.length_map, List.length_range] at hal
    refine ⟨rfl, yesI ?_⟩
    rw [Int.zero_add]
    refine ⟨_, rfl, _, rfl, .ref du, all b, (i : Int), rfl, cellsL_of (kk.lst h67 List.not_mem_nil) (items_mono kk i67), fun H9 r9 rs k9 n9 h9 i9 => ?_⟩
    have hA9 := k9.lst hA List.not_mem_nil
    have nrD : r9 ≠ D2 := fun z => by rw [z, hA] at n9; cases n9
    have nrS := (x7.s.mono0 kk).apart n9
    have kc : Kp [D2] H9 (upd H9 D2 (.lst (acc ++ [.ref r9]))) := Kp.chg hA9 (List.mem_singleton.mpr rfl)
    refine ⟨acc, hA9, small_size (by omega), (kk.trans k9).chg0 hD2 hA9, _, upd_same, ?_⟩
    rw [List.range_succ, List.map_append]
    refine paired_snoc ⟨r9, rs, rfl, kc.lst h9 (fun m => nrD (List.mem_singleton.mp m)), items_mono kc i9, fun m => ?_⟩ (LX.mono (LX.mono hlx k9 (fun a m => by cases m)) kc (fun a m => by rw [List.mem_singleton.mp m]; exact List.mem_cons_self))
    rcases List.mem_cons.mp m with z | z
    · exact nrD z
    · exact nrS z
  case sdn =>
  obtain ⟨kk, acc, hA, hlx⟩ := pv
  have x8 := x7.mono0 kk
  have hD2A := x7.s.apart hD2
  refine ⟨_, rfl, h, l, 4, rfl, by decide, by decide, x8.s, fun H9 p1 k9 s9 a0 a1 => ⟨_, rfl, h, l, 4, rfl, by decide, by decide, s9, fun H10 p2 k10 s10 b0 b1 => ⟨(by show 2 ≤ sizeLine; decide), fun t ht => ?_⟩⟩⟩
  have k810 := k9.trans k10
  have x10 := x8.mono k810 s10
  have hA10 := k810.lst hA hD2A
  have hlx10 := LX.mono hlx k810 (fun a m => List.mem_cons_of_mem _ m)
  have kt : Kp [] H10 (upd H10 t (.tup [.int p1, .int p2])) := Kp.new ht
  have et : SqT K (upd H10 t (.tup [.int p1, .int p2])) t [.int p1, .int p2] := SqT.of upd_same
  generalize upd H10 t (.tup [.int p1, .int p2]) = H11 at kt et ⊢
  have x11 := x10.mono0 kt
  have hp : inPl (p1, p2) = true := by
    unfold inPl
    rw [Bool.and_eq_true, btw_iff, btw_iff]
    exact ⟨⟨a0, by show p1 ≤ 3; omega⟩, ⟨b0, by show p2 ≤ 3; omega⟩⟩
  refine ⟨_, rfl, _, rfl, fun Dk H12 nw dn => ?_⟩
  have kn : Kp [] H11 H12 := Kp.newN nw
  have kn2 := kt.trans kn
  refine ⟨D2, Dk, .ref t, 0, (p1, p2), laysOf b, acc, [], [], rfl, kn2.lst hA10 List.not_mem_nil, (LX.mono hlx10 kn2 (fun a m => by cases m)).la, rm_lays b, Nat.zero_le _, hp, dp_p (p := (p1, p2)) (kn.sqT et), ⟨dn, .nil, fun k v h => by cases h⟩, (fun a h => by cases h), (by have := (rm_lays b).few; omega), fun H13 v13 kvs13 k13' rc13 hat13 => ?_⟩
  have k1113 : Kp [] H11 H13 := kn.off nw.free (k13'.weak fun b m => m)
  exact qh a h l H0 v b t (p1, p2) v13 D o2 _ _ o8 o9 o10 o11 o12 o13 o14 H13 (x11.mono0 k1113) (k1113.sqT et) hp hat13 nx
end
def spLaw11 (F : LF11 P W0 K mg base) : Sp := fun vs H Q _ => ∃ (a : Addr) (ns : List Int), vs = [.ref a] ∧ SqL K H a (ns.map V.int) ∧ ns.length ≤ 63 ∧ F.Liv H ∧ ∀ H', Q (.bl true) H'
theorem ok_law11 (F : LF11 P W0 K mg base) {f c : Addr} {fd : FuncData} (G : FunC K "law" "law" lLaw f fd c) (TB : LamX.TabB base mg c LamTab.P) (hq : LamTab.q = "law.<locals>.<lambda>") : FnOk P W0 K mg base CX0 80 f fd ["_law_script"] (spLaw11 F) := by
  refine G.ok scLaw11 (fun vs H Q E h => ?_) (fun A outer s H vs Q E hr h => ?_)
  · obtain ⟨a, ns, rfl, _⟩ := h
    rfl
  · obtain ⟨a, ns, rfl, hL, h63, v0, q⟩ := h
    have hr1 : Room 1 _ := hr.mono (by decide)
    obtain ⟨tb, pb, qb⟩ := part11_a F hr TB (by rw [hq]; show ("law.<locals>.<lambda>" : Str) = (("law" : Str) ++ (".<locals>." : Str)) ++ ("<lambda>" : Str); decide +kernel) (H := H) (E := E) (outer := outer)
    refine ⟨_, pss_cons (ps_set (i := 1) scLaw11.nd rfl (.inl rfl) (pe_call F.gM hr1 (by rfl) F.nM.m F.nM.kp F.nM.b .nil pass0 (pa_cons (pv 0) (pa_cons pe_int pa_nil))))
      (pss_cons (ps_for PassesOwn.never rfl (pi_range1 (by rfl) F.T.range (pa_cons pe_int pa_nil)) (pg_name (i := 2) scLaw11.nd rfl (.inl rfl)) pb)
      (pss_one (ps_ret pe_bl))), ?_⟩
    refine ⟨_, rfl, a, ns, 37, rfl, hL, by omega, by decide, by decide, fun H1 h l k1 n1 n2 s1 => ?_⟩
    refine ⟨2, rfl, by decide, by decide, for_range (lo := 0) (n := 2) (fun i σ H' => Nxt11 F a h l H1 σ H') ⟨⟨_, rfl, rfl⟩, Kp.refl _ _, s1, v0.mono k1⟩ (fun i σ H2 hi hat => ?_) (fun σ H2 hat => q H2)⟩
    obtain ⟨⟨σ', rfl, hlen⟩, k2, s2, v2⟩ := hat
    match σ', hlen with
    | o2 :: σ'', hlen =>
    exact qb a h l H1 _ _ H2 ⟨⟨_, rfl, hlen⟩, k2, s2, v2⟩ fun σ' H' z => z
end
end LP
end

section
set_option Elab.async false
set_option linter.all false
set_option maxRecDepth 100000
set_option maxHeartbeats 4000000
/-! the end: what the top leaves -/
namespace LP
open PySem PySem.Spec PyProof.Rows L2 Ly GY
theorem fun_of {K : PySem.W.Frag} {x : Str} {st : Stmt} {f : Addr} {fd : FuncData} (F : FunD K x x (defArgs st) (defBody st) (defScope st) [] [] f fd) : Fun K x x st f fd := by
  obtain ⟨oc, od, dV, kV, doc, pm, an, cdv, ct, osl, e, lk, hcd, hD, hK⟩ := F.ex
  rcases hD with ⟨_, rfl⟩ | ⟨z, _⟩
  · exact ⟨⟨oc, od, kV, doc, pm, an, cdv, ct, osl, e, lk, hcd⟩, F.kp⟩
  · exact absurd rfl z
theorem funC_of {K : PySem.W.Frag} {x : Str} {p : He.Defn} {st : Stmt} {fd : FuncData} (F : FunD K x x (defArgs st) (defBody st) (defScope st) [] [] (He.fAd K p) fd) : FunC K x x st (He.fAd K p) fd (He.cT K p).1 := by
  obtain ⟨oc, od, dV, kV, doc, pm, an, cdv, ct, osl, e, lk, hcd, hD, hK⟩ := F.ex
  rcases hD with ⟨_, rfl⟩ | ⟨z, _⟩
  · obtain ⟨c, rfl⟩ := He.codeIn_ref hcd
    have q : (He.cT K p).1 = c := He.codeOf_eq lk (by rw [e])
    rw [q]
    exact ⟨oc, od, kV, doc, pm, an, ct, osl, e, lk, hcd⟩
  · exact absurd rfl z
def defs : List He.DefD := [⟨("is_body", none), "is_body", "is_body", defArgs sIsBody, defBody sIsBody, defScope sIsBody, [], []⟩, ⟨("cells", none), "cells", "cells", defArgs sCells, defBody sCells, defScope sCells, [], []⟩, ⟨("slice_at", none), "slice_at", "slice_at", defArgs sSlice, defBody sSlice, defScope sSlice, [], []⟩, ⟨("check_layer", none), "check_layer", "check_layer", defArgs sChk, defBody sChk, defScope sChk, [], []⟩, ⟨("is_number", none), "is_number", "is_number", defArgs sNum, defBody sNum, defScope sNum, [], []⟩, ⟨("is_rising", none), "is_rising", "is_rising", defArgs sRising, defBody sRising, defScope sRising, [], []⟩, ⟨("layer_count", none), "layer_count", "layer_count", defArgs sLayerC, defBody sLayerC, defScope sLayerC, [], []⟩, ⟨("quarter", none), "quarter", "quarter", defArgs sQuarter, defBody sQuarter, defScope sQuarter, [], []⟩, ⟨("shifted", none), "shifted", "shifted", defArgs sShifted, defBody sShifted, defScope sShifted, [], []⟩, ⟨("_is_formed", none), "_is_formed", "_is_formed", defArgs sFormed, defBody sFormed, defScope sFormed, [], []⟩, ⟨("_places_within", none), "_places_within", "_places_within", defArgs sPlaces, defBody sPlaces, defScope sPlaces, [], []⟩, ⟨("_is_triple", none), "_is_triple", "_is_triple", defArgs sTri, defBody sTri, defScope sTri, [], []⟩, ⟨("_are_rising_cells", none), "_are_rising_cells", "_are_rising_cells", defArgs sRise, defBody sRise, defScope sRise, [], []⟩, ⟨("_held", none), "_held", "_held", defArgs sHeld, defBody sHeld, defScope sHeld, [], []⟩, ⟨("_block_cells", none), "_block_cells", "_block_cells", defArgs sBlock, defBody sBlock, defScope sBlock, [], []⟩, ⟨("_joined", none), "_joined", "_joined", defArgs sJoined, defBody sJoined, defScope sJoined, [], []⟩, ⟨("_row", none), "_row", "_row", defArgs sRow, defBody sRow, defScope sRow, [], []⟩, ⟨("strokes", none), "strokes", "strokes", defArgs sStrokes, defBody sStrokes, defScope sStrokes, [], []⟩, ⟨("printed", none), "printed", "printed", defArgs sPrinted, defBody sPrinted, defScope sPrinted, [], []⟩, ⟨("check_place", none), "check_place", "check_place", defArgs sChkPl, defBody sChkPl, defScope sChkPl, [], []⟩, ⟨("is_place", none), "is_place", "is_place", defArgs sIsPlace, defBody sIsPlace, defScope sIsPlace, [], []⟩, ⟨("drawn_next", none), "drawn_next", "drawn_next", defArgs sDrawn, defBody sDrawn, defScope sDrawn, [], []⟩, ⟨("_runs", none), "_runs", "_runs", defArgs sRuns, defBody sRuns, defScope sRuns, [], []⟩, ⟨("_best_orders", none), "_best_orders", "_best_orders", defArgs sBestOrds, defBody sBestOrds, defScope sBestOrds, [], []⟩, ⟨("_best_rest", none), "_best_rest", "_best_rest", defArgs sBestRest, defBody sBestRest, defScope sBestRest, [], []⟩, ⟨("_ends", none), "_ends", "_ends", defArgs sEnds, defBody sEnds, defScope sEnds, [], []⟩, ⟨("_steps", none), "_steps", "_steps", defArgs sSteps, defBody sSteps, defScope sSteps, [], []⟩, ⟨("_law_mix", none), "_law_mix", "_law_mix", defArgs lMix, defBody lMix, defScope lMix, [], []⟩, ⟨("_law_next", none), "_law_next", "_law_next", defArgs lNext, defBody lNext, defScope lNext, [], []⟩, ⟨("_law_alike", none), "_law_alike", "_law_alike", defArgs lAlike, defBody lAlike, defScope lAlike, [], []⟩, ⟨("_law_inside", none), "_law_inside", "_law_inside", defArgs lInside, defBody lInside, defScope lInside, [], []⟩, ⟨("_law_all", none), "_law_all", "_law_all", defArgs lAll, defBody lAll, defScope lAll, [], []⟩, ⟨("_law_body", none), "_law_body", "_law_body", defArgs lBody, defBody lBody, defScope lBody, [], []⟩, ⟨("_law_kind", none), "_law_kind", "_law_kind", defArgs lKind, defBody lKind, defScope lKind, [], []⟩, ⟨("_law_strokes", none), "_law_strokes", "_law_strokes", defArgs lStrokes, defBody lStrokes, defScope lStrokes, [], []⟩, ⟨("_law_small", none), "_law_small", "_law_small", defArgs lSmall, defBody lSmall, defScope lSmall, [], []⟩, ⟨("_law_draw", none), "_law_draw", "_law_draw", defArgs lDraw, defBody lDraw, defScope lDraw, [], []⟩, ⟨("_law_goals", none), "_law_goals", "_law_goals", defArgs lGoals, defBody lGoals, defScope lGoals, [], []⟩, ⟨("_law_chain", none), "_law_chain", "_law_chain", defArgs lChain, defBody lChain, defScope lChain, [], []⟩, ⟨("law", none), "law", "law", defArgs lLaw, defBody lLaw, defScope lLaw, [], []⟩]
def fa : List He.Fa := [.glo "is_body", .glo "cells", .glo "slice_at", .glo "check_layer", .glo "is_number", .glo "is_rising", .glo "layer_count", .glo "quarter", .glo "shifted", .glo "_is_formed", .glo "_places_within", .glo "_is_triple", .glo "_are_rising_cells", .glo "_held", .glo "_block_cells", .glo "_joined", .glo "_row", .glo "strokes", .glo "printed", .glo "check_place", .glo "is_place", .glo "drawn_next", .glo "_runs", .glo "_best_orders", .glo "_best_rest", .glo "_ends", .glo "_steps", .glo "_law_mix", .glo "_law_next", .glo "_law_alike", .glo "_law_inside", .glo "_law_all", .glo "_law_body", .glo "_law_kind", .glo "_law_strokes", .glo "_law_small", .glo "_law_draw", .glo "_law_goals", .glo "_law_chain", .glo "law", .glo "PrintError", .glo "NoBody", .glo "Outside", .glo "NoLayer", .glo "NoProp", .glo "BadReach", .glo "BadPlace", .glo "BadText", .glo "EDGES", .glo "JOINS", .free "isinstance", .free "int", .free "bool", .free "tuple", .free "list", .free "set", .free "len", .free "all", .free "range", .free "sorted", .free "max", .free "min", .free "str", .free "ValueError", .free "abs", .free "dict", .int "SIDE" 4, .int "LAST" 3, .int "MOST_BODIES" 20, .int "FORWARD" 0, .int "BACK" 1, .exc "NoLayer", .exm "NoLayer" "PrintError" true, .exc "BadPlace", .exm "BadPlace" "PrintError" true]
def tf : List He.Defn := [("slice_at", none), ("is_rising", none), ("_is_triple", none), ("_are_rising_cells", none), ("_held", none), ("_row", none), ("is_place", none), ("law", none)]
def ex (K : PySem.W.Frag) : Bool := (He.tupB K "EDGES" [.str "x", .str "y", .str "z"] && (He.tupB K "JOINS" [.str "with", .str "common", .str "less"] && (decide (PySem.W.findIn K (.ref (He.ga K "NoLayer")) "__getattribute__" = some (some (.builtin "BaseException.__getattribute__"))) && (decide (PySem.W.findIn K (.ref (He.ga K "NoLayer")) "__getattr__" = some none) && (decide (PySem.W.hasDictIn K (He.ga K "NoLayer") = true) && (decide (PySem.W.findIn K (.ref (He.ga K "NoLayer")) "__class__" = some (some (.builtin "object.__class__"))) && (decide (PySem.W.mroIn K (He.ga K "NoLayer") (.type "object") = some true) && (decide (PySem.W.kitOne K (.ref (He.ga K "NoLayer")) (.ref (He.ga K "NoBody")) = some false) && (decide (PySem.W.kitOne K (.ref (He.ga K "NoLayer")) (.ref (He.ga K "Outside")) = some false) && (decide (PySem.W.kitOne K (.ref (He.ga K "NoLayer")) (.ref (He.ga K "NoLayer")) = some true) && (decide (PySem.W.kitOne K (.ref (He.ga K "NoLayer")) (.ref (He.ga K "NoProp")) = some false) && (decide (PySem.W.kitOne K (.ref (He.ga K "NoLayer")) (.ref (He.ga K "BadReach")) = some false) && (decide (PySem.W.kitOne K (.ref (He.ga K "NoLayer")) (.ref (He.ga K "BadPlace")) = some false) && (decide (PySem.W.kitOne K (.ref (He.ga K "NoLayer")) (.ref (He.ga K "BadText")) = some false) && (decide (PySem.W.kitOne K (.ref (He.ga K "NoLayer")) (.type "ValueError") = some true) && (decide (PySem.W.findIn K (.ref (He.ga K "BadPlace")) "__getattribute__" = some (some (.builtin "BaseException.__getattribute__"))) && (decide (PySem.W.findIn K (.ref (He.ga K "BadPlace")) "__getattr__" = some none) && (decide (PySem.W.hasDictIn K (He.ga K "BadPlace") = true) && (decide (PySem.W.findIn K (.ref (He.ga K "BadPlace")) "__class__" = some (some (.builtin "object.__class__"))) && (decide (PySem.W.mroIn K (He.ga K "BadPlace") (.type "object") = some true) && (decide (PySem.W.kitOne K (.ref (He.ga K "BadPlace")) (.ref (He.ga K "NoBody")) = some false) && (decide (PySem.W.kitOne K (.ref (He.ga K "BadPlace")) (.ref (He.ga K "Outside")) = some false) && (decide (PySem.W.kitOne K (.ref (He.ga K "BadPlace")) (.ref (He.ga K "NoLayer")) = some false) && (decide (PySem.W.kitOne K (.ref (He.ga K "BadPlace")) (.ref (He.ga K "NoProp")) = some false) && (decide (PySem.W.kitOne K (.ref (He.ga K "BadPlace")) (.ref (He.ga K "BadReach")) = some false) && (decide (PySem.W.kitOne K (.ref (He.ga K "BadPlace")) (.ref (He.ga K "BadPlace")) = some true) && (decide (PySem.W.kitOne K (.ref (He.ga K "BadPlace")) (.ref (He.ga K "BadText")) = some false) && (decide (PySem.W.kitOne K (.ref (He.ga K "BadPlace")) (.type "ValueError") = some true) && (decide (PySem.W.specialIn K (.builtin "object.__class__") "__get__" = some (some (.builtin "getset_descriptor.__get__"))) && (decide (PySem.W.takesIn K (.builtin "object.__class__") = some true) && (decide ((He.cT K ("slice_at", none)).2 ≠ (He.cT K ("law", none)).2) && (decide ((He.cT K ("is_rising", none)).2 ≠ (He.cT K ("law", none)).2) && (decide ((He.cT K ("_is_triple", none)).2 ≠ (He.cT K ("law", none)).2) && (decide ((He.cT K ("_are_rising_cells", none)).2 ≠ (He.cT K ("law", none)).2) && (decide ((He.cT K ("_held", none)).2 ≠ (He.cT K ("law", none)).2) && (decide ((He.cT K ("_row", none)).2 ≠ (He.cT K ("law", none)).2) && decide ((He.cT K ("is_place", none)).2 ≠ (He.cT K ("law", none)).2)))))))))))))))))))))))))))))))))))))
structure Ex1 (K : PySem.W.Frag) : Prop where
  tEDGES : He.tupB K "EDGES" [.str "x", .str "y", .str "z"] = true
  tJOINS : He.tupB K "JOINS" [.str "with", .str "common", .str "less"] = true
  e1NoLayer : PySem.W.findIn K (.ref (He.ga K "NoLayer")) "__getattribute__" = some (some (.builtin "BaseException.__getattribute__"))
  e2NoLayer : PySem.W.findIn K (.ref (He.ga K "NoLayer")) "__getattr__" = some none
  e3NoLayer : PySem.W.hasDictIn K (He.ga K "NoLayer") = true
  e4NoLayer : PySem.W.findIn K (.ref (He.ga K "NoLayer")) "__class__" = some (some (.builtin "object.__class__"))
  e7NoLayer : PySem.W.mroIn K (He.ga K "NoLayer") (.type "object") = some true
  k0NoLayer : PySem.W.kitOne K (.ref (He.ga K "NoLayer")) (.ref (He.ga K "NoBody")) = some false
  k1NoLayer : PySem.W.kitOne K (.ref (He.ga K "NoLayer")) (.ref (He.ga K "Outside")) = some false
  k2NoLayer : PySem.W.kitOne K (.ref (He.ga K "NoLayer")) (.ref (He.ga K "NoLayer")) = some true
  k3NoLayer : PySem.W.kitOne K (.ref (He.ga K "NoLayer")) (.ref (He.ga K "NoProp")) = some false
  k4NoLayer : PySem.W.kitOne K (.ref (He.ga K "NoLayer")) (.ref (He.ga K "BadReach")) = some false
  k5NoLayer : PySem.W.kitOne K (.ref (He.ga K "NoLayer")) (.ref (He.ga K "BadPlace")) = some false
  k6NoLayer : PySem.W.kitOne K (.ref (He.ga K "NoLayer")) (.ref (He.ga K "BadText")) = some false
  k7NoLayer : PySem.W.kitOne K (.ref (He.ga K "NoLayer")) (.type "ValueError") = some true
  e1BadPlace : PySem.W.findIn K (.ref (He.ga K "BadPlace")) "__getattribute__" = some (some (.builtin "BaseException.__getattribute__"))
  e2BadPlace : PySem.W.findIn K (.ref (He.ga K "BadPlace")) "__getattr__" = some none
  e3BadPlace : PySem.W.hasDictIn K (He.ga K "BadPlace") = true
  e4BadPlace : PySem.W.findIn K (.ref (He.ga K "BadPlace")) "__class__" = some (some (.builtin "object.__class__"))
  e7BadPlace : PySem.W.mroIn K (He.ga K "BadPlace") (.type "object") = some true
  k0BadPlace : PySem.W.kitOne K (.ref (He.ga K "BadPlace")) (.ref (He.ga K "NoBody")) = some false
  k1BadPlace : PySem.W.kitOne K (.ref (He.ga K "BadPlace")) (.ref (He.ga K "Outside")) = some false
  k2BadPlace : PySem.W.kitOne K (.ref (He.ga K "BadPlace")) (.ref (He.ga K "NoLayer")) = some false
  k3BadPlace : PySem.W.kitOne K (.ref (He.ga K "BadPlace")) (.ref (He.ga K "NoProp")) = some false
  k4BadPlace : PySem.W.kitOne K (.ref (He.ga K "BadPlace")) (.ref (He.ga K "BadReach")) = some false
  k5BadPlace : PySem.W.kitOne K (.ref (He.ga K "BadPlace")) (.ref (He.ga K "BadPlace")) = some true
  k6BadPlace : PySem.W.kitOne K (.ref (He.ga K "BadPlace")) (.ref (He.ga K "BadText")) = some false
  k7BadPlace : PySem.W.kitOne K (.ref (He.ga K "BadPlace")) (.type "ValueError") = some true
  e5 : PySem.W.specialIn K (.builtin "object.__class__") "__get__" = some (some (.builtin "getset_descriptor.__get__"))
  e6 : PySem.W.takesIn K (.builtin "object.__class__") = some true
  dsliceat : (He.cT K ("slice_at", none)).2 ≠ (He.cT K ("law", none)).2
  disrising : (He.cT K ("is_rising", none)).2 ≠ (He.cT K ("law", none)).2
  distriple : (He.cT K ("_is_triple", none)).2 ≠ (He.cT K ("law", none)).2
  darerisingcells : (He.cT K ("_are_rising_cells", none)).2 ≠ (He.cT K ("law", none)).2
  dheld : (He.cT K ("_held", none)).2 ≠ (He.cT K ("law", none)).2
  drow : (He.cT K ("_row", none)).2 ≠ (He.cT K ("law", none)).2
  displace : (He.cT K ("is_place", none)).2 ≠ (He.cT K ("law", none)).2
theorem ex1_of {K : PySem.W.Frag} (h : ex K = true) : Ex1 K := by
  unfold ex at h
  obtain ⟨h0, h⟩ := He.ba h
  obtain ⟨h1, h⟩ := He.ba h
  obtain ⟨h2, h⟩ := He.ba h
  obtain ⟨h3, h⟩ := He.ba h
  obtain ⟨h4, h⟩ := He.ba h
  obtain ⟨h5, h⟩ := He.ba h
  obtain ⟨h6, h⟩ := He.ba h
  obtain ⟨h7, h⟩ := He.ba h
  obtain ⟨h8, h⟩ := He.ba h
  obtain ⟨h9, h⟩ := He.ba h
  obtain ⟨h10, h⟩ := He.ba h
  obtain ⟨h11, h⟩ := He.ba h
  obtain ⟨h12, h⟩ := He.ba h
  obtain ⟨h13, h⟩ := He.ba h
  obtain ⟨h14, h⟩ := He.ba h
  obtain ⟨h15, h⟩ := He.ba h
  obtain ⟨h16, h⟩ := He.ba h
  obtain ⟨h17, h⟩ := He.ba h
  obtain ⟨h18, h⟩ := He.ba h
  obtain ⟨h19, h⟩ := He.ba h
  obtain ⟨h20, h⟩ := He.ba h
  obtain ⟨h21, h⟩ := He.ba h
  obtain ⟨h22, h⟩ := He.ba h
  obtain ⟨h23, h⟩ := He.ba h
  obtain ⟨h24, h⟩ := He.ba h
  obtain ⟨h25, h⟩ := He.ba h
  obtain ⟨h26, h⟩ := He.ba h
  obtain ⟨h27, h⟩ := He.ba h
  obtain ⟨h28, h⟩ := He.ba h
  obtain ⟨h29, h⟩ := He.ba h
  obtain ⟨h30, h⟩ := He.ba h
  obtain ⟨h31, h⟩ := He.ba h
  obtain ⟨h32, h⟩ := He.ba h
  obtain ⟨h33, h⟩ := He.ba h
  obtain ⟨h34, h⟩ := He.ba h
  obtain ⟨h35, h⟩ := He.ba h
  exact ⟨h0, h1, of_decide_eq_true h2, of_decide_eq_true h3, of_decide_eq_true h4, of_decide_eq_true h5, of_decide_eq_true h6, of_decide_eq_true h7, of_decide_eq_true h8, of_decide_eq_true h9, of_decide_eq_true h10, of_decide_eq_true h11, of_decide_eq_true h12, of_decide_eq_true h13, of_decide_eq_true h14, of_decide_eq_true h15, of_decide_eq_true h16, of_decide_eq_true h17, of_decide_eq_true h18, of_decide_eq_true h19, of_decide_eq_true h20, of_decide_eq_true h21, of_decide_eq_true h22, of_decide_eq_true h23, of_decide_eq_true h24, of_decide_eq_true h25, of_decide_eq_true h26, of_decide_eq_true h27, of_decide_eq_true h28, of_decide_eq_true h29, of_decide_eq_true h30, of_decide_eq_true h31, of_decide_eq_true h32, of_decide_eq_true h33, of_decide_eq_true h34, of_decide_eq_true h35, of_decide_eq_true h⟩
section
variable {P : Program} {w : World} {K : PySem.W.Frag} {h : Heap} {mg : Str → Option Value}
theorem nm_of (X : K.In h) (G : h.Ns mainGlobals mg) (c : He.SaysD fa defs K) (e : Ex1 K) : Nm K mg where
  isinstance := He.free_ok X G (c.fact 50 (f := .free "isinstance") rfl)
  int := He.free_ok X G (c.fact 51 (f := .free "int") rfl)
  bool := He.free_ok X G (c.fact 52 (f := .free "bool") rfl)
  tuple := He.free_ok X G (c.fact 53 (f := .free "tuple") rfl)
  list := He.free_ok X G (c.fact 54 (f := .free "list") rfl)
  set := He.free_ok X G (c.fact 55 (f := .free "set") rfl)
  len := He.free_ok X G (c.fact 56 (f := .free "len") rfl)
  all := He.free_ok X G (c.fact 57 (f := .free "all") rfl)
  range := He.free_ok X G (c.fact 58 (f := .free "range") rfl)
  sorted := He.free_ok X G (c.fact 59 (f := .free "sorted") rfl)
  side := He.int_ok X G (c.fact 66 (f := .int "SIDE" 4) rfl)
  last := He.int_ok X G (c.fact 67 (f := .int "LAST" 3) rfl)
  most := He.int_ok X G (c.fact 68 (f := .int "MOST_BODIES" 20) rfl)
  edges := ⟨_, He.glo_ok X G (c.fact 48 (f := .glo "EDGES") rfl), fun H => He.tupB_ok e.tEDGES H⟩
  joins := ⟨_, He.glo_ok X G (c.fact 49 (f := .glo "JOINS") rfl), fun H => He.tupB_ok e.tJOINS H⟩
theorem nl_of (X : K.In h) (G : h.Ns mainGlobals mg) (c : He.SaysD fa defs K) : Nl K mg where
  max := He.free_ok X G (c.fact 60 (f := .free "max") rfl)
  min := He.free_ok X G (c.fact 61 (f := .free "min") rfl)
  str := He.free_ok X G (c.fact 62 (f := .free "str") rfl)
theorem ex_ofNoLayer (X : K.In h) (G : h.Ns mainGlobals mg) (c : He.SaysD fa defs K) : Ex K mg "NoLayer" (He.ga K "NoLayer") := by
  obtain ⟨h1, h2, h3, h4⟩ := He.exc_ok (c.fact 71 (f := .exc "NoLayer") rfl)
  exact ⟨He.glo_ok X G (c.fact 43 (f := .glo "NoLayer") rfl), h1, h2, h3, h4⟩
theorem exc_ofNoLayer (X : K.In h) (G : h.Ns mainGlobals mg) (c : He.SaysD fa defs K) (e : Ex1 K) : ExcC K (He.ga K "NoLayer") := ⟨e.e1NoLayer, e.e2NoLayer, (ex_ofNoLayer X G c).b, e.e3NoLayer, e.e4NoLayer, e.e5, e.e6, e.e7NoLayer⟩
theorem ex_ofBadPlace (X : K.In h) (G : h.Ns mainGlobals mg) (c : He.SaysD fa defs K) : Ex K mg "BadPlace" (He.ga K "BadPlace") := by
  obtain ⟨h1, h2, h3, h4⟩ := He.exc_ok (c.fact 73 (f := .exc "BadPlace") rfl)
  exact ⟨He.glo_ok X G (c.fact 46 (f := .glo "BadPlace") rfl), h1, h2, h3, h4⟩
theorem exc_ofBadPlace (X : K.In h) (G : h.Ns mainGlobals mg) (c : He.SaysD fa defs K) (e : Ex1 K) : ExcC K (He.ga K "BadPlace") := ⟨e.e1BadPlace, e.e2BadPlace, (ex_ofBadPlace X G c).b, e.e3BadPlace, e.e4BadPlace, e.e5, e.e6, e.e7BadPlace⟩
theorem no_of (X : K.In h) (G : h.Ns mainGlobals mg) (c : He.SaysD fa defs K) : No mg where
  abs := He.free_ok X G (c.fact 64 (f := .free "abs") rfl)
  min := He.free_ok X G (c.fact 61 (f := .free "min") rfl)
  fwd := He.int_ok X G (c.fact 69 (f := .int "FORWARD" 0) rfl)
  back := He.int_ok X G (c.fact 70 (f := .int "BACK" 1) rfl)
theorem nodict11 (X : K.In h) (G : h.Ns mainGlobals mg) (c : He.SaysD fa defs K) : mg "dict" = none := He.free_ok X G (c.fact 65 (f := .free "dict") rfl)
theorem kindn_of (X : K.In h) (G : h.Ns mainGlobals mg) (c : He.SaysD fa defs K) : KindN mg (He.ga K "PrintError") (He.ga K "NoBody") (He.ga K "Outside") (He.ga K "NoLayer") (He.ga K "NoProp") (He.ga K "BadReach") (He.ga K "BadPlace") (He.ga K "BadText") where
  gP := He.glo_ok X G (c.fact 40 (f := .glo "PrintError") rfl)
  gB := He.glo_ok X G (c.fact 41 (f := .glo "NoBody") rfl)
  gO := He.glo_ok X G (c.fact 42 (f := .glo "Outside") rfl)
  gL := He.glo_ok X G (c.fact 43 (f := .glo "NoLayer") rfl)
  gN := He.glo_ok X G (c.fact 44 (f := .glo "NoProp") rfl)
  gR := He.glo_ok X G (c.fact 45 (f := .glo "BadReach") rfl)
  gK := He.glo_ok X G (c.fact 46 (f := .glo "BadPlace") rfl)
  gT := He.glo_ok X G (c.fact 47 (f := .glo "BadText") rfl)
  gV := He.free_ok X G (c.fact 63 (f := .free "ValueError") rfl)
theorem kat_ofBadPlace (X : K.In h) (G : h.Ns mainGlobals mg) (c : He.SaysD fa defs K) (e : Ex1 K) : KindAt K (He.ga K "PrintError") (He.ga K "NoBody") (He.ga K "Outside") (He.ga K "NoLayer") (He.ga K "NoProp") (He.ga K "BadReach") (He.ga K "BadPlace") (He.ga K "BadText") (He.ga K "BadPlace") 5 where
  e := He.exm_ok (c.fact 74 (f := .exm "BadPlace" "PrintError" true) rfl)
  x := exc_ofBadPlace X G c e
  iB := e.k0BadPlace
  iO := e.k1BadPlace
  iL := e.k2BadPlace
  iN := e.k3BadPlace
  iR := e.k4BadPlace
  iK := e.k5BadPlace
  iT := e.k6BadPlace
  iV := e.k7BadPlace
theorem fn_of' {x : Str} {st : Stmt} {ps : List Str} {fd : FuncData} (F : FunD K x x (defArgs st) (defBody st) (defScope st) [] [] (He.ga K x) fd) (m : mg x = some (.ref (He.ga K x)))
    (h : ∀ (kV doc pm : Value) (an : Option Addr) (cdv ct : Value) (us : List Value), us.length = ps.length → bindArgs (PySem.W.fnOf x x (defArgs st) (defBody st) (defScope st) .none kV doc pm an cdv ct) ⟨us, []⟩ = pure (ps.zip us)) : Fn K mg x (He.ga K x) fd ps :=
  ⟨F.kp, (fun_of F).binds h, m⟩
/-- what is asked of the heap at the law's call -/
def spLawA [LamTab] (K : PySem.W.Frag) (Psliceat Pisrising Pistriple Parerisingcells Pheld Prow Pisplace : Addr) : Sp := fun vs H Q _ => ∃ (a : Addr) (ns : List Int), vs = [.ref a] ∧ SqL K H a (ns.map V.int) ∧ ns.length ≤ 63 ∧ (TGen H Psliceat ∧ TGen H Pisrising ∧ TGen H Pistriple ∧ TGen H Parerisingcells ∧ TGen H Pheld ∧ TGen H Prow ∧ TGen H Pisplace ∧ LamX.TabS H LamTab.P LamTab.q) ∧ ∀ H', Q (.bl true) H'
theorem all_of (X : K.In h) (G : h.Ns mainGlobals mg) (c : He.SaysX fa defs [] tf ex w h K) : ∃ (lt : LamTab) (fd : FuncData), lt = ⟨(He.cT K ("law", none)).2, "law.<locals>.<lambda>", (He.cT K ("is_rising", none)).2⟩ ∧ (∀ (s : Shared) (u : Value), BindsTo s fd ⟨[u], []⟩ [("_law_script", u)]) ∧
    ∀ base : Heap, K.In base → base.Ns mainGlobals mg → (∀ p ∈ tf.map (He.cT K), LamX.TabB base mg p.1 p.2) → FnOk P w K mg base CX0 80 (He.ga K "law") fd ["_law_script"] (@spLawA lt K (He.cT K ("slice_at", none)).2 (He.cT K ("is_rising", none)).2 (He.cT K ("_is_triple", none)).2 (He.cT K ("_are_rising_cells", none)).2 (He.cT K ("_held", none)).2 (He.cT K ("_row", none)).2 (He.cT K ("is_place", none)).2) := by
  have d := c.t.d
  have e := ex1_of c.more
  have T := nm_of X G d e
  have U := nl_of X G d
  have O := no_of X G d
  obtain ⟨d_isbody, F_isbody⟩ := d.def_ 0 (d := ⟨("is_body", none), "is_body", "is_body", defArgs sIsBody, defBody sIsBody, defScope sIsBody, [], []⟩) rfl
  have N_isbody := fn_of' (x := "is_body") (st := sIsBody) (ps := ["body"]) (mg := mg) F_isbody (He.glo_ok X G (d.fact 0 (f := .glo "is_body") rfl)) (fun _ _ _ _ _ _ us hl => match us, hl with | [_], _ => rfl)
  obtain ⟨d_cells, F_cells⟩ := d.def_ 1 (d := ⟨("cells", none), "cells", "cells", defArgs sCells, defBody sCells, defScope sCells, [], []⟩) rfl
  have N_cells := fn_of' (x := "cells") (st := sCells) (ps := ["body"]) (mg := mg) F_cells (He.glo_ok X G (d.fact 1 (f := .glo "cells") rfl)) (fun _ _ _ _ _ _ us hl => match us, hl with | [_], _ => rfl)
  obtain ⟨d_sliceat, F_sliceat⟩ := d.def_ 2 (d := ⟨("slice_at", none), "slice_at", "slice_at", defArgs sSlice, defBody sSlice, defScope sSlice, [], []⟩) rfl
  have N_sliceat := fn_of' (x := "slice_at") (st := sSlice) (ps := ["body", "z"]) (mg := mg) F_sliceat (He.glo_ok X G (d.fact 2 (f := .glo "slice_at") rfl)) (fun _ _ _ _ _ _ us hl => match us, hl with | [_, _], _ => rfl)
  obtain ⟨d_checklayer, F_checklayer⟩ := d.def_ 3 (d := ⟨("check_layer", none), "check_layer", "check_layer", defArgs sChk, defBody sChk, defScope sChk, [], []⟩) rfl
  have N_checklayer := fn_of' (x := "check_layer") (st := sChk) (ps := ["z"]) (mg := mg) F_checklayer (He.glo_ok X G (d.fact 3 (f := .glo "check_layer") rfl)) (fun _ _ _ _ _ _ us hl => match us, hl with | [_], _ => rfl)
  obtain ⟨d_isnumber, F_isnumber⟩ := d.def_ 4 (d := ⟨("is_number", none), "is_number", "is_number", defArgs sNum, defBody sNum, defScope sNum, [], []⟩) rfl
  have N_isnumber := fn_of' (x := "is_number") (st := sNum) (ps := ["value", "low", "high"]) (mg := mg) F_isnumber (He.glo_ok X G (d.fact 4 (f := .glo "is_number") rfl)) (fun _ _ _ _ _ _ us hl => match us, hl with | [_, _, _], _ => rfl)
  obtain ⟨d_isrising, F_isrising⟩ := d.def_ 5 (d := ⟨("is_rising", none), "is_rising", "is_rising", defArgs sRising, defBody sRising, defScope sRising, [], []⟩) rfl
  have N_isrising := fn_of' (x := "is_rising") (st := sRising) (ps := ["values"]) (mg := mg) F_isrising (He.glo_ok X G (d.fact 5 (f := .glo "is_rising") rfl)) (fun _ _ _ _ _ _ us hl => match us, hl with | [_], _ => rfl)
  obtain ⟨d_layercount, F_layercount⟩ := d.def_ 6 (d := ⟨("layer_count", none), "layer_count", "layer_count", defArgs sLayerC, defBody sLayerC, defScope sLayerC, [], []⟩) rfl
  have N_layercount := fn_of' (x := "layer_count") (st := sLayerC) (ps := ["held"]) (mg := mg) F_layercount (He.glo_ok X G (d.fact 6 (f := .glo "layer_count") rfl)) (fun _ _ _ _ _ _ us hl => match us, hl with | [_], _ => rfl)
  obtain ⟨d_quarter, F_quarter⟩ := d.def_ 7 (d := ⟨("quarter", none), "quarter", "quarter", defArgs sQuarter, defBody sQuarter, defScope sQuarter, [], []⟩) rfl
  have N_quarter := fn_of' (x := "quarter") (st := sQuarter) (ps := ["edge", "held"]) (mg := mg) F_quarter (He.glo_ok X G (d.fact 7 (f := .glo "quarter") rfl)) (fun _ _ _ _ _ _ us hl => match us, hl with | [_, _], _ => rfl)
  obtain ⟨d_shifted, F_shifted⟩ := d.def_ 8 (d := ⟨("shifted", none), "shifted", "shifted", defArgs sShifted, defBody sShifted, defScope sShifted, [], []⟩) rfl
  have N_shifted := fn_of' (x := "shifted") (st := sShifted) (ps := ["far", "held"]) (mg := mg) F_shifted (He.glo_ok X G (d.fact 8 (f := .glo "shifted") rfl)) (fun _ _ _ _ _ _ us hl => match us, hl with | [_, _], _ => rfl)
  obtain ⟨d_isformed, F_isformed⟩ := d.def_ 9 (d := ⟨("_is_formed", none), "_is_formed", "_is_formed", defArgs sFormed, defBody sFormed, defScope sFormed, [], []⟩) rfl
  have N_isformed := fn_of' (x := "_is_formed") (st := sFormed) (ps := ["body"]) (mg := mg) F_isformed (He.glo_ok X G (d.fact 9 (f := .glo "_is_formed") rfl)) (fun _ _ _ _ _ _ us hl => match us, hl with | [_], _ => rfl)
  obtain ⟨d_placeswithin, F_placeswithin⟩ := d.def_ 10 (d := ⟨("_places_within", none), "_places_within", "_places_within", defArgs sPlaces, defBody sPlaces, defScope sPlaces, [], []⟩) rfl
  have N_placeswithin := fn_of' (x := "_places_within") (st := sPlaces) (ps := ["body"]) (mg := mg) F_placeswithin (He.glo_ok X G (d.fact 10 (f := .glo "_places_within") rfl)) (fun _ _ _ _ _ _ us hl => match us, hl with | [_], _ => rfl)
  obtain ⟨d_istriple, F_istriple⟩ := d.def_ 11 (d := ⟨("_is_triple", none), "_is_triple", "_is_triple", defArgs sTri, defBody sTri, defScope sTri, [], []⟩) rfl
  have N_istriple := fn_of' (x := "_is_triple") (st := sTri) (ps := ["value", "low", "high"]) (mg := mg) F_istriple (He.glo_ok X G (d.fact 11 (f := .glo "_is_triple") rfl)) (fun _ _ _ _ _ _ us hl => match us, hl with | [_, _, _], _ => rfl)
  obtain ⟨d_arerisingcells, F_arerisingcells⟩ := d.def_ 12 (d := ⟨("_are_rising_cells", none), "_are_rising_cells", "_are_rising_cells", defArgs sRise, defBody sRise, defScope sRise, [], []⟩) rfl
  have N_arerisingcells := fn_of' (x := "_are_rising_cells") (st := sRise) (ps := ["value"]) (mg := mg) F_arerisingcells (He.glo_ok X G (d.fact 12 (f := .glo "_are_rising_cells") rfl)) (fun _ _ _ _ _ _ us hl => match us, hl with | [_], _ => rfl)
  obtain ⟨d_held, F_held⟩ := d.def_ 13 (d := ⟨("_held", none), "_held", "_held", defArgs sHeld, defBody sHeld, defScope sHeld, [], []⟩) rfl
  have N_held := fn_of' (x := "_held") (st := sHeld) (ps := ["body"]) (mg := mg) F_held (He.glo_ok X G (d.fact 13 (f := .glo "_held") rfl)) (fun _ _ _ _ _ _ us hl => match us, hl with | [_], _ => rfl)
  obtain ⟨d_blockcells, F_blockcells⟩ := d.def_ 14 (d := ⟨("_block_cells", none), "_block_cells", "_block_cells", defArgs sBlock, defBody sBlock, defScope sBlock, [], []⟩) rfl
  have N_blockcells := fn_of' (x := "_block_cells") (st := sBlock) (ps := ["corner", "size"]) (mg := mg) F_blockcells (He.glo_ok X G (d.fact 14 (f := .glo "_block_cells") rfl)) (fun _ _ _ _ _ _ us hl => match us, hl with | [_, _], _ => rfl)
  obtain ⟨d_joined, F_joined⟩ := d.def_ 15 (d := ⟨("_joined", none), "_joined", "_joined", defArgs sJoined, defBody sJoined, defScope sJoined, [], []⟩) rfl
  have N_joined := fn_of' (x := "_joined") (st := sJoined) (ps := ["word", "first", "second"]) (mg := mg) F_joined (He.glo_ok X G (d.fact 15 (f := .glo "_joined") rfl)) (fun _ _ _ _ _ _ us hl => match us, hl with | [_, _, _], _ => rfl)
  obtain ⟨d_row, F_row⟩ := d.def_ 16 (d := ⟨("_row", none), "_row", "_row", defArgs sRow, defBody sRow, defScope sRow, [], []⟩) rfl
  have N_row := fn_of' (x := "_row") (st := sRow) (ps := ["held", "y", "z"]) (mg := mg) F_row (He.glo_ok X G (d.fact 16 (f := .glo "_row") rfl)) (fun _ _ _ _ _ _ us hl => match us, hl with | [_, _, _], _ => rfl)
  obtain ⟨d_strokes, F_strokes⟩ := d.def_ 17 (d := ⟨("strokes", none), "strokes", "strokes", defArgs sStrokes, defBody sStrokes, defScope sStrokes, [], []⟩) rfl
  have N_strokes := fn_of' (x := "strokes") (st := sStrokes) (ps := ["body", "z"]) (mg := mg) F_strokes (He.glo_ok X G (d.fact 17 (f := .glo "strokes") rfl)) (fun _ _ _ _ _ _ us hl => match us, hl with | [_, _], _ => rfl)
  obtain ⟨d_printed, F_printed⟩ := d.def_ 18 (d := ⟨("printed", none), "printed", "printed", defArgs sPrinted, defBody sPrinted, defScope sPrinted, [], []⟩) rfl
  have N_printed := fn_of' (x := "printed") (st := sPrinted) (ps := ["body", "place"]) (mg := mg) F_printed (He.glo_ok X G (d.fact 18 (f := .glo "printed") rfl)) (fun _ _ _ _ _ _ us hl => match us, hl with | [_, _], _ => rfl)
  obtain ⟨d_checkplace, F_checkplace⟩ := d.def_ 19 (d := ⟨("check_place", none), "check_place", "check_place", defArgs sChkPl, defBody sChkPl, defScope sChkPl, [], []⟩) rfl
  have N_checkplace := fn_of' (x := "check_place") (st := sChkPl) (ps := ["place"]) (mg := mg) F_checkplace (He.glo_ok X G (d.fact 19 (f := .glo "check_place") rfl)) (fun _ _ _ _ _ _ us hl => match us, hl with | [_], _ => rfl)
  obtain ⟨d_isplace, F_isplace⟩ := d.def_ 20 (d := ⟨("is_place", none), "is_place", "is_place", defArgs sIsPlace, defBody sIsPlace, defScope sIsPlace, [], []⟩) rfl
  have N_isplace := fn_of' (x := "is_place") (st := sIsPlace) (ps := ["place"]) (mg := mg) F_isplace (He.glo_ok X G (d.fact 20 (f := .glo "is_place") rfl)) (fun _ _ _ _ _ _ us hl => match us, hl with | [_], _ => rfl)
  obtain ⟨d_drawnnext, F_drawnnext⟩ := d.def_ 21 (d := ⟨("drawn_next", none), "drawn_next", "drawn_next", defArgs sDrawn, defBody sDrawn, defScope sDrawn, [], []⟩) rfl
  have N_drawnnext := fn_of' (x := "drawn_next") (st := sDrawn) (ps := ["runs", "done", "place"]) (mg := mg) F_drawnnext (He.glo_ok X G (d.fact 21 (f := .glo "drawn_next") rfl)) (fun _ _ _ _ _ _ us hl => match us, hl with | [_, _, _], _ => rfl)
  obtain ⟨d_runs, F_runs⟩ := d.def_ 22 (d := ⟨("_runs", none), "_runs", "_runs", defArgs sRuns, defBody sRuns, defScope sRuns, [], []⟩) rfl
  have N_runs := fn_of' (x := "_runs") (st := sRuns) (ps := ["row"]) (mg := mg) F_runs (He.glo_ok X G (d.fact 22 (f := .glo "_runs") rfl)) (fun _ _ _ _ _ _ us hl => match us, hl with | [_], _ => rfl)
  obtain ⟨d_bestorders, F_bestorders⟩ := d.def_ 23 (d := ⟨("_best_orders", none), "_best_orders", "_best_orders", defArgs sBestOrds, defBody sBestOrds, defScope sBestOrds, [], []⟩) rfl
  have N_bestorders := fn_of' (x := "_best_orders") (st := sBestOrds) (ps := ["layers", "place"]) (mg := mg) F_bestorders (He.glo_ok X G (d.fact 23 (f := .glo "_best_orders") rfl)) (fun _ _ _ _ _ _ us hl => match us, hl with | [_, _], _ => rfl)
  obtain ⟨d_bestrest, F_bestrest⟩ := d.def_ 24 (d := ⟨("_best_rest", none), "_best_rest", "_best_rest", defArgs sBestRest, defBody sBestRest, defScope sBestRest, [], []⟩) rfl
  have N_bestrest := fn_of' (x := "_best_rest") (st := sBestRest) (ps := ["layers", "at", "done", "place", "known"]) (mg := mg) F_bestrest (He.glo_ok X G (d.fact 24 (f := .glo "_best_rest") rfl)) (fun _ _ _ _ _ _ us hl => match us, hl with | [_, _, _, _, _], _ => rfl)
  obtain ⟨d_ends, F_ends⟩ := d.def_ 25 (d := ⟨("_ends", none), "_ends", "_ends", defArgs sEnds, defBody sEnds, defScope sEnds, [], []⟩) rfl
  have N_ends := fn_of' (x := "_ends") (st := sEnds) (ps := ["run", "way"]) (mg := mg) F_ends (He.glo_ok X G (d.fact 25 (f := .glo "_ends") rfl)) (fun _ _ _ _ _ _ us hl => match us, hl with | [_, _], _ => rfl)
  obtain ⟨d_steps, F_steps⟩ := d.def_ 26 (d := ⟨("_steps", none), "_steps", "_steps", defArgs sSteps, defBody sSteps, defScope sSteps, [], []⟩) rfl
  have N_steps := fn_of' (x := "_steps") (st := sSteps) (ps := ["place", "other"]) (mg := mg) F_steps (He.glo_ok X G (d.fact 26 (f := .glo "_steps") rfl)) (fun _ _ _ _ _ _ us hl => match us, hl with | [_, _], _ => rfl)
  obtain ⟨d_lawmix, F_lawmix⟩ := d.def_ 27 (d := ⟨("_law_mix", none), "_law_mix", "_law_mix", defArgs lMix, defBody lMix, defScope lMix, [], []⟩) rfl
  have N_lawmix := fn_of' (x := "_law_mix") (st := lMix) (ps := ["_law_script", "_law_seed"]) (mg := mg) F_lawmix (He.glo_ok X G (d.fact 27 (f := .glo "_law_mix") rfl)) (fun _ _ _ _ _ _ us hl => match us, hl with | [_, _], _ => rfl)
  obtain ⟨d_lawnext, F_lawnext⟩ := d.def_ 28 (d := ⟨("_law_next", none), "_law_next", "_law_next", defArgs lNext, defBody lNext, defScope lNext, [], []⟩) rfl
  have N_lawnext := fn_of' (x := "_law_next") (st := lNext) (ps := ["_law_h", "_law_many"]) (mg := mg) F_lawnext (He.glo_ok X G (d.fact 28 (f := .glo "_law_next") rfl)) (fun _ _ _ _ _ _ us hl => match us, hl with | [_, _], _ => rfl)
  obtain ⟨d_lawalike, F_lawalike⟩ := d.def_ 29 (d := ⟨("_law_alike", none), "_law_alike", "_law_alike", defArgs lAlike, defBody lAlike, defScope lAlike, [], []⟩) rfl
  have N_lawalike := fn_of' (x := "_law_alike") (st := lAlike) (ps := ["_law_found", "_law_due"]) (mg := mg) F_lawalike (He.glo_ok X G (d.fact 29 (f := .glo "_law_alike") rfl)) (fun _ _ _ _ _ _ us hl => match us, hl with | [_, _], _ => rfl)
  obtain ⟨d_lawinside, F_lawinside⟩ := d.def_ 30 (d := ⟨("_law_inside", none), "_law_inside", "_law_inside", defArgs lInside, defBody lInside, defScope lInside, [], []⟩) rfl
  have N_lawinside := fn_of' (x := "_law_inside") (st := lInside) (ps := ["_law_body_here", "_law_cell"]) (mg := mg) F_lawinside (He.glo_ok X G (d.fact 30 (f := .glo "_law_inside") rfl)) (fun _ _ _ _ _ _ us hl => match us, hl with | [_, _], _ => rfl)
  obtain ⟨d_lawall, F_lawall⟩ := d.def_ 31 (d := ⟨("_law_all", none), "_law_all", "_law_all", defArgs lAll, defBody lAll, defScope lAll, [], []⟩) rfl
  have N_lawall := fn_of' (x := "_law_all") (st := lAll) (ps := ["_law_body_here"]) (mg := mg) F_lawall (He.glo_ok X G (d.fact 31 (f := .glo "_law_all") rfl)) (fun _ _ _ _ _ _ us hl => match us, hl with | [_], _ => rfl)
  obtain ⟨d_lawbody, F_lawbody⟩ := d.def_ 32 (d := ⟨("_law_body", none), "_law_body", "_law_body", defArgs lBody, defBody lBody, defScope lBody, [], []⟩) rfl
  have N_lawbody := fn_of' (x := "_law_body") (st := lBody) (ps := ["_law_h", "_law_deep"]) (mg := mg) F_lawbody (He.glo_ok X G (d.fact 32 (f := .glo "_law_body") rfl)) (fun _ _ _ _ _ _ us hl => match us, hl with | [_, _], _ => rfl)
  obtain ⟨d_lawkind, F_lawkind⟩ := d.def_ 33 (d := ⟨("_law_kind", none), "_law_kind", "_law_kind", defArgs lKind, defBody lKind, defScope lKind, [], []⟩) rfl
  have N_lawkind := fn_of' (x := "_law_kind") (st := lKind) (ps := ["_law_work"]) (mg := mg) F_lawkind (He.glo_ok X G (d.fact 33 (f := .glo "_law_kind") rfl)) (fun _ _ _ _ _ _ us hl => match us, hl with | [_], _ => rfl)
  obtain ⟨d_lawstrokes, F_lawstrokes⟩ := d.def_ 34 (d := ⟨("_law_strokes", none), "_law_strokes", "_law_strokes", defArgs lStrokes, defBody lStrokes, defScope lStrokes, [], []⟩) rfl
  have N_lawstrokes := fn_of' (x := "_law_strokes") (st := lStrokes) (ps := ["_law_some", "_law_z"]) (mg := mg) F_lawstrokes (He.glo_ok X G (d.fact 34 (f := .glo "_law_strokes") rfl)) (fun _ _ _ _ _ _ us hl => match us, hl with | [_, _], _ => rfl)
  obtain ⟨d_lawsmall, F_lawsmall⟩ := d.def_ 35 (d := ⟨("_law_small", none), "_law_small", "_law_small", defArgs lSmall, defBody lSmall, defScope lSmall, [], []⟩) rfl
  have N_lawsmall := fn_of' (x := "_law_small") (st := lSmall) (ps := ["_law_h", "_law_most"]) (mg := mg) F_lawsmall (He.glo_ok X G (d.fact 35 (f := .glo "_law_small") rfl)) (fun _ _ _ _ _ _ us hl => match us, hl with | [_, _], _ => rfl)
  obtain ⟨d_lawdraw, F_lawdraw⟩ := d.def_ 36 (d := ⟨("_law_draw", none), "_law_draw", "_law_draw", defArgs lDraw, defBody lDraw, defScope lDraw, [], []⟩) rfl
  have N_lawdraw := fn_of' (x := "_law_draw") (st := lDraw) (ps := ["_law_run", "_law_way", "_law_place"]) (mg := mg) F_lawdraw (He.glo_ok X G (d.fact 36 (f := .glo "_law_draw") rfl)) (fun _ _ _ _ _ _ us hl => match us, hl with | [_, _, _], _ => rfl)
  obtain ⟨d_lawgoals, F_lawgoals⟩ := d.def_ 37 (d := ⟨("_law_goals", none), "_law_goals", "_law_goals", defArgs lGoals, defBody lGoals, defScope lGoals, [], []⟩) rfl
  have N_lawgoals := fn_of' (x := "_law_goals") (st := lGoals) (ps := ["_law_runs", "_law_place"]) (mg := mg) F_lawgoals (He.glo_ok X G (d.fact 37 (f := .glo "_law_goals") rfl)) (fun _ _ _ _ _ _ us hl => match us, hl with | [_, _], _ => rfl)
  obtain ⟨d_lawchain, F_lawchain⟩ := d.def_ 38 (d := ⟨("_law_chain", none), "_law_chain", "_law_chain", defArgs lChain, defBody lChain, defScope lChain, [], []⟩) rfl
  have N_lawchain := fn_of' (x := "_law_chain") (st := lChain) (ps := ["_law_layers", "_law_place", "_law_known"]) (mg := mg) F_lawchain (He.glo_ok X G (d.fact 38 (f := .glo "_law_chain") rfl)) (fun _ _ _ _ _ _ us hl => match us, hl with | [_, _, _], _ => rfl)
  obtain ⟨d_law, F_law⟩ := d.def_ 39 (d := ⟨("law", none), "law", "law", defArgs lLaw, defBody lLaw, defScope lLaw, [], []⟩) rfl
  have N_law := fn_of' (x := "law") (st := lLaw) (ps := ["_law_script"]) (mg := mg) F_law (He.glo_ok X G (d.fact 39 (f := .glo "law") rfl)) (fun _ _ _ _ _ _ us hl => match us, hl with | [_], _ => rfl)
  refine ⟨⟨(He.cT K ("law", none)).2, "law.<locals>.<lambda>", (He.cT K ("is_rising", none)).2⟩, d_law, rfl, fun s u => FunD.bindsA (ps := ["_law_script"]) F_law (fun _ _ _ _ _ _ us hl => match us, hl with | [_], _ => rfl) s [u] rfl, fun base KB GB TB => ?_⟩
  letI : LamTab := ⟨(He.cT K ("law", none)).2, "law.<locals>.<lambda>", (He.cT K ("is_rising", none)).2⟩
  have tb : ∀ p ∈ tf, GxR.TabB base mg (He.cT K p).1 (He.cT K p).2 := fun p hp => by
    have t := TB _ (List.mem_map.mpr ⟨p, hp, rfl⟩)
    exact ⟨t.code, t.bm, t.gP⟩
  have g_num := ok_num (P := P) (w := w) (base := base) (fun_of F_isnumber) T
  have g_tri := ok_tri (base := base) (funC_of (p := ("_is_triple", none)) F_istriple) (tb _ (by simp [tf])) T N_isnumber g_num
  have g_rising := ok_rising (P := P) (w := w) (base := base) (funC_of (p := ("is_rising", none)) F_isrising) (tb _ (by simp [tf])) T
  have g_rise := ok_rise (base := base) (funC_of (p := ("_are_rising_cells", none)) F_arerisingcells) (tb _ (by simp [tf])) T N_istriple g_tri N_isrising g_rising
  have g_form := ok_form (fun_of F_isformed) T N_istriple g_tri N_arerisingcells g_rise
  have g_places := ok_places (P := P) (w := w) (base := base) (fun_of F_placeswithin) T
  have g_isbody := ok_isbody (fun_of F_isbody) T N_isformed g_form N_placeswithin g_places
  have g_quarter := ok_quarter (P := P) (w := w) (base := base) (fun_of F_quarter) T
  have g_shifted := ok_shifted (P := P) (w := w) (mg := mg) (base := base) (fun_of F_shifted)
  have g_block := ok_block (P := P) (w := w) (base := base) (fun_of F_blockcells) T
  have g_joined := ok_joined (P := P) (W0 := w) (base := base) (fun_of F_joined) T
  have g_held := ok_held (base := base) (funC_of (p := ("_held", none)) F_held) (tb _ (by simp [tf])) T ⟨N_istriple, g_tri, N_blockcells, g_block, N_shifted, g_shifted, N_quarter, g_quarter, N_joined, g_joined⟩ N_held 20
  have g_cells := ok_cells (fun_of F_cells) N_isbody g_isbody N_held g_held
  have g_row := ok_row (P := P) (W0 := w) (base := base) (funC_of (p := ("_row", none)) F_row) (tb _ (by simp [tf])) T
  have g_chk := ok_chk (P := P) (W0 := w) (base := base) (fun_of F_checklayer) T (ex_ofNoLayer X G d) N_isnumber g_num
  have g_slice := ok_slice (base := base) (funC_of (p := ("slice_at", none)) F_sliceat) (tb _ (by simp [tf])) T N_cells g_cells N_checklayer g_chk N_row g_row
  have g_runs := ok_runs (P := P) (W0 := w) (base := base) (fun_of F_runs) T
  have g_layerc := ok_layerc (P := P) (W0 := w) (base := base) (fun_of F_layercount) U
  have g_strokes := ok_strokes (fun_of F_strokes) T N_sliceat g_slice N_runs g_runs
  have g_mix := ok_mix (P := P) (W0 := w) (base := base) (fun_of F_lawmix) T
  have g_next := ok_next (P := P) (W0 := w) (base := base) (fun_of F_lawnext) T U
  have g_alike := ok_alike (P := P) (W0 := w) (base := base) (fun_of F_lawalike) T U N_lawalike 10
  have g_inside := ok_inside (P := P) (W0 := w) (base := base) (fun_of F_lawinside) T N_lawinside 20
  have g_all := ok_all (fun_of F_lawall) T N_lawinside g_inside
  have g_body := ok_lbody (fun_of F_lawbody) T U N_lawbody N_lawnext g_next N_lawall g_all 5
  have g_lstr := ok_lstr (P := P) (W0 := w) (base := base) (fun_of F_lawstrokes) T
  have g_ispl := ok_ispl (P := P) (W0 := w) (base := base) (funC_of (p := ("is_place", none)) F_isplace) (tb _ (by simp [tf])) T N_isnumber g_num
  have g_chkpl := ok_chkpl (fun_of F_checkplace) (ex_ofBadPlace X G d) N_isplace g_ispl
  have g_steps := ok_steps (P := P) (W0 := w) (base := base) (fun_of F_steps) O
  have g_ends := ok_ends (P := P) (W0 := w) (base := base) (fun_of F_ends) O
  have g_drawn := ok_drawn (fun_of F_drawnnext) T O N_ends g_ends N_steps g_steps
  have g_rest := ok_rest (fun_of F_bestrest) T O N_bestrest N_drawnnext g_drawn 37 (by decide)
  have g_ords := ok_ords (r := 75) (fun_of F_bestorders) T N_bestrest g_rest
  have g_printed := ok_printed (fun_of F_printed) T N_cells g_cells N_strokes g_strokes N_checkplace g_chkpl N_layercount g_layerc N_bestorders g_ords
  have g_draw := ok_draw (P := P) (W0 := w) (base := base) (fun_of F_lawdraw) O
  have g_small := ok_small (fun_of F_lawsmall) T U N_lawbody g_body N_lawall g_all N_lawstrokes g_lstr
  have g_goals := ok_goals (fun_of F_lawgoals) T O (nodict11 X G d) N_lawdraw g_draw
  have g_chain := ok_chain (fun_of F_lawchain) T O N_lawgoals g_goals N_lawchain 5
  obtain ⟨oc, od, dV, kV, doc, pm, an, cdv, ct, osl, ek, lk, hcd, hD, hK⟩ := F_lawkind.ex
  subst ek
  let F0 : LF11 P w K mg base := { fM := _, fX := _, fA := _, fL := _, fS := _, fl := _, fc := _, fp := _, dM := _, dX := _, dA := _, dL := _, dS := _, dl := _, dc := _, dp := _, Pt := (He.cT K ("_is_triple", none)).2, Pr := (He.cT K ("_are_rising_cells", none)).2, Ph := (He.cT K ("_held", none)).2, Pw := (He.cT K ("_row", none)).2, Ps := (He.cT K ("slice_at", none)).2, Pc := (He.cT K ("is_place", none)).2, nM := N_lawmix, gM := g_mix, nX := N_lawnext, gX := g_next, nA := N_lawalike, gA := g_alike, nL := N_lawall, gL := g_all, nS := N_lawsmall, gS := g_small, nl := N_lawstrokes, gl := g_lstr, nc := N_lawchain, gc := g_chain, T := T, U := U, k := { CP := _, CB := _, CO := _, CL := _, CN := _, CR := _, CK := _, CT := _, n := kindn_of X G d, fK := _, dVK := _, kVK := _, docK := _, pmK := _, cdvK := _, ctK := _, ocK := _, anK := _, odK := _, oslK := _, mK := N_lawkind.m, kK := N_lawkind.kp, lK := lk, cK := hcd, bK := N_lawkind.b }, aK := kat_ofBadPlace X G d e, np := N_printed, gp := g_printed }
  have gl := ok_law11 F0 (funC_of (p := ("law", none)) F_law) (TB _ (List.mem_map.mpr ⟨("law", none), by simp [tf], rfl⟩)) rfl
  exact gl.imp fun vs H Q E ⟨a, ns, e, hs, hl, ⟨tsliceat, tisrising, tistriple, tarerisingcells, theld, trow, tisplace, tlam⟩, q⟩ => ⟨a, ns, e, hs, hl, ⟨⟨tistriple, ⟨tarerisingcells, tisrising⟩, theld⟩, trow, tsliceat, tisplace, tlam⟩, q⟩
end
end LP
end

section
set_option Elab.async false
set_option linter.all false
set_option maxRecDepth 100000
set_option maxHeartbeats 0
namespace LP
open PySem PySem.Spec PyProof.Rows L2
abbrev R : PySem.W.OpenRow := PySem.W.OpenLaw.row PySem.Challenge.rw_layerprint_k11_whole_all_layers_together
abbrev theHook : PySem.W.Hook := He.hookX 6 fa defs [] tf ex
def theOb (s : PySem.W.SharedT) : He.AlX := He.obsX 6 fa defs [] tf ex (HandSHeadRun.getT s)
theorem theOb_eq (s : PySem.W.SharedT) : theOb s = theHook.obs s.abs := He.obsX_eq (HandSHeadRun.getT_eq s)
def names : List PySem.Str := [("PrintError" : PySem.Str), ("NoBody" : PySem.Str), ("Outside" : PySem.Str), ("NoLayer" : PySem.Str), ("NoProp" : PySem.Str), ("BadReach" : PySem.Str), ("BadPlace" : PySem.Str), ("BadText" : PySem.Str), ("SIDE" : PySem.Str), ("LAST" : PySem.Str), ("MOST_BODIES" : PySem.Str), ("EDGES" : PySem.Str), ("JOINS" : PySem.Str), ("is_body" : PySem.Str), ("cells" : PySem.Str), ("slice_at" : PySem.Str), ("check_layer" : PySem.Str), ("is_number" : PySem.Str), ("is_rising" : PySem.Str), ("layer_count" : PySem.Str), ("quarter" : PySem.Str), ("shifted" : PySem.Str), ("_is_formed" : PySem.Str), ("_places_within" : PySem.Str), ("_is_triple" : PySem.Str), ("_are_rising_cells" : PySem.Str), ("_held" : PySem.Str), ("_block_cells" : PySem.Str), ("_joined" : PySem.Str), ("_row" : PySem.Str), ("FORWARD" : PySem.Str), ("BACK" : PySem.Str), ("strokes" : PySem.Str), ("printed" : PySem.Str), ("check_place" : PySem.Str), ("is_place" : PySem.Str), ("drawn_next" : PySem.Str), ("_runs" : PySem.Str), ("_best_orders" : PySem.Str), ("_best_rest" : PySem.Str), ("_ends" : PySem.Str), ("_steps" : PySem.Str), ("_law_mix" : PySem.Str), ("_law_next" : PySem.Str), ("_law_alike" : PySem.Str), ("_law_inside" : PySem.Str), ("_law_all" : PySem.Str), ("_law_body" : PySem.Str), ("_law_kind" : PySem.Str), ("_law_strokes" : PySem.Str), ("_law_small" : PySem.Str), ("_law_draw" : PySem.Str), ("_law_goals" : PySem.Str), ("_law_chain" : PySem.Str)]
theorem run (w : World) : HandSHeadRun.RunEq R (PySem.W.view R.prog [58]) theHook theOb 6000 names w := by
  intro os
  kernel_rfl
end LP
end

section
set_option Elab.async false
set_option linter.all false
set_option maxRecDepth 100000
set_option maxHeartbeats 0
namespace LP
open PySem PySem.Spec PyProof.Rows L2
theorem law_at {w : World} {K : PySem.W.Frag} {h : Heap} {mg : Str → Option Value} {f : Addr} (X : K.In h) (G : h.Ns mainGlobals mg) (hf : mg "law" = some (.ref f)) (c : He.SaysX fa defs [] tf ex w h K) : LamX.LawAtS PySem.Challenge.rw_layerprint_k11_whole_all_layers_together w K L2.CX0 80 63 "_law_script" mg f h := by
  obtain ⟨lt, fd, elt, hb, hF⟩ := all_of (P := (PySem.Challenge.rw_layerprint_k11_whole_all_layers_together).prog) X G c
  have ef := hf.symm.trans (He.glo_ok X G (c.t.d.fact 39 (f := .glo "law") rfl))
  cases ef
  subst elt
  have e := ex1_of c.more
  letI : LamTab := ⟨(He.cT K ("law", none)).2, "law.<locals>.<lambda>", (He.cT K ("is_rising", none)).2⟩
  have key : ∀ {A : Addr × Addr → Prop}, (∀ p ∈ tf, A (He.cT K p)) → ∀ p ∈ tf.map (He.cT K), A p := fun hA p hp => by
    obtain ⟨q, hq, rfl⟩ := List.mem_map.mp hp
    exact hA q hq
  refine ⟨fd, tf.map (He.cT K), _, key (fun p hp => c.empty p hp), key (fun p hp => c.out p hp), key (fun p hp => PySem.W.codeHd_of_K X (c.hd p hp)), hb, ?_, hF⟩
  intro H a ns hl _ hT hS
  have tt : ∀ p ∈ tf, H (He.cT K p).2 = some (.tbl #[]) := fun p hp => hT _ (List.mem_map.mpr ⟨p, hp, rfl⟩)
  have tg : ∀ p ∈ tf, GxR.TabG H (He.cT K p).2 := fun p hp => ⟨#[], tt p hp, True.intro⟩
  exact ⟨a, ns, rfl, hS, hl, ⟨⟨tg _ (by simp [tf]), e.dsliceat⟩, ⟨tg _ (by simp [tf]), e.disrising⟩, ⟨tg _ (by simp [tf]), e.distriple⟩, ⟨tg _ (by simp [tf]), e.darerisingcells⟩, ⟨tg _ (by simp [tf]), e.dheld⟩, ⟨tg _ (by simp [tf]), e.drow⟩, ⟨tg _ (by simp [tf]), e.displace⟩, LamX.TabS.nil (tt _ (by simp [tf]))⟩, fun _ => rfl⟩
end LP
end

section
set_option Elab.async false
set_option linter.all false
set_option maxRecDepth 100000
set_option maxHeartbeats 0
open PySem PySem.W PySem.Calls PyProof.Rows
theorem PySem.Challenge.cw_layerprint_k11_whole_all_layers_together_holds : PySem.Challenge.rw_layerprint_k11_whole_all_layers_together.Holds := by
  w_on; o_law
  refine HandSHeadRun.head_any (r := OpenLaw.row PySem.Challenge.rw_layerprint_k11_whole_all_layers_together) (q := view (OpenLaw.row PySem.Challenge.rw_layerprint_k11_whole_all_layers_together).prog [58]) (H := LP.theHook) (ob := LP.theOb) (M := 6000) (loose := LP.names) (d := HandSHeadRun.topDef (OpenLaw.row PySem.Challenge.rw_layerprint_k11_whole_all_layers_together).prog 58) (kwd := []) LP.theOb_eq
    (by kernel_rfl) (fun s => by kernel_rfl) LP.run (by kernel_rfl) (by kernel_rfl) (by kernel_rfl) (by rfl) (by first | assumption | decide +kernel) (by decide +kernel) ⟨rfl, rfl, rfl, rfl, rfl, by decide +kernel⟩ ?hw ?hc
  case hw => w_witness2
  case hc =>
    refine LamX.walk_ofTsE (l := PySem.Challenge.rw_layerprint_k11_whole_all_layers_together) (n := 63) (k := 80) (x := "_law_script") (CX := fun _ => L2.CX0) rfl (by decide) (by kernel_rfl) ⟨rfl, by decide, by decide⟩ ?F (fun _ _ _ _ _ z => z)
    intro w mg fa h Y G hmg0
    obtain ⟨K, KX, c⟩ := Y
    have hmg : mg ("law" : PySem.Str) = some (.ref fa) := by
      have e : (HandSHeadRun.topDef (OpenLaw.row PySem.Challenge.rw_layerprint_k11_whole_all_layers_together).prog 58).name = ("law" : PySem.Str) := by kernel_rfl
      rw [← e]
      exact hmg0
    exact ⟨K, KX, LP.law_at KX G hmg c⟩
end
