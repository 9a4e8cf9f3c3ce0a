import PyProof.Rows.All
import Wide.All
import OpenK.AllK
import Wide.FinOn
import HandS.ForMost
import HandS.GenList
import HandS.AnyAll
import HandS.JoinGen
import PyProof.CollectWalk
import PyProof.TupleOfGen
import HandS.TupSets
import HandS.Deep
import KE.SortData
import PyProof.WalksMore
import PyProof.FactsAll.subtypes_4
import HandS.SortKw
import KE.DatumOrd
import HandS.Wide
import HandS.IsInst
import HandS.Lambda
import HandS.Flow
import HandS.ForExc
import PySem.Challenge.RW_layerprint_k14_texts_that_tell_no_body
import HandS.Exc
import HandS.HeadHook1
import HandS.HeadHook2
import HandS.HeadHook3
import HandS.HeadHook4
import HandS.ExcField
import KE.KSuper
import KE.KIsAll
import HandS.Head0
import HandS.Head1
import HandS.Head2
import HandS.HeadEnd
import HandS.HeadWalk
import HandS.EndTab
import PyProof.Draws
import HandS.Walk
import KE.KExcSuper
import HandS.Base
import HandS.Call
import HandS.List
import HandS.Ends
import HandS.ExcSuper
import HandS.ExcInit
import HandS.FStr
import PyProof.Rows.StrSplitJoin
import PyProof.Rows.StrSplitAre
import HandS.ExcIs
import PyProof.Rows.ReprOcc
import PyProof.StrLawsChain
import PyProof.FitsReplace
section
set_option Elab.async false
set_option linter.all false
set_option maxRecDepth 100000
set_option maxHeartbeats 2000000
/-! Generator expressions whose element is any expression of the layer: all(..), tuple(..), sep.join(..) of them. -/
namespace GX
open PySem PySem.Spec PyProof.Rows L2 GenW

/-- the names of a generator expression: its own x (and the walked thing), or captured ones of the def -/
structure GOk (N : List Str) (sc scope : Scope) (x : Str) : Prop where
  kind : scope.kind = .function
  co : scope.isCoroutine = false
  nocell : ∀ y ∈ scope.names, y.2 ≠ .cell
  dot : scope.names.lookup (".0" : Str) = some NameKind.local
  loc : scope.names.lookup x = some .local
  uniq : ∀ y ∈ scope.names, scope.names.lookup y.1 = some y.2
  free : ∀ y ∈ scope.names, y.2 = .free → sc.names.lookup y.1 = some .cell ∨ sc.names.lookup y.1 = some .free
  own : ∀ y ∈ scope.names, y.2 = .local → y.1 ∉ N
  xd : x ≠ ".0"

/-- the context of a generator expression's frame -/
def gcx (X : Cx) (scope : Scope) (x : Str) (A : Around) (s : Shared) (H : Hp) (C : Addr) (code : Value) (fp : List Addr) : Cx where
  prog := X.prog
  w := X.w
  K := X.K
  mg := X.mg
  base := X.base
  A := A.deeper (genEnv scope (cloFrom X.env.cells scope.names []) C code builtinsNs X.env)
  N := X.N ++ [x]
  s_0 := s
  H_0 := H
  env := genEnv scope (cloFrom X.env.cells scope.names []) C code builtinsNs X.env
  outer := X.stack
  stack := genEnv scope (cloFrom X.env.cells scope.names []) C code builtinsNs X.env :: X.stack
  ex := fp
  fn := fun _ => false
  calm := true
  pn := []
  xe := fun _ _ => False

theorem over_loop_gen {A : Around} {elt : Expr} {gs : List Comprehension} {scope : Scope} {pos : Pos} {it acc : Value} {env : Env} : A.over (.compLoop (.GeneratorExp elt gs scope pos) 0 it acc env) [] = A.deeper env := by
  first
    | rfl
    | (obtain ⟨hd, d, fr, gs, u⟩ := A; simp [Around.over, Around.deeper, marksOver, frameCount, unitsOf, envsOf, guardsOf, pushEnvs, pushGuards, Code.envs, Code.env?, Code.isFrame, Code.guards, Code.isGuard, Code.weight, Code.frames, Code.isCreation, Code.isCaller, Code.cUnits])
theorem over_start_gen {A : Around} {elt : Expr} {gs : List Comprehension} {scope : Scope} {pos : Pos} {it acc : Value} {env : Env} : A.over (.compStart (.GeneratorExp elt gs scope pos) 0 it acc env) [] = A.deeper env := by
  first
    | rfl
    | (obtain ⟨hd, d, fr, gs, u⟩ := A; simp [Around.over, Around.deeper, marksOver, frameCount, unitsOf, envsOf, guardsOf, pushEnvs, pushGuards, Code.envs, Code.env?, Code.isFrame, Code.guards, Code.isGuard, Code.weight, Code.frames, Code.isCreation, Code.isCaller, Code.cUnits])

section
variable {X : Cx} {pins : List (Addr × Obj)} {σ : L2.St} {H : Hp} {s : Shared}
theorem gen_start {scope : Scope} {x : Str} {A : Around} {code : Value} {fp : List Addr} {s' : Shared} {it : Value} (I : Inv X pins σ H s) (ok : GOk X.N X.env.scope scope x) (hfp : ∀ b ∈ fp, FpOk X pins H b ∧ b < s.heap.objs.size)
    (hh : A.handled = none) (hfr : A.frames = some X.stack) (hos : s'.os = s.os) (hb : AllBare s'.gens) (kp : ∀ b o, s.heap.get? b = some o → s'.heap.get? b = some o)
    (hn : s'.heap.Ns s.heap.objs.size (fun y => if y = ".0" then some it else none)) :
    Inv (gcx X scope x A s H s.heap.objs.size code fp) [] (σ ++ [none]) H s' := by
  have hfree : ∀ y ∈ scope.names, y.2 = .free → ∃ c, X.env.cells.lookup y.1 = some c := fun y hy e => by
    rcases ok.free y hy e with k | k
    · exact I.ok.has _ (.inl k)
    · exact I.ok.has _ (.inr k)
  have cm : ∀ {y c}, (y, c) ∈ cloFrom X.env.cells scope.names [] → X.env.cells.lookup y = some c ∧ c < s.heap.objs.size := fun {y c} hm => by
    rcases cloFrom_mem hm with hm | ⟨h1, rfl⟩
    · cases hm
    · obtain ⟨c, hc⟩ := hfree _ h1 rfl
      rw [hc]
      obtain ⟨w, z⟩ := I.cell _ _ hc
      exact ⟨rfl, z.lt⟩
  have cl : ∀ {y c}, (cloFrom X.env.cells scope.names []).lookup y = some c → X.env.cells.lookup y = some c ∧ c < s.heap.objs.size := fun {y c} e => cm (PySem.mem_of_lookup e)
  have look : ∀ {y}, scope.names.lookup y = some .free → ∃ c, (cloFrom X.env.cells scope.names []).lookup y = some c ∧ X.env.cells.lookup y = some c := fun {y} hl => by
    have hy : (y, NameKind.free) ∈ scope.names := PySem.mem_of_lookup hl
    obtain ⟨c', e'⟩ := mem_lookup (cloFrom_has (cells := X.env.cells) (acc := []) hy)
    exact ⟨c', e', (cl e').1⟩
  have okB : (gcx X scope x A s H s.heap.objs.size code fp).Ok := by
    refine ⟨I.ok.mod, ok.kind, I.ok.glob, rfl, Nat.le_refl _, fun y z c e1 e2 => I.ok.inj y z c (cl e1).1 (cl e2).1, fun y hy => ?_, fun y c z _ => ?_, fun _ => hh, Around.frames_deeper hfr, .inr ⟨rfl, rfl⟩,
      fun b hb => ⟨Nat.ne_of_lt (hfp b hb).2, fun y c e => (hfp b hb).1.2.2.2.2.1 y c (cl e).1⟩, I.bs, Nat.le_trans I.ok.bsz I.sz, fun b o e hb => ?_, fun b hb z => ?_, I.stack, I.stkFree⟩
    · have hy : scope.names.lookup y = some .cell ∨ scope.names.lookup y = some .free := hy
      rcases hy with hy | hy
      · exact absurd rfl (ok.nocell _ (PySem.mem_of_lookup hy))
      · obtain ⟨c, h1, _⟩ := look hy
        exact ⟨c, h1⟩
    · exact absurd (show (false : Bool) = true from z) Bool.false_ne_true
    · rcases (hfp b hb).1.2.2.2.1 with z | z
      · exact I.ok.noex b o e z
      · exact absurd (Nat.lt_of_lt_of_le (Heap.lt_size e) (Nat.le_trans I.ok.bsz z)) (Nat.lt_irrefl _)
    · rcases List.mem_cons.mp (I.stkSub b z) with z | z
      · exact (hfp b hb).1.2.1 z
      · exact (hfp b hb).1.2.2.1 z
  refine ⟨okB, hos, hb, Un.kept kp, ⟨_, hn, fun i y v e1 e2 e3 => ?_⟩, fun y c e => ?_, I.hok.fresh (Nat.le_refl _), fun y c e => I.freeC y c (cl e).1, fun p hp => absurd (show p ∈ ([] : List (Addr × Obj)) ++ [] from hp) (by simp), I.hok.kept kp, ?_⟩
  · have e1 : (X.N ++ [x])[i]? = some y := e1
    have hl : σ.length = X.N.length := I.len
    have hi : i < σ.length := by
      rcases Nat.lt_or_ge i σ.length with h | h
      · exact h
      · rw [List.getElem?_append_right h] at e2
        rcases Nat.eq_zero_or_pos (i - σ.length) with z | z
        · rw [z] at e2; cases e2
        · rw [List.getElem?_eq_none (by simp; omega)] at e2; cases e2
    rw [List.getElem?_append_left (by omega)] at e1
    rw [List.getElem?_append_left hi] at e2
    have hyN : y ∈ X.N := List.mem_of_getElem? e1
    have hf : scope.names.lookup y = some .free := by
      have e3 : Vis scope y := e3
      rcases e3 with e3 | e3 | e3
      · exact absurd hyN (ok.own _ (PySem.mem_of_lookup e3) rfl)
      · exact absurd rfl (ok.nocell _ (PySem.mem_of_lookup e3))
      · exact e3
    obtain ⟨m, hn', hl'⟩ := I.loc
    have hsc := ok.free _ (PySem.mem_of_lookup hf) rfl
    have hvis : Vis X.env.scope y := hsc.elim (fun k => .inr (.inl k)) (fun k => .inr (.inr k))
    obtain ⟨w, r, q⟩ := hl' i y v e1 e2 hvis
    refine ⟨w, r, .inr ⟨.inr hf, ?_⟩⟩
    obtain ⟨c, h1, h2⟩ := look hf
    rcases q with ⟨k, _⟩ | ⟨_, c', e', z⟩
    · have k : X.env.scope.names.lookup y = some .local := k
      rcases hsc with k' | k' <;> rw [show X.env.scope.names.lookup y = _ from k'] at k <;> cases k
    · rw [h2] at e'; cases e'
      exact ⟨c, h1, z.keeps kp⟩
  · obtain ⟨w, z⟩ := I.cell y c (cl e).1
    exact ⟨w, z.keeps kp⟩
  · show (σ ++ [none]).length = (X.N ++ [x]).length
    have hl : σ.length = X.N.length := I.len
    simp [hl]
end

/-- while the generator sleeps: what stands at S may change, all else is kept -/
structure Slept (S : List Addr) (s s' : Shared) : Prop where
  os : s'.os = s.os
  bare : AllBare s'.gens
  keep : ∀ b o, b ∉ S → s.heap.get? b = some o → s'.heap.get? b = some o
  there : ∀ b ∈ S, ∃ o, s'.heap.get? b = some o ∧ ∀ v, o.data ≠ .cell v

/-- what the generator's run leans on: X' its context, a its object, fp its iterator's objects -/
structure GX1 (X' : Cx) (S : List Addr) (a : Addr) (fp : List Addr) : Prop where
  apart : ∀ b ∈ S, X'.s_0.heap.objs.size ≤ b ∧ b ≠ X'.env.locals ∧ (∀ x c, X'.env.cells.lookup x = some c → c ≠ b) ∧ b ≠ a ∧ b ∉ fp ∧ b ∉ X'.fs
  pn : X'.pn = []
section
variable {X' : Cx} {S : List Addr} {a : Addr} {go : Obj} {fp : List Addr} {σ : L2.St} {H : Hp} {s s' s₀ : Shared}
theorem woken (g : GX1 X' S a fp) (I : Inv X' ((a, go) :: pinsAt S s₀.heap) σ H s) (hS0 : ∀ b ∈ S, ∃ o, s₀.heap.get? b = some o) (z : Slept S s s') :
    Inv X' ((a, go) :: pinsAt S s'.heap) σ H s' := by
  have hSH : ∀ b ∈ S, H b = none := fun b hb => by
    obtain ⟨o, e⟩ := hS0 b hb
    exact (I.pin (b, o) (List.mem_append_right _ (List.mem_cons_of_mem _ (mem_pinsAt hb e)))).2.1
  have ha := I.pin (a, go) (List.mem_append_right _ List.mem_cons_self)
  have I0 : Inv X' [(a, go)] σ H s := I.pins_of fun p hp => by
    rw [List.mem_singleton.mp hp]
    exact ha
  have nt : ∀ b u, H b = some u → b ∉ S := fun b u q hb => by rw [hSH b hb] at q; cases q
  have nc : ∀ x c, X'.env.cells.lookup x = some c → c ∉ S := fun x c e hc => (g.apart c hc).2.2.1 x c e rfl
  have J : Inv X' [(a, go)] σ H s' := by
    obtain ⟨hh, gg, d, t, o⟩ := s'
    have ho : o = s.os := z.os
    subst ho
    refine I0.step (g' := gg) (t' := t) (d' := d) (ch := S) (fun b hb => ⟨.inr (g.apart b hb).1, (g.apart b hb).2.1, (g.apart b hb).2.2.1, fun p hp => ?_⟩)
      (fun b ob _ _ hc q _ => z.keep b ob hc q) (fun b ob _ _ hc q _ => ⟨ob.slots, z.keep b ob hc q⟩) (fun _ _ _ _ n => n) (fun b ob hc q => ⟨ob, z.keep b ob hc q⟩)
      (fun _ _ q => q) (fun _ _ _ q => q) (fun b ps q => ⟨#[], by rw [q]; simp⟩) (fun m hm => ?_) (fun b u q => ?_) z.bare
    · rw [g.pn] at hp
      rw [List.mem_singleton.mp hp]
      exact Ne.symm (g.apart b hb).2.2.2.1
    · obtain ⟨ob, es, ep, ho, r⟩ := hm
      exact ⟨ob, es, ep, z.keep _ ob (fun hb => (g.apart _ hb).2.1 rfl) ho, r⟩
    · refine (I0.hok b u q).stay (fun c v hc y => z.keep c v ?_ y) (fun _ y => y) fun _ _ y => y
      rcases hc with y | y
      · rw [y]; exact nt b u q
      · exact nt c _ y
  refine J.pins_of fun p hp => ?_
  rcases List.mem_cons.mp hp with hp | hp
  · rw [hp]
    exact J.pin (a, go) (List.mem_append_right _ List.mem_cons_self)
  · obtain ⟨hb, e⟩ := of_pinsAt hp
    obtain ⟨o, e', d⟩ := z.there _ hb
    rw [e] at e'; cases e'
    exact ⟨e, hSH _ hb, (g.apart _ hb).2.1, (g.apart _ hb).2.2.2.2.2, d⟩
end
end GX
end

section
set_option Elab.async false
set_option linter.all false
set_option maxRecDepth 100000
set_option maxHeartbeats 2000000
namespace GX
open PySem PySem.Spec PyProof.Rows L2 GenW

/-- an item is handed out: its number i, its value y; N items in all; W: what holds ahead of the turn i; Yv: what holds of the item -/
def YG (X' : Cx) (S : List Addr) (a : Addr) (go : Obj) (fp : List Addr) (tn : Nat → Heap → Prop) (σ : L2.St) (N : Nat) (W : Nat → Hp → Prop) (Yv : Nat → V → Hp → Prop) : Protocol := fun n s₀ v s kap =>
  ∃ i y o H, i + (n + 1) = N ∧ RelV y v ∧ Inv X' ((a, go) :: pinsAt S s₀.heap) (σ ++ [o]) H s ∧ Yv i y H ∧ (∀ s'', Slept S s s'' → W (i + 1) H → kap (.send .none) s'')
def RG (X' : Cx) (S : List Addr) (a : Addr) (go : Obj) (σ : L2.St) (N : Nat) (W : Nat → Hp → Prop) (Qe : Hp → Prop) : GenEnd := fun n s₀ r s =>
  r = .ok .next ∧ (n = 0 ∧ ∃ o H, Inv X' ((a, go) :: pinsAt S s₀.heap) (σ ++ [o]) H s ∧ Qe H)
/-- the reading: by the turn -/
def GTurn (J : It) (te : TE) (σ : L2.St) (N : Nat) (W : Nat → Hp → Prop) (Yv : Nat → V → Hp → Prop) (Qe : Hp → Prop) : Prop :=
  ∀ i H, W i H → (i = N ∧ J.stop i H ∧ Qe H) ∨ (i < N ∧ J.go i H ∧ ∀ x H', J.yld i H x H' → te (σ ++ [some x]) H' fun y H3 => Yv i y H3)

section
variable {X' : Cx} {S : List Addr} {a it : Addr} {go : Obj} {fp : List Addr} {tn : Nat → Heap → Prop} {σ : L2.St} {N : Nat} {W : Nat → Hp → Prop} {Yv : Nat → V → Hp → Prop} {Qe : Hp → Prop} {J : It} {te : TE}
  {elt iter : Expr} {x : Str} {px gpos : Pos} {scope : Scope} {A : Around}
theorem loop_gen (g : GX1 X' S a fp) (hA : X'.A = A.deeper X'.env) (hcalm : X'.calm = true) (hN : X'.N.Nodup) (hlen : X'.N.length = σ.length + 1) (hx : X'.N[σ.length]? = some x) (hloc : X'.env.scope.names.lookup x = some .local) (hco : X'.env.scope.isCoroutine = false)
    (T : Turn X'.prog X'.w X'.K (.Name x px) J fp it tn) (hel : PE X' elt te) (hxe : X'.xe = fun _ _ => False) (hex : X'.ex = fp) (hafp : a ∉ fp)
    (R : GTurn J te σ N W Yv Qe) :
    ∀ (n i : Nat) (s₀ s : Shared) (o : Option V) (H : Hp), i + n = N → Inv X' ((a, go) :: pinsAt S s₀.heap) (σ ++ [o]) H s → tn i s.heap → (∀ b ∈ fp, H b = none) → (∀ b ∈ S, ∃ o, s₀.heap.get? b = some o) → W i H →
      Seg (model X'.prog X'.w) A (RG X' S a go σ N W Qe) (YG X' S a go fp tn σ N W Yv) n s₀ (.compLoop (.GeneratorExp elt [⟨.Name x px, iter, [], 0⟩] scope gpos) 0 (.ref it) .none X'.env)
        ((model X'.prog X'.w).den (.compLoop (.GeneratorExp elt [⟨.Name x px, iter, [], 0⟩] scope gpos) 0 (.ref it) .none X'.env)) [] s := by
  have stat : ∀ {pl : List (Addr × Obj)} {σ' : L2.St} {H' : Hp} {s' : Shared}, Inv X' pl σ' H' s' → (∀ p ∈ pl, p.1 ∉ fp) → (∀ b ∈ fp, H' b = none) → ∀ b ∈ fp, FpOk X' pl H' b := fun {pl σ' H' s'} I' hpl hn b hb =>
    ⟨hn b hb, (I'.ok.exf b (by rw [hex]; exact hb)).1, I'.ok.exfs b (by rw [hex]; exact hb), .inl (by rw [hex]; exact hb), fun y c e => (I'.ok.exf b (by rw [hex]; exact hb)).2 y c e, fun p hp z => by
      rw [g.pn] at hp
      exact hpl p hp (by rw [z]; exact hb)⟩
  have plo : ∀ {h : Heap}, ∀ p ∈ (a, go) :: pinsAt S h, p.1 ∉ fp := fun {h} p hp => by
    rcases List.mem_cons.mp hp with hp | hp
    · rw [hp]; exact hafp
    · exact (g.apart _ (of_pinsAt hp).1).2.2.2.2.1
  have xeF : ∀ {α : Type} {m : Sem α} {Q Q' : α → Shared → Prop} {E : Value → Shared → Prop} {s : Shared}, wpAny (model X'.prog X'.w) X'.A m Q X'.xe s → (∀ b s, Q b s → Q' b s) → wpAny (model X'.prog X'.w) X'.A m Q' E s := fun h hQ => by
    rw [hxe] at h
    exact thnF h hQ
  intro n
  induction n with
  | zero =>
    intro i s₀ s o H hi I st nfp hS w
    show Seg _ A _ _ _ s₀ _ ((compTurn (.GeneratorExp elt [⟨.Name x px, iter, [], 0⟩] scope gpos) 0 (.ref it) .none X'.env).onRaise (leaving X'.env)) [] s
    rw [compTurn_gen, Sem.onRaise_eq_wrap]
    refine seg_bind_wrap (wpAny_standAt ?_)
    rcases R i H w with ⟨ei, stop, hq⟩ | ⟨lt, _⟩
    · refine seg_bind_wrap ?_
      rw [over_loop_gen, ← hA]
      refine thnF (T.done X' rfl rfl rfl hcalm i _ s _ H (fun _ _ => False) I (stat I plo nfp) st stop) fun r s1 ⟨hr, I1⟩ => ?_
      subst hr
      exact seg_end (.ok .next) ⟨rfl, rfl, o, H, I1, hq⟩
    · omega
  | succ n ih =>
    intro i s₀ s o H hi I st nfp hS w
    show Seg _ A _ _ _ s₀ _ ((compTurn (.GeneratorExp elt [⟨.Name x px, iter, [], 0⟩] scope gpos) 0 (.ref it) .none X'.env).onRaise (leaving X'.env)) [] s
    rw [compTurn_gen, Sem.onRaise_eq_wrap]
    refine seg_bind_wrap (wpAny_standAt ?_)
    rcases R i H w with ⟨ei, stop, hq⟩ | ⟨lt, hgo, step⟩
    · omega
    · refine seg_bind_wrap ?_
      rw [over_loop_gen, ← hA]
      refine thnF (T.item X' rfl rfl rfl hcalm i _ s _ H (fun _ _ => False) I (stat I plo nfp) st hgo) fun r s1 ⟨u, hr, h1⟩ => ?_
      subst hr
      refine seg_bind_wrap ?_
      rw [over_loop_gen, ← hA]
      refine thnF h1 fun _ s2 ⟨v, H2, I2, r2, y2, st2, nfp2⟩ => ?_
      have I2' : Inv X' (((a, go) :: pinsAt S s₀.heap) ++ pinsAt fp s2.heap) (σ ++ [o]) H2 s2 := I2.pinned (stat I2 plo nfp2) (T.obj _ _ st2)
      refine seg_bind_wrap ?_
      rw [over_loop_gen, ← hA]
      have pg : PG X' (.Name x px) (gName σ.length) := pg_name hN hx (.inl hloc) (.inr hloc)
      have eset : (σ ++ [o]).set σ.length (some v) = σ ++ [some v] := by
        rw [List.set_append_right _ _ (Nat.le_refl _)]
        simp
      refine xeF (pg.run _ s2 _ H2 v u (fun σ' H' => σ' = σ ++ [some v] ∧ H' = H2) I2' r2 ⟨eset, rfl⟩) fun _ s3 ⟨σ3, H3, I3, e3, e3'⟩ => ?_
      subst e3
      subst e3'
      refine seg_bind_wrap ?_
      simp only [List.forIn_nil]
      refine wpAny_pure ?_
      simp only [if_true]
      have hy : ∀ v, yieldOut X'.env v = yieldValue v := fun v => by simp only [yieldOut, hco, Bool.false_eq_true, if_false]
      simp only [hy]
      rw [Sem.bind_eq_wrap', Sem.bind_eq_wrap', Sem.wrap_wrap, Sem.wrap_wrap]
      refine seg_wrap ?_
      rw [over_loop_gen, ← hA]
      refine xeF (hel.run _ s3 _ H3 _ I3 (step v H3 y2)) fun yv s4 ⟨y, H4, I4, r4, q4⟩ => ?_
      have pin4 : ∀ b ∈ fp, ∀ o, s2.heap.get? b = some o → s4.heap.get? b = some o ∧ H4 b = none := fun b hb o e =>
        let z := I4.pin (b, o) (List.mem_append_right _ (List.mem_append_right _ (mem_pinsAt hb e)))
        ⟨z.1, z.2.1⟩
      have I5 : Inv X' ((a, go) :: pinsAt S s₀.heap) (σ ++ [some v]) H4 s4 := I4.unpinned
      have st5 : tn (i + 1) s4.heap := T.keep _ _ _ st2 fun b hb o e => (pin4 b hb o e).1
      have nfp5 : ∀ b ∈ fp, H4 b = none := fun b hb => by
        obtain ⟨o, e, _⟩ := T.obj _ _ st2 b hb
        exact (pin4 b hb o e).2
      refine seg_at (seg_yield rfl rfl rfl ⟨i, y, some v, H4, hi, r4, I5, q4, fun s'' z w' => ?_⟩)
      have I6 := woken g I5 hS z
      refine seg_again rfl (ih (i + 1) s'' s'' (some v) H4 (by omega) I6 ?_ nfp5 (fun b hb => ?_) w')
      · refine T.keep _ _ _ st5 fun b hb o e => z.keep b o (fun hb' => (g.apart b hb').2.2.2.2.1 hb) e
      · obtain ⟨o, e, _⟩ := z.there b hb
        exact ⟨o, e⟩
theorem begin_gen (g : GX1 X' S a fp) (hA : X'.A = A.deeper X'.env) (hcalm : X'.calm = true) (hN : X'.N.Nodup) (hlen : X'.N.length = σ.length + 1) (hx : X'.N[σ.length]? = some x) (hloc : X'.env.scope.names.lookup x = some .local) (hco : X'.env.scope.isCoroutine = false)
    (T : Turn X'.prog X'.w X'.K (.Name x px) J fp it tn) (hel : PE X' elt te) (hxe : X'.xe = fun _ _ => False) (hex : X'.ex = fp) (hafp : a ∉ fp)
    (R : GTurn J te σ N W Yv Qe) (s₀ s : Shared) (o : Option V) (H : Hp) (I : Inv X' ((a, go) :: pinsAt S s₀.heap) (σ ++ [o]) H s) (st : tn 0 s.heap) (nfp : ∀ b ∈ fp, H b = none) (hS : ∀ b ∈ S, ∃ o, s₀.heap.get? b = some o) (w : W 0 H) :
    Seg (model X'.prog X'.w) A (RG X' S a go σ N W Qe) (YG X' S a go fp tn σ N W Yv) N s₀ (.compStart (.GeneratorExp elt [⟨.Name x px, iter, [], 0⟩] scope gpos) 0 (.ref it) .none X'.env)
      ((model X'.prog X'.w).den (.compStart (.GeneratorExp elt [⟨.Name x px, iter, [], 0⟩] scope gpos) 0 (.ref it) .none X'.env)) [] s := by
  have loop := loop_gen (A := A) (iter := iter) (scope := scope) (gpos := gpos) (go := go) g hA hcalm hN hlen hx hloc hco T hel hxe hex hafp R N 0 s₀ s o H (Nat.zero_add _) I st nfp hS w
  show Seg _ A _ _ _ s₀ _ ((compStart (.GeneratorExp elt [⟨.Name x px, iter, [], 0⟩] scope gpos) 0 (.ref it) .none X'.env).onRaise (leaving X'.env)) [] s
  unfold compStart
  rw [Sem.onRaise_eq_wrap]
  show Seg _ A _ _ _ s₀ _ ((ask >>= _).wrap _ _ _ _) [] s
  refine seg_bind_wrap (wpAny_askSetting ?_)
  split
  · exact seg_again rfl loop
  · first
      | exact seg_bind_wrap (wpAny_rule (seg_bind_wrap (wpAny_standAt (seg_bind_wrap (T.self _ 0 s _ _ st (seg_again rfl loop))))))
      | (refine seg_bind_wrap (wpAny_rule ?_); show Seg _ A _ _ _ s₀ _ ((standAt iter.pos >>= _).wrap _ _ _ _) [] s; exact seg_bind_wrap (wpAny_standAt (seg_bind_wrap (T.self _ 0 s _ _ st (seg_again rfl loop)))))
end
end GX
end

section
set_option Elab.async false
set_option linter.all false
set_option maxRecDepth 100000
set_option maxHeartbeats 2000000
namespace GX
open PySem PySem.Spec PyProof.Rows L2 GenW

/-- a generator that has been made and not begun: its object a (obj go), its number g; s4: the state behind the making of its code, s5: now -/
structure Made (X : Cx) (pins : List (Addr × Obj)) (σ : L2.St) (scope : Scope) (x : Str) (elt iter : Expr) (px gpos : Pos) (H : Hp) (J : It) (s4 s5 : Shared) (a it : Addr) (g : Nat) (go : Obj) (code : Value) (fp : List Addr) (tn : Nat → Heap → Prop) : Prop where
  inv : Inv X pins σ H s4
  gen : s5.heap.IsGen a g
  lim : s5.heap.NoLimit
  sz : s4.heap.objs.size < a
  sz5 : s5.heap.objs.size = a + 1
  fresh : s5.gens[g]? = some (.fresh (.compStart (.GeneratorExp elt [⟨.Name x px, iter, [], 0⟩] scope gpos) 0 (.ref it) .none (genEnv scope (cloFrom X.env.cells scope.names []) s4.heap.objs.size code builtinsNs X.env)))
  bare : AllBare s5.gens
  os : s5.os = s4.os
  keep : ∀ b o, s4.heap.get? b = some o → s5.heap.get? b = some o
  ns : s5.heap.Ns s4.heap.objs.size (fun y => if y = ".0" then some (.ref it) else none)
  fpo : ∀ b ∈ fp, FpOk X pins H b ∧ b < s4.heap.objs.size
  turn : Turn X.prog X.w X.K (.Name x px) J fp it tn
  st : tn 0 s4.heap
  obj : s5.heap.get? a = some go
  objd : ∀ v, go.data ≠ .cell v

section
variable {X : Cx} {pins : List (Addr × Obj)} {σ : L2.St} {H : Hp} {s : Shared}
theorem make_gen {c P : Addr} {elt iter : Expr} {x : Str} {px gpos : Pos} {scope : Scope} {wi : TI} {Q' : Value → Shared → Prop} {R : It → Hp → Prop}
    (hh : X.A.handled = none) (hd : X.A.depth < recursionLimit) (TB : GxR.TabB X.base X.mg c P) (hcode : X.env.code = .ref c) (ok : GOk X.N X.env.scope scope x) (hi : PI X (.Name x px) iter wi)
    (hs : ∀ v, genFold iter X.env v = pure v) (I : Inv X pins σ H s) (h : wi σ H fun J H1 => GxR.TabG H1 P ∧ R J H1)
    (hQ : ∀ J H1 H2 s4 s5 a it g go code fp tn, R J H1 → GxR.Tabbed P H1 H2 → Made X pins σ scope x elt iter px gpos H2 J s4 s5 a it g go code fp tn → Q' (.ref a) s5) :
    wpAny (model X.prog X.w) X.A (eval (.GeneratorExp elt [⟨.Name x px, iter, [], 0⟩] scope gpos) X.env) Q' X.xe s := by
  have hfree : ∀ y ∈ scope.names, y.2 = .free → ∃ c, X.env.cells.lookup y.1 = some c := fun y hy e => by
    rcases ok.free y hy e with k | k
    · exact I.ok.has _ (.inl k)
    · exact I.ok.has _ (.inr k)
  refine wpAny_GeneratorExp_make ok.co (closure_ok hfree) ok.nocell ok.dot ok.kind hd ?_ hs
  refine thn (hi.run pins s σ H _ I h) fun xv s1 hx => thn hx fun itv s2 h2 => ?_
  obtain ⟨it, fp, tn, J, H1, e, I1, T, st2, f2, ⟨ps, hP, ht⟩, q1⟩ := h2
  subst e
  have hPs : s2.heap.get? P = some { cls := .none, data := .fields ps } := I1.hok P _ hP
  have cd : PySem.W.CodeHd s2.heap c P := TB.code.keeps fun b u e => I1.bk b u e
  have sz : ∀ b ∈ fp, b < s2.heap.objs.size := fun b hb => by
    obtain ⟨o, e, _⟩ := T.obj _ _ st2 b hb
    exact Heap.lt_size e
  refine ⟨I1.nolimit, ?_⟩
  have cont : ∀ (code : Value) (h3 : Heap) (tk : Nat) (ps' : Array Value), Heap.ExtBut P s2.heap h3 → h3.get? P = some { cls := .none, data := .fields ps' } → (∃ more, ps' = ps ++ more) → TriplesOk ps'.toList →
      wpAny (model X.prog X.w) X.A (builtinsFor X.env.globals X.env.builtins) (fun bi s₄ =>
        ∀ h', h'.Ns s₄.heap.objs.size (fun y => if y = ".0" then some (.ref it) else none) → Heap.SameBut s₄.heap.objs.size (s₄.heap.push { cls := .type "frame", data := .dict #[] }) h' →
          Q' (.ref h'.objs.size) { s₄ with
            gens := s₄.gens.push (.fresh (.compStart (.GeneratorExp elt [⟨.Name x px, iter, [], 0⟩] scope gpos) 0 (.ref it) .none (genEnv scope (cloFrom X.env.cells scope.names []) s₄.heap.objs.size code bi X.env))),
            toks := s₄.toks + 1 + 1 + 1,
            heap := h'.push { cls := .type "generator", data := .fields #[.int s₄.gens.size 0, .str "<genexpr>" (s₄.toks + 1), .str (X.env.qual ++ "<genexpr>") (s₄.toks + 1 + 1)] } }) X.xe { s2 with heap := h3, toks := tk } := by
    intro code h3 tk ps' hx hP3 hmore ht3
    obtain ⟨more, em⟩ := hmore
    obtain ⟨bm, ob, e1, e2, e3, e4, e5, e6, e7, e8⟩ := TB.bm
    have keep3 : ∀ b u, b ≠ P → s2.heap.get? b = some u → h3.get? b = some u := fun b u hb e => hx b u hb e
    have I3 := GxR.inv_tab (more := more) (h' := h3) (g' := s2.gens) (d' := s2.drawn) (t' := tk) I1 hP keep3 (by rw [← em]; exact hP3) I1.bare
    have I3' : Inv X pins σ (upd H1 P (.tbl (ps ++ more))) { s2 with heap := h3, toks := tk } := I3
    refine wpAny_builtinsFor (m := X.mg) (by rw [I1.ok.glob]; exact (I1.mod.glob.keeps I1.bk).extBut hx TB.gP) e1 e2 (keep3 _ _ e4 (I1.bk _ _ e5)) e6 e7 e8 ?_
    intro h' hn' hs'
    generalize hs4 : ({ s2 with heap := h3, toks := tk } : Shared) = s4 at I3' hn' hs' ⊢
    have h4 : s4.heap = h3 := by rw [← hs4]
    have hsz : h'.objs.size = s4.heap.objs.size + 1 := by rw [hs'.1, Heap.size_push]
    have keep' : ∀ b o, s4.heap.get? b = some o → h'.get? b = some o := fun b o e => hs'.extBut b o (Nat.ne_of_lt (Heap.lt_size e)) (Heap.get?_push_of_some _ e)
    have stay : ∀ b ∈ fp, ∀ o, s2.heap.get? b = some o → s4.heap.get? b = some o := fun b hb o e => by
      rw [h4]
      refine keep3 b o (fun z => ?_) e
      have := (f2 b hb).1
      rw [z, hP] at this
      cases this
    refine hQ J H1 (upd H1 P (.tbl (ps ++ more))) s4 _ h'.objs.size it s4.gens.size _ code fp tn q1 ⟨⟨ps ++ more, upd_same, by rw [← em]; exact ht3⟩, fun b hb => upd_ne hb⟩
      ⟨I3', ⟨_, _, _, Heap.get?_push_size _ rfl, rfl, rfl, rfl⟩, I3'.nolimit.keeps fun b o e => Heap.get?_push_of_some _ (keep' b o e), by omega, by rw [Heap.size_push], Array.getElem?_push_size .., AllBare.push (by rw [← hs4]; exact I1.bare) rfl, rfl,
        fun b o e => Heap.get?_push_of_some _ (keep' b o e), hn'.push _, fun b hb => ⟨⟨?_, (f2 b hb).2⟩, ?_⟩, T, T.keep _ _ _ st2 stay, Heap.get?_push_size _ rfl, fun v q => by cases q⟩
    · rw [upd_ne (fun z => by have := (f2 b hb).1; rw [z, hP] at this; cases this)]
      exact (f2 b hb).1
    · obtain ⟨o, e, _⟩ := T.obj _ _ st2 b hb
      exact Heap.lt_size (stay b hb o e)
  cases hf : codeAmong gpos ps.toList with
  | none =>
    refine wpAny_genexprCodeX hcode (cd.code hPs ht) (cd.tab hPs) hf fun c' h' tk hx hge hlt hco' _ htab' _ => ?_
    obtain ⟨o1, vs, f1, tf, fl, tg, inF, tx, tt, op, _, _, _, _, _, _, _, _, _, htr, _⟩ := hco'
    exact cont _ h' tk _ hx htab'.2 ⟨_, rfl⟩ htr
  | some cv =>
    refine wpAny_genexprCode_hit hcode (cd.code hPs ht) hf ?_
    exact cont cv s2.heap s2.toks ps (Heap.ExtBut.refl _ _) hPs ⟨#[], by simp⟩ ht

variable {scope : Scope} {x : Str} {elt iter : Expr} {px gpos : Pos} {J : It} {s4 s5 : Shared} {a it : Addr} {g : Nat} {go : Obj} {code : Value} {fp : List Addr} {tn : Nat → Heap → Prop} {te : TE} {N : Nat} {W : Nat → Hp → Prop} {Yv : Nat → V → Hp → Prop} {Qe : Hp → Prop}
theorem Made.ap (m : Made X pins σ scope x elt iter px gpos H J s4 s5 a it g go code fp tn) {A : Around} {S : List Addr} (hS : ∀ b ∈ S, a < b) :
    GX1 (gcx X scope x A s4 H s4.heap.objs.size code fp) S a fp := by
  have hsz := m.sz
  refine ⟨fun b hb => ?_, rfl⟩
  have hab := hS b hb
  have hb4 : s4.heap.objs.size < b := Nat.lt_trans hsz hab
  refine ⟨Nat.le_of_lt hb4, Nat.ne_of_gt hb4, fun y c e z => ?_, Nat.ne_of_gt hab, fun hm => ?_, fun hm => ?_⟩
  · rcases cloFrom_mem (PySem.mem_of_lookup e) with hm | ⟨h1, h2⟩
    · cases hm
    · cases hc : X.env.cells.lookup y with
      | none =>
        rw [hc] at h2
        have h2 : c = 0 := h2
        rw [← z, h2] at hb4
        exact absurd hb4 (Nat.not_lt_zero _)
      | some c0 =>
        rw [hc] at h2
        have h2 : c = c0 := h2
        obtain ⟨w, zz⟩ := m.inv.cell _ _ hc
        have := zz.lt
        rw [← h2, z] at this
        exact absurd (Nat.lt_trans this hb4) (Nat.lt_irrefl _)
  · exact absurd (Nat.lt_trans (m.fpo b hm).2 hb4) (Nat.lt_irrefl _)
  · have hm : b ∈ frs X.stack := hm
    obtain ⟨_, o, ho, _⟩ := m.inv.stack.mem hm
    exact absurd (Nat.lt_trans (Heap.lt_size ho) hb4) (Nat.lt_irrefl _)
/-- the first wake -/
theorem Made.seg (m : Made X pins σ scope x elt iter px gpos H J s4 s5 a it g go code fp tn) (ok : GOk X.N X.env.scope scope x) (hN : X.N.Nodup) (hxN : x ∉ X.N) {A : Around} (hh : A.handled = none) (hfr : A.frames = some X.stack)
    (hel : PE (gcx X scope x A s4 H s4.heap.objs.size code fp) elt te) {S : List Addr} (hS : ∀ b ∈ S, a < b) (R : GTurn J te σ N W Yv Qe) (w : W 0 H) (s6 : Shared) (hos : s6.os = s5.os) (hb : AllBare s6.gens)
    (kp : ∀ b o, s5.heap.get? b = some o → s6.heap.get? b = some o) (hSo : ∀ b ∈ S, ∃ o, s6.heap.get? b = some o ∧ ∀ v, o.data ≠ .cell v) :
    Seg (model X.prog X.w) A (RG (gcx X scope x A s4 H s4.heap.objs.size code fp) S a go σ N W Qe) (YG (gcx X scope x A s4 H s4.heap.objs.size code fp) S a go fp tn σ N W Yv) N s6
      (.compStart (.GeneratorExp elt [⟨.Name x px, iter, [], 0⟩] scope gpos) 0 (.ref it) .none (genEnv scope (cloFrom X.env.cells scope.names []) s4.heap.objs.size code builtinsNs X.env))
      ((model X.prog X.w).den (.compStart (.GeneratorExp elt [⟨.Name x px, iter, [], 0⟩] scope gpos) 0 (.ref it) .none (genEnv scope (cloFrom X.env.cells scope.names []) s4.heap.objs.size code builtinsNs X.env))) [] s6 := by
  have kp4 : ∀ b o, s4.heap.get? b = some o → s6.heap.get? b = some o := fun b o e => kp b o (m.keep b o e)
  have I0 : Inv (gcx X scope x A s4 H s4.heap.objs.size code fp) [] (σ ++ [none]) H s6 := gen_start m.inv ok m.fpo hh hfr (hos.trans m.os) hb kp4 (m.ns.keeps kp)
  have hsz := m.sz
  have ap := m.ap (A := A) hS
  have fre : ∀ b, s4.heap.objs.size ≤ b → H b = none := fun b hb => m.inv.hok.fresh hb
  have anf : a ∉ (gcx X scope x A s4 H s4.heap.objs.size code fp).fs := fun hm => by
    have hm : a ∈ frs X.stack := hm
    obtain ⟨_, o, ho, _⟩ := m.inv.stack.mem hm
    exact absurd (Nat.lt_trans (Heap.lt_size ho) hsz) (Nat.lt_irrefl _)
  have I : Inv (gcx X scope x A s4 H s4.heap.objs.size code fp) ((a, go) :: pinsAt S s6.heap) (σ ++ [none]) H s6 := I0.pins_of fun p hp => by
    rcases List.mem_cons.mp hp with hp | hp
    · rw [hp]
      exact ⟨kp _ _ m.obj, fre a (Nat.le_of_lt hsz), Nat.ne_of_gt hsz, anf, m.objd⟩
    · obtain ⟨hbS, e⟩ := of_pinsAt hp
      obtain ⟨o, e', d⟩ := hSo _ hbS
      rw [e] at e'; cases e'
      exact ⟨e, fre _ (ap.apart _ hbS).1, (ap.apart _ hbS).2.1, (ap.apart _ hbS).2.2.2.2.2, d⟩
  have hlen : X.N.length = σ.length := m.inv.len.symm
  refine begin_gen (X' := gcx X scope x A s4 H s4.heap.objs.size code fp) (go := go) (N := N) (W := W) (Yv := Yv) (Qe := Qe) ap rfl rfl ?_ ?_ ?_ ok.loc ok.co m.turn hel rfl rfl (fun hm => ?_) R s6 s6 none H I ?_ (fun b hb => (m.fpo b hb).1.1) (fun b hb => ?_) w
  · show (X.N ++ [x]).Nodup
    rw [List.nodup_append]
    exact ⟨hN, by simp, fun y hy z hz e => hxN (by rw [List.mem_singleton.mp hz] at e; rw [← e]; exact hy)⟩
  · show (X.N ++ [x]).length = _
    simp [hlen]
  · show (X.N ++ [x])[σ.length]? = some x
    rw [List.getElem?_append_right (by omega)]
    simp [hlen]
  · exact absurd (Nat.lt_trans (m.fpo a hm).2 hsz) (Nat.lt_irrefl _)
  · exact m.turn.keep _ _ _ m.st fun b _ o e => kp4 b o e
  · obtain ⟨o, e, _⟩ := hSo b hb
    exact ⟨o, e⟩
/-- back in the def -/
theorem Made.back (m : Made X pins σ scope x elt iter px gpos H J s4 s5 a it g go code fp tn) {A : Around} {pl : List (Addr × Obj)} {σ' : L2.St} {H' : Hp} {s6 s7 : Shared} (I : Inv (gcx X scope x A s4 H s4.heap.objs.size code fp) pl σ' H' s6)
    (hos : s7.os = s6.os) (hb : AllBare s7.gens) (kp : ∀ b o, s6.heap.get? b = some o → s7.heap.get? b = some o) : Inv X pins σ H' s7 :=
  m.inv.call' (ch := fp) (hos.trans I.os) (I.base.trans (Un.kept kp)) (I.hok.kept kp) hb fun b hb => ⟨(m.fpo b hb).1.2.2.2.1, (m.fpo b hb).1.2.1, (m.fpo b hb).1.2.2.2.2.1, (m.fpo b hb).1.2.2.2.2.2⟩
end
end GX
end

section
set_option Elab.async false
set_option linter.all false
set_option maxRecDepth 100000
set_option maxHeartbeats 2000000
namespace GX
open PySem PySem.Spec PyProof.Rows L2 GenW

section
variable {X : Cx} {pins : List (Addr × Obj)} {σ : L2.St} {H : Hp}
  {scope : Scope} {x : Str} {elt iter : Expr} {px gpos : Pos} {J : It} {s4 s5 : Shared} {a it : Addr} {g : Nat} {go : Obj} {code : Value} {fp : List Addr} {tn : Nat → Heap → Prop} {te : TE} {N : Nat} {W : Nat → Hp → Prop}

theorem entry_all : entryFor table "all" = some Builtin.«all» := PySem.F.entry_all

/-- one turn of all(..) -/
theorem all_turn (m : Made X pins σ scope x elt iter px gpos H J s4 s5 a it g go code fp tn) {A : Around} {Q : VK} {Rr : Result → Shared → Prop} (hh : A.handled = none) (hd : A.depth < recursionLimit)
    (hR : ∀ b s', EP X pins σ Q (.bool b) s' → Rr (.ok (.ret (.bool b))) s') (n : Nat) (s : Shared) (hg : s.heap.IsGen a g) (hl : s.heap.NoLimit)
    (h : ∃ gs, s.gens[g]? = some gs ∧ gs.Goes (model X.prog X.w) A.in1.in1 (RG (gcx X scope x A.in1.in1 s4 H s4.heap.objs.size code fp) [] a go σ N W (fun H3 => Q (.bl true) H3))
        (YG (gcx X scope x A.in1.in1 s4 H s4.heap.objs.size code fp) [] a go fp tn σ N W (fun i y H3 => ∃ b, y = .bl b ∧ if b = true then W (i + 1) H3 else Q (.bl false) H3)) n (.send .none) (s.setGen g .running))
    (again : ∀ (m : Nat) (s1 : Shared) (gs' : GenState), n = m + 1 → s1.heap.IsGen a g → s1.heap.NoLimit → g < s1.gens.size →
        gs'.Goes (model X.prog X.w) A.in1.in1 (RG (gcx X scope x A.in1.in1 s4 H s4.heap.objs.size code fp) [] a go σ N W (fun H3 => Q (.bl true) H3))
          (YG (gcx X scope x A.in1.in1 s4 H s4.heap.objs.size code fp) [] a go fp tn σ N W (fun i y H3 => ∃ b, y = .bl b ∧ if b = true then W (i + 1) H3 else Q (.bl false) H3)) m (.send .none) ((s1.setGen g gs').setGen g .running) →
        codeAny (model X.prog X.w) A (.builtin "all.loop" ⟨[.ref a], []⟩) Rr (s1.setGen g gs')) :
    codeAny (model X.prog X.w) A (.builtin "all.loop" ⟨[.ref a], []⟩) Rr s := by
  obtain ⟨gs, hgs, hgo⟩ := h
  have hgl : g < s.gens.size := (Array.getElem?_eq_some_iff.mp hgs).1
  refine codeAny_builtin PySem.F.entry_all_loop ?_
  rw [Around.under_plainId PySem.F.plain_all_loop _]
  show wpAny _ A.in1 (pyNext (.ref a) >>= _) _ _ s
  refine wpAny_bind (wpAny_gsz (n := g + 1) hgl (wpAny_pyNext_genexpQ (A := A.in1) hh hl hd hg hgs hgo (fun v s1 gs' hb hv => ?_) (fun s1 hp h' hk => ?_)))
  · intro hsz
    have hsz1 : g < s1.gens.size := by
      have q : (s1.setGen g gs').gens.size = s1.gens.size := setGen_size _ _ _
      have hsz' : g + 1 ≤ (s1.setGen g gs').gens.size := hsz
      omega
    obtain ⟨i, y, o, H3, hi, rv, I, ⟨b, ey, hy⟩, hkap⟩ := hv
    subst ey
    obtain rfl : v = Value.bool b := rv
    refine wpAny_bind (wpAny_holding (wpAny_truthy_bool ?_))
    refine wpAny_bind (wpAny_letGo ?_)
    have hp := I.pin (a, go) (List.mem_append_right _ List.mem_cons_self)
    have hg1 : s1.heap.IsGen a g := by
      obtain ⟨o5, nm5, qn5, ho5, r5⟩ := m.gen
      rw [m.obj] at ho5
      cases ho5
      exact ⟨go, nm5, qn5, hp.1, r5⟩
    have hb1 : AllBare (s1.setGen g gs').gens := allBare_setGen I.bare hb
    cases b with
    | true =>
      simp only [if_true] at hy ⊢
      have hz : Slept [] s1 ((s1.setGen g gs').setGen g .running) := ⟨rfl, allBare_setGen hb1 rfl, fun _ _ _ e => e, fun b z => by cases z⟩
      have k := hkap _ hz hy
      refine wpAny_pure ⟨plainId_quiet PySem.F.plain_all_loop _, ?_⟩
      cases n with
      | zero => exact False.elim k
      | succ m' => exact again m' s1 gs' rfl hg1 I.nolimit hsz1 k
    | false =>
      simp only [Bool.false_eq_true, if_false] at hy ⊢
      refine wpAny_bind (wpAny_rule (wpAny_pure (hR _ _ ?_)))
      exact ⟨.bl false, H3, m.back I rfl hb1 fun _ _ e => e, rfl, hy⟩
  · intro _
    obtain ⟨hn, o, H3, I, q⟩ := hp
    refine wpAny_bind (wpAny_rule (wpAny_pure (hR _ _ ?_)))
    exact ⟨.bl true, H3, m.back I rfl (allBare_setGen I.bare rfl) hk, rfl, q⟩
theorem all_loop (m : Made X pins σ scope x elt iter px gpos H J s4 s5 a it g go code fp tn) {A : Around} {Q : VK} {Rr : Result → Shared → Prop} (hh : A.handled = none) (hd : A.depth < recursionLimit)
    (hR : ∀ b s', EP X pins σ Q (.bool b) s' → Rr (.ok (.ret (.bool b))) s') :
    ∀ (n : Nat) (s : Shared), s.heap.IsGen a g → s.heap.NoLimit →
      (∃ gs, s.gens[g]? = some gs ∧ gs.Goes (model X.prog X.w) A.in1.in1 (RG (gcx X scope x A.in1.in1 s4 H s4.heap.objs.size code fp) [] a go σ N W (fun H3 => Q (.bl true) H3))
        (YG (gcx X scope x A.in1.in1 s4 H s4.heap.objs.size code fp) [] a go fp tn σ N W (fun i y H3 => ∃ b, y = .bl b ∧ if b = true then W (i + 1) H3 else Q (.bl false) H3)) n (.send .none) (s.setGen g .running)) →
      codeAny (model X.prog X.w) A (.builtin "all.loop" ⟨[.ref a], []⟩) Rr s := by
  intro n
  induction n with
  | zero => exact fun s hg hl h => all_turn m hh hd hR 0 s hg hl h fun m' _ _ e => by omega
  | succ n ih =>
    intro s hg hl h
    refine all_turn m hh hd hR (n + 1) s hg hl h fun m' s1 gs' e hg1 hl1 hsz hgo => ?_
    obtain rfl : n = m' := by omega
    exact ih (s1.setGen g gs') hg1 hl1 ⟨gs', setGen_at hsz, hgo⟩
end

/-! ### all(elt for x in iter) -/
section
variable {X : Cx}
def tAllG (P : Addr) (wi : TI) (te : TE) : TE := fun σ H Q => wi σ H fun J H1 => GxR.TabG H1 P ∧ ∀ H2, GxR.Tabbed P H1 H2 → ∃ (N : Nat) (W : Nat → Hp → Prop), W 0 H2 ∧
  GTurn J te σ N W (fun i y H3 => ∃ b, y = .bl b ∧ if b = true then W (i + 1) H3 else Q (.bl false) H3) (fun H3 => Q (.bl true) H3)
theorem pe_allG {c P : Addr} {elt iter : Expr} {x : Str} {px p pos gpos : Pos} {scope : Scope} {wi : TI} {te : TE} {k : Nat}
    (hr : Room (k + 2) X.A) (hg : Gl X "all") (hm : X.mg "all" = none) (TB : GxR.TabB X.base X.mg c P) (hcode : X.env.code = .ref c) (hN : X.N.Nodup) (hfr : X.A.frames = some X.stack) (ok : GOk X.N X.env.scope scope x) (hxN : x ∉ X.N) (hi : PI X (.Name x px) iter wi)
    (hel : ∀ (A : Around) (s : Shared) (H : Hp) (C : Addr) (code : Value) (fp : List Addr), Room k (gcx X scope x A s H C code fp).A → PE (gcx X scope x A s H C code fp) elt te)
    (hs : ∀ v, genFold iter X.env v = pure v := by intro _; rfl)
    (he : starEach [.GeneratorExp elt [⟨.Name x px, iter, [], 0⟩] scope gpos] X.env = (false, eval (.GeneratorExp elt [⟨.Name x px, iter, [], 0⟩] scope gpos) X.env) :: starEach [] X.env := by rfl) :
    PE X (.Call (.Name "all" p) [.GeneratorExp elt [⟨.Name x px, iter, [], 0⟩] scope gpos] [] pos) (tAllG P wi te) := by
  refine ⟨fun pins s σ H Q I h => ?_⟩
  refine wpAny_Call_Name_kw (ld_blt I hg hm (show bootBuiltins "all" = some (.builtin "all") by decide +kernel) ?_)
  refine PyProof.Rows.callWith_builtin1 ?_ he (by rfl)
  rw [he]
  show wpAny _ _ (spliced ((false, eval (.GeneratorExp elt [⟨.Name x px, iter, [], 0⟩] scope gpos) X.env) :: backTo pos (starEach [] X.env))) _ _ s
  refine Calls.spliced_cons (make_gen hr.hd hr.depth TB hcode ok hi hs I h fun J H1 H2 s4 s5 a it g go code fp tn hR hT m => ?_)
  refine Calls.spliced_nil ?_
  obtain ⟨N, W, w0, R⟩ := hR H2 hT
  refine call_function_tree PySem.F.kind_all PySem.F.plain_all PySem.F.entry_all (PySem.F.args_all1 _) ?_
  unfold Builtin.«all»
  refine wpAny_bind (m := oneArg "all" _) (wpAny_pure ?_)
  refine wpAny_bind (wpAny_pyIter_gen m.gen ?_)
  refine wpAny_pure ⟨plainId_quiet PySem.F.plain_all_loop _, ?_⟩
  refine all_loop (N := N) (W := W) (Q := Q) (Rr := fun r s' => match r with | .ok (.ret v) => EP X pins σ Q v s' | .ok _ => False | .error e => X.xe e s') m hr.hd hr.depth (fun b s' h => h) N s5 m.gen m.lim ⟨_, m.fresh, rfl, ?_⟩
  refine m.seg ok hN hxN (A := X.A.in1.in1) hr.hd hfr (hel _ _ _ _ _ _ ?_) (S := []) (fun b z => by cases z) R w0 (s5.setGen g .running) rfl (allBare_setGen m.bare rfl) (fun _ _ e => e) (fun b z => by cases z)
  refine ⟨hr.hd, ?_, ?_⟩
  · have := hr.dp
    show X.A.depth + 1 + 3 * k + 5 < _
    omega
  · have := hr.un
    show X.A.units + 1 + 1 + 3 + 16 * k + 200 < _
    omega
end
end GX
end

section
set_option Elab.async false
set_option linter.all false
set_option maxRecDepth 100000
set_option maxHeartbeats 2000000
namespace GX
open PySem PySem.Spec PyProof.Rows L2 GenW

section
variable {X : Cx} {pins : List (Addr × Obj)} {σ : L2.St} {H : Hp}
  {scope : Scope} {x : Str} {elt iter : Expr} {px gpos : Pos} {J : It} {s4 s5 : Shared} {a it : Addr} {g : Nat} {go : Obj} {code : Value} {fp : List Addr} {tn : Nat → Heap → Prop} {te : TE} {W : Nat → Hp → Prop} {ys : List V} {Qe : Hp → Prop}

/-- one turn of filling the consumer's list at S -/
theorem ext_turn (m : Made X pins σ scope x elt iter px gpos H J s4 s5 a it g go code fp tn) {A : Around} {S : Addr} {res : Value} {Rr : Result → Shared → Prop} (hh : A.handled = none) (hd : A.depth < recursionLimit) (hz : ys.length ≤ sizeLine) (hSa : S ≠ a)
    (hR : ∀ s' acc c H', Inv X pins σ H' s' → s'.heap.get? S = some (lstObj acc c) → Vals ys acc.toList → Qe H' → Rr (.ok (.ret res)) s') (n : Nat) (s : Shared) (acc : Array Value) (c : Nat) (hg : s.heap.IsGen a g) (hl : s.heap.NoLimit)
    (eS : s.heap.get? S = some (lstObj acc c)) (hacc : Vals (ys.take (ys.length - n)) acc.toList) (hn : n ≤ ys.length)
    (h : ∃ gs, s.gens[g]? = some gs ∧ gs.Goes (model X.prog X.w) A.in1.in1 (RG (gcx X scope x A.in1.in1 s4 H s4.heap.objs.size code fp) [S] a go σ ys.length W Qe)
        (YG (gcx X scope x A.in1.in1 s4 H s4.heap.objs.size code fp) [S] a go fp tn σ ys.length W (fun i y H3 => ys[i]? = some y ∧ W (i + 1) H3)) n (.send .none) (s.setGen g .running))
    (again : ∀ (m : Nat) (s2 : Shared) (acc : Array Value) (c : Nat), n = m + 1 → s2.heap.IsGen a g → s2.heap.NoLimit → s2.heap.get? S = some (lstObj acc c) → Vals (ys.take (ys.length - m)) acc.toList →
        (∃ gs, s2.gens[g]? = some gs ∧ gs.Goes (model X.prog X.w) A.in1.in1 (RG (gcx X scope x A.in1.in1 s4 H s4.heap.objs.size code fp) [S] a go σ ys.length W Qe)
          (YG (gcx X scope x A.in1.in1 s4 H s4.heap.objs.size code fp) [S] a go fp tn σ ys.length W (fun i y H3 => ys[i]? = some y ∧ W (i + 1) H3)) m (.send .none) (s2.setGen g .running)) →
        codeAny (model X.prog X.w) A (.builtin "list.extend.loop" ⟨[.ref S, .ref a, res], []⟩) Rr s2) :
    codeAny (model X.prog X.w) A (.builtin "list.extend.loop" ⟨[.ref S, .ref a, res], []⟩) Rr s := by
  obtain ⟨gs, hgs, hgo⟩ := h
  have hgl : g < s.gens.size := (Array.getElem?_eq_some_iff.mp hgs).1
  have hasz : acc.size = ys.length - n := by
    have e1 := hacc.length
    have e2 : acc.toList.length = acc.size := by simp
    rw [List.length_take] at e1
    omega
  refine codeAny_builtin PySem.F.entry_extend_loop ?_
  rw [Around.under_plainId PySem.F.plain_extend_loop _]
  show wpAny _ A.in1 (pyNext (.ref a) >>= _) _ _ s
  refine wpAny_bind (wpAny_gsz (n := g + 1) hgl (wpAny_pyNext_genexpQ (A := A.in1) hh hl hd hg hgs hgo (fun v s1 gs' hb hv => ?_) (fun s1 hp h' hk => ?_)))
  · intro hsz
    have hsz1 : g < s1.gens.size := by
      have q : (s1.setGen g gs').gens.size = s1.gens.size := setGen_size _ _ _
      have hsz' : g + 1 ≤ (s1.setGen g gs').gens.size := hsz
      omega
    obtain ⟨i, y, o, H3, hi, rv, I, ⟨hy, hw⟩, hkap⟩ := hv
    have hlt : i < ys.length := (List.getElem?_eq_some_iff.mp hy).1
    have hp := I.pin (a, go) (List.mem_append_right _ List.mem_cons_self)
    have pS := I.pin (S, lstObj acc c) (List.mem_append_right _ (List.mem_cons_of_mem _ (mem_pinsAt List.mem_cons_self eS)))
    have eS1 : s1.heap.get? S = some (lstObj acc c) := pS.1
    have hg1 : s1.heap.IsGen a g := by
      obtain ⟨o5, nm5, qn5, ho5, r5⟩ := m.gen
      rw [m.obj] at ho5
      cases ho5
      exact ⟨go, nm5, qn5, hp.1, r5⟩
    have hb1 : AllBare (s1.setGen g gs').gens := allBare_setGen I.bare hb
    have hSn : ∀ b ∈ ([S] : List Addr), b = S := fun b z => List.mem_singleton.mp z
    have keep3 : ∀ b o, b ≠ S → s1.heap.get? b = some o → (s1.heap.update S (Obj.mapSeq (·.push v))).get? b = some o := fun b o hbS e => (Heap.get?_update_other _ _ (Ne.symm hbS)).trans e
    have eS2 := Heap.get?_update_self (Obj.mapSeq (·.push v)) eS1 rfl
    have hz2 : Slept [S] s1 (({ s1.setGen g gs' with heap := s1.heap.update S (Obj.mapSeq (·.push v)) } : Shared).setGen g .running) := ⟨rfl, allBare_setGen (s := { s1.setGen g gs' with heap := _ }) hb1 rfl, fun b o hb e => keep3 b o (fun z => hb (by rw [z]; exact List.mem_cons_self)) e, fun b hb => by
      rw [hSn b hb]
      exact ⟨_, eS2, fun v q => by cases q⟩⟩
    have k := hkap _ hz2 hw
    cases n with
    | zero => exact False.elim k
    | succ m' =>
      have hi2 : i = ys.length - (m' + 1) := by omega
      show wpAny _ A.in1 (updateSeq S (·.push v) >>= _) _ _ _
      refine wpAny_bind ?_
      refine wpAny_updateSeq eS1 rfl (wpAny_pure ⟨plainId_quiet PySem.F.plain_extend_loop _, ?_⟩) (by omega) (by show (acc.push v).size ≤ sizeLine + 1; rw [Array.size_push]; omega)
      refine again m' { s1.setGen g gs' with heap := s1.heap.update S (Obj.mapSeq (·.push v)) } (acc.push v) _ rfl ?_ ?_ eS2 ?_ ⟨gs', setGen_at hsz1, k⟩
      · obtain ⟨o', nm, qn, ho, r⟩ := hg1
        exact ⟨o', nm, qn, keep3 a o' (Ne.symm hSa) ho, r⟩
      · have hl1 := I.nolimit
        obtain ⟨mc, hns, hnn⟩ := hl1
        refine ⟨mc, hns.at' fun o e => keep3 _ o (fun z => ?_) e, hnn⟩
        obtain ⟨o2, es, ep, ho2, hd2, _⟩ := hns
        rw [z, eS1] at ho2
        cases ho2
        cases hd2
      · have e1 : ys.take (ys.length - m') = ys.take (ys.length - (m' + 1)) ++ [y] := by
          rw [show ys.length - m' = (ys.length - (m' + 1)) + 1 by omega, List.take_add_one, ← hi2, hy]
          rfl
        rw [e1, Array.toList_push]
        exact hacc.append (.cons rv .nil)
  · intro _
    obtain ⟨hn0, o, H3, I, q⟩ := hp
    have pS := I.pin (S, lstObj acc c) (List.mem_append_right _ (List.mem_cons_of_mem _ (mem_pinsAt List.mem_cons_self eS)))
    refine wpAny_pure (hR _ acc c H3 (m.back I rfl (allBare_setGen I.bare rfl) hk) (hk _ _ pS.1) ?_ q)
    subst hn0
    rw [Nat.sub_zero, List.take_length] at hacc
    exact hacc
theorem ext_loop (m : Made X pins σ scope x elt iter px gpos H J s4 s5 a it g go code fp tn) {A : Around} {S : Addr} {res : Value} {Rr : Result → Shared → Prop} (hh : A.handled = none) (hd : A.depth < recursionLimit) (hz : ys.length ≤ sizeLine) (hSa : S ≠ a)
    (hR : ∀ s' acc c H', Inv X pins σ H' s' → s'.heap.get? S = some (lstObj acc c) → Vals ys acc.toList → Qe H' → Rr (.ok (.ret res)) s') :
    ∀ (n : Nat) (s : Shared) (acc : Array Value) (c : Nat), s.heap.IsGen a g → s.heap.NoLimit → s.heap.get? S = some (lstObj acc c) → Vals (ys.take (ys.length - n)) acc.toList → n ≤ ys.length →
      (∃ gs, s.gens[g]? = some gs ∧ gs.Goes (model X.prog X.w) A.in1.in1 (RG (gcx X scope x A.in1.in1 s4 H s4.heap.objs.size code fp) [S] a go σ ys.length W Qe)
        (YG (gcx X scope x A.in1.in1 s4 H s4.heap.objs.size code fp) [S] a go fp tn σ ys.length W (fun i y H3 => ys[i]? = some y ∧ W (i + 1) H3)) n (.send .none) (s.setGen g .running)) →
      codeAny (model X.prog X.w) A (.builtin "list.extend.loop" ⟨[.ref S, .ref a, res], []⟩) Rr s := by
  intro n
  induction n with
  | zero => exact fun s acc c hg hl eS hacc hn h => ext_turn m hh hd hz hSa hR 0 s acc c hg hl eS hacc hn h fun m' _ _ _ e => absurd e (by omega)
  | succ n ih =>
    intro s acc c hg hl eS hacc hn h
    refine ext_turn m hh hd hz hSa hR (n + 1) s acc c hg hl eS hacc hn h fun m' s2 acc2 c2 e hg2 hl2 eS2 hacc2 h2 => ?_
    obtain rfl : n = m' := by omega
    exact ih s2 acc2 c2 hg2 hl2 eS2 hacc2 (by omega) h2

/-- all items collected -/
theorem collect_gen (m : Made X pins σ scope x elt iter px gpos H J s4 s5 a it g go code fp tn) {A : Around} {E : Value → Shared → Prop} {Q : List Value → Shared → Prop} {k : Nat} (hr : Room (k + 1) A.in1.in1) (hfr : A.frames = some X.stack) (hz : ys.length ≤ sizeLine)
    (ok : GOk X.N X.env.scope scope x) (hN : X.N.Nodup) (hxN : x ∉ X.N) (hel : ∀ (A : Around), Room k (gcx X scope x A s4 H s4.heap.objs.size code fp).A → PE (gcx X scope x A s4 H s4.heap.objs.size code fp) elt te)
    (R : GTurn J te σ ys.length W (fun i y H3 => ys[i]? = some y ∧ W (i + 1) H3) Qe) (w : W 0 H)
    (hQ : ∀ s' us H', Inv X pins σ H' s' → Vals ys us → Qe H' → Q us s') :
    wpAny (model X.prog X.w) A (collect (.ref a)) Q E s5 := by
  have ha : a < s5.heap.objs.size := Nat.lt_of_lt_of_eq (Nat.lt_succ_self a) m.sz5.symm
  have hSa : s5.heap.objs.size ≠ a := Nat.ne_of_gt ha
  have hT : ∀ {h : Heap}, (∀ b o, s5.heap.get? b = some o → h.get? b = some o) → h.IsGen a g := fun q => m.gen.keeps q
  unfold collect
  refine wpAny_bind (wpAny_runValue (codeAny_builtin PySem.F.entry_proto_collect ?_))
  rw [Around.under_plainId PySem.F.plain_proto_collect _]
  show wpAny _ A.in1 (newList [] >>= fun l => again (.builtin "list.__iadd__" ⟨[l, .ref a], []⟩)) _ _ s5
  refine wpAny_bind (wpAny_newObj_type ?_ (by show 0 ≤ sizeLine; decide))
  refine wpAny_pure ⟨plainId_quiet PySem.F.plain_list_iadd _, codeAny_builtin PySem.F.entry_list_iadd ?_⟩
  rw [Around.under_plainId PySem.F.plain_list_iadd _]
  show wpAny _ A.in1 (Builtin.List.listExtendWith (.ref s5.heap.objs.size) (.ref a) (.ref s5.heap.objs.size)) _ _ _
  unfold Builtin.List.listExtendWith
  have k1 : ∀ b o, s5.heap.get? b = some o → (s5.heap.push { cls := .type "list", data := .seq ([] : List Value).toArray }).get? b = some o := fun b o e => Heap.get?_push_of_some _ e
  refine wpAny_bind (wpAny_typeOf (Heap.IsGen.typeIs (s := { s5 with heap := _ }) (hT k1)) ?_)
  have h1 : Builtin.List.listSameRef (.ref s5.heap.objs.size) (.ref a) = false := by simp [Builtin.List.listSameRef, hSa]
  have h2 : (Value.type "generator" == Value.type "list") = false := by decide
  have h3 : (Value.type "generator" == Value.type "tuple") = false := by decide
  simp only [h1, h2, h3, Bool.or_false, Bool.false_eq_true, if_false]
  refine wpAny_bind (wpAny_pyIter_gen (s := { s5 with heap := _ }) (hT k1) ?_)
  refine wpAny_bind (wpAny_holding ?_)
  unfold Builtin.List.listLengthHint
  refine wpAny_bind (wpAny_specialOf (Heap.IsGen.typeIs (s := { s5 with heap := _ }) (hT k1)) PySem.F.gen_no_len ?_)
  show wpAny _ A.in1 (specialOf (Value.ref a) (Str.ofString "__length_hint__") >>= _) _ _ _
  refine wpAny_bind (wpAny_specialOf (Heap.IsGen.typeIs (s := { s5 with heap := _ }) (hT k1)) PySem.F.gen_no_hint ?_)
  refine wpAny_pure ?_
  show wpAny _ A.in1 (rule "list.extend.makes-room" >>= fun _ => Builtin.List.listTouch (.ref s5.heap.objs.size) >>= fun _ =>
    again (.builtin "list.extend.loop" ⟨[.ref s5.heap.objs.size, .ref a, .ref s5.heap.objs.size], []⟩)) _ _ _
  refine wpAny_bind (wpAny_rule ?_)
  have hS1 : (s5.heap.push { cls := .type "list", data := .seq ([] : List Value).toArray }).get? s5.heap.objs.size = some { cls := .type "list", data := .seq ([] : List Value).toArray } := Heap.get?_push_size _ rfl
  refine wpAny_bind ?_
  show wpAny _ A.in1 (updateSeq s5.heap.objs.size (·.push .none) >>= fun _ => updateSeq s5.heap.objs.size (·.pop)) _ _ _
  refine wpAny_bind (wpAny_updateSeq hS1 rfl ?_)
  have hS2 := Heap.get?_update_self (Obj.mapSeq (·.push Value.none)) hS1 rfl
  refine wpAny_updateSeq hS2 rfl ?_
  have hS3 := Heap.get?_update_self (Obj.mapSeq (·.pop)) hS2 rfl
  have up : ∀ (h : Heap) (f : Obj → Obj), (∀ b o, s5.heap.get? b = some o → h.get? b = some o) → ∀ b o, s5.heap.get? b = some o → (h.update s5.heap.objs.size f).get? b = some o := fun h f q b o e =>
    (Heap.get?_update_other _ _ (Ne.symm (Nat.ne_of_lt (Heap.lt_size e)))).trans (q b o e)
  have k3 := up _ (Obj.mapSeq (·.pop)) (up _ (Obj.mapSeq (·.push Value.none)) k1)
  refine wpAny_pure ⟨plainId_quiet PySem.F.plain_extend_loop _, ext_loop (ys := ys) (W := W) (Qe := Qe) m (A := A) hr.hd (by have h : A.depth + 3 * (k + 1) + 5 < recursionLimit := hr.dp; omega) hz hSa (fun s' acc c H' I eS hv q => ?_) ys.length _ #[] _ (hT k3) (m.lim.keeps k3) hS3 (by rw [Nat.sub_self]; exact .nil) (Nat.le_refl _) ⟨_, m.fresh, rfl, ?_⟩⟩
  · show wpAny _ A (load s5.heap.objs.size >>= _) _ _ s'
    refine wpAny_bind (wpAny_load eS ?_)
    exact wpAny_pure (hQ s' _ H' I hv q)
  · refine m.seg ok hN hxN (A := A.in1.in1) hr.hd hfr (hel _ ?_) (S := [s5.heap.objs.size]) (fun b z => by rw [List.mem_singleton.mp z]; exact ha) R w _ rfl (allBare_setGen (s := { s5 with heap := _ }) m.bare rfl) k3 (fun b z => by rw [List.mem_singleton.mp z]; exact ⟨_, hS3, fun v q => by cases q⟩)
    exact hr.deeper _
end
end GX
end

section
set_option Elab.async false
set_option linter.all false
set_option maxRecDepth 100000
set_option maxHeartbeats 2000000
namespace GX
open PySem PySem.Spec PyProof.Rows L2 GenW
open AutoSeq1 (wpAny_loadPart')
section
variable {X : Cx}
theorem room4 {k : Nat} {A : Around} (r : Room (k + 2) A) : Room (k + 1) A.in1.in1.in1.in1 :=
  ⟨r.hd, by have h : A.depth + 3 * (k + 2) + 5 < recursionLimit := r.dp; show A.depth + 3 * (k + 1) + 5 < _; omega, by have h : A.units + 16 * (k + 2) + 200 < cLine := r.un; show A.units + 1 + 1 + 1 + 1 + 16 * (k + 1) + 200 < _; omega⟩
theorem room3 {k : Nat} {A : Around} (r : Room (k + 2) A) : Room (k + 1) A.in1.in1.in1 :=
  ⟨r.hd, by have h : A.depth + 3 * (k + 2) + 5 < recursionLimit := r.dp; show A.depth + 3 * (k + 1) + 5 < _; omega, by have h : A.units + 16 * (k + 2) + 200 < cLine := r.un; show A.units + 1 + 1 + 1 + 16 * (k + 1) + 200 < _; omega⟩
/-- what is handed out, in order, is ys; then Qe -/
def tSeqG (P : Addr) (wi : TI) (te : TE) (Qf : List V → Hp → Prop) : L2.St → Hp → Prop := fun σ H => wi σ H fun J H1 => GxR.TabG H1 P ∧ ∀ H2, GxR.Tabbed P H1 H2 → ∃ (ys : List V) (W : Nat → Hp → Prop), ys.length ≤ sizeLine ∧ W 0 H2 ∧
  GTurn J te σ ys.length W (fun i y H3 => ys[i]? = some y ∧ W (i + 1) H3) (Qf ys)
def tTupG (P : Addr) (wi : TI) (te : TE) : TE := fun σ H Q => tSeqG P wi te (fun ys H3 => ∀ p, H3 p = none → Q (.ref p) (upd H3 p (.tup ys))) σ H
/-- tuple(elt for x in iter) -/
theorem pe_tupG {c P : Addr} {elt iter : Expr} {x : Str} {px p pos gpos : Pos} {scope : Scope} {wi : TI} {te : TE} {k : Nat}
    (hr : Room (k + 2) X.A) (hg : Gl X "tuple") (hm : X.mg "tuple" = none) (TB : GxR.TabB X.base X.mg c P) (hcode : X.env.code = .ref c) (hN : X.N.Nodup) (hfr : X.A.frames = some X.stack) (ok : GOk X.N X.env.scope scope x) (hxN : x ∉ X.N) (hi : PI X (.Name x px) iter wi)
    (hel : ∀ (A : Around) (s : Shared) (H : Hp) (C : Addr) (code : Value) (fp : List Addr), Room k (gcx X scope x A s H C code fp).A → PE (gcx X scope x A s H C code fp) elt te)
    (hs : ∀ v, genFold iter X.env v = pure v := by intro _; rfl)
    (he : starEach [.GeneratorExp elt [⟨.Name x px, iter, [], 0⟩] scope gpos] X.env = (false, eval (.GeneratorExp elt [⟨.Name x px, iter, [], 0⟩] scope gpos) X.env) :: starEach [] X.env := by rfl) :
    PE X (.Call (.Name "tuple" p) [.GeneratorExp elt [⟨.Name x px, iter, [], 0⟩] scope gpos] [] pos) (tTupG P wi te) := by
  refine ⟨fun pins s σ H Q I h => ?_⟩
  refine wpAny_Call_Name_kw (ld_blt I hg hm (show bootBuiltins "tuple" = some (.type "tuple") by decide +kernel) ?_)
  refine PyProof.Rows.callWith_type1 ?_ he rfl
  rw [he]
  show wpAny _ _ (spliced ((false, eval (.GeneratorExp elt [⟨.Name x px, iter, [], 0⟩] scope gpos) X.env) :: backTo pos (starEach [] X.env))) _ _ s
  refine Calls.spliced_cons (make_gen hr.hd hr.depth TB hcode ok hi hs I h fun J H1 H2 s4 s5 a it g go code fp tn hR hT m => ?_)
  refine Calls.spliced_nil ?_
  obtain ⟨ys, W, hz, w0, R⟩ := hR H2 hT
  refine callType_codes (Q₁ := fun obj s₁ => s₁.TypeIs obj "tuple" ∧ EP X pins σ Q obj s₁) PySem.F.called_tuple (PySem.F.typeCall_tuple_1 _) PySem.F.entry_object_init ?_ fun obj s₁ h₁ =>
    ⟨h₁.1, PySem.F.args_object_init_2 obj _, object_init_meets PySem.F.called_tuple.init.lookup PySem.F.called_tuple.made (by decide) X.prog X.w X.A.in1 _ s₁ ⟨h₁.1, rfl, h₁.2⟩⟩
  refine codeAny_of_tree ?_
  show wpAny _ X.A.in1.in1 (do checkBuiltinCall "tuple.__new__" ⟨[.type "tuple", .ref a], []⟩; again (.builtin "tuple.__new__" ⟨[.type "tuple", .ref a], []⟩)) _ _ s5
  refine wpAny_bind (wpAny_of_eq (PySem.F.newCall_tuple_1 _) (wpAny_pure ⟨plainId_quiet PySem.F.plain_tuple_new _, codeAny_builtin PySem.F.entry_tuple_new ?_⟩))
  rw [Around.under_plainId PySem.F.plain_tuple_new _]
  have hsub := sub_tuple_self
  have hinit := init_tuple_lookup
  have hmh := madeHere_tuple
  have hTI : s5.TypeIs (.ref a) "generator" := Heap.IsGen.typeIs (s := s5) m.gen
  wp_walk using wpAny_typeOf hTI, collect_gen (ys := ys) (W := W) (k := k) m (A := X.A.in1.in1) (room4 hr) hfr hz ok hN hxN (fun A hA => hel A s4 H2 s4.heap.objs.size code fp hA) R w0
  intro s' us H' I' hv q
  show wpAny _ _ (Builtin.Tuple.tupleExact us.toArray >>= fun v => ret v) _ _ _
  unfold Builtin.Tuple.tupleExact
  refine wpAny_bind (wpAny_newObj_type ?_ (by have := hv.length; first | omega | (show us.toArray.size ≤ sizeLine; rw [List.size_toArray]; omega)))
  refine wpAny_pure ?_
  refine ⟨⟨_, Heap.get?_push_size _ rfl, rfl⟩, .ref s'.heap.objs.size, upd H' s'.heap.objs.size (.tup ys), I'.laid (t' := s'.toks) (fun b u e => Heap.get?_push_of_some _ e) (Nat.le_refl _) ?_, rfl, q _ (I'.hok.fresh (Nat.le_refl _))⟩
  exact ⟨hz, us, hv, ⟨_, Heap.get?_push_size _ rfl, rfl, _, rfl⟩⟩
/-- sep.join(elt for x in iter) -/
def tJoinG (P : Addr) (to : TE) (wi : TI) (te : TE) : TE := fun σ H Q => to σ H fun v H1 => ∃ sep : Str, v = .str sep ∧ tSeqG P wi te (fun ys H3 => ∃ ws : List Str, ys = ws.map V.str ∧ JoinOk sep ws = true ∧ Q (.str (Txt.join sep ws)) H3) σ H1
theorem strs_of : ∀ {ws : List Str} {us : List Value}, Vals (ws.map V.str) us → ∃ l : List (Str × Tok), strValues l = us ∧ l.map (·.1) = ws
  | [], _, r => by
    cases r
    exact ⟨[], rfl, rfl⟩
  | w :: ws, us, r => by
    cases r with
    | cons r1 r2 =>
      obtain ⟨t, rfl⟩ := r1
      obtain ⟨l, e1, e2⟩ := strs_of r2
      refine ⟨(w, t) :: l, ?_, ?_⟩
      · rw [← e1]; rfl
      · rw [← e2]; rfl
theorem pe_joinG {c P : Addr} {o elt iter : Expr} {x : Str} {px apos cpos gpos : Pos} {scope : Scope} {to : TE} {wi : TI} {te : TE} {k : Nat}
    (hr : Room (k + 2) X.A) (TB : GxR.TabB X.base X.mg c P) (hcode : X.env.code = .ref c) (hN : X.N.Nodup) (hfr : X.A.frames = some X.stack) (ok : GOk X.N X.env.scope scope x) (hxN : x ∉ X.N) (ho : PE X o to) (hi : PI X (.Name x px) iter wi)
    (hel : ∀ (A : Around) (s : Shared) (H : Hp) (C : Addr) (code : Value) (fp : List Addr), Room k (gcx X scope x A s H C code fp).A → PE (gcx X scope x A s H C code fp) elt te)
    (hs : ∀ v, genFold iter X.env v = pure v := by intro _; rfl) (hbase : attributeBase o "join" X.env (eval o X.env) = eval o X.env := by rfl)
    (hfew : ((backTo cpos (starEach [.GeneratorExp elt [⟨.Name x px, iter, [], 0⟩] scope gpos] X.env)).all (fun x => !x.1) && (backToKw cpos (keywordEach [] X.env)).all (fun x => x.1.isSome)
      && decide (([.GeneratorExp elt [⟨.Name x px, iter, [], 0⟩] scope gpos] : List Expr).length + ([] : List Keyword).length + (if ([] : List Keyword).isEmpty then 0 else 1) < 30)) = true := by rfl)
    (hline : (apos.endLine == cpos.line) = true := by rfl)
    (he : starEach [.GeneratorExp elt [⟨.Name x px, iter, [], 0⟩] scope gpos] X.env = (false, eval (.GeneratorExp elt [⟨.Name x px, iter, [], 0⟩] scope gpos) X.env) :: starEach [] X.env := by rfl)
    (hplain : (backTo cpos (starEach [] X.env)).any (·.1) = false := by rfl) :
    PE X (.Call (.Attribute o "join" apos) [.GeneratorExp elt [⟨.Name x px, iter, [], 0⟩] scope gpos] [] cpos) (tJoinG P to wi te) := by
  refine ⟨fun pins s σ H Q I h => ?_⟩
  refine wpAny_Call_method_late hbase hfew hline rfl (thn (ho.run pins s σ H _ I h) fun v s1 ⟨x', H1, I1, r1, sep, ex, q1⟩ => ?_)
  subst ex
  obtain ⟨tk, rfl⟩ := (show ∃ t, v = Value.str sep t from r1)
  refine ⟨"str", _, PySem.F.plainAttrs_str, PySem.F.slot_str_join, PySem.F.type_str_join, typeIs_str _ _ _, (fun _ e => nomatch e), ?_⟩
  rw [he]
  refine Calls.callWith_builtin (by show (false || (backTo cpos (starEach [] X.env)).any (·.1)) = false; rw [hplain] <;> rfl) (Calls.evalArgs_plain ?_)
  show wpAny _ _ (spliced ((false, eval (.GeneratorExp elt [⟨.Name x px, iter, [], 0⟩] scope gpos) X.env) :: backTo cpos (starEach [] X.env))) _ _ s1
  refine Calls.spliced_cons (make_gen hr.hd hr.depth TB hcode ok hi hs I1 q1 fun J H1 H2 s4 s5 a it g go code fp tn hR hT m => ?_)
  refine Calls.spliced_nil ?_
  obtain ⟨ys, W, hz, w0, R⟩ := hR H2 hT
  refine wpAny_call (codeAny_call_builtin PySem.F.slot_str_join.plain PySem.F.entry_str_join (PySem.F.slot_str_join.check _ _ _ _ _ _ _ _ (typeIs_str _ _ _) (PySem.F.args_str_join_2 _ _) ?_))
  show wpAny _ X.A.in1 (Builtin.«str.join» ⟨[.str sep tk, .ref a], []⟩) _ _ s5
  rw [join_tree_other]
  refine wpAny_bind (wpAny_typeOf (Heap.IsGen.typeIs (s := s5) m.gen) ?_)
  show wpAny _ X.A.in1 ((pyIter (.ref a)).tryCatch _ >>= fun it => collect it >>= fun items => joinTail sep items) _ _ s5
  refine wpAny_bind (wpAny_tryCatch (wpAny_pyIter_gen m.gen ?_))
  refine wpAny_bind (collect_gen (ys := ys) (W := W) (k := k) m (A := X.A.in1) (room3 hr) hfr hz ok hN hxN (fun A hA => hel A s4 H2 s4.heap.objs.size code fp hA) R w0 fun s' us H' I' hv q => ?_)
  obtain ⟨ws, ey, jok, q⟩ := q
  subst ey
  obtain ⟨l, hl, hlw⟩ := strs_of hv
  rw [← hl]
  have hok : JoinOk sep (l.map (·.1)) = true := by rw [hlw]; exact jok
  unfold JoinOk at hok
  rw [Bool.not_eq_true'] at hok
  have g0 : Gives (joinTail sep (strValues l)) (joinMade sep l) := by
    have g0 := gives_joinTail sep l hok
    cases l with
    | nil => exact g0
    | cons p r => cases r with
      | nil => exact g0
      | cons q r' => exact g0
  refine g0 X.prog X.w X.A (wants (EP X pins σ Q) X.xe) s' (post_join l ⟨joinFit_length hok, fun t' k' => ?_⟩)
  rw [hlw]
  exact ⟨.str _, H', I'.tok k', ⟨t', rfl⟩, q⟩

/-! ### the turns one uses -/
theorem turn_tup {K : PySem.W.Frag} {a : Addr} {xs : List V} {te : TE} {σ : L2.St} {Yv : Nat → V → Hp → Prop} {Qe : Hp → Prop} {N : Nat} (Pv : Nat → Hp → Prop) (hN : N = xs.length) (hl : ∀ i H, i ≤ xs.length → Pv i H → SqT K H a xs)
    (hs : ∀ i x H, xs[i]? = some x → Pv i H → te (σ ++ [some x]) H fun y H3 => Yv i y H3) (hd : ∀ H, Pv xs.length H → Qe H) : GTurn (Itt K a) te σ N (fun i H => i ≤ xs.length ∧ Pv i H) Yv Qe := by
  subst hN
  rintro i H ⟨hi, p⟩
  have q := hl i H hi p
  by_cases hlt : i < xs.length
  · refine .inr ⟨hlt, ⟨xs, xs[i], q, by simp [hlt]⟩, fun x H' y => ?_⟩
    obtain ⟨e, y⟩ := y
    subst e
    exact hs i x _ (y xs q) p
  · have e : i = xs.length := by omega
    subst e
    exact .inl ⟨rfl, ⟨xs, q, Nat.le_refl _⟩, hd H p⟩
theorem turn_lst {K : PySem.W.Frag} {a : Addr} {xs : List V} {te : TE} {σ : L2.St} {Yv : Nat → V → Hp → Prop} {Qe : Hp → Prop} {N : Nat} (Pv : Nat → Hp → Prop) (hN : N = xs.length) (hl : ∀ i H, i ≤ xs.length → Pv i H → SqL K H a xs)
    (hs : ∀ i x H, xs[i]? = some x → Pv i H → te (σ ++ [some x]) H fun y H3 => Yv i y H3) (hd : ∀ H, Pv xs.length H → Qe H) : GTurn (Itl K a) te σ N (fun i H => i ≤ xs.length ∧ Pv i H) Yv Qe := by
  subst hN
  rintro i H ⟨hi, p⟩
  have q := hl i H hi p
  by_cases hlt : i < xs.length
  · refine .inr ⟨hlt, ⟨xs, xs[i], q, by simp [hlt]⟩, fun x H' y => ?_⟩
    obtain ⟨e, y⟩ := y
    subst e
    exact hs i x _ (y xs q) p
  · have e : i = xs.length := by omega
    subst e
    exact .inl ⟨rfl, ⟨xs, q, Nat.le_refl _⟩, hd H p⟩
theorem turn_rng {lo : Int} {n N : Nat} {te : TE} {σ : L2.St} {Yv : Nat → V → Hp → Prop} {Qe : Hp → Prop} (Pv : Nat → Hp → Prop) (hN : N = n)
    (hs : ∀ i H, i < n → Pv i H → te (σ ++ [some (.int (lo + i))]) H fun y H3 => Yv i y H3) (hd : ∀ H, Pv n H → Qe H) : GTurn (Itr lo n) te σ N (fun i H => i ≤ n ∧ Pv i H) Yv Qe := by
  subst hN
  rintro i H ⟨hi, p⟩
  by_cases hlt : i < N
  · refine .inr ⟨hlt, hlt, fun x H' y => ?_⟩
    obtain ⟨e, y⟩ := y
    subst e y
    exact hs i _ hlt p
  · have e : i = N := by omega
    subst e
    exact .inl ⟨rfl, Nat.le_refl _, hd H p⟩
end
end GX
end

section
set_option linter.all false
set_option maxRecDepth 100000
/-! The mathematics of bodies: cells, bodies, what is inside; plain Lean. -/
namespace Ly
abbrev C3 := Int × Int × Int
def lt3 (a b : C3) : Prop := a.1 < b.1 ∨ (a.1 = b.1 ∧ (a.2.1 < b.2.1 ∨ (a.2.1 = b.2.1 ∧ a.2.2 < b.2.2)))
instance (a b : C3) : Decidable (lt3 a b) := by unfold lt3; infer_instance
theorem lt3_irrefl (a : C3) : ¬ lt3 a a := by unfold lt3; omega
theorem lt3_trans {a b c : C3} (h : lt3 a b) (k : lt3 b c) : lt3 a c := by unfold lt3 at *; omega
theorem lt3_asymm {a b : C3} (h : lt3 a b) : ¬ lt3 b a := by unfold lt3 at *; omega
theorem c3_ext {a b : C3} (h1 : a.1 = b.1) (h2 : a.2.1 = b.2.1) (h3 : a.2.2 = b.2.2) : a = b := by
  obtain ⟨x, y, z⟩ := a
  obtain ⟨x', y', z'⟩ := b
  simp only at h1 h2 h3
  rw [h1, h2, h3]
theorem lt3_tri {a b : C3} (h : ¬ lt3 a b) (n : a ≠ b) : lt3 b a := by
  have q : ¬ (a.1 = b.1 ∧ a.2.1 = b.2.1 ∧ a.2.2 = b.2.2) := fun ⟨h1, h2, h3⟩ => n (c3_ext h1 h2 h3)
  unfold lt3 at *
  omega
def Asc (l : List C3) : Prop := l.Pairwise lt3
theorem asc_cons {a : C3} {l : List C3} : Asc (a :: l) ↔ (∀ b ∈ l, lt3 a b) ∧ Asc l := List.pairwise_cons
theorem asc_ext : ∀ {l m : List C3}, Asc l → Asc m → (∀ c, c ∈ l ↔ c ∈ m) → l = m
  | [], [], _, _, _ => rfl
  | [], b :: m, _, _, h => absurd ((h b).mpr List.mem_cons_self) (by simp)
  | a :: l, [], _, _, h => absurd ((h a).mp List.mem_cons_self) (by simp)
  | a :: l, b :: m, hl, hm, h => by
    obtain ⟨h1, h2⟩ := asc_cons.mp hl
    obtain ⟨k1, k2⟩ := asc_cons.mp hm
    have e : a = b := by
      rcases List.mem_cons.mp ((h a).mp List.mem_cons_self) with e | e
      · exact e
      · rcases List.mem_cons.mp ((h b).mpr List.mem_cons_self) with e' | e'
        · exact e'.symm
        · exact absurd (h1 b e') (lt3_asymm (k1 a e))
    subst e
    rw [asc_ext h2 k2 fun c => ⟨fun hc => ?_, fun hc => ?_⟩]
    · rcases List.mem_cons.mp ((h c).mp (List.mem_cons_of_mem _ hc)) with e | e
      · subst e; exact absurd (h1 _ hc) (lt3_irrefl _)
      · exact e
    · rcases List.mem_cons.mp ((h c).mpr (List.mem_cons_of_mem _ hc)) with e | e
      · subst e; exact absurd (k1 _ hc) (lt3_irrefl _)
      · exact e
theorem asc_nodup {l : List C3} (h : Asc l) : l.Nodup := List.Pairwise.imp (fun {a b} q e => by subst e; exact lt3_irrefl _ q) h
/-- in order and each once: rising -/
theorem asc_of {l : List C3} (h : l.Pairwise fun a b => ¬ lt3 b a) (n : l.Nodup) : Asc l := by
  induction l with
  | nil => exact List.Pairwise.nil
  | cons a l ih =>
    obtain ⟨h1, h2⟩ := List.pairwise_cons.mp h
    obtain ⟨n1, n2⟩ := List.nodup_cons.mp n
    refine asc_cons.mpr ⟨fun b hb => ?_, ih h2 n2⟩
    exact lt3_tri (h1 b hb) fun e => n1 (e ▸ hb)
theorem asc_filter {l : List C3} {p : C3 → Bool} (h : Asc l) : Asc (l.filter p) := List.Pairwise.filter p h
theorem asc_map {l : List C3} {f : C3 → C3} (h : Asc l) (hf : ∀ a b, lt3 a b → lt3 (f a) (f b)) : Asc (l.map f) := List.Pairwise.map f hf h

/-- in the room -/
def InR (c : C3) : Prop := (0 ≤ c.1 ∧ c.1 ≤ 3) ∧ (0 ≤ c.2.1 ∧ c.2.1 ≤ 3) ∧ (0 ≤ c.2.2 ∧ c.2.2 ≤ 3)
instance (c : C3) : Decidable (InR c) := by unfold InR; infer_instance
def roomAt (k : Nat) : C3 := (((k : Int) / 16, (k : Int) / 4 % 4, (k : Int) % 4) : C3)
def room : List C3 := (List.range 64).map roomAt
theorem room_asc : Asc room := by
  have h : (List.range 64).Pairwise (· < ·) := List.pairwise_lt_range
  refine List.Pairwise.map roomAt ?_ (List.Pairwise.and_mem.mp h)
  intro a b ⟨ha, hb, hab⟩
  have ha := List.mem_range.mp ha
  have hb := List.mem_range.mp hb
  unfold lt3 roomAt
  simp only
  omega
theorem mem_room {c : C3} : c ∈ room ↔ InR c := by
  constructor
  · intro h
    obtain ⟨k, hk, e⟩ := List.mem_map.mp h
    have hk := List.mem_range.mp hk
    subst e
    unfold InR roomAt
    simp only
    omega
  · intro h
    obtain ⟨x, y, z⟩ := c
    unfold InR at h
    simp only at h
    refine List.mem_map.mpr ⟨(16 * x + 4 * y + z).toNat, List.mem_range.mpr (by omega), ?_⟩
    unfold roomAt
    refine c3_ext ?_ ?_ ?_ <;> simp only <;> omega

inductive Bd where
  | block (x y z a b c : Int)
  | cells (cs : List C3)
  | wth (p q : Bd)
  | common (p q : Bd)
  | less (p q : Bd)
  | moved (d : C3) (p : Bd)
  | turnX (p : Bd)
  | turnY (p : Bd)
  | turnZ (p : Bd)
/-- how many bodies -/
def nb : Bd → Nat
  | .block .. => 1
  | .cells _ => 1
  | .wth p q => 1 + nb p + nb q
  | .common p q => 1 + nb p + nb q
  | .less p q => 1 + nb p + nb q
  | .moved _ p => 1 + nb p
  | .turnX p => 1 + nb p
  | .turnY p => 1 + nb p
  | .turnZ p => 1 + nb p
/-- how deep within one another -/
def dp : Bd → Nat
  | .block .. => 1
  | .cells _ => 1
  | .wth p q => 1 + max (dp p) (dp q)
  | .common p q => 1 + max (dp p) (dp q)
  | .less p q => 1 + max (dp p) (dp q)
  | .moved _ p => 1 + dp p
  | .turnX p => 1 + dp p
  | .turnY p => 1 + dp p
  | .turnZ p => 1 + dp p
theorem nb_pos : ∀ b : Bd, 1 ≤ nb b
  | .block .. => Nat.le_refl _
  | .cells _ => Nat.le_refl _
  | .wth p q => by unfold nb; omega
  | .common p q => by unfold nb; omega
  | .less p q => by unfold nb; omega
  | .moved _ p => by unfold nb; omega
  | .turnX p => by unfold nb; omega
  | .turnY p => by unfold nb; omega
  | .turnZ p => by unfold nb; omega
theorem dp_pos : ∀ b : Bd, 1 ≤ dp b
  | .block .. => Nat.le_refl _
  | .cells _ => Nat.le_refl _
  | .wth p q => by unfold dp; omega
  | .common p q => by unfold dp; omega
  | .less p q => by unfold dp; omega
  | .moved _ p => by unfold dp; omega
  | .turnX p => by unfold dp; omega
  | .turnY p => by unfold dp; omega
  | .turnZ p => by unfold dp; omega
theorem dp_le_nb : ∀ b : Bd, dp b ≤ nb b
  | .block .. => Nat.le_refl _
  | .cells _ => Nat.le_refl _
  | .wth p q => by have h1 := dp_le_nb p; have h2 := dp_le_nb q; unfold nb dp; omega
  | .common p q => by have h1 := dp_le_nb p; have h2 := dp_le_nb q; unfold nb dp; omega
  | .less p q => by have h1 := dp_le_nb p; have h2 := dp_le_nb q; unfold nb dp; omega
  | .moved _ p => by have h1 := dp_le_nb p; unfold nb dp; omega
  | .turnX p => by have h1 := dp_le_nb p; unfold nb dp; omega
  | .turnY p => by have h1 := dp_le_nb p; unfold nb dp; omega
  | .turnZ p => by have h1 := dp_le_nb p; unfold nb dp; omega

def add3 (d c : C3) : C3 := (c.1 + d.1, c.2.1 + d.2.1, c.2.2 + d.2.2)
def sub3 (d c : C3) : C3 := (c.1 - d.1, c.2.1 - d.2.1, c.2.2 - d.2.2)
def tX (c : C3) : C3 := (c.1, 3 - c.2.2, c.2.1)
def tY (c : C3) : C3 := (c.2.2, c.2.1, 3 - c.1)
def tZ (c : C3) : C3 := (3 - c.2.1, c.1, c.2.2)
def uX (c : C3) : C3 := (c.1, c.2.2, 3 - c.2.1)
def uY (c : C3) : C3 := (3 - c.2.2, c.2.1, c.1)
def uZ (c : C3) : C3 := (c.2.1, 3 - c.1, c.2.2)
/-- whether a cell is a body's -/
def inside : Bd → C3 → Bool
  | .block x y z a b c, k => decide ((0 ≤ k.1 - x ∧ k.1 - x < a) ∧ (0 ≤ k.2.1 - y ∧ k.2.1 - y < b) ∧ (0 ≤ k.2.2 - z ∧ k.2.2 - z < c))
  | .cells cs, k => decide (k ∈ cs)
  | .wth p q, k => inside p k || inside q k
  | .common p q, k => inside p k && inside q k
  | .less p q, k => inside p k && !inside q k
  | .moved d p, k => inside p (sub3 d k)
  | .turnX p, k => inside p (uX k)
  | .turnY p, k => inside p (uY k)
  | .turnZ p, k => inside p (uZ k)
def all (b : Bd) : List C3 := room.filter (inside b)
theorem all_asc (b : Bd) : Asc (all b) := asc_filter room_asc
theorem mem_all {b : Bd} {c : C3} : c ∈ all b ↔ InR c ∧ inside b c = true := by
  unfold all
  rw [List.mem_filter, mem_room]
theorem all_len (b : Bd) : (all b).length ≤ 64 := by
  have h := List.length_filter_le (inside b) room
  have e : room.length = 64 := by unfold room; simp
  unfold all
  omega
def Far (d : C3) : Prop := (-3 ≤ d.1 ∧ d.1 ≤ 3) ∧ (-3 ≤ d.2.1 ∧ d.2.1 ≤ 3) ∧ (-3 ≤ d.2.2 ∧ d.2.2 ≤ 3)
/-- a body of the document that stays in the room -/
def Good : Bd → Prop
  | .block x y z a b c => InR (x, y, z) ∧ (1 ≤ a ∧ x + a ≤ 4) ∧ (1 ≤ b ∧ y + b ≤ 4) ∧ (1 ≤ c ∧ z + c ≤ 4)
  | .cells cs => Asc cs ∧ ∀ c ∈ cs, InR c
  | .wth p q => Good p ∧ Good q
  | .common p q => Good p ∧ Good q
  | .less p q => Good p ∧ Good q
  | .moved d p => Far d ∧ Good p ∧ ∀ c, inside p c = true → InR (add3 d c)
  | .turnX p => Good p
  | .turnY p => Good p
  | .turnZ p => Good p
theorem add_sub (d c : C3) : add3 d (sub3 d c) = c := by
  unfold add3 sub3
  refine c3_ext ?_ ?_ ?_ <;> simp only <;> omega
theorem sub_add (d c : C3) : sub3 d (add3 d c) = c := by
  unfold add3 sub3
  refine c3_ext ?_ ?_ ?_ <;> simp only <;> omega
theorem tuX (c : C3) : tX (uX c) = c := by unfold tX uX; refine c3_ext ?_ ?_ ?_ <;> simp only <;> omega
theorem utX (c : C3) : uX (tX c) = c := by unfold tX uX; refine c3_ext ?_ ?_ ?_ <;> simp only <;> omega
theorem tuY (c : C3) : tY (uY c) = c := by unfold tY uY; refine c3_ext ?_ ?_ ?_ <;> simp only <;> omega
theorem utY (c : C3) : uY (tY c) = c := by unfold tY uY; refine c3_ext ?_ ?_ ?_ <;> simp only <;> omega
theorem tuZ (c : C3) : tZ (uZ c) = c := by unfold tZ uZ; refine c3_ext ?_ ?_ ?_ <;> simp only <;> omega
theorem utZ (c : C3) : uZ (tZ c) = c := by unfold tZ uZ; refine c3_ext ?_ ?_ ?_ <;> simp only <;> omega
theorem good_in : ∀ {b : Bd} {k : C3}, Good b → inside b k = true → InR k
  | .block x y z a b c, k, g, h => by
    unfold inside at h
    rw [decide_eq_true_eq] at h
    obtain ⟨g1, g2, g3, g4⟩ := g
    unfold InR at g1 ⊢
    simp only at g1
    omega
  | .cells cs, k, g, h => by
    unfold inside at h
    rw [decide_eq_true_eq] at h
    exact g.2 k h
  | .wth p q, k, g, h => by
    unfold inside at h
    rw [Bool.or_eq_true] at h
    rcases h with h | h
    · exact good_in g.1 h
    · exact good_in g.2 h
  | .common p q, k, g, h => by
    unfold inside at h
    rw [Bool.and_eq_true] at h
    exact good_in g.1 h.1
  | .less p q, k, g, h => by
    unfold inside at h
    rw [Bool.and_eq_true] at h
    exact good_in g.1 h.1
  | .moved d p, k, g, h => by
    have q := g.2.2 (sub3 d k) h
    rw [add_sub] at q
    exact q
  | .turnX p, k, g, h => by
    have q : InR (uX k) := good_in (b := p) g h
    unfold InR uX at *
    simp only at q
    omega
  | .turnY p, k, g, h => by
    have q : InR (uY k) := good_in (b := p) g h
    unfold InR uY at *
    simp only at q
    omega
  | .turnZ p, k, g, h => by
    have q : InR (uZ k) := good_in (b := p) g h
    unfold InR uZ at *
    simp only at q
    omega
theorem mem_good {b : Bd} (g : Good b) {c : C3} : c ∈ all b ↔ inside b c = true := by
  rw [mem_all]
  exact ⟨fun h => h.2, fun h => ⟨good_in g h, h⟩⟩
/-- what tells the cells of a body: rising, and just those inside -/
theorem all_of {b : Bd} (g : Good b) {l : List C3} (h : Asc l) (m : ∀ c, c ∈ l ↔ inside b c = true) : l = all b :=
  asc_ext h (all_asc b) fun c => (m c).trans (mem_good g).symm
theorem all_cells {cs : List C3} (g : Good (.cells cs)) : cs = all (.cells cs) := all_of g g.1 fun c => by
  unfold inside
  rw [decide_eq_true_eq]
theorem all_moved {d : C3} {p : Bd} (g : Good (.moved d p)) : (all p).map (add3 d) = all (.moved d p) := by
  refine all_of g (asc_map (all_asc p) fun a b h => ?_) fun c => ?_
  · unfold lt3 add3 at *
    simp only
    omega
  · rw [List.mem_map]
    constructor
    · rintro ⟨k, hk, rfl⟩
      show inside p (sub3 d (add3 d k)) = true
      rw [sub_add]
      exact (mem_good g.2.1).mp hk
    · intro h
      exact ⟨sub3 d c, (mem_good g.2.1).mpr h, add_sub d c⟩
theorem all_common {p q : Bd} (g : Good (.common p q)) : (all p).filter (fun c => decide (c ∈ all q)) = all (.common p q) := by
  refine all_of g (asc_filter (all_asc p)) fun c => ?_
  rw [List.mem_filter, decide_eq_true_eq, mem_good g.1, mem_good g.2]
  show _ ↔ (inside p c && inside q c) = true
  rw [Bool.and_eq_true]
theorem all_less {p q : Bd} (g : Good (.less p q)) : (all p).filter (fun c => !decide (c ∈ all q)) = all (.less p q) := by
  refine all_of g (asc_filter (all_asc p)) fun c => ?_
  rw [List.mem_filter, Bool.not_eq_true', decide_eq_false_iff_not, mem_good g.1, mem_good g.2]
  show _ ↔ (inside p c && !inside q c) = true
  rw [Bool.and_eq_true, Bool.not_eq_true', Bool.not_eq_true]
/-- of any arrangement in order, each once -/
theorem all_wth {p q : Bd} (g : Good (.wth p q)) {l : List C3} (h : l.Pairwise fun a b => ¬ lt3 b a) (n : l.Nodup) (m : ∀ c, c ∈ l ↔ c ∈ all p ++ all q) : l = all (.wth p q) := by
  refine all_of g (asc_of h n) fun c => ?_
  rw [m, List.mem_append, mem_good g.1, mem_good g.2]
  show _ ↔ (inside p c || inside q c) = true
  rw [Bool.or_eq_true]
theorem nodup_map {l : List C3} {f u : C3 → C3} (hu : ∀ c, u (f c) = c) (n : l.Nodup) : (l.map f).Nodup := by
  refine List.Pairwise.map f (fun a b h e => h ?_) n
  rw [← hu a, ← hu b, e]
theorem all_turnX {p : Bd} (g : Good (.turnX p)) {l : List C3} (h : l.Pairwise fun a b => ¬ lt3 b a) (m : l.Perm ((all p).map tX)) : l = all (.turnX p) := by
  have gp : Good p := g
  refine all_of g (asc_of h (m.nodup_iff.mpr (nodup_map utX (asc_nodup (all_asc p))))) fun c => ?_
  rw [m.mem_iff, List.mem_map]
  exact ⟨fun ⟨k, hk, e⟩ => by subst e; show inside p (uX (tX k)) = true; rw [utX]; exact (mem_good gp).mp hk, fun hc => ⟨uX c, (mem_good gp).mpr hc, tuX c⟩⟩
theorem all_turnY {p : Bd} (g : Good (.turnY p)) {l : List C3} (h : l.Pairwise fun a b => ¬ lt3 b a) (m : l.Perm ((all p).map tY)) : l = all (.turnY p) := by
  have gp : Good p := g
  refine all_of g (asc_of h (m.nodup_iff.mpr (nodup_map utY (asc_nodup (all_asc p))))) fun c => ?_
  rw [m.mem_iff, List.mem_map]
  exact ⟨fun ⟨k, hk, e⟩ => by subst e; show inside p (uY (tY k)) = true; rw [utY]; exact (mem_good gp).mp hk, fun hc => ⟨uY c, (mem_good gp).mpr hc, tuY c⟩⟩
theorem all_turnZ {p : Bd} (g : Good (.turnZ p)) {l : List C3} (h : l.Pairwise fun a b => ¬ lt3 b a) (m : l.Perm ((all p).map tZ)) : l = all (.turnZ p) := by
  have gp : Good p := g
  refine all_of g (asc_of h (m.nodup_iff.mpr (nodup_map utZ (asc_nodup (all_asc p))))) fun c => ?_
  rw [m.mem_iff, List.mem_map]
  exact ⟨fun ⟨k, hk, e⟩ => by subst e; show inside p (uZ (tZ k)) = true; rw [utZ]; exact (mem_good gp).mp hk, fun hc => ⟨uZ c, (mem_good gp).mpr hc, tuZ c⟩⟩
/-- a block's cells, as three loops tell them -/
def blk1 (x y z : Int) (c : Nat) : List C3 := (List.range c).map fun (k : Nat) => ((x, y, z + (k : Int)) : C3)
def blk2 (x y z : Int) (b c : Nat) : List C3 := (List.range b).flatMap fun (j : Nat) => blk1 x (y + (j : Int)) z c
def blk3 (x y z : Int) (a b c : Nat) : List C3 := (List.range a).flatMap fun (i : Nat) => blk2 (x + (i : Int)) y z b c
theorem mem_blk3 {x y z : Int} {a b c : Nat} {k : C3} : k ∈ blk3 x y z a b c ↔ inside (.block x y z a b c) k = true := by
  unfold inside
  rw [decide_eq_true_eq]
  constructor
  · intro h
    unfold blk3 blk2 blk1 at h
    simp only [List.mem_flatMap, List.mem_map, List.mem_range] at h
    obtain ⟨i, hi, j, hj, l, hl, e⟩ := h
    subst e
    simp only
    omega
  · intro h
    unfold blk3 blk2 blk1
    simp only [List.mem_flatMap, List.mem_map, List.mem_range]
    refine ⟨(k.1 - x).toNat, by omega, (k.2.1 - y).toNat, by omega, (k.2.2 - z).toNat, by omega, ?_⟩
    refine c3_ext ?_ ?_ ?_ <;> simp only <;> omega
theorem asc_append {l m : List C3} (h1 : Asc l) (h2 : Asc m) (h : ∀ a ∈ l, ∀ b ∈ m, lt3 a b) : Asc (l ++ m) := List.pairwise_append.mpr ⟨h1, h2, h⟩
theorem asc_blk1 (x y z : Int) (c : Nat) : Asc (blk1 x y z c) := by
  refine List.Pairwise.map (fun (k : Nat) => ((x, y, z + (k : Int)) : C3)) (fun i j h => ?_) (List.pairwise_lt_range (n := c))
  exact .inr ⟨rfl, .inr ⟨rfl, by show z + (i : Int) < z + (j : Int); omega⟩⟩
theorem asc_flat {n : Nat} {f : Nat → List C3} (h1 : ∀ i, i < n → Asc (f i)) (h2 : ∀ i j, i < j → j < n → ∀ a ∈ f i, ∀ b ∈ f j, lt3 a b) : Asc ((List.range n).flatMap f) := by
  induction n with
  | zero => exact List.Pairwise.nil
  | succ n ih =>
    rw [List.range_succ, List.flatMap_append]
    refine asc_append (ih (fun i hi => h1 i (by omega)) fun i j hij hj => h2 i j hij (by omega)) ?_ fun a ha b hb => ?_
    · rw [List.flatMap_singleton]
      exact h1 n (by omega)
    · rw [List.flatMap_singleton] at hb
      obtain ⟨i, hi, ha⟩ := List.mem_flatMap.mp ha
      exact h2 i n (List.mem_range.mp hi) (by omega) a ha b hb
theorem mem_blk1 {x y z : Int} {c : Nat} {k : C3} (h : k ∈ blk1 x y z c) : k.1 = x ∧ k.2.1 = y := by
  obtain ⟨l, _, e⟩ := List.mem_map.mp h
  subst e
  exact ⟨rfl, rfl⟩
theorem mem_blk2 {x y z : Int} {b c : Nat} {k : C3} (h : k ∈ blk2 x y z b c) : k.1 = x := by
  obtain ⟨l, _, e⟩ := List.mem_flatMap.mp h
  exact (mem_blk1 e).1
theorem asc_blk2 (x y z : Int) (b c : Nat) : Asc (blk2 x y z b c) := by
  refine asc_flat (fun i _ => asc_blk1 ..) fun i j hij _ k hk l hl => ?_
  have h1 : k.1 = x ∧ k.2.1 = y + (i : Int) := mem_blk1 hk
  have h2 : l.1 = x ∧ l.2.1 = y + (j : Int) := mem_blk1 hl
  show k.1 < l.1 ∨ (k.1 = l.1 ∧ (k.2.1 < l.2.1 ∨ (k.2.1 = l.2.1 ∧ k.2.2 < l.2.2)))
  omega
theorem asc_blk3 (x y z : Int) (a b c : Nat) : Asc (blk3 x y z a b c) := by
  refine asc_flat (fun i _ => asc_blk2 ..) fun i j hij _ k hk l hl => ?_
  have h1 : k.1 = x + (i : Int) := mem_blk2 hk
  have h2 : l.1 = x + (j : Int) := mem_blk2 hl
  show k.1 < l.1 ∨ (k.1 = l.1 ∧ (k.2.1 < l.2.1 ∨ (k.2.1 = l.2.1 ∧ k.2.2 < l.2.2)))
  omega
theorem all_block {x y z : Int} {a b c : Nat} (g : Good (.block x y z a b c)) : blk3 x y z a b c = all (.block x y z a b c) := all_of g (asc_blk3 ..) fun _ => mem_blk3
end Ly
end

section
set_option Elab.async false
set_option linter.all false
set_option maxRecDepth 100000
set_option maxHeartbeats 2000000
/-! Lists of cells: sorted at any length, membership, equality. -/
namespace GY
open PySem PySem.Spec PyProof.Rows L2 Ly
/-- a cell as data -/
def cD (c : C3) : PyData := .tuple [.int c.1, .int c.2.1, .int c.2.2]
theorem dataLt_c (a b : C3) : PySem.W.dataLt (cD a) (cD b) = decide (lt3 a b) := by
  unfold cD
  rw [PySem.W.dataLt_tuple, PySem.W.dataLt_cons (by simp [PySem.W.alike]), PySem.W.dataLt_cons (by simp [PySem.W.alike]), PySem.W.dataLt_cons (by simp [PySem.W.alike]), PySem.W.dataLt_int, PySem.W.dataLt_int, PySem.W.dataLt_int]
  have e : PyProof.Rows.lexLt itemOrd (PySem.W.keyToksAll []) (PySem.W.keyToksAll []) = false := lex_irrefl _
  rw [e]
  simp only [PyData.eqv, beq_iff_eq]
  unfold lt3
  by_cases h1 : a.1 = b.1 <;> by_cases h2 : a.2.1 = b.2.1 <;> by_cases h3 : a.2.2 = b.2.2 <;> simp [h1, h2, h3]
theorem cD_alike (a b : C3) : PySem.W.alike (cD a) (cD b) = true := by simp [cD, PySem.W.alike, PySem.W.alikeAll]
theorem cD_depth (a : C3) : (cD a).depth = 1 := by simp [cD, PyData.depth, PyData.depthAll]
theorem cD_lay (a : C3) : (cD a).canLay0 = true := by simp [cD, PyData.canLay0, PyData.canLayAll0]
theorem cD_shaped (a : C3) : SeqAt.shaped (cD a) = true := by
  show ((cD a).canLay0 && decide ((cD a).depth ≤ 64)) = true
  rw [cD_lay, cD_depth]
  rfl
theorem cDs_lay : ∀ cs : List C3, PyData.canLayAll0 (cs.map cD) = true
  | [] => by simp [PyData.canLayAll0]
  | c :: cs => by simp [PyData.canLayAll0, cD_lay c, cDs_lay cs]
theorem cDs_depth : ∀ cs : List C3, PyData.depthAll (cs.map cD) ≤ 1
  | [] => by simp [PyData.depthAll]
  | c :: cs => by
    have h1 := cDs_depth cs
    have h2 := cD_depth c
    simp only [List.map_cons, PyData.depthAll]
    omega
theorem cDs_shapedL (cs : List C3) : SeqAt.shaped (.list (cs.map cD)) = true := by
  have h1 := cDs_depth cs
  have h2 : PyData.depth (.list (cs.map cD)) ≤ 64 := by
    simp only [PyData.depth]
    omega
  show (PyData.canLay0 (.list (cs.map cD)) && decide (PyData.depth (.list (cs.map cD)) ≤ 64)) = true
  rw [Bool.and_eq_true]
  exact ⟨by simp only [PyData.canLay0]; exact cDs_lay cs, decide_eq_true h2⟩
theorem cDs_shapedT (cs : List C3) : SeqAt.shaped (.tuple (cs.map cD)) = true := by
  have h1 := cDs_depth cs
  have h2 : PyData.depth (.tuple (cs.map cD)) ≤ 64 := by
    simp only [PyData.depth]
    omega
  show (PyData.canLay0 (.tuple (cs.map cD)) && decide (PyData.depth (.tuple (cs.map cD)) ≤ 64)) = true
  rw [Bool.and_eq_true]
  exact ⟨by simp only [PyData.canLay0]; exact cDs_lay cs, decide_eq_true h2⟩
theorem cD_eqv (a b : C3) : PyData.eqv (cD a) (cD b) = decide (a = b) := by
  have e : PyData.eqv (cD a) (cD b) = ((a.1 == b.1) && ((a.2.1 == b.2.1) && ((a.2.2 == b.2.2) && true))) := by simp only [cD, PyData.eqv, PyData.eqvAll]
  rw [e]
  by_cases h : a = b
  · subst h
    simp
  · rw [decide_eq_false h]
    by_cases h1 : a.1 = b.1
    · by_cases h2 : a.2.1 = b.2.1
      · by_cases h3 : a.2.2 = b.2.2
        · exact absurd (c3_ext h1 h2 h3) h
        · simp [h3]
      · simp [h2]
    · simp [h1]
theorem any_eqv (c : C3) (cs : List C3) : ((cs.map cD).any fun z => PyData.eqv z (cD c)) = decide (c ∈ cs) := by
  induction cs with
  | nil => simp
  | cons b cs ih =>
    rw [List.map_cons, List.any_cons, ih, cD_eqv]
    by_cases h : b = c
    · subst h; simp
    · have h' : ¬ c = b := fun e => h e.symm
      simp [h, h']
/-- the list (the tuple) of these cells -/
abbrev CellsL (K : PySem.W.Frag) (H : Hp) (v : V) (cs : List C3) : Prop := Dp K H v (.list (cs.map cD))
abbrev CellsT (K : PySem.W.Frag) (H : Hp) (v : V) (cs : List C3) : Prop := Dp K H v (.tuple (cs.map cD))
/-- item by item -/
def Items (K : PySem.W.Frag) (H : Hp) (xs : List V) (cs : List C3) : Prop := DpAll K H xs (cs.map cD)
theorem Items.length {K : PySem.W.Frag} {H : Hp} : ∀ {xs : List V} {cs : List C3}, Items K H xs cs → xs.length = cs.length
  | [], [], _ => rfl
  | [], _ :: _, h => by cases h
  | _ :: _, [], h => by cases h
  | x :: xs, c :: cs, h => by
    cases h with
    | cons h1 h2 =>
      have e := Items.length (xs := xs) (cs := cs) h2
      simp [e]
theorem Items.get {K : PySem.W.Frag} {H : Hp} : ∀ {xs : List V} {cs : List C3} {i : Nat} {x : V}, Items K H xs cs → xs[i]? = some x → ∃ c, cs[i]? = some c ∧ Dp K H x (cD c)
  | [], _, _, _, _, e => by simp at e
  | _ :: _, [], _, _, h, _ => by cases h
  | y :: xs, c :: cs, i, x, h, e => by
    cases h with
    | cons h1 h2 =>
      cases i with
      | zero =>
        have e : y = x := by simpa using e
        subst e
        exact ⟨c, rfl, h1⟩
      | succ i => exact Items.get (xs := xs) (cs := cs) h2 (by simpa using e)
theorem Items.append {K : PySem.W.Frag} {H : Hp} : ∀ {xs ys : List V} {cs ds : List C3}, Items K H xs cs → Items K H ys ds → Items K H (xs ++ ys) (cs ++ ds)
  | [], _, [], _, _, h => h
  | [], _, _ :: _, _, h, _ => by cases h
  | _ :: _, _, [], _, h, _ => by cases h
  | x :: xs, ys, c :: cs, ds, h, k => by
    cases h with
    | cons h1 h2 => exact .cons h1 (Items.append (xs := xs) (cs := cs) h2 k)
theorem Items.one {K : PySem.W.Frag} {H : Hp} {x : V} {c : C3} (h : Dp K H x (cD c)) : Items K H [x] [c] := .cons h .nil
/-- the triple of three ints -/
theorem dp_c {K : PySem.W.Frag} {H : Hp} {p : Addr} {c : C3} (h : SqT K H p [.int c.1, .int c.2.1, .int c.2.2]) : Dp K H (.ref p) (cD c) := .tup h (.cons (.int _) (.cons (.int _) (.cons (.int _) .nil)))
theorem of_dp_c {K : PySem.W.Frag} {H : Hp} {v : V} {c : C3} (h : Dp K H v (cD c)) : ∃ p, v = .ref p ∧ SqT K H p [.int c.1, .int c.2.1, .int c.2.2] := by
  cases h with
  | tup hs ha =>
    cases ha with
    | cons a1 a2 =>
      cases a2 with
      | cons b1 b2 =>
        cases b2 with
        | cons c1 c2 =>
          cases c2
          cases a1
          cases b1
          cases c1
          exact ⟨_, rfl, hs⟩
theorem of_cellsL {K : PySem.W.Frag} {H : Hp} {v : V} {cs : List C3} (h : CellsL K H v cs) : ∃ p xs, v = .ref p ∧ SqL K H p xs ∧ Items K H xs cs := by
  have h : Dp K H v (.list (cs.map cD)) := h
  cases h with
  | lst hs ha => exact ⟨_, _, rfl, hs, ha⟩
theorem of_cellsT {K : PySem.W.Frag} {H : Hp} {v : V} {cs : List C3} (h : CellsT K H v cs) : ∃ p xs, v = .ref p ∧ SqT K H p xs ∧ Items K H xs cs := by
  have h : Dp K H v (.tuple (cs.map cD)) := h
  cases h with
  | tup hs ha => exact ⟨_, _, rfl, hs, ha⟩

section
variable {X : Cx}
/-- x in t, t a tuple of data -/
def rInDT (K : PySem.W.Frag) : R2 := fun x y H Q => ∃ d ds, Dp K H x d ∧ Dp K H y (.tuple ds) ∧ SeqAt.shaped d = true ∧ SeqAt.shaped (.tuple ds) = true ∧ Q (.bl (ds.any fun z => PyData.eqv z d)) H
theorem op_inDT (hu : X.A.units + 65 < cLine) : OpR X (compareOp .In) (rInDT X.K) := by
  intro pins s σ H x y v u Q I rx ry h
  obtain ⟨d, ds, hd, he, sd, se, q⟩ := h
  obtain ⟨as, r1⟩ := Dp.reads I d x v hd rx
  obtain ⟨bs, r2⟩ := Dp.reads I (.tuple ds) y u he ry
  exact SeqAt.in_tuple_reads r2 r1 (SeqAt.canLay_of_shaped se) (SeqAt.canLay_of_shaped sd) (room_in_shaped sd hu) ⟨.bl _, H, I, rfl, q⟩

/-! ### sorted -/
theorem le_trans3 : ∀ a b c : C3, decide (¬ lt3 b a) = true → decide (¬ lt3 c b) = true → decide (¬ lt3 c a) = true := by
  intro a b c h1 h2
  rw [decide_eq_true_eq] at *
  intro h
  unfold lt3 at *
  omega
theorem le_total3 : ∀ a b : C3, (decide (¬ lt3 b a) || decide (¬ lt3 a b)) = true := by
  intro a b
  rw [Bool.or_eq_true, decide_eq_true_eq, decide_eq_true_eq]
  by_cases h : lt3 b a
  · exact .inr (lt3_asymm h)
  · exact .inl h
theorem leC {β : Type} (k : β → C3) : PySem.W.dataLe false (fun b => cD (k b)) = fun a b => decide (¬ lt3 (k b) (k a)) := by
  rw [PySem.W.dataLe_eq]
  funext a b
  show (!PySem.W.dataLt (cD (k b)) (cD (k a))) = _
  rw [dataLt_c]
  simp
/-- sorted(xs) of cells, any length: some arrangement in order -/
def rSortC (K : PySem.W.Frag) : List V → Hp → VK → Prop := fun vs H Q => ∃ (v : V) (cs : List C3), vs = [v] ∧ CellsL K H v cs ∧ cs.length ≤ sizeLine ∧
  ∀ (ys : List V) (ds : List C3) (p : Addr), ds.Perm cs → (ds.Pairwise fun a b => ¬ lt3 b a) → Items K H ys ds → H p = none → Q (.ref p) (upd H p (.lst ys))
theorem each_of {K : PySem.W.Frag} {H : Hp} : ∀ {xs : List V} {us : List Value} {cs : List C3}, Vals xs us → Items K H xs cs → PySem.W.EachIs (fun (u : Value) (b : V × C3) => RelV b.1 u ∧ Dp K H b.1 (cD b.2)) us (xs.zip cs)
  | [], _, _, r, h => by
    cases r
    exact .nil
  | _ :: _, _, [], _, h => by cases h
  | x :: xs, _, c :: cs, r, h => by
    cases r with
    | cons r1 r2 =>
      cases h with
      | cons h1 h2 => exact .cons ⟨r1, h1⟩ (each_of (xs := xs) (cs := cs) r2 h2)
theorem of_each {K : PySem.W.Frag} {H : Hp} : ∀ {us : List Value} {bs : List (V × C3)}, PySem.W.EachIs (fun (u : Value) (b : V × C3) => RelV b.1 u ∧ Dp K H b.1 (cD b.2)) us bs → Vals (bs.map (·.1)) us ∧ Items K H (bs.map (·.1)) (bs.map (·.2))
  | _, _, .nil => ⟨.nil, .nil⟩
  | _, _, .cons h t => ⟨.cons h.1 (of_each t).1, .cons h.2 (of_each t).2⟩
theorem zip_snd : ∀ {xs : List V} {cs : List C3}, xs.length = cs.length → (xs.zip cs).map (·.2) = cs
  | [], [], _ => rfl
  | [], _ :: _, h => by simp at h
  | _ :: _, [], h => by simp at h
  | x :: xs, c :: cs, h => by
    have e := zip_snd (xs := xs) (cs := cs) (by simpa using h)
    simp [e]
theorem cr_sortC (hu : X.A.units + 64 < cLine) : CallR X (.builtin "sorted") (rSortC X.K) := by
  intro pins s σ H vs us Q I r h
  obtain ⟨v, cs, rfl, hc, hl, q⟩ := h
  obtain ⟨a, xs, rfl, hs, hi⟩ := of_cellsL hc
  cases r with
  | cons r1 r2 =>
    cases r2
    cases r1
    obtain ⟨its, rv, pl, hz⟩ := I.list hs
    have hlen := hi.length
    have e := each_of rv hi
    have er : PySem.W.EachIs (fun v b => ∃ as, Reads s.heap v ((fun b : V × C3 => cD b.2) b) as) its (xs.zip cs) := e.mono fun u b h => Dp.reads I (cD b.2) b.1 u h.2 h.1
    have hbl : (xs.zip cs).length = cs.length := by rw [List.length_zip, hlen, Nat.min_self]
    refine PySem.W.sorted_data (enc := fun b : V × C3 => cD b.2) pl.isList e er (PySem.W.AllAlike.of fun b b' => cD_alike _ _) (PySem.W.Sortable.tuples fun b => ⟨_, _, rfl⟩) (by rw [hbl]; exact hl)
      (fun b _ => by rw [cD_depth]; omega) fun out ho eo => ?_
    obtain ⟨c, hc2⟩ := sortedAll_at s.heap its (List.toArray out)
    rw [leC] at eo
    have pm := List.mergeSort_perm (xs.zip cs) (fun a b => decide (¬ lt3 b.2 a.2))
    have so := List.pairwise_mergeSort (le := fun (a b : V × C3) => decide (¬ lt3 b.2 a.2)) (fun a b c => le_trans3 a.2 b.2 c.2) (fun a b => le_total3 a.2 b.2) (xs.zip cs)
    obtain ⟨ev, ei⟩ := of_each eo
    have ky : ∀ b o, s.heap.get? b = some o → (sortedAll s.heap its (List.toArray out)).get? b = some o := fun _ _ => sortedAll_old
    have hlz : ((List.mergeSort (xs.zip cs) fun a b => decide (¬ lt3 b.2 a.2)).map (·.1)).length ≤ sizeLine := by
      rw [List.length_map, pm.length_eq, hbl]
      exact hl
    have hnew : H (s.heap.objs.size + 1) = none := I.hok.fresh (Nat.le_succ _)
    refine ⟨.ref (s.heap.objs.size + 1), _, I.laid (t' := s.toks) (o := .lst ((List.mergeSort (xs.zip cs) fun a b => decide (¬ lt3 b.2 a.2)).map (·.1))) ky (Nat.le_succ _) ⟨hlz, out, c, ev, hc2⟩, rfl, ?_⟩
    refine q _ _ _ ?_ ?_ ei hnew
    · have := pm.map (·.2)
      rw [zip_snd hlen] at this
      exact this
    · refine List.Pairwise.map _ (fun a b h => ?_) so
      simpa using h
end
end GY
end

section
set_option Elab.async false
set_option linter.all false
set_option maxRecDepth 100000
set_option maxHeartbeats 2000000
/-! Sets of tuples with up to 64 of them (the library's: below 64): one more put, found ones. -/
namespace GZ
open PySem PySem.Spec PyProof.Rows L2
section
variable {P : Program} {w : World} {A : Around} {E : Value → Shared → Prop} {s : Shared}
/-- the set at a holds L, at most 64 -/
structure SQ (P : Program) (w : World) (h : Heap) (a : Addr) (L : List (Addr × List Int)) (es : Array (Int × Value)) (ep : Nat) (t : SetTable) : Prop where
  ob : ∃ o, h.get? a = some o ∧ o.ExactSet ∧ o.data = .set es ep t
  rows : es.toList = rowsOf P w L
  tab : TabOk t (L.map fun p => thash P w p.2)
  nd : (L.map (·.2)).Nodup
  tup : ∀ p ∈ L, IsT P w h p.2 p.1
  plain : t.plain = true
  led : w.params.followText "set-order" = true ∨ t.led = true
  room : L.length * 5 < t.mask * 3
  few : L.length ≤ 64
variable {a : Addr} {L : List (Addr × List Int)} {es : Array (Int × Value)} {ep : Nat} {t : SetTable}
theorem SQ.of (R : SetTR P w s.heap a L es ep t) : SQ P w s.heap a L es ep t := ⟨R.ob, R.rows, R.tab, R.nd, R.tup, R.plain, R.led, R.room, Nat.le_of_lt R.few⟩
theorem SQ.tr (R : SQ P w s.heap a L es ep t) (h : L.length < 64) : SetTR P w s.heap a L es ep t := ⟨R.ob, R.rows, R.tab, R.nd, R.tup, R.plain, R.led, R.room, h⟩
theorem SQ.keep {h h' : Heap} (R : SQ P w h a L es ep t) (ha : ∀ o, h.get? a = some o → h'.get? a = some o) (ht : ∀ p ∈ L, IsT P w h' p.2 p.1) : SQ P w h' a L es ep t := by
  obtain ⟨o, ho, r⟩ := R.ob
  exact ⟨⟨o, ha o ho, r⟩, R.rows, R.tab, R.nd, ht, R.plain, R.led, R.room, R.few⟩
theorem SQ.size {h : Heap} (R : SQ P w h a L es ep t) : es.size = L.length := by
  have q := congrArg List.length R.rows
  unfold rowsOf at q
  rw [Array.length_toList, List.length_map] at q
  exact q
theorem SQ.psz {h : Heap} (R : SQ P w h a L es ep t) : t.place.size = L.length := by
  have q := R.tab.sz
  rw [List.length_map] at q
  exact q
theorem SQ.fits {h : Heap} (R : SQ P w h a L es ep t) : t.fits es.size = true := by
  have h1 := R.psz
  have h2 := R.size
  have h3 := R.room
  unfold SetTable.fits SetTable.fill
  rw [R.tab.dm, Bool.and_eq_true, beq_iff_eq, decide_eq_true_eq]
  refine ⟨by omega, ?_⟩
  show t.place.size + 0 ≤ t.mask
  omega
theorem SQ.at {h : Heap} (R : SQ P w h a L es ep t) {i : Nat} {p : Addr × List Int} (q : L[i]? = some p) : es[i]? = some (thash P w p.2, Value.ref p.1) := by
  rw [← Array.getElem?_toList, R.rows]
  unfold rowsOf
  rw [List.getElem?_map, q] <;> rfl
theorem SQ.gw {h : Heap} (R : SQ P w h a L es ep t) : ¬ t.gaveWay = true := by
  unfold SetTable.gaveWay
  rw [mask_odd R.tab.mok]
  decide

/-- a tuple that is in is found -/
theorem found_from (R : SQ P w s.heap a L es ep t) {x : Addr} {k : List Int} (hx : IsT P w s.heap k x) (hu : A.units < cLine) {K c0 i0 : Nat} {p0 : Addr × List Int} (hKf : K < 10 * SetTable.turns t.mask)
    (hK : way t.mask (thash P w k) K ∉ t.place.toList) (hKb : ∀ c, c < K → way t.mask (thash P w k) c ∈ t.place.toList) (h0 : L[i0]? = some p0) (hk0 : p0.2 = k) (hc0 : t.place.toList[i0]? = some (way t.mask (thash P w k) c0)) (hcK : c0 < K)
    {Q : SetFound → Shared → Prop} (hin : Q (.there none) s) :
    ∀ (f c : Nat) (stand : Option SetTable.Probe), stand.getD (t.probeStart (thash P w k)) = nth t.mask (runAt t.mask (SetTable.bits (thash P w k) % (t.mask + 1)) (SetTable.bits (thash P w k))) c → c ≤ c0 → K - c < f →
      wpAny (model P w) A (setSearchFrom a (.ref x) (thash P w k) true f stand) Q E s := by
  intro f
  induction f with
  | zero => exact fun c stand _ _ hf => absurd hf (Nat.not_lt_zero _)
  | succ f ih =>
    intro c stand hst hc hf
    obtain ⟨o, ho, hex, hd⟩ := R.ob
    rw [setSearchFrom_succ]
    refine wpAny_bind (wpAny_setState_of ho hd R.fits ?_)
    dsimp only
    refine wp_if_neg R.gw ?_
    try refine wpAny_bind (wpAny_pure ?_)
    generalize hB : runAt t.mask (SetTable.bits (thash P w k) % (t.mask + 1)) (SetTable.bits (thash P w k)) = B at hst
    have hB0 : B.dummy = none := by rw [← hB] <;> rfl
    have dn : ∀ (n : Nat) (p : SetTable.Probe), p.dummy = none → (nth t.mask p n).dummy = none := by
      intro n
      induction n with
      | zero => exact fun p h => h
      | succ n ih2 =>
        intro p h
        refine ih2 (adv t.mask p) ?_
        unfold adv
        split <;> exact h
    have wj : ∀ q, (nth t.mask (nth t.mask B c) q).j = way t.mask (thash P w k) (c + q) := fun q => by
      rw [← nth_add t.mask c B q, ← hB] <;> rfl
    have hash_of : ∀ (i : Nat) p, L[i]? = some p → (fun i => (es[i]?.map (·.1)).getD 0) i = thash P w p.2 := fun i p hp => by
      show (es[i]?.map (·.1)).getD 0 = _
      rw [R.at hp] <;> rfl
    have sp := go_spec t R.tab.ris R.tab.dm (fun i => (es[i]?.map (·.1)).getD 0) (thash P w k) (10 * SetTable.turns t.mask) (K - c) _ (dn c B hB0) (by omega)
      (fun q hq => by rw [wj]; exact hKb (c + q) (by omega)) (by rw [wj, show c + (K - c) = K by omega]; exact hK)
    have met : (fun i => (es[i]?.map (·.1)).getD 0) i0 = thash P w k := (hash_of i0 p0 h0).trans (congrArg (thash P w) hk0)
    rcases sp with ⟨q, i, hq, hi, hh, hno, hpr⟩ | ⟨hno, hpr⟩
    · have hcq : c + q ≤ c0 := by
        rcases Nat.lt_or_ge c0 (c + q) with z | z
        · exact absurd met (hno (c0 - c) i0 (by omega) (by rw [wj, show c + (c0 - c) = c0 by omega]; exact hc0))
        · exact z
      have hpr2 : t.probe (fun i => (es[i]?.map (·.1)).getD 0) (thash P w k) (stand.getD (t.probeStart (thash P w k))) = some (.candidate (way t.mask (thash P w k) (c + q)) i (nth t.mask B (c + (q + 1)))) := by
        rw [hst, ← wj, nth_add t.mask c B (q + 1)]
        exact hpr
      rw [hpr2]
      dsimp only
      rw [wj] at hi
      have hil : i < L.length := by
        have h1 : i < t.place.toList.length := (List.getElem?_eq_some_iff.mp hi).1
        have h2 := R.psz
        rw [Array.length_toList] at h1
        omega
      have hp : L[i]? = some L[i] := List.getElem?_eq_getElem hil
      generalize hpe : L[i] = p at hp
      have hpt := R.tup p (List.mem_of_getElem? hp)
      have slotq : t.slot (way t.mask (thash P w k) (c + q)) = .live i := slot_live R.tab.ris hi
      have go : wpAny (model P w) A (searchRest a (.ref x) (thash P w k) true f es t (way t.mask (thash P w k) (c + q)) i (nth t.mask B (c + (q + 1)))) Q E s := by
        unfold searchRest
        rw [R.at hp]
        dsimp only
        refine wpAny_bind (wpAny_holding (wpAny_eqBool_tuple hu hpt hx ?_))
        refine wpAny_bind (wpAny_setState_of ho hd R.fits ?_)
        dsimp only
        by_cases hkk : p.2 = k
        · refine wp_if_pos (by simp [hkk]) ?_
          exact wpAny_pure hin
        · have hlt : c + q < c0 := by
            rcases Nat.lt_or_ge (c + q) c0 with z | z
            · exact z
            · exfalso
              have e : c0 = c + q := Nat.le_antisymm z hcq
              have s0 := slot_live R.tab.ris hc0
              rw [e, slotq] at s0
              injection s0 with s0
              rw [← s0, hp] at h0
              exact hkk ((congrArg Prod.snd (Option.some.inj h0)).trans hk0)
          refine wp_if_neg (by simp [hkk]) ?_
          try refine wpAny_bind (wpAny_pure ?_)
          rw [sameMem]
          dsimp only
          simp only [if_true, slotq, R.at hp]
          refine wpAny_bind (wpAny_isSame_ref_self (wpAny_bind (wpAny_pure ?_)))
          simp only [if_true]
          refine wp_if_neg (by simp [hkk]) ?_
          exact ih (c + (q + 1)) _ (by rw [hB]; rfl) (by omega) (by omega)
      by_cases hl : t.led = true
      · refine wp_if_neg (by simp [hl]) ?_
        try refine wpAny_bind (wpAny_pure ?_)
        exact go
      · refine wp_if_pos (by simp [hl]) ?_
        refine wpAny_bind (seen_tup hx (fun y hy => ?_) ?_)
        · obtain ⟨e, he, ee⟩ := List.mem_map.mp hy
          have he1 : e ∈ es ∧ e.1 = thash P w k := by simpa using he
          have he2 : e ∈ es.toList := by simpa using he1.1
          rw [R.rows] at he2
          obtain ⟨p2, hp2, e2⟩ := List.mem_map.mp he2
          exact ⟨p2.2, p2.1, by rw [← ee, ← e2], R.tup p2 hp2⟩
        · refine wp_if_neg (by decide) ?_
          try refine wpAny_bind (wpAny_pure ?_)
          exact go
    · exact absurd met (hno (c0 - c) i0 (by omega) (by rw [wj, show c + (c0 - c) = c0 by omega]; exact hc0))
theorem found_at (R : SQ P w s.heap a L es ep t) {x : Addr} {k : List Int} (hx : IsT P w s.heap k x) (hu : A.units < cLine) (hm : k ∈ L.map (·.2)) {Q : SetFound → Shared → Prop} (hin : Q (.there none) s) :
    wpAny (model P w) A (setSearch a (.ref x) (thash P w k) true) Q E s := by
  have hroom := R.room
  obtain ⟨K, hKf, hK, hKb⟩ := R.tab.first (by rw [List.length_map]; omega) (thash P w k)
  have hbig : K < 100000 := by
    have : 10 * SetTable.turns t.mask ≤ 1420 := by
      unfold SetTable.turns
      rcases R.tab.mok with e | e | e <;> omega
    omega
  obtain ⟨p0, hp0, hk0⟩ := List.mem_map.mp hm
  obtain ⟨i0, hi0, e0⟩ := List.getElem_of_mem hp0
  have h00 : L[i0]? = some p0 := by rw [List.getElem?_eq_getElem hi0, e0]
  have hi : (L.map fun p => thash P w p.2)[i0]? = some (thash P w k) := by rw [List.getElem?_map, h00, ← hk0] <;> rfl
  have hil : i0 < t.place.toList.length := by
    have h2 := R.psz
    rw [Array.length_toList]
    omega
  have hj := List.getElem?_eq_getElem hil
  obtain ⟨c0, hc0, e⟩ := R.tab.before hK hi hj
  unfold setSearch
  exact found_from R hx hu hKf hK hKb h00 hk0 (by rw [hj, e]) hc0 hin 100000 0 none rfl (Nat.zero_le _) (by omega)
end
end GZ
end

section
set_option Elab.async false
set_option linter.all false
set_option maxRecDepth 100000
set_option maxHeartbeats 2000000
namespace GZ
open PySem PySem.Spec PyProof.Rows L2
section
variable {P : Program} {w : World} {A : Around} {E : Value → Shared → Prop} {s : Shared}
variable {a : Addr} {L : List (Addr × List Int)} {es : Array (Int × Value)} {ep : Nat} {t : SetTable}
theorem SQ.ofH {h : Heap} (R : SetTR P w h a L es ep t) : SQ P w h a L es ep t := ⟨R.ob, R.rows, R.tab, R.nd, R.tup, R.plain, R.led, R.room, Nat.le_of_lt R.few⟩
theorem SQ.trH {h : Heap} (R : SQ P w h a L es ep t) (q : L.length < 64) : SetTR P w h a L es ep t := ⟨R.ob, R.rows, R.tab, R.nd, R.tup, R.plain, R.led, R.room, q⟩
/-- one that is in is added: nothing changes -/
theorem add_found (R : SQ P w s.heap a L es ep t) {x : Addr} {k : List Int} (hx : IsT P w s.heap k x) (hu : A.units < cLine) (hm : k ∈ L.map (·.2)) {Q : Bool → Shared → Prop} (hQ : Q false s) :
    wpAny (model P w) A (setAddHashed a (.ref x) (thash P w k)) Q E s := by
  obtain ⟨o, ho, hex, hd⟩ := R.ob
  unfold setAddHashed
  refine wpAny_holding ?_
  rw [show (100000 : Nat) = 99999 + 1 from rfl, setAddHashedIn_succ]
  refine wpAny_bind (wpAny_setState_of ho hd R.fits ?_)
  dsimp only
  refine wp_if_neg (by simp [byScan, Value.scannable]) ?_
  try refine wpAny_bind (wpAny_pure ?_)
  refine wpAny_bind (found_at R hx hu hm ?_)
  dsimp only
  exact wpAny_pure hQ
/-- the 64th is added: the table is as large as before -/
theorem add_last (R : SetTR P w s.heap a L es ep t) {x : Addr} {k : List Int} (hx : IsT P w s.heap k x) (hu : A.units < cLine) (hl : L.length = 63) (hn : k ∉ L.map (·.2)) {Q : Bool → Shared → Prop}
    (hQ : ∀ h' L' es' ep' t', Heap.SameBut a s.heap h' → SQ P w h' a L' es' ep' t' → L'.Perm ((x, k) :: L) → Q true { s with heap := h' }) :
    wpAny (model P w) A (setAddHashed a (.ref x) (thash P w k)) Q E s := by
  obtain ⟨o, ho, hex, hd⟩ := R.ob
  have hsl := R.size
  have hroom := R.room
  have hmask : t.mask = 127 := by
    rcases R.tab.mok with e | e | e
    · rw [e] at hroom; omega
    · rw [e] at hroom; omega
    · exact e
  unfold setAddHashed
  refine wpAny_holding ?_
  rw [show (100000 : Nat) = 99999 + 1 from rfl, setAddHashedIn_succ]
  refine wpAny_bind (wpAny_setState_of ho hd R.fits ?_)
  dsimp only
  refine wp_if_neg (by simp [byScan, Value.scannable]) ?_
  try refine wpAny_bind (wpAny_pure ?_)
  refine wpAny_bind (search_at R hx hu (fun hm => absurd hm hn) fun K hm hK hb => ?_)
  dsimp only
  refine wpAny_bind (wpAny_setState_of ho hd R.fits ?_)
  dsimp only
  obtain ⟨q1, q2, q3, q4, q5, q6, q7, q8, q9⟩ := R.tab.put hK hb
  have hp1 : (t.put (way t.mask (thash P w k) K)).1.plain = true := by rw [q6]; exact R.plain
  generalize hpt : t.put (way t.mask (thash P w k) K) = pt at q1 q3 q4 q5 q6 q7 q8 q9 hp1 ⊢
  obtain ⟨t1, p⟩ := pt
  dsimp only at q1 q3 q4 q5 q6 q7 q8 q9 hp1 ⊢
  subst q1
  first
    | (refine wpAny_bind ?_; refine wp_if_pos hp1 ?_; refine hashBy_tup hx ?_)
    | refine wp_if_pos hp1 (wpAny_bind (hashBy_tup hx ?_))
  simp only [if_true]
  have hin : (SetTable.insertAt es (SetTable.below t.place (way t.mask (thash P w k) K)) (thash P w k, Value.ref x)).toList = rowsOf P w (L.take (SetTable.below t.place (way t.mask (thash P w k) K)) ++ (x, k) :: L.drop (SetTable.below t.place (way t.mask (thash P w k) K))) := by
    rw [SetTable.toList_insertAt, rows_put, R.rows]
  generalize SetTable.below t.place (way t.mask (thash P w k) K) = b at q2 q3 hin ⊢
  have pm := put_perm L b (x, k)
  have hlen : (L.take b ++ (x, k) :: L.drop b).length = 64 := by rw [pm.length_eq, List.length_cons, hl]
  have hhs : (L.take b ++ (x, k) :: L.drop b).map (fun p => thash P w p.2) = (L.map fun p => thash P w p.2).take b ++ thash P w k :: (L.map fun p => thash P w p.2).drop b := by
    rw [List.map_append, List.map_cons, List.map_take, List.map_drop]
  rw [← hhs] at q3
  have nd1 : ((L.take b ++ (x, k) :: L.drop b).map (·.2)).Nodup := by
    refine (pm.map (·.2)).nodup_iff.mpr ?_
    rw [List.map_cons]
    exact List.nodup_cons.mpr ⟨hm, R.nd⟩
  have hes : (SetTable.insertAt es b (thash P w k, Value.ref x)).size = 64 := by
    have h := congrArg List.length hin
    unfold rowsOf at h
    rw [Array.length_toList, List.length_map, hlen] at h
    exact h
  generalize SetTable.insertAt es b (thash P w k, Value.ref x) = es1 at hin hes ⊢
  generalize L.take b ++ (x, k) :: L.drop b = L1 at pm hlen q3 nd1 hin
  refine wpAny_bind (wpAny_storeSet_of ho hd ?_ (by rw [hes, sizeLine_eq]; omega))
  have sb : Heap.SameBut a s.heap (s.heap.update a (Obj.putSet es1 t1)) := Heap.SameBut.update ..
  have ho1 := store_at (es' := es1) (t' := t1) ho hd
  generalize s.heap.update a (Obj.putSet es1 t1) = h1 at sb ho1 ⊢
  have tup1 : ∀ p ∈ L1, IsT P w h1 p.2 p.1 := fun p hp => by
    rcases List.mem_cons.mp (pm.mem_iff.mp hp) with e | hp
    · rw [e]; exact isT_same hx ho hd sb
    · exact isT_same (R.tup p hp) ho hd sb
  have hf : t1.tooFull = false := by
    unfold SetTable.tooFull
    rw [q9, List.length_map, q4, hmask, hl]
    decide
  first
    | refine wp_if_neg (by simp [hf]) ?_
    | (refine wpAny_bind ?_; refine wp_if_neg (by simp [hf]) ?_; refine wpAny_pure ?_)
  refine wpAny_pure (hQ h1 L1 es1 (ep + 1) t1 sb ⟨⟨_, ho1, ⟨hex.1, hex.2.1, hex.2.2⟩, rfl⟩, hin, q3, nd1, tup1, hp1, by rw [q5]; exact R.led, by rw [hlen, q4, hmask]; decide, by omega⟩ pm)
/-- any is added, as long as there is room below 64 -/
theorem add_any (R : SQ P w s.heap a L es ep t) {x : Addr} {k : List Int} (hx : IsT P w s.heap k x) (hu : A.units < cLine) (hr : k ∈ L.map (·.2) ∨ L.length < 64) {Q : Bool → Shared → Prop}
    (hQ : ∀ b h' L' es' ep' t', Heap.SameBut a s.heap h' → SQ P w h' a L' es' ep' t' → (k ∈ L.map (·.2) → L' = L) → (k ∉ L.map (·.2) → L'.Perm ((x, k) :: L)) → Q b { s with heap := h' }) :
    wpAny (model P w) A (setAddHashed a (.ref x) (thash P w k)) Q E s := by
  by_cases hm : k ∈ L.map (·.2)
  · exact add_found R hx hu hm (hQ false s.heap L es ep t (Heap.SameBut.refl a s.heap) R (fun _ => rfl) fun z => absurd hm z)
  · have hl : L.length < 64 := hr.resolve_left hm
    rcases Nat.lt_or_ge (L.length + 1) 64 with z | z
    · exact add_at (R.trH hl) hx hu z fun b h' L' es' ep' t' sb R' c1 c2 => hQ b h' L' es' ep' t' sb (SQ.ofH R') c1 c2
    · exact add_last (R.trH hl) hx hu (by omega) hm fun h' L' es' ep' t' sb R' pm => hQ true h' L' es' ep' t' sb R' (fun z => absurd z hm) fun _ => pm
end
end GZ
end

section
set_option Elab.async false
set_option linter.all false
set_option maxRecDepth 100000
set_option maxHeartbeats 3200000
namespace GZ
open PySem PySem.Spec PyProof.Rows L2
theorem nodup_le {α : Type} [DecidableEq α] : ∀ {l U : List α}, l.Nodup → (∀ x ∈ l, x ∈ U) → l.length ≤ U.length
  | [], _, _, _ => Nat.zero_le _
  | x :: l, U, n, h => by
    obtain ⟨n1, n2⟩ := List.nodup_cons.mp n
    have hx := h x List.mem_cons_self
    have ih := nodup_le (l := l) (U := U.erase x) n2 fun y hy => by
      have hne : y ≠ x := fun e => n1 (e ▸ hy)
      exact (List.mem_erase_of_ne hne).mpr (h y (List.mem_cons_of_mem _ hy))
    rw [List.length_erase_of_mem hx] at ih
    have hp : 0 < U.length := List.length_pos_of_mem hx
    rw [List.length_cons]
    omega
section
variable {P : Program} {w : World} {A : Around} {E : Value → Shared → Prop} {s : Shared}
/-- the loop of set.update, the keys among at most 64 -/
theorem upd_loop {I : Addr} {fp wr : List Addr} {G : Array GenState → Array GenState → Prop} {n : Nat} {Pv : Nat → Value → Prop} {St : Nat → Shared → Prop} {R : Result → Shared → Prop}
    (W : WalksS P w A.in1 I fp wr G n Pv St) (S : Addr) (hSf : S ∉ fp) (ks : List (Addr × List Int)) (U : List (List Int)) (hU : U.length ≤ 64) (hkU : ∀ p ∈ ks, p.2 ∈ U) (hn : n = ks.length) (hval : ∀ i v, Pv i v → ∃ p, ks[i]? = some p ∧ v = .ref p.1)
    (h0 : Heap) (hk : ∀ p ∈ ks, IsT P w h0 p.2 p.1) (hS0 : h0.get? S = none) (hw0 : ∀ b ∈ wr, h0.get? b = none) (hu : A.in1.units < cLine) :
    ∀ (k i : Nat) (s : Shared), n - i = k → i ≤ n → St i s → (∀ b o, h0.get? b = some o → s.heap.get? b = some o) → (∃ L es ep t, SQ P w s.heap S L es ep t ∧ Got ks i L) →
      (∀ s' L es ep t, Moved (S :: wr) G s s' → SQ P w s'.heap S L es ep t → Got ks n L → (∀ b o, h0.get? b = some o → s'.heap.get? b = some o) → R (.ok (.ret .none)) s') →
      codeAny (model P w) A (.builtin "set.update.loop" ⟨[.ref S, .ref I], []⟩) R s := by
  have hSw : S ∉ wr := fun h => hSf (W.sub _ h)
  have hsub : ∀ b ∈ wr, b ∈ S :: wr := fun b hb => List.mem_cons_of_mem _ hb
  have keepM : ∀ {s s' : Shared}, Moved wr G s s' → (∀ b o, h0.get? b = some o → s.heap.get? b = some o) → ∀ b o, h0.get? b = some o → s'.heap.get? b = some o := fun hm hkp b o e =>
    hm.heap b o (fun hb => by rw [hw0 b hb] at e; cases e) (hkp b o e)
  have few : ∀ {i : Nat} {L : List (Addr × List Int)} {p : Addr × List Int}, Got ks i L → (L.map (·.2)).Nodup → p ∈ ks → p.2 ∈ L.map (·.2) ∨ L.length < 64 := fun {i L p} g nd hp => by
    by_cases c : p.2 ∈ L.map (·.2)
    · exact .inl c
    · have q := nodup_le (l := p.2 :: L.map (·.2)) (U := U) (List.nodup_cons.mpr ⟨c, nd⟩) fun y hy => by
        rcases List.mem_cons.mp hy with e | hy
        · rw [e]; exact hkU p hp
        · obtain ⟨z, hz, e⟩ := List.mem_map.mp hy
          rw [← e]
          exact hkU z (List.mem_of_mem_take (g.sub z hz))
      rw [List.length_cons, List.length_map] at q
      exact .inr (by omega)
  intro k
  induction k with
  | zero =>
    intro i s hk' hi hst hkp ⟨L, es, ep, t, hS, g⟩ hR
    obtain rfl : i = n := by omega
    refine codeAny_builtin PyProof.Rows.F.entry_set_update_loop ?_
    rw [Around.under_plainId PyProof.Rows.F.plain_set_update_loop _]
    show wpAny _ A.in1 (pyNext (.ref I) >>= _) _ _ s
    refine wpAny_bind (W.done s _ _ hst fun s' hm => ?_)
    show wpAny _ A.in1 (ret Value.none) _ _ s'
    have hkp' := keepM hm hkp
    exact wpAny_pure (hR s' L es ep t (hm.mono hsub) (hS.keep (fun o e => hm.heap S o hSw e) fun p hp => isT_keep (hk p (List.mem_of_mem_take (g.sub p hp))) hkp') g hkp')
  | succ k ih =>
    intro i s hk' hi hst hkp ⟨L, es, ep, t, hS, g⟩ hR
    have hlt : i < n := by omega
    refine codeAny_builtin PyProof.Rows.F.entry_set_update_loop ?_
    rw [Around.under_plainId PyProof.Rows.F.plain_set_update_loop _]
    show wpAny _ A.in1 (pyNext (.ref I) >>= _) _ _ s
    refine wpAny_bind (W.item i s _ _ hlt hst fun v s' hP hst' hm => ?_)
    obtain ⟨p, hp, rfl⟩ := hval i v hP
    have hkp' := keepM hm hkp
    have hS' : SQ P w s'.heap S L es ep t := hS.keep (fun o e => hm.heap S o hSw e) fun q hq => isT_keep (hk q (List.mem_of_mem_take (g.sub q hq))) hkp'
    have hpm : p ∈ ks := List.mem_of_getElem? hp
    have hx : IsT P w s'.heap p.2 p.1 := isT_keep (hk p hpm) hkp'
    show wpAny _ A.in1 (holding [Value.ref p.1] (setAdd S (.ref p.1)) >>= _) _ _ s'
    refine wpAny_bind (wpAny_holding ?_)
    unfold setAdd
    refine wpAny_holding ?_
    refine wpAny_bind (wpAny_pyHash_tuple hu hx ?_)
    refine add_any (s := { s' with toks := s'.toks + (p.2.length + 1) }) hS' hx hu (few g hS'.nd hpm) fun b h' L' es' ep' t' hsb hS2 c1 c2 => ?_
    have g' : Got ks (i + 1) L' := by
      by_cases c : p.2 ∈ L.map (·.2)
      · rw [c1 c]; exact g.same hp c
      · exact g.more hp (c2 c)
    have hkp2 : ∀ b o, h0.get? b = some o → h'.get? b = some o := fun b o e => (hsb.2 b (fun z => by rw [z, hS0] at e; cases e)).trans (hkp' b o e)
    refine wpAny_pure ⟨plainId_quiet PyProof.Rows.F.plain_set_update_loop _, ih (i + 1) _ (by omega) hlt (W.frame _ s' _ _ hst' (Nat.le_add_right _ _) fun b hb o e => ?_) hkp2 ⟨L', es', ep', t', hS2, g'⟩ fun s'' L2 es2 ep2 t2 hm'' hS'' g'' hkp'' => ?_⟩
    · rw [hsb.2 b (fun h : b = S => hSf (by rw [← h]; exact hb))]
      exact e
    · refine hR s'' L2 es2 ep2 t2 (Moved.trans W.gtrans ((hm.mono hsub).then_heap (Nat.le_add_right _ _) fun b o hb e => ?_) hm'') hS'' g'' hkp''
      rw [hsb.2 b (fun h : b = S => hb (by rw [h]; exact List.mem_cons_self))]
      exact e

/-- what a new set is -/
abbrev newSetObj (w : World) : Obj := { cls := .type "set", dict := none, data := .set #[] 0 (.fresh 0 0 (!w.params.followText "set-order")) }
/-- its filling: what set.__init__ does with a list or a tuple that is walked by W -/
theorem set_of {vv : Value} {items : Array Value} (ks : List (Addr × List Int)) (U : List (List Int)) (hU : U.length ≤ 64) (hkU : ∀ p ∈ ks, p.2 ∈ U) {Q : Value → Shared → Prop}
    (hu : A.units + 3 < cLine)
    (hinit : ∀ (R : Result → Shared → Prop), (∀ (h' : Heap) (tk : Nat) L es ep t, SQ P w h' s.heap.objs.size L es ep t → Got ks ks.length L → (∀ b o, s.heap.get? b = some o → h'.get? b = some o) → R (.ok (.ret .none)) { s with heap := h', toks := tk }) →
      wpAny (model P w) A.in1.in1 (Builtin.«set.__init__» ⟨[.ref s.heap.objs.size, vv], []⟩) (fun fin s' => match fin with | .done f => R (.ok f) s' | .again c' => c'.quiet = true ∧ codeAny (model P w) A.in1 c' R s') (fun e s' => R (.error e) s') { s with heap := s.heap.push (newSetObj w) })
    (h : ∀ (h' : Heap) (tk : Nat) L es ep t, SQ P w h' s.heap.objs.size L es ep t → Got ks ks.length L → (∀ b o, s.heap.get? b = some o → h'.get? b = some o) → Q (.ref s.heap.objs.size) { s with heap := h', toks := tk }) :
    wpAny (model P w) A (call (.type "set") [vv]) Q E s := by
  obtain ⟨c, tl, hmro⟩ := PySem.F.called_set.mro
  have hmade := PySem.F.called_set.made
  have hsub := PySem.F.called_set.sub
  refine wpAny_call (codeAny_of_tree ?_)
  show wpAny _ _ (callAny (.type "set") _) _ _ _
  refine wpAny_pure ⟨Code.quiet_builtin _ (by decide +kernel), codeAny_builtin PySem.F.entry_type_call ?_⟩
  rw [Around.under_plain (weight_type_call_type "set" [vv] []) rfl]
  have h1 := PySem.F.called_set.notType
  have h2 := PySem.F.called_set.canCreate
  have hct := PySem.F.typeCall_set_1 vv
  repeat (any_goals (first | assumption | wp_step))
  refine codeAny_mono (code_set_led1 vv (E := E) (Q₁ := fun obj s₁ => obj = .ref s.heap.objs.size ∧ s₁ = { s with heap := s.heap.push (newSetObj w) }) ⟨rfl, rfl⟩) fun r s₁ hr => ?_
  cases r with
  | error e => exact hr
  | ok fl =>
    cases fl with
    | ret obj =>
      obtain ⟨rfl, rfl⟩ := hr
      have hS : (s.heap.push (newSetObj w)).get? s.heap.objs.size = some (newSetObj w) := Heap.get?_push_size _ rfl
      have hT : Shared.TypeIs { s with heap := s.heap.push (newSetObj w) } (.ref s.heap.objs.size) "set" := ⟨_, hS, rfl⟩
      have hli := PySem.F.called_set.init.lookup
      have hbi := PySem.F.called_set.init.bind (.ref s.heap.objs.size)
      repeat (any_goals (first | assumption | wp_step))
      refine codeAny_mono (codeAny_call_builtin (R := wants (fun r s₂ => r = .none ∧ ∃ h' tk L es ep t, s₂ = { s with heap := h', toks := tk } ∧ SQ P w h' s.heap.objs.size L es ep t ∧ Got ks ks.length L ∧
          (∀ b o, s.heap.get? b = some o → h'.get? b = some o)) E) PySem.F.called_set.init.plain PySem.F.entry_set_init (check_set_init_1 hT ?_)) fun r₂ s₂ hr₂ => ?_
      · exact hinit _ fun h' tk L es ep t a1 a2 a3 => ⟨rfl, h', tk, L, es, ep, t, rfl, a1, a2, a3⟩
      · cases r₂ with
        | error e => exact hr₂
        | ok fl₂ =>
          cases fl₂ with
          | ret r =>
            obtain ⟨rfl, h', tk, L, es, ep, t, rfl, hS', g', hk'⟩ := hr₂
            repeat (any_goals (first | assumption | wp_step))
            exact h _ _ _ _ _ _ hS' g' hk'
          | _ => exact hr₂.elim
    | _ => exact hr.elim
end
end GZ
end

section
set_option Elab.async false
set_option linter.all false
set_option maxRecDepth 100000
set_option maxHeartbeats 3200000
namespace GZ
open PySem PySem.Spec PyProof.Rows L2
section
variable {P : Program} {w : World} {A : Around} {E : Value → Shared → Prop} {s : Shared}

/-- set(xs), xs a list of tuples of ints, among at most 64 -/
theorem call_set_lst {l : Addr} {items : Array Value} (ks : List (Addr × List Int)) (U : List (List Int)) (hU : U.length ≤ 64) (hkU : ∀ p ∈ ks, p.2 ∈ U) {Q : Value → Shared → Prop} (hh : A.handled = none) (hl : s.heap.IsList l items) (hit : items.toList = ks.map fun p => Value.ref p.1)
    (hk : ∀ p ∈ ks, IsT P w s.heap p.2 p.1) (hu : A.units + 3 < cLine)
    (h : ∀ (h' : Heap) (tk : Nat) L es ep t, SQ P w h' s.heap.objs.size L es ep t → Got ks ks.length L → (∀ b o, s.heap.get? b = some o → h'.get? b = some o) → Q (.ref s.heap.objs.size) { s with heap := h', toks := tk }) :
    wpAny (model P w) A (call (.type "set") [.ref l]) Q E s := by
  have hisz : items.size = ks.length := by
    have q := congrArg List.length hit
    rw [Array.length_toList, List.length_map] at q
    exact q
  refine set_of (items := items) ks U hU hkU hu (fun R hR => ?_) h
  have hl0 := hl
  obtain ⟨ol, hol, hcl, nl, hdl⟩ := hl
  obtain ⟨ocls, odict, odata, oslots⟩ := ol
  simp only at hcl hdl
  subst hcl
  subst hdl
  have hol' : (s.heap.push (newSetObj w)).get? l = some { cls := .type "list", dict := odict, data := .seq items nl, slots := oslots } := Heap.get?_push_of_some _ hol
  have hsls := PySem.F.sub_list_set
  have hslf := PySem.F.sub_list_frozenset
  have hne : (Value.type "list" == Value.type "dict") = false := by decide
  have hl1 : (s.heap.push (newSetObj w)).IsList l items := ⟨_, hol', rfl, nl, rfl⟩
  unfold Builtin.«set.__init__» noKeywords Builtin.Frozenset.updateFrom
  generalize hPI : pyIter = PI
  wp_walk
  subst hPI
  refine wpAny_pyIter_list hl1 ?_
  refine wpAny_bind (wpAny_runValue ?_)
  have hlS : l < s.heap.objs.size := Heap.lt_size hol
  have hh3 : A.in1.in1.in1.handled = none := by simp [hh]
  have hneI : l ≠ (s.heap.push (newSetObj w)).objs.size := by
    rw [Heap.size_push]; exact Nat.ne_of_lt (Nat.lt_succ_of_lt hlS)
  have hSf : s.heap.objs.size ∉ [(s.heap.push (newSetObj w)).objs.size, l] := by
    rw [Heap.size_push]; simp only [List.mem_cons, List.mem_singleton, List.not_mem_nil, or_false, not_or]
    exact ⟨Nat.ne_of_lt (Nat.lt_succ_self _), Nat.ne_of_gt hlS⟩
  have hval : ∀ (i : Nat) (v : Value), items[i]? = some v → ∃ p, ks[i]? = some p ∧ v = .ref p.1 := fun i v hv => by
    have q : items.toList[i]? = some v := by rw [Array.getElem?_toList]; exact hv
    rw [hit, List.getElem?_map] at q
    cases hq : ks[i]? with
    | none => rw [hq] at q; cases q
    | some p =>
      rw [hq] at q
      exact ⟨p, rfl, (Option.some.inj q).symm⟩
  have none_of : ∀ b, s.heap.objs.size ≤ b → s.heap.get? b = none := fun b hb => by
    cases q : s.heap.get? b with
    | none => rfl
    | some o => exact absurd (Nat.lt_of_lt_of_le (Heap.lt_size q) hb) (Nat.lt_irrefl _)
  refine upd_loop ((Walks.list hh3 _ l hneI items).toS) s.heap.objs.size
    hSf ks U hU hkU hisz hval s.heap hk (none_of _ (Nat.le_refl _)) (fun b hb => none_of b (by
      rw [List.mem_singleton.mp hb, Heap.size_push]
      exact Nat.le_succ _)) hu (items.size - 0) 0 _ (by omega) (Nat.zero_le _)
    ⟨⟨_, Heap.get?_push_size _ rfl, rfl, rfl⟩, (hl1.push _)⟩ (fun b o e => Heap.get?_push_of_some _ (Heap.get?_push_of_some _ e)) ?hS0 ?hR
  case hS0 =>
    have hget : ((s.heap.push (newSetObj w)).push { cls := .type "list_iterator", data := .fields #[.ref l, .int 0 0] }).get? s.heap.objs.size = some (newSetObj w) := Heap.get?_push_of_some _ (Heap.get?_push_size _ rfl)
    exact ⟨[], #[], 0, _, SQ.ofH (setTR_fresh hget), Got.zero ks⟩
  case hR =>
    intro s' L es ep t hm hS' g' hkp
    obtain ⟨h', g2, d', tk', os'⟩ := s'
    have eg : g2 = s.gens := hm.gens
    have ed : d' = s.drawn := hm.drawn
    have eo : os' = s.os := hm.os
    subst eg
    subst ed
    subst eo
    show wpAny _ _ _ _ _ _
    refine wpAny_pure ?_
    show wpAny _ _ (ret Value.none) _ _ _
    rw [hisz] at g'
    exact wpAny_pure (hR h' tk' L es ep t hS' g' hkp)

/-- set(xs), xs a tuple of tuples of ints, among at most 64 -/
theorem call_set_tup {l : Addr} {items : Array Value} (ks : List (Addr × List Int)) (U : List (List Int)) (hU : U.length ≤ 64) (hkU : ∀ p ∈ ks, p.2 ∈ U) {Q : Value → Shared → Prop} (hh : A.handled = none) (hl : s.heap.IsTuple l items) (hit : items.toList = ks.map fun p => Value.ref p.1)
    (hk : ∀ p ∈ ks, IsT P w s.heap p.2 p.1) (hu : A.units + 3 < cLine)
    (h : ∀ (h' : Heap) (tk : Nat) L es ep t, SQ P w h' s.heap.objs.size L es ep t → Got ks ks.length L → (∀ b o, s.heap.get? b = some o → h'.get? b = some o) → Q (.ref s.heap.objs.size) { s with heap := h', toks := tk }) :
    wpAny (model P w) A (call (.type "set") [.ref l]) Q E s := by
  have hisz : items.size = ks.length := by
    have q := congrArg List.length hit
    rw [Array.length_toList, List.length_map] at q
    exact q
  refine set_of (items := items) ks U hU hkU hu (fun R hR => ?_) h
  have hl0 := hl
  obtain ⟨ol, hol, hcl, nl, hdl⟩ := hl
  obtain ⟨ocls, odict, odata, oslots⟩ := ol
  simp only at hcl hdl
  subst hcl
  subst hdl
  have hol' : (s.heap.push (newSetObj w)).get? l = some { cls := .type "tuple", dict := odict, data := .seq items nl, slots := oslots } := Heap.get?_push_of_some _ hol
  have hsls := PySem.F.sub_tuple_set
  have hslf := PySem.F.sub_tuple_frozenset
  have hne : (Value.type "tuple" == Value.type "dict") = false := by decide
  have hl1 : (s.heap.push (newSetObj w)).IsTuple l items := ⟨_, hol', rfl, nl, rfl⟩
  unfold Builtin.«set.__init__» noKeywords Builtin.Frozenset.updateFrom
  generalize hPI : pyIter = PI
  wp_walk
  subst hPI
  refine wpAny_pyIter_tuple hl1 ?_
  refine wpAny_bind (wpAny_runValue ?_)
  have hlS : l < s.heap.objs.size := Heap.lt_size hol
  have hh3 : A.in1.in1.in1.handled = none := by simp [hh]
  have hneI : l ≠ (s.heap.push (newSetObj w)).objs.size := by
    rw [Heap.size_push]; exact Nat.ne_of_lt (Nat.lt_succ_of_lt hlS)
  have hSf : s.heap.objs.size ∉ [(s.heap.push (newSetObj w)).objs.size, l] := by
    rw [Heap.size_push]; simp only [List.mem_cons, List.mem_singleton, List.not_mem_nil, or_false, not_or]
    exact ⟨Nat.ne_of_lt (Nat.lt_succ_self _), Nat.ne_of_gt hlS⟩
  have hval : ∀ (i : Nat) (v : Value), items[i]? = some v → ∃ p, ks[i]? = some p ∧ v = .ref p.1 := fun i v hv => by
    have q : items.toList[i]? = some v := by rw [Array.getElem?_toList]; exact hv
    rw [hit, List.getElem?_map] at q
    cases hq : ks[i]? with
    | none => rw [hq] at q; cases q
    | some p =>
      rw [hq] at q
      exact ⟨p, rfl, (Option.some.inj q).symm⟩
  have none_of : ∀ b, s.heap.objs.size ≤ b → s.heap.get? b = none := fun b hb => by
    cases q : s.heap.get? b with
    | none => rfl
    | some o => exact absurd (Nat.lt_of_lt_of_le (Heap.lt_size q) hb) (Nat.lt_irrefl _)
  refine upd_loop ((Walks.tuple hh3 _ l hneI items).toS) s.heap.objs.size
    hSf ks U hU hkU hisz hval s.heap hk (none_of _ (Nat.le_refl _)) (fun b hb => none_of b (by
      rw [List.mem_singleton.mp hb, Heap.size_push]
      exact Nat.le_succ _)) hu (items.size - 0) 0 _ (by omega) (Nat.zero_le _)
    ⟨⟨_, Heap.get?_push_size _ rfl, rfl, rfl⟩, (hl1.push _)⟩ (fun b o e => Heap.get?_push_of_some _ (Heap.get?_push_of_some _ e)) ?hS0 ?hR
  case hS0 =>
    have hget : ((s.heap.push (newSetObj w)).push { cls := .type "tuple_iterator", data := .fields #[.ref l, .int 0 0] }).get? s.heap.objs.size = some (newSetObj w) := Heap.get?_push_of_some _ (Heap.get?_push_size _ rfl)
    exact ⟨[], #[], 0, _, SQ.ofH (setTR_fresh hget), Got.zero ks⟩
  case hR =>
    intro s' L es ep t hm hS' g' hkp
    obtain ⟨h', g2, d', tk', os'⟩ := s'
    have eg : g2 = s.gens := hm.gens
    have ed : d' = s.drawn := hm.drawn
    have eo : os' = s.os := hm.os
    subst eg
    subst ed
    subst eo
    show wpAny _ _ _ _ _ _
    refine wpAny_pure ?_
    show wpAny _ _ (ret Value.none) _ _ _
    rw [hisz] at g'
    exact wpAny_pure (hR h' tk' L es ep t hS' g' hkp)
end
end GZ
end

section
set_option Elab.async false
set_option linter.all false
set_option maxRecDepth 100000
set_option maxHeartbeats 3200000
namespace GZ
open PySem PySem.Spec PyProof.Rows L2 Ly GY
def kOf (c : C3) : List Int := [c.1, c.2.1, c.2.2]
theorem kOf_inj {a b : C3} (h : kOf a = kOf b) : a = b := by
  unfold kOf at h
  injection h with h1 h2
  injection h2 with h2 h3
  injection h3 with h3 _
  exact c3_ext h1 h2 h3
abbrev kL (L : List (Addr × C3)) : List (Addr × List Int) := L.map fun p => (p.1, kOf p.2)
section
variable {P : Program} {w : World} {A : Around} {E : Value → Shared → Prop} {s : Shared}
theorem reads_c {h : Heap} {b : Addr} {c : C3} (x : IsT P w h (kOf c) b) : Reads h (.ref b) (cD c) [] := by
  obtain ⟨o, items, n, ho, hc, hd, hi⟩ := x
  refine .tuple ho hc hd ?_
  have hi2 : IntsAre items.toList (kOf c) := ints_of_items hi
  generalize items.toList = vs at hi2
  unfold kOf at hi2
  cases hi2 with
  | cons n1 t1 h2 =>
    cases h2 with
    | cons n2 t2 h3 =>
      cases h3 with
      | cons n3 t3 h4 =>
        cases h4
        exact .cons (.int _ _) (.cons (.int _ _) (.cons (.int _ _) .nil))
/-- sorted of a set of cells -/
theorem sorted_q {a : Addr} {L : List (Addr × C3)} {es : Array (Int × Value)} {ep : Nat} {t : SetTable} {Q : Value → Shared → Prop} (R : SQ P w s.heap a (kL L) es ep t) (hh : A.handled = none) (hu : A.units + 8 < cLine)
    (hQ : ∀ s' p (out : Array Value) (c : Nat) (L' : List (Addr × C3)), (∀ b o, s.heap.get? b = some o → s'.heap.get? b = some o) → s'.gens = s.gens → s'.os = s.os → s.heap.objs.size ≤ p →
      s'.heap.get? p = some (seqObj "list" out c) → out.toList = L'.map (fun q => Value.ref q.1) → L'.Perm L → L'.Pairwise (fun q r => ¬ lt3 r.2 q.2) → Q (.ref p) s') :
    wpAny (model P w) A (call (.builtin "sorted") [.ref a]) Q E s := by
  obtain ⟨o, ho, hex, hd⟩ := R.ob
  have hsz := R.size
  have hfew := R.few
  rw [List.length_map] at hsz hfew
  refine Calls.call_function_entry kind_sorted plain_sorted entry_sorted (args_sorted1 _) ?_
  unfold Builtin.«sorted»
  refine wpAny_bind (m := checkCount "sorted" 1 1 _) (wpAny_pure ?_)
  refine wpAny_bind (collect_set (A := A.in1) hh ⟨o, ho, hex.1, hd⟩ R.fits (by unfold scanBound; omega) R.tab.ris R.led fun s1 vs k1 hz g1 o1 pm => ?_)
  have hes : es.toList.map (·.2) = L.map fun q => Value.ref q.1 := by
    rw [R.rows]
    unfold rowsOf
    rw [List.map_map, List.map_map] <;> rfl
  rw [hes] at pm
  have ord : ∀ vs : List Value, (∀ v ∈ vs, ∃ q ∈ L, v = Value.ref q.1) → ∃ L1 : List (Addr × C3), vs = L1.map (fun q => Value.ref q.1) ∧ ∀ q ∈ L1, q ∈ L := by
    intro vs
    induction vs with
    | nil => exact fun _ => ⟨[], rfl, fun q hq => (by cases hq)⟩
    | cons v vs ih =>
      intro hv
      obtain ⟨q, hq, e⟩ := hv v List.mem_cons_self
      obtain ⟨L1, e1, hs⟩ := ih fun u hu => hv u (List.mem_cons_of_mem _ hu)
      refine ⟨q :: L1, by rw [List.map_cons, e, e1], fun r hr => ?_⟩
      rcases List.mem_cons.mp hr with z | z
      · rw [z]; exact hq
      · exact hs r z
  have tupL : ∀ q ∈ L, IsT P w s.heap (kOf q.2) q.1 := fun q hq => R.tup (q.1, kOf q.2) (List.mem_map.mpr ⟨q, hq, rfl⟩)
  have one : ∀ q ∈ L, ∀ r ∈ L, q.1 = r.1 → q = r := fun q hq r hr e => by
    have a1 := tupL q hq
    have a2 := tupL r hr
    rw [e] at a1
    exact Prod.ext e (kOf_inj (a1.inj a2))
  have nL : L.Nodup := by
    have q := nodup_of_map R.nd
    exact nodup_of_map q
  have nref : (L.map fun q => Value.ref q.1).Nodup := by
    refine List.pairwise_map.mpr (List.Pairwise.imp_of_mem (fun {q r} hq hr hne e => ?_) nL)
    injection e with e
    exact hne (one q hq r hr e)
  have perm_of : ∀ L1 : List (Addr × C3), (∀ q ∈ L1, q ∈ L) → (L1.map (fun q => Value.ref q.1)).Perm (L.map fun q => Value.ref q.1) → L1.Perm L := by
    intro L1 hs pm1
    have n1 : L1.Nodup := nodup_of_map (pm1.nodup_iff.mpr nref)
    refine (List.perm_ext_iff_of_nodup n1 nL).mpr fun q => ⟨hs q, fun hq => ?_⟩
    have hm : Value.ref q.1 ∈ L1.map (fun q => Value.ref q.1) := pm1.mem_iff.mpr (List.mem_map.mpr ⟨q, hq, rfl⟩)
    obtain ⟨r, hr, e⟩ := List.mem_map.mp hm
    injection e with e
    rw [← one r (hs r hr) q hq e]
    exact hr
  obtain ⟨L1, e1, hs1⟩ := ord vs fun v hv => by
    obtain ⟨q, hq, e⟩ := List.mem_map.mp (pm.mem_iff.mp hv)
    exact ⟨q, hq, e.symm⟩
  have pm1 : L1.Perm L := perm_of L1 hs1 (by rw [← e1]; exact pm)
  have hvl : vs.length ≤ 64 := by rw [pm.length_eq, List.length_map]; exact hfew
  refine wpAny_bind (wpAny_newList ?_ (by rw [sizeLine_eq]; omega))
  have hoL : (s1.heap.push (seqObj "list" vs.toArray 0)).get? s1.heap.objs.size = some (seqObj "list" vs.toArray 0) := Heap.get?_push_size _ rfl
  have tk : ∀ q ∈ L, Reads (s1.heap.push (seqObj "list" vs.toArray 0)) (.ref q.1) (cD q.2) [] := fun q hq => reads_c (P := P) (w := w) (isT_keep (tupL q hq) fun b u e => Heap.get?_push_of_some _ (k1 b u e))
  have ea : ∀ (L1 : List (Addr × C3)), PySem.W.EachIs (fun (v : Value) (b : Addr × C3) => v = .ref b.1) (L1.map fun q => Value.ref q.1) L1 := by
    intro L1
    induction L1 with
    | nil => exact .nil
    | cons q L1 ih => exact .cons rfl ih
  have er : ∀ (L1 : List (Addr × C3)), (∀ q ∈ L1, q ∈ L) → PySem.W.EachIs (fun (v : Value) (b : Addr × C3) => ∃ as, Reads (s1.heap.push (seqObj "list" vs.toArray 0)) v ((fun b : Addr × C3 => cD b.2) b) as ∧ s1.heap.objs.size ∉ as) (L1.map fun q => Value.ref q.1) L1 := by
    intro L1
    induction L1 with
    | nil => exact fun _ => .nil
    | cons q L1 ih => exact fun hs => .cons ⟨[], tk q (hs q List.mem_cons_self), by simp⟩ (ih fun r hr => hs r (List.mem_cons_of_mem _ hr))
  have hl1 : L1.length = vs.length := by rw [e1, List.length_map]
  refine wpAny_bind (wpAny_holding (PySem.W.list_sort_data (s := { s1 with heap := s1.heap.push (seqObj "list" vs.toArray 0) }) (enc := fun b : Addr × C3 => cD b.2) (R := fun (v : Value) (b : Addr × C3) => v = .ref b.1) (bs := L1) (vs := vs) hoL (by rw [e1]; exact ea L1) (by have q := er L1 hs1; rw [← e1] at q; exact q)
    (PySem.W.AllAlike.of fun b b' => cD_alike _ _) (PySem.W.Sortable.tuples fun b => ⟨_, _, rfl⟩) (by rw [hl1, sizeLine_eq]; omega) (fun b _ => by rw [cD_depth]; show A.units + 1 + 1 + 1 < _; omega) fun out ho2 eo => ?_))
  obtain ⟨c, hc⟩ := sortedHeap_at (vs := vs) (out := out.toArray) hoL
  rw [leC] at eo
  have pm2 := List.mergeSort_perm L1 (fun a b => decide (¬ lt3 b.2 a.2))
  have so := List.pairwise_mergeSort (le := fun (a b : Addr × C3) => decide (¬ lt3 b.2 a.2)) (fun a b c => le_trans3 a.2 b.2 c.2) (fun a b => le_total3 a.2 b.2) L1
  have out_of : ∀ {us : List Value} {bs : List (Addr × C3)}, PySem.W.EachIs (fun (v : Value) (b : Addr × C3) => v = .ref b.1) us bs → us = bs.map fun q => Value.ref q.1 := by
    intro us bs h
    induction h with
    | nil => rfl
    | cons h1 _ ih => rw [h1, ih] <;> rfl
  refine wpAny_pure ⟨_, rfl, hQ _ s1.heap.objs.size out.toArray c _ (fun b u e => ?_) g1 o1 hz hc (by rw [List.toList_toArray]; exact out_of eo) (pm2.trans pm1) (List.Pairwise.imp (fun {a b} h => by simpa using h) so)⟩
  have q := k1 b u e
  have hlt := Heap.lt_size q
  show (sortedHeap (s1.heap.push (seqObj "list" vs.toArray 0)) s1.heap.objs.size vs out.toArray).get? b = some u
  rw [sortedHeap_old (Nat.ne_of_lt hlt) (by rw [size_push']; exact Nat.lt_succ_of_lt hlt)]
  exact Heap.get?_push_of_some _ q
end

/-! ### over the layer -/
structure SQ0 (P : Program) (w : World) (h : Heap) (a : Addr) (L : List (Addr × C3)) : Prop where
  ex : ∃ (es : Array (Int × Value)) (ep : Nat) (t : SetTable), (∃ o, h.get? a = some o ∧ o.ExactSet ∧ o.data = .set es ep t) ∧ es.toList = rowsOf P w (kL L) ∧ TabOk t ((kL L).map fun p => thash P w p.2) ∧ ((kL L).map (·.2)).Nodup ∧ t.plain = true ∧
    (w.params.followText "set-order" = true ∨ t.led = true) ∧ (kL L).length * 5 < t.mask * 3 ∧ (kL L).length ≤ 64
def SQO (P : Program) (w : World) (a : Addr) (L : List (Addr × C3)) : HO := .ext fun h => SQ0 P w h a L
theorem SQ.t0 {P : Program} {w : World} {h : Heap} {a : Addr} {L : List (Addr × C3)} {es : Array (Int × Value)} {ep : Nat} {t : SetTable} (R : SQ P w h a (kL L) es ep t) : SQ0 P w h a L :=
  ⟨es, ep, t, R.ob, R.rows, R.tab, R.nd, R.plain, R.led, R.room, R.few⟩
theorem SQ0.full {P : Program} {w : World} {h : Heap} {a : Addr} {L : List (Addr × C3)} (R : SQ0 P w h a L) (ht : ∀ p ∈ kL L, IsT P w h p.2 p.1) : ∃ es ep t, SQ P w h a (kL L) es ep t := by
  obtain ⟨es, ep, t, h1, h2, h3, h4, h5, h6, h7, h8⟩ := R.ex
  exact ⟨es, ep, t, h1, h2, h3, h4, ht, h5, h6, h7, h8⟩
theorem sqo_new {P : Program} {w : World} {H : Hp} {h : Heap} {a : Addr} {L : List (Addr × C3)} (R : SQ0 P w h a L) : ObjOk P w H h a (SQO P w a L) := by
  have ⟨es, ep, t, ⟨o, ho, r⟩, q⟩ := R.ex
  refine ⟨R, ⟨o, ho⟩, fun h1 h2 p k => ?_⟩
  have ⟨es', ep', t', ⟨o', ho', r'⟩, q'⟩ := SQ0.ex p
  exact ⟨es', ep', t', ⟨o', k o' ho', r'⟩, q'⟩
/-- the addresses of the cells -/
theorem addrs_of {K : PySem.W.Frag} {H : Hp} : ∀ {xs : List V} {cs : List C3}, Items K H xs cs → ∃ L : List (Addr × C3), xs = L.map (fun p => V.ref p.1) ∧ L.map (·.2) = cs ∧ ∀ p ∈ L, SqT K H p.1 ((kOf p.2).map V.int)
  | [], [], _ => ⟨[], rfl, rfl, fun p hp => (by cases hp)⟩
  | [], _ :: _, h => by cases h
  | _ :: _, [], h => by cases h
  | x :: xs, c :: cs, h => by
    cases h with
    | cons h1 h2 =>
      obtain ⟨p, e, hs⟩ := of_dp_c h1
      obtain ⟨L, e1, e2, e3⟩ := addrs_of (xs := xs) (cs := cs) h2
      refine ⟨(p, c) :: L, by rw [e, e1] <;> rfl, by rw [← e2] <;> rfl, fun q hq => ?_⟩
      rcases List.mem_cons.mp hq with z | z
      · rw [z]; exact hs
      · exact e3 q z
section
variable {X : Cx}
theorem roomK : (room.map kOf).length ≤ 64 := by
  rw [List.length_map]
  unfold room
  simp
/-- set(xs), xs a list or a tuple of cells in the room -/
def rSetC (K : PySem.W.Frag) (P : Program) (w : World) : List V → Hp → VK → Prop := fun vs H Q => ∃ (v : V) (cs : List C3), vs = [v] ∧ (CellsL K H v cs ∨ CellsT K H v cs) ∧ (∀ c ∈ cs, InR c) ∧
  ∀ a (L : List (Addr × C3)), H a = none → (∀ p ∈ L, p.2 ∈ cs ∧ SqT K H p.1 ((kOf p.2).map V.int)) → (∀ c ∈ cs, c ∈ L.map (·.2)) → Q (.ref a) (upd H a (SQO P w a L))
theorem unk {ks L : List (Addr × C3)} {M : List (Addr × List Int)} (g : Got (kL ks) (kL ks).length M) : ∃ L : List (Addr × C3), M = kL L ∧ (∀ p ∈ L, p ∈ ks) ∧ ∀ p ∈ ks, p.2 ∈ L.map (·.2) := by
  have key : ∀ M : List (Addr × List Int), (∀ p ∈ M, p ∈ kL ks) → ∃ L : List (Addr × C3), M = kL L ∧ ∀ p ∈ L, p ∈ ks := by
    intro M
    induction M with
    | nil => exact fun _ => ⟨[], rfl, fun p hp => (by cases hp)⟩
    | cons m M ih =>
      intro h
      obtain ⟨p, hp, e⟩ := List.mem_map.mp (h m List.mem_cons_self)
      obtain ⟨L, e1, e2⟩ := ih fun q hq => h q (List.mem_cons_of_mem _ hq)
      refine ⟨p :: L, by rw [← e, e1] <;> rfl, fun q hq => ?_⟩
      rcases List.mem_cons.mp hq with z | z
      · rw [z]; exact hp
      · exact e2 q z
  obtain ⟨L, e1, e2⟩ := key M fun p hp => List.mem_of_mem_take (g.sub p hp)
  refine ⟨L, e1, e2, fun p hp => ?_⟩
  have q := g.all (p.1, kOf p.2) (by rw [List.take_length]; exact List.mem_map.mpr ⟨p, hp, rfl⟩)
  rw [e1] at q
  obtain ⟨m, hm, e⟩ := List.mem_map.mp q
  obtain ⟨r, hr, e3⟩ := List.mem_map.mp hm
  refine List.mem_map.mpr ⟨r, hr, kOf_inj ?_⟩
  rw [← e3] at e
  exact e
theorem cr_setC (hc : X.calm = true) (hu : X.A.units + 64 < cLine) : CallR X (.type "set") (rSetC X.K X.prog X.w) := by
  intro pins s σ H xs us Q I r h
  obtain ⟨v, cs, rfl, hcs, hin, q⟩ := h
  have hn : H s.heap.objs.size = none := I.hok.fresh (Nat.le_refl _)
  have fin : ∀ (ks : List (Addr × C3)), ks.map (·.2) = cs → (∀ p ∈ ks, SqT X.K H p.1 ((kOf p.2).map V.int)) → ∀ (h' : Heap) (tk : Nat) M es ep t, SQ X.prog X.w h' s.heap.objs.size M es ep t → Got (kL ks) (kL ks).length M → (∀ b o, s.heap.get? b = some o → h'.get? b = some o) →
      EP X pins σ Q (.ref s.heap.objs.size) { s with heap := h', toks := tk } := fun ks ek hk h' tk M es ep t R g k => by
    obtain ⟨L, e1, e2, e3⟩ := unk (L := []) g
    subst e1
    refine ⟨.ref s.heap.objs.size, upd H s.heap.objs.size (SQO X.prog X.w s.heap.objs.size L), I.laid (t' := tk) k (Nat.le_refl _) (sqo_new R.t0), rfl, q _ L hn (fun p hp => ⟨?_, hk p (e2 p hp)⟩) fun c hc => ?_⟩
    · rw [← ek]
      exact List.mem_map.mpr ⟨p, e2 p hp, rfl⟩
    · rw [← ek] at hc
      obtain ⟨p, hp, e⟩ := List.mem_map.mp hc
      rw [← e]
      exact e3 p hp
  have inU : ∀ (ks : List (Addr × C3)), ks.map (·.2) = cs → ∀ p ∈ kL ks, p.2 ∈ room.map kOf := fun ks ek p hp => by
    obtain ⟨r, hr, e⟩ := List.mem_map.mp hp
    rw [← e]
    exact List.mem_map.mpr ⟨r.2, mem_room.mpr (hin r.2 (by rw [← ek]; exact List.mem_map.mpr ⟨r, hr, rfl⟩)), rfl⟩
  have isTs : ∀ (ks : List (Addr × C3)), (∀ p ∈ ks, SqT X.K H p.1 ((kOf p.2).map V.int)) → ∀ p ∈ kL ks, IsT X.prog X.w s.heap p.2 p.1 := fun ks hk p hp => by
    obtain ⟨r, hr, e⟩ := List.mem_map.mp hp
    rw [← e]
    exact I.isT (hk r hr)
  have refs : ∀ (ks : List (Addr × C3)) {its : List Value}, Vals (ks.map fun p => V.ref p.1) its → its = (kL ks).map fun p => Value.ref p.1 := by
    intro ks
    induction ks with
    | nil =>
      intro its h
      cases h
      rfl
    | cons p ks ih =>
      intro its h
      cases h with
      | cons h1 h2 =>
        cases h1
        rw [ih h2] <;> rfl
  cases r with
  | cons r1 r2 =>
    cases r2
    rcases hcs with hcs | hcs
    · obtain ⟨l, xs, rfl, hs, hi⟩ := of_cellsL hcs
      cases r1
      obtain ⟨ks, e1, e2, hk⟩ := addrs_of hi
      subst e1
      obtain ⟨its, rv, pl, hz⟩ := I.list hs
      exact call_set_lst (P := X.prog) (w := X.w) (kL ks) (room.map kOf) roomK (inU ks e2) (I.ok.hd hc) pl.isList (by simpa using refs ks rv) (isTs ks hk) (by omega) (fin ks e2 hk)
    · obtain ⟨l, xs, rfl, hs, hi⟩ := of_cellsT hcs
      cases r1
      obtain ⟨ks, e1, e2, hk⟩ := addrs_of hi
      subst e1
      obtain ⟨its, rv, pl, hz⟩ := I.tuple hs
      exact call_set_tup (P := X.prog) (w := X.w) (kL ks) (room.map kOf) roomK (inU ks e2) (I.ok.hd hc) (show s.heap.IsTuple l its.toArray from pl) (by simpa using refs ks rv) (isTs ks hk) (by omega) (fin ks e2 hk)
/-- sorted(set) -/
def rSortedQ (K : PySem.W.Frag) (P : Program) (w : World) : List V → Hp → VK → Prop := fun vs H Q => ∃ (a : Addr) (L : List (Addr × C3)), vs = [V.ref a] ∧ H a = some (SQO P w a L) ∧ (∀ p ∈ L, SqT K H p.1 ((kOf p.2).map V.int)) ∧
  ∀ (ys : List V) (ds : List C3) (p : Addr), ds.Perm (L.map (·.2)) → ds.Nodup → (ds.Pairwise fun a b => ¬ lt3 b a) → ds.length ≤ 64 → Items K H ys ds → H p = none → Q (.ref p) (upd H p (.lst ys))
theorem items_of {K : PySem.W.Frag} {H : Hp} : ∀ {L : List (Addr × C3)}, (∀ p ∈ L, SqT K H p.1 ((kOf p.2).map V.int)) → Items K H (L.map fun p => V.ref p.1) (L.map (·.2))
  | [], _ => .nil
  | p :: L, h => .cons (dp_c (h p List.mem_cons_self)) (items_of fun q hq => h q (List.mem_cons_of_mem _ hq))
theorem refs_vals : ∀ (L : List (Addr × C3)), Vals (L.map fun p => V.ref p.1) (L.map fun p => Value.ref p.1)
  | [] => .nil
  | p :: L => .cons rfl (refs_vals L)
theorem cr_sortedQ (hc : X.calm = true) (hu : X.A.units + 64 < cLine) : CallR X (.builtin "sorted") (rSortedQ X.K X.prog X.w) := by
  intro pins s σ H vs us Q I r h
  obtain ⟨a, L, rfl, ha, hk, q⟩ := h
  have R0 : SQ0 X.prog X.w s.heap a L := (I.hok a _ ha).1
  obtain ⟨es, ep, t, R⟩ := R0.full fun p hp => by
    obtain ⟨r, hr, e⟩ := List.mem_map.mp hp
    rw [← e]
    exact I.isT (hk r hr)
  cases r with
  | cons r1 r2 =>
    cases r2
    cases r1
    refine sorted_q R (I.ok.hd hc) (by omega) fun s' p out c L' k g o hp hg hout pm pw => ?_
    have hfew : L'.length ≤ 64 := by
      have q := R.few
      rw [List.length_map] at q
      rw [pm.length_eq]
      exact q
    have hlen : (L'.map fun q => V.ref q.1).length ≤ sizeLine := by rw [List.length_map, sizeLine_eq]; omega
    have hn : H p = none := I.hok.fresh hp
    have hv : Vals (L'.map fun q => V.ref q.1) out.toList := by rw [hout]; exact refs_vals L'
    have J : Inv X pins σ (upd H p (.lst (L'.map fun q => V.ref q.1))) { s with heap := s'.heap, gens := s'.gens, drawn := s'.drawn, toks := s'.toks } :=
      I.call (ch := []) (Un.laid k hp hn) (I.hok.laid k hp ⟨hlen, out.toList, c, hv, hg⟩) (by rw [g]; exact I.bare) (fun _ z => nomatch z)
    have e : s' = { s with heap := s'.heap, gens := s'.gens, drawn := s'.drawn, toks := s'.toks } := by
      cases s'
      cases s
      cases o
      rfl
    rw [e]
    have nd : (L.map (·.2)).Nodup := by
      have q := R.nd
      have e : (kL L).map (·.2) = (L.map (·.2)).map kOf := by simp [kL]
      rw [e] at q
      exact nodup_of_map q
    refine ⟨.ref p, _, J, rfl, q _ (L'.map (·.2)) p (pm.map (·.2)) ((pm.map (·.2)).nodup_iff.mpr nd) ?_ (by rw [List.length_map]; exact hfew) (items_of fun q hq => hk q (pm.mem_iff.mp hq)) hn⟩
    exact List.Pairwise.map _ (fun a b h => h) pw
end
end GZ
end

section
set_option Elab.async false
set_option linter.all false
set_option maxRecDepth 100000
set_option maxHeartbeats 2000000
/-! min, max of a list of ints with default=. -/
namespace GW
open PySem PySem.Spec PyProof.Rows L2
theorem ints_at {vs : List Value} {ns : List Int} (h : IntsAre vs ns) : ∀ {i : Nat} {v : Value}, vs[i]? = some v → ∃ n t, ns[i]? = some n ∧ v = Value.int n t := by
  induction h with
  | nil => exact fun e => by simp at e
  | @cons n t vs ns _ ih =>
    intro i v e
    cases i with
    | zero =>
      have e : Value.int n t = v := by simpa using e
      exact ⟨n, t, rfl, e.symm⟩
    | succ i => exact ih (i := i) (by simpa using e)
theorem minI : ∀ (ys : List Int) (y : Int), PySem.W.minOf y ys ∈ y :: ys ∧ ∀ j ∈ y :: ys, PySem.W.minOf y ys ≤ j
  | [], y => ⟨List.mem_cons_self, fun j hj => by
      have e : j = y := List.mem_singleton.mp hj
      rw [e]
      exact Int.le_refl _⟩
  | z :: ys, y => by
    have e : PySem.W.minOf y (z :: ys) = PySem.W.minOf (if PySem.W.DatumOrd.lt z y = true then z else y) ys := rfl
    have hl : PySem.W.DatumOrd.lt z y = decide (z < y) := rfl
    rw [e, hl]
    obtain ⟨h1, h2⟩ := minI ys (if decide (z < y) = true then z else y)
    have h3 := h2 _ List.mem_cons_self
    refine ⟨?_, fun j hj => ?_⟩
    · rcases List.mem_cons.mp h1 with q | q
      · rw [q]
        split
        · exact List.mem_cons_of_mem _ List.mem_cons_self
        · exact List.mem_cons_self
      · exact List.mem_cons_of_mem _ (List.mem_cons_of_mem _ q)
    · rcases List.mem_cons.mp hj with q | q
      · subst q
        refine Int.le_trans h3 ?_
        split
        · rename_i c
          have := of_decide_eq_true c
          omega
        · exact Int.le_refl _
      · rcases List.mem_cons.mp q with q | q
        · subst q
          refine Int.le_trans h3 ?_
          split
          · exact Int.le_refl _
          · rename_i c
            have c : ¬ j < y := fun z => c (decide_eq_true z)
            omega
        · exact h2 j (List.mem_cons_of_mem _ q)
theorem maxI : ∀ (ys : List Int) (y : Int), PySem.W.maxOf y ys ∈ y :: ys ∧ ∀ j ∈ y :: ys, j ≤ PySem.W.maxOf y ys
  | [], y => ⟨List.mem_cons_self, fun j hj => by
      have e : j = y := List.mem_singleton.mp hj
      rw [e]
      exact Int.le_refl _⟩
  | z :: ys, y => by
    have e : PySem.W.maxOf y (z :: ys) = PySem.W.maxOf (if PySem.W.DatumOrd.lt y z = true then z else y) ys := rfl
    have hl : PySem.W.DatumOrd.lt y z = decide (y < z) := rfl
    rw [e, hl]
    obtain ⟨h1, h2⟩ := maxI ys (if decide (y < z) = true then z else y)
    have h3 := h2 _ List.mem_cons_self
    refine ⟨?_, fun j hj => ?_⟩
    · rcases List.mem_cons.mp h1 with q | q
      · rw [q]
        split
        · exact List.mem_cons_of_mem _ List.mem_cons_self
        · exact List.mem_cons_self
      · exact List.mem_cons_of_mem _ (List.mem_cons_of_mem _ q)
    · rcases List.mem_cons.mp hj with q | q
      · subst q
        refine Int.le_trans ?_ h3
        split
        · rename_i c
          have := of_decide_eq_true c
          omega
        · exact Int.le_refl _
      · rcases List.mem_cons.mp q with q | q
        · subst q
          refine Int.le_trans ?_ h3
          split
          · exact Int.le_refl _
          · rename_i c
            have c : ¬ y < j := fun z => c (decide_eq_true z)
            omega
        · exact h2 j (List.mem_cons_of_mem _ q)
section
variable {X : Cx}
def rMinD (K : PySem.W.Frag) : List V → List V → Hp → VK → Prop := fun xs zs H Q => ∃ (a : Addr) (ns : List Int) (d : Int), xs = [.ref a] ∧ zs = [.int d] ∧ SqL K H a (ns.map V.int) ∧ (ns = [] → Q (.int d) H) ∧ ∀ m, m ∈ ns → (∀ j ∈ ns, m ≤ j) → Q (.int m) H
def rMaxD (K : PySem.W.Frag) : List V → List V → Hp → VK → Prop := fun xs zs H Q => ∃ (a : Addr) (ns : List Int) (d : Int), xs = [.ref a] ∧ zs = [.int d] ∧ SqL K H a (ns.map V.int) ∧ (ns = [] → Q (.int d) H) ∧ ∀ m, m ∈ ns → (∀ j ∈ ns, j ≤ m) → Q (.int m) H
theorem ints_vals : ∀ {ns : List Int} {us : List Value}, Vals (ns.map V.int) us → IntsAre us ns
  | [], _, .nil => .nil
  | n :: ns, _, .cons r t => by
    obtain ⟨tk, rfl⟩ := r
    exact .cons n tk (ints_vals t)
theorem cr_minD (hc : X.calm = true) (hu : X.A.units + 64 < cLine) : CallRK X (.builtin "min") ["default"] (rMinD X.K) := by
  intro pins s σ H xs zs us ws Q I r1 r2 h
  obtain ⟨a, ns, d, rfl, rfl, hs, q0, q1⟩ := h
  cases r1 with
  | cons r1 t1 =>
    cases t1
    cases r1
    cases r2 with
    | cons r2 t2 =>
      cases t2
      obtain ⟨td, rfl⟩ := r2
      obtain ⟨its, rv, pl, hz⟩ := I.list hs
      have ia := ints_vals rv
      refine PySem.W.min_list_datum_default (α := Int) (xs := ns) (I.ok.hd hc) pl.isList (PySem.W.HoldAll.of_ints (by simpa using ia)) (by show X.A.units + 1 + 0 < cLine; omega) (fun e h' tk k => ?_) fun y ys i v h' tk e hi hh k => ?_
      · exact ⟨.int d, H, I.kept (t' := tk) k, ⟨td, rfl⟩, q0 e⟩
      · obtain ⟨n, t, hn, rfl⟩ := ints_at ia (i := i) (v := v) (by simpa using hi)
        have e2 : n = PySem.W.minOf y ys := by
          obtain ⟨as, rd⟩ := hh
          have rd : Reads h' (Value.int n t) (.int (PySem.W.minOf y ys)) as := rd
          cases rd
          rfl
        obtain ⟨m1, m2⟩ := minI ys y
        subst e
        exact ⟨.int n, H, I.kept (t' := tk) k, ⟨t, rfl⟩, q1 n (by rw [e2]; exact m1) (by rw [e2]; exact m2)⟩
theorem cr_maxD (hc : X.calm = true) (hu : X.A.units + 64 < cLine) : CallRK X (.builtin "max") ["default"] (rMaxD X.K) := by
  intro pins s σ H xs zs us ws Q I r1 r2 h
  obtain ⟨a, ns, d, rfl, rfl, hs, q0, q1⟩ := h
  cases r1 with
  | cons r1 t1 =>
    cases t1
    cases r1
    cases r2 with
    | cons r2 t2 =>
      cases t2
      obtain ⟨td, rfl⟩ := r2
      obtain ⟨its, rv, pl, hz⟩ := I.list hs
      have ia := ints_vals rv
      refine PySem.W.max_list_datum_default (α := Int) (xs := ns) (I.ok.hd hc) pl.isList (PySem.W.HoldAll.of_ints (by simpa using ia)) (by show X.A.units + 1 + 0 < cLine; omega) (fun e h' tk k => ?_) fun y ys i v h' tk e hi hh k => ?_
      · exact ⟨.int d, H, I.kept (t' := tk) k, ⟨td, rfl⟩, q0 e⟩
      · obtain ⟨n, t, hn, rfl⟩ := ints_at ia (i := i) (v := v) (by simpa using hi)
        have e2 : n = PySem.W.maxOf y ys := by
          obtain ⟨as, rd⟩ := hh
          have rd : Reads h' (Value.int n t) (.int (PySem.W.maxOf y ys)) as := rd
          cases rd
          rfl
        obtain ⟨m1, m2⟩ := maxI ys y
        subst e
        exact ⟨.int n, H, I.kept (t' := tk) k, ⟨t, rfl⟩, q1 n (by rw [e2]; exact m1) (by rw [e2]; exact m2)⟩
end
end GW
end

section
set_option Elab.async false
set_option linter.all false
set_option maxRecDepth 100000
set_option maxHeartbeats 2000000
/-! A list comprehension of three clauses, plain names as targets, no tests. -/
namespace GV
open PySem PySem.Spec PyProof.Rows L2
/-- what σ knows, σ' knows too -/
def Sub (σ σ' : L2.St) : Prop := σ.length = σ'.length ∧ ∀ (j : Nat) v, σ[j]? = some (some v) → σ'[j]? = some (some v)
theorem Sub.refl (σ : L2.St) : Sub σ σ := ⟨rfl, fun _ _ h => h⟩
theorem Sub.set {σ : L2.St} {i : Nat} {v : V} (h : σ[i]? = some none) : Sub σ (σ.set i (some v)) := by
  refine ⟨by simp, fun j u e => ?_⟩
  have hj : i ≠ j := fun z => by rw [z, e] at h; cases h
  rw [List.getElem?_set_ne hj]
  exact e
section
variable {B : Cx} {pl : List (Addr × Obj)} {σ : L2.St} {e0 : Expr} {lvl i : Nat} {x : Str} {px ip : Pos} {J : It} {it : Addr} {fp : List Addr} {tn : Nat → Heap → Prop} {acc : Value} {N : Nat} {W : Nat → Hp → Prop} {We : Hp → Prop} {bd : Sem Unit}
/-- one clause's loop: bd what is done with each item -/
theorem each {elt : Expr} {gs : List Comprehension} {scope : Scope} {pos : Pos} (hc : B.calm = true) (hN : B.N.Nodup) (hxe : B.xe = fun _ _ => False)
    (hturn : compTurn (.ListComp elt gs scope pos) lvl (.ref it) acc B.env = (do
      standAt ip
      match ← pyNext (.ref it) with
      | none => pure (.done .next)
      | some v => do
        letOwnedTupleGo (.Name x px) (.ref it) v
        assign (.Name x px) B.env v
        bd
        again (.compLoop (.ListComp elt gs scope pos) lvl (.ref it) acc B.env)))
    (T : Turn B.prog B.w B.K (.Name x px) J fp it tn) (pg : PG B (.Name x px) (gName i)) (hi : σ[i]? = some none)
    (fpo : ∀ {H' : Hp}, (∀ b ∈ fp, H' b = none) → ∀ b ∈ fp, FpOk B pl H' b)
    (turn : ∀ j H, W j H → (j = N ∧ J.stop j H ∧ We H) ∨ (j < N ∧ J.go j H ∧ ∀ y H', J.yld j H y H' → ∀ (pl' : List (Addr × Obj)) (s : Shared), Inv B (pl ++ pl') (σ.set i (some y)) H' s →
      wpAny (model B.prog B.w) B.A bd (fun _ s' => ∃ H2, Inv B (pl ++ pl') (σ.set i (some y)) H2 s' ∧ W (j + 1) H2) (fun _ _ => False) s))
    {Rr : Result → Shared → Prop} (hR : ∀ s' H', Inv B pl σ H' s' → We H' → Rr (.ok .next) s') (s : Shared) (H : Hp) (I : Inv B pl σ H s) (st : tn 0 s.heap) (nfp : ∀ b ∈ fp, H b = none) (w : W 0 H) :
    codeAny (model B.prog B.w) B.A (.compLoop (.ListComp elt gs scope pos) lvl (.ref it) acc B.env) Rr s := by
  refine codeAny_loop rfl (fun n s' => ∃ j H', Inv B pl σ H' s' ∧ tn j s'.heap ∧ (∀ b ∈ fp, H' b = none) ∧ W j H' ∧ j ≤ N ∧ n = N - j) ?_ (N - 0) ⟨0, H, I, st, nfp, w, Nat.zero_le _, rfl⟩
  rintro n s1 ⟨j, H1, I1, st1, n1, w1, hj, hn⟩
  show wpAny _ B.A ((compTurn (.ListComp elt gs scope pos) lvl (.ref it) acc B.env).onRaise (fun x => do noteFrame x B.env; theTreesLotGoes x)) _ _ s1
  refine wpAny_noted ?_
  rw [hturn]
  refine wpAny_bind (wpAny_standAt (wpAny_bind ?_))
  rcases turn j H1 w1 with ⟨ej, stop, we⟩ | ⟨lt, go, step⟩
  · refine thnF (T.done B rfl rfl rfl hc j pl s1 σ H1 (fun _ _ => False) I1 (fpo n1) st1 stop) fun r s2 ⟨hr, I2⟩ => ?_
    subst hr
    exact wpAny_pure (hR s2 H1 I2 we)
  · refine thnF (T.item B rfl rfl rfl hc j pl s1 σ H1 (fun _ _ => False) I1 (fpo n1) st1 go) fun r s2 ⟨u, hr, h2⟩ => ?_
    subst hr
    refine wpAny_bind (thnF h2 fun _ s3 ⟨y, H3, I3, r3, y3, st3, n3⟩ => ?_)
    have I3' := I3.pinned (fpo n3) (T.obj _ _ st3)
    have pr := pg.run _ s3 σ H3 y u (fun σ' H' => σ' = σ.set i (some y) ∧ H' = H3) I3' r3 ⟨rfl, rfl⟩
    rw [hxe] at pr
    refine wpAny_bind (thnF pr fun _ s4 ⟨σ4, H4, I4, e4, e4'⟩ => ?_)
    subst e4
    subst e4'
    refine wpAny_bind (thnF (step y H4 y3 _ s4 I4) fun _ s5 ⟨H5, I5, w5⟩ => ?_)
    refine wpAny_pure ⟨rfl, N - (j + 1), by omega, j + 1, H5, ?_, ?_, fun b hb => ?_, w5, lt, rfl⟩
    · have sb := Sub.set (v := y) hi
      exact (I5.unpinned).weak sb.1 sb.2
    · exact T.keep _ _ _ st3 fun b hb o e => (I5.pin (b, o) (List.mem_append_right _ (List.mem_append_right _ (mem_pinsAt hb e)))).1
    · obtain ⟨o, e, _⟩ := T.obj _ _ st3 b hb
      exact (I5.pin (b, o) (List.mem_append_right _ (List.mem_append_right _ (mem_pinsAt hb e)))).2.1
end

section
variable {elt i0 i1 i2 : Expr} {x0 x1 x2 : Str} {p0 p1 p2 pos : Pos} {scope : Scope}
abbrev lc3e (elt : Expr) (x0 : Str) (p0 : Pos) (i0 : Expr) (x1 : Str) (p1 : Pos) (i1 : Expr) (x2 : Str) (p2 : Pos) (i2 : Expr) (scope : Scope) (pos : Pos) : Expr :=
  .ListComp elt [⟨.Name x0 p0, i0, [], 0⟩, ⟨.Name x1 p1, i1, [], 0⟩, ⟨.Name x2 p2, i2, [], 0⟩] scope pos
/-- the next clause begins -/
def nextClause (e : Expr) (lvl : Nat) (i : Expr) (acc : Value) (env : Env) : Sem Unit := do
  let x ← eval i env
  standAt i.pos
  let x ← foldedSetIterable i env x
  let _ ← runOwn (.compStart e lvl (← holding [x] (pyIter x)) acc env) env
theorem turn0 (it acc : Value) (env : Env) : compTurn (lc3e elt x0 p0 i0 x1 p1 i1 x2 p2 i2 scope pos) 0 it acc env = (do
    standAt i0.pos
    match ← pyNext it with
    | none => pure (.done .next)
    | some v => do
      letOwnedTupleGo (.Name x0 p0) it v
      assign (.Name x0 p0) env v
      nextClause (lc3e elt x0 p0 i0 x1 p1 i1 x2 p2 i2 scope pos) 1 i1 acc env
      again (.compLoop (lc3e elt x0 p0 i0 x1 p1 i1 x2 p2 i2 scope pos) 0 it acc env)) := by
  refine Eq.trans (b := (do
    standAt i0.pos
    match ← pyNext it with
    | none => pure (.done .next)
    | some v => do
      letOwnedTupleGo (.Name x0 p0) it v
      assign (.Name x0 p0) env v
      let x ← eval i1 env
      standAt i1.pos
      let x ← foldedSetIterable i1 env x
      let _ ← runOwn (.compStart (lc3e elt x0 p0 i0 x1 p1 i1 x2 p2 i2 scope pos) 1 (← holding [x] (pyIter x)) acc env) env
      again (.compLoop (lc3e elt x0 p0 i0 x1 p1 i1 x2 p2 i2 scope pos) 0 it acc env))) (by rfl) ?_
  simp only [nextClause, bind_assoc, pure_bind]
theorem turn1 (it acc : Value) (env : Env) : compTurn (lc3e elt x0 p0 i0 x1 p1 i1 x2 p2 i2 scope pos) 1 it acc env = (do
    standAt i1.pos
    match ← pyNext it with
    | none => pure (.done .next)
    | some v => do
      letOwnedTupleGo (.Name x1 p1) it v
      assign (.Name x1 p1) env v
      nextClause (lc3e elt x0 p0 i0 x1 p1 i1 x2 p2 i2 scope pos) 2 i2 acc env
      again (.compLoop (lc3e elt x0 p0 i0 x1 p1 i1 x2 p2 i2 scope pos) 1 it acc env)) := by
  refine Eq.trans (b := (do
    standAt i1.pos
    match ← pyNext it with
    | none => pure (.done .next)
    | some v => do
      letOwnedTupleGo (.Name x1 p1) it v
      assign (.Name x1 p1) env v
      let x ← eval i2 env
      standAt i2.pos
      let x ← foldedSetIterable i2 env x
      let _ ← runOwn (.compStart (lc3e elt x0 p0 i0 x1 p1 i1 x2 p2 i2 scope pos) 2 (← holding [x] (pyIter x)) acc env) env
      again (.compLoop (lc3e elt x0 p0 i0 x1 p1 i1 x2 p2 i2 scope pos) 1 it acc env))) (by rfl) ?_
  simp only [nextClause, bind_assoc, pure_bind]
theorem turn2 (it acc : Value) (env : Env) : compTurn (lc3e elt x0 p0 i0 x1 p1 i1 x2 p2 i2 scope pos) 2 it acc env = (do
    standAt i2.pos
    match ← pyNext it with
    | none => pure (.done .next)
    | some v => do
      letOwnedTupleGo (.Name x2 p2) it v
      assign (.Name x2 p2) env v
      (do let _ ← call (.builtin "list.append") [acc, ← eval elt env])
      again (.compLoop (lc3e elt x0 p0 i0 x1 p1 i1 x2 p2 i2 scope pos) 2 it acc env)) := by rfl
variable {prog : Program} {w : World} {A : Around} {R : Result → Shared → Prop} {s : Shared} {it acc : Value} {env : Env}
theorem cstart1 (h0 : codeAny (model prog w) A (.compLoop (lc3e elt x0 p0 i0 x1 p1 i1 x2 p2 i2 scope pos) 1 it acc env) R s)
    (h : wpAny (model prog w) A (pyIter it) (fun it' s' => codeAny (model prog w) A (.compLoop (lc3e elt x0 p0 i0 x1 p1 i1 x2 p2 i2 scope pos) 1 it' acc env) R s') (notedBy (model prog w) A env fun x s' => R (.error x) s') s) :
    codeAny (model prog w) A (.compStart (lc3e elt x0 p0 i0 x1 p1 i1 x2 p2 i2 scope pos) 1 it acc env) R s := by
  refine codeAny_of_tree ?_
  show wpAny _ _ ((compStart (lc3e elt x0 p0 i0 x1 p1 i1 x2 p2 i2 scope pos) 1 it acc env).onRaise (fun x => do noteFrame x env; standAt theWindowsPlace)) _ _ s
  refine wpAny_notedAt ?_
  unfold compStart
  show wpAny _ _ (ask >>= _) _ _ s
  refine wpAny_bind (wpAny_askSetting (wpAny_ite ?_))
  split
  · first
      | exact wpAny_bind (wpAny_pure (wpAny_pure (And.intro rfl h0)))
      | exact wpAny_pure (And.intro rfl h0)
  · first
      | exact wpAny_bind (wpAny_rule (wpAny_bind (wpAny_standAt (wpAny_bind (wpAny_mono h (fun it' s' h' => wpAny_pure (And.intro rfl h')) fun _ _ x => x)))))
      | (refine wpAny_bind (wpAny_rule ?_); show wpAny _ _ (standAt i1.pos >>= _) _ _ s; exact wpAny_bind (wpAny_standAt (wpAny_bind (wpAny_mono h (fun it' s' h' => wpAny_pure (And.intro rfl h')) fun _ _ x => x))))
theorem cstart2 (h0 : codeAny (model prog w) A (.compLoop (lc3e elt x0 p0 i0 x1 p1 i1 x2 p2 i2 scope pos) 2 it acc env) R s)
    (h : wpAny (model prog w) A (pyIter it) (fun it' s' => codeAny (model prog w) A (.compLoop (lc3e elt x0 p0 i0 x1 p1 i1 x2 p2 i2 scope pos) 2 it' acc env) R s') (notedBy (model prog w) A env fun x s' => R (.error x) s') s) :
    codeAny (model prog w) A (.compStart (lc3e elt x0 p0 i0 x1 p1 i1 x2 p2 i2 scope pos) 2 it acc env) R s := by
  refine codeAny_of_tree ?_
  show wpAny _ _ ((compStart (lc3e elt x0 p0 i0 x1 p1 i1 x2 p2 i2 scope pos) 2 it acc env).onRaise (fun x => do noteFrame x env; standAt theWindowsPlace)) _ _ s
  refine wpAny_notedAt ?_
  unfold compStart
  show wpAny _ _ (ask >>= _) _ _ s
  refine wpAny_bind (wpAny_askSetting (wpAny_ite ?_))
  split
  · first
      | exact wpAny_bind (wpAny_pure (wpAny_pure (And.intro rfl h0)))
      | exact wpAny_pure (And.intro rfl h0)
  · first
      | exact wpAny_bind (wpAny_rule (wpAny_bind (wpAny_standAt (wpAny_bind (wpAny_mono h (fun it' s' h' => wpAny_pure (And.intro rfl h')) fun _ _ x => x)))))
      | (refine wpAny_bind (wpAny_rule ?_); show wpAny _ _ (standAt i2.pos >>= _) _ _ s; exact wpAny_bind (wpAny_standAt (wpAny_bind (wpAny_mono h (fun it' s' h' => wpAny_pure (And.intro rfl h')) fun _ _ x => x))))
end

/-! ### the rule -/
section
variable {X : Cx}
/-- a, b, c: the slots of the three names -/
def tLc3 (wi0 wi1 wi2 : TI) (te : TE) (vs : List Nat) (a b c : Nat) : TE := fun σ H Q => wi0 σ H fun J H1 => ∀ D, H1 D = none → ∃ (N : Nat) (W : Nat → Hp → Prop), W 0 (upd H1 D (.lst [])) ∧ ∀ i H, W i H →
  (i = N ∧ J.stop i H ∧ Q (.ref D) H) ∨ (i < N ∧ J.go i H ∧ ∀ x H', J.yld i H x H' → wi1 ((wipe σ vs).set a (some x)) H' fun J1 H2 => ∃ (N1 : Nat) (W1 : Nat → Hp → Prop), W1 0 H2 ∧ ∀ j H, W1 j H →
    (j = N1 ∧ J1.stop j H ∧ W (i + 1) H) ∨ (j < N1 ∧ J1.go j H ∧ ∀ y H', J1.yld j H y H' → wi2 (((wipe σ vs).set a (some x)).set b (some y)) H' fun J2 H3 => ∃ (N2 : Nat) (W2 : Nat → Hp → Prop), W2 0 H3 ∧ ∀ k H, W2 k H →
      (k = N2 ∧ J2.stop k H ∧ W1 (j + 1) H) ∨ (k < N2 ∧ J2.go k H ∧ ∀ z H', J2.yld k H z H' → te ((((wipe σ vs).set a (some x)).set b (some y)).set c (some z)) H' fun v H4 => ∃ acc, H4 D = some (.lst acc) ∧ acc.length < sizeLine ∧ W2 (k + 1) (upd H4 D (.lst (acc ++ [v]))))))
/-- a clause within: its own walk, then its loop -/
theorem clause {B : Cx} {pl : List (Addr × Obj)} {σ : L2.St} {H : Hp} {s : Shared} {elt it1e : Expr} {gs : List Comprehension} {scope : Scope} {pos : Pos} {lvl : Nat} {tg : Expr} {wi : TI} {D : Addr} {Wn : Hp → Prop} {Rj : It → Hp → Prop} (hxe : B.xe = fun _ _ => False)
    (hi : PI B tg it1e wi) (I : Inv B pl σ H s) (h : wi σ H Rj) (hs : ∀ x, foldedSetIterable it1e B.env x = pure x)
    (loop : ∀ (it : Addr) (fp : List Addr) (tn : Nat → Heap → Prop) (J : It) (H' : Hp) (s2 : Shared), Inv B pl σ H' s2 → Turn B.prog B.w B.K tg J fp it tn → tn 0 s2.heap → (∀ b ∈ fp, FpOk B pl H' b) → Rj J H' →
      codeAny (model B.prog B.w) B.A (.compStart (.ListComp elt gs scope pos) lvl (.ref it) (.ref D) B.env) (fun r s' => ∃ f, r = .ok f ∧ ∃ H2, Inv B pl σ H2 s' ∧ Wn H2) s2) :
    wpAny (model B.prog B.w) B.A (nextClause (.ListComp elt gs scope pos) lvl it1e (.ref D) B.env) (fun _ s' => ∃ H2, Inv B pl σ H2 s' ∧ Wn H2) (fun _ _ => False) s := by
  unfold nextClause
  have q := hi.run pl s σ H _ I h
  rw [hxe] at q
  refine wpAny_bind (thnF q fun xv s1 hx => ?_)
  refine wpAny_bind (wpAny_standAt (wpAny_bind (wpAny_of_eq (hs xv) (wpAny_bind (wpAny_holding (thnF hx fun itv s2 h2 => ?_))))))
  obtain ⟨it, fp, tn, J, H', e, I2, T, st2, f2, r2⟩ := h2
  subst e
  refine wpAny_bind (wpAny_runOwn ?_)
  rw [Around.mark_none]
  refine codeAny_mono (loop it fp tn J H' s2 I2 T st2 f2 r2) fun r s' ⟨f, hr, hq⟩ => ?_
  subst hr
  exact wpAny_pure hq
theorem pe_lc3 {elt i0 i1 i2 : Expr} {x0 x1 x2 : Str} {p0 p1 p2 pos : Pos} {scope : Scope} {own : List (Str × Nat)} {wi0 wi1 wi2 : TI} {te : TE} {a b c : Nat} (hc : X.calm = true) (hN : X.N.Nodup) (ok : BlkOk X.N X.env.scope scope own)
    (ha : X.N[a]? = some x0) (hb : X.N[b]? = some x1) (hcc : X.N[c]? = some x2) (ho : a ∈ own.map (·.2) ∧ b ∈ own.map (·.2) ∧ c ∈ own.map (·.2)) (hd : a ≠ b ∧ a ≠ c ∧ b ≠ c)
    (hi : PI X (.Name x0 p0) i0 wi0)
    (hi1 : ∀ (s : Shared) (H : Hp) (C : Addr) (cl : List (Str × Addr)) (fp : List Addr), PI (X.blk s H scope (compEnvC scope cl C X.env) fp) (.Name x1 p1) i1 wi1)
    (hi2 : ∀ (s : Shared) (H : Hp) (C : Addr) (cl : List (Str × Addr)) (fp : List Addr), PI (X.blk s H scope (compEnvC scope cl C X.env) fp) (.Name x2 p2) i2 wi2)
    (hg : ∀ (s : Shared) (H : Hp) (C : Addr) (cl : List (Str × Addr)) (fp : List Addr), PG (X.blk s H scope (compEnvC scope cl C X.env) fp) (.Name x0 p0) (gName a) ∧ PG (X.blk s H scope (compEnvC scope cl C X.env) fp) (.Name x1 p1) (gName b) ∧ PG (X.blk s H scope (compEnvC scope cl C X.env) fp) (.Name x2 p2) (gName c))
    (he : ∀ (s : Shared) (H : Hp) (C : Addr) (cl : List (Str × Addr)) (fp : List Addr), PE (X.blk s H scope (compEnvC scope cl C X.env) fp) elt te)
    (hs : ∀ x, foldedSetIterable i0 X.env x = pure x := by intro _; rfl) (hs1 : ∀ env x, foldedSetIterable i1 env x = pure x := by intro _ _; rfl) (hs2 : ∀ env x, foldedSetIterable i2 env x = pure x := by intro _ _; rfl) :
    PE X (lc3e elt x0 p0 i0 x1 p1 i1 x2 p2 i2 scope pos) (tLc3 wi0 wi1 wi2 te (own.map (·.2)) a b c) := by
  refine ⟨fun pins s σ H Q I h => ?_⟩
  rw [eval_ListComp]
  have hfree : ∀ y ∈ scope.names, y.2 = .free → ∃ c, X.env.cells.lookup y.1 = some c := fun y hy e => by
    rcases ok.free y hy e with k | k
    · exact I.ok.has _ (.inl k)
    · exact I.ok.has _ (.inr k)
  refine wpAny_comprehension_free (use := none) rfl hs (closure_ok hfree) ok.kind (fun y hy e => by rw [ok.uniq y hy, e])
    (thn (hi.run pins s σ H _ I h) fun xv s1 hx => thn hx fun itv s2 h2 => ?_)
  obtain ⟨it, fp, tn, J, H2, e, I2, T, st2, f2, q⟩ := h2
  subst e
  refine wpAny_newObj_type (newEnv_comp ?_) (by show 0 ≤ sizeLine; decide)
  generalize hD : s2.heap.objs.size = D
  have hDn : H2 D = none := I2.hok.fresh (Nat.le_of_eq hD)
  obtain ⟨N, W, w0, turn⟩ := q D hDn
  generalize hs3 : ({ s2 with heap := s2.heap.push { cls := .type "list", data := .seq ([] : List Value).toArray } } : Shared) = s3
  have h3 : s3.heap = s2.heap.push { cls := .type "list", data := .seq ([] : List Value).toArray } := by rw [← hs3]
  have I3 : Inv X pins σ (upd H2 D (.lst [])) s3 := by
    rw [← hs3]
    refine I2.laid (t' := s2.toks) (fun b o e => Heap.get?_push_of_some _ e) (Nat.le_of_eq hD) ⟨Nat.zero_le _, [], 0, .nil, ?_⟩
    rw [← hD]
    exact Heap.get?_push_size _ rfl
  have f3 : ∀ b ∈ fp, FpOk X pins (upd H2 D (.lst [])) b ∧ b < s3.heap.objs.size := fun b hb => by
    obtain ⟨o, e, _⟩ := T.obj _ _ st2 b hb
    have hlt := Heap.lt_size e
    refine ⟨⟨?_, (f2 b hb).2⟩, by rw [h3, Heap.size_push]; exact Nat.lt_succ_of_lt hlt⟩
    rw [upd_ne (by rw [← hD]; exact Nat.ne_of_lt hlt)]
    exact (f2 b hb).1
  have st3 : tn 0 s3.heap := T.keep _ _ _ st2 fun b _ o e => by rw [h3]; exact Heap.get?_push_of_some _ e
  have I4 := block_start I3 ok hN f3
  have pe := he s3 (upd H2 D (.lst [])) s3.heap.objs.size (cellsFrom (s3.heap.objs.size + 1) scope.names (cloFrom X.env.cells scope.names [])) fp
  have pi1 := hi1 s3 (upd H2 D (.lst [])) s3.heap.objs.size (cellsFrom (s3.heap.objs.size + 1) scope.names (cloFrom X.env.cells scope.names [])) fp
  have pi2 := hi2 s3 (upd H2 D (.lst [])) s3.heap.objs.size (cellsFrom (s3.heap.objs.size + 1) scope.names (cloFrom X.env.cells scope.names [])) fp
  obtain ⟨pga, pgb, pgc⟩ := hg s3 (upd H2 D (.lst [])) s3.heap.objs.size (cellsFrom (s3.heap.objs.size + 1) scope.names (cloFrom X.env.cells scope.names [])) fp
  have hsc : (compEnvC scope (cellsFrom (s3.heap.objs.size + 1) scope.names (cloFrom X.env.cells scope.names [])) s3.heap.objs.size X.env).locals = s3.heap.objs.size := rfl
  show codeAny _ _ (.compStart (lc3e elt x0 p0 i0 x1 p1 i1 x2 p2 i2 scope pos) 0 (.ref it) (.ref D) (compEnvC scope (cellsFrom (s3.heap.objs.size + 1) scope.names (cloFrom X.env.cells scope.names [])) s3.heap.objs.size X.env)) (compPost (model X.prog X.w) X.A X.xe none (EP X pins σ Q) (.ref D) s3.heap.objs.size) { s3 with heap := pushCells (s3.heap.push { cls := .type "dict", data := .dict #[] }) scope.names }
  generalize hce : compEnvC scope (cellsFrom (s3.heap.objs.size + 1) scope.names (cloFrom X.env.cells scope.names [])) s3.heap.objs.size X.env = ce at I4 pe pi1 pi2 pga pgb pgc hsc ⊢
  have nfp : ∀ b ∈ fp, (upd H2 D (.lst [])) b = none := fun b hb => (f3 b hb).1.1
  generalize hH3 : upd H2 D (.lst []) = H3 at I3 I4 pe pi1 pi2 pga pgb pgc w0 nfp f3
  generalize hs4 : ({ s3 with heap := pushCells (s3.heap.push { cls := .type "dict", data := .dict #[] }) scope.names } : Shared) = s4 at I4 ⊢
  have st4 : tn 0 s4.heap := T.keep _ _ _ st3 fun b _ o e => by rw [← hs4]; exact pushCells_keeps _ _ _ _ (Heap.get?_push_of_some _ e)
  generalize hσ : wipe σ (own.map (·.2)) = σ0 at I4 turn
  have len0 : σ0.length = X.N.length := by rw [← hσ, wipe_length]; exact I.len
  have free0 : ∀ {i : Nat} {y : Str}, X.N[i]? = some y → i ∈ own.map (·.2) → σ0[i]? = some none := fun {i y} hy hio => by
    have hil : i < σ0.length := by
      rw [len0]
      exact (List.getElem?_eq_some_iff.mp hy).1
    cases hq : σ0[i]? with
    | none => rw [List.getElem?_eq_none_iff] at hq; omega
    | some o =>
      cases o with
      | none => rfl
      | some v =>
        rw [← hσ] at hq
        exact absurd hio (wipe_some hq).2
  have fpB : ∀ {H' : Hp}, (∀ b ∈ fp, H' b = none) → ∀ b ∈ fp, FpOk (X.blk s3 H3 scope ce fp) [] H' b := fun {H'} hn b hb =>
    ⟨hn b hb, (I4.ok.exf b hb).1, I4.ok.exfs b hb, .inl hb, fun x c e => (I4.ok.exf b hb).2 x c e, fun p hp => absurd (show p ∈ ([] : List (Addr × Obj)) ++ [] from hp) (by simp)⟩
  have loop : codeAny (model X.prog X.w) X.A (.compLoop (lc3e elt x0 p0 i0 x1 p1 i1 x2 p2 i2 scope pos) 0 (.ref it) (.ref D) ce) (compPost (model X.prog X.w) X.A X.xe none (EP X pins σ Q) (.ref D) s3.heap.objs.size) s4 := by
    refine each (B := X.blk s3 H3 scope ce fp) (pl := []) (σ := σ0) (i := a) (N := N) (W := W) (We := fun H => Q (.ref D) H) hc hN rfl (turn0 (.ref it) (.ref D) ce) T pga (free0 ha ho.1) fpB (fun j H w => ?_) (fun s' H' I' hq => ?_) s4 H3 I4 st4 nfp w0
    · rcases turn j H w with z | ⟨lt, go, step⟩
      · exact .inl z
      · refine .inr ⟨lt, go, fun y H' hy pl' s5 I5 => ?_⟩
        refine clause (B := X.blk s3 H3 scope ce fp) rfl pi1 I5 (step y H' hy) (hs1 ce) fun it1 fp1 tn1 J1 H6 s6 I6 T1 st6 f6 hq => ?_
        obtain ⟨N1, W1, w1, turn1'⟩ := hq
        have l1 : codeAny (model X.prog X.w) X.A (.compLoop (lc3e elt x0 p0 i0 x1 p1 i1 x2 p2 i2 scope pos) 1 (.ref it1) (.ref D) ce) (fun r s' => ∃ f, r = .ok f ∧ ∃ H2, Inv (X.blk s3 H3 scope ce fp) ([] ++ pl') (σ0.set a (some y)) H2 s' ∧ W (j + 1) H2) s6 := by
          refine each (B := X.blk s3 H3 scope ce fp) (pl := [] ++ pl') (σ := σ0.set a (some y)) (i := b) (N := N1) (W := W1) (We := fun H => W (j + 1) H) hc hN rfl (turn1 (.ref it1) (.ref D) ce) T1 pgb (by rw [List.getElem?_set_ne hd.1]; exact free0 hb ho.2.1)
            (fun {H'} hn b hb => ⟨hn b hb, (f6 b hb).2⟩) (fun k H w => ?_) (fun s' H' I' hq => ⟨_, rfl, H', I', hq⟩) s6 H6 I6 st6 (fun b hb => (f6 b hb).1) w1
          rcases turn1' k H w with z | ⟨lt, go, step⟩
          · exact .inl z
          · refine .inr ⟨lt, go, fun y1 H' hy1 pl1 s7 I7 => ?_⟩
            refine clause (B := X.blk s3 H3 scope ce fp) rfl pi2 I7 (step y1 H' hy1) (hs2 ce) fun it2 fp2 tn2 J2 H8 s8 I8 T2 st8 f8 hq => ?_
            obtain ⟨N2, W2, w2, turn2'⟩ := hq
            have l2 : codeAny (model X.prog X.w) X.A (.compLoop (lc3e elt x0 p0 i0 x1 p1 i1 x2 p2 i2 scope pos) 2 (.ref it2) (.ref D) ce) (fun r s' => ∃ f, r = .ok f ∧ ∃ H2, Inv (X.blk s3 H3 scope ce fp) ([] ++ pl' ++ pl1) ((σ0.set a (some y)).set b (some y1)) H2 s' ∧ W1 (k + 1) H2) s8 := by
              refine each (B := X.blk s3 H3 scope ce fp) (pl := [] ++ pl' ++ pl1) (σ := (σ0.set a (some y)).set b (some y1)) (i := c) (N := N2) (W := W2) (We := fun H => W1 (k + 1) H) hc hN rfl (turn2 (.ref it2) (.ref D) ce) T2 pgc (by rw [List.getElem?_set_ne hd.2.2, List.getElem?_set_ne hd.2.1]; exact free0 hcc ho.2.2)
                (fun {H'} hn b hb => ⟨hn b hb, (f8 b hb).2⟩) (fun l H w => ?_) (fun s' H' I' hq => ⟨_, rfl, H', I', hq⟩) s8 H8 I8 st8 (fun b hb => (f8 b hb).1) w2
              rcases turn2' l H w with z | ⟨lt, go, step⟩
              · exact .inl z
              · refine .inr ⟨lt, go, fun y2 H' hy2 pl2 s9 I9 => ?_⟩
                refine wpAny_bind (thnF (pe.run _ s9 _ H' _ I9 (step y2 H' hy2)) fun z s10 ⟨yv, H10, I10, r10, acc, hD10, hz10, nx⟩ => ?_)
                refine wpAny_bind (app_ok (X := X.blk s3 H3 scope ce fp) I10 hD10 hz10 r10 fun s11 I11 => ?_)
                exact wpAny_pure ⟨_, I11, nx⟩
            exact cstart2 l2 (T2.self X.A 0 _ _ _ st8 l2)
        exact cstart1 l1 (T1.self X.A 0 _ _ _ st6 l1)
    · have I7 : Inv X pins σ H' s' := I3.call' (ch := fp) I'.os I'.base I'.hok I'.bare fun b hb => ⟨(f3 b hb).1.2.2.2.1, (f3 b hb).1.2.1, (f3 b hb).1.2.2.2.2.1, (f3 b hb).1.2.2.2.2.2⟩
      have nC : H' s3.heap.objs.size = none := by
        have z : H' ce.locals = none := I'.free
        rw [hsc] at z
        exact z
      obtain ⟨m, hn, _⟩ := I'.loc
      have hn : s'.heap.Ns ce.locals m := hn
      rw [hsc] at hn
      refine ⟨m, hn, fun h'' sb => ?_⟩
      obtain ⟨f0, f1, f2, f3', f4, f5⟩ := I3.fpOk (H' := H') (Nat.le_refl _) nC
      exact ⟨.ref D, H', I7.turned (t' := s'.toks) (fun b o hb e => (sb.2 b hb).trans e) f0 f1 f3' f4 f5, rfl, hq⟩
  exact codeAny_compStart_list loop (T.self X.A 0 _ _ _ st4 loop)
end
end GV
end

section
set_option Elab.async false
set_option linter.all false
set_option maxRecDepth 100000
set_option maxHeartbeats 2000000
/-! The program's text by places, the relation of heaps, bodies as data. -/
namespace LP
open PySem PySem.Spec PyProof.Rows L2 Ly GY
def top (i : Nat) : Stmt := PySem.Challenge.pw_layerprint_k14_texts_that_tell_no_body.main.body.getD i (.Pass ⟨0, 0, 0, 0⟩)
-- is_body: not in this statement
-- cells: not in this statement
-- slice_at: not in this statement
-- check_layer: not in this statement
-- quarter: not in this statement
-- shifted: not in this statement
-- _is_formed: not in this statement
-- _places_within: not in this statement
-- is_number: not in this statement
-- _is_triple: not in this statement
-- _are_rising_cells: not in this statement
-- _held: not in this statement
-- _block_cells: not in this statement
-- _joined: not in this statement
-- _row: not in this statement
-- is_rising: not in this statement
-- layer_count: not in this statement
-- is_place: not in this statement
-- drawn_next: not in this statement
-- written: not in this statement
abbrev sRead : Stmt := top 14
abbrev sChkRows : Stmt := top 15
abbrev sCanStand : Stmt := top 16
-- table: not in this statement
-- holds: not in this statement
-- _least: not in this statement
-- _are_strokes: not in this statement
-- _is_low_enough: not in this statement
-- strokes: not in this statement
-- _runs: not in this statement
-- hanging: not in this statement
-- filled: not in this statement
-- check_reach: not in this statement
-- hanging_cells: not in this statement
-- fill: not in this statement
-- beside: not in this statement
-- _check_props: not in this statement
-- _is_carried: not in this statement
-- _fill_under: not in this statement
-- _ways: not in this statement
-- check_place: not in this statement
-- _best_orders: not in this statement
-- _best_rest: not in this statement
-- _ends: not in this statement
-- _steps: not in this statement
-- best_order: not in this statement
-- printed: not in this statement

/-- the tables of the defs that make lambdas: the law's, and others -/
class LamTab where
  P : Addr
  q : Str
  /-- the table of is_rising -/
  Z : Addr
  /-- tables of other defs that make lambdas -/
  Ts : List (Addr × Str) := []
/-- they are apart -/
class LamOk [LamTab] : Prop where
  inj : ∀ a ∈ (LamTab.P, LamTab.q) :: LamTab.Ts, ∀ b ∈ (LamTab.P, LamTab.q) :: LamTab.Ts, a.1 = b.1 → a = b
def NeAll (x : Addr) : List (Addr × Str) → Prop
  | [] => True
  | p :: l => x ≠ p.1 ∧ NeAll x l
theorem ne_all {x : Addr} : ∀ {l : List (Addr × Str)}, NeAll x l → ∀ p ∈ l, x ≠ p.1
  | [], _, p, h => by cases h
  | q :: l, n, p, h => by
    rcases List.mem_cons.mp h with e | e
    · rw [e]; exact n.1
    · exact ne_all n.2 p e
def Apart : List (Addr × Str) → Prop
  | [] => True
  | p :: l => NeAll p.1 l ∧ Apart l
theorem apart_ok : ∀ {l : List (Addr × Str)}, Apart l → ∀ a ∈ l, ∀ b ∈ l, a.1 = b.1 → a = b
  | [], _, a, ha, _, _, _ => by cases ha
  | q :: l, n, a, ha, b, hb, e => by
    rcases List.mem_cons.mp ha with x | x
    · rcases List.mem_cons.mp hb with y | y
      · rw [x, y]
      · rw [x] at e
        exact absurd e (ne_all n.1 b y)
    · rcases List.mem_cons.mp hb with y | y
      · rw [y] at e
        exact absurd e.symm (ne_all n.1 a x)
      · exact apart_ok n.2 a x b y e
section
variable [LamTab]
/-- a table of a def with generator expressions -/
def TGen (H : Hp) (P : Addr) : Prop := GxR.TabG H P ∧ ∀ p ∈ (LamTab.P, LamTab.q) :: LamTab.Ts, P ≠ p.1
end
/-! ### what a call keeps: all but what stands at S; tables are filled -/
structure Kp [LamTab] (S : List Addr) (H H' : Hp) : Prop where
  keep : ∀ b o, H b = some o → b ∉ S → (∀ ps, o ≠ .tbl ps) → H' b = some o
  tup : ∀ b xs, H b = some (.tup xs) → H' b = some (.tup xs)
  tab : ∀ b, TGen H b → TGen H' b
  frz : ∀ b o u, H b = some (.frz o u) → H' b = some (.frz o u)
  free : ∀ b, H' b = none → H b = none
  lams : ∀ p ∈ (LamTab.P, LamTab.q) :: LamTab.Ts, LamX.TabS H p.1 p.2 → LamX.TabS H' p.1 p.2
theorem free_upd {H : Hp} {a : Addr} {o : HO} {b : Addr} (h : upd H a o b = none) : b ≠ a ∧ H b = none := by
  by_cases e : b = a
  · rw [e, upd_same] at h
    cases h
  · rw [upd_ne e] at h
    exact ⟨e, h⟩
variable [LamTab] {S S' : List Addr} {H H' H'' : Hp} {K : PySem.W.Frag}
theorem Kp.refl (S : List Addr) (H : Hp) : Kp S H H := ⟨fun _ _ e _ _ => e, fun _ _ e => e, fun _ e => e, fun _ _ _ e => e, fun _ e => e, fun _ _ e => e⟩
theorem Kp.lam (k : Kp S H H') : LamX.TabS H LamTab.P LamTab.q → LamX.TabS H' LamTab.P LamTab.q := k.lams _ List.mem_cons_self
theorem Kp.trans (k : Kp S H H') (k' : Kp S H' H'') : Kp S H H'' :=
  ⟨fun b o e n t => k'.keep b o (k.keep b o e n t) n t, fun b xs e => k'.tup b xs (k.tup b xs e), fun b e => k'.tab b (k.tab b e), fun b o u e => k'.frz b o u (k.frz b o u e), fun b e => k.free b (k'.free b e), fun p hp e => k'.lams p hp (k.lams p hp e)⟩
theorem Kp.weak (k : Kp S H H') (h : ∀ b ∈ S, b ∈ S') : Kp S' H H' := ⟨fun b o e n t => k.keep b o e (fun q => n (h b q)) t, k.tup, k.tab, k.frz, k.free, k.lams⟩
theorem Kp.w0 (k : Kp [] H H') : Kp S H H' := k.weak fun b z => by cases z
/-- all but what stands at a stays as it is; a holds nothing that is kept -/
theorem Kp.but {a : Addr} (e : ∀ b, b ≠ a → H' b = H b) (some_a : H' a ≠ none) (k : ∀ o, H a = some o → a ∈ S ∨ ∃ ps, o = .tbl ps) (t : ∀ xs, H a ≠ some (.tup xs)) (f : ∀ o u, H a ≠ some (.frz o u)) (c : ∀ q, H a ≠ some (LamX.CodeO a q)) (g : TGen H a → TGen H' a)
    (l : ∀ ps, H a = some (.tbl ps) → ∀ p ∈ (LamTab.P, LamTab.q) :: LamTab.Ts, a ≠ p.1) : Kp S H H' := by
  refine ⟨fun b o q n tb => ?_, fun b xs q => ?_, fun b q => ?_, fun b o u q => ?_, fun b q => ?_, fun p hp ⟨ps, h1, h2, h3⟩ => ?_⟩
  · by_cases z : b = a
    · subst z
      rcases k o q with z | ⟨ps, z⟩
      · exact absurd z n
      · exact absurd z (tb ps)
    · rw [e b z]
      exact q
  · by_cases z : b = a
    · subst z
      exact absurd q (t xs)
    · rw [e b z]
      exact q
  · by_cases z : b = a
    · subst z
      exact g q
    · obtain ⟨⟨ps, q1, q2⟩, q3⟩ := q
      exact ⟨⟨ps, by rw [e b z]; exact q1, q2⟩, q3⟩
  · by_cases z : b = a
    · subst z
      exact absurd q (f o u)
    · rw [e b z]
      exact q
  · by_cases z : b = a
    · subst z
      exact absurd q some_a
    · rw [e b z] at q
      exact q
  · have n : p.1 ≠ a := fun z => l ps (by rw [← z]; exact h1) p hp z.symm
    refine ⟨ps, by rw [e _ n]; exact h1, h2, fun pos cv hcv => ?_⟩
    obtain ⟨c0, e1, e2⟩ := h3 pos cv hcv
    refine ⟨c0, e1, ?_⟩
    by_cases z : c0 = a
    · subst z
      exact absurd e2 (c _)
    · rw [e _ z]
      exact e2
/-- the tables of _are_rising_cells and of is_rising -/
def TR (H : Hp) (P : Addr) : Prop := TGen H P ∧ TGen H LamTab.Z
theorem Kp.tabr (k : Kp S H H') {P : Addr} (h : TR H P) : TR H' P := ⟨k.tab _ h.1, k.tab _ h.2⟩
theorem Kp.new {a : Addr} {o : HO} (h : H a = none) : Kp S H (upd H a o) := by
  have no : ∀ u, H a ≠ some u := fun u z => by rw [h] at z; cases z
  exact Kp.but (fun b n => upd_ne n) (by rw [upd_same]; exact fun z => by cases z) (fun u z => absurd z (no u)) (fun xs => no _) (fun _ _ => no _) (fun _ => no _) (fun ⟨⟨ps, q1, _⟩, _⟩ => absurd q1 (no _)) fun ps z => absurd z (no _)
theorem Kp.tabbed {P : Addr} (h : TGen H P) (k : GxR.Tabbed P H H') : Kp S H H' := by
  obtain ⟨⟨ps, e, _⟩, n⟩ := h
  have eq : ∀ u, H P = some u → u = .tbl ps := fun u z => by
    rw [e] at z
    exact (Option.some.inj z).symm
  obtain ⟨ps', e', t'⟩ := k.1
  exact Kp.but k.2 (by rw [e']; exact fun z => by cases z) (fun u z => .inr ⟨ps, eq u z⟩) (fun xs z => by cases eq _ z) (fun _ _ z => by cases eq _ z) (fun _ z => by cases eq _ z) (fun _ => ⟨⟨ps', e', t'⟩, n⟩) fun _ _ => n
/-- a list that stands at S, changed -/
theorem Kp.chg {a : Addr} {xs ys : List V} (h : H a = some (.lst xs)) (m : a ∈ S) : Kp S H (upd H a (.lst ys)) := by
  have eq : ∀ u, H a = some u → u = .lst xs := fun u z => by
    rw [h] at z
    exact (Option.some.inj z).symm
  exact Kp.but (fun b n => upd_ne n) (by rw [upd_same]; exact fun z => by cases z) (fun u z => .inl m) (fun xs z => by cases eq _ z) (fun _ _ z => by cases eq _ z) (fun _ z => by cases eq _ z) (fun ⟨⟨ps, q1, _⟩, _⟩ => by cases eq _ q1) fun ps z => by cases eq _ z
theorem Kp.chgD {a : Addr} {k1 k2 : List (Key × V)} (h : H a = some (.dK k1)) (m : a ∈ S) : Kp S H (upd H a (.dK k2)) := by
  have eq : ∀ u, H a = some u → u = .dK k1 := fun u z => by
    rw [h] at z
    exact (Option.some.inj z).symm
  exact Kp.but (fun b n => upd_ne n) (by rw [upd_same]; exact fun z => by cases z) (fun u z => .inl m) (fun xs z => by cases eq _ z) (fun _ _ z => by cases eq _ z) (fun _ z => by cases eq _ z) (fun ⟨⟨ps, q1, _⟩, _⟩ => by cases eq _ q1) fun ps z => by cases eq _ z
theorem Kp.lst {a : Addr} {xs : List V} (k : Kp S H H') (h : H a = some (.lst xs)) (n : a ∉ S) : H' a = some (.lst xs) := k.keep a _ h n fun ps z => by cases z
theorem Kp.sqT {a : Addr} {xs : List V} (k : Kp S H H') (h : SqT K H a xs) : SqT K H' a xs := by
  rcases h with h | h
  · rcases h with h | ⟨o, h⟩
    · exact .inl (.inl (k.tup a xs h))
    · exact .inl (.inr ⟨o, k.frz a _ _ h⟩)
  · exact .inr h
theorem Kp.sqL {a : Addr} {xs : List V} (k : Kp S H H') (h : SqL K H a xs) (n : a ∉ S) : SqL K H' a xs := by
  rcases h with h | h
  · rcases h with h | ⟨o, h⟩
    · exact .inl (.inl (k.lst h n))
    · exact .inl (.inr ⟨o, k.frz a _ _ h⟩)
  · exact .inr h

/-! ### data that holds no list is kept by any call -/
mutual
def noL : PyData → Bool
  | .list _ => false
  | .tuple ds => noLs ds
  | _ => true
def noLs : List PyData → Bool
  | [] => true
  | d :: ds => noL d && noLs ds
end
mutual
theorem dp_mono (k : Kp S H H') : ∀ (d : PyData) {v : V}, Dp K H v d → (noL d = true ∨ S = []) → Dp K H' v d
  | .none, _, h, _ => by cases h; exact .non
  | .bool _, _, h, _ => by cases h; exact .bl _
  | .int _, _, h, _ => by cases h; exact .int _
  | .str _, _, h, _ => by cases h; exact .str _
  | .list ds, _, h, n => by
    rcases n with n | n
    · exact absurd n (by unfold noL; decide)
    · cases h with
      | lst hs ha => exact .lst (k.sqL hs (by rw [n]; exact List.not_mem_nil)) (dps_mono k ds ha (.inr n))
  | .tuple ds, _, h, n => by
    cases h with
    | tup hs ha => exact .tup (k.sqT hs) (dps_mono k ds ha (n.imp_left fun q => by unfold noL at q; exact q))
  | .dict _, _, h, _ => by cases h
theorem dps_mono (k : Kp S H H') : ∀ (ds : List PyData) {vs : List V}, DpAll K H vs ds → (noLs ds = true ∨ S = []) → DpAll K H' vs ds
  | [], _, h, _ => by cases h; exact .nil
  | d :: ds, _, h, n => by
    cases h with
    | cons h1 h2 => exact .cons (dp_mono k d h1 (n.imp_left fun q => by unfold noLs at q; exact (Bool.and_eq_true_iff.mp q).1)) (dps_mono k ds h2 (n.imp_left fun q => by unfold noLs at q; exact (Bool.and_eq_true_iff.mp q).2))
end
theorem noL_c (c : C3) : noL (cD c) = true := rfl
theorem noLs_cs : ∀ cs : List C3, noLs (cs.map cD) = true
  | [] => rfl
  | c :: cs => by
    show (noL (cD c) && noLs (cs.map cD)) = true
    rw [noLs_cs cs, noL_c]
    rfl
theorem cellsL_mono {v : V} {cs : List C3} (k : Kp [] H H') (h : CellsL K H v cs) : CellsL K H' v cs := dp_mono k _ h (.inr rfl)
theorem cellsT_mono {v : V} {cs : List C3} (k : Kp S H H') (h : CellsT K H v cs) : CellsT K H' v cs := dp_mono k _ h (.inl (noLs_cs cs))
theorem c_mono {v : V} {c : C3} (k : Kp S H H') (h : Dp K H v (cD c)) : Dp K H' v (cD c) := dp_mono k _ h (.inl (noL_c c))
theorem items_mono {xs : List V} {cs : List C3} (k : Kp S H H') (h : Items K H xs cs) : Items K H' xs cs := dps_mono k _ h (.inl (noLs_cs cs))
/-- a list of cells at a -/
theorem cellsL_of {a : Addr} {xs : List V} {cs : List C3} (h : H a = some (.lst xs)) (k : Items K H xs cs) : CellsL K H (.ref a) cs := .lst (SqL.of h) k

/-! ### bodies as data -/
def bD : Bd → PyData
  | .block x y z a b c => .tuple [.str "block", cD (x, y, z), cD (a, b, c)]
  | .cells cs => .tuple [.str "cells", .tuple (cs.map cD)]
  | .wth p q => .tuple [.str "with", bD p, bD q]
  | .common p q => .tuple [.str "common", bD p, bD q]
  | .less p q => .tuple [.str "less", bD p, bD q]
  | .moved d p => .tuple [.str "moved", cD d, bD p]
  | .turnX p => .tuple [.str "turned", .str "x", bD p]
  | .turnY p => .tuple [.str "turned", .str "y", bD p]
  | .turnZ p => .tuple [.str "turned", .str "z", bD p]
theorem noL_b : ∀ b : Bd, noL (bD b) = true
  | .block .. => rfl
  | .cells cs => by show (true && (noLs (cs.map cD) && true)) = true; rw [noLs_cs]; rfl
  | .wth p q => by show (true && (noL (bD p) && (noL (bD q) && true))) = true; rw [noL_b p, noL_b q]; rfl
  | .common p q => by show (true && (noL (bD p) && (noL (bD q) && true))) = true; rw [noL_b p, noL_b q]; rfl
  | .less p q => by show (true && (noL (bD p) && (noL (bD q) && true))) = true; rw [noL_b p, noL_b q]; rfl
  | .moved d p => by show (true && (true && (noL (bD p) && true))) = true; rw [noL_b p]; rfl
  | .turnX p => by show (true && (true && (noL (bD p) && true))) = true; rw [noL_b p]; rfl
  | .turnY p => by show (true && (true && (noL (bD p) && true))) = true; rw [noL_b p]; rfl
  | .turnZ p => by show (true && (true && (noL (bD p) && true))) = true; rw [noL_b p]; rfl
abbrev Body (K : PySem.W.Frag) (H : Hp) (v : V) (b : Bd) : Prop := Dp K H v (bD b)
theorem body_mono {v : V} {b : Bd} (k : Kp S H H') (h : Body K H v b) : Body K H' v b := dp_mono k _ h (.inl (noL_b b))
theorem of_dp2 {v : V} {d e : PyData} (h : Dp K H v (.tuple [d, e])) : ∃ p x y, v = .ref p ∧ SqT K H p [x, y] ∧ Dp K H x d ∧ Dp K H y e := by
  cases h with
  | tup hs ha =>
    cases ha with
    | cons h1 ha =>
      cases ha with
      | cons h2 ha =>
        cases ha
        exact ⟨_, _, _, rfl, hs, h1, h2⟩
theorem of_dp3 {v : V} {d e g : PyData} (h : Dp K H v (.tuple [d, e, g])) : ∃ p x y z, v = .ref p ∧ SqT K H p [x, y, z] ∧ Dp K H x d ∧ Dp K H y e ∧ Dp K H z g := by
  cases h with
  | tup hs ha =>
    cases ha with
    | cons h1 ha =>
      cases ha with
      | cons h2 ha =>
        cases ha with
        | cons h3 ha =>
          cases ha
          exact ⟨_, _, _, _, rfl, hs, h1, h2, h3⟩
theorem of_dps {v : V} {x : Str} (h : Dp K H v (.str x)) : v = .str x := by cases h; rfl
theorem of_dpi {v : V} {i : Int} (h : Dp K H v (.int i)) : v = .int i := by cases h; rfl
/-- a body whose three places are these -/
theorem of_body3 {v : V} {w : Str} {e g : PyData} (h : Dp K H v (.tuple [.str w, e, g])) : ∃ p y z, v = .ref p ∧ SqT K H p [.str w, y, z] ∧ Dp K H y e ∧ Dp K H z g := by
  obtain ⟨p, x, y, z, e1, h1, h2, h3, h4⟩ := of_dp3 h
  have q := of_dps h2
  subst q
  exact ⟨p, y, z, e1, h1, h3, h4⟩
theorem of_body2 {v : V} {w : Str} {e : PyData} (h : Dp K H v (.tuple [.str w, e])) : ∃ p y, v = .ref p ∧ SqT K H p [.str w, y] ∧ Dp K H y e := by
  obtain ⟨p, x, y, e1, h1, h2, h3⟩ := of_dp2 h
  have q := of_dps h2
  subst q
  exact ⟨p, y, e1, h1, h3⟩
theorem ty_tup {a : Addr} {xs : List V} (h : SqT K H a xs) : TyX K H (.ref a) (.type "tuple") := by
  rcases h with h | ⟨o, its, n, lk, hc, _⟩
  · rcases h with h | ⟨o, h⟩
    · exact .base (.tup h)
    · exact .fTuple h
  · exact .kTuple lk hc
theorem ty_lst {a : Addr} {xs : List V} (h : SqL K H a xs) : TyX K H (.ref a) (.type "list") := by
  rcases h with h | ⟨o, its, n, lk, hc, _⟩
  · rcases h with h | ⟨o, h⟩
    · exact .base (.lst h)
    · exact .base (.frz h)
  · exact .kList lk hc
/-! ### names -/
structure Fn (K : PySem.W.Frag) (mg : Str → Option Value) (name : Str) (f : Addr) (fd : FuncData) (ps : List Str) : Prop where
  kp : PySem.W.keepIn K (.ref f) = true
  b : Binds K fd ps []
  m : mg name = some (.ref f)
/-- the built-ins whose names the program takes, its constants -/
structure Nm (K : PySem.W.Frag) (mg : Str → Option Value) : Prop where
  isinstance : mg "isinstance" = none
  int : mg "int" = none
  bool : mg "bool" = none
  tuple : mg "tuple" = none
  list : mg "list" = none
  set : mg "set" = none
  len : mg "len" = none
  all : mg "all" = none
  range : mg "range" = none
  sorted : mg "sorted" = none
  side : ∃ t, mg "SIDE" = some (.int 4 t)
/-- a def whose code object is at c -/
structure FunC (K : PySem.W.Frag) (x qual : Str) (st : Stmt) (f : Addr) (fd : FuncData) (c : Addr) : Prop where
  ex : ∃ (oc : Value) (od : Option Addr) (kV doc pm : Value) (an : Option Addr) (ct : Value) (osl : Array (Option Value)),
    fd = PySem.W.fnOf x qual (defArgs st) (defBody st) (defScope st) .none kV doc pm an (.ref c) ct ∧ K.lookup f = some ⟨oc, od, .func fd, osl⟩ ∧ PySem.W.codeIn K (.ref c) qual = true
section
variable {P : Program} {w : World} {mg : Str → Option Value} {base : Heap}
theorem FunC.ok {x qual : Str} {st : Stmt} {f c : Addr} {fd : FuncData} {N ps : List Str} {k : Nat} {sp : Sp} (F : FunC K x qual st f fd c) (S : FnScope N ps (defScope st)) (len : ∀ vs H Q E, sp vs H Q E → vs.length = ps.length)
    (hbody : ∀ (A : Around) (outer : List Env) (s : Shared) (H : Hp) (vs : List V) (Q : VK) (E : XK), Room k (A.deeper (envOfC qual (defScope st) s.heap.objs.size f (.ref c))) → sp vs H Q E →
      ∃ t, PSs (cxOf CX0 P w K mg base N qual (defScope st) f (.ref c) A outer s H E).nox (defBody st) t ∧ t { nx := fun _ H' => Q .non H', rt := Q } (start N vs) H) : FnOk P w K mg base CX0 (k + 1) f fd ps sp := by
  obtain ⟨oc, od, kV, doc, pm, an, ct, osl, rfl, lk, hcd⟩ := F.ex
  refine fn_of lk hcd S len fun A outer s H vs Q E hr hsp => ?_
  obtain ⟨t, h, q⟩ := hbody A outer s H vs Q E hr hsp
  exact ⟨t, h.nox, q⟩
theorem FunC.okX {x qual : Str} {st : Stmt} {f c : Addr} {fd : FuncData} {N ps : List Str} {k : Nat} {sp : Sp} (F : FunC K x qual st f fd c) (S : FnScope N ps (defScope st)) (len : ∀ vs H Q E, sp vs H Q E → vs.length = ps.length)
    (hbody : ∀ (A : Around) (outer : List Env) (s : Shared) (H : Hp) (vs : List V) (Q : VK) (E : XK), Room k (A.deeper (envOfC qual (defScope st) s.heap.objs.size f (.ref c))) → sp vs H Q E →
      ∃ t, PSs (cxOf (L2.CX P w) P w K mg base N qual (defScope st) f (.ref c) A outer s H E) (defBody st) t ∧ t { nx := fun _ H' => Q .non H', rt := Q } (start N vs) H) : FnOk P w K mg base (L2.CX P w) (k + 1) f fd ps sp := by
  obtain ⟨oc, od, kV, doc, pm, an, ct, osl, rfl, lk, hcd⟩ := F.ex
  exact fn_of lk hcd S len fun A outer s H vs Q E hr hsp => hbody A outer s H vs Q E hr hsp
theorem fun_mkC {x qual : Str} {st : Stmt} {f c : Addr} {oc : Value} {od an : Option Addr} {osl : Array (Option Value)} {kV doc pm ct : Value} (l : K.lookup f = some ⟨oc, od, .func (PySem.W.fnOf x qual (defArgs st) (defBody st) (defScope st) .none kV doc pm an (.ref c) ct), osl⟩)
    (cd : PySem.W.codeIn K (.ref c) qual = true) : FunC K x qual st f (PySem.W.fnOf x qual (defArgs st) (defBody st) (defScope st) .none kV doc pm an (.ref c) ct) c := ⟨⟨oc, od, kV, doc, pm, an, ct, osl, rfl, l, cd⟩⟩
end
section
variable {X : Cx}
/-- what stands in the invariant may be used -/
theorem pe_fr {e : Expr} {t : TE} (h : X.A.frames = some X.stack → PE X e t) : PE X e t := ⟨fun pins s σ H Q I q => (h I.ok.frames).run pins s σ H Q I q⟩
end
end LP
end

section
/-! places of more defs of the program -/
namespace LP
open PySem PySem.Spec PyProof.Rows L2
-- shows: not in this statement
-- fewest: not in this statement
-- _helps: not in this statement
-- _within: not in this statement
-- _still_hanging: not in this statement
-- _least_helped: not in this statement
-- _best_props: not in this statement
-- _all_that_do: not in this statement
-- _paper: not in this statement
-- _is_shown: not in this statement
-- laid: not in this statement
-- turnings: not in this statement
-- alike: not in this statement
-- _at_corner: not in this statement
-- best: not in this statement
-- _counted: not in this statement
abbrev sBadText : Stmt := top 8
end LP
end

section
set_option Elab.async false
set_option linter.all false
set_option maxRecDepth 100000
set_option maxHeartbeats 4000000
/-! BadText's __init__ by its place; a head's look that follows closures too -/
namespace LP
open PySem PySem.Spec PyProof.Rows L2 Ly GY
def clsBody : Stmt → List Stmt
  | .ClassDef (body := b) .. => b
  | _ => []
def stBI : Stmt := (clsBody sBadText).getD 0 (.Pass ⟨0, 0, 0, 0⟩)
def argBI : Arg := (defArgs stBI).args.getD 0 ⟨"", none, ⟨0, 0, 0, 0⟩⟩
/-- what stands of the method -/
abbrev FnVC : Type := Option (Str × Str × Arguments × FuncBody × Scope × Addr × List Str × Value × Addr)
def badAd (K : PySem.W.Frag) : Addr := He.ma K (He.ga K "BadText") "__init__"
def fnVC (K : PySem.W.Frag) : FnVC := match K.lookup (badAd K) with
  | some ⟨_, _, .func fd, _⟩ => some (fd.name, fd.qualname, fd.params, fd.body, fd.scope, fd.globals, fd.closure.map (·.1), fd.defaults, fd.builtins)
  | _ => none
def vC : FnVC := some ("__init__", "BadText.__init__", defArgs stBI, .stmts (defBody stBI), defScope stBI, mainGlobals, ["__class__"], .none, builtinsNs)
/-- its code, its cell -/
def badB (K : PySem.W.Frag) (file : Str) : Bool := match K.lookup (badAd K) with
  | some ⟨_, _, .func fd, _⟩ => PySem.W.codeIn K fd.code "BadText.__init__" && ((match fd.code with
      | .ref cda => (match K.lookup cda with
        | some ⟨_, _, .fields vs, _⟩ => (match (vs.toList : List Value)[2]? with
          | some (Value.str z _) => z == file
          | _ => false)
        | _ => false)
      | _ => false) && (match fd.closure with
      | [(_, cc)] => (match K.lookup cc with
        | some ⟨_, _, .cell (some (.ref D)), _⟩ => decide (D = He.ga K "BadText")
        | _ => false)
      | _ => false))
  | _ => false
def oexB (K : PySem.W.Frag) (C : Addr) : Bool := match K.lookup C with
  | some ⟨.type t, _, .cls cd, sl⟩ => decide (t = "type") && (match cd.mro, sl.toList with
    | .ref C' :: bm, [_, _, _, _, some (.builtin n), _] => decide (C' = C) && (decide (n = "ValueError.__new__") && (!cd.hasDel && (cd.hasDict && PySem.HandSPX.refsVE bm)))
    | _, _ => false)
  | _ => false
/-! ### the look -/
def asY (g : Addr → Option Obj) (n : Nat) : List Addr := cStatics :: (He.asD g n ++ (He.asD g n).flatMap fun a => match g a with
  | some ⟨_, _, .func fd, _⟩ => fd.closure.map (·.2)
  | _ => [])
abbrev AlY : Type := He.AlX × FnVC
def obsY (n : Nat) (fa : List He.Fa) (fn : List He.DefD) (tf : List He.Defn) (ex : PySem.W.Frag → Bool) (g : Addr → Option Obj) : AlY :=
  ((He.obsT fa fn [] (He.frT g (asY g n)), ex (He.frT g (asY g n)) && He.tabsB g tf (He.frT g (asY g n))), fnVC (He.frT g (asY g n)))
theorem says_as {fa : List He.Fa} {fn : List He.DefD} {tf : List He.Defn} {ex : PySem.W.Frag → Bool} {w : World} {h : Heap} {as : List Addr}
    (e : (He.obsT fa fn [] (He.frT h.get? as), ex (He.frT h.get? as) && He.tabsB h.get? tf (He.frT h.get? as)) = He.valX fn [] w) : He.SaysX fa fn [] tf ex w h (He.frT h.get? as) := by
  generalize hK : He.frT h.get? as = K at e
  obtain ⟨e1, e2⟩ := Prod.mk.inj e
  obtain ⟨h1, h2⟩ := He.ba e2
  have look : ∀ p ∈ tf, PySem.W.codeHdIn K (He.cT K p).1 (He.cT K p).2 = true ∧ ∃ o, h.get? (He.cT K p).2 = some o ∧ He.emptyTab o = true := fun p hp => by
    have z := List.all_eq_true.mp h2 p hp
    obtain ⟨z1, z2⟩ := He.ba z
    refine ⟨z1, ?_⟩
    revert z2
    cases h.get? (He.cT K p).2 with
    | none => exact fun z2 => nomatch z2
    | some o => exact fun z2 => ⟨o, rfl, z2⟩
  refine ⟨e1, h1, fun p hp => (look p hp).1, fun p hp => ?_, fun p hp => ?_⟩
  · obtain ⟨_, o, ho, he⟩ := look p hp
    have z := He.frT_none (as := as) ho he
    rw [hK] at z
    exact z
  · obtain ⟨_, o, ho, he⟩ := look p hp
    rw [ho, He.emptyTab_eq he]
def hookY (n : Nat) (fa : List He.Fa) (fn : List He.DefD) (tf : List He.Defn) (ex : PySem.W.Frag → Bool) : PySem.W.Hook where
  α := AlY
  obs := fun s => obsY n fa fn tf ex s.heap.get?
  val := fun w => (He.valX fn [] w, vC)
  says := fun w h => ∃ K : PySem.W.Frag, K.In h ∧ He.SaysX fa fn [] tf ex w h K ∧ fnVC K = vC
  of := fun _ _ e => ⟨_, He.frT_in, says_as (Prod.mk.inj e).1, (Prod.mk.inj e).2⟩
  keeps := fun _ _ _ ⟨K, hK, c, v⟩ k => ⟨K, PySem.W.Frag.In.keeps hK k, ⟨c.t, c.more, c.hd, c.out, fun p hp => k _ _ (c.empty p hp)⟩, v⟩
theorem obsY_eq {n : Nat} {fa : List He.Fa} {fn : List He.DefD} {tf : List He.Defn} {ex : PySem.W.Frag → Bool} {g : Addr → Option Obj} {s : Shared} (h : ∀ a, g a = s.heap.get? a) : obsY n fa fn tf ex g = (hookY n fa fn tf ex).obs s := by
  have e : g = s.heap.get? := funext h
  rw [e] <;> rfl
end LP
end

section
set_option Elab.async false
set_option linter.all false
set_option maxRecDepth 100000
set_option maxHeartbeats 4000000
/-! the head's facts, by places -/
namespace LP
open PySem PySem.Spec PyProof.Rows L2 Ly GY
def defs : List He.DefD := [⟨("read", none), "read", "read", defArgs (top 14), defBody (top 14), defScope (top 14), [], []⟩, ⟨("_check_rows", none), "_check_rows", "_check_rows", defArgs (top 15), defBody (top 15), defScope (top 15), [], []⟩, ⟨("_can_stand", none), "_can_stand", "_can_stand", defArgs (top 16), defBody (top 16), defScope (top 16), [], []⟩, ⟨("_law_mix", none), "_law_mix", "_law_mix", defArgs (top 18), defBody (top 18), defScope (top 18), [], []⟩, ⟨("_law_next", none), "_law_next", "_law_next", defArgs (top 19), defBody (top 19), defScope (top 19), [], []⟩, ⟨("_law_alike", none), "_law_alike", "_law_alike", defArgs (top 20), defBody (top 20), defScope (top 20), [], []⟩, ⟨("_law_inside", none), "_law_inside", "_law_inside", defArgs (top 21), defBody (top 21), defScope (top 21), [], []⟩, ⟨("_law_all", none), "_law_all", "_law_all", defArgs (top 22), defBody (top 22), defScope (top 22), [], []⟩, ⟨("_law_body", none), "_law_body", "_law_body", defArgs (top 23), defBody (top 23), defScope (top 23), [], []⟩, ⟨("_law_text", none), "_law_text", "_law_text", defArgs (top 24), defBody (top 24), defScope (top 24), [], []⟩, ⟨("_law_due", none), "_law_due", "_law_due", defArgs (top 25), defBody (top 25), defScope (top 25), [], []⟩, ⟨("_law_told", none), "_law_told", "_law_told", defArgs (top 26), defBody (top 26), defScope (top 26), [], []⟩, ⟨("_law_changed", none), "_law_changed", "_law_changed", defArgs (top 27), defBody (top 27), defScope (top 27), [], []⟩, ⟨("law", none), "law", "law", defArgs (top 28), defBody (top 28), defScope (top 28), [], []⟩]
def fa : List He.Fa := [.glo "read", .glo "_check_rows", .glo "_can_stand", .glo "_law_mix", .glo "_law_next", .glo "_law_alike", .glo "_law_inside", .glo "_law_all", .glo "_law_body", .glo "_law_text", .glo "_law_due", .glo "_law_told", .glo "_law_changed", .glo "law", .glo "PrintError", .glo "NoBody", .glo "Outside", .glo "NoLayer", .glo "NoProp", .glo "BadReach", .glo "BadPlace", .glo "BadText", .free "isinstance", .free "int", .free "bool", .free "tuple", .free "list", .free "set", .free "len", .free "all", .free "range", .free "sorted", .free "max", .free "min", .free "str", .free "ValueError", .free "any", .free "enumerate", .free "super", .int "SIDE" 4, .int "LAYER_ROWS" 5, .int "MOST_ROWS" 19, .str "BETWEEN" "-"]
def tf : List He.Defn := [("_check_rows", none), ("_can_stand", none)]
def ex (K : PySem.W.Frag) : Bool := (decide ((He.cT K ("_check_rows", none)).2 ≠ He.ga K "law") && (decide ((He.cT K ("_can_stand", none)).2 ≠ He.ga K "law") && (badB K "/claim/cut.py" && (oexB K (He.ga K "BadText") && (xfB K (He.ga K "BadText") && (decide (PySem.W.findIn K (.ref (He.ga K "BadText")) "row" = some none) && (decide (PySem.W.findIn K (.ref (He.ga K "BadText")) "__init__" = some (some (.ref (badAd K)))) && (decide (PySem.W.typeIn K (.ref (badAd K)) = some (.type "function")) && (decide (PySem.W.mroIn K (He.ga K "BadText") (.ref (He.ga K "BadText")) = some true) && (decide (PySem.W.nsIn K cStatics "thirdparty.any" = some none) && (decide (PySem.W.ks_superIn K (He.ga K "BadText") (He.ga K "BadText") "__init__" = some (some (.builtin "ValueError.__init__"))) && (decide (PySem.W.subIn K (.ref (He.ga K "BadText")) (.type "ValueError") = some true) && (decide (PySem.W.findIn K (.ref (He.ga K "BadText")) "__setattr__" = some (some (.builtin "object.__setattr__"))) && (decide (PySem.W.subIn K (.ref (He.ga K "BadText")) (.type "BaseException") = some true) && (decide (PySem.W.typeIn K (.ref (He.ga K "BadText")) = some (.type "type")) && (PySem.W.keepIn K (.ref (He.ga K "BadText")) && (decide (PySem.W.findIn K (.ref (He.ga K "BadText")) "__getattribute__" = some (some (.builtin "BaseException.__getattribute__"))) && (decide (PySem.W.findIn K (.ref (He.ga K "BadText")) "__getattr__" = some none) && (PySem.W.hasDictIn K (He.ga K "BadText") && (decide (PySem.W.findIn K (.ref (He.ga K "BadText")) "__class__" = some (some (.builtin "object.__class__"))) && (decide (PySem.W.specialIn K (.builtin "object.__class__") "__get__" = some (some (.builtin "getset_descriptor.__get__"))) && (decide (PySem.W.takesIn K (.builtin "object.__class__") = some true) && (decide (PySem.W.mroIn K (He.ga K "BadText") (.type "object") = some true) && (decide (PySem.W.exmOne K (.ref (He.ga K "BadText")) (.ref (He.ga K "PrintError")) = some true) && (decide (PySem.W.kitAny K (.ref (He.ga K "BadText")) [(.ref (He.ga K "BadPlace")), (.ref (He.ga K "BadReach")), (.ref (He.ga K "NoBody")), (.ref (He.ga K "NoLayer")), (.ref (He.ga K "NoProp")), (.ref (He.ga K "Outside"))] = some false) && (decide (PySem.W.kitOne K (.ref (He.ga K "BadText")) (.ref (He.ga K "BadText")) = some true) && decide (PySem.W.kitOne K (.ref (He.ga K "BadText")) (.type "ValueError") = some true)))))))))))))))))))))))))))
end LP
end

section
set_option Elab.async false
set_option linter.all false
set_option maxRecDepth 100000
set_option maxHeartbeats 0
namespace LP
open PySem PySem.Spec PyProof.Rows L2
abbrev R : PySem.W.OpenRow := PySem.W.OpenLaw.row PySem.Challenge.rw_layerprint_k14_texts_that_tell_no_body
abbrev theHook : PySem.W.Hook := hookY 5 fa defs tf ex
def theOb (s : PySem.W.SharedT) : AlY := obsY 5 fa defs tf ex (HandSHeadRun.getT s)
theorem theOb_eq (s : PySem.W.SharedT) : theOb s = theHook.obs s.abs := obsY_eq (HandSHeadRun.getT_eq s)
def names : List PySem.Str := [("PrintError" : PySem.Str), ("NoBody" : PySem.Str), ("Outside" : PySem.Str), ("NoLayer" : PySem.Str), ("NoProp" : PySem.Str), ("BadReach" : PySem.Str), ("BadPlace" : PySem.Str), ("BadText" : PySem.Str), ("SIDE" : PySem.Str), ("BETWEEN" : PySem.Str), ("LAYER_ROWS" : PySem.Str), ("MOST_ROWS" : PySem.Str), ("read" : PySem.Str), ("_check_rows" : PySem.Str), ("_can_stand" : PySem.Str), ("_law_mix" : PySem.Str), ("_law_next" : PySem.Str), ("_law_alike" : PySem.Str), ("_law_inside" : PySem.Str), ("_law_all" : PySem.Str), ("_law_body" : PySem.Str), ("_law_text" : PySem.Str), ("_law_due" : PySem.Str), ("_law_told" : PySem.Str), ("_law_changed" : PySem.Str)]
theorem run (w : World) : HandSHeadRun.RunEq R (PySem.W.view R.prog [28]) theHook theOb 6000 names w := by
  intro os
  kernel_rfl
end LP
end

section
set_option Elab.async false
set_option linter.all false
set_option maxRecDepth 100000
set_option maxHeartbeats 2000000
/-! is_number, _is_triple, _are_rising_cells -/
namespace LP
open PySem PySem.Spec PyProof.Rows L2 Ly GY
variable [LamTab] {P : Program} {w : World} {K : PySem.W.Frag} {mg : Str → Option Value} {base : Heap}
def btw (lo hi i : Int) : Bool := decide (lo ≤ i) && decide (i ≤ hi)
def tri (lo hi : Int) (c : C3) : Bool := btw lo hi c.1 && (btw lo hi c.2.1 && btw lo hi c.2.2)
theorem tri_room {c : C3} : tri 0 3 c = true ↔ InR c := by
  unfold tri btw InR
  simp only [Bool.and_eq_true, decide_eq_true_eq]
def spNum : Sp := fun vs H Q _ => ∃ v lo hi : Int, vs = [.int v, .int lo, .int hi] ∧ Q (.bl (btw lo hi v)) H
/-! ### _is_triple -/
def spTri (K : PySem.W.Frag) (Pt : Addr) : Sp := fun vs H Q _ => ∃ (a : Addr) (c : C3) (lo hi : Int), vs = [.ref a, .int lo, .int hi] ∧ SqT K H a [.int c.1, .int c.2.1, .int c.2.2] ∧ TGen H Pt ∧ ∀ H', Kp [] H H' → Q (.bl (tri lo hi c)) H'
/-- the scope of the one generator expression in a return -/
def genOf : Stmt → Scope
  | .Return (some (.Call _ [.GeneratorExp _ _ sc _] _ _)) _ => sc
  | .Return (some (.BoolOp _ [_, .Call _ [.GeneratorExp _ _ sc _] _ _] _)) _ => sc
  | .Return (some (.BoolOp _ [.Call _ [.GeneratorExp _ _ sc _] _ _, _] _)) _ => sc
  | .If (.BoolOp _ [_, .UnaryOp _ (.Call _ [.GeneratorExp _ _ sc _] _ _) _] _) _ _ _ => sc
  | .If (.UnaryOp _ (.Call _ [.GeneratorExp _ _ sc _] _ _) _) _ _ _ => sc
  | _ => { kind := .function, names := [], isGenerator := false, isCoroutine := false }
def stOf (st : Stmt) (i : Nat) : Stmt := (defBody st).getD i (.Pass ⟨0, 0, 0, 0⟩)
theorem btw_all {lo hi : Int} {ns : List Int} {i : Nat} {n : Int} (h : ns[i]? = some n) (p : (ns.take i).all (btw lo hi) = true) :
    (btw lo hi n = true → (ns.take (i + 1)).all (btw lo hi) = true) ∧ (btw lo hi n = false → ns.all (btw lo hi) = false) := by
  refine ⟨fun q => ?_, fun q => ?_⟩
  · rw [List.take_add_one, h]
    show (ns.take i ++ [n]).all _ = true
    rw [List.all_append, p]
    show (true && (btw lo hi n && true)) = true
    rw [q]
    rfl
  · cases e : ns.all (btw lo hi) with
    | false => rfl
    | true =>
      have := List.all_eq_true.mp e n (List.mem_of_getElem? h)
      rw [q] at this
      cases this
theorem int_at {ns : List Int} {i : Nat} {x : V} (h : (ns.map V.int)[i]? = some x) : ∃ n, ns[i]? = some n ∧ x = .int n := by
  rw [List.getElem?_map] at h
  cases e : ns[i]? with
  | none => rw [e] at h; cases h
  | some n => rw [e] at h; exact ⟨n, rfl, (Option.some.inj h).symm⟩
end LP
end

section
set_option Elab.async false
set_option linter.all false
set_option maxRecDepth 100000
set_option maxHeartbeats 2000000
/-! _are_rising_cells -/
namespace LP
open PySem PySem.Spec PyProof.Rows L2 Ly GY
variable [LamTab] {P : Program} {w : World} {K : PySem.W.Frag} {mg : Str → Option Value} {base : Heap}
theorem lex_c {a b : C3} (h : lt3 a b) : HT.lexLt [a.1, a.2.1, a.2.2] [b.1, b.2.1, b.2.2] = true := by
  unfold lt3 at h
  rw [HT.lexLt_cons, HT.lexLt_cons, HT.lexLt_cons, HT.lexLt_nil_nil]
  rcases h with h | ⟨h1, h | ⟨h2, h3⟩⟩
  · rw [if_neg (by omega)]
    exact decide_eq_true h
  · rw [if_pos h1, if_neg (by omega)]
    exact decide_eq_true h
  · rw [if_pos h1, if_pos h2, if_neg (by omega)]
    exact decide_eq_true h3
theorem asc_at {cs : List C3} (h : Asc cs) {i j : Nat} {a b : C3} (hi : cs[i]? = some a) (hj : cs[j]? = some b) (hl : i < j) : lt3 a b := by
  obtain ⟨h1, rfl⟩ := List.getElem?_eq_some_iff.mp hi
  obtain ⟨h2, rfl⟩ := List.getElem?_eq_some_iff.mp hj
  exact List.pairwise_iff_getElem.mp h i j h1 h2 hl
theorem Items.at {K : PySem.W.Frag} {H : Hp} : ∀ {xs : List V} {cs : List C3} {i : Nat}, Items K H xs cs → i < cs.length → ∃ p c, xs[i]? = some (.ref p) ∧ cs[i]? = some c ∧ SqT K H p [.int c.1, .int c.2.1, .int c.2.2] := by
  intro xs cs i h hi
  have hl := h.length
  have hx : xs[i]? = some xs[i] := List.getElem?_eq_getElem (by omega)
  obtain ⟨c, hc, hd⟩ := h.get hx
  obtain ⟨p, e, hs⟩ := of_dp_c hd
  exact ⟨p, c, by rw [hx, e], hc, hs⟩
/-! ### is_rising, of cells -/
def spRising (K : PySem.W.Frag) : Sp := fun vs H Q _ => ∃ (v : V) (cs : List C3), vs = [v] ∧ CellsT K H v cs ∧ Asc cs ∧ cs.length ≤ 64 ∧ TGen H LamTab.Z ∧ ∀ H', Kp [] H H' → Q (.bl true) H'
def spRise (K : PySem.W.Frag) (Pt Pr : Addr) : Sp := fun vs H Q _ => ∃ (v : V) (cs : List C3), vs = [v] ∧ CellsT K H v cs ∧ Asc cs ∧ (∀ c ∈ cs, InR c) ∧ cs.length ≤ 64 ∧ TGen H Pt ∧ TR H Pr ∧ ∀ H', Kp [] H H' → Q (.bl true) H'
end LP
end

section
set_option Elab.async false
set_option linter.all false
set_option maxRecDepth 100000
set_option maxHeartbeats 2000000
/-! _is_formed, _places_within -/
namespace LP
open PySem PySem.Spec PyProof.Rows L2 Ly GY
variable [LamTab] {P : Program} {w : World} {K : PySem.W.Frag} {mg : Str → Option Value} {base : Heap}
theorem itD0 {c A B : Prop} [Decidable c] (h : ¬ c) (b : B) : if decide c = true then A else B := by
  rw [decide_eq_false h]
  exact iteF b
theorem itD1 {c A B : Prop} [Decidable c] (h : c) (a : A) : if decide c = true then A else B := by
  rw [decide_eq_true h]
  exact iteT a
theorem few {cs : List C3} (h : Asc cs) (k : ∀ c ∈ cs, InR c) : cs.length ≤ 64 := by
  have := GZ.nodup_le (asc_nodup h) (fun x hx => mem_room.mpr (k x hx))
  have e : room.length = 64 := by unfold room; rw [List.length_map, List.length_range]
  omega
def spForm (K : PySem.W.Frag) (Pt Pr : Addr) : Sp := fun vs H Q _ => ∃ (v : V) (b : Bd), vs = [v] ∧ Body K H v b ∧ Good b ∧ TGen H Pt ∧ TR H Pr ∧ ∀ H', Kp [] H H' → Q (.bl true) H'
end LP
end

section
set_option Elab.async false
set_option linter.all false
set_option maxRecDepth 100000
set_option maxHeartbeats 2000000
/-! _places_within, is_body -/
namespace LP
open PySem PySem.Spec PyProof.Rows L2 Ly GY
variable [LamTab] {P : Program} {w : World} {K : PySem.W.Frag} {mg : Str → Option Value} {base : Heap}
theorem itB0 {c : Bool} {A B : Prop} (h : c = false) (b : B) : if c = true then A else B := by
  subst h
  exact iteF b
theorem itB1 {c : Bool} {A B : Prop} (h : c = true) (a : A) : if c = true then A else B := by
  subst h
  exact iteT a
def subs : Bd → List Bd
  | .wth p q => [p, q]
  | .common p q => [p, q]
  | .less p q => [p, q]
  | .moved _ p => [p]
  | .turnX p => [p]
  | .turnY p => [p]
  | .turnZ p => [p]
  | _ => []
abbrev Bodies (K : PySem.W.Frag) (H : Hp) (vs : List V) (bs : List Bd) : Prop := DpAll K H vs (bs.map bD)
theorem noLs_bs : ∀ bs : List Bd, noLs (bs.map bD) = true
  | [] => rfl
  | c :: cs => by
    show (noL (bD c) && noLs (cs.map bD)) = true
    rw [noLs_bs cs, noL_b]
    rfl
theorem bodies_mono {S : List Addr} {H H' : Hp} {vs : List V} {bs : List Bd} (k : Kp S H H') (h : Bodies K H vs bs) : Bodies K H' vs bs := dps_mono k _ h (.inl (noLs_bs bs))
theorem Bodies.length {H : Hp} : ∀ {vs : List V} {bs : List Bd}, Bodies K H vs bs → vs.length = bs.length
  | _, [], h => by cases h; rfl
  | _, _ :: _, h => by
    cases h with
    | cons _ t => exact congrArg (· + 1) (Bodies.length t)
theorem Bodies.append {H : Hp} : ∀ {vs : List V} {bs : List Bd} {ws : List V} {cs : List Bd}, Bodies K H vs bs → Bodies K H ws cs → Bodies K H (vs ++ ws) (bs ++ cs)
  | _, [], _, _, h, k => by cases h; exact k
  | _, _ :: _, _, _, h, k => by
    cases h with
    | cons a t => exact .cons a (Bodies.append t k)
/-- the last of them -/
theorem Bodies.last {H : Hp} : ∀ {vs : List V} {bs : List Bd}, Bodies K H vs bs → bs ≠ [] → ∃ v b, vs[vs.length - 1]? = some v ∧ bs = bs.dropLast ++ [b] ∧ Body K H v b ∧ Bodies K H vs.dropLast bs.dropLast
  | _, [], _, n => absurd rfl n
  | _, [b], h, _ => by
    cases h with
    | cons a t =>
      cases t
      exact ⟨_, b, rfl, rfl, a, .nil⟩
  | _, b :: c :: r, h, _ => by
    cases h with
    | @cons v vs' _ _ a t =>
      obtain ⟨x, d, h1, h2, h3, h4⟩ := Bodies.last t (by simp)
      have hl := Bodies.length (bs := c :: r) t
      obtain ⟨y, ys, rfl⟩ : ∃ y ys, vs' = y :: ys := by
        cases vs' with
        | nil => cases hl
        | cons y ys => exact ⟨y, ys, rfl⟩
      refine ⟨x, d, ?_, ?_, h3, .cons a h4⟩
      · simpa using h1
      · show b :: (c :: r) = b :: (c :: r).dropLast ++ [d]
        rw [List.cons_append, ← h2]
def spPlaces (K : PySem.W.Frag) : Sp := fun vs H Q _ => ∃ (v : V) (b : Bd), vs = [v] ∧ Body K H v b ∧ ∀ H' l us, Kp [] H H' → H l = none → H' l = some (.lst us) → Bodies K H' us (subs b) → Q (.ref l) H'
def total (bs : List Bd) : Nat := (bs.map nb).sum
theorem total_append (bs cs : List Bd) : total (bs ++ cs) = total bs + total cs := by unfold total; rw [List.map_append, List.sum_append]
theorem total_subs (b : Bd) : total (subs b) + 1 = nb b := by
  cases b <;> simp only [subs, total, nb, List.map, List.sum_cons, List.sum_nil] <;> omega
theorem good_subs {b : Bd} (g : Good b) : ∀ c ∈ subs b, Good c := by
  intro c hc
  cases b <;> simp only [subs, List.mem_cons, List.not_mem_nil, or_false] at hc
  · rcases hc with rfl | rfl
    · exact g.1
    · exact g.2
  · rcases hc with rfl | rfl
    · exact g.1
    · exact g.2
  · rcases hc with rfl | rfl
    · exact g.1
    · exact g.2
  · subst hc; exact g.2.1
  · subst hc; exact g
  · subst hc; exact g
  · subst hc; exact g
theorem len_total (bs : List Bd) : bs.length ≤ total bs := by
  induction bs with
  | nil => exact Nat.zero_le _
  | cons b t ih =>
    have := nb_pos b
    show t.length + 1 ≤ nb b + total t
    omega
end LP
end

section
set_option Elab.async false
set_option linter.all false
set_option maxRecDepth 100000
set_option maxHeartbeats 2000000
/-! is_body -/
namespace LP
open PySem PySem.Spec PyProof.Rows L2 Ly GY
variable [LamTab] {P : Program} {w : World} {K : PySem.W.Frag} {mg : Str → Option Value} {base : Heap}
/-- what was made since may change -/
theorem Kp.off {S : List Addr} {H H1 H2 : Hp} {l : Addr} (k : Kp S H H1) (h : H l = none) (k' : Kp (l :: S) H1 H2) : Kp S H H2 :=
  ⟨fun b o e n t => k'.keep b o (k.keep b o e n t) (fun z => by
      rcases List.mem_cons.mp z with z | z
      · rw [z, h] at e; cases e
      · exact n z) t, fun b xs e => k'.tup b xs (k.tup b xs e), fun b e => k'.tab b (k.tab b e), fun b o u e => k'.frz b o u (k.frz b o u e), fun b e => k.free b (k'.free b e), fun p hp e => k'.lams p hp (k.lams p hp e)⟩
theorem Kp.chg0 {S : List Addr} {H H1 : Hp} {l : Addr} {xs ys : List V} (k : Kp S H H1) (h : H l = none) (e : H1 l = some (.lst xs)) : Kp S H (upd H1 l (.lst ys)) :=
  k.off h (Kp.chg e (List.mem_cons_self))
theorem seqI {t u : TS} {D : Ends} {σ : L2.St} {H : Hp} (h : t { D with nx := u D } σ H) : tSeq t u D σ H := h
theorem asgC {i : Nat} {v : V} {u : TS} {D : Ends} {σ : L2.St} {H : Hp} (h : u D (σ.set i (some v)) H) : tSeq (tAsg (tC v) (gName i)) u D σ H := h
theorem seqW {c : TT} {tb u : TS} {D : Ends} {σ : L2.St} {H : Hp} (h : tWhile c tb { D with nx := u D } σ H) : tSeq (tWhile c tb) u D σ H := h
theorem nameI {i : Nat} {v : V} {Q : L2.St → Hp → Prop} {σ : L2.St} {H : Hp} (h : Q (σ.set i (some v)) H) : gName i v σ H Q := h
def spIsBody (K : PySem.W.Frag) (Pt Pr : Addr) : Sp := fun vs H Q _ => ∃ (v : V) (b : Bd), vs = [v] ∧ Body K H v b ∧ Good b ∧ nb b ≤ 20 ∧ TGen H Pt ∧ TR H Pr ∧ ∀ H', Kp [] H H' → Q (.bl true) H'
end LP
end

section
set_option Elab.async false
set_option linter.all false
set_option maxRecDepth 100000
set_option maxHeartbeats 2000000
/-! comprehensions over cells; quarter, shifted -/
namespace LP
open PySem PySem.Spec PyProof.Rows L2 Ly GY
variable [LamTab] {P : Program} {w : World} {K : PySem.W.Frag} {mg : Str → Option Value} {base : Heap}
theorem one_map {f : C3 → C3} {cs : List C3} {i : Nat} {c : C3} (h : cs[i]? = some c) : (cs.take (i + 1)).map f = (cs.take i).map f ++ [f c] := by
  rw [List.take_add_one, h, List.map_append]
  rfl
/-- a list comprehension over a list of cells, without a test: cells are made of cells -/
theorem lc_map {a D : Addr} {xs : List V} {cs : List C3} {H H1 : Hp} {g : TG} {tt : TT} {te : TE} {vs : List Nat} {σ : L2.St} {Qd : Hp → Prop} (f : C3 → C3) (k1 : Kp [] H H1) (hD : H1 D = none) (hT : SqL K H1 a xs) (hI : Items K H1 xs cs) (hz : cs.length ≤ 64)
    (hs : ∀ (c : C3) (p : Addr) (H' : Hp) (Nx : V → Hp → Prop) (Z : Hp → Prop), Kp [] H H' → SqT K H' p [.int c.1, .int c.2.1, .int c.2.2] →
      (∀ (q : Addr) (H'' : Hp), Kp [] H' H'' → SqT K H'' q [.int (f c).1, .int (f c).2.1, .int (f c).2.2] → Nx (.ref q) H'') →
      g (.ref p) (wipe σ vs) H' fun σ2 H2 => wipe σ2 vs = wipe σ vs ∧ tt σ2 H2 fun b H3 => if b = true then te σ2 H3 Nx else Z H3)
    (hd : ∀ (H' : Hp) (ys : List V), Kp [] H H' → H' D = some (.lst ys) → Items K H' ys (cs.map f) → Qd H') :
    ∃ W : Nat → Nat → Hp → Prop, (∃ m, W 0 m (upd H1 D (.lst []))) ∧ ∀ i m H, W i m H →
      ((Itl K a).stop i H ∧ Qd H) ∨ ((Itl K a).go i H ∧ ∃ Nx : Hp → Prop, (∀ H', Nx H' → ∃ m', m' < m ∧ W (i + 1) m' H') ∧ ∀ x H', (Itl K a).yld i H x H' → g x (wipe σ vs) H' fun σ2 H2 => wipe σ2 vs = wipe σ vs ∧ tt σ2 H2 fun b H3 =>
        if b = true then te σ2 H3 fun y H4 => ∃ acc, H4 D = some (.lst acc) ∧ acc.length < sizeLine ∧ Nx (upd H4 D (.lst (acc ++ [y]))) else Nx H3) := by
  have hl := hI.length
  have hDa : ∀ H', Kp [] H1 H' → SqL K H' a xs := fun H' k => k.sqL hT List.not_mem_nil
  refine lc_list (K := K) (a := a) (xs := xs) (fun i H' => Kp [] H1 H' ∧ ∃ acc, H' D = some (.lst acc) ∧ Items K H' acc ((cs.take i).map f)) ⟨Kp.new hD, [], upd_same, .nil⟩ (fun i H' _ k => hDa H' k.1) (fun i x H' hx pv => ?_) (fun H' pv => ?_)
  · obtain ⟨k, acc, hA, hAi⟩ := pv
    obtain ⟨c, hc, hd'⟩ := (items_mono k hI).get hx
    obtain ⟨p, rfl, hp⟩ := of_dp_c hd'
    refine hs c p H' _ _ (k1.trans k) hp fun q H'' k'' hq => ?_
    have hA2 := k''.lst hA List.not_mem_nil
    have hi : i < cs.length := (List.getElem?_eq_some_iff.mp hc).1
    have hAl := hAi.length
    rw [List.length_map, List.length_take] at hAl
    have kc : Kp [D] H'' (upd H'' D (.lst (acc ++ [V.ref q]))) := Kp.chg hA2 (List.mem_singleton.mpr rfl)
    refine ⟨acc, hA2, ?_, (k.trans k'').chg0 hD hA2, _, upd_same, ?_⟩
    · have : (64 : Nat) < sizeLine := by decide
      omega
    · rw [one_map hc]
      exact Items.append (items_mono kc (items_mono k'' hAi)) (Items.one (dp_c (kc.sqT hq)))
  · obtain ⟨k, acc, hA, hAi⟩ := pv
    rw [hl, List.take_length] at hAi
    exact hd H' acc (k1.trans k) hA hAi
theorem yesI {te : TE} {σ : L2.St} {H : Hp} {Nx : V → Hp → Prop} {Z : Hp → Prop} (h : te σ H Nx) : tYes σ H fun b H3 => if b = true then te σ H3 Nx else Z H3 := by
  show (if true = true then te σ H Nx else Z H)
  rw [if_pos rfl]
  exact h
def isTurn (e : Str) (f : C3 → C3) : Prop := (e = "x" ∧ f = tX) ∨ (e = "y" ∧ f = tY) ∨ (e = "z" ∧ f = tZ)
def spQuarter (K : PySem.W.Frag) : Sp := fun vs H Q _ => ∃ (e : Str) (f : C3 → C3) (v : V) (cs : List C3), vs = [.str e, v] ∧ isTurn e f ∧ CellsL K H v cs ∧ cs.length ≤ 64 ∧
  ∀ (H' : Hp) (p : Addr) (ys : List V) (ds : List C3), Kp [] H H' → H p = none → H' p = some (.lst ys) → Items K H' ys ds → ds.Perm (cs.map f) → (ds.Pairwise fun a b => ¬ lt3 b a) → Q (.ref p) H'
end LP
end

section
set_option Elab.async false
set_option linter.all false
set_option maxRecDepth 100000
set_option maxHeartbeats 2000000
/-! shifted, _block_cells -/
namespace LP
open PySem PySem.Spec PyProof.Rows L2 Ly GY
variable [LamTab] {P : Program} {w : World} {K : PySem.W.Frag} {mg : Str → Option Value} {base : Heap}
def spShifted (K : PySem.W.Frag) : Sp := fun vs H Q _ => ∃ (e : V) (d : C3) (v : V) (cs : List C3), vs = [e, v] ∧ Dp K H e (cD d) ∧ CellsL K H v cs ∧ cs.length ≤ 64 ∧
  ∀ (H' : Hp) (p : Addr) (ys : List V), Kp [] H H' → H p = none → H' p = some (.lst ys) → Items K H' ys (cs.map (add3 d)) → Q (.ref p) H'
/-! ### _block_cells -/
theorem len_flat {f : Nat → List C3} {m : Nat} (h : ∀ i, (f i).length = m) : ∀ n : Nat, ((List.range n).flatMap f).length = n * m
  | 0 => by simp
  | n + 1 => by
    rw [List.range_succ, List.flatMap_append, List.length_append, len_flat h n, List.flatMap_cons, List.flatMap_nil, List.append_nil, h, Nat.succ_mul]
theorem flat_succ (f : Nat → List C3) (n : Nat) : (List.range (n + 1)).flatMap f = (List.range n).flatMap f ++ f n := by
  rw [List.range_succ, List.flatMap_append, List.flatMap_cons, List.flatMap_nil, List.append_nil]
theorem len_blk1 (x y z : Int) (c : Nat) : (blk1 x y z c).length = c := by unfold blk1; rw [List.length_map, List.length_range]
theorem len_blk2 (x y z : Int) (b c : Nat) : (blk2 x y z b c).length = b * c := len_flat (fun _ => len_blk1 ..) b
theorem blk1_succ (x y z : Int) (c : Nat) : blk1 x y z (c + 1) = blk1 x y z c ++ [(x, y, z + (c : Int))] := by
  unfold blk1
  rw [List.range_succ, List.map_append]
  rfl
theorem size_ok {a b c i j k : Nat} (hi : i < a) (ha : a ≤ 4) (hb : b ≤ 4) (hc : c ≤ 4) (hj : j < b) (hk : k < c) : i * (b * c) + j * c + k < sizeLine := by
  have h1 : b * c ≤ 4 * 4 := Nat.mul_le_mul hb hc
  have h2 : i * (b * c) ≤ 4 * (4 * 4) := Nat.mul_le_mul (by omega) h1
  have h3 : j * c ≤ 4 * 4 := Nat.mul_le_mul (by omega) hc
  have h4 : (100 : Nat) < sizeLine := by decide
  omega
def spBlock (K : PySem.W.Frag) : Sp := fun vs H Q _ => ∃ (e g : V) (x y z : Int) (a b c : Nat), vs = [e, g] ∧ Dp K H e (cD (x, y, z)) ∧ Dp K H g (cD (a, b, c)) ∧ (a ≤ 4 ∧ b ≤ 4 ∧ c ≤ 4) ∧
  ∀ (H' : Hp) (p : Addr) (ys : List V), Kp [] H H' → H p = none → H' p = some (.lst ys) → Items K H' ys (blk3 x y z a b c) → Q (.ref p) H'
end LP
end

section
set_option Elab.async false
set_option linter.all false
set_option maxRecDepth 100000
set_option maxHeartbeats 2000000
/-! _joined -/
namespace LP
open PySem PySem.Spec PyProof.Rows L2 Ly GY
variable [LamTab] {P : Program} {W0 : World} {K : PySem.W.Frag} {mg : Str → Option Value} {base : Heap}
theorem u65 {k : Nat} {A : Around} (r : Room k A) : A.units + 65 < cLine := by have := r.un; omega
theorem one_filter {keep : C3 → Bool} {cs : List C3} {i : Nat} {c : C3} (h : cs[i]? = some c) : (cs.take (i + 1)).filter keep = (cs.take i).filter keep ++ (if keep c = true then [c] else []) := by
  rw [List.take_add_one, h, List.filter_append]
  congr 1
  show List.filter keep [c] = _
  rw [List.filter_cons]
  simp
/-- a list comprehension over a list of cells with a test, each cell that passes kept as it is -/
theorem lc_filter {a D : Addr} {xs : List V} {cs : List C3} {H H1 : Hp} {g : TG} {tt : TT} {te : TE} {vs : List Nat} {σ : L2.St} {Qd : Hp → Prop} (keep : C3 → Bool) (k1 : Kp [] H H1) (hD : H1 D = none) (hT : SqL K H1 a xs) (hI : Items K H1 xs cs) (hz : cs.length ≤ 64)
    (hs : ∀ (c : C3) (p : Addr) (H' : Hp) (Nx : V → Hp → Prop) (Z : Hp → Prop), c ∈ cs → Kp [] H H' → SqT K H' p [.int c.1, .int c.2.1, .int c.2.2] →
      (∀ H'', Kp [] H' H'' → keep c = true → Nx (.ref p) H'') → (∀ H'', Kp [] H' H'' → keep c = false → Z H'') →
      g (.ref p) (wipe σ vs) H' fun σ2 H2 => wipe σ2 vs = wipe σ vs ∧ tt σ2 H2 fun b H3 => if b = true then te σ2 H3 Nx else Z H3)
    (hd : ∀ (H' : Hp) (ys : List V), Kp [] H H' → H' D = some (.lst ys) → Items K H' ys (cs.filter keep) → Qd H') :
    ∃ W : Nat → Nat → Hp → Prop, (∃ m, W 0 m (upd H1 D (.lst []))) ∧ ∀ i m H, W i m H →
      ((Itl K a).stop i H ∧ Qd H) ∨ ((Itl K a).go i H ∧ ∃ Nx : Hp → Prop, (∀ H', Nx H' → ∃ m', m' < m ∧ W (i + 1) m' H') ∧ ∀ x H', (Itl K a).yld i H x H' → g x (wipe σ vs) H' fun σ2 H2 => wipe σ2 vs = wipe σ vs ∧ tt σ2 H2 fun b H3 =>
        if b = true then te σ2 H3 fun y H4 => ∃ acc, H4 D = some (.lst acc) ∧ acc.length < sizeLine ∧ Nx (upd H4 D (.lst (acc ++ [y]))) else Nx H3) := by
  have hl := hI.length
  have hDa : ∀ H', Kp [] H1 H' → SqL K H' a xs := fun H' k => k.sqL hT List.not_mem_nil
  refine lc_list (K := K) (a := a) (xs := xs) (fun i H' => Kp [] H1 H' ∧ ∃ acc, H' D = some (.lst acc) ∧ Items K H' acc ((cs.take i).filter keep)) ⟨Kp.new hD, [], upd_same, .nil⟩ (fun i H' _ k => hDa H' k.1) (fun i x H' hx pv => ?_) (fun H' pv => ?_)
  · obtain ⟨k, acc, hA, hAi⟩ := pv
    obtain ⟨c, hc, hd'⟩ := (items_mono k hI).get hx
    obtain ⟨p, rfl, hp⟩ := of_dp_c hd'
    refine hs c p H' _ _ (List.mem_of_getElem? hc) (k1.trans k) hp (fun H'' k'' hk => ?_) (fun H'' k'' hk => ?_)
    · have hA2 := k''.lst hA List.not_mem_nil
      have hi : i < cs.length := (List.getElem?_eq_some_iff.mp hc).1
      have hAl := hAi.length
      have hfl := List.length_filter_le keep (cs.take i)
      rw [List.length_take] at hfl
      have kc : Kp [D] H'' (upd H'' D (.lst (acc ++ [V.ref p]))) := Kp.chg hA2 (List.mem_singleton.mpr rfl)
      refine ⟨acc, hA2, ?_, (k.trans k'').chg0 hD hA2, _, upd_same, ?_⟩
      · have : (64 : Nat) < sizeLine := by decide
        omega
      · rw [one_filter hc, if_pos hk]
        exact Items.append (items_mono kc (items_mono k'' hAi)) (Items.one (dp_c (kc.sqT (k''.sqT hp))))
    · refine ⟨k.trans k'', acc, k''.lst hA List.not_mem_nil, ?_⟩
      rw [one_filter hc, hk, if_neg (by decide), List.append_nil]
      exact items_mono k'' hAi
  · obtain ⟨k, acc, hA, hAi⟩ := pv
    rw [hl, List.take_length] at hAi
    exact hd H' acc (k1.trans k) hA hAi
def JoinIs (w : Str) (p q ds : List C3) : Prop :=
  (w = "with" ∧ (ds.Pairwise fun a b => ¬ lt3 b a) ∧ ds.Nodup ∧ ∀ c, c ∈ ds ↔ c ∈ p ++ q) ∨
  (w = "common" ∧ ds = p.filter fun c => decide (c ∈ q)) ∨ (w = "less" ∧ ds = p.filter fun c => !decide (c ∈ q))
def spJoined (K : PySem.W.Frag) : Sp := fun vs H Q _ => ∃ (w : Str) (a b : Addr) (xs ys : List V) (p q : List C3), vs = [.str w, .ref a, .ref b] ∧ (w = "with" ∨ w = "common" ∨ w = "less") ∧ H a = some (.lst xs) ∧ H b = some (.lst ys) ∧ Items K H xs p ∧ Items K H ys q ∧
  p.length ≤ 64 ∧ q.length ≤ 64 ∧ (∀ c ∈ p, InR c) ∧ (∀ c ∈ q, InR c) ∧ ∀ (H' : Hp) (r : Addr) (zs : List V) (ds : List C3), Kp [] H H' → H r = none → H' r = some (.lst zs) → Items K H' zs ds → JoinIs w p q ds → Q (.ref r) H'
end LP
end

section
set_option Elab.async false
set_option linter.all false
set_option maxRecDepth 100000
set_option maxHeartbeats 2000000
/-! _held -/
namespace LP
open PySem PySem.Spec PyProof.Rows L2 Ly GY
variable [LamTab] {P : Program} {W0 : World} {K : PySem.W.Frag} {mg : Str → Option Value} {base : Heap}
def spHeld (K : PySem.W.Frag) (Pt Ph : Addr) (n : Nat) : Sp := fun vs H Q _ => ∃ (v : V) (b : Bd), vs = [v] ∧ Body K H v b ∧ Good b ∧ dp b ≤ n ∧ TGen H Pt ∧ TGen H Ph ∧
  ∀ (H' : Hp) (r : Addr) (zs : List V), Kp [] H H' → H r = none → H' r = some (.lst zs) → Items K H' zs (all b) → Q (.ref r) H'
theorem in_all {b : Bd} {c : C3} (h : c ∈ all b) : InR c := (mem_all.mp h).1
structure HeldFns (P : Program) (W0 : World) (K : PySem.W.Frag) (mg : Str → Option Value) (base : Heap) (Pt : Addr) (fT fB fS fQ fJ : Addr) (dT dB dS dQ dJ : FuncData) : Prop where
  nT : Fn K mg "_is_triple" fT dT ["value", "low", "high"]
  gT : FnOk P W0 K mg base CX0 4 fT dT ["value", "low", "high"] (spTri K Pt)
  nB : Fn K mg "_block_cells" fB dB ["corner", "size"]
  gB : FnOk P W0 K mg base CX0 1 fB dB ["corner", "size"] (spBlock K)
  nS : Fn K mg "shifted" fS dS ["far", "held"]
  gS : FnOk P W0 K mg base CX0 1 fS dS ["far", "held"] (spShifted K)
  nQ : Fn K mg "quarter" fQ dQ ["edge", "held"]
  gQ : FnOk P W0 K mg base CX0 1 fQ dQ ["edge", "held"] (spQuarter K)
  nJ : Fn K mg "_joined" fJ dJ ["word", "first", "second"]
  gJ : FnOk P W0 K mg base CX0 1 fJ dJ ["word", "first", "second"] (spJoined K)
theorem held_none {f Pt Ph : Addr} {fd : FuncData} : FnOk P W0 K mg base CX0 6 f fd ["body"] (spHeld K Pt Ph 0) := by
  have no : ∀ vs H Q E, ¬ spHeld K Pt Ph 0 vs H Q E := fun vs H Q E h => by
    obtain ⟨v, b, _, _, _, hn, _⟩ := h
    have := dp_pos b
    omega
  exact ⟨fun vs H Q E h => absurd h (no vs H Q E), fun A outer s H args us vs Q E _ _ _ _ h => absurd h (no vs H Q E)⟩
end LP
end

section
set_option Elab.async false
set_option linter.all false
set_option maxRecDepth 100000
set_option maxHeartbeats 2000000
/-! cells -/
namespace LP
open PySem PySem.Spec PyProof.Rows L2 Ly GY
variable [LamTab] {P : Program} {W0 : World} {K : PySem.W.Frag} {mg : Str → Option Value} {base : Heap}
/-- an own class of exceptions over ValueError -/
structure Ex (K : PySem.W.Frag) (mg : Str → Option Value) (x : Str) (C : Addr) : Prop where
  g : mg x = some (.ref C)
  x : PySem.W.excIn K C [.type "ValueError", .type "Exception", .type "BaseException", .type "object"] "ValueError.__new__" = true
  k : PySem.W.keepIn K (.ref C) = true
  b : PySem.W.subIn K (.ref C) (.type "BaseException") = some true
  t : PySem.W.typeIn K (.ref C) = some (.type "type")
theorem btw_iff {lo hi z : Int} : btw lo hi z = true ↔ (lo ≤ z ∧ z ≤ hi) := by
  unfold btw
  simp only [Bool.and_eq_true, decide_eq_true_eq]
/-- the tables of the defs with generator expressions -/
structure Tb (H : Hp) (Pt Pr Ph : Addr) : Prop where
  t : TGen H Pt
  r : TR H Pr
  h : TGen H Ph
theorem Tb.mono {S : List Addr} {H H' : Hp} {Pt Pr Ph : Addr} (b : Tb H Pt Pr Ph) (k : Kp S H H') : Tb H' Pt Pr Ph := ⟨k.tab _ b.t, k.tabr b.r, k.tab _ b.h⟩
def spCells (K : PySem.W.Frag) (Pt Pr Ph : Addr) : Sp := fun vs H Q _ => ∃ (v : V) (b : Bd), vs = [v] ∧ Body K H v b ∧ Good b ∧ nb b ≤ 20 ∧ Tb H Pt Pr Ph ∧
  ∀ (H' : Hp) (r : Addr) (zs : List V), Kp [] H H' → H r = none → H' r = some (.lst zs) → Items K H' zs (all b) → Q (.ref r) H'
end LP
end

section
set_option Elab.async false
set_option linter.all false
set_option maxRecDepth 100000
set_option maxHeartbeats 2000000
/-! check_layer -/
namespace LP
open PySem PySem.Spec PyProof.Rows L2 Ly GY
variable [LamTab] {P : Program} {W0 : World} {K : PySem.W.Frag} {mg : Str → Option Value} {base : Heap}
/-! ### check_layer -/
def spChk (C : Addr) : Sp := fun vs H Q E => ∃ z : Int, vs = [.int z] ∧ ((0 ≤ z ∧ z ≤ 3) → Q .non H) ∧ (¬ (0 ≤ z ∧ z ≤ 3) → E (.ref C) none H)
end LP
end

section
set_option Elab.async false
set_option linter.all false
set_option maxRecDepth 100000
set_option maxHeartbeats 2000000
/-! _row, slice_at -/
namespace LP
open PySem PySem.Spec PyProof.Rows L2 Ly GY
variable [LamTab] {P : Program} {W0 : World} {K : PySem.W.Frag} {mg : Str → Option Value} {base : Heap}
/-! ### _row -/
def sg (cs : List C3) (y z : Int) (x : Nat) : Str := if decide (((x : Int), y, z) ∈ cs) = true then "#" else "."
def rowT (cs : List C3) (y z : Int) : Str := Txt.join "" ((List.range 4).map (sg cs y z))
theorem row_ok (cs : List C3) (y z : Int) : JoinOk "" ((List.range 4).map (sg cs y z)) = true := by
  show JoinOk "" [sg cs y z 0, sg cs y z 1, sg cs y z 2, sg cs y z 3] = true
  unfold sg
  cases decide ((((0 : Nat) : Int), y, z) ∈ cs) <;> cases decide ((((1 : Nat) : Int), y, z) ∈ cs) <;> cases decide ((((2 : Nat) : Int), y, z) ∈ cs) <;> cases decide ((((3 : Nat) : Int), y, z) ∈ cs) <;> decide +kernel
def spRow (K : PySem.W.Frag) (Pw : Addr) : Sp := fun vs H Q _ => ∃ (v : V) (y z : Int) (cs : List C3), vs = [v, .int y, .int z] ∧ CellsL K H v cs ∧ TGen H Pw ∧ ∀ H', Kp [] H H' → Q (.str (rowT cs y z)) H'
/-! ### slice_at -/
def spSlice (K : PySem.W.Frag) (Pt Pr Ph Pw Ps C : Addr) : Sp := fun vs H Q E => ∃ (v : V) (b : Bd) (z : Int), vs = [v, .int z] ∧ Body K H v b ∧ Good b ∧ nb b ≤ 20 ∧ Tb H Pt Pr Ph ∧ TGen H Pw ∧ TGen H Ps ∧
  ((0 ≤ z ∧ z ≤ 3) → ∀ (H' : Hp) (t : Addr), Kp [] H H' → H t = none → H' t = some (.tup ((List.range 4).map fun y : Nat => V.str (rowT (all b) (y : Int) z))) → Q (.ref t) H') ∧
  (¬ (0 ≤ z ∧ z ≤ 3) → ∀ H' : Hp, Kp [] H H' → E (.ref C) none H')
/-! ### rows of signs -/
def sgB (b : Bool) : Str := if b = true then "#" else "."
def cdB (b : Bool) : Nat := if b = true then 35 else 46
def rowB (b : Nat → Bool) : Str := Txt.join "" ((List.range 4).map fun x => sgB (b x))
theorem rowT_eq (cs : List C3) (y z : Int) : rowT cs y z = rowB fun x => decide (((x : Int), y, z) ∈ cs) := rfl
theorem row_codes (b : Nat → Bool) : (rowB b).cps.toList = [cdB (b 0), cdB (b 1), cdB (b 2), cdB (b 3)] := by
  show (Txt.join "" [sgB (b 0), sgB (b 1), sgB (b 2), sgB (b 3)]).cps.toList = _
  cases b 0 <;> cases b 1 <;> cases b 2 <;> cases b 3 <;> decide +kernel
theorem row_len (b : Nat → Bool) : (rowB b).length = 4 := by
  show (Txt.join "" [sgB (b 0), sgB (b 1), sgB (b 2), sgB (b 3)]).length = _
  cases b 0 <;> cases b 1 <;> cases b 2 <;> cases b 3 <;> decide +kernel
theorem row_at (b : Nat → Bool) {i : Nat} (h : i < 4) : [cdB (b 0), cdB (b 1), cdB (b 2), cdB (b 3)][i]? = some (cdB (b i)) := by
  rcases (show i = 0 ∨ i = 1 ∨ i = 2 ∨ i = 3 by omega) with rfl | rfl | rfl | rfl <;> rfl
end LP
end

section
set_option Elab.async false
set_option linter.all false
set_option maxRecDepth 100000
set_option maxHeartbeats 2000000
/-! the law's source of numbers -/
namespace LP
open PySem PySem.Spec PyProof.Rows L2 Ly GY
variable [LamTab] {P : Program} {W0 : World} {K : PySem.W.Frag} {mg : Str → Option Value} {base : Heap}
abbrev lMix : Stmt := top 18
abbrev lNext : Stmt := top 19
abbrev lAlike : Stmt := top 20
abbrev lInside : Stmt := top 21
abbrev lAll : Stmt := top 22
abbrev lBody : Stmt := top 23
-- _law_whole: not in this statement
-- _law_numbers: not in this statement
-- _law_counted: not in this statement
-- _law_kind: not in this statement
-- _law_wrapped: not in this statement
-- _law_strokes: not in this statement
abbrev lText : Stmt := top 24
-- _law_beside: not in this statement
-- _law_free: not in this statement
-- _law_ways: not in this statement
-- _law_hangs: not in this statement
-- _law_height: not in this statement
-- _law_small: not in this statement
-- _law_draw: not in this statement
-- _law_best: not in this statement
-- _law_orders: not in this statement
-- _law_way: not in this statement
abbrev lLaw : Stmt := top 28
structure Nl (K : PySem.W.Frag) (mg : Str → Option Value) : Prop where
  max : mg "max" = none
  min : mg "min" = none
  str : mg "str" = none
/-- the state: a list of a number, a list of numbers and a place -/
def Sta (H : Hp) (h l : Addr) : Prop := ∃ (m t : Int) (ns : List Int), H h = some (.lst [.int m, .ref l, .int t]) ∧ H l = some (.lst (ns.map V.int)) ∧ h ≠ l ∧ 0 ≤ m ∧ m < 2147483647 ∧ ns.length ≤ 64
theorem Sta.mono {S : List Addr} {H H' : Hp} {h l : Addr} (s : Sta H h l) (k : Kp S H H') (n1 : h ∉ S) (n2 : l ∉ S) : Sta H' h l := by
  obtain ⟨m, t, ns, h1, h2, h3, h4⟩ := s
  exact ⟨m, t, ns, k.lst h1 n1, k.lst h2 n2, h3, h4⟩
theorem Sta.mono0 {H H' : Hp} {h l : Addr} (s : Sta H h l) (k : Kp [] H H') : Sta H' h l := s.mono k List.not_mem_nil List.not_mem_nil
def spMix (K : PySem.W.Frag) : Sp := fun vs H Q _ => ∃ (a : Addr) (ns : List Int) (z : Int), vs = [.ref a, .int z] ∧ SqL K H a (ns.map V.int) ∧ ns.length ≤ 64 ∧ 0 ≤ z ∧ z < 2147483647 ∧
  ∀ (H' : Hp) (h l : Addr), Kp [] H H' → H h = none → H l = none → Sta H' h l → Q (.ref h) H'
theorem scMix : FnScope ["_law_script", "_law_seed", "_law_mixed", "_law_cell"] ["_law_script", "_law_seed"] (defScope lMix) := ⟨rfl, rfl, rfl, by decide +kernel, rfl, by decide +kernel, by decide +kernel⟩
theorem ok_mix {f : Addr} {fd : FuncData} (F : Fun K "_law_mix" "_law_mix" lMix f fd) (T : Nm K mg) : FnOk P W0 K mg base CX0 1 f fd ["_law_script", "_law_seed"] (spMix K) := by
  refine F.ok scMix (fun vs H Q E h => ?_) (fun cdv A outer s H vs Q E hr h => ?_)
  · obtain ⟨a, ns, z, rfl, _⟩ := h
    rfl
  · obtain ⟨a, ns, z, rfl, hL, h64, z0, z1, q⟩ := h
    refine ⟨_, pss_cons (ps_set (i := 2) scMix.nd rfl (.inl rfl) (pv 1))
      (pss_cons (ps_for PassesOwn.never rfl (pi_list (pv 0)) (pg_name (i := 3) scMix.nd rfl (.inl rfl))
        (pss_one (ps_set (i := 2) scMix.nd rfl (.inl rfl) (pe_op op_mod (pe_op op_add (pe_op op_add (pe_op op_mul (pv 2) pe_int) (pe_op op_mod (pv 3) pe_int)) pe_int) pe_int))))
      (pss_one (ps_ret (pe_lst (pa_cons (pv 2) (pa_cons (pe_callTy call_list_of (by rfl) T.list (by decide +kernel) (pa_cons (pv 0) pa_nil)) (pa_cons pe_int pa_nil))))))), ?_⟩
    refine ⟨_, rfl, _, rfl, a, rfl, ⟨_, hL⟩, for_list (K := K) (a := a) (xs := ns.map V.int) (fun i σ H' => H' = H ∧ ∃ (m : Int) (o : Option V), σ = [some (.ref a), some (.int z), some (.int m), o] ∧ 0 ≤ m ∧ m < 2147483647) ⟨rfl, z, none, rfl, z0, z1⟩ (fun i σ H' _ p => by rw [p.1]; exact hL) (fun i x σ H' hx p => ?_) (fun σ H' p => ?_)⟩
    · obtain ⟨rfl, m, o, rfl, m0, m1⟩ := p
      obtain ⟨n, hn, rfl⟩ := int_at hx
      refine ⟨_, rfl, _, _, rfl, rfl, .inl ⟨by omega, by omega⟩, _, rfl, _, _, rfl, rfl, (by show (0 : Int) < 2147483629; decide), _, _, rfl, rfl, _, _, rfl, rfl, _, _, rfl, rfl, (by show (0 : Int) < 2147483647; decide), rfl, _, _, rfl, ?_, ?_⟩
      · exact Int.emod_nonneg _ (by decide)
      · exact Int.emod_lt_of_pos _ (by decide)
    · obtain ⟨rfl, m, o, rfl, m0, m1⟩ := p
      refine ⟨_, rfl, _, rfl, a, _, rfl, .inl hL, fun l hl => ⟨(by show 3 ≤ sizeLine; decide), fun h hh => ?_⟩⟩
      obtain ⟨hne, hh0⟩ := free_upd hh
      refine q _ h l ((Kp.new hl).trans (Kp.new hh)) hh0 hl ⟨m, 0, ns, upd_same, ?_, hne, m0, m1, h64⟩
      rw [upd_ne (Ne.symm hne)]
      exact upd_same
theorem dp_ints {H : Hp} : ∀ ns : List Int, DpAll K H (ns.map V.int) (ns.map PyData.int)
  | [] => .nil
  | n :: ns => .cons (.int n) (dp_ints ns)
theorem ints_lay : ∀ ns : List Int, PyData.canLayAll0 (ns.map PyData.int) = true
  | [] => by simp [PyData.canLayAll0]
  | c :: cs => by simp [PyData.canLayAll0, PyData.canLay0, ints_lay cs]
theorem ints_depth : ∀ ns : List Int, PyData.depthAll (ns.map PyData.int) ≤ 1
  | [] => by simp [PyData.depthAll]
  | c :: cs => by
    have h1 := ints_depth cs
    simp only [List.map_cons, PyData.depthAll, PyData.depth]
    omega
theorem ints_shaped (ns : List Int) : SeqAt.shaped (.list (ns.map PyData.int)) = true := by
  have h1 := ints_depth ns
  have h2 : PyData.depth (.list (ns.map PyData.int)) ≤ 64 := by
    simp only [PyData.depth]
    omega
  show (PyData.canLay0 (.list (ns.map PyData.int)) && decide (PyData.depth (.list (ns.map PyData.int)) ≤ 64)) = true
  rw [Bool.and_eq_true]
  exact ⟨by simp only [PyData.canLay0]; exact ints_lay ns, decide_eq_true h2⟩
theorem ixN_nat {n : Nat} {i : Int} (h0 : 0 ≤ i) (h : i < (n : Int)) : ixN n i = some i.toNat := by
  unfold ixN
  rw [if_pos h0, if_pos h]
theorem iteF' {c : Bool} {A B : Prop} (h : c = false) (b : B) : if c = true then A else B := itB0 h b
theorem iteT' {c : Bool} {A B : Prop} (h : c = true) (a : A) : if c = true then A else B := itB1 h a
def spNext : Sp := fun vs H Q _ => ∃ (h l : Addr) (many : Int), vs = [.ref h, .int many] ∧ 0 < many ∧ many < 1073741824 ∧ Sta H h l ∧
  ∀ (H' : Hp) (r : Int), Kp [h, l] H H' → Sta H' h l → 0 ≤ r → r < many → Q (.int r) H'
theorem scNext : FnScope ["_law_h", "_law_many", "_law_at", "_law_cell"] ["_law_h", "_law_many"] (defScope lNext) := ⟨rfl, rfl, rfl, by decide +kernel, rfl, by decide +kernel, by decide +kernel⟩
theorem ok_next {f : Addr} {fd : FuncData} (F : Fun K "_law_next" "_law_next" lNext f fd) (T : Nm K mg) (U : Nl K mg) : FnOk P W0 K mg base CX0 1 f fd ["_law_h", "_law_many"] spNext := by
  refine F.ok scNext (fun vs H Q E h => ?_) (fun cdv A outer s H vs Q E hr h => ?_)
  · obtain ⟨h, l, many, rfl, _⟩ := h
    rfl
  · obtain ⟨h, l, many, rfl, my0, my1, hS, q⟩ := h
    refine ⟨_, pss_cons (ps_set (i := 2) scNext.nd rfl (.inl rfl) (pe_op op_mod (pe_ix ix_list (pv 0) pe_int (fun _ _ => rfl)) (pe_callB (call_max2 rfl) (by rfl) U.max (by decide +kernel) (pa_cons pe_int (pa_cons (pe_callB call_len_seq (by rfl) T.len PySem.boot_len (pa_cons (pe_ix ix_list (pv 0) pe_int (fun _ _ => rfl)) pa_nil)) pa_nil)))))
      (pss_cons (ps_set (i := 3) scNext.nd rfl (.inl rfl) (pe_ifExp (pt_cmpR (op_neD hr.units) (pe_ix ix_list (pv 0) pe_int (fun _ _ => rfl)) (pe_lst pa_nil) (nomark _)) (pe_ix ix_list (pe_ix ix_list (pv 0) pe_int (fun _ _ => rfl)) (pv 2) (fun _ _ => rfl)) pe_int))
      (pss_cons (ps_if (pt_cmpR op_ge (pv 3) (pe_op op_pow pe_int pe_int) (nomark _))
        (pss_cons (ps_asg (pe_op op_fdiv (pv 3) (pv 1)) (pg_sub (pe_ix ix_list (pv 0) pe_int (fun _ _ => rfl)) (pv 2) set_list)) (pss_one (ps_ret (pe_op op_mod (pv 3) (pv 1))))) pss_nil)
      (pss_cons (ps_asg (pe_op op_mod (pe_op op_add (pe_op op_add (pe_op op_mul (pe_ix ix_list (pv 0) pe_int (fun _ _ => rfl)) pe_int) (pe_op op_mul (pv 3) pe_int)) pe_int) pe_int) (pg_sub (pv 0) pe_int set_list))
      (pss_cons (ps_asg (pe_op op_add (pe_ix ix_list (pv 0) pe_int (fun _ _ => rfl)) pe_int) (pg_sub (pv 0) pe_int set_list))
      (pss_one (ps_ret (pe_op op_mod (pe_op op_fdiv (pe_ix ix_list (pv 0) pe_int (fun _ _ => rfl)) pe_int) (pv 1)))))))), ?_⟩
    obtain ⟨m, t, ns, hH, hL, hne, m0, m1, h64⟩ := hS
    refine ⟨_, rfl, h, _, 2, _, rfl, rfl, SqL.of hH, rfl, ?_⟩
    refine ⟨_, rfl, h, _, 1, _, rfl, rfl, SqL.of hH, rfl, l, _, rfl, .inl (SqL.of hL), 1, _, rfl, ?_⟩
    have hjp : (0 : Int) < (if ((ns.map V.int).length : Int) > 1 then ((ns.map V.int).length : Int) else 1) := by
      split <;> omega
    refine ⟨_, _, rfl, rfl, hjp, ?_⟩
    have e0 := Int.emod_nonneg t (Int.ne_of_gt hjp)
    have e1 := Int.emod_lt_of_pos t hjp
    generalize hat : t % (if ((ns.map V.int).length : Int) > 1 then ((ns.map V.int).length : Int) else 1) = at_ at e0 e1
    refine ⟨_, rfl, h, _, 1, _, rfl, rfl, SqL.of hH, rfl, Nat.zero_le _, fun p hp => ?_⟩
    have kp : Kp [] H (upd H p (.lst [])) := Kp.new hp
    have hPp : upd H p (.lst []) p = some (.lst []) := upd_same
    have hH1 := kp.lst hH List.not_mem_nil
    have hL1 := kp.lst hL List.not_mem_nil
    generalize upd H p (.lst []) = H1 at kp hPp hH1 hL1 ⊢
    refine ⟨.list (ns.map PyData.int), .list [], .lst (SqL.of hL1) (dp_ints ns), .lst (SqL.of hPp) .nil, ints_shaped ns, ints_shaped [], ?_⟩
    by_cases hns : ns = []
    · subst hns
      refine ⟨_, rfl, iteF' (by simp [PyData.eqv, PyData.eqvAll]) ?_⟩
      refine ⟨_, rfl, _, _, rfl, rfl, ⟨by decide, by decide, by decide⟩, _, _, rfl, rfl, _, rfl, itD0 (by decide) ?_⟩
      have kend : ∀ (M' t' : Int), Kp [h, l] H (upd (upd H1 h (.lst [.int M', .ref l, .int t])) h (.lst [.int M', .ref l, .int t'])) := fun M' t' => by
        rw [upd_upd]
        exact kp.w0.trans (Kp.chg hH1 (by simp))
      refine ⟨_, rfl, h, _, 0, _, rfl, rfl, SqL.of hH1, rfl, _, _, rfl, rfl, .inl ⟨by omega, by omega⟩, _, rfl, _, _, rfl, rfl, .inr ⟨by omega, by omega⟩, _, _, rfl, rfl, _, _, rfl, rfl, _, _, rfl, rfl, (by show (0 : Int) < 2147483647; decide), ?_⟩
      refine ⟨_, rfl, h, _, 0, 0, rfl, rfl, hH1, rfl, ?_⟩
      have mz0 : 0 ≤ ((m * 48271 + 0 * 69621 + 11) % 2147483647) := by
        skip
        exact Int.emod_nonneg _ (by decide)
      have mz1 : ((m * 48271 + 0 * 69621 + 11) % 2147483647) < 2147483647 := by
        skip
        exact Int.emod_lt_of_pos _ (by decide)
      refine ⟨_, rfl, h, [.int ((m * 48271 + 0 * 69621 + 11) % 2147483647), .ref l, .int t], 2, _, rfl, rfl, SqL.of upd_same, rfl, _, _, rfl, rfl, _, rfl, h, [.int ((m * 48271 + 0 * 69621 + 11) % 2147483647), .ref l, .int t], 2, 2, rfl, rfl, upd_same, rfl, ?_⟩
      refine ⟨_, rfl, h, [.int ((m * 48271 + 0 * 69621 + 11) % 2147483647), .ref l, .int (t + 1)], 0, _, rfl, rfl, SqL.of upd_same, rfl, _, _, rfl, rfl, ⟨by show (0 : Int) < 7; decide, by show (7 : Int) < 1073741824; decide⟩, _, rfl, _, _, rfl, rfl, my0, ?_⟩
      refine q _ _ (kend ((m * 48271 + 0 * 69621 + 11) % 2147483647) (t + 1)) ⟨((m * 48271 + 0 * 69621 + 11) % 2147483647), t + 1, [], upd_same, ?_, hne, mz0, mz1, h64⟩ (Int.emod_nonneg _ (by omega)) (Int.emod_lt_of_pos _ my0)
      rw [upd_ne (Ne.symm hne), upd_ne (Ne.symm hne)]
      exact hL1
    · obtain ⟨n0, ns', hns'⟩ : ∃ n0 ns', ns = n0 :: ns' := by
        cases ns with
        | nil => exact absurd rfl hns
        | cons a b => exact ⟨a, b, rfl⟩
      have hlen : (1 : Int) ≤ ((ns.map V.int).length : Int) := by
        rw [List.length_map, hns', List.length_cons]
        omega
      have hlt : at_ < ((ns.map V.int).length : Int) := by
        split at e1 <;> omega
      have hltn : at_.toNat < ns.length := by
        rw [List.length_map] at hlt
        omega
      have hix : (ns.map V.int)[at_.toNat]? = some (.int ns[at_.toNat]) := by
        rw [List.getElem?_map, List.getElem?_eq_getElem hltn]
        rfl
      have eat : at_ = ((at_.toNat : Nat) : Int) := by omega
      have hai : atI (ns.map V.int) at_ = some (.int ns[at_.toNat]) := by
        have z := atI_nat hix
        rw [← eat] at z
        exact z
      have hin : ixN (ns.map V.int).length at_ = some at_.toNat := ixN_nat e0 hlt
      generalize ns[at_.toNat] = c at hai
      refine ⟨_, rfl, iteT' (by rw [hns']; simp [PyData.eqv, PyData.eqvAll]) ?_⟩
      refine ⟨_, rfl, h, _, 1, _, rfl, rfl, SqL.of hH1, rfl, _, rfl, l, _, at_, .int c, rfl, congrArg V.int hat, SqL.of hL1, hai, ?_⟩
      refine ⟨_, rfl, _, _, rfl, rfl, ⟨by decide, by decide, by decide⟩, _, _, rfl, rfl, _, rfl, ite2 (fun big => ?_) (fun small => ?_)⟩
      · refine ⟨_, rfl, _, rfl, _, _, rfl, rfl, ⟨my0, my1⟩, ?_⟩
        refine ⟨_, rfl, h, _, 1, _, rfl, rfl, SqL.of hH1, rfl, _, rfl, l, _, at_, _, rfl, congrArg V.int hat, hL1, hin, ?_⟩
        refine ⟨_, rfl, _, rfl, _, _, rfl, rfl, my0, ?_⟩
        refine q _ _ (kp.w0.trans (Kp.chg hL1 (by simp))) ⟨m, t, ns.set at_.toNat (c / many), ?_, ?_, hne, m0, m1, by rw [List.length_set]; exact h64⟩ (Int.emod_nonneg _ (by omega)) (Int.emod_lt_of_pos _ my0)
        · rw [upd_ne hne]
          exact hH1
        · rw [upd_same, List.map_set]
      · have dummy := small
        have kend : ∀ (M' t' : Int), Kp [h, l] H (upd (upd H1 h (.lst [.int M', .ref l, .int t])) h (.lst [.int M', .ref l, .int t'])) := fun M' t' => by
          rw [upd_upd]
          exact kp.w0.trans (Kp.chg hH1 (by simp))
        refine ⟨_, rfl, h, _, 0, _, rfl, rfl, SqL.of hH1, rfl, _, _, rfl, rfl, .inl ⟨by omega, by omega⟩, _, rfl, _, _, rfl, rfl, .inr ⟨by omega, by omega⟩, _, _, rfl, rfl, _, _, rfl, rfl, _, _, rfl, rfl, (by show (0 : Int) < 2147483647; decide), ?_⟩
        refine ⟨_, rfl, h, _, 0, 0, rfl, rfl, hH1, rfl, ?_⟩
        have mz0 : 0 ≤ ((m * 48271 + c * 69621 + 11) % 2147483647) := by
          skip
          exact Int.emod_nonneg _ (by decide)
        have mz1 : ((m * 48271 + c * 69621 + 11) % 2147483647) < 2147483647 := by
          skip
          exact Int.emod_lt_of_pos _ (by decide)
        refine ⟨_, rfl, h, [.int ((m * 48271 + c * 69621 + 11) % 2147483647), .ref l, .int t], 2, _, rfl, rfl, SqL.of upd_same, rfl, _, _, rfl, rfl, _, rfl, h, [.int ((m * 48271 + c * 69621 + 11) % 2147483647), .ref l, .int t], 2, 2, rfl, rfl, upd_same, rfl, ?_⟩
        refine ⟨_, rfl, h, [.int ((m * 48271 + c * 69621 + 11) % 2147483647), .ref l, .int (t + 1)], 0, _, rfl, rfl, SqL.of upd_same, rfl, _, _, rfl, rfl, ⟨by show (0 : Int) < 7; decide, by show (7 : Int) < 1073741824; decide⟩, _, rfl, _, _, rfl, rfl, my0, ?_⟩
        refine q _ _ (kend ((m * 48271 + c * 69621 + 11) % 2147483647) (t + 1)) ⟨((m * 48271 + c * 69621 + 11) % 2147483647), t + 1, ns, upd_same, ?_, hne, mz0, mz1, h64⟩ (Int.emod_nonneg _ (by omega)) (Int.emod_lt_of_pos _ my0)
        rw [upd_ne (Ne.symm hne), upd_ne (Ne.symm hne)]
        exact hL1
end LP
end

section
set_option Elab.async false
set_option linter.all false
set_option maxRecDepth 100000
set_option maxHeartbeats 4000000
/-! comprehensions whose values are data -/
namespace LP
open PySem PySem.Spec PyProof.Rows L2 Ly GY
variable [LamTab] {P : Program} {W0 : World} {K : PySem.W.Frag} {mg : Str → Option Value} {base : Heap}
theorem _root_.L2.DpAll.length {K : PySem.W.Frag} {H : Hp} : ∀ {xs : List V} {ds : List PyData}, DpAll K H xs ds → xs.length = ds.length
  | _, _, .nil => rfl
  | _, _, .cons _ b => by rw [List.length_cons, List.length_cons, b.length]
theorem _root_.L2.DpAll.get {K : PySem.W.Frag} {H : Hp} : ∀ {xs : List V} {ds : List PyData} {i : Nat} {x : V}, DpAll K H xs ds → xs[i]? = some x → ∃ d, ds[i]? = some d ∧ Dp K H x d
  | _, _, 0, _, .cons a _, h => ⟨_, rfl, by rw [← Option.some.inj h]; exact a⟩
  | _, _, i + 1, _, .cons _ b, h => b.get (i := i) h
theorem dps_keep {S : List Addr} {H H' : Hp} {vs : List V} {ds : List PyData} (k : Kp S H H') (n : noLs ds = true) (h : DpAll K H vs ds) : DpAll K H' vs ds := dps_mono k ds h (.inl n)
theorem dp_keep {S : List Addr} {H H' : Hp} {v : V} {d : PyData} (k : Kp S H H') (n : noL d = true) (h : Dp K H v d) : Dp K H' v d := dp_mono k d h (.inl n)
theorem dps_append {H : Hp} : ∀ {xs : List V} {ds : List PyData} {ys es}, DpAll K H xs ds → DpAll K H ys es → DpAll K H (xs ++ ys) (ds ++ es)
  | _, _, _, _, .nil, h => h
  | _, _, _, _, .cons a b, h => .cons a (dps_append b h)
theorem dps_one {H : Hp} {v : V} {d : PyData} (h : Dp K H v d) : DpAll K H [v] [d] := .cons h .nil
theorem dps_split {H : Hp} : ∀ {ds es : List PyData} {xs : List V}, DpAll K H xs (ds ++ es) → ∃ ys zs, xs = ys ++ zs ∧ DpAll K H ys ds ∧ DpAll K H zs es
  | [], _, xs, h => ⟨[], xs, rfl, .nil, h⟩
  | d :: ds, es, _, .cons a b => by
    obtain ⟨ys, zs, e, h1, h2⟩ := dps_split (ds := ds) b
    exact ⟨_ :: ys, zs, by rw [e]; rfl, .cons a h1, h2⟩
theorem dps_ints {H : Hp} : ∀ {vs : List V} {ns : List Int}, DpAll K H vs (ns.map PyData.int) → vs = ns.map V.int
  | [], [], _ => rfl
  | _ :: _, [], h => by cases h
  | [], _ :: _, h => by cases h
  | v :: vs, n :: ns, .cons a b => by
    have e := of_dpi a
    rw [dps_ints b, e]
    rfl
theorem noLs_map {α : Type} {f : α → PyData} (h : ∀ a, noL (f a) = true) : ∀ l : List α, noLs (l.map f) = true
  | [] => rfl
  | a :: l => by
    show (noL (f a) && noLs (l.map f)) = true
    rw [h a, noLs_map h l]
    rfl
theorem noLs_at {α : Type} {f : α → PyData} {l : List α} (h : ∀ a ∈ l, noL (f a) = true) : noLs (l.map f) = true := by
  induction l with
  | nil => rfl
  | cons a l ih =>
    show (noL (f a) && noLs (l.map f)) = true
    rw [h a List.mem_cons_self, ih fun b hb => h b (List.mem_cons_of_mem _ hb)]
    rfl
theorem take_filter {α : Type} {keep : α → Bool} {cs : List α} {i : Nat} {c : α} (h : cs[i]? = some c) : (cs.take (i + 1)).filter keep = (cs.take i).filter keep ++ (if keep c = true then [c] else []) := by
  rw [List.take_add_one, h, List.filter_append]
  congr 1
  show List.filter keep [c] = _
  rw [List.filter_cons]
  simp
theorem range_filter (keep : Nat → Bool) (i : Nat) : (List.range (i + 1)).filter keep = (List.range i).filter keep ++ (if keep i = true then [i] else []) := by
  rw [List.range_succ, List.filter_append]
  congr 1
  rw [List.filter_cons]
  simp
theorem small_size {n : Nat} (h : n ≤ 100000) : n < sizeLine := by
  have : (100000 : Nat) < sizeLine := by decide
  omega
theorem yesP {F G : Hp → Prop} {σ : L2.St} {H : Hp} (h : F H) : tYes σ H fun b H3 => if b = true then F H3 else G H3 := by
  show (if true = true then F H else G H)
  rw [if_pos rfl]
  exact h
/-- over a range: what is kept, as data -/
theorem lc_dataR {n : Nat} {D : Addr} {H1 : Hp} {lo : Int} {g : TG} {tt : TT} {te : TE} {vs : List Nat} {σ : L2.St} {Qd : Hp → Prop} (keep : Nat → Bool) (f : Nat → PyData) (nl : ∀ i, noL (f i) = true) (hD : H1 D = none) (hn : n ≤ 100000)
    (hs : ∀ (i : Nat) (H' : Hp) (Nx : V → Hp → Prop) (Z : Hp → Prop), i < n → Kp [] H1 H' → (∀ H'' y, Kp [] H' H'' → keep i = true → Dp K H'' y (f i) → Nx y H'') → (∀ H'', Kp [] H' H'' → keep i = false → Z H'') →
      g (.int (lo + i)) (wipe σ vs) H' fun σ2 H2 => wipe σ2 vs = wipe σ vs ∧ tt σ2 H2 fun b H3 => if b = true then te σ2 H3 Nx else Z H3)
    (hd : ∀ (H' : Hp) (ys : List V), Kp [] H1 H' → H' D = some (.lst ys) → DpAll K H' ys (((List.range n).filter keep).map f) → Qd H') :
    ∃ W : Nat → Nat → Hp → Prop, (∃ m, W 0 m (upd H1 D (.lst []))) ∧ ∀ i m H, W i m H →
      ((Itr lo n).stop i H ∧ Qd H) ∨ ((Itr lo n).go i H ∧ ∃ Nx : Hp → Prop, (∀ H', Nx H' → ∃ m', m' < m ∧ W (i + 1) m' H') ∧ ∀ x H', (Itr lo n).yld i H x H' → g x (wipe σ vs) H' fun σ2 H2 => wipe σ2 vs = wipe σ vs ∧ tt σ2 H2 fun b H3 =>
        if b = true then te σ2 H3 fun y H4 => ∃ acc, H4 D = some (.lst acc) ∧ acc.length < sizeLine ∧ Nx (upd H4 D (.lst (acc ++ [y]))) else Nx H3) := by
  refine lc_range (fun i H' => Kp [] H1 H' ∧ ∃ acc, H' D = some (.lst acc) ∧ DpAll K H' acc (((List.range i).filter keep).map f)) ⟨Kp.new hD, [], upd_same, .nil⟩ (fun i H' hi pv => ?_) (fun H' ⟨k, acc, h1, h2⟩ => hd H' acc k h1 h2)
  obtain ⟨k, acc, hA, hAi⟩ := pv
  refine hs i H' _ _ hi k (fun H'' y k'' hk hy => ?_) (fun H'' k'' hk => ?_)
  · have hA2 := k''.lst hA List.not_mem_nil
    have hAl := hAi.length
    rw [List.length_map] at hAl
    have hfl := List.length_filter_le keep (List.range i)
    rw [List.length_range] at hfl
    have kc : Kp [D] H'' (upd H'' D (.lst (acc ++ [y]))) := Kp.chg hA2 (List.mem_singleton.mpr rfl)
    refine ⟨acc, hA2, small_size (by omega), (k.trans k'').chg0 hD hA2, _, upd_same, ?_⟩
    rw [range_filter, if_pos hk, List.map_append]
    exact dps_append (dps_keep kc (noLs_map nl _) (dps_keep k'' (noLs_map nl _) hAi)) (dps_one (dp_keep kc (nl i) hy))
  · refine ⟨k.trans k'', acc, k''.lst hA List.not_mem_nil, ?_⟩
    rw [range_filter, hk, if_neg (by decide), List.append_nil]
    exact dps_keep k'' (noLs_map nl _) hAi
/-- over a list of data -/
theorem lc_dataL {α : Type} {a D : Addr} {xs : List V} {H1 : Hp} {g : TG} {tt : TT} {te : TE} {vs : List Nat} {σ : L2.St} {Qd : Hp → Prop} (src : List α) (dA : α → PyData) (keep : α → Bool) (f : α → PyData) (nA : ∀ c, noL (dA c) = true) (nl : ∀ c ∈ src, noL (f c) = true) (hD : H1 D = none) (hT : SqL K H1 a xs) (hI : DpAll K H1 xs (src.map dA)) (hz : src.length ≤ 100000)
    (hs : ∀ (c : α) (x : V) (H' : Hp) (Nx : V → Hp → Prop) (Z : Hp → Prop), c ∈ src → Kp [] H1 H' → Dp K H' x (dA c) → (∀ H'' y, Kp [] H' H'' → keep c = true → Dp K H'' y (f c) → Nx y H'') → (∀ H'', Kp [] H' H'' → keep c = false → Z H'') →
      g x (wipe σ vs) H' fun σ2 H2 => wipe σ2 vs = wipe σ vs ∧ tt σ2 H2 fun b H3 => if b = true then te σ2 H3 Nx else Z H3)
    (hd : ∀ (H' : Hp) (ys : List V), Kp [] H1 H' → H' D = some (.lst ys) → DpAll K H' ys ((src.filter keep).map f) → Qd H') :
    ∃ W : Nat → Nat → Hp → Prop, (∃ m, W 0 m (upd H1 D (.lst []))) ∧ ∀ i m H, W i m H →
      ((Itl K a).stop i H ∧ Qd H) ∨ ((Itl K a).go i H ∧ ∃ Nx : Hp → Prop, (∀ H', Nx H' → ∃ m', m' < m ∧ W (i + 1) m' H') ∧ ∀ x H', (Itl K a).yld i H x H' → g x (wipe σ vs) H' fun σ2 H2 => wipe σ2 vs = wipe σ vs ∧ tt σ2 H2 fun b H3 =>
        if b = true then te σ2 H3 fun y H4 => ∃ acc, H4 D = some (.lst acc) ∧ acc.length < sizeLine ∧ Nx (upd H4 D (.lst (acc ++ [y]))) else Nx H3) := by
  have hl := hI.length
  rw [List.length_map] at hl
  have nf : ∀ i, noLs ((((src.take i).filter keep)).map f) = true := fun i => noLs_at fun c hc => nl c (List.mem_of_mem_take (List.mem_filter.mp hc).1)
  refine lc_list (K := K) (a := a) (xs := xs) (fun i H' => Kp [] H1 H' ∧ ∃ acc, H' D = some (.lst acc) ∧ DpAll K H' acc (((src.take i).filter keep).map f)) ⟨Kp.new hD, [], upd_same, .nil⟩ (fun i H' _ k => k.1.sqL hT List.not_mem_nil) (fun i x H' hx pv => ?_) (fun H' pv => ?_)
  · obtain ⟨k, acc, hA, hAi⟩ := pv
    obtain ⟨d, hd0, hd'⟩ := (dps_keep k (noLs_map nA _) hI).get hx
    rw [List.getElem?_map] at hd0
    obtain ⟨c, hc, rfl⟩ := Option.map_eq_some_iff.mp hd0
    refine hs c x H' _ _ (List.mem_of_getElem? hc) k hd' (fun H'' y k'' hk hy => ?_) (fun H'' k'' hk => ?_)
    · have hA2 := k''.lst hA List.not_mem_nil
      have hi : i < src.length := (List.getElem?_eq_some_iff.mp hc).1
      have hAl := hAi.length
      rw [List.length_map] at hAl
      have hfl := List.length_filter_le keep (src.take i)
      rw [List.length_take] at hfl
      have kc : Kp [D] H'' (upd H'' D (.lst (acc ++ [y]))) := Kp.chg hA2 (List.mem_singleton.mpr rfl)
      refine ⟨acc, hA2, small_size (by omega), (k.trans k'').chg0 hD hA2, _, upd_same, ?_⟩
      rw [take_filter hc, if_pos hk, List.map_append]
      exact dps_append (dps_keep kc (nf _) (dps_keep k'' (nf _) hAi)) (dps_one (dp_keep kc (nl c (List.mem_of_getElem? hc)) hy))
    · refine ⟨k.trans k'', acc, k''.lst hA List.not_mem_nil, ?_⟩
      rw [take_filter hc, hk, if_neg (by decide), List.append_nil]
      exact dps_keep k'' (nf _) hAi
  · obtain ⟨k, acc, hA, hAi⟩ := pv
    rw [hl, List.take_length] at hAi
    exact hd H' acc k hA hAi
theorem flat_ints : ∀ ns : List Int, (ns.map V.int).all flatV = true
  | [] => rfl
  | _ :: ns => flat_ints ns
theorem inV_ints (x : Int) : ∀ ns : List Int, inV (.int x) (ns.map V.int) = decide (x ∈ ns)
  | [] => rfl
  | n :: ns => by
    have h := inV_ints x ns
    unfold inV at h ⊢
    rw [List.map_cons, List.any_cons, h]
    by_cases e : n = x
    · subst e
      rw [show eqV (.int n) (.int n) = true from by simp [eqV]]
      simp
    · rw [show eqV (.int n) (.int x) = false from by simp [eqV, e]]
      have e' : ¬ x = n := fun z => e z.symm
      simp [e']
end LP
end

section
set_option Elab.async false
set_option linter.all false
set_option maxRecDepth 100000
set_option maxHeartbeats 2000000
/-! _law_alike -/
namespace LP
open PySem PySem.Spec PyProof.Rows L2 Ly GY
variable [LamTab] {P : Program} {W0 : World} {K : PySem.W.Frag} {mg : Str → Option Value} {base : Heap}
mutual
def okD : PyData → Bool
  | .int _ => true
  | .str _ => true
  | .none => true
  | .bool _ => true
  | .list ds => okDs ds && decide (ds.length ≤ 1000)
  | .tuple ds => okDs ds && decide (ds.length ≤ 1000)
  | _ => false
def okDs : List PyData → Bool
  | [] => true
  | d :: ds => okD d && okDs ds
end
theorem okDs_at : ∀ {ds : List PyData} {i : Nat} {d : PyData}, okDs ds = true → ds[i]? = some d → okD d = true
  | [], _, _, _, h => by simp at h
  | d :: ds, 0, e, h, q => by
    unfold okDs at h
    simp at q
    subst q
    exact (Bool.and_eq_true_iff.mp h).1
  | d :: ds, i + 1, e, h, q => by
    unfold okDs at h
    exact okDs_at (Bool.and_eq_true_iff.mp h).2 (by simpa using q)
theorem depth_at : ∀ {ds : List PyData} {i : Nat} {d : PyData}, ds[i]? = some d → d.depth ≤ PyData.depthAll ds
  | [], _, _, h => by simp at h
  | d :: ds, 0, e, q => by
    simp at q
    subst q
    simp only [PyData.depthAll]
    omega
  | d :: ds, i + 1, e, q => by
    have := depth_at (ds := ds) (i := i) (d := e) (by simpa using q)
    simp only [PyData.depthAll]
    omega
theorem dpAll_length {H : Hp} : ∀ {vs : List V} {ds : List PyData}, DpAll K H vs ds → vs.length = ds.length
  | _, [], h => by cases h; rfl
  | _, _ :: _, h => by
    cases h with
    | cons _ t => exact congrArg (· + 1) (dpAll_length t)
theorem dpAll_at {H : Hp} : ∀ {vs : List V} {ds : List PyData} {i : Nat}, DpAll K H vs ds → i < ds.length → ∃ v d, vs[i]? = some v ∧ ds[i]? = some d ∧ Dp K H v d
  | _, [], _, _, hi => by simp at hi
  | _, d :: ds, 0, h, _ => by
    cases h with
    | cons a _ => exact ⟨_, d, rfl, rfl, a⟩
  | _, d :: ds, i + 1, h, hi => by
    cases h with
    | cons _ t =>
      obtain ⟨v, e, h1, h2, h3⟩ := dpAll_at (i := i) t (by simpa using hi)
      exact ⟨v, e, by simpa using h1, by simpa using h2, h3⟩
theorem kaT : PySem.W.kitAny K (.type "tuple") [.type "tuple", .type "list"] = some true := kitAny_cons (b := true) (kit_ty (by decide +kernel)) (fun z => by cases z) (fun _ => rfl)
theorem kaL : PySem.W.kitAny K (.type "list") [.type "tuple", .type "list"] = some true := kitAny_cons (b := false) (kit_ty (by decide +kernel)) (fun _ => kitAny_cons (b := true) (kit_ty (by decide +kernel)) (fun z => by cases z) (fun _ => rfl)) (fun z => by cases z)
theorem kaS : PySem.W.kitAny K (.type "str") [.type "tuple", .type "list"] = some false := kitAny_cons (b := false) (kit_ty (by decide +kernel)) (fun _ => kitAny_cons (b := false) (kit_ty (by decide +kernel)) (fun _ => rfl) (fun z => by cases z)) (fun z => by cases z)
theorem kaI : PySem.W.kitAny K (.type "int") [.type "tuple", .type "list"] = some false := kitAny_cons (b := false) (kit_ty (by decide +kernel)) (fun _ => kitAny_cons (b := false) (kit_ty (by decide +kernel)) (fun _ => rfl) (fun z => by cases z)) (fun z => by cases z)
theorem kaN : PySem.W.kitAny K (.type "NoneType") [.type "tuple", .type "list"] = some false := kitAny_cons (b := false) (kit_ty (by decide +kernel)) (fun _ => kitAny_cons (b := false) (kit_ty (by decide +kernel)) (fun _ => rfl) (fun z => by cases z)) (fun z => by cases z)
theorem kaB : PySem.W.kitAny K (.type "bool") [.type "tuple", .type "list"] = some false := kitAny_cons (b := false) (kit_ty (by decide +kernel)) (fun _ => kitAny_cons (b := false) (kit_ty (by decide +kernel)) (fun _ => rfl) (fun z => by cases z)) (fun z => by cases z)
theorem itN {i j : Int} {A B : Prop} (h : i = j) (b : B) : if (!decide (V.int i = V.int j)) = true then A else B := by
  subst h
  rw [decide_eq_true rfl]
  exact iteF b
def spAlike (K : PySem.W.Frag) (n : Nat) : Sp := fun vs H Q _ => ∃ (x y : V) (d : PyData), vs = [x, y] ∧ Dp K H x d ∧ Dp K H y d ∧ okD d = true ∧ d.depth < n ∧ ∀ H', Kp [] H H' → Q (.bl true) H'
theorem scAlike : FnScope ["_law_found", "_law_due_here", "_law_k"] ["_law_found", "_law_due_here"] (defScope lAlike) := ⟨rfl, rfl, rfl, by decide +kernel, rfl, by decide +kernel, by decide +kernel⟩
theorem alike_step {n : Nat} {f : Addr} {fd : FuncData} (F : Fun K "_law_alike" "_law_alike" lAlike f fd) (T : Nm K mg) (U : Nl K mg) (N : Fn K mg "_law_alike" f fd ["_law_found", "_law_due_here"]) (G : FnOk P W0 K mg base CX0 (1 + n) f fd ["_law_found", "_law_due_here"] (spAlike K n)) :
    FnOk P W0 K mg base CX0 (1 + n + 1) f fd ["_law_found", "_law_due_here"] (spAlike K (n + 1)) := by
  refine F.ok scAlike (fun vs H Q E h => ?_) (fun cdv A outer s H vs Q E hr h => ?_)
  · obtain ⟨x, y, d, rfl, _⟩ := h
    rfl
  · obtain ⟨x, y, d, rfl, hx, hy, hok, hdp, q⟩ := h
    refine ⟨_, pss_cons (ps_if (pt_val (pe_callB call_isiT (by rfl) T.isinstance (by decide +kernel) (pa_cons (pv 1) (pa_cons (pe_tup (pa_cons (pe_bltn (by rfl) T.tuple (by decide +kernel) (v := .ty "tuple") rfl) (pa_cons (pe_bltn (by rfl) T.list (by decide +kernel) (v := .ty "list") rfl) pa_nil))) pa_nil)))) (pss_cons (ps_if (PW.pt (pw_or (pt_not (pt_val (pe_callB call_isiT (by rfl) T.isinstance (by decide +kernel) (pa_cons (pv 0) (pa_cons (pe_tup (pa_cons (pe_bltn (by rfl) T.tuple (by decide +kernel) (v := .ty "tuple") rfl) (pa_cons (pe_bltn (by rfl) T.list (by decide +kernel) (v := .ty "list") rfl) pa_nil))) pa_nil))))) (pw_or1 (pt_cmpR op_ne (pe_callB call_isi (by rfl) T.isinstance (by decide +kernel) (pa_cons (pv 0) (pa_cons (pe_bltn (by rfl) T.list (by decide +kernel) (v := .ty "list") rfl) pa_nil))) (pe_callB call_isi (by rfl) T.isinstance (by decide +kernel) (pa_cons (pv 1) (pa_cons (pe_bltn (by rfl) T.list (by decide +kernel) (v := .ty "list") rfl) pa_nil))) (nomark _))))) (pss_one (ps_ret pe_bl)) pss_nil)
        (pss_cons (ps_if (pt_cmpR op_ne (pe_callB call_len_seq (by rfl) T.len PySem.boot_len (pa_cons (pv 0) pa_nil)) (pe_callB call_len_seq (by rfl) T.len PySem.boot_len (pa_cons (pv 1) pa_nil)) (nomark _)) (pss_one (ps_ret pe_bl)) pss_nil)
        (pss_one (ps_ret (pe_cmpR (op_eqD hr.units) (pe_lc (own := [("_law_k", 2)]) (g := gName 2) rfl scAlike.nd (pi_range1 (by rfl) T.range (pa_cons (pe_callB call_len_seq (by rfl) T.len PySem.boot_len (pa_cons (pv 1) pa_nil)) pa_nil)) (blkOk_by (own := [("_law_k", 2)]) (N := ["_law_found", "_law_due_here", "_law_k"]) (sc := defScope lAlike) (by decide +kernel))
            (fun _ _ _ _ _ => pg_name (i := 2) scAlike.nd rfl (.inl rfl)) (fun _ _ _ _ _ => pts_one (pt_not (pt_val (pe_call G hr (by rfl) N.m N.kp N.b .nil pass0 (pa_cons (pe_ix (r := rIx K) ix_seq (pv 0) (pv 2) (fun _ _ => rfl)) (pa_cons (pe_ix (r := rIx K) ix_seq (pv 1) (pv 2) (fun _ _ => rfl)) pa_nil)))))) (fun _ _ _ _ _ => pv 2)) (pe_lst pa_nil) (nomark _)))))) pss_nil)
      (pss_cons (ps_if (pt_cmpR op_isN (pv 1) pe_non (nomark _)) (pss_one (ps_ret (pe_cmpR op_isN (pv 0) pe_non (nomark _)))) pss_nil)
      (pss_cons (ps_if (pt_val (pe_callB call_isi (by rfl) T.isinstance (by decide +kernel) (pa_cons (pv 1) (pa_cons (pe_bltn (by rfl) U.str (by decide +kernel) (v := .ty "str") rfl) pa_nil)))) (pss_one (ps_ret (pe_and (pe_callB call_isi (by rfl) T.isinstance (by decide +kernel) (pa_cons (pv 0) (pa_cons (pe_bltn (by rfl) U.str (by decide +kernel) (v := .ty "str") rfl) pa_nil))) (pe_one (pe_cmpR op_eq (pv 0) (pv 1) (nomark _)))))) pss_nil)
      (pss_cons (ps_if (PW.pt (pw_or (pt_val (pe_callB call_isi (by rfl) T.isinstance (by decide +kernel) (pa_cons (pv 1) (pa_cons (pe_bltn (by rfl) T.bool (by decide +kernel) (v := .ty "bool") rfl) pa_nil)))) (pw_or1 (pt_val (pe_callB call_isi (by rfl) T.isinstance (by decide +kernel) (pa_cons (pv 0) (pa_cons (pe_bltn (by rfl) T.bool (by decide +kernel) (v := .ty "bool") rfl) pa_nil))))))) (pss_one (ps_ret (pe_and (pe_callB call_isi (by rfl) T.isinstance (by decide +kernel) (pa_cons (pv 1) (pa_cons (pe_bltn (by rfl) T.bool (by decide +kernel) (v := .ty "bool") rfl) pa_nil))) (pe_and (pe_callB call_isi (by rfl) T.isinstance (by decide +kernel) (pa_cons (pv 0) (pa_cons (pe_bltn (by rfl) T.bool (by decide +kernel) (v := .ty "bool") rfl) pa_nil))) (pe_one (pe_cmpR op_eq (pv 0) (pv 1) (nomark _))))))) pss_nil)
      (pss_one (ps_ret (pe_and (pe_callB call_isi (by rfl) T.isinstance (by decide +kernel) (pa_cons (pv 0) (pa_cons (pe_bltn (by rfl) T.int (by decide +kernel) (v := .ty "int") rfl) pa_nil))) (pe_one (pe_cmpR op_eq (pv 0) (pv 1) (nomark _))))))))), ?_⟩
    cases d with
    | list ds =>
      obtain ⟨a, xs, rfl, ha, hxa⟩ : ∃ a xs, x = .ref a ∧ SqL K H a xs ∧ DpAll K H xs ds := by
        cases hx with
        | lst h1 h2 => exact ⟨_, _, rfl, h1, h2⟩
      obtain ⟨b, ys, rfl, hb, hyb⟩ : ∃ b ys, y = .ref b ∧ SqL K H b ys ∧ DpAll K H ys ds := by
        cases hy with
        | lst h1 h2 => exact ⟨_, _, rfl, h1, h2⟩
      have hlx := dpAll_length hxa
      have hly := dpAll_length hyb
      have hokp : okDs ds = true ∧ ds.length ≤ 1000 := by
        unfold okD at hok
        simpa using hok
      refine ⟨_, rfl, (by show 2 ≤ sizeLine; decide), fun T1 hT1 => ⟨_, T1, _, _, _, _, rfl, upd_same, .cons (.ty _) (.cons (.ty _) .nil), ty_lst ((Kp.new hT1 (S := [])).sqL hb List.not_mem_nil), kaL, true, rfl, iteT ?_⟩⟩
      have k1 : Kp [] H (upd H T1 (.tup [.ty "tuple", .ty "list"])) := Kp.new hT1
      generalize upd H T1 (.tup [.ty "tuple", .ty "list"]) = H1 at k1 ⊢
      refine ⟨_, rfl, (by show 2 ≤ sizeLine; decide), fun T2 hT2 => ⟨_, T2, _, _, _, _, rfl, upd_same, .cons (.ty _) (.cons (.ty _) .nil), ty_lst ((k1.trans (Kp.new hT2)).sqL ha List.not_mem_nil), kaL, true, rfl, iteF ?_⟩⟩
      have k2 : Kp [] H (upd H1 T2 (.tup [.ty "tuple", .ty "list"])) := k1.trans (Kp.new hT2)
      generalize upd H1 T2 (.tup [.ty "tuple", .ty "list"]) = H2 at k2 ⊢
      refine ⟨_, rfl, _, _, _, _, _, rfl, .ty _, (ty_lst (k2.sqL ha List.not_mem_nil)), kit_ty (r := true) (by decide +kernel), _, rfl, _, _, _, _, _, rfl, .ty _, (ty_lst (k2.sqL hb List.not_mem_nil)), kit_ty (r := true) (by decide +kernel), rfl, _, rfl, iteF ?_⟩
      refine ⟨_, rfl, a, _, rfl, .inl (k2.sqL ha List.not_mem_nil), _, rfl, b, _, rfl, .inl (k2.sqL hb List.not_mem_nil), rfl, _, rfl, itN (by rw [hlx, hly]) ?_⟩
      refine ⟨_, rfl, b, _, rfl, .inl (k2.sqL hb List.not_mem_nil), _, rfl, by omega, by omega, fun D hD => lc_range (lo := 0) (n := ys.length) (fun i H' => Kp [] H2 H' ∧ H' D = some (.lst [])) ⟨Kp.new hD, upd_same⟩ (fun i H' hi pv => ?_) (fun H' pv => ?_)⟩
      · obtain ⟨k, hDl⟩ := pv
        obtain ⟨vx, dx, ex1, ex2, ex3⟩ := dpAll_at (i := i) hxa (by omega)
        obtain ⟨vy, dy, ey1, ey2, ey3⟩ := dpAll_at (i := i) hyb (by omega)
        rw [ex2] at ey2
        cases ey2
        have e0 : (0 : Int) + (i : Int) = ((i : Nat) : Int) := by omega
        have hdd := depth_at ex2
        refine ⟨rfl, _, rfl, _, rfl, .inl ⟨a, xs, _, vx, rfl, rfl, (k2.trans k).sqL ha List.not_mem_nil, (by rw [e0]; exact atI_nat ex1), ?_⟩⟩
        refine ⟨_, rfl, _, rfl, .inl ⟨b, ys, _, vy, rfl, rfl, (k2.trans k).sqL hb List.not_mem_nil, (by rw [e0]; exact atI_nat ey1), ?_⟩⟩
        refine ⟨vx, vy, dx, rfl, dp_mono (k2.trans k) _ ex3 (.inr rfl), dp_mono (k2.trans k) _ ey3 (.inr rfl), okDs_at hokp.1 ex2, ?_, fun H4 k4 => ⟨true, rfl, iteF ⟨k.trans k4, k4.lst hDl List.not_mem_nil⟩⟩⟩
        simp only [PyData.depth] at hdp
        omega
      · obtain ⟨k, hDl⟩ := pv
        refine ⟨Nat.zero_le _, fun p hp => ?_⟩
        have kp : Kp [] H' (upd H' p (.lst [])) := Kp.new hp
        refine ⟨.list [], .list [], .lst (SqL.of (kp.lst hDl List.not_mem_nil)) .nil, .lst (SqL.of upd_same) .nil, ints_shaped [], ints_shaped [], ?_⟩
        have z := q _ ((k2.trans k).trans kp)
        rw [show PyData.eqv (.list []) (.list []) = true from by simp [PyData.eqv, PyData.eqvAll]]
        exact z
    | tuple ds =>
      obtain ⟨a, xs, rfl, ha, hxa⟩ : ∃ a xs, x = .ref a ∧ SqT K H a xs ∧ DpAll K H xs ds := by
        cases hx with
        | tup h1 h2 => exact ⟨_, _, rfl, h1, h2⟩
      obtain ⟨b, ys, rfl, hb, hyb⟩ : ∃ b ys, y = .ref b ∧ SqT K H b ys ∧ DpAll K H ys ds := by
        cases hy with
        | tup h1 h2 => exact ⟨_, _, rfl, h1, h2⟩
      have hlx := dpAll_length hxa
      have hly := dpAll_length hyb
      have hokp : okDs ds = true ∧ ds.length ≤ 1000 := by
        unfold okD at hok
        simpa using hok
      refine ⟨_, rfl, (by show 2 ≤ sizeLine; decide), fun T1 hT1 => ⟨_, T1, _, _, _, _, rfl, upd_same, .cons (.ty _) (.cons (.ty _) .nil), ty_tup ((Kp.new hT1 (S := [])).sqT hb), kaT, true, rfl, iteT ?_⟩⟩
      have k1 : Kp [] H (upd H T1 (.tup [.ty "tuple", .ty "list"])) := Kp.new hT1
      generalize upd H T1 (.tup [.ty "tuple", .ty "list"]) = H1 at k1 ⊢
      refine ⟨_, rfl, (by show 2 ≤ sizeLine; decide), fun T2 hT2 => ⟨_, T2, _, _, _, _, rfl, upd_same, .cons (.ty _) (.cons (.ty _) .nil), ty_tup ((k1.trans (Kp.new hT2)).sqT ha), kaT, true, rfl, iteF ?_⟩⟩
      have k2 : Kp [] H (upd H1 T2 (.tup [.ty "tuple", .ty "list"])) := k1.trans (Kp.new hT2)
      generalize upd H1 T2 (.tup [.ty "tuple", .ty "list"]) = H2 at k2 ⊢
      refine ⟨_, rfl, _, _, _, _, _, rfl, .ty _, (ty_tup (k2.sqT ha)), kit_ty (r := false) (by decide +kernel), _, rfl, _, _, _, _, _, rfl, .ty _, (ty_tup (k2.sqT hb)), kit_ty (r := false) (by decide +kernel), rfl, _, rfl, iteF ?_⟩
      refine ⟨_, rfl, a, _, rfl, .inr (k2.sqT ha), _, rfl, b, _, rfl, .inr (k2.sqT hb), rfl, _, rfl, itN (by rw [hlx, hly]) ?_⟩
      refine ⟨_, rfl, b, _, rfl, .inr (k2.sqT hb), _, rfl, by omega, by omega, fun D hD => lc_range (lo := 0) (n := ys.length) (fun i H' => Kp [] H2 H' ∧ H' D = some (.lst [])) ⟨Kp.new hD, upd_same⟩ (fun i H' hi pv => ?_) (fun H' pv => ?_)⟩
      · obtain ⟨k, hDl⟩ := pv
        obtain ⟨vx, dx, ex1, ex2, ex3⟩ := dpAll_at (i := i) hxa (by omega)
        obtain ⟨vy, dy, ey1, ey2, ey3⟩ := dpAll_at (i := i) hyb (by omega)
        rw [ex2] at ey2
        cases ey2
        have e0 : (0 : Int) + (i : Int) = ((i : Nat) : Int) := by omega
        have hdd := depth_at ex2
        refine ⟨rfl, _, rfl, _, rfl, .inr (.inl ⟨a, xs, _, vx, rfl, rfl, (k2.trans k).sqT ha, (by rw [e0]; exact atI_nat ex1), ?_⟩)⟩
        refine ⟨_, rfl, _, rfl, .inr (.inl ⟨b, ys, _, vy, rfl, rfl, (k2.trans k).sqT hb, (by rw [e0]; exact atI_nat ey1), ?_⟩)⟩
        refine ⟨vx, vy, dx, rfl, dp_mono (k2.trans k) _ ex3 (.inr rfl), dp_mono (k2.trans k) _ ey3 (.inr rfl), okDs_at hokp.1 ex2, ?_, fun H4 k4 => ⟨true, rfl, iteF ⟨k.trans k4, k4.lst hDl List.not_mem_nil⟩⟩⟩
        simp only [PyData.depth] at hdp
        omega
      · obtain ⟨k, hDl⟩ := pv
        refine ⟨Nat.zero_le _, fun p hp => ?_⟩
        have kp : Kp [] H' (upd H' p (.lst [])) := Kp.new hp
        refine ⟨.list [], .list [], .lst (SqL.of (kp.lst hDl List.not_mem_nil)) .nil, .lst (SqL.of upd_same) .nil, ints_shaped [], ints_shaped [], ?_⟩
        have z := q _ ((k2.trans k).trans kp)
        rw [show PyData.eqv (.list []) (.list []) = true from by simp [PyData.eqv, PyData.eqvAll]]
        exact z
    | str u =>
      obtain rfl : x = .str u := by cases hx; rfl
      obtain rfl : y = .str u := by cases hy; rfl
      refine ⟨_, rfl, (by show 2 ≤ sizeLine; decide), fun T1 hT1 => ⟨_, T1, _, _, _, _, rfl, upd_same, .cons (.ty _) (.cons (.ty _) .nil), .base (.str _), kaS, false, rfl, iteF ?_⟩⟩
      have k1 : Kp [] H (upd H T1 (.tup [.ty "tuple", .ty "list"])) := Kp.new hT1
      generalize upd H T1 (.tup [.ty "tuple", .ty "list"]) = H1 at k1 ⊢
      refine ⟨_, rfl, rfl, _, rfl, itD0 (by simp) ?_⟩
      refine ⟨_, rfl, _, _, _, _, _, rfl, .ty _, .base (.str _), kit_ty (r := true) (by decide +kernel), true, rfl, iteT ?_⟩
      refine ⟨_, rfl, _, _, _, _, _, rfl, .ty _, .base (.str _), kit_ty (r := true) (by decide +kernel), true, rfl, iteT ?_⟩
      refine ⟨_, rfl, _, rfl, (by simp [scal]), ?_⟩
      rw [decide_eq_true rfl]
      exact q H1 k1
    | int u =>
      obtain rfl : x = .int u := by cases hx; rfl
      obtain rfl : y = .int u := by cases hy; rfl
      refine ⟨_, rfl, (by show 2 ≤ sizeLine; decide), fun T1 hT1 => ⟨_, T1, _, _, _, _, rfl, upd_same, .cons (.ty _) (.cons (.ty _) .nil), .base (.int _), kaI, false, rfl, iteF ?_⟩⟩
      have k1 : Kp [] H (upd H T1 (.tup [.ty "tuple", .ty "list"])) := Kp.new hT1
      generalize upd H T1 (.tup [.ty "tuple", .ty "list"]) = H1 at k1 ⊢
      refine ⟨_, rfl, rfl, _, rfl, itD0 (by simp) ?_⟩
      refine ⟨_, rfl, _, _, _, _, _, rfl, .ty _, .base (.int _), kit_ty (r := false) (by decide +kernel), false, rfl, iteF ?_⟩
      refine ⟨_, rfl, _, _, _, _, _, rfl, .ty _, .base (.int _), kit_ty (r := false) (by decide +kernel), false, rfl, iteF ?_⟩
      refine ⟨_, rfl, _, _, _, _, _, rfl, .ty _, .base (.int _), kit_ty (r := false) (by decide +kernel), false, rfl, iteF ?_⟩
      refine ⟨_, rfl, _, _, _, _, _, rfl, .ty _, .base (.int _), kit_ty (r := true) (by decide +kernel), true, rfl, iteT ?_⟩
      refine ⟨_, rfl, _, rfl, (by simp [scal]), ?_⟩
      rw [decide_eq_true rfl]
      exact q H1 k1
    | none =>
      obtain rfl : x = .non := by cases hx; rfl
      obtain rfl : y = .non := by cases hy; rfl
      refine ⟨_, rfl, (by show 2 ≤ sizeLine; decide), fun T1 hT1 => ⟨_, T1, _, _, _, _, rfl, upd_same, .cons (.ty _) (.cons (.ty _) .nil), .base .non, kaN, false, rfl, iteF ?_⟩⟩
      have k1 : Kp [] H (upd H T1 (.tup [.ty "tuple", .ty "list"])) := Kp.new hT1
      generalize upd H T1 (.tup [.ty "tuple", .ty "list"]) = H1 at k1 ⊢
      refine ⟨_, rfl, rfl, _, rfl, itD1 rfl ?_⟩
      refine ⟨_, rfl, rfl, ?_⟩
      rw [decide_eq_true rfl]
      exact q H1 k1
    | bool u =>
      obtain rfl : x = .bl u := by cases hx; rfl
      obtain rfl : y = .bl u := by cases hy; rfl
      refine ⟨_, rfl, (by show 2 ≤ sizeLine; decide), fun T1 hT1 => ⟨_, T1, _, _, _, _, rfl, upd_same, .cons (.ty _) (.cons (.ty _) .nil), .base (.bl _), kaB, false, rfl, iteF ?_⟩⟩
      have k1 : Kp [] H (upd H T1 (.tup [.ty "tuple", .ty "list"])) := Kp.new hT1
      generalize upd H T1 (.tup [.ty "tuple", .ty "list"]) = H1 at k1 ⊢
      refine ⟨_, rfl, rfl, _, rfl, itD0 (by simp) ?_⟩
      refine ⟨_, rfl, _, _, _, _, _, rfl, .ty _, .base (.bl _), kit_ty (r := false) (by decide +kernel), false, rfl, iteF ?_⟩
      refine ⟨_, rfl, _, _, _, _, _, rfl, .ty _, .base (.bl _), kit_ty (r := true) (by decide +kernel), true, rfl, iteT ?_⟩
      refine ⟨_, rfl, _, _, _, _, _, rfl, .ty _, .base (.bl _), kit_ty (r := true) (by decide +kernel), true, rfl, iteT ?_⟩
      refine ⟨_, rfl, _, _, _, _, _, rfl, .ty _, .base (.bl _), kit_ty (r := true) (by decide +kernel), true, rfl, iteT ?_⟩
      refine ⟨_, rfl, _, rfl, (by simp [scal]), ?_⟩
      rw [decide_eq_true rfl]
      exact q H1 k1
    | dict _ => cases hok
theorem alike_none {f : Addr} {fd : FuncData} : FnOk P W0 K mg base CX0 1 f fd ["_law_found", "_law_due_here"] (spAlike K 0) := by
  have no : ∀ vs H Q E, ¬ spAlike K 0 vs H Q E := fun vs H Q E h => by
    obtain ⟨_, _, _, _, _, _, _, hn, _⟩ := h
    omega
  exact ⟨fun vs H Q E h => absurd h (no vs H Q E), fun A outer s H args us vs Q E _ _ _ _ h => absurd h (no vs H Q E)⟩
theorem ok_alike {f : Addr} {fd : FuncData} (F : Fun K "_law_alike" "_law_alike" lAlike f fd) (T : Nm K mg) (U : Nl K mg) (N : Fn K mg "_law_alike" f fd ["_law_found", "_law_due_here"]) :
    ∀ n : Nat, FnOk P W0 K mg base CX0 (1 + n) f fd ["_law_found", "_law_due_here"] (spAlike K n)
  | 0 => alike_none
  | n + 1 => alike_step F T U N (ok_alike F T U N n)
end LP
end

section
set_option Elab.async false
set_option linter.all false
set_option maxRecDepth 100000
set_option maxHeartbeats 2000000
/-! _law_inside -/
namespace LP
open PySem PySem.Spec PyProof.Rows L2 Ly GY
variable [LamTab] {P : Program} {W0 : World} {K : PySem.W.Frag} {mg : Str → Option Value} {base : Heap}
def blkAt (k : C3) (x y z a b c : Int) (i : Nat) : Bool :=
  if i = 0 then decide (0 ≤ k.1 - x) && decide (k.1 - x < a) else if i = 1 then decide (0 ≤ k.2.1 - y) && decide (k.2.1 - y < b) else decide (0 ≤ k.2.2 - z) && decide (k.2.2 - z < c)
theorem inside_blk (k : C3) (x y z a b c : Int) : inside (.block x y z a b c) k = (List.range 3).all (blkAt k x y z a b c) := by
  show inside (.block x y z a b c) k = [0, 1, 2].all (blkAt k x y z a b c)
  unfold inside blkAt
  rw [Bool.eq_iff_iff]
  simp
theorem all_succ (p : Nat → Bool) (i : Nat) : (List.range (i + 1)).all p = ((List.range i).all p && p i) := by
  rw [List.range_succ, List.all_append]
  simp
theorem kxy : ¬ (Sum.inr ("x" : Str) : Key) = Sum.inr ("y" : Str) := by decide +kernel
theorem kxz : ¬ (Sum.inr ("x" : Str) : Key) = Sum.inr ("z" : Str) := by decide +kernel
theorem kyz : ¬ (Sum.inr ("y" : Str) : Key) = Sum.inr ("z" : Str) := by decide +kernel
theorem kyx : ¬ (Sum.inr ("y" : Str) : Key) = Sum.inr ("x" : Str) := by decide +kernel
theorem kzx : ¬ (Sum.inr ("z" : Str) : Key) = Sum.inr ("x" : Str) := by decide +kernel
theorem kzy : ¬ (Sum.inr ("z" : Str) : Key) = Sum.inr ("y" : Str) := by decide +kernel
theorem backM (a b c : V) : mergeK [] [(Sum.inr "x", a), (Sum.inr "y", b), (Sum.inr "z", c)] = ([(Sum.inr ("x" : Str), a), (Sum.inr ("y" : Str), b), (Sum.inr ("z" : Str), c)] : List (Key × V)) := by
  simp only [mergeK, putK, List.foldl, List.any_nil, List.any_cons, List.nil_append, List.cons_append, List.map_cons, List.map_nil, decide_eq_false kxy, decide_eq_false kxz, decide_eq_false kyz, Bool.false_or, Bool.or_false, Bool.false_eq_true, if_false]
theorem backX (a b c : Addr) : valV (mergeK [] [(Sum.inr "x", V.ref a), (Sum.inr "y", V.ref b), (Sum.inr "z", V.ref c)]) (Sum.inr "x" : Key) = some (V.ref a) := by
  rw [backM, valV_pos rfl]
theorem backY (a b c : Addr) : valV (mergeK [] [(Sum.inr "x", V.ref a), (Sum.inr "y", V.ref b), (Sum.inr "z", V.ref c)]) (Sum.inr "y" : Key) = some (V.ref b) := by
  rw [backM, valV_neg kxy, valV_pos rfl]
theorem backZ (a b c : Addr) : valV (mergeK [] [(Sum.inr "x", V.ref a), (Sum.inr "y", V.ref b), (Sum.inr "z", V.ref c)]) (Sum.inr "z" : Key) = some (V.ref c) := by
  rw [backM, valV_neg kxz, valV_neg kyz, valV_pos rfl]
def spInside (K : PySem.W.Frag) (n : Nat) : Sp := fun vs H Q _ => ∃ (v : V) (p : Addr) (b : Bd) (c : C3), vs = [v, .ref p] ∧ Body K H v b ∧ dp b ≤ n ∧ SqT K H p [.int c.1, .int c.2.1, .int c.2.2] ∧ ∀ H', Kp [] H H' → Q (.bl (inside b c)) H'
theorem scInside : FnScope ["_law_body_here", "_law_cell", "_law_word", "_law_x", "_law_y", "_law_z", "_law_low", "_law_size", "_law_far", "_law_back", "_law_one", "_law_other", "_law_k"] ["_law_body_here", "_law_cell"] (defScope lInside) := ⟨rfl, rfl, rfl, by decide +kernel, rfl, by decide +kernel, by decide +kernel⟩
theorem inside_step {n : Nat} {f : Addr} {fd : FuncData} (F : Fun K "_law_inside" "_law_inside" lInside f fd) (T : Nm K mg) (N : Fn K mg "_law_inside" f fd ["_law_body_here", "_law_cell"]) (G : FnOk P W0 K mg base CX0 n f fd ["_law_body_here", "_law_cell"] (spInside K n)) :
    FnOk P W0 K mg base CX0 (n + 1) f fd ["_law_body_here", "_law_cell"] (spInside K (n + 1)) := by
  refine F.ok scInside (fun vs H Q E h => ?_) (fun cdv A outer s H vs Q E hr h => ?_)
  · obtain ⟨v, p, b, c, rfl, _⟩ := h
    rfl
  · obtain ⟨v, pc, b, c, rfl, hB, hn, hc, q⟩ := h
    have hu := hu_of hr
    refine ⟨_, pss_cons (ps_set (i := 2) scInside.nd rfl (.inl rfl) (pe_ix ix_tup (pv 0) pe_int (fun _ _ => rfl)))
      (pss_cons (ps_asg (pv 1) (pg_tup rfl (pgs_cons (pg_name (i := 3) scInside.nd rfl (.inl rfl)) (pgs_cons (pg_name (i := 4) scInside.nd rfl (.inl rfl)) (pgs_cons (pg_name (i := 5) scInside.nd rfl (.inl rfl)) pgs_nil)))))
      (pss_cons (ps_if (pt_cmpR op_eq (pv 2) pe_str (nomark _)) (pss_cons (ps_asg (pe_slice sl_tup (pv 0) (po_some pe_int) po_none) (pg_tup rfl (pgs_cons (pg_name (i := 6) scInside.nd rfl (.inr rfl)) (pgs_cons (pg_name (i := 7) scInside.nd rfl (.inr rfl)) pgs_nil))))
        (pss_one (ps_ret (pe_cmpR (op_eqD hr.units) (pe_lc (own := [("_law_k", 12)]) (g := gName 12) rfl scInside.nd (pi_range1 (by rfl) T.range (pa_cons pe_int pa_nil)) (blkOk_by (own := [("_law_k", 12)]) (N := ["_law_body_here", "_law_cell", "_law_word", "_law_x", "_law_y", "_law_z", "_law_low", "_law_size", "_law_far", "_law_back", "_law_one", "_law_other", "_law_k"]) (sc := defScope lInside) (by decide +kernel))
            (fun _ _ _ _ _ => pg_name (i := 12) scInside.nd rfl (.inl rfl)) (fun _ _ _ _ _ => pts_one (pt_not (pt_chain op_le op_lt pe_int (pe_op op_sub (pe_ix (r := rIxT K) ix_tup (pv 1) (pv 12) (fun _ _ => rfl)) (pe_ix (r := rIxT K) ix_tup (pv 6) (pv 12) (fun _ _ => rfl))) (pe_ix (r := rIxT K) ix_tup (pv 7) (pv 12) (fun _ _ => rfl))))) (fun _ _ _ _ _ => pv 12)) (pe_lst pa_nil) (nomark _))))) pss_nil)
      (pss_cons (ps_if (pt_cmpR op_eq (pv 2) pe_str (nomark _)) (pss_one (ps_ret (pe_cmpR (op_inDT (u65 hr)) (pv 1) (pe_ix ix_tup (pv 0) pe_int (fun _ _ => rfl)) (by rfl)))) pss_nil)
      (pss_cons (ps_if (pt_cmpR op_eq (pv 2) pe_str (nomark _)) (pss_cons (ps_set (i := 8) scInside.nd rfl (.inl rfl) (pe_ix ix_tup (pv 0) pe_int (fun _ _ => rfl)))
        (pss_one (ps_ret (pe_call G hr (by rfl) N.m N.kp N.b .nil pass0 (pa_cons (pe_ix ix_tup (pv 0) pe_int (fun _ _ => rfl)) (pa_cons (pe_tup (pa_cons (pe_op op_sub (pv 3) (pe_ix ix_tup (pv 8) pe_int (fun _ _ => rfl))) (pa_cons (pe_op op_sub (pv 4) (pe_ix ix_tup (pv 8) pe_int (fun _ _ => rfl))) (pa_cons (pe_op op_sub (pv 5) (pe_ix ix_tup (pv 8) pe_int (fun _ _ => rfl))) pa_nil)))) pa_nil)))))) pss_nil)
      (pss_cons (ps_if (pt_cmpR op_eq (pv 2) pe_str (nomark _)) (pss_cons (ps_set (i := 9) scInside.nd rfl (.inl rfl) (pe_disp (pps_cons pe_str (pe_tup (pa_cons (pv 3) (pa_cons (pv 5) (pa_cons (pe_op op_sub pe_int (pv 4)) pa_nil)))) (pps_cons pe_str (pe_tup (pa_cons (pe_op op_sub pe_int (pv 5)) (pa_cons (pv 4) (pa_cons (pv 3) pa_nil)))) (pps_cons pe_str (pe_tup (pa_cons (pv 4) (pa_cons (pe_op op_sub pe_int (pv 3)) (pa_cons (pv 5) pa_nil)))) pps_nil))) (by rfl) (by rfl) (fun z => by cases z) (by decide)))
        (pss_one (ps_ret (pe_call G hr (by rfl) N.m N.kp N.b .nil pass0 (pa_cons (pe_ix ix_tup (pv 0) pe_int (fun _ _ => rfl)) (pa_cons (pe_dget hu (pv 9) (pe_ix ix_tup (pv 0) pe_int (fun _ _ => rfl)) (fun _ _ => rfl)) pa_nil)))))) pss_nil)
      (pss_cons (ps_set (i := 10) scInside.nd rfl (.inl rfl) (pe_call G hr (by rfl) N.m N.kp N.b .nil pass0 (pa_cons (pe_ix ix_tup (pv 0) pe_int (fun _ _ => rfl)) (pa_cons (pv 1) pa_nil))))
      (pss_cons (ps_set (i := 11) scInside.nd rfl (.inl rfl) (pe_call G hr (by rfl) N.m N.kp N.b .nil pass0 (pa_cons (pe_ix ix_tup (pv 0) pe_int (fun _ _ => rfl)) (pa_cons (pv 1) pa_nil))))
      (pss_cons (ps_if (pt_cmpR op_eq (pv 2) pe_str (nomark _)) (pss_one (ps_ret (pe_or (pv 10) (pe_one (pv 11))))) pss_nil)
      (pss_one (ps_ret (pe_and (pv 10) (pe_one (pe_cmpR op_eq (pv 11) (pe_cmpR op_eq (pv 2) pe_str (nomark _)) (nomark _)))))))))))))), ?_⟩
    cases b with
    | block x y z a b' c' =>
      obtain ⟨p, y1, z1, rfl, hT, h1, h2⟩ := of_body3 hB
      refine ⟨_, rfl, p, _, _, _, rfl, rfl, hT, rfl, ?_⟩
      refine ⟨_, rfl, pc, _, rfl, hc, rfl, _, _, rfl, _, _, rfl, _, _, rfl, rfl, ?_⟩
      refine ⟨_, rfl, rfl, _, rfl, itD1 (by decide +kernel) ?_⟩
      obtain ⟨pl, rfl, hl⟩ := of_dp_c h1
      obtain ⟨ps, rfl, hs⟩ := of_dp_c h2
      refine ⟨_, rfl, 1, rfl, p, _, rfl, hT, (fun z => absurd (show (1 : Nat) = 0 from z.1) (by decide)), fun r hr' => ?_⟩
      have k1 : Kp [] H (upd H r (.tup (cutV [.str "block", .ref pl, .ref ps] (some 1) none))) := Kp.new hr'
      have hps : SqT K (upd H r (.tup (cutV [.str "block", .ref pl, .ref ps] (some 1) none))) r [.ref pl, .ref ps] := SqT.of upd_same
      generalize upd H r (.tup (cutV [.str "block", .ref pl, .ref ps] (some 1) none)) = H1 at k1 hps ⊢
      refine ⟨r, [.ref pl, .ref ps], rfl, hps, rfl, _, _, rfl, _, _, rfl, rfl, ?_⟩
      refine ⟨3, rfl, by decide, by decide, fun D hD => lc_range (lo := 0) (n := 3) (fun i H' => Kp [] H1 H' ∧ ∃ ks : List Int, H' D = some (.lst (ks.map V.int)) ∧ ks.length ≤ i ∧ (decide (ks = []) = (List.range i).all (blkAt c x y z a b' c'))) ⟨Kp.new hD, [], upd_same, Nat.le_refl _, rfl⟩ (fun i H' hi pv => ?_) (fun H' pv => ?_)⟩
      · obtain ⟨k, ks, hDl, hkl, hks⟩ := pv
        have kk := k1.trans k
        have fin : ∀ (lo sz u : Int), blkAt c x y z a b' c' i = (decide (0 ≤ u - lo) && decide (u - lo < sz)) → (blkAt c x y z a b' c' i = true → Kp [] H1 H' ∧ ∃ ks : List Int, H' D = some (.lst (ks.map V.int)) ∧ ks.length ≤ i + 1 ∧ (decide (ks = []) = (List.range (i + 1)).all (blkAt c x y z a b' c'))) ∧
            (blkAt c x y z a b' c' i = false → ∃ acc, H' D = some (.lst acc) ∧ acc.length < sizeLine ∧ Kp [] H1 (upd H' D (.lst (acc ++ [.int (0 + (i : Int))]))) ∧ ∃ ks : List Int, (upd H' D (.lst (acc ++ [.int (0 + (i : Int))]))) D = some (.lst (ks.map V.int)) ∧ ks.length ≤ i + 1 ∧ (decide (ks = []) = (List.range (i + 1)).all (blkAt c x y z a b' c'))) := by
          intro lo sz u e
          refine ⟨fun g => ⟨k, ks, hDl, by omega, ?_⟩, fun g => ⟨_, hDl, ?_, k.chg0 hD hDl, ks ++ [(0 + (i : Int))], ?_, ?_, ?_⟩⟩
          · rw [all_succ, hks, g, Bool.and_true]
          · rw [List.length_map]
            have : (64 : Nat) < sizeLine := by decide
            omega
          · rw [upd_same, List.map_append]
            rfl
          · rw [List.length_append, List.length_singleton]
            omega
          · rw [all_succ, g, Bool.and_false]
            simp
        rcases (show i = 0 ∨ i = 1 ∨ i = 2 by omega) with rfl | rfl | rfl
        · refine ⟨rfl, _, rfl, _, rfl, pc, _, _, _, rfl, rfl, kk.sqT hc, rfl, ?_⟩
          refine ⟨_, rfl, _, rfl, pl, _, _, _, rfl, rfl, kk.sqT hl, rfl, _, _, rfl, rfl, _, _, rfl, rfl, _, rfl, ?_⟩
          have fz := fin x a (c.1) rfl
          have ef : blkAt c x y z a b' c' 0 = (decide (0 ≤ c.1 - x) && decide (c.1 - x < a)) := rfl
          rw [ef] at fz
          show (if decide ((0 : Int) ≤ c.1 - x) = true then _ else _)
          cases e1 : decide (0 ≤ c.1 - x) with
          | false =>
            rw [e1] at fz
            exact iteF ⟨_, rfl, iteT ⟨_, rfl, fz.2 rfl⟩⟩
          | true =>
            rw [e1] at fz
            refine iteT ⟨_, rfl, _, rfl, ps, _, _, _, rfl, rfl, kk.sqT hs, rfl, _, _, rfl, rfl, _, rfl, ?_⟩
            show (if (!decide (c.1 - x < a)) = true then _ else _)
            cases e2 : decide (c.1 - x < a) with
            | false =>
              rw [e2] at fz
              exact iteT ⟨_, rfl, fz.2 rfl⟩
            | true =>
              rw [e2] at fz
              exact iteF (fz.1 rfl)
        · refine ⟨rfl, _, rfl, _, rfl, pc, _, _, _, rfl, rfl, kk.sqT hc, rfl, ?_⟩
          refine ⟨_, rfl, _, rfl, pl, _, _, _, rfl, rfl, kk.sqT hl, rfl, _, _, rfl, rfl, _, _, rfl, rfl, _, rfl, ?_⟩
          have fz := fin y b' (c.2.1) rfl
          have ef : blkAt c x y z a b' c' 1 = (decide (0 ≤ c.2.1 - y) && decide (c.2.1 - y < b')) := rfl
          rw [ef] at fz
          show (if decide ((0 : Int) ≤ c.2.1 - y) = true then _ else _)
          cases e1 : decide (0 ≤ c.2.1 - y) with
          | false =>
            rw [e1] at fz
            exact iteF ⟨_, rfl, iteT ⟨_, rfl, fz.2 rfl⟩⟩
          | true =>
            rw [e1] at fz
            refine iteT ⟨_, rfl, _, rfl, ps, _, _, _, rfl, rfl, kk.sqT hs, rfl, _, _, rfl, rfl, _, rfl, ?_⟩
            show (if (!decide (c.2.1 - y < b')) = true then _ else _)
            cases e2 : decide (c.2.1 - y < b') with
            | false =>
              rw [e2] at fz
              exact iteT ⟨_, rfl, fz.2 rfl⟩
            | true =>
              rw [e2] at fz
              exact iteF (fz.1 rfl)
        · refine ⟨rfl, _, rfl, _, rfl, pc, _, _, _, rfl, rfl, kk.sqT hc, rfl, ?_⟩
          refine ⟨_, rfl, _, rfl, pl, _, _, _, rfl, rfl, kk.sqT hl, rfl, _, _, rfl, rfl, _, _, rfl, rfl, _, rfl, ?_⟩
          have fz := fin z c' (c.2.2) rfl
          have ef : blkAt c x y z a b' c' 2 = (decide (0 ≤ c.2.2 - z) && decide (c.2.2 - z < c')) := rfl
          rw [ef] at fz
          show (if decide ((0 : Int) ≤ c.2.2 - z) = true then _ else _)
          cases e1 : decide (0 ≤ c.2.2 - z) with
          | false =>
            rw [e1] at fz
            exact iteF ⟨_, rfl, iteT ⟨_, rfl, fz.2 rfl⟩⟩
          | true =>
            rw [e1] at fz
            refine iteT ⟨_, rfl, _, rfl, ps, _, _, _, rfl, rfl, kk.sqT hs, rfl, _, _, rfl, rfl, _, rfl, ?_⟩
            show (if (!decide (c.2.2 - z < c')) = true then _ else _)
            cases e2 : decide (c.2.2 - z < c') with
            | false =>
              rw [e2] at fz
              exact iteT ⟨_, rfl, fz.2 rfl⟩
            | true =>
              rw [e2] at fz
              exact iteF (fz.1 rfl)
      · obtain ⟨k, ks, hDl, hkl, hks⟩ := pv
        refine ⟨Nat.zero_le _, fun r2 hr2 => ?_⟩
        have kp : Kp [] H' (upd H' r2 (.lst [])) := Kp.new hr2
        refine ⟨.list (ks.map PyData.int), .list [], .lst (SqL.of (kp.lst hDl List.not_mem_nil)) (dp_ints ks), .lst (SqL.of upd_same) .nil, ints_shaped ks, ints_shaped [], ?_⟩
        have z := q _ ((k1.trans k).trans kp)
        rw [inside_blk, ← hks] at z
        rw [show PyData.eqv (.list (ks.map PyData.int)) (.list []) = decide (ks = []) from by cases ks <;> simp [PyData.eqv, PyData.eqvAll]]
        exact z
    | cells cs =>
      obtain ⟨p, y1, rfl, hT, h1⟩ := of_body2 hB
      refine ⟨_, rfl, p, _, _, _, rfl, rfl, hT, rfl, ?_⟩
      refine ⟨_, rfl, pc, _, rfl, hc, rfl, _, _, rfl, _, _, rfl, _, _, rfl, rfl, ?_⟩
      refine ⟨_, rfl, rfl, _, rfl, itD0 (by decide +kernel) ?_⟩
      refine ⟨_, rfl, rfl, _, rfl, itD1 (by decide +kernel) ?_⟩
      refine ⟨_, rfl, _, rfl, p, _, _, _, rfl, rfl, hT, rfl, cD c, cs.map cD, dp_c hc, h1, cD_shaped c, cDs_shapedT cs, ?_⟩
      rw [any_eqv]
      exact q H (Kp.refl _ _)
    | moved d b1 =>
      obtain ⟨p, y1, z1, rfl, hT, h1, h2⟩ := of_body3 hB
      refine ⟨_, rfl, p, _, _, _, rfl, rfl, hT, rfl, ?_⟩
      refine ⟨_, rfl, pc, _, rfl, hc, rfl, _, _, rfl, _, _, rfl, _, _, rfl, rfl, ?_⟩
      refine ⟨_, rfl, rfl, _, rfl, itD0 (by decide +kernel) ?_⟩
      refine ⟨_, rfl, rfl, _, rfl, itD0 (by decide +kernel) ?_⟩
      refine ⟨_, rfl, rfl, _, rfl, itD1 (by decide +kernel) ?_⟩
      have hdp : dp b1 ≤ n := by
        unfold dp at hn
        omega
      obtain ⟨pd, rfl, hd⟩ := of_dp_c h1
      refine ⟨_, rfl, p, _, _, _, rfl, rfl, hT, rfl, ?_⟩
      refine ⟨_, rfl, p, _, _, _, rfl, rfl, hT, rfl, _, rfl, _, rfl, pd, _, _, _, rfl, rfl, hd, rfl, _, _, rfl, rfl, _, rfl, _, rfl, pd, _, _, _, rfl, rfl, hd, rfl, _, _, rfl, rfl, _, rfl, _, rfl, pd, _, _, _, rfl, rfl, hd, rfl, _, _, rfl, rfl, (by show 3 ≤ sizeLine; decide), fun t ht => ?_⟩
      have kt := Kp.new (S := []) (o := .tup [.int (c.1 - d.1), .int (c.2.1 - d.2.1), .int (c.2.2 - d.2.2)]) ht
      exact ⟨z1, t, b1, sub3 d c, rfl, body_mono kt h2, hdp, SqT.of upd_same, fun H' k => q H' (kt.trans k)⟩
    | turnX b1 =>
      obtain ⟨p, y1, z1, rfl, hT, h1, h2⟩ := of_body3 hB
      refine ⟨_, rfl, p, _, _, _, rfl, rfl, hT, rfl, ?_⟩
      refine ⟨_, rfl, pc, _, rfl, hc, rfl, _, _, rfl, _, _, rfl, _, _, rfl, rfl, ?_⟩
      refine ⟨_, rfl, rfl, _, rfl, itD0 (by decide +kernel) ?_⟩
      refine ⟨_, rfl, rfl, _, rfl, itD0 (by decide +kernel) ?_⟩
      refine ⟨_, rfl, rfl, _, rfl, itD0 (by decide +kernel) ?_⟩
      refine ⟨_, rfl, rfl, _, rfl, itD1 (by decide +kernel) ?_⟩
      obtain rfl := of_dps h1
      have hdp : dp b1 ≤ n := by
        unfold dp at hn
        omega
      intro dd hdd
      have k0 : Kp [] H (upd H dd (.dK [])) := Kp.new hdd
      have hd0 : upd H dd (.dK []) dd = some (.dK []) := upd_same
      show tPairs _ _ (upd H dd (.dK [])) _
      generalize upd H dd (.dK []) = H0 at k0 hd0 ⊢
      refine ⟨_, rfl, _, rfl, _, rfl, _, _, rfl, rfl, (by show 3 ≤ sizeLine; decide), fun t1 ht1 => ?_⟩
      refine ⟨_, rfl, _, _, rfl, rfl, _, rfl, _, rfl, (by show 3 ≤ sizeLine; decide), fun t2 ht2 => ?_⟩
      refine ⟨_, rfl, _, rfl, _, _, rfl, rfl, _, rfl, (by show 3 ≤ sizeLine; decide), fun t3 ht3 => ?_⟩
      have k1 := Kp.new (S := []) (o := .tup [.int c.1, .int c.2.2, .int (3 - c.2.1)]) ht1
      have k2 := Kp.new (S := []) (o := .tup [.int (3 - c.2.2), .int c.2.1, .int c.1]) ht2
      have k3 := Kp.new (S := []) (o := .tup [.int c.2.1, .int (3 - c.1), .int c.2.2]) ht3
      have hd3 := k3.keep dd _ (k2.keep dd _ (k1.keep dd _ hd0 List.not_mem_nil (fun _ z => by cases z)) List.not_mem_nil (fun _ z => by cases z)) List.not_mem_nil (fun _ z => by cases z)
      have kd := Kp.chgD (S := [dd]) (k2 := mergeK [] [(Sum.inr "x", V.ref t1), (Sum.inr "y", V.ref t2), (Sum.inr "z", V.ref t3)]) hd3 (List.mem_singleton.mpr rfl)
      have kk := (((k0.trans k1).trans k2).trans k3).off hdd kd
      refine ⟨hd3, [(Sum.inr "x", V.ref t1), (Sum.inr "y", V.ref t2), (Sum.inr "z", V.ref t3)], rfl, (by show 3 ≤ 15; decide), ?_⟩
      refine ⟨_, rfl, p, _, _, _, rfl, rfl, (kk.sqT hT), rfl, ?_⟩
      refine ⟨_, rfl, _, rfl, p, _, _, _, rfl, rfl, (kk.sqT hT), rfl, dd, V.ref t1, rfl, (by rw [← backX t1 t2 t3]; exact DGet.k (k := Sum.inr "x") upd_same), ?_⟩
      exact ⟨z1, t1, b1, uX c, rfl, body_mono kk h2, hdp, kd.sqT (k3.sqT (k2.sqT (SqT.of upd_same))), fun H' k => q H' (kk.trans k)⟩
    | turnY b1 =>
      obtain ⟨p, y1, z1, rfl, hT, h1, h2⟩ := of_body3 hB
      refine ⟨_, rfl, p, _, _, _, rfl, rfl, hT, rfl, ?_⟩
      refine ⟨_, rfl, pc, _, rfl, hc, rfl, _, _, rfl, _, _, rfl, _, _, rfl, rfl, ?_⟩
      refine ⟨_, rfl, rfl, _, rfl, itD0 (by decide +kernel) ?_⟩
      refine ⟨_, rfl, rfl, _, rfl, itD0 (by decide +kernel) ?_⟩
      refine ⟨_, rfl, rfl, _, rfl, itD0 (by decide +kernel) ?_⟩
      refine ⟨_, rfl, rfl, _, rfl, itD1 (by decide +kernel) ?_⟩
      obtain rfl := of_dps h1
      have hdp : dp b1 ≤ n := by
        unfold dp at hn
        omega
      intro dd hdd
      have k0 : Kp [] H (upd H dd (.dK [])) := Kp.new hdd
      have hd0 : upd H dd (.dK []) dd = some (.dK []) := upd_same
      show tPairs _ _ (upd H dd (.dK [])) _
      generalize upd H dd (.dK []) = H0 at k0 hd0 ⊢
      refine ⟨_, rfl, _, rfl, _, rfl, _, _, rfl, rfl, (by show 3 ≤ sizeLine; decide), fun t1 ht1 => ?_⟩
      refine ⟨_, rfl, _, _, rfl, rfl, _, rfl, _, rfl, (by show 3 ≤ sizeLine; decide), fun t2 ht2 => ?_⟩
      refine ⟨_, rfl, _, rfl, _, _, rfl, rfl, _, rfl, (by show 3 ≤ sizeLine; decide), fun t3 ht3 => ?_⟩
      have k1 := Kp.new (S := []) (o := .tup [.int c.1, .int c.2.2, .int (3 - c.2.1)]) ht1
      have k2 := Kp.new (S := []) (o := .tup [.int (3 - c.2.2), .int c.2.1, .int c.1]) ht2
      have k3 := Kp.new (S := []) (o := .tup [.int c.2.1, .int (3 - c.1), .int c.2.2]) ht3
      have hd3 := k3.keep dd _ (k2.keep dd _ (k1.keep dd _ hd0 List.not_mem_nil (fun _ z => by cases z)) List.not_mem_nil (fun _ z => by cases z)) List.not_mem_nil (fun _ z => by cases z)
      have kd := Kp.chgD (S := [dd]) (k2 := mergeK [] [(Sum.inr "x", V.ref t1), (Sum.inr "y", V.ref t2), (Sum.inr "z", V.ref t3)]) hd3 (List.mem_singleton.mpr rfl)
      have kk := (((k0.trans k1).trans k2).trans k3).off hdd kd
      refine ⟨hd3, [(Sum.inr "x", V.ref t1), (Sum.inr "y", V.ref t2), (Sum.inr "z", V.ref t3)], rfl, (by show 3 ≤ 15; decide), ?_⟩
      refine ⟨_, rfl, p, _, _, _, rfl, rfl, (kk.sqT hT), rfl, ?_⟩
      refine ⟨_, rfl, _, rfl, p, _, _, _, rfl, rfl, (kk.sqT hT), rfl, dd, V.ref t2, rfl, (by rw [← backY t1 t2 t3]; exact DGet.k (k := Sum.inr "y") upd_same), ?_⟩
      exact ⟨z1, t2, b1, uY c, rfl, body_mono kk h2, hdp, kd.sqT (k3.sqT (SqT.of upd_same)), fun H' k => q H' (kk.trans k)⟩
    | turnZ b1 =>
      obtain ⟨p, y1, z1, rfl, hT, h1, h2⟩ := of_body3 hB
      refine ⟨_, rfl, p, _, _, _, rfl, rfl, hT, rfl, ?_⟩
      refine ⟨_, rfl, pc, _, rfl, hc, rfl, _, _, rfl, _, _, rfl, _, _, rfl, rfl, ?_⟩
      refine ⟨_, rfl, rfl, _, rfl, itD0 (by decide +kernel) ?_⟩
      refine ⟨_, rfl, rfl, _, rfl, itD0 (by decide +kernel) ?_⟩
      refine ⟨_, rfl, rfl, _, rfl, itD0 (by decide +kernel) ?_⟩
      refine ⟨_, rfl, rfl, _, rfl, itD1 (by decide +kernel) ?_⟩
      obtain rfl := of_dps h1
      have hdp : dp b1 ≤ n := by
        unfold dp at hn
        omega
      intro dd hdd
      have k0 : Kp [] H (upd H dd (.dK [])) := Kp.new hdd
      have hd0 : upd H dd (.dK []) dd = some (.dK []) := upd_same
      show tPairs _ _ (upd H dd (.dK [])) _
      generalize upd H dd (.dK []) = H0 at k0 hd0 ⊢
      refine ⟨_, rfl, _, rfl, _, rfl, _, _, rfl, rfl, (by show 3 ≤ sizeLine; decide), fun t1 ht1 => ?_⟩
      refine ⟨_, rfl, _, _, rfl, rfl, _, rfl, _, rfl, (by show 3 ≤ sizeLine; decide), fun t2 ht2 => ?_⟩
      refine ⟨_, rfl, _, rfl, _, _, rfl, rfl, _, rfl, (by show 3 ≤ sizeLine; decide), fun t3 ht3 => ?_⟩
      have k1 := Kp.new (S := []) (o := .tup [.int c.1, .int c.2.2, .int (3 - c.2.1)]) ht1
      have k2 := Kp.new (S := []) (o := .tup [.int (3 - c.2.2), .int c.2.1, .int c.1]) ht2
      have k3 := Kp.new (S := []) (o := .tup [.int c.2.1, .int (3 - c.1), .int c.2.2]) ht3
      have hd3 := k3.keep dd _ (k2.keep dd _ (k1.keep dd _ hd0 List.not_mem_nil (fun _ z => by cases z)) List.not_mem_nil (fun _ z => by cases z)) List.not_mem_nil (fun _ z => by cases z)
      have kd := Kp.chgD (S := [dd]) (k2 := mergeK [] [(Sum.inr "x", V.ref t1), (Sum.inr "y", V.ref t2), (Sum.inr "z", V.ref t3)]) hd3 (List.mem_singleton.mpr rfl)
      have kk := (((k0.trans k1).trans k2).trans k3).off hdd kd
      refine ⟨hd3, [(Sum.inr "x", V.ref t1), (Sum.inr "y", V.ref t2), (Sum.inr "z", V.ref t3)], rfl, (by show 3 ≤ 15; decide), ?_⟩
      refine ⟨_, rfl, p, _, _, _, rfl, rfl, (kk.sqT hT), rfl, ?_⟩
      refine ⟨_, rfl, _, rfl, p, _, _, _, rfl, rfl, (kk.sqT hT), rfl, dd, V.ref t3, rfl, (by rw [← backZ t1 t2 t3]; exact DGet.k (k := Sum.inr "z") upd_same), ?_⟩
      exact ⟨z1, t3, b1, uZ c, rfl, body_mono kk h2, hdp, kd.sqT (SqT.of upd_same), fun H' k => q H' (kk.trans k)⟩
    | wth b1 b2 =>
      obtain ⟨p, y1, z1, rfl, hT, h1, h2⟩ := of_body3 hB
      refine ⟨_, rfl, p, _, _, _, rfl, rfl, hT, rfl, ?_⟩
      refine ⟨_, rfl, pc, _, rfl, hc, rfl, _, _, rfl, _, _, rfl, _, _, rfl, rfl, ?_⟩
      refine ⟨_, rfl, rfl, _, rfl, itD0 (by decide +kernel) ?_⟩
      refine ⟨_, rfl, rfl, _, rfl, itD0 (by decide +kernel) ?_⟩
      refine ⟨_, rfl, rfl, _, rfl, itD0 (by decide +kernel) ?_⟩
      refine ⟨_, rfl, rfl, _, rfl, itD0 (by decide +kernel) ?_⟩
      have hdp : dp b1 ≤ n ∧ dp b2 ≤ n := by
        unfold dp at hn
        omega
      refine ⟨_, rfl, p, _, _, _, rfl, rfl, hT, rfl, _, rfl, y1, pc, b1, c, rfl, h1, hdp.1, hc, fun H1 k1 => ?_⟩
      refine ⟨_, rfl, p, _, _, _, rfl, rfl, (k1.sqT hT), rfl, _, rfl, z1, pc, b2, c, rfl, body_mono k1 h2, hdp.2, k1.sqT hc, fun H2 k2 => ?_⟩
      have z := q H2 (k1.trans k2)
      refine ⟨_, rfl, rfl, _, rfl, itD1 (by decide +kernel) ?_⟩
      refine ⟨_, rfl, _, rfl, ?_⟩
      show (if inside b1 c = true then _ else _)
      unfold inside at z
      cases e : inside b1 c with
      | true =>
        rw [e, Bool.true_or] at z
        exact iteT z
      | false =>
        rw [e, Bool.false_or] at z
        exact iteF ⟨_, rfl, z⟩
    | common b1 b2 =>
      obtain ⟨p, y1, z1, rfl, hT, h1, h2⟩ := of_body3 hB
      refine ⟨_, rfl, p, _, _, _, rfl, rfl, hT, rfl, ?_⟩
      refine ⟨_, rfl, pc, _, rfl, hc, rfl, _, _, rfl, _, _, rfl, _, _, rfl, rfl, ?_⟩
      refine ⟨_, rfl, rfl, _, rfl, itD0 (by decide +kernel) ?_⟩
      refine ⟨_, rfl, rfl, _, rfl, itD0 (by decide +kernel) ?_⟩
      refine ⟨_, rfl, rfl, _, rfl, itD0 (by decide +kernel) ?_⟩
      refine ⟨_, rfl, rfl, _, rfl, itD0 (by decide +kernel) ?_⟩
      have hdp : dp b1 ≤ n ∧ dp b2 ≤ n := by
        unfold dp at hn
        omega
      refine ⟨_, rfl, p, _, _, _, rfl, rfl, hT, rfl, _, rfl, y1, pc, b1, c, rfl, h1, hdp.1, hc, fun H1 k1 => ?_⟩
      refine ⟨_, rfl, p, _, _, _, rfl, rfl, (k1.sqT hT), rfl, _, rfl, z1, pc, b2, c, rfl, body_mono k1 h2, hdp.2, k1.sqT hc, fun H2 k2 => ?_⟩
      have z := q H2 (k1.trans k2)
      refine ⟨_, rfl, rfl, _, rfl, itD0 (by decide +kernel) ?_⟩
      refine ⟨_, rfl, _, rfl, ?_⟩
      show (if inside b1 c = true then _ else _)
      unfold inside at z
      cases e : inside b1 c with
      | false =>
        rw [e, Bool.false_and] at z
        exact iteF z
      | true =>
        rw [e, Bool.true_and] at z
        refine iteT ⟨_, rfl, _, rfl, rfl, rfl, ?_⟩
        rw [show decide (V.str "common" = V.str "common") = true by decide +kernel, show decide (V.bl (inside b2 c) = V.bl true) = inside b2 c by cases inside b2 c <;> rfl]
        exact z
    | less b1 b2 =>
      obtain ⟨p, y1, z1, rfl, hT, h1, h2⟩ := of_body3 hB
      refine ⟨_, rfl, p, _, _, _, rfl, rfl, hT, rfl, ?_⟩
      refine ⟨_, rfl, pc, _, rfl, hc, rfl, _, _, rfl, _, _, rfl, _, _, rfl, rfl, ?_⟩
      refine ⟨_, rfl, rfl, _, rfl, itD0 (by decide +kernel) ?_⟩
      refine ⟨_, rfl, rfl, _, rfl, itD0 (by decide +kernel) ?_⟩
      refine ⟨_, rfl, rfl, _, rfl, itD0 (by decide +kernel) ?_⟩
      refine ⟨_, rfl, rfl, _, rfl, itD0 (by decide +kernel) ?_⟩
      have hdp : dp b1 ≤ n ∧ dp b2 ≤ n := by
        unfold dp at hn
        omega
      refine ⟨_, rfl, p, _, _, _, rfl, rfl, hT, rfl, _, rfl, y1, pc, b1, c, rfl, h1, hdp.1, hc, fun H1 k1 => ?_⟩
      refine ⟨_, rfl, p, _, _, _, rfl, rfl, (k1.sqT hT), rfl, _, rfl, z1, pc, b2, c, rfl, body_mono k1 h2, hdp.2, k1.sqT hc, fun H2 k2 => ?_⟩
      have z := q H2 (k1.trans k2)
      refine ⟨_, rfl, rfl, _, rfl, itD0 (by decide +kernel) ?_⟩
      refine ⟨_, rfl, _, rfl, ?_⟩
      show (if inside b1 c = true then _ else _)
      unfold inside at z
      cases e : inside b1 c with
      | false =>
        rw [e, Bool.false_and] at z
        exact iteF z
      | true =>
        rw [e, Bool.true_and] at z
        refine iteT ⟨_, rfl, _, rfl, rfl, rfl, ?_⟩
        rw [show decide (V.str "less" = V.str "common") = false by decide +kernel, show decide (V.bl (inside b2 c) = V.bl false) = !inside b2 c by cases inside b2 c <;> rfl]
        exact z

theorem inside_none {f : Addr} {fd : FuncData} : FnOk P W0 K mg base CX0 0 f fd ["_law_body_here", "_law_cell"] (spInside K 0) := by
  have no : ∀ vs H Q E, ¬ spInside K 0 vs H Q E := fun vs H Q E h => by
    obtain ⟨_, _, b, _, _, _, hn, _⟩ := h
    have := dp_pos b
    omega
  exact ⟨fun vs H Q E h => absurd h (no vs H Q E), fun A outer s H args us vs Q E _ _ _ _ h => absurd h (no vs H Q E)⟩
theorem ok_inside {f : Addr} {fd : FuncData} (F : Fun K "_law_inside" "_law_inside" lInside f fd) (T : Nm K mg) (N : Fn K mg "_law_inside" f fd ["_law_body_here", "_law_cell"]) :
    ∀ n : Nat, FnOk P W0 K mg base CX0 n f fd ["_law_body_here", "_law_cell"] (spInside K n)
  | 0 => inside_none
  | n + 1 => inside_step F T N (ok_inside F T N n)
end LP
end

section
set_option Elab.async false
set_option linter.all false
set_option maxRecDepth 100000
set_option maxHeartbeats 2000000
/-! _law_all -/
namespace LP
open PySem PySem.Spec PyProof.Rows L2 Ly GY
variable [LamTab] {P : Program} {W0 : World} {K : PySem.W.Frag} {mg : Str → Option Value} {base : Heap}
def spAll (K : PySem.W.Frag) : Sp := fun vs H Q _ => ∃ (v : V) (b : Bd), vs = [v] ∧ Body K H v b ∧ dp b ≤ 20 ∧ ∀ (H' : Hp) (r : Addr) (zs : List V), Kp [] H H' → H r = none → H' r = some (.lst zs) → Items K H' zs (all b) → Q (.ref r) H'
theorem scAll : FnScope ["_law_body_here", "_law_room", "_law_k", "_law_cell"] ["_law_body_here"] (defScope lAll) := ⟨rfl, rfl, rfl, by decide +kernel, rfl, by decide +kernel, by decide +kernel⟩
theorem room_len : room.length = 64 := by unfold room; rw [List.length_map, List.length_range]
theorem ok_all {f fI : Addr} {fd dI : FuncData} (F : Fun K "_law_all" "_law_all" lAll f fd) (T : Nm K mg) (NI : Fn K mg "_law_inside" fI dI ["_law_body_here", "_law_cell"]) (GI : FnOk P W0 K mg base CX0 20 fI dI ["_law_body_here", "_law_cell"] (spInside K 20)) :
    FnOk P W0 K mg base CX0 21 f fd ["_law_body_here"] (spAll K) := by
  refine F.ok scAll (fun vs H Q E h => ?_) (fun cdv A outer s H vs Q E hr h => ?_)
  · obtain ⟨v, b, rfl, _⟩ := h
    rfl
  · obtain ⟨v, b, rfl, hB, hn, q⟩ := h
    refine ⟨_, pss_cons (ps_setLc (i := 1) (own := [("_law_k", 2)]) (g := gName 2) rfl scAll.nd rfl rfl (sw_true rfl rfl rfl (by decide +kernel)) (pi_range1 (by rfl) T.range (pa_cons pe_int pa_nil)) (blkOk_by (own := [("_law_k", 2)]) (N := ["_law_body_here", "_law_room", "_law_k", "_law_cell"]) (sc := defScope lAll) (by decide +kernel))
        (fun _ _ _ _ _ => pg_name (i := 2) scAll.nd rfl (.inl rfl)) (fun _ _ _ _ _ => pts_nil) (fun _ _ _ _ _ => pe_tup (pa_cons (pe_op op_fdiv (pv 2) pe_int) (pa_cons (pe_op op_mod (pe_op op_fdiv (pv 2) pe_int) pe_int) (pa_cons (pe_op op_mod (pv 2) pe_int) pa_nil)))))
      (pss_one (ps_ret (pe_lc (own := [("_law_cell", 3)]) (g := gName 3) rfl scAll.nd (pi_list (pv 1)) (blkOk_by (own := [("_law_cell", 3)]) (N := ["_law_body_here", "_law_room", "_law_k", "_law_cell"]) (sc := defScope lAll) (by decide +kernel))
        (fun _ _ _ _ _ => pg_name (i := 3) scAll.nd rfl (.inl rfl)) (fun _ _ _ _ _ => pts_one (pt_val (pe_call GI hr (by rfl) NI.m NI.kp NI.b .nil pass0 (pa_cons (pv 0) (pa_cons (pv 3) pa_nil))))) (fun _ _ _ _ _ => pv 3)))), ?_⟩
    refine ⟨64, rfl, by decide, by decide, fun R hR => lc_range (lo := 0) (n := 64) (fun i H' => Kp [] H H' ∧ ∃ acc, H' R = some (.lst acc) ∧ Items K H' acc ((List.range i).map roomAt)) ⟨Kp.new hR, [], upd_same, .nil⟩ (fun i H' hi pv => ?_) (fun H' pv => ?_)⟩
    · obtain ⟨k, acc, hA, hI⟩ := pv
      have d16 : (0 : Int) < 16 ∧ (16 : Int) < 1073741824 := ⟨by decide, by decide⟩
      have d4 : (0 : Int) < 4 ∧ (4 : Int) < 1073741824 := ⟨by decide, by decide⟩
      refine ⟨rfl, yesI ?_⟩
      refine ⟨_, rfl, _, _, rfl, rfl, d16, _, rfl, _, _, rfl, rfl, d4, _, _, rfl, rfl, (by show (0 : Int) < 4; decide), _, rfl, _, _, rfl, rfl, (by show (0 : Int) < 4; decide), (by show 3 ≤ sizeLine; decide), fun t ht => ?_⟩
      have kt := Kp.new (S := []) (o := .tup [.int ((0 + (i : Int)) / 16), .int ((0 + (i : Int)) / 4 % 4), .int ((0 + (i : Int)) % 4)]) ht
      have hA2 := kt.lst hA List.not_mem_nil
      have hl := hI.length
      rw [List.length_map, List.length_range] at hl
      have hq : SqT K (upd H' t (.tup [.int ((0 + (i : Int)) / 16), .int ((0 + (i : Int)) / 4 % 4), .int ((0 + (i : Int)) % 4)])) t [.int (roomAt i).1, .int (roomAt i).2.1, .int (roomAt i).2.2] := by
        refine SqT.of ?_
        rw [upd_same, Int.zero_add]
        rfl
      have hit := items_mono kt hI
      have kc := Kp.chg (S := [R]) (ys := acc ++ [V.ref t]) hA2 (List.mem_singleton.mpr rfl)
      refine ⟨acc, hA2, ?_, (k.trans kt).chg0 hR hA2, _, upd_same, ?_⟩
      · have : (64 : Nat) < sizeLine := by decide
        omega
      · rw [List.range_succ, List.map_append]
        exact Items.append (items_mono kc hit) (Items.one (dp_c (kc.sqT hq)))
    · obtain ⟨k, acc, hA, hI⟩ := pv
      refine ⟨_, rfl, R, rfl, ⟨_, SqL.of hA⟩, fun D hD => lc_filter (K := K) (inside b) k hD (SqL.of hA) hI (by show room.length ≤ 64; rw [room_len]; decide) (fun c z H' Nx Z hc kk hz n1 n2 => ?_) (fun H' zs kk hy hi => q H' D zs kk (k.free D hD) hy hi)⟩
      refine ⟨rfl, _, rfl, _, rfl, v, z, b, c, rfl, body_mono kk hB, hn, hz, fun H'' k'' => ⟨_, rfl, ?_⟩⟩
      cases e : inside b c with
      | true => exact iteT ⟨_, rfl, n1 H'' k'' e⟩
      | false => exact iteF (n2 H'' k'' e)
end LP
end

section
set_option Elab.async false
set_option linter.all false
set_option maxRecDepth 100000
set_option maxHeartbeats 4000000
/-! _law_body -/
namespace LP
open PySem PySem.Spec PyProof.Rows L2 Ly GY
variable [LamTab] {P : Program} {W0 : World} {K : PySem.W.Frag} {mg : Str → Option Value} {base : Heap}
theorem Sta.apart {H : Hp} {h l r : Addr} (s : Sta H h l) (n : H r = none) : r ∉ [h, l] := by
  obtain ⟨m, t, ns, h1, h2, _⟩ := s
  intro z
  rcases List.mem_cons.mp z with z | z
  · rw [z, h1] at n; cases n
  · rw [List.mem_singleton.mp z, h2] at n; cases n
theorem Sta.ne {H : Hp} {h l r : Addr} (s : Sta H h l) (n : H r = none) : r ≠ h ∧ r ≠ l := by
  have := s.apart n
  simpa using this
/-- a new thing leaves the state -/
theorem Sta.new {H : Hp} {h l r : Addr} {o : HO} (s : Sta H h l) (n : H r = none) : Sta (upd H r o) h l := s.mono0 (Kp.new n)
/-- a change of what is not the state -/
theorem Sta.chg {H : Hp} {h l r : Addr} {xs ys : List V} (s : Sta H h l) (e : H r = some (.lst xs)) (n : r ∉ [h, l]) : Sta (upd H r (.lst ys)) h l := by
  simp at n
  exact s.mono (Kp.chg (S := [r]) e (List.mem_singleton.mpr rfl)) (by simp; exact Ne.symm n.1) (by simp; exact Ne.symm n.2)
def LowP (ns : List Int) (d m : Int) : Prop := (ns = [] ∧ m = d) ∨ (m ∈ ns ∧ ∀ j ∈ ns, m ≤ j)
def HighP (ns : List Int) (d m : Int) : Prop := (ns = [] ∧ m = d) ∨ (m ∈ ns ∧ ∀ j ∈ ns, j ≤ m)
theorem minR {H : Hp} {a : Addr} {ns : List Int} {d : Int} {Q : VK} (hL : SqL K H a (ns.map V.int)) (q : ∀ m, LowP ns d m → Q (.int m) H) : GW.rMinD K [.ref a] [.int d] H Q := ⟨a, ns, d, rfl, rfl, hL, fun e => q d (.inl ⟨e, rfl⟩), fun m h1 h2 => q m (.inr ⟨h1, h2⟩)⟩
theorem maxR {H : Hp} {a : Addr} {ns : List Int} {d : Int} {Q : VK} (hL : SqL K H a (ns.map V.int)) (q : ∀ m, HighP ns d m → Q (.int m) H) : GW.rMaxD K [.ref a] [.int d] H Q := ⟨a, ns, d, rfl, rfl, hL, fun e => q d (.inl ⟨e, rfl⟩), fun m h1 h2 => q m (.inr ⟨h1, h2⟩)⟩
def comp (j : Nat) (c : C3) : Int := if j = 0 then c.1 else if j = 1 then c.2.1 else c.2.2
theorem comp_at {i : Nat} (hi : i < 3) (c : C3) : atI [V.int c.1, V.int c.2.1, V.int c.2.2] (0 + (i : Int)) = some (.int (comp i c)) := by
  rcases (show i = 0 ∨ i = 1 ∨ i = 2 by omega) with rfl | rfl | rfl <;> rfl
theorem comp_in {c : C3} (h : InR c) (i : Nat) : 0 ≤ comp i c ∧ comp i c ≤ 3 := by
  unfold comp
  split
  · exact h.1
  · split
    · exact h.2.1
    · exact h.2.2
def FarOk (b : Bd) (j : Nat) (f : Int) : Prop := -3 ≤ f ∧ f ≤ 3 ∧ ∀ c ∈ all b, 0 ≤ comp j c + f ∧ comp j c + f ≤ 3
theorem lowhigh {b : Bd} {i : Nat} {low high : Int} (h1 : LowP ((all b).map (comp i)) 0 low) (h2 : HighP ((all b).map (comp i)) 3 high) : 0 ≤ low ∧ low ≤ 3 ∧ 0 ≤ high ∧ high ≤ 3 ∧ ∀ c ∈ all b, low ≤ comp i c ∧ comp i c ≤ high := by
  have hin : ∀ x ∈ (all b).map (comp i), 0 ≤ x ∧ x ≤ 3 := by
    intro x hx
    obtain ⟨c, hc, rfl⟩ := List.mem_map.mp hx
    exact comp_in (in_all hc) i
  rcases h1 with ⟨e, rfl⟩ | ⟨m1, q1⟩
  · rcases h2 with ⟨_, rfl⟩ | ⟨m2, q2⟩
    · refine ⟨by decide, by decide, by decide, by decide, fun c hc => ?_⟩
      have : comp i c ∈ (all b).map (comp i) := List.mem_map.mpr ⟨c, hc, rfl⟩
      rw [e] at this
      cases this
    · rw [e] at m2
      cases m2
  · rcases h2 with ⟨e, rfl⟩ | ⟨m2, q2⟩
    · rw [e] at m1
      cases m1
    · refine ⟨(hin _ m1).1, (hin _ m1).2, (hin _ m2).1, (hin _ m2).2, fun c hc => ?_⟩
      have hm : comp i c ∈ (all b).map (comp i) := List.mem_map.mpr ⟨c, hc, rfl⟩
      exact ⟨q1 _ hm, q2 _ hm⟩
def spLBody (K : PySem.W.Frag) (n : Nat) : Sp := fun vs H Q _ => ∃ (h l : Addr) (d : Nat), vs = [.ref h, .int (d : Int)] ∧ d < n ∧ n ≤ 10 ∧ Sta H h l ∧
  ∀ (H' : Hp) (v : V) (b : Bd), Kp [h, l] H H' → Sta H' h l → Body K H' v b → Good b → dp b ≤ d + 1 → Q v H'
/-- and of depth 0 a block -/
def spLBodyX (K : PySem.W.Frag) (n : Nat) : Sp := fun vs H Q _ => ∃ (h l : Addr) (d : Nat), vs = [.ref h, .int (d : Int)] ∧ d < n ∧ n ≤ 10 ∧ Sta H h l ∧
  ∀ (H' : Hp) (v : V) (b : Bd), Kp [h, l] H H' → Sta H' h l → Body K H' v b → Good b → dp b ≤ d + 1 → (d = 0 → ∃ x y z a1 a2 a3, b = .block x y z a1 a2 a3) → Q v H'
theorem scLBody : FnScope ["_law_h", "_law_deep", "_law_way", "_law_cell", "_law_k", "_law_some", "_law_word", "_law_one", "_law_far", "_law_low", "_law_high", "_law_number"] ["_law_h", "_law_deep"] (defScope lBody) := ⟨rfl, rfl, rfl, by decide +kernel, rfl, by decide +kernel, by decide +kernel⟩
theorem lbody_step {n : Nat} {f fX fA : Addr} {fd dX dA : FuncData} (F : Fun K "_law_body" "_law_body" lBody f fd) (T : Nm K mg) (U : Nl K mg) (NB : Fn K mg "_law_body" f fd ["_law_h", "_law_deep"]) (GB : FnOk P W0 K mg base CX0 (21 + n) f fd ["_law_h", "_law_deep"] (spLBody K n))
    (NX : Fn K mg "_law_next" fX dX ["_law_h", "_law_many"]) (GX : FnOk P W0 K mg base CX0 1 fX dX ["_law_h", "_law_many"] spNext) (NA : Fn K mg "_law_all" fA dA ["_law_body_here"]) (GA : FnOk P W0 K mg base CX0 21 fA dA ["_law_body_here"] (spAll K)) :
    FnOk P W0 K mg base CX0 (21 + n + 1) f fd ["_law_h", "_law_deep"] (spLBodyX K (n + 1)) := by
  refine F.ok scLBody (fun vs H Q E h => ?_) (fun cdv A outer s H vs Q E hr h => ?_)
  · obtain ⟨h, l, d, rfl, _⟩ := h
    rfl
  · obtain ⟨h, l, d, rfl, hd, hn10, hS, q⟩ := h
    have hr1 : Room 1 _ := hr.mono (by omega)
    have hr21 : Room 21 _ := hr.mono (by omega)
    refine ⟨_, pss_cons (ps_set (i := 2) scLBody.nd rfl (.inl rfl) (pe_call GX hr1 (by rfl) NX.m NX.kp NX.b .nil pass0 (pa_cons (pv 0) (pa_cons pe_int pa_nil))))
      (pss_cons (ps_if (PW.pt (pw_or (pt_cmpR op_eq (pv 1) pe_int (nomark _)) (pw_or1 (pt_cmpR op_lt (pv 2) pe_int (nomark _)))))
        (pss_cons (ps_set (i := 3) scLBody.nd rfl (.inl rfl) (pe_tup (pa_cons (pe_call GX hr1 (by rfl) NX.m NX.kp NX.b .nil pass0 (pa_cons (pv 0) (pa_cons pe_int pa_nil))) (pa_cons (pe_call GX hr1 (by rfl) NX.m NX.kp NX.b .nil pass0 (pa_cons (pv 0) (pa_cons pe_int pa_nil))) (pa_cons (pe_ix ix_list (pe_lst (pa_cons pe_int (pa_cons (pe_call GX hr1 (by rfl) NX.m NX.kp NX.b .nil pass0 (pa_cons (pv 0) (pa_cons pe_int pa_nil))) pa_nil))) (pe_call GX hr1 (by rfl) NX.m NX.kp NX.b .nil pass0 (pa_cons (pv 0) (pa_cons pe_int pa_nil))) (fun _ _ => rfl)) pa_nil)))))
        (pss_one (ps_ret (pe_tup (pa_cons pe_str (pa_cons (pv 3) (pa_cons (pe_callTy call_tuple_of (by rfl) T.tuple (by decide +kernel) (pa_cons
          (pe_lc (own := [("_law_number", 11)]) (g := gName 11) rfl scLBody.nd (pi_tup (pv 3)) (blkOk_by (own := [("_law_number", 11)]) (N := ["_law_h", "_law_deep", "_law_way", "_law_cell", "_law_k", "_law_some", "_law_word", "_law_one", "_law_far", "_law_low", "_law_high", "_law_number"]) (sc := defScope lBody) (by decide +kernel))
            (fun _ _ _ _ _ => pg_name (i := 11) scLBody.nd rfl (.inl rfl)) (fun _ _ _ _ _ => pts_nil) (fun _ _ _ _ _ => pe_op op_add pe_int (pe_call GX hr1 (by rfl) NX.m NX.kp NX.b .nil pass0 (pa_cons (pv 0) (pa_cons (pe_op op_sub pe_int (pv 11)) pa_nil))))) pa_nil)) pa_nil))))))) pss_nil)
      (pss_cons (ps_if (pt_cmpR op_eq (pv 2) pe_int (nomark _))
        (pss_cons (ps_setLc (i := 5) (own := [("_law_k", 4)]) (g := gName 4) rfl scLBody.nd rfl rfl (sw_true rfl rfl rfl (by decide +kernel)) (pi_range1 (by rfl) T.range (pa_cons (pe_call GX hr1 (by rfl) NX.m NX.kp NX.b .nil pass0 (pa_cons (pv 0) (pa_cons pe_int pa_nil))) pa_nil)) (blkOk_by (own := [("_law_k", 4)]) (N := ["_law_h", "_law_deep", "_law_way", "_law_cell", "_law_k", "_law_some", "_law_word", "_law_one", "_law_far", "_law_low", "_law_high", "_law_number"]) (sc := defScope lBody) (by decide +kernel))
            (fun _ _ _ _ _ => pg_name (i := 4) scLBody.nd rfl (.inl rfl)) (fun _ _ _ _ _ => pts_nil) (fun _ _ _ _ _ => pe_tup (pa_cons (pe_call GX hr1 (by rfl) NX.m NX.kp NX.b .nil pass0 (pa_cons (pv 0) (pa_cons pe_int pa_nil))) (pa_cons (pe_call GX hr1 (by rfl) NX.m NX.kp NX.b .nil pass0 (pa_cons (pv 0) (pa_cons pe_int pa_nil))) (pa_cons (pe_call GX hr1 (by rfl) NX.m NX.kp NX.b .nil pass0 (pa_cons (pv 0) (pa_cons pe_int pa_nil))) pa_nil)))))
        (pss_one (ps_ret (pe_tup (pa_cons pe_str (pa_cons (pe_callTy call_tuple_of (by rfl) T.tuple (by decide +kernel) (pa_cons (pe_callB (GZ.cr_sortedQ rfl hr.units) (by rfl) T.sorted (by decide +kernel) (pa_cons (pe_callTy (GZ.cr_setC rfl hr.units) (by rfl) T.set (by decide +kernel) (pa_cons (pv 5) pa_nil)) pa_nil)) pa_nil)) pa_nil)))))) pss_nil)
      (pss_cons (ps_if (pt_cmpR op_lt (pv 2) pe_int (nomark _))
        (pss_cons (ps_set (i := 6) scLBody.nd rfl (.inl rfl) (pe_ix ix_list (pe_lst (pa_cons pe_str (pa_cons pe_str (pa_cons pe_str (pa_cons pe_str pa_nil))))) (pe_op op_sub (pv 2) pe_int) (fun _ _ => rfl)))
        (pss_one (ps_ret (pe_tup (pa_cons (pv 6) (pa_cons (pe_call GB hr (by rfl) NB.m NB.kp NB.b .nil pass0 (pa_cons (pv 0) (pa_cons (pe_op op_sub (pv 1) pe_int) pa_nil))) (pa_cons (pe_call GB hr (by rfl) NB.m NB.kp NB.b .nil pass0 (pa_cons (pv 0) (pa_cons (pe_op op_sub (pv 1) pe_int) pa_nil))) pa_nil))))))) pss_nil)
      (pss_cons (ps_set (i := 7) scLBody.nd rfl (.inl rfl) (pe_call GB hr (by rfl) NB.m NB.kp NB.b .nil pass0 (pa_cons (pv 0) (pa_cons (pe_op op_sub (pv 1) pe_int) pa_nil))))
      (pss_cons (ps_if (pt_cmpR op_eq (pv 2) pe_int (nomark _)) (pss_one (ps_ret (pe_tup (pa_cons pe_str (pa_cons (pe_ix ix_str pe_str (pe_call GX hr1 (by rfl) NX.m NX.kp NX.b .nil pass0 (pa_cons (pv 0) (pa_cons pe_int pa_nil))) (fun _ _ => rfl)) (pa_cons (pv 7) pa_nil)))))) pss_nil)
      (pss_cons (ps_set (i := 5) scLBody.nd rfl (.inl rfl) (pe_call GA hr21 (by rfl) NA.m NA.kp NA.b .nil pass0 (pa_cons (pv 7) pa_nil)))
      (pss_cons (ps_set (i := 8) scLBody.nd rfl (.inl rfl) (pe_lst pa_nil))
      (pss_cons (ps_for PassesOwn.never rfl (pi_range1 (by rfl) T.range (pa_cons pe_int pa_nil)) (pg_name (i := 4) scLBody.nd rfl (.inr rfl))
        (pss_cons (ps_set (i := 9) scLBody.nd rfl (.inl rfl) (pe_callBK (GW.cr_minD rfl hr.units) (by rfl) U.min (by decide +kernel) (pa_cons (pe_lc (own := [("_law_cell", 3)]) (g := gName 3) rfl scLBody.nd (pi_list (pv 5)) (blkOk_by (own := [("_law_cell", 3)]) (N := ["_law_h", "_law_deep", "_law_way", "_law_cell", "_law_k", "_law_some", "_law_word", "_law_one", "_law_far", "_law_low", "_law_high", "_law_number"]) (sc := defScope lBody) (by decide +kernel)) (fun _ _ _ _ _ => pg_name (i := 3) scLBody.nd rfl (.inl rfl)) (fun _ _ _ _ _ => pts_nil) (fun _ _ _ _ _ => pe_ix (r := rIxT K) ix_tup (pv 3) (pv 4) (fun _ _ => rfl))) pa_nil) (pk_cons pe_int pk_nil)))
        (pss_cons (ps_set (i := 10) scLBody.nd rfl (.inl rfl) (pe_callBK (GW.cr_maxD rfl hr.units) (by rfl) U.max (by decide +kernel) (pa_cons (pe_lc (own := [("_law_cell", 3)]) (g := gName 3) rfl scLBody.nd (pi_list (pv 5)) (blkOk_by (own := [("_law_cell", 3)]) (N := ["_law_h", "_law_deep", "_law_way", "_law_cell", "_law_k", "_law_some", "_law_word", "_law_one", "_law_far", "_law_low", "_law_high", "_law_number"]) (sc := defScope lBody) (by decide +kernel)) (fun _ _ _ _ _ => pg_name (i := 3) scLBody.nd rfl (.inl rfl)) (fun _ _ _ _ _ => pts_nil) (fun _ _ _ _ _ => pe_ix (r := rIxT K) ix_tup (pv 3) (pv 4) (fun _ _ => rfl))) pa_nil) (pk_cons pe_int pk_nil)))
        (pss_one (ps_expr (pe_bm PySem.F.plainAttrs_list PySem.F.slot_list_append PySem.F.type_list_append mt_append (pv 8) (pa_cons (pe_op op_sub (pe_call GX hr1 (by rfl) NX.m NX.kp NX.b .nil pass0 (pa_cons (pv 0) (pa_cons (pe_op op_add (pe_op op_sub pe_int (pv 10)) (pv 9)) pa_nil))) (pv 9)) pa_nil)))))))
      (pss_one (ps_ret (pe_tup (pa_cons pe_str (pa_cons (pe_callTy call_tuple_of (by rfl) T.tuple (by decide +kernel) (pa_cons (pv 8) pa_nil)) (pa_cons (pv 7) pa_nil)))))))))))))), ?_⟩
    refine ⟨_, rfl, h, l, 10, rfl, by decide, by decide, hS, fun H1 way k1 s1 w0 w1 => ?_⟩
    refine ⟨_, rfl, rfl, _, rfl, ?_⟩
    by_cases hd0 : d = 0
    · subst hd0
      refine itD1 (by rfl) (iteT ?_)
      refine ⟨_, rfl, h, l, 4, rfl, by decide, by decide, s1, fun H2 ra k2 s2 a0 a1 => ?_⟩
      refine ⟨_, rfl, h, l, 4, rfl, by decide, by decide, s2, fun H3 rb k3 s3 b0 b1 => ?_⟩
      refine ⟨_, rfl, h, l, 4, rfl, by decide, by decide, s3, fun H4 rc k4 s4 c0 c1 => ⟨(by show 2 ≤ sizeLine; decide), fun lq hlq => ?_⟩⟩
      have hlqA := s4.apart hlq
      have s5 := s4.new (o := .lst [.int 0, .int rc]) hlq
      have k5 : Kp [h, l] H4 (upd H4 lq (.lst [.int 0, .int rc])) := Kp.new hlq
      have e5 : upd H4 lq (.lst [.int 0, .int rc]) lq = some (.lst [.int 0, .int rc]) := upd_same
      generalize upd H4 lq (.lst [.int 0, .int rc]) = H5 at s5 k5 e5 ⊢
      refine ⟨_, rfl, h, l, 2, rfl, by decide, by decide, s5, fun H6 rd k6 s6 d0 d1 => ?_⟩
      have e6 := k6.lst e5 hlqA
      obtain ⟨z, hz, z0, z1⟩ : ∃ z, atI [V.int 0, V.int rc] rd = some (.int z) ∧ 0 ≤ z ∧ z < 4 := by
        rcases (show rd = 0 ∨ rd = 1 by omega) with rfl | rfl
        · exact ⟨0, rfl, by decide, by decide⟩
        · exact ⟨rc, rfl, c0, c1⟩
      refine ⟨lq, _, rd, _, rfl, rfl, SqL.of e6, hz, (by show 3 ≤ sizeLine; decide), fun tc htc => ?_⟩
      have s7 := s6.new (o := .tup [.int ra, .int rb, .int z]) htc
      have k7 : Kp [h, l] H (upd H6 tc (.tup [.int ra, .int rb, .int z])) := ((((k1.trans k2).trans k3).trans k4).trans (k5.trans k6)).trans (Kp.new htc)
      have hc7 : SqT K (upd H6 tc (.tup [.int ra, .int rb, .int z])) tc ([ra, rb, z].map V.int) := SqT.of upd_same
      generalize upd H6 tc (.tup [.int ra, .int rb, .int z]) = H7 at s7 k7 hc7 ⊢
      refine ⟨_, rfl, _, rfl, tc, rfl, ⟨_, hc7⟩, fun D hD => lc_tup (K := K) (xs := [ra, rb, z].map V.int) (fun i H' => Kp [h, l] H7 H' ∧ Sta H' h l ∧ ∃ ns : List Int, H' D = some (.lst (ns.map V.int)) ∧ ns.length = i ∧ ∀ (j : Nat) (n u : Int), ns[j]? = some n → [ra, rb, z][j]? = some u → 1 ≤ n ∧ u + n ≤ 4)
        ⟨Kp.new hD, s7.new hD, [], upd_same, rfl, by simp⟩ (fun i H' _ pv => pv.1.sqT hc7) (fun i x H' hx pv => ?_) (fun H' pv => ?_)⟩
      · obtain ⟨k, sx, ns, hDl, hlen, hns⟩ := pv
        have hDA := s7.apart hD
        obtain ⟨u, hu, rfl⟩ := int_at hx
        have hub : 0 ≤ u ∧ u < 4 := by
          have := List.mem_of_getElem? hu
          simp at this
          rcases this with rfl | rfl | rfl
          · exact ⟨a0, a1⟩
          · exact ⟨b0, b1⟩
          · exact ⟨z0, z1⟩
        have hi3 : i < 3 := (List.getElem?_eq_some_iff.mp hu).1
        refine ⟨rfl, yesI ?_⟩
        refine ⟨_, rfl, _, rfl, _, _, rfl, rfl, h, l, 4 - u, rfl, by omega, by omega, sx, fun H'' r k'' s'' r0 r1 => ⟨_, _, rfl, rfl, ?_⟩⟩
        have hD2 := k''.lst hDl hDA
        refine ⟨_, hD2, ?_, (k.trans k'').chg0 hD hD2, s''.chg hD2 hDA, ns ++ [1 + r], ?_, ?_, ?_⟩
        · rw [List.length_map]
          have : (64 : Nat) < sizeLine := by decide
          omega
        · rw [upd_same, List.map_append]
          rfl
        · rw [List.length_append, List.length_singleton, hlen]
        · intro j n u' hj hu'
          by_cases hji : j < ns.length
          · rw [List.getElem?_append_left hji] at hj
            exact hns j n u' hj hu'
          · have hj2 : j = ns.length := by
              have := (List.getElem?_eq_some_iff.mp hj).1
              rw [List.length_append, List.length_singleton] at this
              omega
            subst hj2
            rw [List.getElem?_append_right (Nat.le_refl _), Nat.sub_self] at hj
            have en : 1 + r = n := by simpa using hj
            rw [hlen] at hu'
            rw [hu] at hu'
            have eu : u = u' := Option.some.inj hu'
            omega
      · obtain ⟨k, sx, ns, hDl, hlen, hns⟩ := pv
        have hlen : ns.length = 3 := hlen
        obtain ⟨n1, n2, n3, rfl⟩ : ∃ n1 n2 n3, ns = [n1, n2, n3] := by
          match ns, hlen with
          | [a, b, c], _ => exact ⟨a, b, c, rfl⟩
        have g1 := hns 0 n1 ra rfl rfl
        have g2 := hns 1 n2 rb rfl rfl
        have g3 := hns 2 n3 z rfl rfl
        refine ⟨D, _, rfl, .inl ⟨SqL.of hDl, fun tn htn => ⟨(by show 3 ≤ sizeLine; decide), fun tt htt => ?_⟩⟩⟩
        have kn := Kp.new (S := [h, l]) (o := .tup ([n1, n2, n3].map V.int)) htn
        have kt := Kp.new (S := [h, l]) (o := .tup [.str "block", .ref tc, .ref tn]) htt
        refine q _ _ (.block ra rb z n1 n2 n3) (((k7.trans k).trans kn).trans kt) ((sx.new htn).new htt) (.tup (SqT.of upd_same) (.cons (.str _) (.cons (dp_c (c := (ra, rb, z)) (kt.sqT (kn.sqT (k.sqT hc7)))) (.cons (dp_c (c := (n1, n2, n3)) (kt.sqT (SqT.of upd_same))) .nil)))) ?_ ?_ (fun _ => ⟨_, _, _, _, _, _, rfl⟩)
        · exact ⟨⟨⟨by omega, by show ra ≤ 3; omega⟩, ⟨by show 0 ≤ rb; omega, by show rb ≤ 3; omega⟩, ⟨by show 0 ≤ z; omega, by show z ≤ 3; omega⟩⟩, g1, g2, g3⟩
        · exact Nat.le_add_left 1 _
    refine itD0 (by intro z; apply hd0; have := V.int.inj z; omega) ?_
    obtain ⟨d', rfl⟩ : ∃ d', d = d' + 1 := ⟨d - 1, by omega⟩
    have hd' : d' < n := by omega
    have eself : [V.ref h, V.int (((d' + 1 : Nat) : Int) - 1)] = [V.ref h, V.int (d' : Int)] := by
      rw [show ((d' + 1 : Nat) : Int) - 1 = (d' : Int) by omega]
    refine ⟨_, rfl, _, _, rfl, rfl, _, rfl, ?_⟩
    by_cases hw3 : way < 3
    · refine itD1 hw3 ?_
      refine ⟨_, rfl, h, l, 4, rfl, by decide, by decide, s1, fun H2 ra k2 s2 a0 a1 => ?_⟩
      refine ⟨_, rfl, h, l, 4, rfl, by decide, by decide, s2, fun H3 rb k3 s3 b0 b1 => ?_⟩
      refine ⟨_, rfl, h, l, 4, rfl, by decide, by decide, s3, fun H4 rc k4 s4 c0 c1 => ⟨(by show 2 ≤ sizeLine; decide), fun lq hlq => ?_⟩⟩
      have hlqA := s4.apart hlq
      have s5 := s4.new (o := .lst [.int 0, .int rc]) hlq
      have k5 : Kp [h, l] H4 (upd H4 lq (.lst [.int 0, .int rc])) := Kp.new hlq
      have e5 : upd H4 lq (.lst [.int 0, .int rc]) lq = some (.lst [.int 0, .int rc]) := upd_same
      generalize upd H4 lq (.lst [.int 0, .int rc]) = H5 at s5 k5 e5 ⊢
      refine ⟨_, rfl, h, l, 2, rfl, by decide, by decide, s5, fun H6 rd k6 s6 d0 d1 => ?_⟩
      have e6 := k6.lst e5 hlqA
      obtain ⟨z, hz, z0, z1⟩ : ∃ z, atI [V.int 0, V.int rc] rd = some (.int z) ∧ 0 ≤ z ∧ z < 4 := by
        rcases (show rd = 0 ∨ rd = 1 by omega) with rfl | rfl
        · exact ⟨0, rfl, by decide, by decide⟩
        · exact ⟨rc, rfl, c0, c1⟩
      refine ⟨lq, _, rd, _, rfl, rfl, SqL.of e6, hz, (by show 3 ≤ sizeLine; decide), fun tc htc => ?_⟩
      have s7 := s6.new (o := .tup [.int ra, .int rb, .int z]) htc
      have k7 : Kp [h, l] H (upd H6 tc (.tup [.int ra, .int rb, .int z])) := ((((k1.trans k2).trans k3).trans k4).trans (k5.trans k6)).trans (Kp.new htc)
      have hc7 : SqT K (upd H6 tc (.tup [.int ra, .int rb, .int z])) tc ([ra, rb, z].map V.int) := SqT.of upd_same
      generalize upd H6 tc (.tup [.int ra, .int rb, .int z]) = H7 at s7 k7 hc7 ⊢
      refine ⟨_, rfl, _, rfl, tc, rfl, ⟨_, hc7⟩, fun D hD => lc_tup (K := K) (xs := [ra, rb, z].map V.int) (fun i H' => Kp [h, l] H7 H' ∧ Sta H' h l ∧ ∃ ns : List Int, H' D = some (.lst (ns.map V.int)) ∧ ns.length = i ∧ ∀ (j : Nat) (n u : Int), ns[j]? = some n → [ra, rb, z][j]? = some u → 1 ≤ n ∧ u + n ≤ 4)
        ⟨Kp.new hD, s7.new hD, [], upd_same, rfl, by simp⟩ (fun i H' _ pv => pv.1.sqT hc7) (fun i x H' hx pv => ?_) (fun H' pv => ?_)⟩
      · obtain ⟨k, sx, ns, hDl, hlen, hns⟩ := pv
        have hDA := s7.apart hD
        obtain ⟨u, hu, rfl⟩ := int_at hx
        have hub : 0 ≤ u ∧ u < 4 := by
          have := List.mem_of_getElem? hu
          simp at this
          rcases this with rfl | rfl | rfl
          · exact ⟨a0, a1⟩
          · exact ⟨b0, b1⟩
          · exact ⟨z0, z1⟩
        have hi3 : i < 3 := (List.getElem?_eq_some_iff.mp hu).1
        refine ⟨rfl, yesI ?_⟩
        refine ⟨_, rfl, _, rfl, _, _, rfl, rfl, h, l, 4 - u, rfl, by omega, by omega, sx, fun H'' r k'' s'' r0 r1 => ⟨_, _, rfl, rfl, ?_⟩⟩
        have hD2 := k''.lst hDl hDA
        refine ⟨_, hD2, ?_, (k.trans k'').chg0 hD hD2, s''.chg hD2 hDA, ns ++ [1 + r], ?_, ?_, ?_⟩
        · rw [List.length_map]
          have : (64 : Nat) < sizeLine := by decide
          omega
        · rw [upd_same, List.map_append]
          rfl
        · rw [List.length_append, List.length_singleton, hlen]
        · intro j n u' hj hu'
          by_cases hji : j < ns.length
          · rw [List.getElem?_append_left hji] at hj
            exact hns j n u' hj hu'
          · have hj2 : j = ns.length := by
              have := (List.getElem?_eq_some_iff.mp hj).1
              rw [List.length_append, List.length_singleton] at this
              omega
            subst hj2
            rw [List.getElem?_append_right (Nat.le_refl _), Nat.sub_self] at hj
            have en : 1 + r = n := by simpa using hj
            rw [hlen] at hu'
            rw [hu] at hu'
            have eu : u = u' := Option.some.inj hu'
            omega
      · obtain ⟨k, sx, ns, hDl, hlen, hns⟩ := pv
        have hlen : ns.length = 3 := hlen
        obtain ⟨n1, n2, n3, rfl⟩ : ∃ n1 n2 n3, ns = [n1, n2, n3] := by
          match ns, hlen with
          | [a, b, c], _ => exact ⟨a, b, c, rfl⟩
        have g1 := hns 0 n1 ra rfl rfl
        have g2 := hns 1 n2 rb rfl rfl
        have g3 := hns 2 n3 z rfl rfl
        refine ⟨D, _, rfl, .inl ⟨SqL.of hDl, fun tn htn => ⟨(by show 3 ≤ sizeLine; decide), fun tt htt => ?_⟩⟩⟩
        have kn := Kp.new (S := [h, l]) (o := .tup ([n1, n2, n3].map V.int)) htn
        have kt := Kp.new (S := [h, l]) (o := .tup [.str "block", .ref tc, .ref tn]) htt
        refine q _ _ (.block ra rb z n1 n2 n3) (((k7.trans k).trans kn).trans kt) ((sx.new htn).new htt) (.tup (SqT.of upd_same) (.cons (.str _) (.cons (dp_c (c := (ra, rb, z)) (kt.sqT (kn.sqT (k.sqT hc7)))) (.cons (dp_c (c := (n1, n2, n3)) (kt.sqT (SqT.of upd_same))) .nil)))) ?_ ?_ (fun _ => ⟨_, _, _, _, _, _, rfl⟩)
        · exact ⟨⟨⟨by omega, by show ra ≤ 3; omega⟩, ⟨by show 0 ≤ rb; omega, by show rb ≤ 3; omega⟩, ⟨by show 0 ≤ z; omega, by show z ≤ 3; omega⟩⟩, g1, g2, g3⟩
        · exact Nat.le_add_left 1 _
    refine itD0 hw3 ?_
    refine ⟨_, rfl, rfl, _, rfl, ?_⟩
    by_cases hw4 : way = 3
    · refine itD1 (by rw [hw4]) ?_
      refine ⟨_, rfl, h, l, 14, rfl, by decide, by decide, s1, fun H2 r k2 s2 r0 r1 => ⟨r, rfl, by omega, by omega, fun D hD => lc_range (lo := 0) (n := r.toNat) (fun i H' => Kp [h, l] H2 H' ∧ Sta H' h l ∧ ∃ (acc : List V) (cs : List C3), H' D = some (.lst acc) ∧ Items K H' acc cs ∧ cs.length = i ∧ ∀ c ∈ cs, InR c) ⟨Kp.new hD, s2.new hD, [], [], upd_same, .nil, rfl, by simp⟩ (fun i H' hi pv => ?_) (fun H' pv => ?_)⟩⟩
      · obtain ⟨k, sx, acc, cs, hDl, hI, hlen, hR⟩ := pv
        have hDA := s2.apart hD
        refine ⟨rfl, yesI ?_⟩
        refine ⟨_, rfl, h, l, 4, rfl, by decide, by decide, sx, fun Ha ra ka sa a0 a1 => ?_⟩
        refine ⟨_, rfl, h, l, 4, rfl, by decide, by decide, sa, fun Hb rb kb sb b0 b1 => ?_⟩
        refine ⟨_, rfl, h, l, 4, rfl, by decide, by decide, sb, fun Hc rc kc sc c0 c1 => ⟨(by show 3 ≤ sizeLine; decide), fun t ht => ?_⟩⟩
        have kt := Kp.new (S := [h, l]) (o := .tup [.int ra, .int rb, .int rc]) ht
        have kk := ((ka.trans kb).trans kc).trans kt
        have hD2 := kk.lst hDl hDA
        have st := sc.new (o := .tup [.int ra, .int rb, .int rc]) ht
        have hq : SqT K (upd Hc t (.tup [.int ra, .int rb, .int rc])) t [.int ra, .int rb, .int rc] := SqT.of upd_same
        have hit := items_mono kk hI
        have hl := hI.length
        have kd := Kp.chg (S := [D]) (ys := acc ++ [V.ref t]) hD2 (List.mem_singleton.mpr rfl)
        refine ⟨_, hD2, ?_, (k.trans kk).chg0 hD hD2, st.chg hD2 hDA, _, cs ++ [(ra, rb, rc)], upd_same, ?_, ?_, ?_⟩
        · have : (64 : Nat) < sizeLine := by decide
          omega
        · exact Items.append (items_mono kd hit) (Items.one (dp_c (c := (ra, rb, rc)) (kd.sqT hq)))
        · rw [List.length_append, List.length_singleton, hlen]
        · intro c hc
          rcases List.mem_append.mp hc with z | z
          · exact hR c z
          · rw [List.mem_singleton.mp z]
            exact ⟨⟨a0, by show ra ≤ 3; omega⟩, ⟨b0, by show rb ≤ 3; omega⟩, ⟨c0, by show rc ≤ 3; omega⟩⟩
      · obtain ⟨k, sx, acc, cs, hDl, hI, hlen, hR⟩ := pv
        refine ⟨_, rfl, .ref D, cs, rfl, .inl (cellsL_of hDl hI), hR, fun e L he g1 g2 => ?_⟩
        have ke := Kp.new (S := [h, l]) (o := GZ.SQO P W0 e L) he
        refine ⟨e, L, rfl, upd_same, fun z hz => ke.sqT (g1 z hz).2, fun zs ds r2 hp hnd hs hlen' hit hr' => ?_⟩
        have kr := Kp.new (S := [h, l]) (o := .lst zs) hr'
        refine ⟨r2, zs, rfl, .inl ⟨SqL.of upd_same, fun tn htn => ⟨(by show 2 ≤ sizeLine; decide), fun tt htt => ?_⟩⟩⟩
        have kn := Kp.new (S := [h, l]) (o := .tup zs) htn
        have kt := Kp.new (S := [h, l]) (o := .tup [.str "cells", .ref tn]) htt
        refine q _ _ (.cells ds) ((((((k1.trans k2).trans k).trans ke).trans kr).trans kn).trans kt) ((((sx.new he).new hr').new htn).new htt)
          (.tup (SqT.of upd_same) (.cons (.str _) (.cons (.tup (kt.sqT (SqT.of upd_same)) (items_mono kt (items_mono kn (items_mono kr hit)))) .nil))) ⟨asc_of hs hnd, fun c hc => ?_⟩ (Nat.le_add_left 1 _) (fun z => absurd z hd0)
        have hc2 := hp.mem_iff.mp hc
        obtain ⟨z, hz, rfl⟩ := List.mem_map.mp hc2
        exact hR _ (g1 z hz).1
    refine itD0 (by intro z; exact hw4 (V.int.inj z)) ?_
    refine ⟨_, rfl, _, _, rfl, rfl, _, rfl, ?_⟩
    by_cases hw8 : way < 8
    · refine itD1 hw8 ?_
      refine ⟨(by show 4 ≤ sizeLine; decide), fun lw hlw => ?_⟩
      have k2 := Kp.new (S := [h, l]) (o := .lst [.str "with", .str "with", .str "less", .str "common"]) hlw
      have s2 := s1.new (o := .lst [.str "with", .str "with", .str "less", .str "common"]) hlw
      obtain ⟨w, mk, hat, hmk, hgood, hdpm⟩ : ∃ (w : Str) (mk : Bd → Bd → Bd), atI [V.str "with", V.str "with", V.str "less", V.str "common"] (way - 4) = some (.str w) ∧ (∀ p q, bD (mk p q) = .tuple [.str w, bD p, bD q]) ∧ (∀ p q, Good p → Good q → Good (mk p q)) ∧ ∀ p q, dp (mk p q) = 1 + max (dp p) (dp q) := by
        rcases (show way = 4 ∨ way = 5 ∨ way = 6 ∨ way = 7 by omega) with rfl | rfl | rfl | rfl
        · exact ⟨"with", .wth, rfl, fun _ _ => rfl, fun _ _ a b => ⟨a, b⟩, fun _ _ => rfl⟩
        · exact ⟨"with", .wth, rfl, fun _ _ => rfl, fun _ _ a b => ⟨a, b⟩, fun _ _ => rfl⟩
        · exact ⟨"less", .less, rfl, fun _ _ => rfl, fun _ _ a b => ⟨a, b⟩, fun _ _ => rfl⟩
        · exact ⟨"common", .common, rfl, fun _ _ => rfl, fun _ _ a b => ⟨a, b⟩, fun _ _ => rfl⟩
      refine ⟨_, rfl, _, _, rfl, rfl, lw, _, way - 4, _, rfl, rfl, SqL.of upd_same, hat, ?_⟩
      refine ⟨_, rfl, _, rfl, _, rfl, _, _, rfl, rfl, h, l, d', eself, hd', by omega, s2, fun Ha va ba ka sa ha ga da => ?_⟩
      refine ⟨_, rfl, _, rfl, _, _, rfl, rfl, h, l, d', eself, hd', by omega, sa, fun Hb vb bb kb sb hb gb db => ?_⟩
      refine ⟨(by show 3 ≤ sizeLine; decide), fun tt htt => ?_⟩
      have kt := Kp.new (S := [h, l]) (o := .tup [.str w, va, vb]) htt
      refine q _ _ (mk ba bb) ((((k1.trans k2).trans ka).trans kb).trans kt) (sb.new htt) ?_ (hgood _ _ ga gb) ?_ (fun z => absurd z hd0)
      · show Dp K _ _ (bD (mk ba bb))
        rw [hmk]
        exact .tup (SqT.of upd_same) (.cons (.str _) (.cons (body_mono kt (body_mono kb ha)) (.cons (body_mono kt hb) .nil)))
      · rw [hdpm]
        omega
    refine itD0 hw8 ?_
    refine ⟨_, rfl, _, rfl, _, _, rfl, rfl, h, l, d', eself, hd', by omega, s1, fun H2 v1 b1 k2 s2 hb1 gb1 db1 => ?_⟩
    refine ⟨_, rfl, rfl, _, rfl, ?_⟩
    by_cases hw9 : way = 8
    · refine itD1 (by rw [hw9]) ?_
      refine ⟨_, rfl, h, l, 3, rfl, by decide, by decide, s2, fun H3 r k3 s3 r0 r1 => ?_⟩
      obtain ⟨c, w, mk, hat, hcw, hmk, hgood, hdpm⟩ : ∃ (c : Nat) (w : Str) (mk : Bd → Bd), atI ("xyz" : Str).cps.toList r = some c ∧ (⟨#[c]⟩ : Str) = w ∧ (∀ p, bD (mk p) = .tuple [.str "turned", .str w, bD p]) ∧ (∀ p, Good p → Good (mk p)) ∧ ∀ p, dp (mk p) = 1 + dp p := by
        rcases (show r = 0 ∨ r = 1 ∨ r = 2 by omega) with rfl | rfl | rfl
        · exact ⟨120, "x", .turnX, by decide +kernel, by decide +kernel, fun _ => rfl, fun _ a => a, fun _ => rfl⟩
        · exact ⟨121, "y", .turnY, by decide +kernel, by decide +kernel, fun _ => rfl, fun _ a => a, fun _ => rfl⟩
        · exact ⟨122, "z", .turnZ, by decide +kernel, by decide +kernel, fun _ => rfl, fun _ a => a, fun _ => rfl⟩
      refine ⟨_, r, c, rfl, rfl, (by decide +kernel), hat, _, rfl, (by show 3 ≤ sizeLine; decide), fun tt htt => ?_⟩
      have kt := Kp.new (S := [h, l]) (o := .tup [.str "turned", .str ⟨#[c]⟩, v1]) htt
      refine q _ _ (mk b1) (((k1.trans k2).trans k3).trans kt) (s3.new htt) ?_ (hgood _ gb1) ?_ (fun z => absurd z hd0)
      · show Dp K _ _ (bD (mk b1))
        rw [hmk, ← hcw]
        exact .tup (SqT.of upd_same) (.cons (.str _) (.cons (.str _) (.cons (body_mono kt (body_mono k3 hb1)) .nil)))
      · rw [hdpm]
        omega
    refine itD0 (by intro z; exact hw9 (V.int.inj z)) ?_
    have db1' : dp b1 ≤ 20 := by omega
    refine ⟨_, rfl, v1, b1, rfl, hb1, db1', fun H3 r zs k3 n3 h3 i3 => ?_⟩
    have s3 := s2.mono0 k3
    have hra := s2.apart n3
    refine ⟨Nat.zero_le _, fun fa hfa => ?_⟩
    have hfaA := s3.apart hfa
    have hrf : r ≠ fa := by
      intro z
      rw [z, hfa] at h3
      cases h3
    have hb3 : Body K H3 v1 b1 := body_mono k3 hb1
    refine ⟨3, rfl, by decide, by decide, for_range (lo := 0) (n := 3) (fun i σ H' => ∃ (o4 o9 o10 : Option V), σ = [some (.ref h), some (.int ((d' + 1 : Nat) : Int)), some (.int way), none, o4, some (.ref r), none, some v1, some (.ref fa), o9, o10, none] ∧ Kp [h, l] H3 H' ∧ Sta H' h l ∧ ∃ fs : List Int, H' fa = some (.lst (fs.map V.int)) ∧ fs.length = i ∧ ∀ (j : Nat) (f : Int), fs[j]? = some f → FarOk b1 j f)
      ⟨none, none, none, rfl, Kp.new hfa, s3.new hfa, [], upd_same, rfl, by simp⟩ (fun i σ H4 hi pv => ?_) (fun σ H4 pv => ?_)⟩
    · obtain ⟨o4, o9, o10, rfl, k4, s4, fs, hfs, hfl, hff⟩ := pv
      refine ⟨_, rfl, r, rfl, ⟨_, SqL.of (k4.lst h3 hra)⟩, fun D hD => lc_list (K := K) (a := r) (xs := zs) (fun j H' => Kp [] H4 H' ∧ H' D = some (.lst ((((all b1).take j).map (comp i)).map V.int))) ⟨Kp.new hD, upd_same⟩ (fun j H' _ pv => SqL.of (pv.1.lst (k4.lst h3 hra) List.not_mem_nil)) (fun j x H' hx pv => ?_) (fun H' pv => ?_)⟩
      · obtain ⟨k, hDl⟩ := pv
        obtain ⟨c, hc, hdc⟩ := i3.get hx
        obtain ⟨p, rfl, hp⟩ := of_dp_c hdc
        have hjl : j < (all b1).length := (List.getElem?_eq_some_iff.mp hc).1
        have hal := all_len b1
        refine ⟨rfl, yesI ?_⟩
        refine ⟨_, rfl, _, rfl, p, _, _, _, rfl, rfl, k.sqT (k4.sqT hp), comp_at hi c, ?_⟩
        refine ⟨_, hDl, ?_, k.chg0 hD hDl, ?_⟩
        · rw [List.length_map, List.length_map, List.length_take]
          have : (64 : Nat) < sizeLine := by decide
          omega
        · rw [upd_same, List.take_add_one, hc, List.map_append, List.map_append]
          rfl
      obtain ⟨k5, hDl⟩ := pv
      rw [i3.length, List.take_length] at hDl
      rename Hp => H5
      dsimp only [tNil, tCons, tC]
      refine minR (SqL.of hDl) (fun low hlow => ?_)
      have s5 := s4.mono0 k5
      have k45 := k4.trans (k5.w0 (S := [h, l]))
      refine ⟨_, rfl, r, rfl, ⟨_, SqL.of (k45.lst h3 hra)⟩, fun D hD => lc_list (K := K) (a := r) (xs := zs) (fun j H' => Kp [] H5 H' ∧ H' D = some (.lst ((((all b1).take j).map (comp i)).map V.int))) ⟨Kp.new hD, upd_same⟩ (fun j H' _ pv => SqL.of (pv.1.lst (k45.lst h3 hra) List.not_mem_nil)) (fun j x H' hx pv => ?_) (fun H' pv => ?_)⟩
      · obtain ⟨k, hDl⟩ := pv
        obtain ⟨c, hc, hdc⟩ := i3.get hx
        obtain ⟨p, rfl, hp⟩ := of_dp_c hdc
        have hjl : j < (all b1).length := (List.getElem?_eq_some_iff.mp hc).1
        have hal := all_len b1
        refine ⟨rfl, yesI ?_⟩
        refine ⟨_, rfl, _, rfl, p, _, _, _, rfl, rfl, k.sqT (k45.sqT hp), comp_at hi c, ?_⟩
        refine ⟨_, hDl, ?_, k.chg0 hD hDl, ?_⟩
        · rw [List.length_map, List.length_map, List.length_take]
          have : (64 : Nat) < sizeLine := by decide
          omega
        · rw [upd_same, List.take_add_one, hc, List.map_append, List.map_append]
          rfl
      obtain ⟨k6, hDl⟩ := pv
      rw [i3.length, List.take_length] at hDl
      rename Hp => H6
      dsimp only [tNil, tCons, tC]
      refine maxR (SqL.of hDl) (fun high hhigh => ?_)
      have s6 := s5.mono0 k6
      have k46 := k45.trans (k6.w0 (S := [h, l]))
      have hlh : 0 ≤ low ∧ low ≤ 3 ∧ 0 ≤ high ∧ high ≤ 3 ∧ ∀ c ∈ all b1, low ≤ comp i c ∧ comp i c ≤ high := lowhigh hlow hhigh
      obtain ⟨l0, l3, g0, g3, hcs⟩ := hlh
      have hf6 := k6.lst (k5.lst hfs List.not_mem_nil) List.not_mem_nil
      refine ⟨_, rfl, .inl ⟨rfl, _, SqL.of hf6⟩, _, rfl, _, rfl, _, _, rfl, rfl, _, rfl, _, _, rfl, rfl, h, l, 4 - high + low, rfl, by omega, by omega, s6, fun H7 rr k7 s7 r0 r1 => ?_⟩
      have hf7 := k7.lst hf6 hfaA
      refine ⟨_, rfl, _, _, rfl, rfl, fa, _, _, rfl, rfl, hf7, ?_, ?_⟩
      · rw [List.length_map]
        have : (64 : Nat) < sizeLine := by decide
        omega
      · refine ⟨_, _, _, rfl, (k46.trans k7).chg0 hfa hf7, s7.chg hf7 hfaA, fs ++ [rr - low], ?_, ?_, ?_⟩
        · rw [upd_same, List.map_append]
          rfl
        · rw [List.length_append, List.length_singleton, hfl]
        · intro j f hj
          by_cases hji : j < fs.length
          · rw [List.getElem?_append_left hji] at hj
            exact hff j f hj
          · have hj2 : j = fs.length := by
              have := (List.getElem?_eq_some_iff.mp hj).1
              rw [List.length_append, List.length_singleton] at this
              omega
            subst hj2
            rw [List.getElem?_append_right (Nat.le_refl _), Nat.sub_self] at hj
            have ef : rr - low = f := by simpa using hj
            rw [hfl]
            refine ⟨by omega, by omega, fun c hc => ?_⟩
            have := hcs c hc
            omega
    · obtain ⟨o4, o9, o10, rfl, k4, s4, fs, hfs, hfl, hff⟩ := pv
      have hfl : fs.length = 3 := hfl
      obtain ⟨n1, n2, n3', rfl⟩ : ∃ n1 n2 n3, fs = [n1, n2, n3] := by
        match fs, hfl with
        | [a, b, c], _ => exact ⟨a, b, c, rfl⟩
      have g1 := hff 0 n1 rfl
      have g2 := hff 1 n2 rfl
      have g3 := hff 2 n3' rfl
      refine ⟨_, rfl, fa, _, rfl, .inl ⟨SqL.of hfs, fun tn htn => ⟨_, rfl, (by show 3 ≤ sizeLine; decide), fun tt htt => ?_⟩⟩⟩
      have kn := Kp.new (S := [h, l]) (o := .tup ([n1, n2, n3'].map V.int)) htn
      have kt := Kp.new (S := [h, l]) (o := .tup [.str "moved", .ref tn, v1]) htt
      refine q _ _ (.moved (n1, n2, n3') b1) ((((k1.trans k2).trans (k3.w0.trans k4)).trans kn).trans kt) ((s4.new htn).new htt) (.tup (SqT.of upd_same) (.cons (.str _) (.cons (dp_c (c := (n1, n2, n3')) (kt.sqT (SqT.of upd_same))) (.cons (body_mono kt (body_mono kn (body_mono k4 hb3))) .nil)))) ⟨⟨⟨g1.1, g1.2.1⟩, ⟨g2.1, g2.2.1⟩, ⟨g3.1, g3.2.1⟩⟩, gb1, fun c hc => ?_⟩ ?_ (fun z => absurd z hd0)
      · have hca := (mem_good gb1).mpr hc
        have e1 := g1.2.2 c hca
        have e2 := g2.2.2 c hca
        have e3 := g3.2.2 c hca
        exact ⟨e1, e2, e3⟩
      · show 1 + dp b1 ≤ _
        omega
theorem lbody_none {f : Addr} {fd : FuncData} : FnOk P W0 K mg base CX0 21 f fd ["_law_h", "_law_deep"] (spLBody K 0) := by
  have no : ∀ vs H Q E, ¬ spLBody K 0 vs H Q E := fun vs H Q E h => by
    obtain ⟨_, _, _, _, hn, _⟩ := h
    omega
  exact ⟨fun vs H Q E h => absurd h (no vs H Q E), fun A outer s H args us vs Q E _ _ _ _ h => absurd h (no vs H Q E)⟩
theorem ok_lbody {f fX fA : Addr} {fd dX dA : FuncData} (F : Fun K "_law_body" "_law_body" lBody f fd) (T : Nm K mg) (U : Nl K mg) (NB : Fn K mg "_law_body" f fd ["_law_h", "_law_deep"])
    (NX : Fn K mg "_law_next" fX dX ["_law_h", "_law_many"]) (GX : FnOk P W0 K mg base CX0 1 fX dX ["_law_h", "_law_many"] spNext) (NA : Fn K mg "_law_all" fA dA ["_law_body_here"]) (GA : FnOk P W0 K mg base CX0 21 fA dA ["_law_body_here"] (spAll K)) :
    ∀ n : Nat, FnOk P W0 K mg base CX0 (21 + n) f fd ["_law_h", "_law_deep"] (spLBody K n)
  | 0 => lbody_none
  | n + 1 => (lbody_step F T U NB (ok_lbody F T U NB NX GX NA GA n) NX GX NA GA).imp fun vs H Q E ⟨h, l, d, e, h1, h2, h3, q⟩ => ⟨h, l, d, e, h1, h2, h3, fun H' v b k s hB hg hd _ => q H' v b k s hB hg hd⟩
/-- of depth 0 a block -/
theorem ok_lbodyX {f fX fA : Addr} {fd dX dA : FuncData} (F : Fun K "_law_body" "_law_body" lBody f fd) (T : Nm K mg) (U : Nl K mg) (NB : Fn K mg "_law_body" f fd ["_law_h", "_law_deep"])
    (NX : Fn K mg "_law_next" fX dX ["_law_h", "_law_many"]) (GX : FnOk P W0 K mg base CX0 1 fX dX ["_law_h", "_law_many"] spNext) (NA : Fn K mg "_law_all" fA dA ["_law_body_here"]) (GA : FnOk P W0 K mg base CX0 21 fA dA ["_law_body_here"] (spAll K)) (n : Nat) :
    FnOk P W0 K mg base CX0 (21 + n + 1) f fd ["_law_h", "_law_deep"] (spLBodyX K (n + 1)) := lbody_step F T U NB (ok_lbody F T U NB NX GX NA GA n) NX GX NA GA
end LP
end

section
set_option Elab.async false
set_option linter.all false
set_option maxRecDepth 100000
set_option maxHeartbeats 2000000
/-! enumerate over a text; extend by a tuple; a generator expression over a text -/
namespace GE
open PySem PySem.Spec PyProof.Rows L2
section
open AutoSeq1 (wpAny_loadPart')
set_option maxRecDepth 8000 in
theorem ext_tup (l b : Addr) (xs ys : Array Value) (n m : Nat) (dc : Option Addr) (sl : Array (Option Value)) (h1 : ¬(!xs.isEmpty && Builtin.List.listTooLong (xs.size + ys.size)) = true) (h2 : xs.size ≤ sizeLine) (h3 : xs.size + ys.size ≤ sizeLine + 1) :
    Meets (Builtin.«list.extend» ⟨[.ref l, .ref b], []⟩) (fun _ R s => s.heap.get? l = some { cls := .type "list", dict := none, data := .seq xs n, slots := #[] } ∧ s.heap.get? b = some { cls := .type "tuple", dict := dc, data := .seq ys m, slots := sl } ∧
      R (.ok (.ret Value.none)) { s with heap := s.heap.update l (Obj.mapSeq fun x => x ++ ys), toks := s.toks }) := .of_wp fun prog w A R s h => by
  obtain ⟨hp, g, d, tk, os⟩ := s
  obtain ⟨hl, hb, q⟩ := h
  have g1 := AutoSeq1.idx_int
  have g2 := AutoSeq1.sub_tuple_tuple
  have g3 := AutoSeq1.sub_list_list
  have g4 := AutoSeq1.sub_tuple_list
  have g5 := AutoSeq1.sub_list_tuple
  have hz : (xs ++ ys).size ≤ sizeLine + 1 := by rw [Array.size_append]; exact h3
  wp_walk using (wpAny_updateSeq hl rfl (hz := h2) (_hz' := hz)), wpAny_loadPart' hl, wpAny_loadPart' hb
  exact ⟨_, rfl, q⟩
end
section
variable {X : Cx}
def rExtendT (K : PySem.W.Frag) : V → List V → Hp → VK → Prop := fun x vs H Q => ∃ l b xs zs, x = .ref l ∧ vs = [.ref b] ∧ H l = some (.lst xs) ∧ SqT K H b zs ∧ xs.length + zs.length ≤ sizeLine ∧ Q .non (upd H l (.lst (xs ++ zs)))
theorem mt_extendT : MtM X "list.extend" (rExtendT X.K) := by
  intro pins s σ H x vs v us Q I rx rv h
  obtain ⟨l, b, xs, zs, rfl, rfl, hH, hB, hz, q⟩ := h
  cases rx
  obtain ⟨u, rfl, ru⟩ := rv.one
  cases ru
  obtain ⟨z, its, n, r, hl, e⟩ := I.lstM hH
  obtain ⟨its2, r2, ⟨⟨c2, dc, dt, sl⟩, ho2, hc2, m, hd2⟩, hz2⟩ := I.tuple hB
  replace hc2 : c2 = .type "tuple" := hc2
  replace hd2 : dt = .seq its2.toArray m := hd2
  subst hc2 hd2
  have l1 := r.length
  have l2 := r2.length
  have hsz : its.toArray.size + its2.toArray.size ≤ sizeLine := by rw [List.size_toArray, List.size_toArray]; omega
  have hlong : ¬ (!its.toArray.isEmpty && Builtin.List.listTooLong (its.toArray.size + its2.toArray.size)) = true := by
    rw [notLongL hsz, Bool.and_false]
    exact Bool.false_ne_true
  refine call_meets F.slot_list_extend ⟨_, e, rfl⟩ F.entry_list_extend (F.args_list_extend_2 _ _)
    (ext_tup l b its.toArray its2.toArray n m dc sl hlong (by rw [List.size_toArray]; omega) (by omega)) ⟨e, ho2, ?_⟩
  refine ⟨.non, _, I.lset (its' := its ++ its2) hH e (by simp) (r.append r2) ?_, rfl, q⟩
  rw [List.length_append]
  omega
/-! ### enumerate over a text -/
def Ites (x : Str) : It :=
  ⟨fun i _ => i < x.cps.size, fun i H v H' => ∃ T c, v = .ref T ∧ H T = none ∧ x.cps[i]? = some c ∧ H' = upd H T (.tup [.int (i : Int), .str ⟨#[c]⟩]), fun i _ => i = x.cps.size⟩
theorem turn_enumS {P : Program} {w : World} {K : PySem.W.Frag} {elts : List Expr} {kk : Nat} {tpos : Pos} (x : Str) (t : Tok) (ty : String) (hty : ty = "str_ascii_iterator" ∨ ty = "str_iterator") (e it : Addr) :
    Turn P w K (.Tuple elts kk tpos) (Ites x) [e, it] e (fun i h => (∃ old, IsEnum h e it ((i : Nat) : Int) old) ∧ h.IsStrIter it ty x t i ∧ e ≠ it) where
  mem := by simp
  obj := fun i h st b hb => by
    obtain ⟨⟨old, he⟩, ⟨o, ho, hc, hd⟩, _⟩ := st
    rcases (show b = e ∨ b = it by simpa using hb) with z | z
    · rw [z]; exact ⟨_, he, fun v q => nomatch q⟩
    · rw [z]; exact ⟨o, ho, fun v q => by rw [hd] at q; cases q⟩
  keep := fun i h h' st k => let ⟨⟨old, he⟩, ⟨o, ho, r⟩, hne⟩ := st; ⟨⟨old, k e (by simp) _ he⟩, ⟨o, k it (by simp) o ho, r⟩, hne⟩
  item := by
    intro X hP hw hK hc i pins s σ H E I hf st hg
    subst hP hw hK
    obtain ⟨⟨old, he⟩, hit, hne⟩ := st
    have D : Draws X.prog X.w X.A.in1 it [it] x.cps.size (fun i v => ∃ c u, x.cps[i]? = some c ∧ v = Value.str ⟨#[c]⟩ u) (fun i h => h.IsStrIter it ty x t i) := by
      rcases hty with z | z
      · rw [z]; exact Draws.strAscii (A := X.A.in1) (I.ok.hd hc) it x t
      · rw [z]; exact Draws.strWide (A := X.A.in1) (I.ok.hd hc) it x t
    have hel : e < s.heap.objs.size := Heap.lt_size he
    have hil : it < s.heap.objs.size := by obtain ⟨_, q, _⟩ := hit; exact Heap.lt_size q
    refine wpAny_pyNext_enum_itemD D he hit hg hne (by simpa using hne) fun v h' tk hv ho hit' hT hsz hk => ?_
    obtain ⟨c, u, hcx, rfl⟩ := hv
    refine ⟨_, rfl, wpAny_letOwnedTupleGo_enum (s := { s with heap := h', toks := tk + 1 }) ho fun h'' he' sb => ?_⟩
    have hT2 : h''.get? s.heap.objs.size = some { cls := .type "tuple", data := .seq #[.int i tk, .str ⟨#[c]⟩ u] } := (sb.2 _ (Nat.ne_of_gt hel)).trans hT
    have new : ObjOk X.prog X.w (upd H s.heap.objs.size (.tup [.int (i : Nat), .str ⟨#[c]⟩])) h'' s.heap.objs.size (.tup [.int (i : Nat), .str ⟨#[c]⟩]) :=
      ⟨by show 2 ≤ sizeLine; decide, [.int i tk, .str ⟨#[c]⟩ u], .cons ⟨_, rfl⟩ (.cons ⟨_, rfl⟩ .nil), ⟨_, hT2, rfl, _, rfl⟩⟩
    have I1 : Inv X pins σ (upd H s.heap.objs.size (.tup [.int (i : Nat), .str ⟨#[c]⟩])) { s with heap := h'', toks := tk + 1 } :=
      I.turnedNew (ch := [e, it]) (fun b ob hb q => (sb.2 b (fun z => hb (by simp [z]))).trans (hk b ob (fun z => hb (by simp [z])) (fun z => hb (by simp [z])) q)) hf (Nat.le_refl _) new
    refine ⟨.ref s.heap.objs.size, _, I1, rfl, ⟨_, c, rfl, I.hok.fresh (Nat.le_refl _), hcx, rfl⟩, ⟨⟨.str ⟨#[c]⟩ u, ?_⟩, ?_, hne⟩, fun b hb => ?_⟩
    · have e1 : ((i + 1 : Nat) : Int) = (i : Int) + 1 := by omega
      rw [e1]; exact he'
    · obtain ⟨o, q, r⟩ := hit'
      exact ⟨o, (sb.2 it (Ne.symm hne)).trans q, r⟩
    · have hb' : b < s.heap.objs.size := by
        rcases (show b = e ∨ b = it by simpa using hb) with z | z
        · rw [z]; exact hel
        · rw [z]; exact hil
      rw [upd_ne (Nat.ne_of_lt hb')]
      exact (hf b hb).1
  done := by
    intro X hP hw hK hc i pins s σ H E I hf st hg
    subst hP hw hK
    obtain ⟨⟨old, he⟩, hit, hne⟩ := st
    have D : Draws X.prog X.w X.A.in1 it [it] x.cps.size (fun i v => ∃ c u, x.cps[i]? = some c ∧ v = Value.str ⟨#[c]⟩ u) (fun i h => h.IsStrIter it ty x t i) := by
      rcases hty with z | z
      · rw [z]; exact Draws.strAscii (A := X.A.in1) (I.ok.hd hc) it x t
      · rw [z]; exact Draws.strWide (A := X.A.in1) (I.ok.hd hc) it x t
    obtain ⟨f0, f1, f2, f3, f4, f5⟩ := hf it (by simp)
    replace hg : i = x.cps.size := hg
    subst hg
    exact wpAny_pyNext_enum_endD D he hit fun h' eb => ⟨rfl, I.turned (t' := s.toks) (fun b o hb q => eb b o (by simpa using hb) q) f0 f1 f3 f4 f5⟩
  self := fun A i s Q E st h => let ⟨⟨_, he⟩, _⟩ := st; wpAny_pyIter_enum he h
end
section
variable {X : Cx}
def iEnumS (ta : TA) : TI := fun σ H R => ta σ H fun vs H1 => ∃ x, vs = [.str x] ∧ R (Ites x) H1
theorem pi_enumS {e : Expr} {ta : TA} {p pos tpos : Pos} {elts : List Expr} {kk : Nat} (hg : Gl X "enumerate") (hm : X.mg "enumerate" = none) (ha : PA X [e] ta) (hs : starEach [e] X.env = [(false, eval e X.env)] := by rfl) :
    PI X (.Tuple elts kk tpos) (.Call (.Name "enumerate" p) [e] [] pos) (iEnumS ta) := by
  refine ⟨fun pins s σ H R I h => ?_⟩
  refine Call_ (ld_blt I hg hm boot_enumerate (PyProof.Rows.callWith_type1 (thn (ha.run pos pins s σ H _ I h) fun us s1 ⟨vs, H1, I1, r1, q1⟩ => ?_) hs rfl))
  obtain ⟨x, ex, q⟩ := q1
  subst ex
  cases r1 with
  | cons r rr =>
    cases rr
    obtain ⟨t, rfl⟩ := r
    have hty : strIterType x = "str_ascii_iterator" ∨ strIterType x = "str_iterator" := by
      unfold strIterType
      split
      · exact .inl rfl
      · exact .inr rfl
    refine call_enumerate_str fun h' he hit hsz hk => wpAny_pyIter_enum he ?_
    have I2 : Inv X pins σ H1 { s1 with heap := h' } := I1.kept (t' := s1.toks) hk
    refine ⟨s1.heap.objs.size + 1, [s1.heap.objs.size + 1, s1.heap.objs.size], _, _, H1, rfl, I2, turn_enumS x t _ hty (s1.heap.objs.size + 1) s1.heap.objs.size, ⟨⟨.none, he⟩, hit, Nat.succ_ne_self _⟩, fun b hb => ?_, q⟩
    have hle : s1.heap.objs.size ≤ b := by
      rcases (show b = s1.heap.objs.size + 1 ∨ b = s1.heap.objs.size by simpa using hb) with z | z
      · rw [z]; exact Nat.le_add_right _ _
      · rw [z]; exact Nat.le_refl _
    exact I1.fpOk hle (I1.hok.fresh hle)
end
/-! ### a generator expression over a text -/
theorem turn_txt {x : Str} {te : TE} {σ : L2.St} {Yv : Nat → V → Hp → Prop} {Qe : Hp → Prop} {N : Nat} (Pv : Nat → Hp → Prop) (hN : N = x.cps.size)
    (hs : ∀ i c H, x.cps[i]? = some c → Pv i H → te (σ ++ [some (.str ⟨#[c]⟩)]) H fun y H3 => Yv i y H3) (hd : ∀ H, Pv x.cps.size H → Qe H) : GX.GTurn (Its x) te σ N (fun i H => i ≤ x.cps.size ∧ Pv i H) Yv Qe := by
  subst hN
  rintro i H ⟨hi, p⟩
  by_cases hlt : i < x.cps.size
  · refine .inr ⟨hlt, hlt, fun v H' y => ?_⟩
    obtain ⟨e, c, hc, ev⟩ := y
    subst e ev
    exact hs i c _ hc p
  · have e : i = x.cps.size := by omega
    subst e
    exact .inl ⟨rfl, Nat.le_refl _, hd H p⟩
end GE
end

section
set_option Elab.async false
set_option linter.all false
set_option maxRecDepth 100000
set_option maxHeartbeats 4000000
/-! layer_count, written -/
namespace LP
open PySem PySem.Spec PyProof.Rows L2 Ly GY
variable [LamTab] {P : Program} {W0 : World} {K : PySem.W.Frag} {mg : Str → Option Value} {base : Heap}
/-! ### how many layers -/
def mx : List Int → Int
  | [] => 0
  | x :: l => if mx l ≤ x then x else mx l
theorem mx_ge : ∀ {l : List Int} {j : Int}, j ∈ l → j ≤ mx l
  | x :: l, j, h => by
    unfold mx
    rcases List.mem_cons.mp h with e | h
    · subst e
      split <;> omega
    · have := mx_ge h
      split <;> omega
theorem mx_in : ∀ {l : List Int}, (∀ x ∈ l, 0 < x) → l ≠ [] → mx l ∈ l
  | [], _, n => absurd rfl n
  | [x], h, _ => by
    have := h x (List.mem_singleton.mpr rfl)
    unfold mx mx
    rw [if_pos (by omega)]
    exact List.mem_singleton.mpr rfl
  | x :: y :: l, h, _ => by
    have q := mx_in (l := y :: l) (fun z hz => h z (List.mem_cons_of_mem _ hz)) (by simp)
    show (if mx (y :: l) ≤ x then x else mx (y :: l)) ∈ _
    split
    · exact List.mem_cons_self
    · exact List.mem_cons_of_mem _ q
def zs1 (cs : List C3) : List Int := cs.map fun c => c.2.2 + 1
def lay (cs : List C3) : Nat := (mx (zs1 cs)).toNat
theorem zs1_pos {cs : List C3} (h : ∀ c ∈ cs, InR c) : ∀ x ∈ zs1 cs, 0 < x := fun x hx => by
  obtain ⟨c, hc, rfl⟩ := List.mem_map.mp hx
  have := (h c hc).2.2
  show 0 < c.2.2 + 1
  omega
theorem lay_in {cs : List C3} (h : ∀ c ∈ cs, InR c) (n : cs ≠ []) : ∃ c ∈ cs, c.2.2 + 1 = (lay cs : Int) := by
  have q := mx_in (zs1_pos h) (by unfold zs1; simpa using n)
  obtain ⟨c, hc, e⟩ := List.mem_map.mp q
  have := (h c hc).2.2
  have e : c.2.2 + 1 = mx (zs1 cs) := e
  exact ⟨c, hc, by unfold lay; omega⟩
theorem lay_ge {cs : List C3} {c : C3} (h : ∀ c ∈ cs, InR c) (hc : c ∈ cs) : c.2.2 + 1 ≤ (lay cs : Int) := by
  have := mx_ge (l := zs1 cs) (List.mem_map.mpr ⟨c, hc, rfl⟩)
  have h0 := (h c hc).2.2
  unfold lay
  omega
theorem lay_le {cs : List C3} (h : ∀ c ∈ cs, InR c) : lay cs ≤ 4 := by
  by_cases n : cs = []
  · subst n
    exact Nat.zero_le 4
  · obtain ⟨c, hc, e⟩ := lay_in h n
    have := (h c hc).2.2
    omega
theorem lay_nil : lay [] = 0 := rfl
theorem lay_of {cs : List C3} {m : Int} (h : ∀ c ∈ cs, InR c) (q : HighP (zs1 cs) 0 m) : m = (lay cs : Int) := by
  by_cases n : cs = []
  · subst n
    rcases q with ⟨_, e⟩ | ⟨e, _⟩
    · exact e
    · cases e
  · obtain ⟨c, hc, e⟩ := lay_in h n
    rcases q with ⟨z, _⟩ | ⟨q1, q2⟩
    · exact absurd (List.map_eq_nil_iff.mp z) n
    · obtain ⟨d, hd, e2⟩ := List.mem_map.mp q1
      have e2 : d.2.2 + 1 = m := e2
      have := lay_ge h hd
      have := q2 _ (List.mem_map.mpr ⟨c, hc, rfl⟩)
      have : c.2.2 + 1 ≤ m := this
      omega
def spLayC (K : PySem.W.Frag) : Sp := fun vs H Q _ => ∃ (v : V) (cs : List C3), vs = [v] ∧ CellsL K H v cs ∧ cs.length ≤ 64 ∧ (∀ c ∈ cs, InR c) ∧ ∀ H', Kp [] H H' → Q (.int (lay cs : Int)) H'
end LP
end

section
set_option Elab.async false
set_option linter.all false
set_option maxRecDepth 100000
set_option maxHeartbeats 4000000
/-! layer_count, written -/
namespace LP
open PySem PySem.Spec PyProof.Rows L2 Ly GY
variable [LamTab] {P : Program} {W0 : World} {K : PySem.W.Frag} {mg : Str → Option Value} {base : Heap}
/-! ### written -/
def sep (z : Nat) : List Str := if 0 < z then ["-"] else []
def rowsZ (cs : List C3) (z : Nat) : List Str := (List.range 4).map fun y : Nat => rowT cs (y : Int) (z : Int)
def rowsTo (cs : List C3) (n : Nat) : List Str := (List.range n).flatMap fun z => sep z ++ rowsZ cs z
theorem rowsTo_succ (cs : List C3) (n : Nat) : rowsTo cs (n + 1) = rowsTo cs n ++ (sep n ++ rowsZ cs n) := by
  unfold rowsTo
  rw [List.range_succ, List.flatMap_append, List.flatMap_cons, List.flatMap_nil, List.append_nil]
theorem rowsTo_len (cs : List C3) : ∀ n, (rowsTo cs n).length ≤ 5 * n
  | 0 => Nat.le_refl _
  | n + 1 => by
    have := rowsTo_len cs n
    rw [rowsTo_succ, List.length_append, List.length_append]
    have h1 : (rowsZ cs n).length = 4 := by unfold rowsZ; rw [List.length_map, List.length_range]
    have h2 : (sep n).length ≤ 1 := by unfold sep; split <;> simp
    omega
def textOf (cs : List C3) : Str := Txt.join "\n" (rowsTo cs (lay cs))
def spWritten (K : PySem.W.Frag) (Pt Pr Ph Pw Ps : Addr) : Sp := fun vs H Q E => ∃ (v : V) (b : Bd), vs = [v] ∧ Body K H v b ∧ Good b ∧ nb b ≤ 20 ∧ Tb H Pt Pr Ph ∧ TGen H Pw ∧ TGen H Ps ∧ ∀ H', Kp [] H H' → Q (.str (textOf (all b))) H'
theorem rowT_len (cs : List C3) (y z : Int) : (rowT cs y z).length = 4 := by rw [rowT_eq]; exact row_len _
theorem rowsTo_row {cs : List C3} : ∀ {n : Nat} {r : Str}, r ∈ rowsTo cs n → r = "-" ∨ ∃ (z : Nat) (y : Nat), z < n ∧ y < 4 ∧ r = rowT cs (y : Int) (z : Int) := fun {n r} h => by
  obtain ⟨z, hz, h⟩ := List.mem_flatMap.mp h
  rcases List.mem_append.mp h with h | h
  · unfold sep at h
    split at h
    · exact .inl (List.mem_singleton.mp h)
    · cases h
  · obtain ⟨y, hy, e⟩ := List.mem_map.mp h
    exact .inr ⟨z, y, List.mem_range.mp hz, List.mem_range.mp hy, e.symm⟩
theorem sum_le {l : List Str} (h : ∀ r ∈ l, r.length ≤ 4) : (l.map (·.length)).sum ≤ 4 * l.length := by
  induction l with
  | nil => exact Nat.le_refl _
  | cons a l ih =>
    have h1 := h a List.mem_cons_self
    have h2 := ih fun r hr => h r (List.mem_cons_of_mem _ hr)
    rw [List.map_cons, List.sum_cons, List.length_cons]
    omega
theorem rows_fit {cs : List C3} {n : Nat} (hn : n ≤ 4) : ((rowsTo cs n).map (·.length)).sum + (rowsTo cs n).length * ("\n" : Str).length ≤ 16777216 := by
  have h1 := rowsTo_len cs n
  have h2 := sum_le (l := rowsTo cs n) fun r hr => by
    rcases rowsTo_row hr with e | ⟨z, y, _, _, e⟩
    · rw [e]; decide +kernel
    · rw [e, rowT_len]; exact Nat.le_refl _
  have h3 : ("\n" : Str).length = 1 := by decide +kernel
  rw [h3]
  omega
end LP
end

section
set_option Elab.async false
set_option linter.all false
set_option maxRecDepth 100000
set_option maxHeartbeats 2000000
/-! Generator expressions whose element is any expression of the layer: all(..), tuple(..), sep.join(..) of them. -/
namespace GS
open PySem PySem.Spec PyProof.Rows L2 GenW

/-- the names of a generator expression: its own x (and the walked thing), or captured ones of the def -/
structure GOk (N Ms : List Str) (sc scope : Scope) (x : Str) : Prop where
  kind : scope.kind = .function
  co : scope.isCoroutine = false
  nocell : ∀ y ∈ scope.names, y.2 ≠ .cell
  dot : scope.names.lookup (".0" : Str) = some NameKind.local
  loc : scope.names.lookup x = some .local
  uniq : ∀ y ∈ scope.names, scope.names.lookup y.1 = some y.2
  free : ∀ y ∈ scope.names, y.2 = .free → sc.names.lookup y.1 = some .cell ∨ sc.names.lookup y.1 = some .free
  own : ∀ y ∈ scope.names, y.2 = .local → y.1 ∉ Ms
  xd : x ≠ ".0"
  len : Ms.length = N.length
  nd : (Ms ++ [x]).Nodup
  sub : ((Ms.zip N).all fun p => decide (p.1 = p.2) || (scope.names.lookup p.1).isNone) = true
theorem sub_at {scope : Scope} : ∀ {M N : List Str} {i : Nat} {y : Str} {k : NameKind}, M.length = N.length → ((M.zip N).all fun p => decide (p.1 = p.2) || (scope.names.lookup p.1).isNone) = true → M[i]? = some y → scope.names.lookup y = some k → N[i]? = some y
  | [], _, _, _, _, _, _, h, _ => by simp at h
  | _ :: _, [], _, _, _, l, _, _, _ => by simp at l
  | a :: M, b :: N, 0, y, k, _, h, e, q => by
    rw [List.zip_cons_cons, List.all_cons, Bool.and_eq_true] at h
    have e : a = y := by simpa using e
    subst e
    have h1 := h.1
    rw [q] at h1
    have h1 : a = b := by simpa using h1
    simp [h1]
  | a :: M, b :: N, i + 1, y, k, l, h, e, q => by
    rw [List.zip_cons_cons, List.all_cons, Bool.and_eq_true] at h
    have := sub_at (M := M) (N := N) (i := i) (by simpa using l) h.2 (by simpa using e) q
    simpa using this

/-- the context of a generator expression's frame -/
def gcx (X : Cx) (Ms : List Str) (scope : Scope) (x : Str) (A : Around) (s : Shared) (H : Hp) (C : Addr) (code : Value) (fp : List Addr) : Cx where
  prog := X.prog
  w := X.w
  K := X.K
  mg := X.mg
  base := X.base
  A := A.deeper (genEnv scope (cloFrom X.env.cells scope.names []) C code builtinsNs X.env)
  N := Ms ++ [x]
  s_0 := s
  H_0 := H
  env := genEnv scope (cloFrom X.env.cells scope.names []) C code builtinsNs X.env
  outer := X.stack
  stack := genEnv scope (cloFrom X.env.cells scope.names []) C code builtinsNs X.env :: X.stack
  ex := fp
  fn := fun _ => false
  calm := true
  pn := []
  xe := fun _ _ => False

theorem over_loop_gen {A : Around} {elt : Expr} {gs : List Comprehension} {scope : Scope} {pos : Pos} {it acc : Value} {env : Env} : A.over (.compLoop (.GeneratorExp elt gs scope pos) 0 it acc env) [] = A.deeper env := by
  first
    | rfl
    | (obtain ⟨hd, d, fr, gs, u⟩ := A; simp [Around.over, Around.deeper, marksOver, frameCount, unitsOf, envsOf, guardsOf, pushEnvs, pushGuards, Code.envs, Code.env?, Code.isFrame, Code.guards, Code.isGuard, Code.weight, Code.frames, Code.isCreation, Code.isCaller, Code.cUnits])
theorem over_start_gen {A : Around} {elt : Expr} {gs : List Comprehension} {scope : Scope} {pos : Pos} {it acc : Value} {env : Env} : A.over (.compStart (.GeneratorExp elt gs scope pos) 0 it acc env) [] = A.deeper env := by
  first
    | rfl
    | (obtain ⟨hd, d, fr, gs, u⟩ := A; simp [Around.over, Around.deeper, marksOver, frameCount, unitsOf, envsOf, guardsOf, pushEnvs, pushGuards, Code.envs, Code.env?, Code.isFrame, Code.guards, Code.isGuard, Code.weight, Code.frames, Code.isCreation, Code.isCaller, Code.cUnits])

section
variable {X : Cx} {Ms : List Str} {pins : List (Addr × Obj)} {σ : L2.St} {H : Hp} {s : Shared}
theorem gen_start {scope : Scope} {x : Str} {A : Around} {code : Value} {fp : List Addr} {s' : Shared} {it : Value} (I : Inv X pins σ H s) (ok : GOk X.N Ms X.env.scope scope x) (hfp : ∀ b ∈ fp, FpOk X pins H b ∧ b < s.heap.objs.size)
    (hh : A.handled = none) (hfr : A.frames = some X.stack) (hos : s'.os = s.os) (hb : AllBare s'.gens) (kp : ∀ b o, s.heap.get? b = some o → s'.heap.get? b = some o)
    (hn : s'.heap.Ns s.heap.objs.size (fun y => if y = ".0" then some it else none)) :
    Inv (gcx X Ms scope x A s H s.heap.objs.size code fp) [] (σ ++ [none]) H s' := by
  have hfree : ∀ y ∈ scope.names, y.2 = .free → ∃ c, X.env.cells.lookup y.1 = some c := fun y hy e => by
    rcases ok.free y hy e with k | k
    · exact I.ok.has _ (.inl k)
    · exact I.ok.has _ (.inr k)
  have cm : ∀ {y c}, (y, c) ∈ cloFrom X.env.cells scope.names [] → X.env.cells.lookup y = some c ∧ c < s.heap.objs.size := fun {y c} hm => by
    rcases cloFrom_mem hm with hm | ⟨h1, rfl⟩
    · cases hm
    · obtain ⟨c, hc⟩ := hfree _ h1 rfl
      rw [hc]
      obtain ⟨w, z⟩ := I.cell _ _ hc
      exact ⟨rfl, z.lt⟩
  have cl : ∀ {y c}, (cloFrom X.env.cells scope.names []).lookup y = some c → X.env.cells.lookup y = some c ∧ c < s.heap.objs.size := fun {y c} e => cm (PySem.mem_of_lookup e)
  have look : ∀ {y}, scope.names.lookup y = some .free → ∃ c, (cloFrom X.env.cells scope.names []).lookup y = some c ∧ X.env.cells.lookup y = some c := fun {y} hl => by
    have hy : (y, NameKind.free) ∈ scope.names := PySem.mem_of_lookup hl
    obtain ⟨c', e'⟩ := mem_lookup (cloFrom_has (cells := X.env.cells) (acc := []) hy)
    exact ⟨c', e', (cl e').1⟩
  have okB : (gcx X Ms scope x A s H s.heap.objs.size code fp).Ok := by
    refine ⟨I.ok.mod, ok.kind, I.ok.glob, rfl, Nat.le_refl _, fun y z c e1 e2 => I.ok.inj y z c (cl e1).1 (cl e2).1, fun y hy => ?_, fun y c z _ => ?_, fun _ => hh, Around.frames_deeper hfr, .inr ⟨rfl, rfl⟩,
      fun b hb => ⟨Nat.ne_of_lt (hfp b hb).2, fun y c e => (hfp b hb).1.2.2.2.2.1 y c (cl e).1⟩, I.bs, Nat.le_trans I.ok.bsz I.sz, fun b o e hb => ?_, fun b hb z => ?_, I.stack, I.stkFree⟩
    · have hy : scope.names.lookup y = some .cell ∨ scope.names.lookup y = some .free := hy
      rcases hy with hy | hy
      · exact absurd rfl (ok.nocell _ (PySem.mem_of_lookup hy))
      · obtain ⟨c, h1, _⟩ := look hy
        exact ⟨c, h1⟩
    · exact absurd (show (false : Bool) = true from z) Bool.false_ne_true
    · rcases (hfp b hb).1.2.2.2.1 with z | z
      · exact I.ok.noex b o e z
      · exact absurd (Nat.lt_of_lt_of_le (Heap.lt_size e) (Nat.le_trans I.ok.bsz z)) (Nat.lt_irrefl _)
    · rcases List.mem_cons.mp (I.stkSub b z) with z | z
      · exact (hfp b hb).1.2.1 z
      · exact (hfp b hb).1.2.2.1 z
  refine ⟨okB, hos, hb, Un.kept kp, ⟨_, hn, fun i y v e1 e2 e3 => ?_⟩, fun y c e => ?_, I.hok.fresh (Nat.le_refl _), fun y c e => I.freeC y c (cl e).1, fun p hp => absurd (show p ∈ ([] : List (Addr × Obj)) ++ [] from hp) (by simp), I.hok.kept kp, ?_⟩
  · have e1 : (Ms ++ [x])[i]? = some y := e1
    have hl : σ.length = Ms.length := I.len.trans ok.len.symm
    have hi : i < σ.length := by
      rcases Nat.lt_or_ge i σ.length with h | h
      · exact h
      · rw [List.getElem?_append_right h] at e2
        rcases Nat.eq_zero_or_pos (i - σ.length) with z | z
        · rw [z] at e2; cases e2
        · rw [List.getElem?_eq_none (by simp; omega)] at e2; cases e2
    rw [List.getElem?_append_left (by omega)] at e1
    rw [List.getElem?_append_left hi] at e2
    have hyN : y ∈ Ms := List.mem_of_getElem? e1
    have hf : scope.names.lookup y = some .free := by
      have e3 : Vis scope y := e3
      rcases e3 with e3 | e3 | e3
      · exact absurd hyN (ok.own _ (PySem.mem_of_lookup e3) rfl)
      · exact absurd rfl (ok.nocell _ (PySem.mem_of_lookup e3))
      · exact e3
    obtain ⟨m, hn', hl'⟩ := I.loc
    have hsc := ok.free _ (PySem.mem_of_lookup hf) rfl
    have hvis : Vis X.env.scope y := hsc.elim (fun k => .inr (.inl k)) (fun k => .inr (.inr k))
    obtain ⟨w, r, q⟩ := hl' i y v (sub_at ok.len ok.sub e1 hf) e2 hvis
    refine ⟨w, r, .inr ⟨.inr hf, ?_⟩⟩
    obtain ⟨c, h1, h2⟩ := look hf
    rcases q with ⟨k, _⟩ | ⟨_, c', e', z⟩
    · have k : X.env.scope.names.lookup y = some .local := k
      rcases hsc with k' | k' <;> rw [show X.env.scope.names.lookup y = _ from k'] at k <;> cases k
    · rw [h2] at e'; cases e'
      exact ⟨c, h1, z.keeps kp⟩
  · obtain ⟨w, z⟩ := I.cell y c (cl e).1
    exact ⟨w, z.keeps kp⟩
  · show (σ ++ [none]).length = (Ms ++ [x]).length
    have hl : σ.length = Ms.length := I.len.trans ok.len.symm
    simp [hl]
end

/-- while the generator sleeps: what stands at S may change, all else is kept -/
structure Slept (S : List Addr) (s s' : Shared) : Prop where
  os : s'.os = s.os
  bare : AllBare s'.gens
  keep : ∀ b o, b ∉ S → s.heap.get? b = some o → s'.heap.get? b = some o
  there : ∀ b ∈ S, ∃ o, s'.heap.get? b = some o ∧ ∀ v, o.data ≠ .cell v

/-- what the generator's run leans on: X' its context, a its object, fp its iterator's objects -/
structure GX1 (X' : Cx) (S : List Addr) (a : Addr) (fp : List Addr) : Prop where
  apart : ∀ b ∈ S, X'.s_0.heap.objs.size ≤ b ∧ b ≠ X'.env.locals ∧ (∀ x c, X'.env.cells.lookup x = some c → c ≠ b) ∧ b ≠ a ∧ b ∉ fp ∧ b ∉ X'.fs
  pn : X'.pn = []
section
variable {X' : Cx} {S : List Addr} {a : Addr} {go : Obj} {fp : List Addr} {σ : L2.St} {H : Hp} {s s' s₀ : Shared}
theorem woken (g : GX1 X' S a fp) (I : Inv X' ((a, go) :: pinsAt S s₀.heap) σ H s) (hS0 : ∀ b ∈ S, ∃ o, s₀.heap.get? b = some o) (z : Slept S s s') :
    Inv X' ((a, go) :: pinsAt S s'.heap) σ H s' := by
  have hSH : ∀ b ∈ S, H b = none := fun b hb => by
    obtain ⟨o, e⟩ := hS0 b hb
    exact (I.pin (b, o) (List.mem_append_right _ (List.mem_cons_of_mem _ (mem_pinsAt hb e)))).2.1
  have ha := I.pin (a, go) (List.mem_append_right _ List.mem_cons_self)
  have I0 : Inv X' [(a, go)] σ H s := I.pins_of fun p hp => by
    rw [List.mem_singleton.mp hp]
    exact ha
  have nt : ∀ b u, H b = some u → b ∉ S := fun b u q hb => by rw [hSH b hb] at q; cases q
  have nc : ∀ x c, X'.env.cells.lookup x = some c → c ∉ S := fun x c e hc => (g.apart c hc).2.2.1 x c e rfl
  have J : Inv X' [(a, go)] σ H s' := by
    obtain ⟨hh, gg, d, t, o⟩ := s'
    have ho : o = s.os := z.os
    subst ho
    refine I0.step (g' := gg) (t' := t) (d' := d) (ch := S) (fun b hb => ⟨.inr (g.apart b hb).1, (g.apart b hb).2.1, (g.apart b hb).2.2.1, fun p hp => ?_⟩)
      (fun b ob _ _ hc q _ => z.keep b ob hc q) (fun b ob _ _ hc q _ => ⟨ob.slots, z.keep b ob hc q⟩) (fun _ _ _ _ n => n) (fun b ob hc q => ⟨ob, z.keep b ob hc q⟩)
      (fun _ _ q => q) (fun _ _ _ q => q) (fun b ps q => ⟨#[], by rw [q]; simp⟩) (fun m hm => ?_) (fun b u q => ?_) z.bare
    · rw [g.pn] at hp
      rw [List.mem_singleton.mp hp]
      exact Ne.symm (g.apart b hb).2.2.2.1
    · obtain ⟨ob, es, ep, ho, r⟩ := hm
      exact ⟨ob, es, ep, z.keep _ ob (fun hb => (g.apart _ hb).2.1 rfl) ho, r⟩
    · refine (I0.hok b u q).stay (fun c v hc y => z.keep c v ?_ y) (fun _ y => y) fun _ _ y => y
      rcases hc with y | y
      · rw [y]; exact nt b u q
      · exact nt c _ y
  refine J.pins_of fun p hp => ?_
  rcases List.mem_cons.mp hp with hp | hp
  · rw [hp]
    exact J.pin (a, go) (List.mem_append_right _ List.mem_cons_self)
  · obtain ⟨hb, e⟩ := of_pinsAt hp
    obtain ⟨o, e', d⟩ := z.there _ hb
    rw [e] at e'; cases e'
    exact ⟨e, hSH _ hb, (g.apart _ hb).2.1, (g.apart _ hb).2.2.2.2.2, d⟩
end
end GS
end

section
set_option Elab.async false
set_option linter.all false
set_option maxRecDepth 100000
set_option maxHeartbeats 2000000
namespace GS
open PySem PySem.Spec PyProof.Rows L2 GenW

/-- an item is handed out: its number i, its value y; N items in all; W: what holds ahead of the turn i; Yv: what holds of the item -/
def YG (X' : Cx) (S : List Addr) (a : Addr) (go : Obj) (fp : List Addr) (tn : Nat → Heap → Prop) (σ : L2.St) (N : Nat) (W : Nat → Hp → Prop) (Yv : Nat → V → Hp → Prop) : Protocol := fun n s₀ v s kap =>
  ∃ i y o H, i + (n + 1) = N ∧ RelV y v ∧ Inv X' ((a, go) :: pinsAt S s₀.heap) (σ ++ [o]) H s ∧ Yv i y H ∧ (∀ s'', Slept S s s'' → W (i + 1) H → kap (.send .none) s'')
def RG (X' : Cx) (S : List Addr) (a : Addr) (go : Obj) (σ : L2.St) (N : Nat) (W : Nat → Hp → Prop) (Qe : Hp → Prop) : GenEnd := fun n s₀ r s =>
  r = .ok .next ∧ (n = 0 ∧ ∃ o H, Inv X' ((a, go) :: pinsAt S s₀.heap) (σ ++ [o]) H s ∧ Qe H)
/-- the reading: by the turn -/
def GTurn (J : It) (te : TE) (σ : L2.St) (N : Nat) (W : Nat → Hp → Prop) (Yv : Nat → V → Hp → Prop) (Qe : Hp → Prop) : Prop :=
  ∀ i H, W i H → (i = N ∧ J.stop i H ∧ Qe H) ∨ (i < N ∧ J.go i H ∧ ∀ x H', J.yld i H x H' → te (σ ++ [some x]) H' fun y H3 => Yv i y H3)

section
variable {X' : Cx} {S : List Addr} {a it : Addr} {go : Obj} {fp : List Addr} {tn : Nat → Heap → Prop} {σ : L2.St} {N : Nat} {W : Nat → Hp → Prop} {Yv : Nat → V → Hp → Prop} {Qe : Hp → Prop} {J : It} {te : TE}
  {elt iter : Expr} {x : Str} {px gpos : Pos} {scope : Scope} {A : Around}
theorem loop_gen (g : GX1 X' S a fp) (hA : X'.A = A.deeper X'.env) (hcalm : X'.calm = true) (hN : X'.N.Nodup) (hlen : X'.N.length = σ.length + 1) (hx : X'.N[σ.length]? = some x) (hloc : X'.env.scope.names.lookup x = some .local) (hco : X'.env.scope.isCoroutine = false)
    (T : Turn X'.prog X'.w X'.K (.Name x px) J fp it tn) (hel : PE X' elt te) (hxe : X'.xe = fun _ _ => False) (hex : X'.ex = fp) (hafp : a ∉ fp)
    (R : GTurn J te σ N W Yv Qe) :
    ∀ (n i : Nat) (s₀ s : Shared) (o : Option V) (H : Hp), i + n = N → Inv X' ((a, go) :: pinsAt S s₀.heap) (σ ++ [o]) H s → tn i s.heap → (∀ b ∈ fp, H b = none) → (∀ b ∈ S, ∃ o, s₀.heap.get? b = some o) → W i H →
      Seg (model X'.prog X'.w) A (RG X' S a go σ N W Qe) (YG X' S a go fp tn σ N W Yv) n s₀ (.compLoop (.GeneratorExp elt [⟨.Name x px, iter, [], 0⟩] scope gpos) 0 (.ref it) .none X'.env)
        ((model X'.prog X'.w).den (.compLoop (.GeneratorExp elt [⟨.Name x px, iter, [], 0⟩] scope gpos) 0 (.ref it) .none X'.env)) [] s := by
  have stat : ∀ {pl : List (Addr × Obj)} {σ' : L2.St} {H' : Hp} {s' : Shared}, Inv X' pl σ' H' s' → (∀ p ∈ pl, p.1 ∉ fp) → (∀ b ∈ fp, H' b = none) → ∀ b ∈ fp, FpOk X' pl H' b := fun {pl σ' H' s'} I' hpl hn b hb =>
    ⟨hn b hb, (I'.ok.exf b (by rw [hex]; exact hb)).1, I'.ok.exfs b (by rw [hex]; exact hb), .inl (by rw [hex]; exact hb), fun y c e => (I'.ok.exf b (by rw [hex]; exact hb)).2 y c e, fun p hp z => by
      rw [g.pn] at hp
      exact hpl p hp (by rw [z]; exact hb)⟩
  have plo : ∀ {h : Heap}, ∀ p ∈ (a, go) :: pinsAt S h, p.1 ∉ fp := fun {h} p hp => by
    rcases List.mem_cons.mp hp with hp | hp
    · rw [hp]; exact hafp
    · exact (g.apart _ (of_pinsAt hp).1).2.2.2.2.1
  have xeF : ∀ {α : Type} {m : Sem α} {Q Q' : α → Shared → Prop} {E : Value → Shared → Prop} {s : Shared}, wpAny (model X'.prog X'.w) X'.A m Q X'.xe s → (∀ b s, Q b s → Q' b s) → wpAny (model X'.prog X'.w) X'.A m Q' E s := fun h hQ => by
    rw [hxe] at h
    exact thnF h hQ
  intro n
  induction n with
  | zero =>
    intro i s₀ s o H hi I st nfp hS w
    show Seg _ A _ _ _ s₀ _ ((compTurn (.GeneratorExp elt [⟨.Name x px, iter, [], 0⟩] scope gpos) 0 (.ref it) .none X'.env).onRaise (leaving X'.env)) [] s
    rw [compTurn_gen, Sem.onRaise_eq_wrap]
    refine seg_bind_wrap (wpAny_standAt ?_)
    rcases R i H w with ⟨ei, stop, hq⟩ | ⟨lt, _⟩
    · refine seg_bind_wrap ?_
      rw [over_loop_gen, ← hA]
      refine thnF (T.done X' rfl rfl rfl hcalm i _ s _ H (fun _ _ => False) I (stat I plo nfp) st stop) fun r s1 ⟨hr, I1⟩ => ?_
      subst hr
      exact seg_end (.ok .next) ⟨rfl, rfl, o, H, I1, hq⟩
    · omega
  | succ n ih =>
    intro i s₀ s o H hi I st nfp hS w
    show Seg _ A _ _ _ s₀ _ ((compTurn (.GeneratorExp elt [⟨.Name x px, iter, [], 0⟩] scope gpos) 0 (.ref it) .none X'.env).onRaise (leaving X'.env)) [] s
    rw [compTurn_gen, Sem.onRaise_eq_wrap]
    refine seg_bind_wrap (wpAny_standAt ?_)
    rcases R i H w with ⟨ei, stop, hq⟩ | ⟨lt, hgo, step⟩
    · omega
    · refine seg_bind_wrap ?_
      rw [over_loop_gen, ← hA]
      refine thnF (T.item X' rfl rfl rfl hcalm i _ s _ H (fun _ _ => False) I (stat I plo nfp) st hgo) fun r s1 ⟨u, hr, h1⟩ => ?_
      subst hr
      refine seg_bind_wrap ?_
      rw [over_loop_gen, ← hA]
      refine thnF h1 fun _ s2 ⟨v, H2, I2, r2, y2, st2, nfp2⟩ => ?_
      have I2' : Inv X' (((a, go) :: pinsAt S s₀.heap) ++ pinsAt fp s2.heap) (σ ++ [o]) H2 s2 := I2.pinned (stat I2 plo nfp2) (T.obj _ _ st2)
      refine seg_bind_wrap ?_
      rw [over_loop_gen, ← hA]
      have pg : PG X' (.Name x px) (gName σ.length) := pg_name hN hx (.inl hloc) (.inr hloc)
      have eset : (σ ++ [o]).set σ.length (some v) = σ ++ [some v] := by
        rw [List.set_append_right _ _ (Nat.le_refl _)]
        simp
      refine xeF (pg.run _ s2 _ H2 v u (fun σ' H' => σ' = σ ++ [some v] ∧ H' = H2) I2' r2 ⟨eset, rfl⟩) fun _ s3 ⟨σ3, H3, I3, e3, e3'⟩ => ?_
      subst e3
      subst e3'
      refine seg_bind_wrap ?_
      simp only [List.forIn_nil]
      refine wpAny_pure ?_
      simp only [if_true]
      have hy : ∀ v, yieldOut X'.env v = yieldValue v := fun v => by simp only [yieldOut, hco, Bool.false_eq_true, if_false]
      simp only [hy]
      rw [Sem.bind_eq_wrap', Sem.bind_eq_wrap', Sem.wrap_wrap, Sem.wrap_wrap]
      refine seg_wrap ?_
      rw [over_loop_gen, ← hA]
      refine xeF (hel.run _ s3 _ H3 _ I3 (step v H3 y2)) fun yv s4 ⟨y, H4, I4, r4, q4⟩ => ?_
      have pin4 : ∀ b ∈ fp, ∀ o, s2.heap.get? b = some o → s4.heap.get? b = some o ∧ H4 b = none := fun b hb o e =>
        let z := I4.pin (b, o) (List.mem_append_right _ (List.mem_append_right _ (mem_pinsAt hb e)))
        ⟨z.1, z.2.1⟩
      have I5 : Inv X' ((a, go) :: pinsAt S s₀.heap) (σ ++ [some v]) H4 s4 := I4.unpinned
      have st5 : tn (i + 1) s4.heap := T.keep _ _ _ st2 fun b hb o e => (pin4 b hb o e).1
      have nfp5 : ∀ b ∈ fp, H4 b = none := fun b hb => by
        obtain ⟨o, e, _⟩ := T.obj _ _ st2 b hb
        exact (pin4 b hb o e).2
      refine seg_at (seg_yield rfl rfl rfl ⟨i, y, some v, H4, hi, r4, I5, q4, fun s'' z w' => ?_⟩)
      have I6 := woken g I5 hS z
      refine seg_again rfl (ih (i + 1) s'' s'' (some v) H4 (by omega) I6 ?_ nfp5 (fun b hb => ?_) w')
      · refine T.keep _ _ _ st5 fun b hb o e => z.keep b o (fun hb' => (g.apart b hb').2.2.2.2.1 hb) e
      · obtain ⟨o, e, _⟩ := z.there b hb
        exact ⟨o, e⟩
theorem begin_gen (g : GX1 X' S a fp) (hA : X'.A = A.deeper X'.env) (hcalm : X'.calm = true) (hN : X'.N.Nodup) (hlen : X'.N.length = σ.length + 1) (hx : X'.N[σ.length]? = some x) (hloc : X'.env.scope.names.lookup x = some .local) (hco : X'.env.scope.isCoroutine = false)
    (T : Turn X'.prog X'.w X'.K (.Name x px) J fp it tn) (hel : PE X' elt te) (hxe : X'.xe = fun _ _ => False) (hex : X'.ex = fp) (hafp : a ∉ fp)
    (R : GTurn J te σ N W Yv Qe) (s₀ s : Shared) (o : Option V) (H : Hp) (I : Inv X' ((a, go) :: pinsAt S s₀.heap) (σ ++ [o]) H s) (st : tn 0 s.heap) (nfp : ∀ b ∈ fp, H b = none) (hS : ∀ b ∈ S, ∃ o, s₀.heap.get? b = some o) (w : W 0 H) :
    Seg (model X'.prog X'.w) A (RG X' S a go σ N W Qe) (YG X' S a go fp tn σ N W Yv) N s₀ (.compStart (.GeneratorExp elt [⟨.Name x px, iter, [], 0⟩] scope gpos) 0 (.ref it) .none X'.env)
      ((model X'.prog X'.w).den (.compStart (.GeneratorExp elt [⟨.Name x px, iter, [], 0⟩] scope gpos) 0 (.ref it) .none X'.env)) [] s := by
  have loop := loop_gen (A := A) (iter := iter) (scope := scope) (gpos := gpos) (go := go) g hA hcalm hN hlen hx hloc hco T hel hxe hex hafp R N 0 s₀ s o H (Nat.zero_add _) I st nfp hS w
  show Seg _ A _ _ _ s₀ _ ((compStart (.GeneratorExp elt [⟨.Name x px, iter, [], 0⟩] scope gpos) 0 (.ref it) .none X'.env).onRaise (leaving X'.env)) [] s
  unfold compStart
  rw [Sem.onRaise_eq_wrap]
  show Seg _ A _ _ _ s₀ _ ((ask >>= _).wrap _ _ _ _) [] s
  refine seg_bind_wrap (wpAny_askSetting ?_)
  split
  · exact seg_again rfl loop
  · first
      | exact seg_bind_wrap (wpAny_rule (seg_bind_wrap (wpAny_standAt (seg_bind_wrap (T.self _ 0 s _ _ st (seg_again rfl loop))))))
      | (refine seg_bind_wrap (wpAny_rule ?_); show Seg _ A _ _ _ s₀ _ ((standAt iter.pos >>= _).wrap _ _ _ _) [] s; exact seg_bind_wrap (wpAny_standAt (seg_bind_wrap (T.self _ 0 s _ _ st (seg_again rfl loop)))))
end
end GS
end

section
set_option Elab.async false
set_option linter.all false
set_option maxRecDepth 100000
set_option maxHeartbeats 2000000
namespace GS
open PySem PySem.Spec PyProof.Rows L2 GenW

/-- a generator that has been made and not begun: its object a (obj go), its number g; s4: the state behind the making of its code, s5: now -/
structure Made (X : Cx) (pins : List (Addr × Obj)) (σ : L2.St) (scope : Scope) (x : Str) (elt iter : Expr) (px gpos : Pos) (H : Hp) (J : It) (s4 s5 : Shared) (a it : Addr) (g : Nat) (go : Obj) (code : Value) (fp : List Addr) (tn : Nat → Heap → Prop) : Prop where
  inv : Inv X pins σ H s4
  gen : s5.heap.IsGen a g
  lim : s5.heap.NoLimit
  sz : s4.heap.objs.size < a
  sz5 : s5.heap.objs.size = a + 1
  fresh : s5.gens[g]? = some (.fresh (.compStart (.GeneratorExp elt [⟨.Name x px, iter, [], 0⟩] scope gpos) 0 (.ref it) .none (genEnv scope (cloFrom X.env.cells scope.names []) s4.heap.objs.size code builtinsNs X.env)))
  bare : AllBare s5.gens
  os : s5.os = s4.os
  keep : ∀ b o, s4.heap.get? b = some o → s5.heap.get? b = some o
  ns : s5.heap.Ns s4.heap.objs.size (fun y => if y = ".0" then some (.ref it) else none)
  fpo : ∀ b ∈ fp, FpOk X pins H b ∧ b < s4.heap.objs.size
  turn : Turn X.prog X.w X.K (.Name x px) J fp it tn
  st : tn 0 s4.heap
  obj : s5.heap.get? a = some go
  objd : ∀ v, go.data ≠ .cell v

section
variable {X : Cx} {Ms : List Str} {pins : List (Addr × Obj)} {σ : L2.St} {H : Hp} {s : Shared}
theorem make_gen {c P : Addr} {elt iter : Expr} {x : Str} {px gpos : Pos} {scope : Scope} {wi : TI} {Q' : Value → Shared → Prop} {R : It → Hp → Prop}
    (hh : X.A.handled = none) (hd : X.A.depth < recursionLimit) (TB : GxR.TabB X.base X.mg c P) (hcode : X.env.code = .ref c) (ok : GOk X.N Ms X.env.scope scope x) (hi : PI X (.Name x px) iter wi)
    (hs : ∀ v, genFold iter X.env v = pure v) (I : Inv X pins σ H s) (h : wi σ H fun J H1 => GxR.TabG H1 P ∧ R J H1)
    (hQ : ∀ J H1 H2 s4 s5 a it g go code fp tn, R J H1 → GxR.Tabbed P H1 H2 → Made X pins σ scope x elt iter px gpos H2 J s4 s5 a it g go code fp tn → Q' (.ref a) s5) :
    wpAny (model X.prog X.w) X.A (eval (.GeneratorExp elt [⟨.Name x px, iter, [], 0⟩] scope gpos) X.env) Q' X.xe s := by
  have hfree : ∀ y ∈ scope.names, y.2 = .free → ∃ c, X.env.cells.lookup y.1 = some c := fun y hy e => by
    rcases ok.free y hy e with k | k
    · exact I.ok.has _ (.inl k)
    · exact I.ok.has _ (.inr k)
  refine wpAny_GeneratorExp_make ok.co (closure_ok hfree) ok.nocell ok.dot ok.kind hd ?_ hs
  refine thn (hi.run pins s σ H _ I h) fun xv s1 hx => thn hx fun itv s2 h2 => ?_
  obtain ⟨it, fp, tn, J, H1, e, I1, T, st2, f2, ⟨ps, hP, ht⟩, q1⟩ := h2
  subst e
  have hPs : s2.heap.get? P = some { cls := .none, data := .fields ps } := I1.hok P _ hP
  have cd : PySem.W.CodeHd s2.heap c P := TB.code.keeps fun b u e => I1.bk b u e
  have sz : ∀ b ∈ fp, b < s2.heap.objs.size := fun b hb => by
    obtain ⟨o, e, _⟩ := T.obj _ _ st2 b hb
    exact Heap.lt_size e
  refine ⟨I1.nolimit, ?_⟩
  have cont : ∀ (code : Value) (h3 : Heap) (tk : Nat) (ps' : Array Value), Heap.ExtBut P s2.heap h3 → h3.get? P = some { cls := .none, data := .fields ps' } → (∃ more, ps' = ps ++ more) → TriplesOk ps'.toList →
      wpAny (model X.prog X.w) X.A (builtinsFor X.env.globals X.env.builtins) (fun bi s₄ =>
        ∀ h', h'.Ns s₄.heap.objs.size (fun y => if y = ".0" then some (.ref it) else none) → Heap.SameBut s₄.heap.objs.size (s₄.heap.push { cls := .type "frame", data := .dict #[] }) h' →
          Q' (.ref h'.objs.size) { s₄ with
            gens := s₄.gens.push (.fresh (.compStart (.GeneratorExp elt [⟨.Name x px, iter, [], 0⟩] scope gpos) 0 (.ref it) .none (genEnv scope (cloFrom X.env.cells scope.names []) s₄.heap.objs.size code bi X.env))),
            toks := s₄.toks + 1 + 1 + 1,
            heap := h'.push { cls := .type "generator", data := .fields #[.int s₄.gens.size 0, .str "<genexpr>" (s₄.toks + 1), .str (X.env.qual ++ "<genexpr>") (s₄.toks + 1 + 1)] } }) X.xe { s2 with heap := h3, toks := tk } := by
    intro code h3 tk ps' hx hP3 hmore ht3
    obtain ⟨more, em⟩ := hmore
    obtain ⟨bm, ob, e1, e2, e3, e4, e5, e6, e7, e8⟩ := TB.bm
    have keep3 : ∀ b u, b ≠ P → s2.heap.get? b = some u → h3.get? b = some u := fun b u hb e => hx b u hb e
    have I3 := GxR.inv_tab (more := more) (h' := h3) (g' := s2.gens) (d' := s2.drawn) (t' := tk) I1 hP keep3 (by rw [← em]; exact hP3) I1.bare
    have I3' : Inv X pins σ (upd H1 P (.tbl (ps ++ more))) { s2 with heap := h3, toks := tk } := I3
    refine wpAny_builtinsFor (m := X.mg) (by rw [I1.ok.glob]; exact (I1.mod.glob.keeps I1.bk).extBut hx TB.gP) e1 e2 (keep3 _ _ e4 (I1.bk _ _ e5)) e6 e7 e8 ?_
    intro h' hn' hs'
    generalize hs4 : ({ s2 with heap := h3, toks := tk } : Shared) = s4 at I3' hn' hs' ⊢
    have h4 : s4.heap = h3 := by rw [← hs4]
    have hsz : h'.objs.size = s4.heap.objs.size + 1 := by rw [hs'.1, Heap.size_push]
    have keep' : ∀ b o, s4.heap.get? b = some o → h'.get? b = some o := fun b o e => hs'.extBut b o (Nat.ne_of_lt (Heap.lt_size e)) (Heap.get?_push_of_some _ e)
    have stay : ∀ b ∈ fp, ∀ o, s2.heap.get? b = some o → s4.heap.get? b = some o := fun b hb o e => by
      rw [h4]
      refine keep3 b o (fun z => ?_) e
      have := (f2 b hb).1
      rw [z, hP] at this
      cases this
    refine hQ J H1 (upd H1 P (.tbl (ps ++ more))) s4 _ h'.objs.size it s4.gens.size _ code fp tn q1 ⟨⟨ps ++ more, upd_same, by rw [← em]; exact ht3⟩, fun b hb => upd_ne hb⟩
      ⟨I3', ⟨_, _, _, Heap.get?_push_size _ rfl, rfl, rfl, rfl⟩, I3'.nolimit.keeps fun b o e => Heap.get?_push_of_some _ (keep' b o e), by omega, by rw [Heap.size_push], Array.getElem?_push_size .., AllBare.push (by rw [← hs4]; exact I1.bare) rfl, rfl,
        fun b o e => Heap.get?_push_of_some _ (keep' b o e), hn'.push _, fun b hb => ⟨⟨?_, (f2 b hb).2⟩, ?_⟩, T, T.keep _ _ _ st2 stay, Heap.get?_push_size _ rfl, fun v q => by cases q⟩
    · rw [upd_ne (fun z => by have := (f2 b hb).1; rw [z, hP] at this; cases this)]
      exact (f2 b hb).1
    · obtain ⟨o, e, _⟩ := T.obj _ _ st2 b hb
      exact Heap.lt_size (stay b hb o e)
  cases hf : codeAmong gpos ps.toList with
  | none =>
    refine wpAny_genexprCodeX hcode (cd.code hPs ht) (cd.tab hPs) hf fun c' h' tk hx hge hlt hco' _ htab' _ => ?_
    obtain ⟨o1, vs, f1, tf, fl, tg, inF, tx, tt, op, _, _, _, _, _, _, _, _, _, htr, _⟩ := hco'
    exact cont _ h' tk _ hx htab'.2 ⟨_, rfl⟩ htr
  | some cv =>
    refine wpAny_genexprCode_hit hcode (cd.code hPs ht) hf ?_
    exact cont cv s2.heap s2.toks ps (Heap.ExtBut.refl _ _) hPs ⟨#[], by simp⟩ ht

variable {scope : Scope} {x : Str} {elt iter : Expr} {px gpos : Pos} {J : It} {s4 s5 : Shared} {a it : Addr} {g : Nat} {go : Obj} {code : Value} {fp : List Addr} {tn : Nat → Heap → Prop} {te : TE} {N : Nat} {W : Nat → Hp → Prop} {Yv : Nat → V → Hp → Prop} {Qe : Hp → Prop}
theorem Made.ap (m : Made X pins σ scope x elt iter px gpos H J s4 s5 a it g go code fp tn) {A : Around} {S : List Addr} (hS : ∀ b ∈ S, a < b) :
    GX1 (gcx X Ms scope x A s4 H s4.heap.objs.size code fp) S a fp := by
  have hsz := m.sz
  refine ⟨fun b hb => ?_, rfl⟩
  have hab := hS b hb
  have hb4 : s4.heap.objs.size < b := Nat.lt_trans hsz hab
  refine ⟨Nat.le_of_lt hb4, Nat.ne_of_gt hb4, fun y c e z => ?_, Nat.ne_of_gt hab, fun hm => ?_, fun hm => ?_⟩
  · rcases cloFrom_mem (PySem.mem_of_lookup e) with hm | ⟨h1, h2⟩
    · cases hm
    · cases hc : X.env.cells.lookup y with
      | none =>
        rw [hc] at h2
        have h2 : c = 0 := h2
        rw [← z, h2] at hb4
        exact absurd hb4 (Nat.not_lt_zero _)
      | some c0 =>
        rw [hc] at h2
        have h2 : c = c0 := h2
        obtain ⟨w, zz⟩ := m.inv.cell _ _ hc
        have := zz.lt
        rw [← h2, z] at this
        exact absurd (Nat.lt_trans this hb4) (Nat.lt_irrefl _)
  · exact absurd (Nat.lt_trans (m.fpo b hm).2 hb4) (Nat.lt_irrefl _)
  · have hm : b ∈ frs X.stack := hm
    obtain ⟨_, o, ho, _⟩ := m.inv.stack.mem hm
    exact absurd (Nat.lt_trans (Heap.lt_size ho) hb4) (Nat.lt_irrefl _)
/-- the first wake -/
theorem Made.seg (m : Made X pins σ scope x elt iter px gpos H J s4 s5 a it g go code fp tn) (ok : GOk X.N Ms X.env.scope scope x) {A : Around} (hh : A.handled = none) (hfr : A.frames = some X.stack)
    (hel : PE (gcx X Ms scope x A s4 H s4.heap.objs.size code fp) elt te) {S : List Addr} (hS : ∀ b ∈ S, a < b) (R : GTurn J te σ N W Yv Qe) (w : W 0 H) (s6 : Shared) (hos : s6.os = s5.os) (hb : AllBare s6.gens)
    (kp : ∀ b o, s5.heap.get? b = some o → s6.heap.get? b = some o) (hSo : ∀ b ∈ S, ∃ o, s6.heap.get? b = some o ∧ ∀ v, o.data ≠ .cell v) :
    Seg (model X.prog X.w) A (RG (gcx X Ms scope x A s4 H s4.heap.objs.size code fp) S a go σ N W Qe) (YG (gcx X Ms scope x A s4 H s4.heap.objs.size code fp) S a go fp tn σ N W Yv) N s6
      (.compStart (.GeneratorExp elt [⟨.Name x px, iter, [], 0⟩] scope gpos) 0 (.ref it) .none (genEnv scope (cloFrom X.env.cells scope.names []) s4.heap.objs.size code builtinsNs X.env))
      ((model X.prog X.w).den (.compStart (.GeneratorExp elt [⟨.Name x px, iter, [], 0⟩] scope gpos) 0 (.ref it) .none (genEnv scope (cloFrom X.env.cells scope.names []) s4.heap.objs.size code builtinsNs X.env))) [] s6 := by
  have kp4 : ∀ b o, s4.heap.get? b = some o → s6.heap.get? b = some o := fun b o e => kp b o (m.keep b o e)
  have I0 : Inv (gcx X Ms scope x A s4 H s4.heap.objs.size code fp) [] (σ ++ [none]) H s6 := gen_start m.inv ok m.fpo hh hfr (hos.trans m.os) hb kp4 (m.ns.keeps kp)
  have hsz := m.sz
  have ap := m.ap (Ms := Ms) (A := A) hS
  have fre : ∀ b, s4.heap.objs.size ≤ b → H b = none := fun b hb => m.inv.hok.fresh hb
  have anf : a ∉ (gcx X Ms scope x A s4 H s4.heap.objs.size code fp).fs := fun hm => by
    have hm : a ∈ frs X.stack := hm
    obtain ⟨_, o, ho, _⟩ := m.inv.stack.mem hm
    exact absurd (Nat.lt_trans (Heap.lt_size ho) hsz) (Nat.lt_irrefl _)
  have I : Inv (gcx X Ms scope x A s4 H s4.heap.objs.size code fp) ((a, go) :: pinsAt S s6.heap) (σ ++ [none]) H s6 := I0.pins_of fun p hp => by
    rcases List.mem_cons.mp hp with hp | hp
    · rw [hp]
      exact ⟨kp _ _ m.obj, fre a (Nat.le_of_lt hsz), Nat.ne_of_gt hsz, anf, m.objd⟩
    · obtain ⟨hbS, e⟩ := of_pinsAt hp
      obtain ⟨o, e', d⟩ := hSo _ hbS
      rw [e] at e'; cases e'
      exact ⟨e, fre _ (ap.apart _ hbS).1, (ap.apart _ hbS).2.1, (ap.apart _ hbS).2.2.2.2.2, d⟩
  have hlen : Ms.length = σ.length := ok.len.trans m.inv.len.symm
  refine begin_gen (X' := gcx X Ms scope x A s4 H s4.heap.objs.size code fp) (go := go) (N := N) (W := W) (Yv := Yv) (Qe := Qe) ap rfl rfl ?_ ?_ ?_ ok.loc ok.co m.turn hel rfl rfl (fun hm => ?_) R s6 s6 none H I ?_ (fun b hb => (m.fpo b hb).1.1) (fun b hb => ?_) w
  · show (Ms ++ [x]).Nodup
    exact ok.nd
  · show (Ms ++ [x]).length = _
    simp [hlen]
  · show (Ms ++ [x])[σ.length]? = some x
    rw [List.getElem?_append_right (by omega)]
    simp [hlen]
  · exact absurd (Nat.lt_trans (m.fpo a hm).2 hsz) (Nat.lt_irrefl _)
  · exact m.turn.keep _ _ _ m.st fun b _ o e => kp4 b o e
  · obtain ⟨o, e, _⟩ := hSo b hb
    exact ⟨o, e⟩
/-- back in the def -/
theorem Made.back (m : Made X pins σ scope x elt iter px gpos H J s4 s5 a it g go code fp tn) {A : Around} {pl : List (Addr × Obj)} {σ' : L2.St} {H' : Hp} {s6 s7 : Shared} (I : Inv (gcx X Ms scope x A s4 H s4.heap.objs.size code fp) pl σ' H' s6)
    (hos : s7.os = s6.os) (hb : AllBare s7.gens) (kp : ∀ b o, s6.heap.get? b = some o → s7.heap.get? b = some o) : Inv X pins σ H' s7 :=
  m.inv.call' (ch := fp) (hos.trans I.os) (I.base.trans (Un.kept kp)) (I.hok.kept kp) hb fun b hb => ⟨(m.fpo b hb).1.2.2.2.1, (m.fpo b hb).1.2.1, (m.fpo b hb).1.2.2.2.2.1, (m.fpo b hb).1.2.2.2.2.2⟩
end
end GS
end

section
set_option Elab.async false
set_option linter.all false
set_option maxRecDepth 100000
set_option maxHeartbeats 2000000
namespace GS
open PySem PySem.Spec PyProof.Rows L2 GenW

section
variable {X : Cx} {Ms : List Str} {pins : List (Addr × Obj)} {σ : L2.St} {H : Hp}
  {scope : Scope} {x : Str} {elt iter : Expr} {px gpos : Pos} {J : It} {s4 s5 : Shared} {a it : Addr} {g : Nat} {go : Obj} {code : Value} {fp : List Addr} {tn : Nat → Heap → Prop} {te : TE} {N : Nat} {W : Nat → Hp → Prop}

theorem entry_any : entryFor table "any" = some Builtin.«any» := PySem.F.entry_any

/-- one turn of any(..) -/
theorem any_turn (m : Made X pins σ scope x elt iter px gpos H J s4 s5 a it g go code fp tn) {A : Around} {Q : VK} {Rr : Result → Shared → Prop} (hh : A.handled = none) (hd : A.depth < recursionLimit)
    (hR : ∀ b s', EP X pins σ Q (.bool b) s' → Rr (.ok (.ret (.bool b))) s') (n : Nat) (s : Shared) (hg : s.heap.IsGen a g) (hl : s.heap.NoLimit)
    (h : ∃ gs, s.gens[g]? = some gs ∧ gs.Goes (model X.prog X.w) A.in1.in1 (RG (gcx X Ms scope x A.in1.in1 s4 H s4.heap.objs.size code fp) [] a go σ N W (fun H3 => Q (.bl false) H3))
        (YG (gcx X Ms scope x A.in1.in1 s4 H s4.heap.objs.size code fp) [] a go fp tn σ N W (fun i y H3 => ∃ b, y = .bl b ∧ if b = true then Q (.bl true) H3 else W (i + 1) H3)) n (.send .none) (s.setGen g .running))
    (again : ∀ (m : Nat) (s1 : Shared) (gs' : GenState), n = m + 1 → s1.heap.IsGen a g → s1.heap.NoLimit → g < s1.gens.size →
        gs'.Goes (model X.prog X.w) A.in1.in1 (RG (gcx X Ms scope x A.in1.in1 s4 H s4.heap.objs.size code fp) [] a go σ N W (fun H3 => Q (.bl false) H3))
          (YG (gcx X Ms scope x A.in1.in1 s4 H s4.heap.objs.size code fp) [] a go fp tn σ N W (fun i y H3 => ∃ b, y = .bl b ∧ if b = true then Q (.bl true) H3 else W (i + 1) H3)) m (.send .none) ((s1.setGen g gs').setGen g .running) →
        codeAny (model X.prog X.w) A (.builtin "any.loop" ⟨[.ref a], []⟩) Rr (s1.setGen g gs')) :
    codeAny (model X.prog X.w) A (.builtin "any.loop" ⟨[.ref a], []⟩) Rr s := by
  obtain ⟨gs, hgs, hgo⟩ := h
  have hgl : g < s.gens.size := (Array.getElem?_eq_some_iff.mp hgs).1
  refine codeAny_builtin PySem.F.entry_any_loop ?_
  rw [Around.under_plainId PySem.F.plain_any_loop _]
  show wpAny _ A.in1 (pyNext (.ref a) >>= _) _ _ s
  refine wpAny_bind (wpAny_gsz (n := g + 1) hgl (wpAny_pyNext_genexpQ (A := A.in1) hh hl hd hg hgs hgo (fun v s1 gs' hb hv => ?_) (fun s1 hp h' hk => ?_)))
  · intro hsz
    have hsz1 : g < s1.gens.size := by
      have q : (s1.setGen g gs').gens.size = s1.gens.size := setGen_size _ _ _
      have hsz' : g + 1 ≤ (s1.setGen g gs').gens.size := hsz
      omega
    obtain ⟨i, y, o, H3, hi, rv, I, ⟨b, ey, hy⟩, hkap⟩ := hv
    subst ey
    obtain rfl : v = Value.bool b := rv
    refine wpAny_bind (wpAny_holding (wpAny_truthy_bool ?_))
    refine wpAny_bind (wpAny_letGo ?_)
    have hp := I.pin (a, go) (List.mem_append_right _ List.mem_cons_self)
    have hg1 : s1.heap.IsGen a g := by
      obtain ⟨o5, nm5, qn5, ho5, r5⟩ := m.gen
      rw [m.obj] at ho5
      cases ho5
      exact ⟨go, nm5, qn5, hp.1, r5⟩
    have hb1 : AllBare (s1.setGen g gs').gens := allBare_setGen I.bare hb
    cases b with
    | false =>
      simp only [Bool.false_eq_true, if_false] at hy ⊢
      have hz : Slept [] s1 ((s1.setGen g gs').setGen g .running) := ⟨rfl, allBare_setGen hb1 rfl, fun _ _ _ e => e, fun b z => by cases z⟩
      have k := hkap _ hz hy
      refine wpAny_pure ⟨plainId_quiet PySem.F.plain_any_loop _, ?_⟩
      cases n with
      | zero => exact False.elim k
      | succ m' => exact again m' s1 gs' rfl hg1 I.nolimit hsz1 k
    | true =>
      simp only [if_true] at hy ⊢
      refine wpAny_bind (wpAny_rule (wpAny_pure (hR _ _ ?_)))
      exact ⟨.bl true, H3, m.back I rfl hb1 fun _ _ e => e, rfl, hy⟩
  · intro _
    obtain ⟨hn, o, H3, I, q⟩ := hp
    refine wpAny_bind (wpAny_rule (wpAny_pure (hR _ _ ?_)))
    exact ⟨.bl false, H3, m.back I rfl (allBare_setGen I.bare rfl) hk, rfl, q⟩
theorem any_loop (m : Made X pins σ scope x elt iter px gpos H J s4 s5 a it g go code fp tn) {A : Around} {Q : VK} {Rr : Result → Shared → Prop} (hh : A.handled = none) (hd : A.depth < recursionLimit)
    (hR : ∀ b s', EP X pins σ Q (.bool b) s' → Rr (.ok (.ret (.bool b))) s') :
    ∀ (n : Nat) (s : Shared), s.heap.IsGen a g → s.heap.NoLimit →
      (∃ gs, s.gens[g]? = some gs ∧ gs.Goes (model X.prog X.w) A.in1.in1 (RG (gcx X Ms scope x A.in1.in1 s4 H s4.heap.objs.size code fp) [] a go σ N W (fun H3 => Q (.bl false) H3))
        (YG (gcx X Ms scope x A.in1.in1 s4 H s4.heap.objs.size code fp) [] a go fp tn σ N W (fun i y H3 => ∃ b, y = .bl b ∧ if b = true then Q (.bl true) H3 else W (i + 1) H3)) n (.send .none) (s.setGen g .running)) →
      codeAny (model X.prog X.w) A (.builtin "any.loop" ⟨[.ref a], []⟩) Rr s := by
  intro n
  induction n with
  | zero => exact fun s hg hl h => any_turn (Ms := Ms) m hh hd hR 0 s hg hl h fun m' _ _ e => by omega
  | succ n ih =>
    intro s hg hl h
    refine any_turn (Ms := Ms) m hh hd hR (n + 1) s hg hl h fun m' s1 gs' e hg1 hl1 hsz hgo => ?_
    obtain rfl : n = m' := by omega
    exact ih (s1.setGen g gs') hg1 hl1 ⟨gs', setGen_at hsz, hgo⟩
end

/-! ### any(elt for x in iter) -/
section
variable {X : Cx} {Ms : List Str}
def tAnyG (P : Addr) (wi : TI) (te : TE) : TE := fun σ H Q => wi σ H fun J H1 => GxR.TabG H1 P ∧ ∀ H2, GxR.Tabbed P H1 H2 → ∃ (N : Nat) (W : Nat → Hp → Prop), W 0 H2 ∧
  GTurn J te σ N W (fun i y H3 => ∃ b, y = .bl b ∧ if b = true then Q (.bl true) H3 else W (i + 1) H3) (fun H3 => Q (.bl false) H3)
theorem pe_anyG {c P : Addr} {elt iter : Expr} {x : Str} {px p pos gpos : Pos} {scope : Scope} {wi : TI} {te : TE} {k : Nat}
    (hr : Room (k + 2) X.A) (hg : Gl X "any") (hm : X.mg "any" = none) (TB : GxR.TabB X.base X.mg c P) (hcode : X.env.code = .ref c) (hfr : X.A.frames = some X.stack) (ok : GOk X.N Ms X.env.scope scope x) (hi : PI X (.Name x px) iter wi)
    (hel : ∀ (A : Around) (s : Shared) (H : Hp) (C : Addr) (code : Value) (fp : List Addr), Room k (gcx X Ms scope x A s H C code fp).A → PE (gcx X Ms scope x A s H C code fp) elt te)
    (hs : ∀ v, genFold iter X.env v = pure v := by intro _; rfl)
    (he : starEach [.GeneratorExp elt [⟨.Name x px, iter, [], 0⟩] scope gpos] X.env = (false, eval (.GeneratorExp elt [⟨.Name x px, iter, [], 0⟩] scope gpos) X.env) :: starEach [] X.env := by rfl) :
    PE X (.Call (.Name "any" p) [.GeneratorExp elt [⟨.Name x px, iter, [], 0⟩] scope gpos] [] pos) (tAnyG P wi te) := by
  refine ⟨fun pins s σ H Q I h => ?_⟩
  refine wpAny_Call_Name_kw (ld_blt I hg hm (show bootBuiltins "any" = some (.builtin "any") by decide +kernel) ?_)
  refine PyProof.Rows.callWith_builtin1 ?_ he (by rfl)
  rw [he]
  show wpAny _ _ (spliced ((false, eval (.GeneratorExp elt [⟨.Name x px, iter, [], 0⟩] scope gpos) X.env) :: backTo pos (starEach [] X.env))) _ _ s
  refine Calls.spliced_cons (make_gen hr.hd hr.depth TB hcode ok hi hs I h fun J H1 H2 s4 s5 a it g go code fp tn hR hT m => ?_)
  refine Calls.spliced_nil ?_
  obtain ⟨N, W, w0, R⟩ := hR H2 hT
  refine call_function_tree PySem.F.kind_any PySem.F.plain_any PySem.F.entry_any (PySem.F.args_any1 _) ?_
  unfold Builtin.«any»
  refine wpAny_bind (m := oneArg "any" _) (wpAny_pure ?_)
  refine wpAny_bind (wpAny_pyIter_gen m.gen ?_)
  refine wpAny_pure ⟨plainId_quiet PySem.F.plain_any_loop _, ?_⟩
  refine any_loop (Ms := Ms) (N := N) (W := W) (Q := Q) (Rr := fun r s' => match r with | .ok (.ret v) => EP X pins σ Q v s' | .ok _ => False | .error e => X.xe e s') m hr.hd hr.depth (fun b s' h => h) N s5 m.gen m.lim ⟨_, m.fresh, rfl, ?_⟩
  refine m.seg ok (A := X.A.in1.in1) hr.hd hfr (hel _ _ _ _ _ _ ?_) (S := []) (fun b z => by cases z) R w0 (s5.setGen g .running) rfl (allBare_setGen m.bare rfl) (fun _ _ e => e) (fun b z => by cases z)
  refine ⟨hr.hd, ?_, ?_⟩
  · have := hr.dp
    show X.A.depth + 1 + 3 * k + 5 < _
    omega
  · have := hr.un
    show X.A.units + 1 + 1 + 3 + 16 * k + 200 < _
    omega
end
end GS
end

section
set_option Elab.async false
set_option linter.all false
set_option maxRecDepth 100000
set_option maxHeartbeats 4000000
/-! _can_stand, _check_rows, read -/
namespace LP
open PySem PySem.Spec PyProof.Rows L2 Ly GY
variable [LamTab] {P : Program} {W0 : World} {K : PySem.W.Frag} {mg : Str → Option Value} {base : Heap}
structure Nn (mg : Str → Option Value) : Prop where
  any : mg "any" = none
  enumerate : mg "enumerate" = none
  btw : ∃ t, mg "BETWEEN" = some (.str "-" t)
  lrows : ∃ t, mg "LAYER_ROWS" = some (.int 5 t)
  most : ∃ t, mg "MOST_ROWS" = some (.int 19 t)
/-! ### _can_stand -/
def sgn (c : Nat) : Bool := decide (c ∈ ("#." : Str).cps.toList)
def canB (at_ : Nat) (row : Str) : Bool := decide (at_ < 19) && if at_ % 5 = 4 then decide (row = "-") else decide (row.length = 4) && row.cps.toList.all sgn
def spCan (Pq : Addr) : Sp := fun vs H Q _ => ∃ (at_ : Nat) (row : Str), vs = [.int (at_ : Int), .str row] ∧ row.length ≤ 100000 ∧ TGen H Pq ∧ ∀ H', Kp [] H H' → Q (.bl (canB at_ row)) H'
theorem scCan : FnScope ["at", "row"] ["at", "row"] (defScope sCanStand) := ⟨rfl, rfl, rfl, by decide +kernel, rfl, by decide +kernel, by decide +kernel⟩
theorem gCan : GX.GOk ["at", "row"] (defScope sCanStand) (genOf (stOf sCanStand 2)) "sign" := ⟨rfl, rfl, by decide +kernel, rfl, rfl, by decide +kernel, by decide +kernel, by decide +kernel, by decide⟩
theorem all_step {x : Str} {i c : Nat} {p : Nat → Bool} (h : x.cps[i]? = some c) (q : (x.cps.toList.take i).all p = true) : (p c = true → (x.cps.toList.take (i + 1)).all p = true) ∧ (p c = false → x.cps.toList.all p = false) := by
  have e : x.cps.toList[i]? = some c := by simpa using h
  refine ⟨fun z => ?_, fun z => ?_⟩
  · rw [List.take_add_one, e, List.all_append, q]
    simp [z]
  · cases d : x.cps.toList.all p with
    | false => rfl
    | true =>
      have := List.all_eq_true.mp d c (List.mem_of_getElem? e)
      rw [z] at this
      cases this
theorem ok_can {f c Pq : Addr} {fd : FuncData} (F : FunC K "_can_stand" "_can_stand" sCanStand f fd c) (TB : GxR.TabB base mg c Pq) (T : Nm K mg) (N : Nn mg) : FnOk P W0 K mg base CX0 3 f fd ["at", "row"] (spCan Pq) := by
  obtain ⟨ts, mS⟩ := T.side
  obtain ⟨t1, m1⟩ := N.btw
  obtain ⟨t2, m2⟩ := N.lrows
  obtain ⟨t3, m3⟩ := N.most
  refine F.ok scCan (fun vs H Q E h => ?_) (fun A outer s H vs Q E hr h => ?_)
  · obtain ⟨at_, row, rfl, _⟩ := h
    rfl
  · obtain ⟨at_, row, rfl, hrl, hP, q⟩ := h
    refine ⟨_, pss_cons (ps_if (pt_cmpR op_ge (pv 0) (pe_glob (v := .int 19) rfl m3 ⟨_, rfl⟩) (nomark _)) (pss_one (ps_ret pe_bl)) pss_nil)
      (pss_cons (ps_if (pt_cmpR op_eq (pe_op op_mod (pv 0) (pe_glob (v := .int 5) rfl m2 ⟨_, rfl⟩)) (pe_glob (v := .int 4) rfl mS ⟨_, rfl⟩) (nomark _))
        (pss_one (ps_ret (pe_cmpR op_eq (pv 1) (pe_glob (v := .str "-") rfl m1 ⟨_, rfl⟩) (nomark _)))) pss_nil)
      (pss_one (ps_ret (pe_and (pe_cmpR op_eq (pe_callB call_len_str (by rfl) T.len PySem.boot_len (pa_cons (pv 1) pa_nil)) (pe_glob (v := .int 4) rfl mS ⟨_, rfl⟩) (nomark _))
        (pe_one (pe_fr fun hf => GX.pe_allG (k := 0) hr (by rfl) T.all TB rfl scCan.nd hf gCan (show ("sign" : Str) ∉ (["at", "row"] : List Str) by decide) (pi_str (pv 1))
          (fun A s H C code fp hr1 => pe_cmpR op_in_str (pv 2) pe_str (by rfl)))))))), ?_⟩
    have q0 := q H (Kp.refl _ _)
    refine ⟨_, rfl, _, _, rfl, rfl, _, rfl, ?_⟩
    by_cases c0 : at_ < 19
    · refine itD0 (by omega) ?_
      refine ⟨_, rfl, _, _, rfl, rfl, (by show (0 : Int) < 5; decide), rfl, _, rfl, ?_⟩
      by_cases c1 : at_ % 5 = 4
      · refine itD1 (by show V.int ((at_ : Int) % 5) = V.int 4; rw [show ((at_ : Int) % 5) = ((at_ % 5 : Nat) : Int) by omega, c1]; rfl) ?_
        refine ⟨_, rfl, rfl, ?_⟩
        have e : canB at_ row = decide (V.str row = V.str "-") := by
          unfold canB
          rw [decide_eq_true c0, Bool.true_and, if_pos c1]
          exact decide_eq_decide.mpr ⟨congrArg V.str, V.str.inj⟩
        rw [e] at q0
        exact q0
      · refine itD0 (fun e => c1 (by have := V.int.inj e; omega)) ?_
        have hs : (100000 : Nat) < sizeLine := by decide
        refine ⟨_, rfl, _, rfl, (by omega), rfl, _, rfl, ?_⟩
        by_cases c2 : row.length = 4
        · refine itD1 (by rw [c2]; rfl) ?_
          refine ⟨_, rfl, row, rfl, hP.1, fun H2 tb => ?_⟩
          have k2 : Kp [] H H2 := Kp.tabbed hP tb
          have ec : canB at_ row = row.cps.toList.all sgn := by
            unfold canB
            rw [decide_eq_true c0, Bool.true_and, if_neg c1, decide_eq_true c2, Bool.true_and]
          refine ⟨_, _, ⟨Nat.zero_le _, ?p0⟩, GE.turn_txt (x := row) (fun i H' => Kp [] H H' ∧ (row.cps.toList.take i).all sgn = true) rfl (fun i c H' hx ⟨k, p'⟩ => ?ps) (fun H' ⟨k, p'⟩ => ?pd)⟩
          case p0 => exact ⟨k2, rfl⟩
          case ps =>
            refine ⟨_, rfl, _, _, rfl, rfl, _, rfl, ?_⟩
            have z := all_step hx p'
            have ei : (!(Builtin.Str.occurrences "#." ⟨#[c]⟩ 0 ("#." : Str).length 1).isEmpty) = sgn c := StrLaws.found_one "#." c
            have hi' : i < row.cps.size := (Array.getElem?_eq_some_iff.mp hx).1
            rw [ei]
            cases e : sgn c with
            | true => exact iteT ⟨hi', k, z.1 e⟩
            | false =>
              have q1 := q H' k
              rw [ec, z.2 e] at q1
              exact iteF q1
          case pd =>
            have q1 := q H' k
            have p2 : row.cps.toList.all sgn = true := by
              rw [List.take_of_length_le (by simp)] at p'
              exact p'
            rw [ec, p2] at q1
            exact q1
        · refine itD0 (fun e => c2 (by have := V.int.inj e; omega)) ?_
          have e : canB at_ row = false := by
            unfold canB
            rw [if_neg c1, decide_eq_false c2, Bool.false_and, Bool.and_false]
          rw [e] at q0
          exact q0
    · refine itD1 (by omega) ?_
      have e : canB at_ row = false := by
        unfold canB
        rw [decide_eq_false c0, Bool.false_and]
      rw [e] at q0
      exact q0
/-! ### _check_rows, of rows that may stand -/
def hasS (r : Str) : Bool := decide (35 ∈ r.cps.toList)
structure GoodR (rows : List Str) : Prop where
  can : ∀ j r, rows[j]? = some r → canB j r = true
  len : rows.length % 5 = 4
  top : (rows.drop (rows.length - 4)).any hasS = true
theorem GoodR.few {rows : List Str} (g : GoodR rows) : rows.length ≤ 19 := by
  by_cases h : rows.length ≤ 19
  · exact h
  · have hl : 19 < rows.length := by omega
    have := g.can 19 rows[19] (List.getElem?_eq_getElem hl)
    unfold canB at this
    rw [decide_eq_false (by omega), Bool.false_and] at this
    cases this
theorem GoodR.short {rows : List Str} (g : GoodR rows) {r : Str} (h : r ∈ rows) : r.length ≤ 4 := by
  obtain ⟨j, hj⟩ := List.getElem?_of_mem h
  have q := g.can j r hj
  unfold canB at q
  rw [Bool.and_eq_true] at q
  have q := q.2
  split at q
  · have := of_decide_eq_true q
    rw [this]
    decide +kernel
  · rw [Bool.and_eq_true] at q
    have := of_decide_eq_true q.1
    omega
theorem cut4 {xs : List V} (h : 4 ≤ xs.length) : cutV xs (some (-4)) none = xs.drop (xs.length - 4) := by
  unfold cutV
  have e : HT.sIx xs.length 0 (some (-4)) = xs.length - 4 := by
    show (if (-4 : Int) < 0 then ((-4 : Int) + (xs.length : Int)).toNat else min (-4 : Int).toNat xs.length) = _
    rw [if_pos (by decide)]
    omega
  rw [e, HT.sIx_none, List.take_of_length_le (by rw [List.length_drop]; omega)]
def spChkRows (K : PySem.W.Frag) (Pq Pk : Addr) : Sp := fun vs H Q _ => ∃ (a : Addr) (rows : List Str), vs = [.ref a] ∧ SqL K H a (rows.map V.str) ∧ GoodR rows ∧ TGen H Pq ∧ TGen H Pk ∧ ∀ H', Kp [] H H' → Q .non H'
theorem scChkRows : FnScope ["rows", "at", "row"] ["rows"] (defScope sChkRows) := ⟨rfl, rfl, rfl, by decide +kernel, rfl, by decide +kernel, by decide +kernel⟩
theorem gChkRows : GS.GOk ["rows", "at", "row"] ["rows", "at", "%"] (defScope sChkRows) (genOf (stOf sChkRows 2)) "row" := ⟨rfl, rfl, by decide +kernel, rfl, rfl, by decide +kernel, by decide +kernel, by decide +kernel, by decide, rfl, by decide +kernel, by decide +kernel⟩
theorem ok_chkrows {f c Pq Pk fC : Addr} {fd dC : FuncData} (F : FunC K "_check_rows" "_check_rows" sChkRows f fd c) (TB : GxR.TabB base mg c Pk) (T : Nm K mg) (N : Nn mg) (NC : Fn K mg "_can_stand" fC dC ["at", "row"]) (GC : FnOk P W0 K mg base CX0 3 fC dC ["at", "row"] (spCan Pq)) :
    FnOk P W0 K mg base CX0 4 f fd ["rows"] (spChkRows K Pq Pk) := by
  obtain ⟨ts, mS⟩ := T.side
  obtain ⟨t2, m2⟩ := N.lrows
  refine F.ok scChkRows (fun vs H Q E h => ?_) (fun A outer s H vs Q E hr h => ?_)
  · obtain ⟨a, rows, rfl, _⟩ := h
    rfl
  · obtain ⟨a, rows, rfl, hT, hg, hPq, hPk, q⟩ := h
    refine ⟨_, pss_cons (ps_for PassesOwn.never rfl (pi_enum (by rfl) N.enumerate (pa_cons (pv 0) pa_nil)) (pg_tup rfl (pgs_cons (pg_name (i := 1) scChkRows.nd rfl (.inl rfl)) (pgs_cons (pg_name (i := 2) scChkRows.nd rfl (.inl rfl)) pgs_nil)))
        (pss_one (ps_if (pt_not (pt_val (pe_call GC hr (by rfl) NC.m NC.kp NC.b .nil pass0 (pa_cons (pv 1) (pa_cons (pv 2) pa_nil))))) (pss_one ps_never) pss_nil)))
      (pss_cons (ps_if (pt_cmpR op_ne (pe_op op_mod (pe_callB call_len_seq (by rfl) T.len PySem.boot_len (pa_cons (pv 0) pa_nil)) (pe_glob (v := .int 5) rfl m2 ⟨_, rfl⟩)) (pe_glob (v := .int 4) rfl mS ⟨_, rfl⟩) (nomark _)) (pss_one ps_never) pss_nil)
      (pss_one (ps_if (pt_not (pt_val (pe_fr fun hf => GS.pe_anyG (k := 1) hr (by rfl) N.any TB rfl hf gChkRows (pi_list (pe_slice sl_list (pv 0) (po_some (pe_un un_neg (pe_glob (v := .int 4) rfl mS ⟨_, rfl⟩))) po_none))
          (fun A s H C code fp hr1 => pe_cmpR op_in_str pe_str (pv 3) (by rfl))))) (pss_one ps_never) pss_nil))), ?_⟩
    have h19 := hg.few
    refine ⟨_, rfl, a, _, rfl, hT, for_it (walk_enum (xs := rows.map V.str)) (fun i σ H' => Kp [] H H' ∧ ∃ o1 o2, σ = [some (.ref a), o1, o2]) ⟨Kp.refl _ _, ⟨_, _, rfl⟩⟩
      (fun i σ H' _ pv => pv.1.sqL hT List.not_mem_nil) (fun i x σ H' H2 hi pv y => ?st) (fun σ H' pv => ?dn)⟩
    case st =>
      obtain ⟨k, ⟨o1, o2, rfl⟩⟩ := pv
      obtain ⟨Tt, x1, x2, rfl, hTn, rfl, e1, e2⟩ := y
      cases e1
      have kt := Kp.new (S := []) (o := .tup [.int (i : Int), x2]) hTn
      have e2 : (rows.map V.str)[i]? = some x2 := e2
      rw [List.getElem?_map] at e2
      obtain ⟨r, hrr, rfl⟩ := Option.map_eq_some_iff.mp e2
      have k2 := k.trans kt
      refine ⟨Tt, _, rfl, SqT.of upd_same, rfl, _, _, rfl, _, _, rfl, rfl, ?_⟩
      have hs4 := hg.short (List.mem_of_getElem? hrr)
      refine ⟨_, rfl, _, rfl, i, r, rfl, by omega, k2.tab _ hPq, fun H3 k3 => ⟨_, rfl, ?_⟩⟩
      rw [hg.can i r hrr]
      exact iteF ⟨k2.trans k3, _, _, rfl⟩
    case dn =>
      obtain ⟨k, ⟨o1, o2, rfl⟩⟩ := pv
      have hT2 := k.sqL hT List.not_mem_nil
      have hml : (rows.map V.str).length = rows.length := List.length_map ..
      refine ⟨_, rfl, a, _, rfl, .inl hT2, _, _, rfl, rfl, (by show (0 : Int) < 5; decide), rfl, _, rfl, itN (by have := hg.len; rw [hml]; omega) ?_⟩
      refine ⟨_, rfl, _, rfl, _, rfl, a, _, rfl, hT2, fun r hr' => ⟨r, rfl, ⟨_, SqL.of upd_same⟩, ?_⟩⟩
      have ecut : cutV (rows.map V.str) (some (-4)) none = (rows.drop (rows.length - 4)).map V.str := by
        rw [cut4 (by rw [hml]; have := hg.len; omega), hml, List.map_drop]
      have e1 : upd H' r (.lst (cutV (rows.map V.str) (some (-4)) none)) r = some (.lst ((rows.drop (rows.length - 4)).map V.str)) := by rw [ecut]; exact upd_same
      have k1 : Kp [] H' (upd H' r (.lst (cutV (rows.map V.str) (some (-4)) none))) := Kp.new hr'
      have hPk1 := (k.trans k1).tab _ hPk
      refine ⟨hPk1.1, fun H2 tb => ?_⟩
      have k2 := Kp.tabbed (S := []) hPk1 tb
      have e2 := k2.lst e1 List.not_mem_nil
      have k02 := (k.trans k1).trans k2
      refine ⟨_, _, ⟨Nat.zero_le _, ?p0⟩, GX.turn_lst (xs := (rows.drop (rows.length - 4)).map V.str) (fun i H' => Kp [] H2 H' ∧ ((rows.drop (rows.length - 4)).take i).any hasS = false) rfl (fun i H' _ pv => SqL.of (pv.1.lst e2 List.not_mem_nil)) (fun i x H' hx pv => ?ps) (fun H' pv => ?pd)⟩
      case p0 => exact ⟨Kp.refl _ _, rfl⟩
      case ps =>
        obtain ⟨k3, pf⟩ := pv
        have hil := (List.getElem?_eq_some_iff.mp hx).1
        rw [List.getElem?_map] at hx
        obtain ⟨w, hw, rfl⟩ := Option.map_eq_some_iff.mp hx
        refine ⟨_, rfl, _, _, rfl, rfl, _, rfl, ?_⟩
        have ei : (!(Builtin.Str.occurrences w "#" 0 w.length 1).isEmpty) = hasS w := StrLaws.found_one w 35
        rw [ei]
        cases e : hasS w with
        | true => exact iteT ⟨_, rfl, iteF (q _ (k02.trans k3))⟩
        | false =>
          refine iteF ⟨hil, k3, ?_⟩
          rw [List.take_add_one, hw, List.any_append, pf]
          simp [e]
      case pd =>
        obtain ⟨k3, pf⟩ := pv
        rw [List.take_of_length_le (by rw [List.length_map]; exact Nat.le_refl _), hg.top] at pf
        cases pf
/-! ### read -/
def fRT (i : Nat) (row : Str) (n : Nat) : List C3 := ((List.range n).filter fun x => decide (row.cps[x]? = some 35)).map fun x : Nat => ((x : Int), ((i % 5 : Nat) : Int), ((i / 5 : Nat) : Int))
def fR1 (i : Nat) (row : Str) : List C3 := fRT i row row.cps.size
theorem fRT_succ (i : Nat) (row : Str) (n : Nat) : fRT i row (n + 1) = fRT i row n ++ if row.cps[n]? = some 35 then [((n : Int), ((i % 5 : Nat) : Int), ((i / 5 : Nat) : Int))] else [] := by
  unfold fRT
  rw [range_filter, List.map_append]
  congr 1
  by_cases h : row.cps[n]? = some 35
  · rw [if_pos h, if_pos (decide_eq_true h)]
    rfl
  · rw [if_neg h, if_neg (by simpa using h)]
    rfl
theorem fRT_len (i : Nat) (row : Str) (n : Nat) : (fRT i row n).length ≤ n := by
  unfold fRT
  rw [List.length_map]
  have := List.length_filter_le (fun x => decide (row.cps[x]? = some 35)) (List.range n)
  rw [List.length_range] at this
  exact this
def FR (rows : List Str) (n : Nat) : List C3 := (List.range n).flatMap fun i => fR1 i (rows.getD i "")
theorem FR_succ (rows : List Str) (n : Nat) : FR rows (n + 1) = FR rows n ++ fR1 n (rows.getD n "") := by
  unfold FR
  rw [List.range_succ, List.flatMap_append, List.flatMap_cons, List.flatMap_nil, List.append_nil]
theorem fR1_len (i : Nat) (row : Str) : (fR1 i row).length ≤ row.length := fRT_len i row _
theorem FR_len {rows : List Str} (g : GoodR rows) : ∀ n, n ≤ rows.length → (FR rows n).length ≤ 4 * n
  | 0, _ => Nat.le_refl _
  | n + 1, h => by
    have h1 := FR_len g n (by omega)
    have h2 := fR1_len n (rows.getD n "")
    have h3 : rows.getD n "" ∈ rows := by rw [List.getD_eq_getElem?_getD, List.getElem?_eq_getElem (by omega)]; exact List.getElem_mem _
    have h4 := g.short h3
    rw [FR_succ, List.length_append]
    omega
def spRead (K : PySem.W.Frag) (Pq Pk : Addr) : Sp := fun vs H Q _ => ∃ text : Str, vs = [.str text] ∧ text.length ≤ 100000 ∧ (text ≠ "" → GoodR (Txt.split text "\n")) ∧ TGen H Pq ∧ TGen H Pk ∧
  ∀ (H' : Hp) (v : V) (ds : List C3), Kp [] H H' → Body K H' v (.cells ds) → ds.Perm (if text = "" then [] else FR (Txt.split text "\n") (Txt.split text "\n").length) → (ds.Pairwise fun a b => ¬ lt3 b a) → Q v H'
theorem scRead : FnScope ["text", "rows", "found", "at", "row", "x", "sign"] ["text"] (defScope sRead) := ⟨rfl, rfl, rfl, by decide +kernel, rfl, by decide +kernel, by decide +kernel⟩
theorem ok_read {f Pq Pk fC : Addr} {fd dC : FuncData} (F : Fun K "read" "read" sRead f fd) (T : Nm K mg) (N : Nn mg) (NC : Fn K mg "_check_rows" fC dC ["rows"]) (GC : FnOk P W0 K mg base CX0 4 fC dC ["rows"] (spChkRows K Pq Pk)) :
    FnOk P W0 K mg base CX0 5 f fd ["text"] (spRead K Pq Pk) := by
  obtain ⟨t2, m2⟩ := N.lrows
  refine F.ok scRead (fun vs H Q E h => ?_) (fun cdv A outer s H vs Q E hr h => ?_)
  · obtain ⟨text, rfl, _⟩ := h
    rfl
  · obtain ⟨text, rfl, htl, hg, hPq, hPk, q⟩ := h
    refine ⟨_, pss_cons (ps_if (pt_cmpR op_eq (pv 0) pe_str (nomark _)) (pss_one (ps_ret (pe_tup (pa_cons pe_str (pa_cons (pe_tup pa_nil) pa_nil))))) pss_nil)
      (pss_cons (ps_set (i := 1) scRead.nd rfl (.inl rfl) (pe_split (pv 0) pe_str))
      (pss_cons (ps_expr (pe_call GC hr (by rfl) NC.m NC.kp NC.b .nil pass0 (pa_cons (pv 1) pa_nil)))
      (pss_cons (ps_setLc2 (i := 2) (own := [("at", 3), ("row", 4), ("x", 5), ("sign", 6)]) (vs1 := [5, 6]) (g := gTup K 2 (gCons (gName 3) (gCons (gName 4) gNil))) (g1 := gTup K 2 (gCons (gName 5) (gCons (gName 6) gNil))) (wi1 := GE.iEnumS (tCons (tVar 4) tNil)) rfl scRead.nd rfl rfl (sw_true rfl rfl rfl (by decide +kernel))
          (pi_enum (by rfl) N.enumerate (pa_cons (pv 1) pa_nil)) (blkOk_by (own := [("at", 3), ("row", 4), ("x", 5), ("sign", 6)]) (N := ["text", "rows", "found", "at", "row", "x", "sign"]) (sc := defScope sRead) (by decide +kernel)) (by decide)
          (fun _ _ _ _ _ => pg_tup rfl (pgs_cons (pg_name (i := 3) scRead.nd rfl (.inl rfl)) (pgs_cons (pg_name (i := 4) scRead.nd rfl (.inl rfl)) pgs_nil))) (fun _ _ _ _ _ => pts_nil)
          (fun _ _ _ _ _ => GE.pi_enumS (by rfl) N.enumerate (pa_cons (pv 4) pa_nil))
          (fun _ _ _ _ _ => pg_tup rfl (pgs_cons (pg_name (i := 5) scRead.nd rfl (.inl rfl)) (pgs_cons (pg_name (i := 6) scRead.nd rfl (.inl rfl)) pgs_nil))) (fun _ _ _ _ _ => pts_one (pt_cmpR op_eq (pv 6) pe_str (nomark _)))
          (fun _ _ _ _ _ => pe_tup (pa_cons (pv 5) (pa_cons (pe_op op_mod (pv 3) (pe_glob (v := .int 5) rfl m2 ⟨_, rfl⟩)) (pa_cons (pe_op op_fdiv (pv 3) (pe_glob (v := .int 5) rfl m2 ⟨_, rfl⟩)) pa_nil)))))
      (pss_one (ps_ret (pe_tup (pa_cons pe_str (pa_cons (pe_callTy call_tuple_of (by rfl) T.tuple (by decide +kernel) (pa_cons (pe_callB (cr_sortC hr.units) (by rfl) T.sorted (by decide +kernel) (pa_cons (pv 2) pa_nil)) pa_nil)) pa_nil)))))))), ?_⟩
    refine ⟨_, rfl, rfl, _, rfl, ?_⟩
    by_cases c0 : text = ""
    · subst c0
      refine itD1 rfl ?_
      refine ⟨(by show 0 ≤ sizeLine; decide), fun t1 h1 => ⟨(by show 2 ≤ sizeLine; decide), fun t2 h2 => ?_⟩⟩
      have k1 := Kp.new (S := []) (o := .tup []) h1
      have k2 := Kp.new (S := []) (o := .tup [.str "cells", .ref t1]) h2
      exact q _ _ [] (k1.trans k2) (.tup (SqT.of upd_same) (.cons (.str _) (.cons (.tup (k2.sqT (SqT.of upd_same)) .nil) .nil))) (.refl _) .nil
    · refine itD0 (fun e => c0 (V.str.inj e)) ?_
      have hg := hg c0
      have hs : (100000 : Nat) < sizeLine := by decide
      have hs2 : (100002 : Nat) < sizeLine := by decide
      refine ⟨_, rfl, ⟨_, rfl⟩, text, "\n", rfl, rfl, by decide +kernel, by omega, fun r hr' => ?_⟩
      rw [if_neg c0] at q
      generalize Txt.split text "\n" = rows at hg q ⊢
      refine nameI (i := 1) (v := .ref r) (σ := [some (.str text), none, none, none, none, none, none]) ?_
      have k1 : Kp [] H (upd H r (.lst (rows.map V.str))) := Kp.new hr'
      have e1 : upd H r (.lst (rows.map V.str)) r = some (.lst (rows.map V.str)) := upd_same
      generalize upd H r (.lst (rows.map V.str)) = H1 at k1 e1 ⊢
      refine ⟨_, rfl, r, rows, rfl, SqL.of e1, hg, k1.tab _ hPq, k1.tab _ hPk, fun H2 k2 => ?_⟩
      have e2 := k2.lst e1 List.not_mem_nil
      have k02 := k1.trans k2
      refine ⟨_, rfl, r, _, rfl, SqL.of e2, fun D hD => ?_⟩
      have kD : Kp [] H2 (upd H2 D (.lst [])) := Kp.new hD
      have h19 := hg.few
      have hml : (rows.map V.str).length = rows.length := List.length_map ..
      refine ⟨fun i m H' => m = rows.length - i ∧ i ≤ rows.length ∧ Kp [] H2 H' ∧ ∃ acc, H' D = some (.lst acc) ∧ Items K H' acc (FR rows i), ⟨rows.length, rfl, Nat.zero_le _, kD, [], upd_same, .nil⟩, fun i m H' w => ?_⟩
      obtain ⟨rfl, hi, k, acc, hA, hI⟩ := w
      by_cases hlt : i < rows.length
      · have hri : rows[i]? = some rows[i] := List.getElem?_eq_getElem hlt
        have hgd : rows.getD i "" = rows[i] := by rw [List.getD_eq_getElem?_getD, hri]; rfl
        have hs4 := hg.short (List.getElem_mem hlt)
        generalize rows[i] = row at hri hgd hs4
        have hxi : (rows.map V.str)[i]? = some (.str row) := by rw [List.getElem?_map, hri]; rfl
        refine .inr ⟨⟨rows.map V.str, .str row, SqL.of (k.lst e2 List.not_mem_nil), hxi⟩, fun H'' => Kp [] H2 H'' ∧ ∃ acc, H'' D = some (.lst acc) ∧ Items K H'' acc (FR rows (i + 1)), fun H'' w => ⟨rows.length - (i + 1), by omega, rfl, hlt, w⟩, fun x H'' yy => ?_⟩
        obtain ⟨Tt, x2, rfl, hTn, rfl, hx2⟩ := yy
        have hx3 := hx2 _ (SqL.of (k.lst e2 List.not_mem_nil))
        rw [hxi] at hx3
        cases hx3
        have kt := Kp.new (S := []) (o := .tup [.int (i : Int), .str row]) hTn
        refine ⟨Tt, _, rfl, SqT.of upd_same, rfl, _, _, rfl, _, _, rfl, rfl, rfl, ?_⟩
        refine yesP ?_
        refine ⟨_, rfl, row, rfl, ?_⟩
        have hA1 := kt.lst hA List.not_mem_nil
        have hI1 := items_mono kt hI
        have k3 := k.trans kt
        generalize upd H' Tt (.tup [.int (i : Int), .str row]) = H3 at hA1 hI1 k3 ⊢
        refine ⟨fun j m H' => m = row.cps.size - j ∧ j ≤ row.cps.size ∧ Kp [] H2 H' ∧ ∃ acc, H' D = some (.lst acc) ∧ Items K H' acc (FR rows i ++ fRT i row j), ⟨row.cps.size, rfl, Nat.zero_le _, k3, acc, hA1, by rw [show fRT i row 0 = [] from rfl, List.append_nil]; exact hI1⟩, fun j m H4 w => ?_⟩
        obtain ⟨rfl, hj, k4, acc4, hA4, hI4⟩ := w
        by_cases hlt2 : j < row.cps.size
        · refine .inr ⟨hlt2, fun H'' => Kp [] H2 H'' ∧ ∃ acc, H'' D = some (.lst acc) ∧ Items K H'' acc (FR rows i ++ fRT i row (j + 1)), fun H'' w => ⟨row.cps.size - (j + 1), by omega, rfl, hlt2, w⟩, fun x H5 yy => ?_⟩
          obtain ⟨T2, c, rfl, hTn2, hc, rfl⟩ := yy
          have kt2 := Kp.new (S := []) (o := .tup [.int (j : Int), .str ⟨#[c]⟩]) hTn2
          refine ⟨T2, _, rfl, SqT.of upd_same, rfl, _, _, rfl, _, _, rfl, rfl, rfl, ?_⟩
          have k5 := k4.trans kt2
          have hA5 := kt2.lst hA4 List.not_mem_nil
          have hI5 := items_mono kt2 hI4
          generalize upd H4 T2 (.tup [.int (j : Int), .str ⟨#[c]⟩]) = H5 at k5 hA5 hI5 ⊢
          refine ⟨_, rfl, rfl, _, rfl, ?_⟩
          rw [fRT_succ]
          by_cases h35 : c = 35
          · subst h35
            rw [if_pos hc]
            refine itD1 rfl ?_
            refine ⟨_, rfl, _, rfl, _, _, rfl, rfl, (by show (0 : Int) < 5; decide), _, rfl, _, _, rfl, rfl, ⟨by show (0 : Int) < 5; decide, by show (5 : Int) < 1073741824; decide⟩, (by show 3 ≤ sizeLine; decide), fun tn htn => ?_⟩
            have kn := Kp.new (S := []) (o := .tup [.int (j : Int), .int ((i : Int) % 5), .int ((i : Int) / 5)]) htn
            have hA6 := kn.lst hA5 List.not_mem_nil
            have hl4 := hI4.length
            have hfl := FR_len hg i hi
            have hft := fRT_len i row j
            have hrs : row.cps.size ≤ 4 := hs4
            rw [List.length_append] at hl4
            have kc : Kp [D] _ (upd (upd H5 tn (.tup [.int (j : Int), .int ((i : Int) % 5), .int ((i : Int) / 5)])) D (.lst (acc4 ++ [.ref tn]))) := Kp.chg hA6 (List.mem_singleton.mpr rfl)
            refine ⟨acc4, hA6, small_size (by omega), (k5.trans kn).chg0 hD hA6, _, upd_same, ?_⟩
            rw [← List.append_assoc]
            exact Items.append (items_mono kc (items_mono kn hI5)) (Items.one (dp_c (c := ((j : Int), ((i % 5 : Nat) : Int), ((i / 5 : Nat) : Int))) (kc.sqT (SqT.of upd_same))))
          · rw [if_neg (fun e => h35 (by rw [hc] at e; exact Option.some.inj e)), List.append_nil]
            refine itD0 (fun e => h35 ?_) ⟨k5, acc4, hA5, hI5⟩
            have e2 : (⟨#[c]⟩ : Str) = ⟨#[35]⟩ := V.str.inj e
            have e3 := congrArg (fun s : Str => s.cps.toList) e2
            simpa using e3
        · have ej : j = row.cps.size := by omega
          subst ej
          refine .inl ⟨rfl, k4, acc4, hA4, ?_⟩
          rw [FR_succ, hgd]
          exact hI4
      · have ei : i = rows.length := by omega
        subst ei
        have e3 := k.lst e2 List.not_mem_nil
        refine .inl ⟨⟨_, SqL.of e3, by rw [hml]; exact Nat.le_refl _⟩, ?_⟩
        refine nameI (i := 2) (v := .ref D) (σ := [some (.str text), some (.ref r), none, none, none, none, none]) ?_
        have hfl := FR_len hg rows.length (Nat.le_refl _)
        have hil := hI.length
        refine ⟨_, rfl, .ref D, FR rows rows.length, rfl, cellsL_of hA hI, Nat.le_of_lt (small_size (by omega)), fun ys ds p hp hso hit hn => ?_⟩
        have kp : Kp [] H' (upd H' p (.lst ys)) := Kp.new hn
        refine ⟨p, _, rfl, .inl ⟨SqL.of upd_same, fun t5 ht5 => ?_⟩⟩
        have k5 := Kp.new (S := []) (o := .tup ys) ht5
        refine ⟨(by show 2 ≤ sizeLine; decide), fun t6 ht6 => ?_⟩
        have k6 := Kp.new (S := []) (o := .tup [.str "cells", .ref t5]) ht6
        refine q _ _ ds ((((k02.trans k).trans kp).trans k5).trans k6) (.tup (SqT.of upd_same) (.cons (.str _) (.cons (.tup (k6.sqT (SqT.of upd_same)) ?_) .nil))) hp hso
        exact items_mono k6 (items_mono k5 (items_mono kp hit))
end LP
end

section
set_option Elab.async false
set_option linter.all false
set_option maxRecDepth 100000
set_option maxHeartbeats 4000000
/-! an own __init__ that says super().__init__(e), over ValueError, then walks on -/
namespace BTX
open PySem PySem.Spec PyProof.Rows L2
/-- the environment of a def whose only free name is __class__ -/
abbrev envS (qual : Str) (scope : Scope) (L f : Addr) (cd : Value) (cc : Addr) : Env := PySem.W.envX qual scope L f cd [("__class__", cc)]
/-- the names of such a def: parameters, the class, super -/
structure ScS (N : List Str) (sc : Scope) : Prop where
  kind : sc.kind = .function
  co : sc.isCoroutine = false
  gen : sc.isGenerator = false
  nd : N.Nodup
  par : ∀ x ∈ N, sc.names.lookup x = some .local
  nocell : ∀ y ∈ sc.names, y.2 ≠ .cell
  free : ∀ y ∈ sc.names, y.2 = .free → y.1 = "__class__"
  sup : sc.names.lookup ("super" : Str) = some .globalImplicit
  cls : sc.names.lookup ("__class__" : Str) = some .free
def cxS (CX : CXT) (P : Program) (w : World) (K : PySem.W.Frag) (mg : Str → Option Value) (base : Heap) (N : List Str) (qual : Str) (scope : Scope) (f : Addr) (cd : Value) (cc : Addr) (A : Around) (outer : List Env) (s : Shared) (H : Hp) (E : XK) : Cx where
  prog := P
  w := w
  K := K
  mg := mg
  base := base
  A := A.deeper (envS qual scope s.heap.objs.size f cd cc)
  N := N
  s_0 := s
  H_0 := H
  env := envS qual scope s.heap.objs.size f cd cc
  outer := outer
  stack := envS qual scope s.heap.objs.size f cd cc :: outer
  ex := []
  calm := true
  fn := fun _ => false
  pn := []
  xe := fun e s' => wpAny (model P w) (A.deeper (envS qual scope s.heap.objs.size f cd cc)) (leaving (envS qual scope s.heap.objs.size f cd cc) e) (fun _ s'' => CX outer H s E e s'') (fun e' s'' => CX outer H s E e' s'') s'
theorem one_look {x : Str} {c cc : Addr} (h : ([("__class__", cc)] : List (Str × Addr)).lookup x = some c) : x = "__class__" ∧ c = cc := by
  have e : (match x == ("__class__" : Str) with | true => some cc | false => none) = some c := h
  cases q : x == ("__class__" : Str) with
  | true =>
    rw [q] at e
    exact ⟨beq_iff_eq.mp q, (Option.some.inj e).symm⟩
  | false =>
    rw [q] at e
    cases e
theorem rev_look {x : Str} {v : Value} : ∀ {ps : List Str} {us : List Value} {i : Nat}, ps.Nodup → ps[i]? = some x → us[i]? = some v → (ps.zip us).reverse.lookup x = some v := by
  have mem : ∀ {l : List (Str × Value)}, (x, v) ∈ l → (∀ w, (x, w) ∈ l → w = v) → l.lookup x = some v := by
    intro l
    induction l with
    | nil =>
      intro h
      cases h
    | cons p l ih =>
      intro h hu
      obtain ⟨y, w⟩ := p
      by_cases e : x = y
      · subst e
        rw [List.lookup_cons, beq_self_eq_true]
        exact congrArg some (hu w List.mem_cons_self)
      · rw [List.lookup_cons, beq_eq_false_iff_ne.mpr e]
        refine ih ?_ fun u hu' => hu u (List.mem_cons_of_mem _ hu')
        rcases List.mem_cons.mp h with z | z
        · exact absurd (congrArg Prod.fst z) e
        · exact z
  have uniq : ∀ {ps : List Str} {us : List Value} {i : Nat}, ps.Nodup → ps[i]? = some x → us[i]? = some v → (x, v) ∈ ps.zip us ∧ ∀ w, (x, w) ∈ ps.zip us → w = v := by
    intro ps
    induction ps with
    | nil =>
      intro us i _ h
      simp at h
    | cons p ps ih =>
      intro us i nd h1 h2
      cases us with
      | nil => simp at h2
      | cons u us =>
        cases i with
        | zero =>
          simp at h1 h2
          subst h1 h2
          refine ⟨List.mem_cons_self, fun w hw => ?_⟩
          rcases List.mem_cons.mp hw with z | z
          · exact congrArg Prod.snd z
          · exact absurd (List.of_mem_zip z).1 (List.nodup_cons.mp nd).1
        | succ i =>
          obtain ⟨a, b⟩ := ih (us := us) (i := i) (List.nodup_cons.mp nd).2 (by simpa using h1) (by simpa using h2)
          refine ⟨List.mem_cons_of_mem _ a, fun w hw => ?_⟩
          rcases List.mem_cons.mp hw with z | z
          · have e1 : x = p := congrArg Prod.fst z
            have e2 : x ∈ ps := List.mem_of_getElem? (by simpa using h1 : ps[i]? = some x)
            rw [e1] at e2
            exact absurd e2 (List.nodup_cons.mp nd).1
          · exact b w z
  intro ps us i nd h1 h2
  obtain ⟨a, b⟩ := uniq nd h1 h2
  exact mem (List.mem_reverse.mpr a) fun w hw => b w (List.mem_reverse.mp hw)
theorem inv_startS {CX : CXT} {P : Program} {w : World} {K : PySem.W.Frag} {mg : Str → Option Value} {base : Heap} {N : List Str} {qual : Str} {scope : Scope} {f cc : Addr} {cd : Value} {A : Around} {outer : List Env} {s : Shared} {H : Hp} {E : XK} {us : List Value} {vs : List V} {h1 : Heap} {tk : Nat} {oc : Obj} {cv : Option Value}
    (S : ScS N scope) (hd : A.handled = none) (e0 : Env0 P w K mg base A outer s H) (hl : vs.length = N.length) (r : Vals vs us) (hcc : base.get? cc = some oc) (hcv : oc.data = .cell cv)
    (hn : h1.Ns s.heap.objs.size (fun x => (N.zip us).reverse.lookup x)) (hk : ∀ b o, s.heap.get? b = some o → h1.get? b = some o) :
    Inv (cxS CX P w K mg base N qual scope f cd cc A outer s H E) [] (vs.map some) H { s with heap := h1, toks := tk } := by
  have noA : ∀ b : Addr, b ∉ (cxS CX P w K mg base N qual scope f cd cc A outer s H E).ex := fun b z => absurd (show b ∈ ([] : List Addr) from z) (by simp)
  have hlo : ∀ {x : Str} {c : Addr}, (cxS CX P w K mg base N qual scope f cd cc A outer s H E).env.cells.lookup x = some c → x = "__class__" ∧ c = cc := fun h => one_look h
  refine ⟨⟨e0.mod, S.kind, rfl, rfl, Nat.le_refl _, fun x y c h1 h2 => ?_, fun y hy => ?_, fun y c z _ => ?_, fun _ => hd, Around.frames_deeper e0.frames, .inr ⟨rfl, rfl⟩, fun b z => absurd z (noA b), e0.bs, e0.bsz, fun b _ _ => noA b, fun b z => absurd z (noA b), e0.funs, e0.frf⟩,
    rfl, e0.bare, Un.kept hk, ⟨_, hn, fun i y v h1 h2 h3 => ?_⟩, fun x c h => ?_, e0.hok.fresh (Nat.le_refl _), fun x c h => ?_, fun p hp => absurd (show p ∈ ([] : List (Addr × Obj)) from hp) (by simp), e0.hok.kept hk, ?_⟩
  · rw [(hlo h1).1, (hlo h2).1]
  · have hy : scope.names.lookup y = some .cell ∨ scope.names.lookup y = some .free := hy
    rcases hy with hy | hy
    · exact absurd rfl (S.nocell _ (PySem.mem_of_lookup hy))
    · have e : y = "__class__" := S.free _ (PySem.mem_of_lookup hy) rfl
      subst e
      exact ⟨cc, rfl⟩
  · exact absurd z (by simp [cxS])
  · have h2' : vs[i]? = some v := by
      rw [List.getElem?_map] at h2
      cases e : vs[i]? with
      | none =>
        rw [e] at h2
        cases h2
      | some a =>
        rw [e] at h2
        cases h2
        rfl
    obtain ⟨u, hu, rv⟩ := r.get h2'
    have h1' : N[i]? = some y := h1
    exact ⟨u, rv, .inl ⟨S.par y (List.mem_of_getElem? h1'), rev_look S.nd h1' hu⟩⟩
  · obtain ⟨_, rfl⟩ := hlo h
    exact ⟨cv, oc, hk _ _ (e0.bs _ _ hcc).1, hcv⟩
  · obtain ⟨_, rfl⟩ := hlo h
    exact (e0.bs _ _ hcc).2
  · rw [List.length_map]
    exact hl

/-! ### super().__init__(us), run from a body -/
abbrev mw (x : Addr) : Obj := PySem.W.kxs_mw "ValueError.__init__" x
section
variable {X : Cx} {pins : List (Addr × Obj)} {σ : L2.St} {H : Hp} {s : Shared} {a C u : Addr}
/-- the bound ValueError.__init__ called: nothing of it is told -/
theorem wcall_ok {us : List Value} {Q : Value → Shared → Prop} {E : Value → Shared → Prop} {A : Around} (T : OexC X.K C) (I : Inv X pins σ H s) (e : H a = some (exo a C none)) (hu : s.heap.get? u = some (mw a)) (hl : us.length ≤ sizeLine) (h : ∀ s', Inv X pins σ H s' → Q .none s') :
    wpAny (model X.prog X.w) A (call (.ref u) us) Q E s := by
  obtain ⟨nm, q, N, bs, bm, sn, sub, ab, col, dd, k0, k1, k2, k3, k5, hC, hbm⟩ := T.cls
  obtain ⟨t1, ho⟩ := exo_at I.hok e
  obtain ⟨hp, g, d, t, os⟩ := s
  have FB := F.excBase_ValueError
  refine wpAny_call (codeAny_of_tree ?_)
  show wpAny _ A.in1 (callAny (.ref u) ⟨us, []⟩) _ _ _
  simp only [callAny]
  refine wpAny_bind (wpAny_load hu ?_)
  simp only [PySem.W.kxs_mw, show (Value.type "method-wrapper" == Value.type "method" || Value.type "method-wrapper" == Value.type "builtin_function_or_method" || Value.type "method-wrapper" == Value.type "method-wrapper") = true by decide, if_true]
  refine PySem.W.KFB.if_so (by decide) ?_
  refine wpAny_bind (PySem.W.check_bound_init FB.toExcCallFacts (I.kIn _ _ hC) ho rfl ?_)
  refine wpAny_bind (wpAny_pure (wpAny_pure ?_))
  refine ⟨PySem.plainId_quiet FB.init.plain _, codeAny_builtin FB.initEntry ?_⟩
  refine PySem.W.exc_init_tree (cls := .ref C) (t0 := t1) (dv := none) (c2 := .none) (c3 := .none) (b4 := .bool false) ho hl fun h' k hx _ => ?_
  have J := I.write (t' := t) (x := a) (e := a) (o := exo a C none) (by rw [e]; exact True.intro) (.inl rfl) k ⟨_, hx⟩ (exo_ok hx)
  have eu : upd H a (exo a C none) = H := by
    funext b
    by_cases hb : b = a
    · rw [hb, upd_same, e]
    · rw [upd_ne hb]
  rw [eu] at J
  exact h _ J
end
/-- what the written part says of the class, of its __init__ (at f, its code at cda, its cell at cc) and of the text's file -/
structure SupK (P : Program) (K : PySem.W.Frag) (mg : Str → Option Value) (C f cda cc : Addr) (ar : Arg) : Prop where
  oex : OexC K C
  fn : ∃ oc od fd osl, K.lookup f = some ⟨oc, od, .func fd, osl⟩ ∧ (fd.params.posonlyargs ++ fd.params.args).head? = some ar
  code : ∃ ccl cdd vs ccs file tf, K.lookup cda = some ⟨ccl, cdd, .fields vs, ccs⟩ ∧ vs[2]? = some (.str file tf) ∧ ((P.main.file : Str) == file) = true
  cell : ∃ cl cld csl, K.lookup cc = some ⟨cl, cld, .cell (some (.ref C)), csl⟩
  mro : PySem.W.mroIn K C (.ref C) = some true
  open_ : PySem.W.nsIn K PySem.cStatics "thirdparty.any" = some none
  sup : PySem.W.ks_superIn K C C "__init__" = some (some (.builtin "ValueError.__init__"))
  subV : PySem.W.subIn K (.ref C) (.type "ValueError") = some true
  glo : mg "super" = none
  top : (P.main.scope.names.lookup ("super" : Str)).isSome = false
section
variable {X : Cx} {pins : List (Addr × Obj)} {σ : L2.St} {H : Hp} {s : Shared} {a C f cda cc L : Addr} {N : List Str} {qual : Str} {scope : Scope} {ar : Arg} {i : Nat} {e : Expr} {es : List Expr} {ta : TA} {p0 p1 p2 pos : Pos} {body : List Stmt}
theorem ws_super {Q : Hp → Prop} (T : SupK X.prog X.K X.mg C f cda cc ar) (S : ScS N scope) (hE : X.env = envS qual scope L f (.ref cda) cc) (hN : X.N = N) (hself : N[i]? = some ar.arg) (hs : σ[i]? = some (some (.ref a))) (I : Inv X pins σ H s) (ea : H a = some (exo a C none))
    (ha : PA X (e :: es) ta) (h : ta σ H fun vs H1 => vs.length ≤ 1000 ∧ H1 a = some (exo a C none) ∧ Q H1)
    (he : starEach (e :: es) X.env = (false, eval e X.env) :: starEach es X.env := by rfl) (hpl : (backTo pos (starEach es X.env)).any (·.1) = false := by rfl)
    (hc : ∀ (o : Expr) (pl : Sem Bool), eval (.Call (.Attribute (.Call (.Name "super" p0) [] [] p1) "__init__" p2) (e :: es) [] pos) X.env = (do
      let ov ← attributeBase (.Call (.Name "super" p0) [] [] p1) "__init__" X.env (eval (.Call (.Name "super" p0) [] [] p1) X.env)
      standAt p2.atName
      let (f, first) ← holding [ov] (getMethod ov "__init__" (plainOf (.Call (.Name "super" p0) [] [] p1) X.env))
      callWith pos f first (backTo pos (starEach (e :: es) X.env)) []) := by intros; rfl) :
    _root_.PySem.wpAt (model X.prog X.w) X.A (.func body X.env) (eval (.Call (.Attribute (.Call (.Name "super" p0) [] [] p1) "__init__" p2) (e :: es) [] pos) X.env) (fun _ s' => ∃ H', Inv X pins σ H' s' ∧ Q H') X.xe s := by
  obtain ⟨oc, od, fd, osl, hf, hp⟩ := T.fn
  obtain ⟨ccl, cdd, vs, ccs, file, tf, hcode, hvs, hfile⟩ := T.code
  obtain ⟨cl, cld, csl, hcell⟩ := T.cell
  obtain ⟨nm, q, Nc, bs, bm, sn, sub, ab, col, dd, k0, k1, k2, k3, k5, hC, hbm⟩ := T.oex.cls
  have hcl : PySem.W.clsIn X.K C = some { name := nm, bases := bs, mro := .ref C :: bm, ns := Nc, qualname := q, hasDict := true, slotNames := sn, subclasses := sub, abstract := ab, collection := col, hasDel := false } := by unfold PySem.W.clsIn; rw [hC] <;> rfl
  have hsup : PySem.W.alongIn X.K "__init__" bm = some (some (.builtin "ValueError.__init__")) := by
    have z := T.sup
    unfold PySem.W.ks_superIn at z
    rw [hcl, Option.bind_some, PySem.ESX.drop_own] at z
    exact z
  have kx := I.kIn
  obtain ⟨t1, ho⟩ := exo_at I.hok ea
  obtain ⟨m, hns, hlk⟩ := id I.loc
  have hself' : m ar.arg = some (.ref a) := by
    have hloc : X.env.scope.names.lookup ar.arg = some .local := by
      rw [hE]
      exact S.par _ (List.mem_of_getElem? hself)
    obtain ⟨u, ru, hk⟩ := hlk i ar.arg (.ref a) (by rw [hN]; exact hself) hs (.inl hloc)
    obtain rfl : u = Value.ref a := ru
    rcases hk with ⟨_, z⟩ | ⟨z, _⟩
    · exact z
    · have z2 : X.env.scope.names.lookup ar.arg = some .cell ∨ X.env.scope.names.lookup ar.arg = some .free := z
      rw [hloc] at z2
      rcases z2 with z2 | z2 <;> cases z2
  have nC : (a : Addr) ≠ C := fun z => by
    have y := kx _ _ hC
    rw [← z, ho] at y
    cases y
  obtain ⟨mb, hb1, hb2⟩ := I.mod.blt
  have hEs : X.env.scope = scope := by rw [hE]
  have hEc : X.env.cells = ([("__class__", cc)] : List (Str × Addr)) := by rw [hE]
  have hEf : X.env.func = some f := by rw [hE]
  have hEd : X.env.code = .ref cda := by rw [hE]
  have ks1 : X.env.kindOf "super" = some .globalImplicit := by
    show X.env.scope.names.lookup ("super" : Str) = _
    rw [hEs]
    exact S.sup
  have ks2 : X.env.kindOf "__class__" = some .free := by
    show X.env.scope.names.lookup ("__class__" : Str) = _
    rw [hEs]
    exact S.cls
  have ks3 : X.env.kindOf ar.arg = some .local := by
    show X.env.scope.names.lookup ar.arg = _
    rw [hEs]
    exact S.par _ (List.mem_of_getElem? hself)
  refine PySem.ks_wpAt_MethodCall (pl := plainOf (.Call (.Name "super" p0) [] [] p1) X.env) ?_ (hc (.Name "super" p0) (pure true))
  obtain ⟨hh, g, d, t, os⟩ := s
  refine PySem.ks_wpAt_super_base (env := X.env) ks1 ks2 (by decide) hEf (kx _ _ hf) rfl hp hEd (kx _ _ hcode) rfl hvs hfile T.top ?_
  refine PySem.W.ks_loadName_global I.ok.kind ks1 (Calls.loadGlobal_builtin (env := X.env) (by rw [I.ok.glob]; exact I.mod.glob.keeps I.bk) T.glo (by rw [I.ok.blt]; exact hb1.keeps I.bk) ((hb2 "super" (by decide)).trans (by decide +kernel : bootBuiltins "super" = some (.type "super"))) ⟨rfl, ?_⟩)
  refine wpAny_loadName_free I.ok.kind ks2 (by rw [hEc] <;> rfl) ⟨_, kx _ _ hcell, rfl⟩ ?_
  refine wpAny_loadName_local I.ok.kind ks3 hns hself' ?_
  refine PySem.ks_wpAny_isType_cls (kx _ _ hC) rfl ⟨rfl, ?_⟩
  refine PySem.ks_wpAny_call_super (kx _ _ hC) rfl ho rfl (fun c z => by cases z) (PySem.W.looks_mroIn kx T.mro) (fun h1 e1 k1 => ?_)
  have I1 : Inv X pins σ H ⟨h1, g, d, t, os⟩ := I.kept (t' := t) k1
  obtain ⟨t2, ho1⟩ := exo_at I1.hok ea
  have hI : PySem.W.Looks (model X.prog X.w) h1 (isInstance (.ref a) (.type "ValueError")) true :=
    (show PySem.W.InstAt h1 a _ C none from ⟨ho1, rfl, rfl, trivial⟩).type.andThen (PySem.W.looks_subIn I1.kIn T.subV)
  refine PySem.W.kxs_getMethod PySem.W.kxs_ValueError e1 (PySem.W.looks_opaque I1.kIn T.open_) (l₀ := .ref C :: bm) ?_ (PySem.ESX.drop_own _ _) I1.kIn hsup hI nC (by decide) ?_
  · exact fun A Q E s k q => wpAny_bind ((PySem.W.looks_clsIn I1.kIn hcl) A _ E s k (wpAny_pure q))
  · have hu : (h1.push (mw a)).get? h1.objs.size = some (mw a) := Heap.get?_push_at rfl rfl
    have I2 : Inv X pins σ H ⟨h1.push (mw a), g, d, t + 1, os⟩ := I1.kept (t' := t + 1) fun b o z => Heap.get?_push_of_some _ z
    have I3 : Inv X ((h1.objs.size, mw a) :: pins) σ H ⟨h1.push (mw a), g, d, t + 1, os⟩ := I2.pins_of fun p hp => by
      rcases List.mem_cons.mp hp with rfl | hp
      · exact ⟨hu, I1.hok.fresh (Nat.le_refl _), Nat.ne_of_gt I1.lt, I1.nofs (Nat.le_refl _), fun v z => by cases z⟩
      · exact I2.pin p (List.mem_append_right _ hp)
    show wpAny _ _ (callWith pos (.ref h1.objs.size) [] (backTo pos (starEach (e :: es) X.env)) []) _ _ _
    have hrun := ha.run pos ((h1.objs.size, mw a) :: pins) _ σ H _ I3 h
    rw [he] at hrun ⊢
    refine PySem.W.kxs_callWith (i := "ValueError.__init__") (x := a) (by show (false || (backTo pos (starEach es X.env)).any (·.1)) = false; rw [hpl]; rfl) (PySem.Calls.evalArgs_plain (thn hrun fun us s1 ⟨vs, H1, I4, r1, hz, ea1, q1⟩ => ?_))
    have hu1 := (I4.pin (h1.objs.size, mw a) (List.mem_append_right _ List.mem_cons_self)).1
    refine ⟨hu1, ?_⟩
    have hlen : us.length ≤ sizeLine := by
      rw [← Paired.length r1, sizeLine_eq]
      omega
    exact wcall_ok T.oex I4 ea1 hu1 hlen fun s' J => ⟨H1, J.pins_of fun p hp => J.pin p (List.mem_append_right _ (List.mem_cons_of_mem _ hp)), q1⟩
end
/-- THE RULE: such an __init__, by the rest of its body -/
theorem fn_super {CX : CXT} {P : Program} {w : World} {K : PySem.W.Frag} {mg : Str → Option Value} {base : Heap} {k : Nat} {C f cda cc : Addr} {name qual : Str} {params : Arguments} {rest : List Stmt} {scope : Scope} {dV kV doc pm ct oc : Value} {an od : Option Addr} {osl : Array (Option Value)} {N : List Str} {sp : Sp} {ar : Arg} {i : Nat} {e : Expr} {es : List Expr}
    {p0 p1 p2 pos pos3 : Pos} (T : SupK P K mg C f cda cc ar)
    (lk : K.lookup f = some ⟨oc, od, .func (PySem.W.fnX name qual params (.Expr (.Call (.Attribute (.Call (.Name "super" p0) [] [] p1) "__init__" p2) (e :: es) [] pos) pos3 :: rest) scope [("__class__", cc)] dV kV doc pm an (.ref cda) ct), osl⟩)
    (hcd : PySem.W.codeIn K (.ref cda) qual = true) (S : ScS N scope) (hself : N[i]? = some ar.arg) (len : ∀ vs H Q E, sp vs H Q E → vs.length = N.length)
    (hc : ∀ env : Env, eval (.Call (.Attribute (.Call (.Name "super" p0) [] [] p1) "__init__" p2) (e :: es) [] pos) env = (do
      let ov ← attributeBase (.Call (.Name "super" p0) [] [] p1) "__init__" env (eval (.Call (.Name "super" p0) [] [] p1) env)
      standAt p2.atName
      let (f, first) ← holding [ov] (getMethod ov "__init__" (plainOf (.Call (.Name "super" p0) [] [] p1) env))
      callWith pos f first (backTo pos (starEach (e :: es) env)) []))
    (he : ∀ env : Env, starEach (e :: es) env = (false, eval e env) :: starEach es env) (hpl : ∀ env : Env, (backTo pos (starEach es env)).any (·.1) = false)
    (hi : ∀ L : Addr, interactive (envS qual scope L f (.ref cda) cc) = false)
    (hsw : ∀ L : Addr, swapsWith (.Call (.Attribute (.Call (.Name "super" p0) [] [] p1) "__init__" p2) (e :: es) [] pos) none pos3.line (envS qual scope L f (.ref cda) cc) = pure false)
    (hbody : ∀ (A : Around) (outer : List Env) (s : Shared) (H : Hp) (vs : List V) (Q : VK) (E : XK), Room k (A.deeper (envS qual scope s.heap.objs.size f (.ref cda) cc)) → sp vs H Q E →
      ∃ a ta tr, vs[i]? = some (.ref a) ∧ H a = some (exo a C none) ∧ PA (cxS CX P w K mg base N qual scope f (.ref cda) cc A outer s H E) (e :: es) ta ∧ PSs (cxS CX P w K mg base N qual scope f (.ref cda) cc A outer s H E) rest tr ∧
        ta (vs.map some) H fun ws H1 => ws.length ≤ 1000 ∧ H1 a = some (exo a C none) ∧ tr { nx := fun _ H' => Q .non H', rt := Q } (vs.map some) H1) :
    FnOk P w K mg base CX (k + 1) f (PySem.W.fnX name qual params (.Expr (.Call (.Attribute (.Call (.Name "super" p0) [] [] p1) "__init__" p2) (e :: es) [] pos) pos3 :: rest) scope [("__class__", cc)] dV kV doc pm an (.ref cda) ct) N sp := by
  refine ⟨len, fun A outer s H args us vs Q E hr e0 hb r hsp => ?_⟩
  have hl := len _ _ _ _ hsp
  have KX : K.In s.heap := e0.mod.kin.keeps fun b o e => (e0.bs b o e).1
  have lim : s.heap.NoLimit := e0.mod.nolimit.keeps fun b o e => (e0.bs b o e).1
  obtain ⟨cl, cld, csl, hcell⟩ := T.cell
  obtain ⟨a, ta, tr, hva, ea, hA, hR, hq⟩ := hbody A outer s H vs Q E (hr.deeper _) hsp
  refine PySem.ks_codeAny_call_defAt (fd := PySem.W.fnX name qual params (.Expr (.Call (.Attribute (.Call (.Name "super" p0) [] [] p1) "__init__" p2) (e :: es) [] pos) pos3 :: rest) scope [("__class__", cc)] dV kV doc pm an (.ref cda) ct) (binds := N.zip us) hr.depth (KX _ _ lk) rfl lim (PySem.W.codeRec_of KX hcd) rfl hb
    S.nocell (fun x hx => S.par _ (List.of_mem_zip hx).1) (fun h1 hns hk => ?_) S.co S.gen S.kind
  have I : Inv (cxS CX P w K mg base N qual scope f (.ref cda) cc A outer s H E) [] (vs.map some) H { s with heap := h1, toks := s.toks + (N.zip us).length } :=
    inv_startS S hr.hd e0 hl r (e0.mod.kin _ _ hcell) rfl hns hk
  have hs' : (vs.map some)[i]? = some (some (V.ref a)) := by rw [List.getElem?_map, hva] <;> rfl
  refine PySem.ks_wpAt_execs_cons (PySem.ks_wpAt_Expr_any (PySem.ks_wpAt_mono (ws_super (X := cxS CX P w K mg base N qual scope f (.ref cda) cc A outer s H E) (Q := fun H1 => tr { nx := fun _ H' => Q .non H', rt := Q } (vs.map some) H1) T S rfl rfl hself hs' I ea hA (by exact hq) (he _) (hpl _) (fun _ _ => hc _)) (fun _ s' ⟨H1, I1, q1⟩ => ?_) fun _ _ x => x) (hi _) (hsw _))
  refine wpAt_of_wpAny (wpAny_mono (hR.run [] s' _ H1 _ I1 q1) (fun fl s2 hs => ?_) fun _ _ x => x)
  have fin : ∀ {σ' : L2.St} {H' : Hp} {v : V} {u : Value}, Inv (cxS CX P w K mg base N qual scope f (.ref cda) cc A outer s H E) [] σ' H' s2 → RelV v u → Q v H' → CE outer P w H s Q u s2 :=
    fun {σ' H' v u} J rv q => ⟨v, H', J.os, J.bare, J.base, J.hok, rv, q⟩
  cases fl with
  | ret u =>
    obtain ⟨v, σ', H', J, rv, q⟩ := hs
    exact fin J rv q
  | next =>
    obtain ⟨σ', H', J, q⟩ := hs
    exact fin (v := V.non) (u := Value.none) J rfl q
  | brk =>
    obtain ⟨_, _, _, q⟩ := hs
    exact False.elim q
  | cont =>
    obtain ⟨_, _, _, q⟩ := hs
    exact False.elim q
end BTX
end

section
set_option Elab.async false
set_option linter.all false
set_option maxRecDepth 100000
set_option maxHeartbeats 4000000
/-! BadText(row): the class's __init__, what is made -/
namespace LP
open PySem PySem.Spec PyProof.Rows L2 Ly GY
variable [LamTab] {P : Program} {W0 : World} {K : PySem.W.Frag} {mg : Str → Option Value} {base : Heap}
/-- what the head must tell of BadText -/
structure BadT (P : Program) (K : PySem.W.Frag) (mg : Str → Option Value) (C : Addr) : Prop where
  x : mg "BadText" = some (.ref C)
  norow : PySem.W.findIn K (.ref C) "row" = some none
  ex : ∃ f cda cc oc od kV doc pm an ct osl, BTX.SupK P K mg C f cda cc argBI ∧
    K.lookup f = some ⟨oc, od, .func (PySem.W.fnX "__init__" "BadText.__init__" (defArgs stBI) (defBody stBI) (defScope stBI) [("__class__", cc)] .none kV doc pm an (.ref cda) ct), osl⟩ ∧
    PySem.W.codeIn K (.ref cda) "BadText.__init__" = true ∧ PySem.W.findIn K (.ref C) "__init__" = some (some (.ref f)) ∧ PySem.W.typeIn K (.ref f) = some (.type "function")
def spBT (C : Addr) : Sp := fun vs H Q _ => ∃ (a : Addr) (i : Int), vs = [.ref a, .int i] ∧ i.natAbs.log2 < 1920 ∧ (toString i : Str).length ≤ 1000 ∧ H a = some (exo a C none) ∧ ∀ d, H d = none → d ≠ a → Q .non (upd (upd H d (exd d [("row", .int i)])) a (exo a C (some d)))
theorem scBI : BTX.ScS ["self", "row"] (defScope stBI) := ⟨rfl, rfl, rfl, by decide +kernel, by decide +kernel, by decide +kernel, by decide +kernel, by decide +kernel, by decide +kernel⟩
theorem bt_init {C : Addr} (B : BadT P K mg C) : ∃ f fd, FnOk P W0 K mg base CX0 1 f fd ["self", "row"] (spBT C) ∧ Binds K fd ["self", "row"] [] ∧ PySem.W.findIn K (.ref C) "__init__" = some (some (.ref f)) ∧ PySem.W.typeIn K (.ref f) = some (.type "function") ∧ OexC K C := by
  obtain ⟨f, cda, cc, oc, od, kV, doc, pm, an, ct, osl, T, lk, hcd, hi, ht⟩ := B.ex
  refine ⟨f, _, BTX.fn_super (N := ["self", "row"]) (i := 0) T lk hcd scBI (by decide +kernel) (fun vs H Q E h => ?_) (fun env => by rfl) (fun env => by rfl) (fun env => by rfl) (fun L => by rfl) (fun L => by rfl) (fun A outer s H vs Q E hr h => ?_), Binds.all fun us hl => match us, hl with | [_, _], _ => rfl, hi, ht, T.oex⟩
  · obtain ⟨a, i, rfl, _⟩ := h
    rfl
  · obtain ⟨a, i, rfl, hi1, hi2, ea, q⟩ := h
    refine ⟨a, _, _, rfl, ea, pa_cons (pe_joined (.cons pe_str (.cons (pe_fmt (pe_var (i := 1) rfl (.inl rfl))) (.cons pe_str .nil)))) pa_nil, pss_one (ps_ost (pe_var (i := 0) rfl (.inl rfl)) (pe_var (i := 1) rfl (.inl rfl))), ?_⟩
    refine ⟨"row ", rfl, by decide +kernel, ⟨.int i, rfl, .inr ⟨i, rfl, hi1, ⟨_, rfl, ?l2, ⟨_, rfl, ?l3, ?_⟩⟩⟩⟩⟩
    case l2 =>
      rw [Str.length_append, Str.length_append]
      have e1 : (Str.empty).length + ("row " : Str).length = 4 := by decide +kernel
      have hs : (2000 : Nat) < sizeLine := by decide
      have h2 : (toString i : Str).length ≤ 1000 := hi2
      omega
    case l3 =>
      rw [Str.length_append, Str.length_append, Str.length_append]
      have e1 : (Str.empty).length + ("row " : Str).length = 4 := by decide +kernel
      have e2 : (" can't stand there" : Str).length = 18 := by decide +kernel
      have hs : (2000 : Nat) < sizeLine := by decide
      have h2 : (toString i : Str).length ≤ 1000 := hi2
      omega
    exact ⟨(by show 1 ≤ 1000; decide), ea, ⟨.int i, rfl, .ref a, rfl, a, C, rfl, T.oex, B.norow, .inl ⟨ea, fun d hd hne => q d hd hne⟩⟩⟩
/-! ### BadText(row) made -/
/-- the row's number, small enough to be told -/
structure RowN (i : Int) : Prop where
  log : i.natAbs.log2 < 1920
  len : (toString i : Str).length ≤ 1000
def tBad (C : Addr) (te : TE) : L2.St → Hp → XK → Prop := tMkO C (spBT C) [] (tCons te tNil)
theorem pmk_bad {X : Cx} {C : Addr} {p pos : Pos} {e : Expr} {te : TE} (B : BadT X.prog X.K X.mg C) (hr : Room 2 X.A) (hg : Gl X "BadText") (he : PE X e te) (hs : starEach [e] X.env = (false, eval e X.env) :: starEach [] X.env := by rfl) (hpl : (backTo pos (starEach [] X.env)).any (·.1) = false := by rfl) :
    PMk X (.Call (.Name "BadText" p) [e] [] pos) (tBad C te) := by
  obtain ⟨f, fd, F, hb, hi, ht, T⟩ := bt_init (W0 := X.w) (base := X.base) B
  exact pmk_oex (X := X) (x := "BadText") (p := p) (pos := pos) (ds := []) (dvs := []) T hi ht F hr hb .nil pass0 hg B.x (pa_cons he pa_nil hs) (by decide) hs hpl
/-- the reading's end -/
theorem bad_mk {C : Addr} {i : Int} {H1 : Hp} {Q : XK} (r : RowN i) (h : ∀ d H2, Kp [] H1 H2 → H2 d = some (.xd [("row", .int i)]) → Q (.ref C) (some d) H2) :
    [V.int i].length ≤ 1000 ∧ ∀ a, H1 a = none → spBT C (.ref a :: ([V.int i] ++ [])) (upd H1 a (exo a C none))
      (fun v H2 => v = .non ∧ ∃ (d : Addr) (fs : List (Str × V)), H2 a = some (exo a C (some d)) ∧ H2 d = some (exd d fs) ∧ H1 d = none ∧ Q (.ref C) (some d) (upd (del H2 a) d (.xd fs))) (fun _ _ _ => False) := by
  refine ⟨by show 1 ≤ 1000; decide, fun a ha => ⟨a, i, rfl, r.log, r.len, upd_same, fun d hd hne => ⟨rfl, d, [("row", .int i)], upd_same, ?_, ?_, ?_⟩⟩⟩
  · rw [upd_ne hne, upd_same]
  · rw [upd_ne hne] at hd
    exact hd
  · have hd1 : H1 d = none := by
      rw [upd_ne hne] at hd
      exact hd
    have e : upd (del (upd (upd (upd H1 a (exo a C none)) d (exd d [("row", .int i)])) a (exo a C (some d))) a) d (.xd [("row", .int i)]) = upd H1 d (.xd [("row", .int i)]) := by
      funext b
      by_cases hb : b = d
      · rw [hb, upd_same, upd_same]
      · rw [upd_ne hb, upd_ne hb]
        by_cases hba : b = a
        · rw [hba, del_same, ha]
        · rw [del_ne hba, upd_ne hba, upd_ne hb, upd_ne hba]
    rw [e]
    exact h d _ (Kp.new hd1) upd_same
end LP
end

section
set_option Elab.async false
set_option linter.all false
set_option maxRecDepth 100000
set_option maxHeartbeats 4000000
/-! _check_rows of any rows -/
namespace LP
open PySem PySem.Spec PyProof.Rows L2 Ly GY
variable [LamTab] {P : Program} {W0 : World} {K : PySem.W.Frag} {mg : Str → Option Value} {base : Heap}
theorem rowN_of {n : Nat} (h : n ≤ 100001) : RowN (n : Int) := by
  have hl : ((n : Int)).natAbs.log2 < 20 := by
    by_cases h0 : n = 0
    · subst h0
      decide
    · rw [Int.natAbs_natCast, Nat.log2_lt h0]
      omega
  refine ⟨by omega, ?_⟩
  have e := PySem.int_text_length_le (a := (n : Int)) (k := 20) (by decide) hl
  show (Str.ofString (toString (n : Int))).length ≤ 1000
  rw [PySem.ofString_length]
  omega
/-- the row that is refused -/
inductive RefR (rows : List Str) : Nat → Prop where
  | row (n : Nat) (r : Str) (h : rows[n]? = some r) (c : canB n r = false) (b : ∀ j r, j < n → rows[j]? = some r → canB j r = true) : RefR rows n
  | len (h : ∀ j r, rows[j]? = some r → canB j r = true) (l : rows.length % 5 ≠ 4) : RefR rows rows.length
  | top (h : ∀ j r, rows[j]? = some r → canB j r = true) (l : rows.length % 5 = 4) (t : (rows.drop (rows.length - 4)).any hasS = false) : RefR rows (rows.length - 1)
theorem RefR.uniq {rows : List Str} {m n : Nat} (h1 : RefR rows m) (h2 : RefR rows n) : m = n := by
  cases h1 with
  | row m r hm cm bm =>
    cases h2 with
    | row n r2 hn cn bn =>
      rcases Nat.lt_trichotomy m n with z | z | z
      · rw [bn m r z hm] at cm
        cases cm
      · exact z
      · rw [bm n r2 z hn] at cn
        cases cn
    | len h l =>
      rw [h m r hm] at cm
      cases cm
    | top h l t =>
      rw [h m r hm] at cm
      cases cm
  | len h l =>
    cases h2 with
    | row n r2 hn cn bn =>
      rw [h n r2 hn] at cn
      cases cn
    | len h l => rfl
    | top h2 l2 t => exact absurd l2 l
  | top h l t =>
    cases h2 with
    | row n r2 hn cn bn =>
      rw [h n r2 hn] at cn
      cases cn
    | len h2 l2 => exact absurd l l2
    | top h2 l2 t2 => rfl
theorem RefR.bad {rows : List Str} {n : Nat} (h : RefR rows n) (g : GoodR rows) : False := by
  cases h with
  | row n r hm cm bm =>
    rw [g.can n r hm] at cm
    cases cm
  | len h l => exact l g.len
  | top h l t =>
    rw [g.top] at t
    cases t
/-- short enough to be looked at -/
structure Fit (rows : List Str) : Prop where
  len : rows.length ≤ 100000
  row : ∀ r ∈ rows, r.length ≤ 100000
theorem itYn {i j : Int} {A B : Prop} (h : i ≠ j) (a : A) : if (!decide (V.int i = V.int j)) = true then A else B := by
  rw [decide_eq_false fun z => h (V.int.inj z)]
  exact a
def spChkAll (K : PySem.W.Frag) (Pq Pk C : Addr) : Sp := fun vs H Q E => ∃ (a : Addr) (rows : List Str), vs = [.ref a] ∧ SqL K H a (rows.map V.str) ∧ Fit rows ∧ TGen H Pq ∧ TGen H Pk ∧ (GoodR rows → ∀ H', Kp [] H H' → Q .non H') ∧
  ∀ (n : Nat) (d : Addr) (H' : Hp), RefR rows n → Kp [] H H' → H' d = some (.xd [("row", .int (n : Int))]) → E (.ref C) (some d) H'
theorem ok_chkall {f c Pq Pk fC C : Addr} {fd dC : FuncData} (F : FunC K "_check_rows" "_check_rows" sChkRows f fd c) (TB : GxR.TabB base mg c Pk) (T : Nm K mg) (N : Nn mg) (B : BadT P K mg C) (NC : Fn K mg "_can_stand" fC dC ["at", "row"]) (GC : FnOk P W0 K mg base CX0 3 fC dC ["at", "row"] (spCan Pq)) :
    FnOk P W0 K mg base (L2.CX P W0) 4 f fd ["rows"] (spChkAll K Pq Pk C) := by
  obtain ⟨ts, mS⟩ := T.side
  obtain ⟨t2, m2⟩ := N.lrows
  refine F.okX scChkRows (fun vs H Q E h => ?_) (fun A outer s H vs Q E hr h => ?_)
  · obtain ⟨a, rows, rfl, _⟩ := h
    rfl
  · obtain ⟨a, rows, rfl, hT, hg, hPq, hPk, q, qE⟩ := h
    have hr2 : Room 2 _ := hr.mono (by decide)
    refine ⟨_, pss_cons (ps_for (passes_of rfl) rfl (pi_enum (by rfl) N.enumerate (pa_cons (pv 0) pa_nil)) (pg_tup rfl (pgs_cons (pg_name (i := 1) scChkRows.nd rfl (.inl rfl)) (pgs_cons (pg_name (i := 2) scChkRows.nd rfl (.inl rfl)) pgs_nil)))
        (pss_one (ps_if (pt_not (pt_val (pe_call GC hr (by rfl) NC.m NC.kp NC.b .nil pass0 (pa_cons (pv 1) (pa_cons (pv 2) pa_nil))))) (pss_one (ps_raise rfl (takes_of rfl rfl rfl rfl) (pmk_bad B hr2 (by rfl) (pv 1)))) pss_nil)))
      (pss_cons (ps_if (pt_cmpR op_ne (pe_op op_mod (pe_callB call_len_seq (by rfl) T.len PySem.boot_len (pa_cons (pv 0) pa_nil)) (pe_glob (v := .int 5) rfl m2 ⟨_, rfl⟩)) (pe_glob (v := .int 4) rfl mS ⟨_, rfl⟩) (nomark _)) (pss_one (ps_raise rfl (takes_of rfl rfl rfl rfl) (pmk_bad B hr2 (by rfl) (pe_callB call_len_seq (by rfl) T.len PySem.boot_len (pa_cons (pv 0) pa_nil))))) pss_nil)
      (pss_one (ps_if (pt_not (pt_val (pe_fr fun hf => GS.pe_anyG (k := 1) hr (by rfl) N.any TB rfl hf gChkRows (pi_list (pe_slice sl_list (pv 0) (po_some (pe_un un_neg (pe_glob (v := .int 4) rfl mS ⟨_, rfl⟩))) po_none))
          (fun A s H C code fp hr1 => pe_cmpR op_in_str pe_str (pv 3) (by rfl))))) (pss_one (ps_raise rfl (takes_of rfl rfl rfl rfl) (pmk_bad B hr2 (by rfl) (pe_op op_sub (pe_callB call_len_seq (by rfl) T.len PySem.boot_len (pa_cons (pv 0) pa_nil)) pe_int)))) pss_nil))), ?_⟩
    have hml : (rows.map V.str).length = rows.length := List.length_map ..
    have hlen := hg.len
    refine ⟨_, rfl, a, _, rfl, hT, for_it (walk_enum (xs := rows.map V.str)) (fun i σ H' => Kp [] H H' ∧ (∀ j r, j < i → rows[j]? = some r → canB j r = true) ∧ ∃ o1 o2, σ = [some (.ref a), o1, o2]) ⟨Kp.refl _ _, fun j r z => absurd z (Nat.not_lt_zero _), ⟨_, _, rfl⟩⟩
      (fun i σ H' _ pv => pv.1.sqL hT List.not_mem_nil) (fun i x σ H' H2 hi pv y => ?st) (fun σ H' pv => ?dn)⟩
    case st =>
      obtain ⟨k, hcan, ⟨o1, o2, rfl⟩⟩ := pv
      obtain ⟨Tt, x1, x2, rfl, hTn, rfl, e1, e2⟩ := y
      cases e1
      have kt := Kp.new (S := []) (o := .tup [.int (i : Int), x2]) hTn
      have e2 : (rows.map V.str)[i]? = some x2 := e2
      rw [List.getElem?_map] at e2
      obtain ⟨r, hrr, rfl⟩ := Option.map_eq_some_iff.mp e2
      have k2 := k.trans kt
      refine ⟨Tt, _, rfl, SqT.of upd_same, rfl, _, _, rfl, _, _, rfl, rfl, ?_⟩
      have hs4 := hg.row r (List.mem_of_getElem? hrr)
      refine ⟨_, rfl, _, rfl, i, r, rfl, hs4, k2.tab _ hPq, fun H3 k3 => ⟨_, rfl, ?_⟩⟩
      cases hc : canB i r with
      | true =>
        refine iteF ⟨k2.trans k3, fun j r' hj hr' => ?_, _, _, rfl⟩
        rcases Nat.lt_or_ge j i with z | z
        · exact hcan j r' z hr'
        · obtain rfl : j = i := by omega
          rw [hrr] at hr'
          cases hr'
          exact hc
      | false =>
        have hil : i < rows.length := (List.getElem?_eq_some_iff.mp hrr).1
        exact iteT ⟨_, rfl, bad_mk (rowN_of (by omega)) fun d H4 k4 e4 => qE i d H4 (.row i r hrr hc hcan) ((k2.trans k3).trans k4) e4⟩
    case dn =>
      obtain ⟨k, hcan, ⟨o1, o2, rfl⟩⟩ := pv
      have hT2 := k.sqL hT List.not_mem_nil
      have hall : ∀ j r, rows[j]? = some r → canB j r = true := fun j r hj => hcan j r (by rw [hml]; exact (List.getElem?_eq_some_iff.mp hj).1) hj
      refine ⟨_, rfl, a, _, rfl, .inl hT2, _, _, rfl, rfl, (by show (0 : Int) < 5; decide), rfl, _, rfl, ?_⟩
      by_cases c4 : rows.length % 5 = 4
      · refine itN (by rw [hml]; omega) ?_
        refine ⟨_, rfl, _, rfl, _, rfl, a, _, rfl, hT2, fun r hr' => ⟨r, rfl, ⟨_, SqL.of upd_same⟩, ?_⟩⟩
        have ecut : cutV (rows.map V.str) (some (-4)) none = (rows.drop (rows.length - 4)).map V.str := by
          rw [cut4 (by rw [hml]; omega), hml, List.map_drop]
        have e1 : upd H' r (.lst (cutV (rows.map V.str) (some (-4)) none)) r = some (.lst ((rows.drop (rows.length - 4)).map V.str)) := by rw [ecut]; exact upd_same
        have k1 : Kp [] H' (upd H' r (.lst (cutV (rows.map V.str) (some (-4)) none))) := Kp.new hr'
        have hPk1 := (k.trans k1).tab _ hPk
        refine ⟨hPk1.1, fun H2 tb => ?_⟩
        have k2 := Kp.tabbed (S := []) hPk1 tb
        have e2 := k2.lst e1 List.not_mem_nil
        have k02 := (k.trans k1).trans k2
        refine ⟨_, _, ⟨Nat.zero_le _, ?p0⟩, GX.turn_lst (xs := (rows.drop (rows.length - 4)).map V.str) (fun i H' => Kp [] H2 H' ∧ ((rows.drop (rows.length - 4)).take i).any hasS = false) rfl (fun i H' _ pv => SqL.of (pv.1.lst e2 List.not_mem_nil)) (fun i x H' hx pv => ?ps) (fun H' pv => ?pd)⟩
        case p0 => exact ⟨Kp.refl _ _, rfl⟩
        case ps =>
          obtain ⟨k3, pf⟩ := pv
          have hil := (List.getElem?_eq_some_iff.mp hx).1
          rw [List.getElem?_map] at hx
          obtain ⟨w, hw, rfl⟩ := Option.map_eq_some_iff.mp hx
          refine ⟨_, rfl, _, _, rfl, rfl, _, rfl, ?_⟩
          have ei : (!(Builtin.Str.occurrences w "#" 0 w.length 1).isEmpty) = hasS w := StrLaws.found_one w 35
          rw [ei]
          cases e : hasS w with
          | true => exact iteT ⟨_, rfl, iteF (q ⟨hall, c4, List.any_eq_true.mpr ⟨w, List.mem_of_getElem? hw, e⟩⟩ _ (k02.trans k3))⟩
          | false =>
            refine iteF ⟨hil, k3, ?_⟩
            rw [List.take_add_one, hw, List.any_append, pf]
            simp [e]
        case pd =>
          obtain ⟨k3, pf⟩ := pv
          rw [List.take_of_length_le (by rw [List.length_map]; exact Nat.le_refl _)] at pf
          have hT3 := (k02.trans k3).sqL hT List.not_mem_nil
          refine ⟨_, rfl, iteT ?_⟩
          refine ⟨_, rfl, a, _, rfl, .inl hT3, _, _, rfl, rfl, ?_⟩
          have en : ((rows.map V.str).length : Int) - 1 = ((rows.length - 1 : Nat) : Int) := by rw [hml]; omega
          have z := bad_mk (C := C) (H1 := H') (Q := E) (rowN_of (n := rows.length - 1) (by omega)) fun d H4 k4 e4 => qE _ d H4 (.top hall c4 pf) ((k02.trans k3).trans k4) e4
          rw [← en] at z
          exact z
      · refine itYn (by rw [hml]; omega) ?_
        refine ⟨_, rfl, a, _, rfl, .inl hT2, ?_⟩
        rw [hml]
        exact bad_mk (rowN_of (by omega)) fun d H4 k4 e4 => qE _ d H4 (.len hall c4) (k.trans k4) e4
end LP
end

section
set_option Elab.async false
set_option linter.all false
set_option maxRecDepth 100000
set_option maxHeartbeats 4000000
/-! read of any text -/
namespace LP
open PySem PySem.Spec PyProof.Rows L2 Ly GY
variable [LamTab] {P : Program} {W0 : World} {K : PySem.W.Frag} {mg : Str → Option Value} {base : Heap}
theorem fit_split {x : Str} (h : x.length ≤ 10000) : Fit (Txt.split x "\n") := by
  have h1 := split_weight x "\n" (by decide +kernel)
  exact ⟨by omega, fun r hr => by
    have := part_short hr
    omega⟩
def spReadAll (K : PySem.W.Frag) (Pq Pk C : Addr) : Sp := fun vs H Q E => ∃ text : Str, vs = [.str text] ∧ text.length ≤ 10000 ∧ TGen H Pq ∧ TGen H Pk ∧
  (text = "" ∨ GoodR (Txt.split text "\n") → ∀ (H' : Hp) (v : V) (ds : List C3), Kp [] H H' → Body K H' v (.cells ds) → ds.Perm (if text = "" then [] else FR (Txt.split text "\n") (Txt.split text "\n").length) → (ds.Pairwise fun a b => ¬ lt3 b a) → Q v H') ∧
  (text ≠ "" → ∀ (n : Nat) (d : Addr) (H' : Hp), RefR (Txt.split text "\n") n → Kp [] H H' → H' d = some (.xd [("row", .int (n : Int))]) → E (.ref C) (some d) H')
theorem ok_readall {f Pq Pk fC C : Addr} {fd dC : FuncData} (F : Fun K "read" "read" sRead f fd) (T : Nm K mg) (N : Nn mg) (NC : Fn K mg "_check_rows" fC dC ["rows"]) (GC : FnOk P W0 K mg base (L2.CX P W0) 4 fC dC ["rows"] (spChkAll K Pq Pk C)) :
    FnOk P W0 K mg base (L2.CX P W0) 5 f fd ["text"] (spReadAll K Pq Pk C) := by
  obtain ⟨t2, m2⟩ := N.lrows
  refine F.okX scRead (fun vs H Q E h => ?_) (fun cdv A outer s H vs Q E hr h => ?_)
  · obtain ⟨text, rfl, _⟩ := h
    rfl
  · obtain ⟨text, rfl, htl, hPq, hPk, q, qE⟩ := h
    refine ⟨_, pss_cons (ps_if (pt_cmpR op_eq (pv 0) pe_str (nomark _)) (pss_one (ps_ret (pe_tup (pa_cons pe_str (pa_cons (pe_tup pa_nil) pa_nil))))) pss_nil)
      (pss_cons (ps_set (i := 1) scRead.nd rfl (.inl rfl) (pe_split (pv 0) pe_str))
      (pss_cons (ps_expr (pe_call (E := fun cls d H => E cls d H) GC hr (by rfl) NC.m NC.kp NC.b .nil (passes_call (takes_of rfl rfl rfl rfl) fun _ _ _ _ h => h) (pa_cons (pv 1) pa_nil)))
      (pss_cons (ps_setLc2 (i := 2) (own := [("at", 3), ("row", 4), ("x", 5), ("sign", 6)]) (vs1 := [5, 6]) (g := gTup K 2 (gCons (gName 3) (gCons (gName 4) gNil))) (g1 := gTup K 2 (gCons (gName 5) (gCons (gName 6) gNil))) (wi1 := GE.iEnumS (tCons (tVar 4) tNil)) rfl scRead.nd rfl rfl (sw_true rfl rfl rfl (by decide +kernel))
          (pi_enum (by rfl) N.enumerate (pa_cons (pv 1) pa_nil)) (blkOk_by (own := [("at", 3), ("row", 4), ("x", 5), ("sign", 6)]) (N := ["text", "rows", "found", "at", "row", "x", "sign"]) (sc := defScope sRead) (by decide +kernel)) (by decide)
          (fun _ _ _ _ _ => pg_tup rfl (pgs_cons (pg_name (i := 3) scRead.nd rfl (.inl rfl)) (pgs_cons (pg_name (i := 4) scRead.nd rfl (.inl rfl)) pgs_nil))) (fun _ _ _ _ _ => pts_nil)
          (fun _ _ _ _ _ => GE.pi_enumS (by rfl) N.enumerate (pa_cons (pv 4) pa_nil))
          (fun _ _ _ _ _ => pg_tup rfl (pgs_cons (pg_name (i := 5) scRead.nd rfl (.inl rfl)) (pgs_cons (pg_name (i := 6) scRead.nd rfl (.inl rfl)) pgs_nil))) (fun _ _ _ _ _ => pts_one (pt_cmpR op_eq (pv 6) pe_str (nomark _)))
          (fun _ _ _ _ _ => pe_tup (pa_cons (pv 5) (pa_cons (pe_op op_mod (pv 3) (pe_glob (v := .int 5) rfl m2 ⟨_, rfl⟩)) (pa_cons (pe_op op_fdiv (pv 3) (pe_glob (v := .int 5) rfl m2 ⟨_, rfl⟩)) pa_nil)))))
      (pss_one (ps_ret (pe_tup (pa_cons pe_str (pa_cons (pe_callTy call_tuple_of (by rfl) T.tuple (by decide +kernel) (pa_cons (pe_callB (cr_sortC hr.units) (by rfl) T.sorted (by decide +kernel) (pa_cons (pv 2) pa_nil)) pa_nil)) pa_nil)))))))), ?_⟩
    refine ⟨_, rfl, rfl, _, rfl, ?_⟩
    by_cases c0 : text = ""
    · subst c0
      refine itD1 rfl ?_
      refine ⟨(by show 0 ≤ sizeLine; decide), fun t1 h1 => ⟨(by show 2 ≤ sizeLine; decide), fun t2 h2 => ?_⟩⟩
      have k1 := Kp.new (S := []) (o := .tup []) h1
      have k2 := Kp.new (S := []) (o := .tup [.str "cells", .ref t1]) h2
      exact q (.inl rfl) _ _ [] (k1.trans k2) (.tup (SqT.of upd_same) (.cons (.str _) (.cons (.tup (k2.sqT (SqT.of upd_same)) .nil) .nil))) (.refl _) .nil
    · refine itD0 (fun e => c0 (V.str.inj e)) ?_
      have hfit := fit_split (x := text) htl
      have hs : (100000 : Nat) < sizeLine := by decide
      have hs2 : (100002 : Nat) < sizeLine := by decide
      refine ⟨_, rfl, ⟨_, rfl⟩, text, "\n", rfl, rfl, by decide +kernel, by omega, fun r hr' => ?_⟩
      have q := q
      generalize Txt.split text "\n" = rows at hfit q qE ⊢
      refine nameI (i := 1) (v := .ref r) (σ := [some (.str text), none, none, none, none, none, none]) ?_
      have k1 : Kp [] H (upd H r (.lst (rows.map V.str))) := Kp.new hr'
      have e1 : upd H r (.lst (rows.map V.str)) r = some (.lst (rows.map V.str)) := upd_same
      generalize upd H r (.lst (rows.map V.str)) = H1 at k1 e1 ⊢
      refine ⟨_, rfl, r, rows, rfl, SqL.of e1, hfit, k1.tab _ hPq, k1.tab _ hPk, fun hg H2 k2 => ?_, fun n d H' hn k e => qE c0 n d H' hn (k1.trans k) e⟩
      have e2 := k2.lst e1 List.not_mem_nil
      have k02 := k1.trans k2
      refine ⟨_, rfl, r, _, rfl, SqL.of e2, fun D hD => ?_⟩
      have kD : Kp [] H2 (upd H2 D (.lst [])) := Kp.new hD
      have h19 := hg.few
      have hml : (rows.map V.str).length = rows.length := List.length_map ..
      refine ⟨fun i m H' => m = rows.length - i ∧ i ≤ rows.length ∧ Kp [] H2 H' ∧ ∃ acc, H' D = some (.lst acc) ∧ Items K H' acc (FR rows i), ⟨rows.length, rfl, Nat.zero_le _, kD, [], upd_same, .nil⟩, fun i m H' w => ?_⟩
      obtain ⟨rfl, hi, k, acc, hA, hI⟩ := w
      by_cases hlt : i < rows.length
      · have hri : rows[i]? = some rows[i] := List.getElem?_eq_getElem hlt
        have hgd : rows.getD i "" = rows[i] := by rw [List.getD_eq_getElem?_getD, hri]; rfl
        have hs4 := hg.short (List.getElem_mem hlt)
        generalize rows[i] = row at hri hgd hs4
        have hxi : (rows.map V.str)[i]? = some (.str row) := by rw [List.getElem?_map, hri]; rfl
        refine .inr ⟨⟨rows.map V.str, .str row, SqL.of (k.lst e2 List.not_mem_nil), hxi⟩, fun H'' => Kp [] H2 H'' ∧ ∃ acc, H'' D = some (.lst acc) ∧ Items K H'' acc (FR rows (i + 1)), fun H'' w => ⟨rows.length - (i + 1), by omega, rfl, hlt, w⟩, fun x H'' yy => ?_⟩
        obtain ⟨Tt, x2, rfl, hTn, rfl, hx2⟩ := yy
        have hx3 := hx2 _ (SqL.of (k.lst e2 List.not_mem_nil))
        rw [hxi] at hx3
        cases hx3
        have kt := Kp.new (S := []) (o := .tup [.int (i : Int), .str row]) hTn
        refine ⟨Tt, _, rfl, SqT.of upd_same, rfl, _, _, rfl, _, _, rfl, rfl, rfl, ?_⟩
        refine yesP ?_
        refine ⟨_, rfl, row, rfl, ?_⟩
        have hA1 := kt.lst hA List.not_mem_nil
        have hI1 := items_mono kt hI
        have k3 := k.trans kt
        generalize upd H' Tt (.tup [.int (i : Int), .str row]) = H3 at hA1 hI1 k3 ⊢
        refine ⟨fun j m H' => m = row.cps.size - j ∧ j ≤ row.cps.size ∧ Kp [] H2 H' ∧ ∃ acc, H' D = some (.lst acc) ∧ Items K H' acc (FR rows i ++ fRT i row j), ⟨row.cps.size, rfl, Nat.zero_le _, k3, acc, hA1, by rw [show fRT i row 0 = [] from rfl, List.append_nil]; exact hI1⟩, fun j m H4 w => ?_⟩
        obtain ⟨rfl, hj, k4, acc4, hA4, hI4⟩ := w
        by_cases hlt2 : j < row.cps.size
        · refine .inr ⟨hlt2, fun H'' => Kp [] H2 H'' ∧ ∃ acc, H'' D = some (.lst acc) ∧ Items K H'' acc (FR rows i ++ fRT i row (j + 1)), fun H'' w => ⟨row.cps.size - (j + 1), by omega, rfl, hlt2, w⟩, fun x H5 yy => ?_⟩
          obtain ⟨T2, c, rfl, hTn2, hc, rfl⟩ := yy
          have kt2 := Kp.new (S := []) (o := .tup [.int (j : Int), .str ⟨#[c]⟩]) hTn2
          refine ⟨T2, _, rfl, SqT.of upd_same, rfl, _, _, rfl, _, _, rfl, rfl, rfl, ?_⟩
          have k5 := k4.trans kt2
          have hA5 := kt2.lst hA4 List.not_mem_nil
          have hI5 := items_mono kt2 hI4
          generalize upd H4 T2 (.tup [.int (j : Int), .str ⟨#[c]⟩]) = H5 at k5 hA5 hI5 ⊢
          refine ⟨_, rfl, rfl, _, rfl, ?_⟩
          rw [fRT_succ]
          by_cases h35 : c = 35
          · subst h35
            rw [if_pos hc]
            refine itD1 rfl ?_
            refine ⟨_, rfl, _, rfl, _, _, rfl, rfl, (by show (0 : Int) < 5; decide), _, rfl, _, _, rfl, rfl, ⟨by show (0 : Int) < 5; decide, by show (5 : Int) < 1073741824; decide⟩, (by show 3 ≤ sizeLine; decide), fun tn htn => ?_⟩
            have kn := Kp.new (S := []) (o := .tup [.int (j : Int), .int ((i : Int) % 5), .int ((i : Int) / 5)]) htn
            have hA6 := kn.lst hA5 List.not_mem_nil
            have hl4 := hI4.length
            have hfl := FR_len hg i hi
            have hft := fRT_len i row j
            have hrs : row.cps.size ≤ 4 := hs4
            rw [List.length_append] at hl4
            have kc : Kp [D] _ (upd (upd H5 tn (.tup [.int (j : Int), .int ((i : Int) % 5), .int ((i : Int) / 5)])) D (.lst (acc4 ++ [.ref tn]))) := Kp.chg hA6 (List.mem_singleton.mpr rfl)
            refine ⟨acc4, hA6, small_size (by omega), (k5.trans kn).chg0 hD hA6, _, upd_same, ?_⟩
            rw [← List.append_assoc]
            exact Items.append (items_mono kc (items_mono kn hI5)) (Items.one (dp_c (c := ((j : Int), ((i % 5 : Nat) : Int), ((i / 5 : Nat) : Int))) (kc.sqT (SqT.of upd_same))))
          · rw [if_neg (fun e => h35 (by rw [hc] at e; exact Option.some.inj e)), List.append_nil]
            refine itD0 (fun e => h35 ?_) ⟨k5, acc4, hA5, hI5⟩
            have e2 : (⟨#[c]⟩ : Str) = ⟨#[35]⟩ := V.str.inj e
            have e3 := congrArg (fun s : Str => s.cps.toList) e2
            simpa using e3
        · have ej : j = row.cps.size := by omega
          subst ej
          refine .inl ⟨rfl, k4, acc4, hA4, ?_⟩
          rw [FR_succ, hgd]
          exact hI4
      · have ei : i = rows.length := by omega
        subst ei
        have e3 := k.lst e2 List.not_mem_nil
        refine .inl ⟨⟨_, SqL.of e3, by rw [hml]; exact Nat.le_refl _⟩, ?_⟩
        refine nameI (i := 2) (v := .ref D) (σ := [some (.str text), some (.ref r), none, none, none, none, none]) ?_
        have hfl := FR_len hg rows.length (Nat.le_refl _)
        have hil := hI.length
        refine ⟨_, rfl, .ref D, FR rows rows.length, rfl, cellsL_of hA hI, Nat.le_of_lt (small_size (by omega)), fun ys ds p hp hso hit hn => ?_⟩
        have kp : Kp [] H' (upd H' p (.lst ys)) := Kp.new hn
        refine ⟨p, _, rfl, .inl ⟨SqL.of upd_same, fun t5 ht5 => ?_⟩⟩
        have k5 := Kp.new (S := []) (o := .tup ys) ht5
        refine ⟨(by show 2 ≤ sizeLine; decide), fun t6 ht6 => ?_⟩
        have k6 := Kp.new (S := []) (o := .tup [.str "cells", .ref t5]) ht6
        refine q (.inr hg) _ _ ds ((((k02.trans k).trans kp).trans k5).trans k6) (.tup (SqT.of upd_same) (.cons (.str _) (.cons (.tup (k6.sqT (SqT.of upd_same)) ?_) .nil))) (by rw [if_neg c0]; exact hp) hso
        exact items_mono k6 (items_mono k5 (items_mono kp hit))
end LP
end

section
set_option Elab.async false
set_option linter.all false
set_option maxRecDepth 100000
set_option maxHeartbeats 4000000
/-! isinstance of a caught error that has its dict; of a tuple of classes -/
namespace BXX
open PySem PySem.Spec PySem.Calls PyProof.Rows PySem.W L2
section
variable {prog : Program} {w : World} {A : Around} {E : Value → Shared → Prop} {s : Shared} {K : Frag} {x D : Addr}
/-- e.__class__, whatever dict e has -/
theorem cls_asked {od : Option Obj} {ox : Obj} {Q : Option Value → Shared → Prop} (C : ExcC K D) (X : K.In s.heap) (I : InstAt s.heap x ox D od) (h : Q (some (.ref D)) { s with toks := s.toks + 1 }) : wpAny (model prog w) A (getAttr? (.ref x) "__class__") Q E s := by
  have isd : (clsIn K D).isSome = true := by
    obtain ⟨cd, hc, _⟩ := any_some C.hd
    rw [hc] <;> rfl
  have found : findObj K D od "__class__" = some (.bind (.builtin "getset_descriptor.__get__") (.builtin "object.__class__")) := by
    obtain ⟨cd, hc⟩ := Option.isSome_iff_exists.mp isd
    unfold findObj
    rw [hc, Option.bind_some, C.ha, Option.bind_some]
    simp [C.hn, C.ht]
  obtain ⟨hp, g, d, t, os⟩ := s
  have lt := I.type (M := model prog w)
  have lg := looks_findIn (M := model prog w) X C.hg
  have lk := looks_findIn (M := model prog w) X C.hk
  have lf := looks_find (M := model prog w) X I found
  have sub : Looks (model prog w) hp (isInstance (.ref x) (.type "BaseException")) true := lt.andThen (looks_subIn X C.hs)
  have n1 : (false && onTheHeap (Value.builtin "BaseException.__getattribute__")) = false := rfl
  have n2 : (onTheHeap (Value.ref D) && Value.builtin "BaseException.__getattribute__" == Value.builtin "object.__getattribute__") = false := by
    rw [show (Value.builtin "BaseException.__getattribute__" == Value.builtin "object.__getattribute__") = false by decide +kernel] <;> rfl
  unfold getAttr? getAttrBy? getAttrBy
  refine wpAny_bind (wpAny_mkText (wpAny_bind (wpAny_attempt (wpAny_holding (wpAny_bind (lt.at (wpAny_bind (lg.at ?_))))))))
  show wpAny _ _ (if (onTheHeap (Value.ref D) && Value.builtin "BaseException.__getattribute__" == Value.builtin "object.__getattribute__") = true then _ else _) _ _ _
  rw [n2, if_neg Bool.false_ne_true]
  unfold getAttrByItsOwn hookBefore
  refine wpAny_bind ?_
  rw [if_pos (show onTheHeap (Value.ref D) = true from rfl)]
  refine lk.at (wpAny_bind (wpAny_attempt (wpAny_holding ?_)))
  unfold callGetattribute
  rw [n1, if_neg Bool.false_ne_true]
  unfold boundAndCalled
  rw [PySem.F.excAttr_ValueError.ga.bind (.ref x)]
  refine wpAny_bind (wpAny_pure ?_)
  show wpAny _ _ (call (.builtin "BaseException.__getattribute__") [.ref x, .str "__class__" t]) _ _ _
  refine wpAny_call (codeAny_call_builtin PySem.F.excAttr_ValueError.ga.plain PySem.F.entry_bexc_ga ?_)
  refine @check_slot (model prog w) _ _ ⟨hp, g, d, t + 1, os⟩ "BaseException.__getattribute__" "BaseException" "__getattribute__" (.ref x) [.str "__class__" t] [] _ (by decide +kernel) (by decide +kernel) sub (PySem.F.args_bexc_ga (.ref x) (.str "__class__" t)) ?_
  unfold Builtin.«object.__getattribute__»
  refine wpAny_bind (wpAny_of_eq (a := ((Value.ref x : Value), [Value.str "__class__" t])) (by first | rfl | (simp only [slotArgs]; rfl)) ?_)
  refine wpAny_bind (wpAny_pure (wpAny_bind (lt.at (wpAny_bind (lf.at ?_)))))
  show wpAny _ _ (holding [Value.builtin "object.__class__"] (call (.builtin "getset_descriptor.__get__") [.builtin "object.__class__", .ref x, .ref D]) >>= ret) _ _ _
  refine wpAny_bind (wpAny_holding (wpAny_call (class_get (s := ⟨hp, g, d, t + 1, os⟩) (ox := ox) (od := od) X I C.hm ?_)))
  refine wpAny_pure ?_
  show wpAny _ _ (handedOut (.ref D)) _ _ _
  rw [handedOut_of (v := .ref D) rfl]
  first
    | exact wpAny_pure (wpAny_pure h)
    | exact wpAny_pure h
    | exact wpAny_pure (wpAny_bind (wpAny_pure (wpAny_pure h)))
theorem kit_exc (C : ExcC K D) : KitX K (.ref x) (.ref D) (fun h => ∃ ox od, InstAt h x ox D od) where
  ty := fun _ _ _ ⟨_, _, I⟩ => I.type
  it := fun _ _ X _ => by
    obtain ⟨cdD, hcD, _⟩ := any_some C.hd
    unfold clsIn at hcD
    split at hcD
    · rename_i ho
      intro A' Q' E' s' k q
      unfold isType loadHead
      exact wpAny_bind (wpAny_loadPart (k _ _ (X _ _ ho)) (wpAny_pure q))
    · cases hcD
  ne := fun h tp dd its n sl X htp => by
    obtain ⟨cdD, hcD, _⟩ := any_some C.hd
    refine Bool.eq_false_iff.mpr fun q => ?_
    obtain rfl : D = tp := Value.ref.inj (beq_iff_eq.mp q)
    unfold clsIn at hcD
    split at hcD
    · rename_i ho
      have z := (X _ _ ho).symm.trans htp
      cases z
    · cases hcD
  ca := fun X ⟨_, _, I⟩ k => cls_asked C X I k
end
/-- isinstance(e, c) and isinstance(e, (c, ..)), e the exception that the suite holds, with its dict dd -/
def rIsD (K : PySem.W.Frag) (D a dd : Addr) : List V → Hp → VK → Prop := fun xs H Q => (∃ fs, H dd = some (.xd fs)) ∧
  ((∃ (c : V) (cv : Value) (b : Bool), xs = [.ref a, c] ∧ (∀ u, RelV c u → u = cv) ∧ kitOne K (.ref D) cv = some b ∧ Q (.bl b) H) ∨
   ∃ (t : Addr) (cs : List V) (cvs : List Value) (b : Bool), xs = [.ref a, .ref t] ∧ SqT K H t cs ∧ (∀ us, Vals cs us → us = cvs) ∧ kitAny K (.ref D) cvs = some b ∧ Q (.bl b) H)
theorem call_isD {X : Cx} {a D dd : Addr} {oe : Obj} {pn : List (Addr × Obj)} (C : ExcC X.K D) (hz : Zc (.ref D) (some dd) oe) (hf : ∃ vs, oe.data = .fields vs) : CallR (X.suite a ((a, oe) :: pn)) (.builtin "isinstance") (rIsD X.K D a dd) := by
  intro pins s σ H xs us Q I r h
  obtain ⟨⟨fs, hdd⟩, h⟩ := h
  obtain ⟨hget, _⟩ := I.pin (a, oe) (List.mem_append.mpr (.inl List.mem_cons_self))
  obtain ⟨vs, hv⟩ := hf
  have hx : ObjOk X.prog X.w H s.heap dd (.xd fs) := I.hok dd _ hdd
  obtain ⟨mA, hns, _⟩ := hx
  obtain ⟨od, ho, _⟩ := lookIn_ns hns
  have J : ∃ ox od, InstAt s.heap a ox D od := ⟨oe, some od, by
    obtain ⟨oc, od', oda, osl⟩ := oe
    obtain ⟨h1, h2⟩ := hz
    dsimp only at h1 h2 hv
    subst h1 h2 hv
    exact ⟨hget, rfl, rfl, ho⟩⟩
  rcases h with ⟨c, cv, b, rfl, hcv, e, q⟩ | ⟨t, cs, cvs, b, rfl, hT, hcv, e, q⟩
  · cases r with
    | cons rx rr =>
      cases rr with
      | cons rt rr =>
        cases rr
        cases rx
        have ec := hcv _ rt
        subst ec
        exact kia_one (kit_exc C) I.kIn J e (fun z => nomatch z) fun tk => ⟨.bl b, H, I.kept (t' := tk) fun _ _ z => z, rfl, q⟩
  · cases r with
    | cons rx rr =>
      cases rr with
      | cons rt rr =>
        cases rr
        cases rx
        cases rt
        obtain ⟨its, rv, ⟨⟨oc, dd', dt, sl⟩, e1, e2, n, e3⟩, _⟩ := I.tuple hT
        dsimp only at e2 e3
        subst e2 e3
        rw [hcv _ rv] at e1
        exact kia_tup (kit_exc C) I.kIn J e1 e (fun z => nomatch z) fun tk => ⟨.bl b, H, I.kept (t' := tk) fun _ _ z => z, rfl, q⟩
end BXX
end

section
/-! places of more defs of the laws -/
namespace LP
open PySem PySem.Spec PyProof.Rows L2
-- _law_rows: not in this statement
-- _law_turned: not in this statement
abbrev lDue : Stmt := top 25
-- _law_is_held: not in this statement
-- _law_are_rows: not in this statement
-- _law_layer: not in this statement
-- _law_hung: not in this statement
-- _law_near: not in this statement
-- _law_shown: not in this statement
-- _law_paper: not in this statement
-- _law_copied: not in this statement
-- _law_laid: not in this statement
-- _law_quarter: not in this statement
-- _law_every: not in this statement
-- _law_firsts: not in this statement
-- _law_goals: not in this statement
-- _law_chain: not in this statement
-- _law_groups: not in this statement
-- _law_least: not in this statement
-- _law_fewest: not in this statement
-- _law_are_papers: not in this statement
-- _law_is_row: not in this statement
-- _law_fits_mirrored: not in this statement
-- _law_fits_turned: not in this statement
-- _law_asked: not in this statement
-- _law_spoil: not in this statement
abbrev lTold : Stmt := top 26
abbrev lChanged : Stmt := top 27
abbrev lTextL : Stmt := top 24
-- _law_turned: not in this statement
-- _law_works: not in this statement
-- _law_leaving: not in this statement
end LP
end

section
set_option Elab.async false
set_option linter.all false
set_option maxRecDepth 100000
set_option maxHeartbeats 4000000
/-! _law_told -/
namespace LP
open PySem PySem.Spec PyProof.Rows L2 Ly GY
variable [LamTab] {P : Program} {W0 : World} {K : PySem.W.Frag} {mg : Str → Option Value} {base : Heap}
/-- the classes' names; what BadText's instances are -/
structure KindT (K : PySem.W.Frag) (mg : Str → Option Value) (CP CB CO CL CN CR CK CT : Addr) : Prop where
  gP : mg "PrintError" = some (.ref CP)
  gB : mg "NoBody" = some (.ref CB)
  gO : mg "Outside" = some (.ref CO)
  gL : mg "NoLayer" = some (.ref CL)
  gN : mg "NoProp" = some (.ref CN)
  gR : mg "BadReach" = some (.ref CR)
  gK : mg "BadPlace" = some (.ref CK)
  gT : mg "BadText" = some (.ref CT)
  gV : mg "ValueError" = none
  e : PySem.W.exmOne K (.ref CT) (.ref CP) = some true
  x : ExcC K CT
  xf : XfC K CT
  norow : PySem.W.findIn K (.ref CT) "row" = some none
  iO : PySem.W.kitAny K (.ref CT) [.ref CK, .ref CR, .ref CB, .ref CL, .ref CN, .ref CO] = some false
  iT : PySem.W.kitOne K (.ref CT) (.ref CT) = some true
  iV : PySem.W.kitOne K (.ref CT) (.type "ValueError") = some true
theorem pss_ex {X : Cx} {α : Type} {b : List Stmt} {t : α → TS} (h : ∀ q : α, PSs X b (t q)) : PSs X b (fun D σ H => ∃ q : α, t q D σ H) := ⟨fun pins s σ H D I ⟨q, k⟩ => (h q).run pins s σ H D I k⟩
theorem pss_of2 {X : Cx} {p : Prop} {b : List Stmt} {t : p → TS} (h : ∀ q : p, PSs X b (t q)) : PSs X b (fun D σ H => ∃ q : p, t q D σ H) := ⟨fun pins s σ H D I ⟨q, k⟩ => (h q).run pins s σ H D I k⟩
theorem pss_len2 {X : Cx} {b : List Stmt} {t : TS} (h : PSs X b t) : PSs X b (fun D σ H => σ.length = X.N.length → t D σ H) := ⟨fun pins s σ H D I k => h.run pins s σ H D I (k I.len)⟩
theorem vals_refs : ∀ (as : List Addr) {us : List Value}, Vals (as.map V.ref) us → us = as.map Value.ref
  | [], _, .nil => rfl
  | a :: as, _, .cons r t => by
    rw [vals_refs as t]
    cases r
    rfl
def spTold (K : PySem.W.Frag) (Pq Pk : Addr) : Sp := fun vs H Q _ => ∃ text : Str, vs = [.str text] ∧ text.length ≤ 10000 ∧ TGen H Pq ∧ TGen H Pk ∧
  (text = "" ∨ GoodR (Txt.split text "\n") → ∀ (H' : Hp) (p : Addr) (v : V) (ds : List C3), Kp [] H H' → SqT K H' p [.str "body", v] → Body K H' v (.cells ds) → ds.Perm (if text = "" then [] else FR (Txt.split text "\n") (Txt.split text "\n").length) → (ds.Pairwise fun a b => ¬ lt3 b a) → Q (.ref p) H') ∧
  (text ≠ "" → ∀ (n : Nat) (p : Addr) (H' : Hp), RefR (Txt.split text "\n") n → Kp [] H H' → SqT K H' p [.str "row", .int (n : Int)] → Q (.ref p) H')
theorem scTold : FnScope ["_law_text_here", "e", "_law_other"] ["_law_text_here"] (defScope lTold) := ⟨rfl, rfl, rfl, by decide +kernel, rfl, by decide +kernel, by decide +kernel⟩
def isD (K : PySem.W.Frag) (D a dd : Addr) (t : TE) : TE := tCB (BXX.rIsD K D a dd) (tCons (tVar 1) (tCons t tNil))
def tSuiteT (K : PySem.W.Frag) (CB CO CL CN CR CK CT a dd : Addr) : TS :=
  tSeq (tAsg (isD K CT a dd (tTup (tCons (tC (.ref CK)) (tCons (tC (.ref CR)) (tCons (tC (.ref CB)) (tCons (tC (.ref CL)) (tCons (tC (.ref CN)) (tCons (tC (.ref CO)) tNil)))))))) (gName 2))
  (tRet (tIf (tAnd (tB (isD K CT a dd (tC (.ref CT)))) (tAnd (tB (isD K CT a dd (tC (.ty "ValueError")))) (tNot (tB (tVar 2))))) (tTup (tCons (tC (.str "row")) (tCons (tXf a (.ref CT) (some dd) CT "row" (tVar 1)) tNil))) (tC (.str "other"))))
theorem ok_told {f fR Pq Pk CP CB CO CL CN CR CK CT : Addr} {fd dR : FuncData} (F : Fun K "_law_told" "_law_told" lTold f fd) (T : Nm K mg) (k : KindT K mg CP CB CO CL CN CR CK CT) (NR : Fn K mg "read" fR dR ["text"]) (GR : FnOk P W0 K mg base (L2.CX P W0) 5 fR dR ["text"] (spReadAll K Pq Pk CT)) :
    FnOk P W0 K mg base CX0 6 f fd ["_law_text_here"] (spTold K Pq Pk) := by
  refine F.ok scTold (fun vs H Q E h => ?_) (fun cdv A outer s H vs Q E hr h => ?_)
  · obtain ⟨text, rfl, _⟩ := h
    rfl
  · obtain ⟨text, rfl, htl, hPq, hPk, q, qE⟩ := h
    refine ⟨_, pss_one (ps_try_as (i := 1) (c := .ref CP) (Wout := fun _ _ _ _ => False)
      (tb := fun W D σ H => ∃ Ech : XK, (∀ cls d σ' H', Ech cls d H' → W cls d σ' H') ∧ tRet (tTup (tCons (tC (.str "body")) (tCons (fun σ H Q => tCons (tVar 0) tNil σ H fun xs H1 => spReadAll K Pq Pk CT xs H1 Q Ech) tNil))) D σ H)
      (ts := fun a cls d D σ H => ∃ dd : Addr, ∃ z : cls = .ref CT ∧ d = some dd, σ.length = 3 → tSuiteT K CB CO CL CN CR CK CT a dd D σ H)
      rfl rfl scTold.nd rfl rfl ⟨rfl, by decide, .inl k.gP⟩ L2.takes0 (fun W pn xe tk _ => ?body) (fun a oe cls d pn hz hf => pss_ex fun dd => pss_of2 fun z => pss_len2 ?suite)), ?read⟩
    case body =>
      refine ⟨fun pins s' σ H' D I h' => ?_⟩
      obtain ⟨Ech, hW, h3⟩ := h'
      exact (pss_one (ps_ret (pe_tup (pa_cons pe_str (pa_cons (pe_call (E := Ech) GR hr (by rfl) NR.m NR.kp NR.b .nil (passes_call tk hW) (pa_cons (pv 0) pa_nil)) pa_nil))))).run pins s' σ H' D I h3
    case suite =>
      obtain ⟨rfl, rfl⟩ := z
      exact pss_cons (ps_set (i := 2) scTold.nd rfl (.inl rfl) (pe_callB (BXX.call_isD k.x hz hf) (by rfl) T.isinstance (by decide +kernel) (pa_cons (pv 1) (pa_cons (pe_tup (pa_cons (pe_glob (v := .ref CK) rfl k.gK rfl) (pa_cons (pe_glob (v := .ref CR) rfl k.gR rfl) (pa_cons (pe_glob (v := .ref CB) rfl k.gB rfl) (pa_cons (pe_glob (v := .ref CL) rfl k.gL rfl) (pa_cons (pe_glob (v := .ref CN) rfl k.gN rfl) (pa_cons (pe_glob (v := .ref CO) rfl k.gO rfl) pa_nil))))))) pa_nil))))
        (pss_one (ps_ret (pe_ifExp (PW.pt (pw_and (pt_val (pe_callB (BXX.call_isD k.x hz hf) (by rfl) T.isinstance (by decide +kernel) (pa_cons (pv 1) (pa_cons (pe_glob (v := .ref CT) rfl k.gT rfl) pa_nil)))) (pw_and (pt_val (pe_callB (BXX.call_isD k.x hz hf) (by rfl) T.isinstance (by decide +kernel) (pa_cons (pv 1) (pa_cons (pe_bltn (by rfl) k.gV (by decide +kernel) (v := .ty "ValueError") rfl) pa_nil)))) (pw_and1 (pt_not (pt_val (pv 2)))))))
          (pe_tup (pa_cons pe_str (pa_cons (pe_xf k.xf k.norow hz hf (pv 1)) pa_nil))) pe_str)))
    case read =>
      refine ⟨fun cls d H' => cls = .ref CT ∧ ∃ (dd : Addr) (n : Int), d = some dd ∧ H' dd = some (.xd [("row", .int n)]) ∧ ∀ p H'', Kp [] H' H'' → SqT K H'' p [.str "row", .int n] → Q (.ref p) H'', fun cls d σ' H' hE => ?_, _, rfl, ?_⟩
      · obtain ⟨rfl, dd, n, rfl, e1, qe⟩ := hE
        refine ⟨true, k.e, fun _ a ha => ⟨dd, ⟨rfl, rfl⟩, fun hl => ?_⟩, fun z => by cases z⟩
        rw [List.length_set] at hl
        match σ', hl with
        | [x0, x1, x2], _ =>
          refine ⟨_, rfl, (by show 6 ≤ sizeLine; decide), fun t1 ht1 => ?_⟩
          have k1 := Kp.new (S := []) (o := .tup [.ref CK, .ref CR, .ref CB, .ref CL, .ref CN, .ref CO]) ht1
          have hn1 : t1 ≠ dd := fun z => by
            rw [z, e1] at ht1
            cases ht1
          have e2 : upd H' t1 (.tup [.ref CK, .ref CR, .ref CB, .ref CL, .ref CN, .ref CO]) dd = some (.xd [("row", .int n)]) := by
            rw [upd_ne (Ne.symm hn1)]
            exact e1
          refine ⟨⟨_, e2⟩, .inr ⟨t1, _, _, false, rfl, SqT.of upd_same, fun us r => vals_refs [CK, CR, CB, CL, CN, CO] r, k.iO, ?_⟩⟩
          refine ⟨_, rfl, ⟨_, e2⟩, .inl ⟨_, _, _, rfl, fun _ r => r, k.iT, true, rfl, iteT ?_⟩⟩
          refine ⟨_, rfl, ⟨_, e2⟩, .inl ⟨_, _, _, rfl, fun _ r => r, k.iV, true, rfl, iteT ?_⟩⟩
          refine ⟨_, rfl, false, rfl, ?_⟩
          refine ⟨_, rfl, rfl, rfl, dd, _, _, rfl, e2, rfl, (by show 2 ≤ sizeLine; decide), fun p hp => ?_⟩
          exact qe p _ (k1.trans (Kp.new hp)) (SqT.of upd_same)
      · refine ⟨text, rfl, htl, hPq, hPk, fun hg H1 v ds k1 hB hp hso => ?_, fun c0 n d H1 hn k1 e1 => ?_⟩
        · refine ⟨(by show 2 ≤ sizeLine; decide), fun p hp' => ?_⟩
          have kp := Kp.new (S := []) (o := .tup [.str "body", v]) hp'
          exact q hg _ p v ds (k1.trans kp) (SqT.of upd_same) (body_mono kp hB) hp hso
        · exact ⟨rfl, d, n, rfl, e1, fun p H2 k2 hT => qE c0 n p H2 hn (k1.trans k2) hT⟩
end LP
end

section
set_option Elab.async false
set_option linter.all false
set_option maxRecDepth 100000
set_option maxHeartbeats 4000000
/-! rows of signs joined, as the laws join them -/
namespace LP
open PySem PySem.Spec PyProof.Rows L2 Ly GY
variable [LamTab] {P : Program} {W0 : World} {K : PySem.W.Frag} {mg : Str → Option Value} {base : Heap}
def rJoinK (K : PySem.W.Frag) : V → List V → Hp → VK → Prop := fun x xs H Q => ∃ a p, ∃ ys : List Str, x = .str a ∧ xs = [.ref p] ∧ (SqL K H p (ys.map V.str) ∨ SqT K H p (ys.map V.str)) ∧ (ys.map (·.length)).sum + ys.length * a.length ≤ 16777216 ∧ Q (.str (Txt.join a ys)) H
theorem pe_joinK {X : Cx} {K : PySem.W.Frag} {o e : Expr} {to te : TE} {apos pos : Pos} (hK : X.K = K) (ho : PE X o to) (he : PE X e te) (hs : starEach [e] X.env = [(false, eval e X.env)] := by rfl) (hbase : attributeBase o "join" X.env (eval o X.env) = eval o X.env := by rfl) (hline : (apos.endLine == pos.line) = true := by rfl) :
    PE X (.Call (.Attribute o "join" apos) [e] [] pos) (tM1 (rJoinK K) to te) := by
  subst hK
  exact pe_join ho he hs hbase hline
theorem sg_len (cs : List C3) (y z : Int) : (((List.range 4).map (sg cs y z)).map (·.length)).sum + ((List.range 4).map (sg cs y z)).length * ("" : Str).length ≤ 16777216 := by
  show ([sg cs y z 0, sg cs y z 1, sg cs y z 2, sg cs y z 3].map (·.length)).sum + 4 * ("" : Str).length ≤ 16777216
  unfold sg
  cases decide ((((0 : Nat) : Int), y, z) ∈ cs) <;> cases decide ((((1 : Nat) : Int), y, z) ∈ cs) <;> cases decide ((((2 : Nat) : Int), y, z) ∈ cs) <;> cases decide ((((3 : Nat) : Int), y, z) ∈ cs) <;> decide +kernel
theorem dp_strs {H : Hp} : ∀ ss : List Str, DpAll K H (ss.map V.str) (ss.map PyData.str)
  | [] => .nil
  | x :: ss => .cons (.str x) (dp_strs ss)
end LP
end

section
set_option Elab.async false
set_option linter.all false
set_option maxRecDepth 100000
set_option maxHeartbeats 4000000
/-! a body's text read again -/
namespace LP
open PySem PySem.Spec PyProof.Rows L2 Ly GY
variable [LamTab]
def rowAt (cs : List C3) (k : Nat) : Str := if k % 5 = 4 then "-" else rowT cs ((k % 5 : Nat) : Int) ((k / 5 : Nat) : Int)
theorem rowsZ_at (cs : List C3) (z : Nat) {y : Nat} (h : y < 4) : (rowsZ cs z)[y]? = some (rowAt cs (5 * z + y)) := by
  unfold rowsZ rowAt
  rw [List.getElem?_map, List.getElem?_range h, if_neg (by omega), show (5 * z + y) % 5 = y by omega, show (5 * z + y) / 5 = z by omega]
  rfl
theorem rowsZ_len (cs : List C3) (z : Nat) : (rowsZ cs z).length = 4 := by unfold rowsZ; rw [List.length_map, List.length_range]
theorem rows_at5 (cs : List C3) : ∀ n, (rowsTo cs n).length = 5 * n - 1 ∧ ∀ k, k < 5 * n - 1 → (rowsTo cs n)[k]? = some (rowAt cs k)
  | 0 => ⟨rfl, fun k h => absurd h (by omega)⟩
  | n + 1 => by
    obtain ⟨h1, h2⟩ := rows_at5 cs n
    have hz := rowsZ_len cs n
    rw [rowsTo_succ]
    by_cases h0 : n = 0
    · subst h0
      have e : rowsTo cs 0 ++ (sep 0 ++ rowsZ cs 0) = rowsZ cs 0 := rfl
      rw [e]
      refine ⟨hz, fun k hk => ?_⟩
      have := rowsZ_at cs 0 (y := k) (by omega)
      rw [this]
      congr 2
      omega
    · have e : sep n = [("-" : Str)] := by unfold sep; rw [if_pos (by omega)]
      rw [e]
      refine ⟨by rw [List.length_append, List.length_append, h1, hz, List.length_singleton]; omega, fun k hk => ?_⟩
      by_cases a : k < 5 * n - 1
      · rw [List.getElem?_append_left (by omega)]
        exact h2 k a
      · rw [List.getElem?_append_right (by omega), h1]
        by_cases b : k = 5 * n - 1
        · subst b
          rw [Nat.sub_self]
          show some ("-" : Str) = _
          unfold rowAt
          rw [if_pos (by omega)]
        · obtain ⟨y, hy, rfl⟩ : ∃ y, y < 4 ∧ k = 5 * n + y := ⟨k - 5 * n, by omega, by omega⟩
          rw [show 5 * n + y - (5 * n - 1) = y + 1 by omega]
          show (rowsZ cs n)[y]? = _
          exact rowsZ_at cs n hy
theorem rowT_sgn (cs : List C3) (y z : Int) : (rowT cs y z).cps.toList.all sgn = true := by
  rw [rowT_eq, row_codes]
  generalize (fun x : Nat => decide (((x : Int), y, z) ∈ cs)) = b
  have h : ∀ c : Bool, sgn (cdB c) = true := by decide +kernel
  simp [h]
theorem rowT_at (cs : List C3) (y z : Int) {x : Nat} (h : x < 4) : (rowT cs y z).cps[x]? = some (cdB (decide (((x : Int), y, z) ∈ cs))) := by
  have e := row_codes fun x : Nat => decide (((x : Int), y, z) ∈ cs)
  rw [← rowT_eq] at e
  have e2 := row_at (fun x : Nat => decide (((x : Int), y, z) ∈ cs)) h
  rw [← e] at e2
  simpa using e2
theorem cdB_35 : ∀ b : Bool, cdB b = 35 ↔ b = true := by decide +kernel
theorem rowT_hash {cs : List C3} {y z : Int} {x : Nat} (h : x < 4) : (rowT cs y z).cps[x]? = some 35 ↔ ((x : Int), y, z) ∈ cs := by
  rw [rowT_at cs y z h, Option.some.injEq, cdB_35, decide_eq_true_iff]
theorem rowT_size (cs : List C3) (y z : Int) : (rowT cs y z).cps.size = 4 := rowT_len cs y z
theorem good_rows {cs : List C3} (h : ∀ c ∈ cs, InR c) (n : cs ≠ []) : GoodR (rowsTo cs (lay cs)) := by
  obtain ⟨h1, h2⟩ := rows_at5 cs (lay cs)
  have h4 := lay_le h
  obtain ⟨⟨cx, cy, cz⟩, hc, e⟩ := lay_in h n
  have hr := h _ hc
  have e : cz + 1 = (lay cs : Int) := e
  unfold InR at hr
  simp only at hr
  refine ⟨fun j r hj => ?_, by rw [h1]; omega, ?_⟩
  · have hl := (List.getElem?_eq_some_iff.mp hj).1
    rw [h1] at hl
    rw [h2 j hl] at hj
    have hj := (Option.some.inj hj).symm
    subst hj
    unfold canB rowAt
    rw [decide_eq_true (by omega), Bool.true_and]
    split
    · exact decide_eq_true rfl
    · rw [rowT_sgn, rowT_len]
      rfl
  · rw [List.any_eq_true]
    have hk : 5 * (lay cs - 1) + cy.toNat < 5 * lay cs - 1 := by omega
    have hg := h2 _ hk
    refine ⟨rowAt cs (5 * (lay cs - 1) + cy.toNat), List.mem_of_getElem? (i := cy.toNat) ?_, ?_⟩
    · rw [List.getElem?_drop, h1, show 5 * lay cs - 1 - 4 + cy.toNat = 5 * (lay cs - 1) + cy.toNat by omega]
      exact hg
    · unfold rowAt hasS
      rw [if_neg (by omega), show (5 * (lay cs - 1) + cy.toNat) % 5 = cy.toNat by omega, show (5 * (lay cs - 1) + cy.toNat) / 5 = lay cs - 1 by omega]
      have q : (rowT cs ((cy.toNat : Nat) : Int) ((lay cs - 1 : Nat) : Int)).cps[cx.toNat]? = some 35 := by
        rw [rowT_hash (by omega), show ((cx.toNat : Nat) : Int) = cx by omega, show ((cy.toNat : Nat) : Int) = cy by omega, show ((lay cs - 1 : Nat) : Int) = cz by omega]
        exact hc
      refine decide_eq_true ?_
      exact List.mem_of_getElem? (i := cx.toNat) (by simpa using q)
theorem mem_FR {cs : List C3} (h : ∀ c ∈ cs, InR c) (c : C3) : c ∈ FR (rowsTo cs (lay cs)) (rowsTo cs (lay cs)).length ↔ c ∈ cs := by
  obtain ⟨h1, h2⟩ := rows_at5 cs (lay cs)
  have gd : ∀ i, i < 5 * lay cs - 1 → (rowsTo cs (lay cs)).getD i "" = rowAt cs i := fun i hi => by
    rw [List.getD_eq_getElem?_getD, h2 i hi]
    rfl
  unfold FR
  rw [List.mem_flatMap]
  constructor
  · rintro ⟨i, hi, hc⟩
    rw [List.mem_range, h1] at hi
    rw [gd i hi] at hc
    unfold fR1 fRT at hc
    obtain ⟨x, hx, rfl⟩ := List.mem_map.mp hc
    obtain ⟨hx1, hx2⟩ := List.mem_filter.mp hx
    have hx1 := List.mem_range.mp hx1
    have hx2 := of_decide_eq_true hx2
    unfold rowAt at hx1 hx2
    by_cases z : i % 5 = 4
    · rw [if_pos z] at hx1 hx2
      have : x = 0 := by
        have : ("-" : Str).cps.size = 1 := by decide +kernel
        omega
      subst this
      exact absurd hx2 (by decide +kernel)
    · rw [if_neg z] at hx1 hx2
      rw [rowT_size] at hx1
      exact (rowT_hash hx1).mp hx2
  · intro hc
    obtain ⟨cx, cy, cz⟩ := c
    have hr := h _ hc
    have hg := lay_ge h hc
    unfold InR at hr
    simp only at hr hg
    have hk : 5 * cz.toNat + cy.toNat < 5 * lay cs - 1 := by omega
    refine ⟨5 * cz.toNat + cy.toNat, List.mem_range.mpr (by omega), ?_⟩
    rw [gd _ hk]
    unfold fR1 fRT rowAt
    rw [if_neg (by omega), show (5 * cz.toNat + cy.toNat) % 5 = cy.toNat by omega, show (5 * cz.toNat + cy.toNat) / 5 = cz.toNat by omega]
    refine List.mem_map.mpr ⟨cx.toNat, List.mem_filter.mpr ⟨List.mem_range.mpr (by rw [rowT_size]; omega), decide_eq_true ?_⟩, ?_⟩
    · rw [rowT_hash (by omega), show ((cx.toNat : Nat) : Int) = cx by omega, show ((cy.toNat : Nat) : Int) = cy by omega, show ((cz.toNat : Nat) : Int) = cz by omega]
      exact hc
    · rw [show ((cx.toNat : Nat) : Int) = cx by omega, show ((cy.toNat : Nat) : Int) = cy by omega, show ((cz.toNat : Nat) : Int) = cz by omega]
theorem nodup_fRT (i : Nat) (row : Str) (n : Nat) : (fRT i row n).Nodup := by
  unfold fRT
  refine List.Pairwise.map _ (R := fun a b : Nat => a ≠ b) (fun a b hab e => hab ?_) (List.Pairwise.filter _ List.nodup_range)
  have := congrArg Prod.fst e
  simp only at this
  omega
theorem nodup_FR (rows : List Str) (n : Nat) : (FR rows n).Nodup := by
  unfold FR List.Nodup
  rw [List.pairwise_flatMap]
  refine ⟨fun i _ => nodup_fRT i _ _, ?_⟩
  refine List.nodup_range.imp fun {i j} hij x hx y hy e => hij ?_
  subst e
  unfold fR1 fRT at hx hy
  obtain ⟨a, _, e1⟩ := List.mem_map.mp hx
  obtain ⟨b, _, e2⟩ := List.mem_map.mp hy
  have e := e1.trans e2.symm
  have z1 := congrArg (fun c : C3 => c.2.1) e
  have z2 := congrArg (fun c : C3 => c.2.2) e
  simp only at z1 z2
  omega
theorem tl_row {cs : List C3} {n : Nat} {r : Str} (h : r ∈ rowsTo cs n) : 10 ∉ r.cps.toList := by
  rcases rowsTo_row h with e | ⟨z, y, _, _, e⟩
  · subst e
    decide +kernel
  · subst e
    rw [rowT_eq, row_codes]
    generalize (fun x : Nat => decide (((x : Int), (y : Int), (z : Int)) ∈ cs)) = b
    have q : ∀ c : Bool, ¬ (10 : Nat) = cdB c := by decide +kernel
    intro m
    simp only [List.mem_cons, List.not_mem_nil, or_false] at m
    rcases m with m | m | m | m <;> exact q _ m
theorem rowsTo_ne {cs : List C3} (h : ∀ c ∈ cs, InR c) (n : cs ≠ []) : rowsTo cs (lay cs) ≠ [] := fun e => by
  have h1 := (rows_at5 cs (lay cs)).1
  have hg := (good_rows h n).len
  rw [e] at hg
  cases hg
theorem split_text {cs : List C3} (h : ∀ c ∈ cs, InR c) (n : cs ≠ []) : Txt.split (textOf cs) "\n" = rowsTo cs (lay cs) :=
  TL.split_join (y := "\n") (s := 10) (S := []) (by decide +kernel) (by decide +kernel) (rowsTo_ne h n) fun r hr => tl_row hr
theorem text_nil : textOf [] = "" := by
  unfold textOf
  rw [lay_nil]
  decide +kernel
theorem text_ne {cs : List C3} (h : ∀ c ∈ cs, InR c) (n : cs ≠ []) : textOf cs ≠ "" := fun e => by
  have q := split_text h n
  rw [e, show Txt.split ("" : Str) "\n" = [("" : Str)] from by decide +kernel] at q
  have hg := (good_rows h n).len
  rw [← q] at hg
  cases hg
/-- what read tells of a body's text -/
theorem read_back {cs ds : List C3} (hA : Asc cs) (h : ∀ c ∈ cs, InR c) (p : ds.Perm (if textOf cs = "" then [] else FR (Txt.split (textOf cs) "\n") (Txt.split (textOf cs) "\n").length)) (s : ds.Pairwise fun a b => ¬ lt3 b a) : ds = cs := by
  by_cases n : cs = []
  · subst n
    rw [text_nil, if_pos rfl] at p
    exact List.Perm.eq_nil p
  · rw [if_neg (text_ne h n), split_text h n] at p
    have nd : ds.Nodup := p.nodup_iff.mpr (nodup_FR _ _)
    exact asc_ext (asc_of s nd) hA fun c => by rw [p.mem_iff, mem_FR h]
theorem text_len {cs : List C3} (h : ∀ c ∈ cs, InR c) : (textOf cs).length ≤ 100000 := by
  have h1 := rows_fit (cs := cs) (lay_le h)
  have h2 := rowsTo_len cs (lay cs)
  have h4 := lay_le h
  have h5 := sum_le (l := rowsTo cs (lay cs)) fun r hr => by
    rcases rowsTo_row hr with e | ⟨z, y, _, _, e⟩
    · rw [e]; decide +kernel
    · rw [e, rowT_len]; exact Nat.le_refl _
  have h3 : ("\n" : Str).length = 1 := by decide +kernel
  unfold textOf
  rw [TL.join_eq]
  have := StrLaws.join_length_le "\n" (rowsTo cs (lay cs))
  rw [h3] at this
  omega
end LP
end

section
set_option Elab.async false
set_option linter.all false
set_option maxRecDepth 100000
set_option maxHeartbeats 4000000
/-! _law_due (of texts) -/
namespace LP
open PySem PySem.Spec PyProof.Rows L2 Ly GY
variable [LamTab] {P : Program} {W0 : World} {K : PySem.W.Frag} {mg : Str → Option Value} {base : Heap}
def Okc (x : Str) : Prop := ∀ c ∈ x.cps.toList, c < 1114112
def spDueT (K : PySem.W.Frag) : Sp := fun vs H Q _ => ∃ text : Str, vs = [.str text] ∧ text.length ≤ 10000 ∧ Okc text ∧
  (text = "" ∨ GoodR (Txt.split text "\n") → ∀ (H' : Hp) (p : Addr) (v : V) (ds : List C3), Kp [] H H' → SqT K H' p [.str "body", v] → Body K H' v (.cells ds) → ds.Perm (if text = "" then [] else FR (Txt.split text "\n") (Txt.split text "\n").length) → (ds.Pairwise fun a b => ¬ lt3 b a) → Q (.ref p) H') ∧
  (text ≠ "" → ∀ (n : Nat) (p : Addr) (H' : Hp), RefR (Txt.split text "\n") n → Kp [] H H' → SqT K H' p [.str "row", .int (n : Int)] → Q (.ref p) H')
abbrev nDueT : List Str := ["_law_text_here", "_law_rows", "_law_found", "_law_k", "_law_sign", "_law_x", "_law_cell"]
theorem scDueT : FnScope nDueT ["_law_text_here"] (defScope lDue) := ⟨rfl, rfl, rfl, by decide +kernel, rfl, by decide +kernel, by decide +kernel⟩
theorem itE0 {a b : V} {A B : Prop} (h : a = b) (y : B) : if (!decide (a = b)) = true then A else B := by
  rw [decide_eq_true h]
  exact y
theorem itE1 {a b : V} {A B : Prop} (h : a ≠ b) (y : A) : if (!decide (a = b)) = true then A else B := by
  rw [decide_eq_false h]
  exact y
theorem lc_txt {z : Str} {g : TG} {tt : TT} {te : TE} {vs : List Nat} {σ : L2.St} {H1 : Hp} {D : Addr} {Qd : Hp → Prop} (Pv : Nat → Hp → Prop) (h0 : Pv 0 (upd H1 D (.lst [])))
    (hs : ∀ i c H, z.cps[i]? = some c → Pv i H → g (.str ⟨#[c]⟩) (wipe σ vs) H fun σ2 H2 => wipe σ2 vs = wipe σ vs ∧ tt σ2 H2 fun b H3 =>
      if b = true then te σ2 H3 fun y H4 => ∃ acc, H4 D = some (.lst acc) ∧ acc.length < sizeLine ∧ Pv (i + 1) (upd H4 D (.lst (acc ++ [y]))) else Pv (i + 1) H3) (hd : ∀ H, Pv z.cps.size H → Qd H) :
    ∃ W : Nat → Nat → Hp → Prop, (∃ m, W 0 m (upd H1 D (.lst []))) ∧ ∀ i m H, W i m H →
      ((Its z).stop i H ∧ Qd H) ∨ ((Its z).go i H ∧ ∃ Nx : Hp → Prop, (∀ H', Nx H' → ∃ m', m' < m ∧ W (i + 1) m' H') ∧ ∀ x H', (Its z).yld i H x H' → g x (wipe σ vs) H' fun σ2 H2 => wipe σ2 vs = wipe σ vs ∧ tt σ2 H2 fun b H3 =>
        if b = true then te σ2 H3 fun y H4 => ∃ acc, H4 D = some (.lst acc) ∧ acc.length < sizeLine ∧ Nx (upd H4 D (.lst (acc ++ [y]))) else Nx H3) := by
  refine ⟨fun i m H => m = z.cps.size - i ∧ i ≤ z.cps.size ∧ Pv i H, ⟨z.cps.size, by simp, Nat.zero_le _, h0⟩, ?_⟩
  rintro i m H ⟨rfl, hi, p⟩
  by_cases hlt : i < z.cps.size
  · refine .inr ⟨hlt, Pv (i + 1), fun H' p' => ⟨z.cps.size - (i + 1), by omega, rfl, hlt, p'⟩, fun x H' y => ?_⟩
    obtain ⟨rfl, c, hc, rfl⟩ := y
    exact hs i c _ hc p
  · have e : i = z.cps.size := by omega
    subst e
    exact .inl ⟨Nat.le_refl _, hd H p⟩
theorem sgn_iff (c : Nat) : sgn c = true ↔ (c = 35 ∨ c = 46) := by
  unfold sgn
  rw [decide_eq_true_iff, show ("#." : Str).cps.toList = [35, 46] by decide +kernel]
  simp
theorem str1_eq {c d : Nat} : (V.str ⟨#[c]⟩ = V.str ⟨#[d]⟩) ↔ c = d := by
  constructor
  · intro e
    have e2 : (⟨#[c]⟩ : Str) = ⟨#[d]⟩ := V.str.inj e
    have e3 := congrArg (fun s : Str => s.cps.toList) e2
    simpa using e3
  · intro e
    rw [e]
theorem strs_depth : ∀ ss : List Str, PyData.depthAll (ss.map PyData.str) ≤ 1
  | [] => by simp [PyData.depthAll]
  | s :: ss => by
    have := strs_depth ss
    simp only [List.map_cons, PyData.depthAll, PyData.depth]
    omega
theorem okc_ok {x : Str} (h : Okc x) : PyData.strOk x = true := by
  unfold PyData.strOk
  rw [Array.all_eq_true]
  intro i hi
  exact decide_eq_true (h _ (by rw [Array.mem_toList_iff]; exact Array.getElem_mem hi))
theorem split_okc {x y : Str} (h : Okc x) : ∀ p ∈ Txt.split x y, Okc p := fun p hp c hc => by
  refine h c ?_
  rw [← StrLaws.join_split x y]
  exact (mem_join y c _).mpr (.inl ⟨p, hp, hc⟩)
theorem strs_lay : ∀ ss : List Str, (∀ s ∈ ss, Okc s) → PyData.canLayAll0 (ss.map PyData.str) = true
  | [], _ => by simp [PyData.canLayAll0]
  | s :: ss, h => by
    have := strs_lay ss fun t ht => h t (List.mem_cons_of_mem _ ht)
    have h1 := okc_ok (h s List.mem_cons_self)
    simp only [List.map_cons, PyData.canLayAll0, PyData.canLay0, this, h1, Bool.and_self]
theorem strs_shaped {ss : List Str} (h : ∀ s ∈ ss, Okc s) : SeqAt.shaped (.list (ss.map PyData.str)) = true := by
  have h1 := strs_depth ss
  have h2 : PyData.depth (.list (ss.map PyData.str)) ≤ 64 := by
    simp only [PyData.depth]
    omega
  show (PyData.canLay0 (.list (ss.map PyData.str)) && decide (PyData.depth (.list (ss.map PyData.str)) ≤ 64)) = true
  rw [Bool.and_eq_true]
  exact ⟨by simp only [PyData.canLay0]; exact strs_lay ss h, decide_eq_true h2⟩
theorem nil_shaped : SeqAt.shaped (.list ([] : List PyData)) = true := strs_shaped (ss := []) fun s h => by cases h
theorem eqv_nilS (ss : List Str) : PyData.eqv (.list (ss.map PyData.str)) (.list []) = decide (ss = []) := by
  cases ss with
  | nil => rfl
  | cons s ss => simp [PyData.eqv, PyData.eqvAll]
def badS (z : Str) (j : Nat) : List Str := ((z.cps.toList.take j).filter fun c => !sgn c).map fun c => (⟨#[c]⟩ : Str)
theorem badS_succ {z : Str} {j c : Nat} (h : z.cps[j]? = some c) : badS z (j + 1) = badS z j ++ if sgn c = true then [] else [(⟨#[c]⟩ : Str)] := by
  unfold badS
  have e : z.cps.toList[j]? = some c := by simpa using h
  rw [List.take_add_one, e, List.filter_append, List.map_append]
  congr 1
  cases hc : sgn c with
  | true => simp [hc]
  | false => simp [hc]
theorem badS_len (z : Str) (j : Nat) : (badS z j).length ≤ z.length := by
  unfold badS
  rw [List.length_map]
  have h1 := List.length_filter_le (fun c => !sgn c) (z.cps.toList.take j)
  have h2 : (z.cps.toList.take j).length ≤ z.cps.toList.length := by rw [List.length_take]; omega
  have h3 : z.cps.toList.length = z.length := by simp [Str.length]
  omega
theorem badS_okc {z : Str} (h : Okc z) (j : Nat) : ∀ s ∈ badS z j, Okc s := fun s hs d hd => by
  unfold badS at hs
  obtain ⟨c, hc, rfl⟩ := List.mem_map.mp hs
  have e : d = c := by simpa using hd
  rw [e]
  exact h c (List.mem_of_mem_take (List.mem_filter.mp hc).1)
theorem badS_nil {z : Str} : badS z z.cps.size = [] ↔ z.cps.toList.all sgn = true := by
  unfold badS
  rw [List.take_of_length_le (by simp), List.map_eq_nil_iff, List.filter_eq_nil_iff, List.all_eq_true]
  constructor
  · intro h c hc
    simpa using h c hc
  · intro h c hc
    simp [h c hc]
theorem FR_few {rows : List Str} : ∀ n, (∀ j r, j < n → rows[j]? = some r → r.length ≤ 4) → (FR rows n).length ≤ 4 * n
  | 0, _ => Nat.le_refl _
  | n + 1, h => by
    have h1 := FR_few n fun j r hj => h j r (by omega)
    have h2 := fR1_len n (rows.getD n "")
    have h3 : (rows.getD n "").length ≤ 4 := by
      rw [List.getD_eq_getElem?_getD]
      cases e : rows[n]? with
      | none => exact (by decide +kernel : ("" : Str).length ≤ 4)
      | some r => exact h n r (by omega) e
    rw [FR_succ, List.length_append]
    omega
theorem can_short {j : Nat} {r : Str} (q : canB j r = true) : j < 19 ∧ r.length ≤ 4 := by
  unfold canB at q
  rw [Bool.and_eq_true] at q
  refine ⟨of_decide_eq_true q.1, ?_⟩
  have q := q.2
  split at q
  · rw [of_decide_eq_true q]
    decide +kernel
  · rw [Bool.and_eq_true] at q
    have := of_decide_eq_true q.1
    omega
theorem mem_fR1 {i : Nat} {row : Str} {c : C3} : c ∈ fR1 i row ↔ ∃ x : Nat, row.cps[x]? = some 35 ∧ c = ((x : Int), ((i % 5 : Nat) : Int), ((i / 5 : Nat) : Int)) := by
  unfold fR1 fRT
  rw [List.mem_map]
  constructor
  · rintro ⟨x, hx, rfl⟩
    exact ⟨x, of_decide_eq_true (List.mem_filter.mp hx).2, rfl⟩
  · rintro ⟨x, hx, rfl⟩
    exact ⟨x, List.mem_filter.mpr ⟨List.mem_range.mpr (Array.getElem?_eq_some_iff.mp hx).1, decide_eq_true hx⟩, rfl⟩
theorem hasS_at {w : Str} (h : hasS w = true) : ∃ x : Nat, w.cps[x]? = some 35 := by
  unfold hasS at h
  obtain ⟨x, hx⟩ := List.getElem?_of_mem (of_decide_eq_true h)
  exact ⟨x, by simpa using hx⟩
theorem hasS_of {w : Str} {x : Nat} (h : w.cps[x]? = some 35) : hasS w = true := by
  unfold hasS
  have e : w.cps.toList[x]? = some 35 := by simpa using h
  exact decide_eq_true (List.mem_of_getElem? e)
theorem top_low {rows : List Str} {m : Int} (h4 : rows.length % 5 = 4) (hm : HighP ((FR rows rows.length).map fun c => c.2.2) (-1) m) : m < ((rows.length / 5 : Nat) : Int) ↔ (rows.drop (rows.length - 4)).any hasS = false := by
  have low : ∀ z ∈ (FR rows rows.length).map (fun c => c.2.2), ∃ (i : Nat) (w : Str), rows[i]? = some w ∧ hasS w = true ∧ z = ((i / 5 : Nat) : Int) := fun z hz => by
    obtain ⟨c, hc, rfl⟩ := List.mem_map.mp hz
    unfold FR at hc
    obtain ⟨i, hi, hc⟩ := List.mem_flatMap.mp hc
    obtain ⟨x, hx, rfl⟩ := mem_fR1.mp hc
    have hi := List.mem_range.mp hi
    have e : rows[i]? = some rows[i] := List.getElem?_eq_getElem hi
    have e2 : rows.getD i "" = rows[i] := by rw [List.getD_eq_getElem?_getD, e]; rfl
    rw [e2] at hx
    exact ⟨i, _, e, hasS_of hx, rfl⟩
  have up : ∀ (i : Nat) (w : Str), rows[i]? = some w → hasS w = true → ((i / 5 : Nat) : Int) ∈ (FR rows rows.length).map (fun c => c.2.2) := fun i w hi hw => by
    obtain ⟨x, hx⟩ := hasS_at hw
    have hl := (List.getElem?_eq_some_iff.mp hi).1
    refine List.mem_map.mpr ⟨((x : Int), ((i % 5 : Nat) : Int), ((i / 5 : Nat) : Int)), ?_, rfl⟩
    unfold FR
    refine List.mem_flatMap.mpr ⟨i, List.mem_range.mpr hl, mem_fR1.mpr ⟨x, ?_, rfl⟩⟩
    rw [List.getD_eq_getElem?_getD, hi]
    exact hx
  constructor
  · intro hlt
    refine Bool.eq_false_iff.mpr fun ha => ?_
    obtain ⟨w, hw, hs⟩ := List.any_eq_true.mp ha
    obtain ⟨j, hj⟩ := List.getElem?_of_mem hw
    rw [List.getElem?_drop] at hj
    have hl := (List.getElem?_eq_some_iff.mp hj).1
    have hin := up _ w hj hs
    have e5 : (rows.length - 4 + j) / 5 = rows.length / 5 := by omega
    rw [e5] at hin
    rcases hm with ⟨h1, _⟩ | ⟨_, h2⟩
    · rw [h1] at hin
      cases hin
    · have := h2 _ hin
      omega
  · intro hn
    rcases hm with ⟨_, h2⟩ | ⟨h1, _⟩
    · rw [h2]
      omega
    · obtain ⟨i, w, hi, hs, rfl⟩ := low m h1
      have hl := (List.getElem?_eq_some_iff.mp hi).1
      by_cases hd : rows.length - 4 ≤ i
      · exfalso
        have : (rows.drop (rows.length - 4)).any hasS = true := by
          refine List.any_eq_true.mpr ⟨w, ?_, hs⟩
          refine List.mem_of_getElem? (i := i - (rows.length - 4)) ?_
          rw [List.getElem?_drop, show rows.length - 4 + (i - (rows.length - 4)) = i by omega]
          exact hi
        rw [this] at hn
        cases hn
      · omega
theorem ok_dueT {f : Addr} {fd : FuncData} (F : Fun K "_law_due" "_law_due" lDue f fd) (T : Nm K mg) (U : Nl K mg) : FnOk P W0 K mg base CX0 2 f fd ["_law_text_here"] (spDueT K) := by
  refine F.ok scDueT (fun vs H Q E h => ?_) (fun cdv A outer s H vs Q E hr h => ?_)
  · obtain ⟨text, rfl, _⟩ := h
    rfl
  · obtain ⟨text, rfl, htl, hok, q, qE⟩ := h
    have hs : FnScope nDueT ["_law_text_here"] (defScope lDue) := scDueT
    have tail : ∃ t, PSs (cxOf CX0 P W0 K mg base nDueT "_law_due" (defScope lDue) f cdv A outer s H E).nox ((defBody lDue).drop 1) t ∧ ∀ (rows : List Str) (r : Addr) (H1 : Hp), Fit rows → (∀ r ∈ rows, Okc r) → Kp [] H H1 → H1 r = some (.lst (rows.map V.str)) →
        (rows = [] ∨ GoodR rows → ∀ (H' : Hp) (p : Addr) (v : V) (ds : List C3), Kp [] H H' → SqT K H' p [.str "body", v] → Body K H' v (.cells ds) → ds.Perm (FR rows rows.length) → (ds.Pairwise fun a b => ¬ lt3 b a) → Q (.ref p) H') →
        (rows ≠ [] → ∀ (n : Nat) (p : Addr) (H' : Hp), RefR rows n → Kp [] H H' → SqT K H' p [.str "row", .int (n : Int)] → Q (.ref p) H') →
        t { nx := fun _ H' => Q .non H', rt := Q } [some (.str text), some (.ref r), none, none, none, none, none] H1 := by
      refine ⟨_, pss_cons (ps_set (i := 2) scDueT.nd rfl (.inl rfl) (pe_lst pa_nil))
      (pss_cons (ps_for PassesOwn.never rfl (pi_range1 (by rfl) T.range (pa_cons (pe_callB call_len_seq (by rfl) T.len PySem.boot_len (pa_cons (pv 1) pa_nil)) pa_nil)) (pg_name (i := 3) scDueT.nd rfl (.inr rfl))
        (pss_cons (ps_if (pt_cmpR op_gt (pv 3) pe_int (nomark _)) (pss_one (ps_ret (pe_tup (pa_cons pe_str (pa_cons (pv 3) pa_nil))))) pss_nil)
        (pss_one (ps_if (pt_cmpR op_eq (pe_op op_mod (pv 3) pe_int) pe_int (nomark _))
          (pss_one (ps_if (pt_cmpR op_ne (pe_ix ix_list (pv 1) (pv 3) (fun _ _ => rfl)) pe_str (nomark _)) (pss_one (ps_ret (pe_tup (pa_cons pe_str (pa_cons (pv 3) pa_nil))))) pss_nil))
          (pss_one (ps_if (PW.pt (pw_or (pt_cmpR op_ne (pe_callB call_len_str (by rfl) T.len PySem.boot_len (pa_cons (pe_ix ix_list (pv 1) (pv 3) (fun _ _ => rfl)) pa_nil)) pe_int (nomark _))
              (pw_or1 (pt_cmpR (op_neD hr.units) (pe_lc (own := [("_law_sign", 4)]) (g := gName 4) rfl scDueT.nd (pi_str (pe_ix ix_list (pv 1) (pv 3) (fun _ _ => rfl))) (blkOk_by (own := [("_law_sign", 4)]) (N := nDueT) (sc := defScope lDue) (by decide +kernel))
                (fun _ _ _ _ _ => pg_name (i := 4) scDueT.nd rfl (.inl rfl)) (fun _ _ _ _ _ => pts_one (PW.pt (pw_and (pt_cmpR op_ne (pv 4) pe_str (nomark _)) (pw_and1 (pt_cmpR op_ne (pv 4) pe_str (nomark _)))))) (fun _ _ _ _ _ => pv 4)) (pe_lst pa_nil) (nomark _)))))
            (pss_one (ps_ret (pe_tup (pa_cons pe_str (pa_cons (pv 3) pa_nil)))))
            (pss_one (ps_expr (pe_bm PySem.F.plainAttrs_list PySem.F.slot_list_extend PySem.F.type_list_extend mt_extend (pv 2) (pa_cons
              (pe_lc (own := [("_law_x", 5)]) (g := gName 5) rfl scDueT.nd (pi_range1 (by rfl) T.range (pa_cons pe_int pa_nil)) (blkOk_by (own := [("_law_x", 5)]) (N := nDueT) (sc := defScope lDue) (by decide +kernel))
                (fun _ _ _ _ _ => pg_name (i := 5) scDueT.nd rfl (.inl rfl)) (fun _ _ _ _ _ => pts_one (pt_cmpR op_eq (pe_ix (r := rIxS) ix_str (pe_ix (r := rIxL K) ix_list (pv 1) (pv 3) (fun _ _ => rfl)) (pv 5) (fun _ _ => rfl)) pe_str (nomark _)))
                (fun _ _ _ _ _ => pe_tup (pa_cons (pv 5) (pa_cons (pe_op op_mod (pv 3) pe_int) (pa_cons (pe_op op_fdiv (pv 3) pe_int) pa_nil))))) pa_nil))))))))))
      (pss_cons (ps_if (PW.pt (pw_and (pt_cmpR (op_neD hr.units) (pv 1) (pe_lst pa_nil) (nomark _)) (pw_and1 (pt_cmpR op_ne (pe_op op_mod (pe_callB call_len_seq (by rfl) T.len PySem.boot_len (pa_cons (pv 1) pa_nil)) pe_int) pe_int (nomark _)))))
        (pss_one (ps_ret (pe_tup (pa_cons pe_str (pa_cons (pe_callB call_len_seq (by rfl) T.len PySem.boot_len (pa_cons (pv 1) pa_nil)) pa_nil))))) pss_nil)
      (pss_cons (ps_if (PW.pt (pw_and (pt_cmpR (op_neD hr.units) (pv 1) (pe_lst pa_nil) (nomark _)) (pw_and1 (pt_cmpR op_lt (pe_callBK (GW.cr_maxD rfl hr.units) (by rfl) U.max (by decide +kernel) (pa_cons
          (pe_lc (own := [("_law_cell", 6)]) (g := gName 6) rfl scDueT.nd (pi_list (pv 2)) (blkOk_by (own := [("_law_cell", 6)]) (N := nDueT) (sc := defScope lDue) (by decide +kernel)) (fun _ _ _ _ _ => pg_name (i := 6) scDueT.nd rfl (.inl rfl)) (fun _ _ _ _ _ => pts_nil) (fun _ _ _ _ _ => pe_ix (r := rIxT K) ix_tup (pv 6) pe_int (fun _ _ => rfl))) pa_nil)
          (pk_cons (pe_un un_neg pe_int) pk_nil)) (pe_op op_fdiv (pe_callB call_len_seq (by rfl) T.len PySem.boot_len (pa_cons (pv 1) pa_nil)) pe_int) (nomark _)))))
        (pss_one (ps_ret (pe_tup (pa_cons pe_str (pa_cons (pe_op op_sub (pe_callB call_len_seq (by rfl) T.len PySem.boot_len (pa_cons (pv 1) pa_nil)) pe_int) pa_nil))))) pss_nil)
      (pss_one (ps_ret (pe_tup (pa_cons pe_str (pa_cons (pe_tup (pa_cons pe_str (pa_cons (pe_callTy call_tuple_of (by rfl) T.tuple (by decide +kernel) (pa_cons (pe_callB (cr_sortC hr.units) (by rfl) T.sorted (by decide +kernel) (pa_cons (pv 2) pa_nil)) pa_nil)) pa_nil))) pa_nil)))))))), fun rows r H1 hfit hokR k1 e1 qB qR => ?_⟩
      refine ⟨Nat.zero_le _, fun l hl => ?_⟩
      refine nameI (i := 2) (v := .ref l) (σ := [some (.str text), some (.ref r), none, none, none, none, none]) ?_
      have k2 : Kp [] H1 (upd H1 l (.lst [])) := Kp.new hl
      have el : upd H1 l (.lst []) l = some (.lst []) := upd_same
      have e2 := k2.lst e1 List.not_mem_nil
      have hfl := hfit.len
      have hml : (rows.map V.str).length = rows.length := List.length_map ..
      refine ⟨_, rfl, r, _, rfl, .inl (SqL.of e2), (rows.length : Int), by show [V.int _] = _; rw [hml], by omega, by omega, ?_⟩
      refine for_range (D := Ends.mk _ _ (fun _ _ => False) (fun _ _ => False)) (lo := 0) (n := rows.length) (fun i σ H' => Kp [] H1 H' ∧ (∀ j r', j < i → rows[j]? = some r' → canB j r' = true) ∧ (∃ o3 o4 o5 o6, σ = [some (.str text), some (.ref r), some (.ref l), o3, o4, o5, o6]) ∧ ∃ acc, H' l = some (.lst acc) ∧ Items K H' acc (FR rows i))
        ⟨k2, fun j r' z => absurd z (Nat.not_lt_zero _), ⟨none, none, none, none, rfl⟩, [], el, .nil⟩ (fun i σ H' hi pv => ?st) (fun σ H' pv => ?dn)
      case st =>
        obtain ⟨k, hcan, ⟨o3, o4, o5, o6, rfl⟩, acc, hA, hI⟩ := pv
        have hri : rows[i]? = some rows[i] := List.getElem?_eq_getElem hi
        have hrl := hfit.row rows[i] (List.getElem_mem hi)
        have hokr := hokR rows[i] (List.getElem_mem hi)
        have hgd : rows.getD i "" = rows[i] := by rw [List.getD_eq_getElem?_getD, hri]; rfl
        have hne : rows ≠ [] := fun z => by rw [z] at hi; exact Nat.not_lt_zero _ hi
        generalize rows[i] = row at hri hrl hgd hokr
        have hxi : (rows.map V.str)[i]? = some (.str row) := by rw [List.getElem?_map, hri]; rfl
        have k01 := k1.trans k
        have eR := k.lst e1 List.not_mem_nil
        have bad : ∀ {H2 : Hp}, Kp [] H' H2 → canB i row = false → ∀ p, H2 p = none → Q (.ref p) (upd H2 p (.tup [.str "row", .int (i : Int)])) := fun k2 hc p hp => qR hne i p _ (.row i row hri hc hcan) ((k01.trans k2).trans (Kp.new hp)) (SqT.of upd_same)
        rw [Int.zero_add]
        refine ⟨_, rfl, _, _, rfl, rfl, _, rfl, ?_⟩
        by_cases c18 : 18 < i
        · refine itD1 (by show (18 : Int) < (i : Int); omega) ?_
          refine ⟨_, rfl, (by show 2 ≤ sizeLine; decide), fun p hp => bad (Kp.refl _ _) ?_ p hp⟩
          unfold canB
          rw [decide_eq_false (by omega), Bool.false_and]
        · refine itD0 (by show ¬ (18 : Int) < (i : Int); omega) ?_
          refine ⟨_, rfl, _, _, rfl, rfl, (by show (0 : Int) < 5; decide), rfl, _, rfl, ?_⟩
          by_cases c5 : i % 5 = 4
          · refine itD1 (by show V.int ((i : Int) % 5) = V.int 4; rw [show ((i : Int) % 5) = ((i % 5 : Nat) : Int) by omega, c5]; rfl) ?_
            refine ⟨_, rfl, _, rfl, r, _, (i : Int), _, rfl, rfl, SqL.of eR, atI_nat hxi, rfl, _, rfl, ?_⟩
            by_cases cd : row = "-"
            · refine itE0 (by rw [cd]) ?_
              subst cd
              refine ⟨k, fun j r' hj hr' => ?_, ⟨_, _, _, _, rfl⟩, acc, hA, ?_⟩
              · rcases Nat.lt_or_ge j i with z | z
                · exact hcan j r' z hr'
                · obtain rfl : j = i := by omega
                  rw [hri] at hr'
                  cases hr'
                  unfold canB
                  rw [decide_eq_true (by omega), Bool.true_and, if_pos c5]
                  exact decide_eq_true rfl
              · rw [FR_succ, hgd]
                have e0 : fR1 i "-" = [] := by
                  unfold fR1 fRT
                  rw [show ((List.range ("-" : Str).cps.size).filter fun x => decide (("-" : Str).cps[x]? = some 35)) = [] by decide +kernel] <;> rfl
                rw [e0, List.append_nil]
                exact hI
            · refine itE1 (fun e => cd (V.str.inj e)) ?_
              refine ⟨_, rfl, (by show 2 ≤ sizeLine; decide), fun p hp => bad (Kp.refl _ _) ?_ p hp⟩
              unfold canB
              rw [if_pos c5, decide_eq_false cd, Bool.and_false]
          · refine itD0 (fun e => c5 (by have := V.int.inj e; omega)) ?_
            have hcB : canB i row = (decide (row.length = 4) && row.cps.toList.all sgn) := by
              unfold canB
              rw [decide_eq_true (by omega), Bool.true_and, if_neg c5]
            refine ⟨_, rfl, _, rfl, r, _, (i : Int), _, rfl, rfl, SqL.of eR, atI_nat hxi, row, rfl, Nat.le_of_lt (Nat.lt_of_le_of_lt hrl (by decide)), rfl, _, rfl, ?_⟩
            by_cases c4 : row.length = 4
            · refine itE0 (by rw [c4]; rfl) ?_
              refine ⟨_, rfl, _, rfl, r, _, (i : Int), _, rfl, rfl, SqL.of eR, atI_nat hxi, row, rfl, fun D hD => lc_txt (z := row) (fun j H'' => Kp [] H' H'' ∧ H'' D = some (.lst ((badS row j).map V.str))) ⟨Kp.new hD, upd_same⟩ (fun j c H2 hc pv => ?sg) (fun H2 pv => ?dg)⟩
              case sg =>
                obtain ⟨k2, hD2⟩ := pv
                have hb := badS_len row j
                have fin : sgn c = false → ∃ acc, H2 D = some (.lst acc) ∧ acc.length < sizeLine ∧ Kp [] H' (upd H2 D (.lst (acc ++ [V.str ⟨#[c]⟩]))) ∧ upd H2 D (.lst (acc ++ [V.str ⟨#[c]⟩])) D = some (.lst ((badS row (j + 1)).map V.str)) := fun hs => by
                  refine ⟨_, hD2, small_size (by rw [List.length_map]; omega), k2.chg0 hD hD2, ?_⟩
                  rw [upd_same, badS_succ hc, hs, List.map_append]
                  rfl
                have skip : sgn c = true → Kp [] H' H2 ∧ H2 D = some (.lst ((badS row (j + 1)).map V.str)) := fun hs => by
                  refine ⟨k2, ?_⟩
                  rw [hD2, badS_succ hc, hs, if_pos rfl, List.append_nil]
                refine ⟨rfl, _, rfl, rfl, _, rfl, ?_⟩
                by_cases h35 : c = 35
                · refine itE0 (by rw [h35]; rfl) (iteF (skip ((sgn_iff c).mpr (.inl h35))))
                · refine itE1 (fun e => h35 (str1_eq.mp e)) ⟨_, rfl, rfl, _, rfl, ?_⟩
                  by_cases h46 : c = 46
                  · exact itE0 (by rw [h46]; rfl) (skip ((sgn_iff c).mpr (.inr h46)))
                  · refine itE1 (fun e => h46 (str1_eq.mp e)) ⟨_, rfl, fin ?_⟩
                    exact Bool.eq_false_iff.mpr fun z => ((sgn_iff c).mp z).elim h35 h46
              case dg =>
                obtain ⟨k2, hD2⟩ := pv
                refine ⟨Nat.zero_le _, fun p hp => ?_⟩
                have kp : Kp [] H2 (upd H2 p (.lst [])) := Kp.new hp
                have ep : upd H2 p (.lst []) p = some (.lst []) := upd_same
                have hD3 := kp.lst hD2 List.not_mem_nil
                have k3 := k2.trans kp
                generalize upd H2 p (.lst []) = H3 at kp hD3 k3 ep ⊢
                refine ⟨.list ((badS row row.cps.size).map PyData.str), .list [], .lst (SqL.of hD3) (dp_strs _), .lst (SqL.of ep) .nil, strs_shaped (badS_okc hokr _), nil_shaped, _, rfl, ?_⟩
                rw [eqv_nilS]
                cases hb : row.cps.toList.all sgn with
                | false =>
                  rw [decide_eq_false (fun z => by rw [badS_nil.mp z] at hb; cases hb)]
                  refine iteT ⟨_, rfl, (by show 2 ≤ sizeLine; decide), fun p2 hp2 => bad k3 ?_ p2 hp2⟩
                  rw [hcB, hb, Bool.and_false]
                | true =>
                  rw [decide_eq_true (badS_nil.mpr hb)]
                  refine iteF ?_
                  have eR3 := k3.lst eR List.not_mem_nil
                  have hA3 := k3.lst hA List.not_mem_nil
                  refine ⟨_, rfl, .inl ⟨rfl, _, SqL.of hA3⟩, 4, rfl, by decide, by decide, fun D2 hD2' => lc_range (lo := 0) (n := 4) (fun j H4 => Kp [] H3 H4 ∧ ∃ acc2, H4 D2 = some (.lst acc2) ∧ Items K H4 acc2 (fRT i row j)) ⟨Kp.new hD2', [], upd_same, .nil⟩ (fun j H4 hj pv => ?ex) (fun H4 pv => ?dx)⟩
                  case ex =>
                    obtain ⟨k4, acc2, hA2, hI2⟩ := pv
                    have hjl : j < row.cps.toList.length := by
                      have e : row.cps.toList.length = row.length := by simp [Str.length]
                      omega
                    have hcj : row.cps.toList[j]? = some row.cps.toList[j] := List.getElem?_eq_getElem hjl
                    generalize row.cps.toList[j] = c at hcj
                    have hcj2 : row.cps[j]? = some c := by simpa using hcj
                    rw [Int.zero_add]
                    refine ⟨rfl, _, rfl, _, rfl, r, _, (i : Int), _, rfl, rfl, SqL.of (k4.lst eR3 List.not_mem_nil), atI_nat hxi, _, rfl, row, (j : Int), c, rfl, rfl, Nat.le_of_lt (Nat.lt_of_le_of_lt hrl (by decide)), atI_nat hcj, rfl, _, rfl, ?_⟩
                    have hl2 := hI2.length
                    have hfl := fRT_len i row j
                    have fin : c = 35 → Items K H4 acc2 (fRT i row j) := fun _ => hI2
                    by_cases h35 : c = 35
                    · subst h35
                      refine itD1 rfl ?_
                      refine ⟨_, rfl, _, rfl, _, _, rfl, rfl, (by show (0 : Int) < 5; decide), _, rfl, _, _, rfl, rfl, ⟨by show (0 : Int) < 5; decide, by show (5 : Int) < 1073741824; decide⟩, (by show 3 ≤ sizeLine; decide), fun tn htn => ?_⟩
                      have kn := Kp.new (S := []) (o := .tup [.int (j : Int), .int ((i : Int) % 5), .int ((i : Int) / 5)]) htn
                      have hA6 := kn.lst hA2 List.not_mem_nil
                      have kc : Kp [D2] _ (upd (upd H4 tn (.tup [.int (j : Int), .int ((i : Int) % 5), .int ((i : Int) / 5)])) D2 (.lst (acc2 ++ [.ref tn]))) := Kp.chg hA6 (List.mem_singleton.mpr rfl)
                      refine ⟨acc2, hA6, small_size (by omega), (k4.trans kn).chg0 hD2' hA6, _, upd_same, ?_⟩
                      rw [fRT_succ, if_pos hcj2]
                      exact Items.append (items_mono kc (items_mono kn hI2)) (Items.one (dp_c (c := ((j : Int), ((i % 5 : Nat) : Int), ((i / 5 : Nat) : Int))) (kc.sqT (SqT.of upd_same))))
                    · refine itD0 (fun e => h35 (str1_eq.mp e)) ⟨k4, acc2, hA2, ?_⟩
                      rw [fRT_succ, if_neg (fun e => h35 (by rw [hcj2] at e; exact Option.some.inj e)), List.append_nil]
                      exact hI2
                  case dx =>
                    obtain ⟨k4, acc2, hA2, hI2⟩ := pv
                    have k34 := k3.trans k4
                    have hA5 := k34.lst hA List.not_mem_nil
                    have hI5 := items_mono k34 hI
                    have hl2 := hI2.length
                    have hl5 := hI5.length
                    have hfl := fRT_len i row 4
                    have hfl5 := FR_few i fun j r hj hr => (can_short (hcan j r hj hr)).2
                    have kc : Kp [l] H4 (upd H4 l (.lst (acc ++ acc2))) := Kp.chg hA5 (List.mem_singleton.mpr rfl)
                    refine ⟨l, D2, acc, acc2, rfl, rfl, hA5, hA2, Nat.le_of_lt (small_size (by omega)), (k.trans k34).chg0 hl hA5, fun j r' hj hr' => ?_, ⟨_, _, _, _, rfl⟩, _, upd_same, ?_⟩
                    · rcases Nat.lt_or_ge j i with z | z
                      · exact hcan j r' z hr'
                      · obtain rfl : j = i := by omega
                        rw [hri] at hr'
                        cases hr'
                        rw [hcB, hb, decide_eq_true c4]
                        rfl
                    · rw [FR_succ, hgd]
                      have e4 : row.cps.size = 4 := c4
                      have ef : fR1 i row = fRT i row 4 := by
                        unfold fR1
                        rw [e4]
                      rw [ef]
                      exact Items.append (items_mono kc hI5) (items_mono kc hI2)
            · refine itE1 (fun e => c4 (by have := V.int.inj e; omega)) (iteT ?_)
              refine ⟨_, rfl, (by show 2 ≤ sizeLine; decide), fun p hp => bad (Kp.refl _ _) ?_ p hp⟩
              rw [hcB, decide_eq_false c4, Bool.false_and]
      case dn =>
        obtain ⟨k, hcan, ⟨o3, o4, o5, o6, rfl⟩, acc, hA, hI⟩ := pv
        have hall : ∀ j r, rows[j]? = some r → canB j r = true := fun j r hj => hcan j r (List.getElem?_eq_some_iff.mp hj).1 hj
        have eR := k.lst e1 List.not_mem_nil
        have k01 := k1.trans k
        have hfl5 := FR_few rows.length fun j r hj hr => (can_short (hcan j r hj hr)).2
        have h19 : rows.length ≤ 19 := by
          by_cases h : rows.length ≤ 19
          · exact h
          · have := (can_short (hall 19 rows[19] (List.getElem?_eq_getElem (by omega)))).1
            omega
        refine ⟨_, rfl, Nat.zero_le _, fun p hp => ?_⟩
        have kp : Kp [] H' (upd H' p (.lst [])) := Kp.new hp
        have ep : upd H' p (.lst []) p = some (.lst []) := upd_same
        generalize upd H' p (.lst []) = H2 at kp ep ⊢
        have eR2 := kp.lst eR List.not_mem_nil
        refine ⟨.list (rows.map PyData.str), .list [], .lst (SqL.of eR2) (dp_strs _), .lst (SqL.of ep) .nil, strs_shaped hokR, nil_shaped, _, rfl, ?_⟩
        rw [eqv_nilS]
        by_cases cn : rows = []
        · rw [decide_eq_true cn]
          refine iteF ?_
          refine ⟨_, rfl, Nat.zero_le _, fun p3 hp3 => ?_⟩
          have kp3 : Kp [] H2 (upd H2 p3 (.lst [])) := Kp.new hp3
          have ep3 : upd H2 p3 (.lst []) p3 = some (.lst []) := upd_same
          generalize upd H2 p3 (.lst []) = H3 at kp3 ep3 ⊢
          refine ⟨.list (rows.map PyData.str), .list [], .lst (SqL.of (kp3.lst eR2 List.not_mem_nil)) (dp_strs _), .lst (SqL.of ep3) .nil, strs_shaped hokR, nil_shaped, _, rfl, ?_⟩
          rw [eqv_nilS, decide_eq_true cn]
          refine iteF ?_
          have k3 := kp.trans kp3
          have hA9 := k3.lst hA List.not_mem_nil
          have hI9 := items_mono k3 hI
          have hil9 := hI9.length
          refine ⟨_, rfl, .ref l, FR rows rows.length, rfl, cellsL_of hA9 hI9, Nat.le_of_lt (small_size (by omega)), fun ys ds p9 hp9 hso hit hn9 => ?_⟩
          have kq : Kp [] _ (upd _ p9 (.lst ys)) := Kp.new hn9
          refine ⟨p9, _, rfl, .inl ⟨SqL.of upd_same, fun t5 ht5 => ?_⟩⟩
          have kq5 := Kp.new (S := []) (o := .tup ys) ht5
          refine ⟨(by show 2 ≤ sizeLine; decide), fun t6 ht6 => ?_⟩
          have kq6 := Kp.new (S := []) (o := .tup [.str "cells", .ref t5]) ht6
          refine ⟨(by show 2 ≤ sizeLine; decide), fun t7 ht7 => ?_⟩
          have kq7 := Kp.new (S := []) (o := .tup [.str "body", .ref t6]) ht7
          refine qB (.inl cn) _ t7 (.ref t6) ds (((((k01.trans k3).trans kq).trans kq5).trans kq6).trans kq7) (SqT.of upd_same) (.tup (kq7.sqT (SqT.of upd_same)) (.cons (.str _) (.cons (.tup (kq7.sqT (kq6.sqT (SqT.of upd_same))) ?_) .nil))) hp9 hso
          exact items_mono kq7 (items_mono kq6 (items_mono kq5 (items_mono kq hit)))
        · rw [decide_eq_false cn]
          refine iteT ?_
          refine ⟨_, rfl, r, _, rfl, .inl (SqL.of eR2), _, _, rfl, rfl, (by show (0 : Int) < 5; decide), rfl, _, rfl, ?_⟩
          rw [hml]
          by_cases c4 : rows.length % 5 = 4
          · refine itE0 (by show V.int ((rows.length : Int) % 5) = V.int 4; rw [show ((rows.length : Int) % 5) = ((rows.length % 5 : Nat) : Int) by omega, c4]; rfl) ?_
            refine ⟨_, rfl, Nat.zero_le _, fun p3 hp3 => ?_⟩
            have kp3 : Kp [] H2 (upd H2 p3 (.lst [])) := Kp.new hp3
            have ep3 : upd H2 p3 (.lst []) p3 = some (.lst []) := upd_same
            generalize upd H2 p3 (.lst []) = H3 at kp3 ep3 ⊢
            have eR3 := kp3.lst eR2 List.not_mem_nil
            refine ⟨.list (rows.map PyData.str), .list [], .lst (SqL.of eR3) (dp_strs _), .lst (SqL.of ep3) .nil, strs_shaped hokR, nil_shaped, _, rfl, ?_⟩
            rw [eqv_nilS, decide_eq_false cn]
            refine iteT ?_
            have k3 := kp.trans kp3
            have hA3 := k3.lst hA List.not_mem_nil
            have hI3 := items_mono k3 hI
            refine ⟨_, rfl, l, rfl, ⟨_, SqL.of hA3⟩, fun D hD => lc_dataL (K := K) (FR rows rows.length) cD (fun _ => true) (fun c => .int c.2.2) noL_c (fun _ _ => rfl) hD (SqL.of hA3) hI3 (by omega) (fun c x H4 Nx Z _ k4 hx nx _ => ?ca) (fun H4 ys k4 hy hd => ?cb)⟩
            case ca =>
              obtain ⟨p4, rfl, hp4⟩ := of_dp_c hx
              refine ⟨rfl, yesI ?_⟩
              exact ⟨_, rfl, p4, _, 2, _, rfl, rfl, hp4, rfl, nx _ _ (Kp.refl _ _) rfl (.int _)⟩
            case cb =>
              have e : ((FR rows rows.length).filter fun _ => true).map (fun c : C3 => PyData.int c.2.2) = ((FR rows rows.length).map fun c => c.2.2).map PyData.int := by
                rw [List.filter_eq_self.mpr fun _ _ => rfl, List.map_map]
                rfl
              rw [e] at hd
              have e2 := dps_ints hd
              subst e2
              dsimp only [tNil, tCons, tC]
              refine ⟨_, rfl, ?_⟩
              refine maxR (SqL.of hy) fun m hm => ?_
              have htl := top_low c4 hm
              have eR4 := k4.lst eR3 List.not_mem_nil
              have k34 := k3.trans k4
              refine ⟨_, rfl, r, _, rfl, .inl (SqL.of eR4), _, _, rfl, rfl, ⟨by show (0 : Int) < 5; decide, by show (5 : Int) < 1073741824; decide⟩, _, _, rfl, rfl, _, rfl, ?_⟩
              rw [hml]
              by_cases c6 : m < ((rows.length / 5 : Nat) : Int)
              · refine itD1 (by omega) ?_
                refine ⟨_, rfl, r, _, rfl, .inl (SqL.of eR4), _, _, rfl, rfl, (by show 2 ≤ sizeLine; decide), fun p2 hp2 => ?_⟩
                have z := qR cn _ p2 (upd H4 p2 (.tup [.str "row", .int ((rows.length - 1 : Nat) : Int)])) (.top hall c4 (htl.mp c6)) ((k01.trans k34).trans (Kp.new hp2)) (SqT.of upd_same)
                rw [show ((rows.length - 1 : Nat) : Int) = ((rows.map V.str).length : Int) - 1 by rw [hml]; omega] at z
                exact z
              · refine itD0 (by omega) ?_
                have hg : GoodR rows := ⟨hall, c4, by
                  cases ha : (rows.drop (rows.length - 4)).any hasS with
                  | true => rfl
                  | false => exact absurd (htl.mpr ha) c6⟩
                have hA9 := k34.lst hA List.not_mem_nil
                have hI9 := items_mono k34 hI
                have hil9 := hI9.length
                refine ⟨_, rfl, .ref l, FR rows rows.length, rfl, cellsL_of hA9 hI9, Nat.le_of_lt (small_size (by omega)), fun ys ds p9 hp9 hso hit hn9 => ?_⟩
                have kq : Kp [] _ (upd _ p9 (.lst ys)) := Kp.new hn9
                refine ⟨p9, _, rfl, .inl ⟨SqL.of upd_same, fun t5 ht5 => ?_⟩⟩
                have kq5 := Kp.new (S := []) (o := .tup ys) ht5
                refine ⟨(by show 2 ≤ sizeLine; decide), fun t6 ht6 => ?_⟩
                have kq6 := Kp.new (S := []) (o := .tup [.str "cells", .ref t5]) ht6
                refine ⟨(by show 2 ≤ sizeLine; decide), fun t7 ht7 => ?_⟩
                have kq7 := Kp.new (S := []) (o := .tup [.str "body", .ref t6]) ht7
                refine qB (.inr hg) _ t7 (.ref t6) ds (((((k01.trans k34).trans kq).trans kq5).trans kq6).trans kq7) (SqT.of upd_same) (.tup (kq7.sqT (SqT.of upd_same)) (.cons (.str _) (.cons (.tup (kq7.sqT (kq6.sqT (SqT.of upd_same))) ?_) .nil))) hp9 hso
                exact items_mono kq7 (items_mono kq6 (items_mono kq5 (items_mono kq hit)))
          · refine itE1 (fun e => c4 (by have := V.int.inj e; omega)) ?_
            refine ⟨_, rfl, r, _, rfl, .inl (SqL.of eR2), (by show 2 ≤ sizeLine; decide), fun p2 hp2 => ?_⟩
            rw [hml]
            exact qR cn _ p2 _ (.len hall c4) ((k01.trans kp).trans (Kp.new hp2)) (SqT.of upd_same)
    obtain ⟨t1, ht1, hq1⟩ := tail
    refine ⟨_, pss_cons (ps_set (i := 1) scDueT.nd rfl (.inr rfl) (pe_ifExp (pt_cmpR op_ne (pv 0) pe_str (nomark _)) (pe_split (pv 0) pe_str) (pe_lst pa_nil))) ht1, ?_⟩
    refine ⟨_, rfl, rfl, _, rfl, ?_⟩
    by_cases c0 : text = ""
    · subst c0
      refine itE0 rfl ⟨Nat.zero_le _, fun r hr => ?_⟩
      refine nameI (i := 1) (v := .ref r) (σ := [some (.str ""), none, none, none, none, none, none]) ?_
      have k1 : Kp [] H (upd H r (.lst [])) := Kp.new hr
      exact hq1 [] r _ ⟨Nat.zero_le _, fun r h => by cases h⟩ (fun r h => by cases h) k1 upd_same (fun _ H' p v ds k hT hB hp hso => q (.inl rfl) H' p v ds k hT hB (by rw [if_pos rfl]; exact hp) hso) fun h => absurd rfl h
    · refine itE1 (fun e => c0 (V.str.inj e)) ⟨_, rfl, ⟨_, rfl⟩, text, "\n", rfl, rfl, by decide +kernel, (Nat.le_of_lt (Nat.lt_of_le_of_lt (show text.length + 2 ≤ 10002 by omega) (by decide))), fun r hr => ?_⟩
      refine nameI (i := 1) (v := .ref r) (σ := [some (.str text), none, none, none, none, none, none]) ?_
      have k1 : Kp [] H (upd H r (.lst ((Txt.split text "\n").map V.str))) := Kp.new hr
      rw [if_neg c0] at q
      refine hq1 (Txt.split text "\n") r _ (fit_split htl) (split_okc hok) k1 upd_same (fun hg H' p v ds k hT hB hp hso => q ?_ H' p v ds k hT hB hp hso) fun _ => qE c0
      rcases hg with z | z
      · have := split_pos text "\n"
        rw [z] at this
        cases this
      · exact .inr z
end LP
end

section
set_option Elab.async false
set_option linter.all false
set_option maxRecDepth 100000
set_option maxHeartbeats 4000000
/-! _law_changed -/
namespace LP
open PySem PySem.Spec PyProof.Rows L2 Ly GY
variable [LamTab] {P : Program} {W0 : World} {K : PySem.W.Frag} {mg : Str → Option Value} {base : Heap}
def spChanged : Sp := fun vs H Q _ => ∃ (h l : Addr) (text : Str), vs = [.ref h, .str text] ∧ text.length ≤ 4000 ∧ Okc text ∧ Sta H h l ∧
  ∀ (H' : Hp) (t' : Str), Kp [h, l] H H' → Sta H' h l → t'.length ≤ 2 * text.length + 10 → Okc t' → Q (.str t') H'
abbrev nChg : List Str := ["_law_h", "_law_text_here", "_law_way", "_law_at", "_law_sign", "_law_rows", "_law_k", "_law_odd"]
theorem scChg : FnScope nChg ["_law_h", "_law_text_here"] (defScope lChanged) := ⟨rfl, rfl, rfl, by decide +kernel, rfl, by decide +kernel, by decide +kernel⟩
theorem okc_app {x y : Str} (h1 : Okc x) (h2 : Okc y) : Okc (x ++ y) := fun c hc => by
  have e : (x ++ y).cps.toList = x.cps.toList ++ y.cps.toList := by
    show (x.cps ++ y.cps).toList = _
    simp
  rw [e] at hc
  rcases List.mem_append.mp hc with z | z
  · exact h1 c z
  · exact h2 c z
theorem okc_cut {x : Str} (h : Okc x) (lo hi : Option Int) : Okc (cutS x lo hi) := fun c hc => by
  unfold cutS at hc
  have hc : c ∈ (x.cps.toList.drop (HT.sIx x.length 0 lo)).take (HT.sIx x.length x.length hi - HT.sIx x.length 0 lo) := by simpa using hc
  exact h c (List.mem_of_mem_drop (List.mem_of_mem_take hc))
theorem okc_join {xs : List Str} (h : ∀ x ∈ xs, Okc x) : Okc (Txt.join "\n" xs) := fun c hc => by
  have e : Txt.join "\n" xs = Str.join "\n" xs := StrLaws.glued_eq_join "\n" xs
  rw [e] at hc
  rcases (mem_join "\n" c xs).mp hc with ⟨x, hx, hcx⟩ | ⟨_, z⟩
  · exact h x hx c hcx
  · have e2 : ("\n" : Str).cps.toList = [10] := by decide +kernel
    rw [e2] at z
    have := List.mem_singleton.mp z
    omega
theorem join_len (xs : List Str) : (Txt.join "\n" xs).length ≤ (xs.map (·.length)).sum + xs.length := by
  have e : Txt.join "\n" xs = Str.join "\n" xs := StrLaws.glued_eq_join "\n" xs
  rw [e]
  have := StrLaws.join_length_le "\n" xs
  have e1 : ("\n" : Str).length = 1 := by decide +kernel
  rw [e1] at this
  omega
def odds : List Str := ["", "-", "....", "####", "...", ".....", "--", "#o..", " ", "-..."]
theorem odds_ok : ∀ s ∈ odds, s.length ≤ 5 ∧ Okc s := by
  have key : ∀ s ∈ odds, s.length ≤ 5 ∧ (s.cps.toList.all fun c => decide (c < 1114112)) = true := by decide +kernel
  exact fun s hs => ⟨(key s hs).1, fun c hc => of_decide_eq_true (List.all_eq_true.mp (key s hs).2 c hc)⟩
def signs : List Nat := ("#..#-\n o+" : Str).cps.toList
theorem signs_ok : ∀ c ∈ signs, c < 1114112 := by decide +kernel
theorem cut_take {xs : List V} {k : Nat} (h : k ≤ xs.length) : cutV xs none (some (k : Int)) = xs.take k := by
  unfold cutV
  rw [HT.sIx_nat, HT.sIx_none, Nat.min_eq_left h, List.drop_zero, Nat.sub_zero]
theorem cut_drop {xs : List V} {k : Nat} (h : k ≤ xs.length) : cutV xs (some (k : Int)) none = xs.drop k := by
  unfold cutV
  rw [HT.sIx_nat, HT.sIx_none, Nat.min_eq_left h, List.take_of_length_le (by rw [List.length_drop]; exact Nat.le_refl _)]
theorem ok_changed {f fX : Addr} {fd dX : FuncData} (F : Fun K "_law_changed" "_law_changed" lChanged f fd) (T : Nm K mg) (NX : Fn K mg "_law_next" fX dX ["_law_h", "_law_many"]) (GX : FnOk P W0 K mg base CX0 1 fX dX ["_law_h", "_law_many"] spNext) :
    FnOk P W0 K mg base CX0 2 f fd ["_law_h", "_law_text_here"] spChanged := by
  refine F.ok scChg (fun vs H Q E h => ?_) (fun cdv A outer s H vs Q E hr h => ?_)
  · obtain ⟨h, l, text, rfl, _⟩ := h
    rfl
  · obtain ⟨h, l, text, rfl, htl, hok, hS, q⟩ := h
    refine ⟨_, pss_cons (ps_set (i := 2) scChg.nd rfl (.inl rfl) (pe_call GX hr (by rfl) NX.m NX.kp NX.b .nil pass0 (pa_cons (pv 0) (pa_cons pe_int pa_nil))))
      (pss_cons (ps_set (i := 3) scChg.nd rfl (.inl rfl) (pe_call GX hr (by rfl) NX.m NX.kp NX.b .nil pass0 (pa_cons (pv 0) (pa_cons (pe_op op_add (pe_callB call_len_str (by rfl) T.len PySem.boot_len (pa_cons (pv 1) pa_nil)) pe_int) pa_nil))))
      (pss_cons (ps_set (i := 4) scChg.nd rfl (.inl rfl) (pe_ix (r := rIxS) ix_str pe_str (pe_call GX hr (by rfl) NX.m NX.kp NX.b .nil pass0 (pa_cons (pv 0) (pa_cons pe_int pa_nil))) (fun _ _ => rfl)))
      (pss_cons (ps_if (pt_cmpR op_lt (pv 2) pe_int (nomark _))
        (pss_one (ps_ret (pe_op op_add_str (pe_op op_add_str (pe_slice sl_str (pv 1) po_none (po_some (pv 3))) (pe_ix ix_list (pe_lst (pa_cons (pv 4) (pa_cons pe_str (pa_cons (pv 4) pa_nil)))) (pv 2) (fun _ _ => rfl)))
          (pe_slice sl_str (pv 1) (po_some (pe_op op_add (pv 3) (pe_callTy call_int1 (by rfl) T.int (by decide +kernel) (pa_cons (pe_cmpR op_gt (pv 2) pe_int (nomark _)) pa_nil)))) po_none)))) pss_nil)
      (pss_cons (ps_set (i := 5) scChg.nd rfl (.inl rfl) (pe_split (pv 1) pe_str))
      (pss_cons (ps_set (i := 6) scChg.nd rfl (.inl rfl) (pe_call GX hr (by rfl) NX.m NX.kp NX.b .nil pass0 (pa_cons (pv 0) (pa_cons (pe_callB call_len_seq (by rfl) T.len PySem.boot_len (pa_cons (pv 5) pa_nil)) pa_nil))))
      (pss_cons (ps_set (i := 7) scChg.nd rfl (.inl rfl) (pe_ix ix_list (pe_lst (pa_cons pe_str (pa_cons pe_str (pa_cons pe_str (pa_cons pe_str (pa_cons pe_str (pa_cons pe_str (pa_cons pe_str (pa_cons pe_str (pa_cons pe_str (pa_cons pe_str pa_nil))))))))))) (pe_call GX hr (by rfl) NX.m NX.kp NX.b .nil pass0 (pa_cons (pv 0) (pa_cons pe_int pa_nil))) (fun _ _ => rfl)))
      (pss_cons (ps_if (pt_cmpR op_eq (pv 2) pe_int (nomark _))
        (pss_one (ps_set (i := 5) scChg.nd rfl (.inl rfl) (pe_op op_cat (pv 5) (pe_lst (pa_cons (pv 7) pa_nil)))))
        (pss_one (ps_set (i := 5) scChg.nd rfl (.inl rfl) (pe_op op_cat (pe_op op_cat (pe_slice sl_list (pv 5) po_none (po_some (pv 6)))
          (pe_ix ix_list (pe_lst (pa_cons (pe_lst pa_nil) (pa_cons (pe_lst (pa_cons (pe_ix ix_list (pv 5) (pv 6) (fun _ _ => rfl)) (pa_cons (pe_ix ix_list (pv 5) (pv 6) (fun _ _ => rfl)) pa_nil))) (pa_cons (pe_lst (pa_cons (pv 7) pa_nil)) pa_nil)))) (pe_op op_sub (pv 2) pe_int) (fun _ _ => rfl)))
          (pe_slice sl_list (pv 5) (po_some (pe_op op_add (pv 6) pe_int)) po_none)))))
      (pss_one (ps_ret (pe_join pe_str (pv 5))))))))))), ?_⟩
    refine ⟨_, rfl, h, l, 7, rfl, by decide, by decide, hS, fun H1 way k1 hS1 w0 w7 => ?_⟩
    refine nameI (i := 2) (v := .int way) (σ := [some (.ref h), some (.str text), none, none, none, none, none, none]) ?_
    have hs : (100000 : Nat) < sizeLine := by decide
    refine ⟨_, rfl, _, rfl, text, rfl, by omega, _, _, rfl, rfl, h, l, (text.length : Int) + 1, rfl, by omega, by omega, hS1, fun H2 at_ k2 hS2 a0 a1 => ?_⟩
    refine nameI (i := 3) (v := .int at_) (σ := [some (.ref h), some (.str text), some (.int way), none, none, none, none, none]) ?_
    refine ⟨_, rfl, h, l, 9, rfl, by decide, by decide, hS2, fun H3 sg k3 hS3 s0 s9 => ?_⟩
    obtain ⟨n, rfl⟩ : ∃ n : Nat, sg = (n : Int) := ⟨sg.toNat, by omega⟩
    have hn : n < signs.length := by
      have : signs.length = 9 := by decide +kernel
      omega
    have hc : signs[n]? = some signs[n] := List.getElem?_eq_getElem hn
    have hcO := signs_ok _ (List.getElem_mem hn)
    generalize signs[n] = c at hc hcO
    refine ⟨_, (n : Int), c, rfl, rfl, by decide +kernel, atI_nat hc, ?_⟩
    have okC : Okc ⟨#[c]⟩ := fun d hd => by
      have e : d = c := by simpa using hd
      rw [e]
      exact hcO
    refine nameI (i := 4) (v := .str ⟨#[c]⟩) (σ := [some (.ref h), some (.str text), some (.int way), some (.int at_), none, none, none, none]) ?_
    have k03 := (k1.trans k2).trans k3
    refine ⟨_, rfl, _, _, rfl, rfl, _, rfl, ?_⟩
    by_cases c3 : way < 3
    · refine itD1 c3 ?_
      refine ⟨_, rfl, _, rfl, _, rfl, text, rfl, by omega, _, rfl, _, rfl, (by show 3 ≤ sizeLine; decide), fun p hp => ?_⟩
      have kp : Kp [] H3 (upd H3 p (.lst [.str ⟨#[c]⟩, .str "", .str ⟨#[c]⟩])) := Kp.new hp
      have hat : ∃ z : Str, atI [V.str ⟨#[c]⟩, V.str "", V.str ⟨#[c]⟩] way = some (.str z) ∧ z.length ≤ 1 ∧ Okc z := by
        rcases (show way = 0 ∨ way = 1 ∨ way = 2 by omega) with rfl | rfl | rfl
        · exact ⟨_, rfl, Nat.le_refl _, okC⟩
        · exact ⟨"", rfl, by decide +kernel, fun d hd => by
            have e : ("" : Str).cps.toList = [] := by decide +kernel
            rw [e] at hd
            cases hd⟩
        · exact ⟨_, rfl, Nat.le_refl _, okC⟩
      obtain ⟨z, hz, hzl, hzo⟩ := hat
      have l1 := cutS_length text none (some at_)
      refine ⟨_, rfl, p, _, way, _, rfl, rfl, SqL.of upd_same, hz, _, _, rfl, rfl, by omega, ?_⟩
      have fin : ∀ i : Int, Q (.str (cutS text none (some at_) ++ z ++ cutS text (some i) none)) (upd H3 p (.lst [.str ⟨#[c]⟩, .str "", .str ⟨#[c]⟩])) := fun i => by
        have l2 := cutS_length text (some i) none
        exact q _ _ (k03.trans kp.w0) (hS3.mono0 kp) (by rw [Str.length_append, Str.length_append]; omega) (okc_app (okc_app (okc_cut hok _ _) hzo) (okc_cut hok _ _))
      refine ⟨_, rfl, _, rfl, _, rfl, _, _, rfl, rfl, .inr ⟨_, rfl, _, _, rfl, rfl, _, rfl, text, rfl, by omega, _, _, rfl, rfl, ?_, fin _⟩⟩
      have l2 := cutS_length text (some (at_ + if decide (0 < way) = true then 1 else 0)) none
      rw [Str.length_append]
      omega
    · refine itD0 c3 ?_
      have hfit : Fit (Txt.split text "\n") := fit_split (by omega)
      have hspo := split_okc (y := "\n") hok
      have hwt := split_weight text "\n" (by decide +kernel)
      have hpos := split_pos text "\n"
      refine ⟨_, rfl, ⟨_, rfl⟩, text, "\n", rfl, rfl, by decide +kernel, by omega, fun r hr' => ?_⟩
      generalize Txt.split text "\n" = rows at hfit hspo hwt hpos ⊢
      refine nameI (i := 5) (v := .ref r) (σ := [some (.ref h), some (.str text), some (.int way), some (.int at_), some (.str ⟨#[c]⟩), none, none, none]) ?_
      have kr : Kp [] H3 (upd H3 r (.lst (rows.map V.str))) := Kp.new hr'
      have er : upd H3 r (.lst (rows.map V.str)) r = some (.lst (rows.map V.str)) := upd_same
      have hSr := hS3.mono0 kr
      have hra := hS3.apart hr'
      have hml : (rows.map V.str).length = rows.length := List.length_map ..
      generalize upd H3 r (.lst (rows.map V.str)) = H4 at kr er hSr ⊢
      refine ⟨_, rfl, _, rfl, r, _, rfl, .inl (SqL.of er), h, l, (rows.length : Int), by show [V.ref h, V.int _] = _; rw [hml], by omega, by omega, hSr, fun H5 kk k5 hS5 b0 b1 => ?_⟩
      refine nameI (i := 6) (v := .int kk) (σ := [some (.ref h), some (.str text), some (.int way), some (.int at_), some (.str ⟨#[c]⟩), some (.ref r), none, none]) ?_
      have er5 := k5.lst er hra
      refine ⟨(by show 10 ≤ sizeLine; decide), fun p hp => ?_⟩
      have kp : Kp [] H5 (upd H5 p (.lst (odds.map V.str))) := Kp.new hp
      have ep : upd H5 p (.lst (odds.map V.str)) p = some (.lst (odds.map V.str)) := upd_same
      have hSp := hS5.mono0 kp
      have hpa := hS5.apart hp
      have er6 := kp.lst er5 List.not_mem_nil
      refine ⟨_, rfl, h, l, 10, rfl, by decide, by decide, hSp, fun H7 od k7 hS7 d0 d1 => ?_⟩
      have er7 := k7.lst er6 hra
      have ep7 := k7.lst ep hpa
      obtain ⟨n2, rfl⟩ : ∃ n : Nat, od = (n : Int) := ⟨od.toNat, by omega⟩
      have hn2 : n2 < odds.length := by
        have : odds.length = 10 := rfl
        omega
      have ho : odds[n2]? = some odds[n2] := List.getElem?_eq_getElem hn2
      obtain ⟨hol, hoo⟩ := odds_ok _ (List.getElem_mem hn2)
      generalize odds[n2] = ow at ho hol hoo
      refine ⟨p, _, (n2 : Int), .str ow, rfl, rfl, SqL.of ep7, atI_nat (by rw [List.getElem?_map, ho]; rfl), ?_⟩
      refine nameI (i := 7) (v := .str ow) (σ := [some (.ref h), some (.str text), some (.int way), some (.int at_), some (.str ⟨#[c]⟩), some (.ref r), some (.int kk), none]) ?_
      have k07 : Kp [h, l] H H7 := (((k03.trans kr.w0).trans k5).trans kp.w0).trans k7
      have done : ∀ (ys : List Str) (H8 : Hp), Kp [] H7 H8 → (ys.map (·.length)).sum + ys.length ≤ 2 * text.length + 10 → (∀ s ∈ ys, Okc s) → Q (.str (Txt.join "\n" ys)) H8 := fun ys H8 k8 hsum ho8 =>
        q _ _ (k07.trans k8.w0) (hS7.mono0 k8) (by have := join_len ys; omega) (okc_join ho8)
      have hwl := hwt
      have n1 : ("\n" : Str).length = 1 := by decide +kernel
      refine ⟨_, rfl, rfl, _, rfl, ?_⟩
      by_cases c6 : way = 6
      · refine itD1 (by rw [c6]) ?_
        refine ⟨_, rfl, _, rfl, (by show 1 ≤ sizeLine; decide), fun p2 hp2 => ?_⟩
        have kp2 := Kp.new (S := []) (o := .lst [.str ow]) hp2
        refine ⟨r, p2, _, _, rfl, rfl, kp2.lst er7 List.not_mem_nil, upd_same, Nat.le_of_lt (small_size (by rw [hml]; show rows.length + 1 ≤ _; omega)), fun p3 hp3 => ?_⟩
        have kp3 := Kp.new (S := []) (o := .lst (rows.map V.str ++ [.str ow])) hp3
        refine nameI (i := 5) (v := .ref p3) (σ := [some (.ref h), some (.str text), some (.int way), some (.int at_), some (.str ⟨#[c]⟩), some (.ref r), some (.int kk), some (.str ow)]) ?_
        have esum : ((rows ++ [ow]).map (·.length)).sum = (rows.map (·.length)).sum + ow.length := by simp
        have elen : (rows ++ [ow]).length = rows.length + 1 := by simp
        refine ⟨⟨_, rfl⟩, _, rfl, _, p3, rows ++ [ow], rfl, rfl, .inl (SqL.of (by rw [upd_same, List.map_append]; rfl)), ?_, done (rows ++ [ow]) _ (kp2.trans kp3) ?_ ?_⟩
        · rw [esum, elen, n1]
          omega
        · rw [esum, elen]
          omega
        · intro s hs'
          rcases List.mem_append.mp hs' with z | z
          · exact hspo s z
          · rw [List.mem_singleton.mp z]
            exact hoo
      · refine itD0 (fun e => c6 (V.int.inj e)) ?_
        obtain ⟨k, rfl⟩ : ∃ k : Nat, kk = (k : Int) := ⟨kk.toNat, by omega⟩
        have hkl : k < rows.length := by omega
        have hrk : rows[k]? = some rows[k] := List.getElem?_eq_getElem hkl
        have hsplit : rows = rows.take k ++ rows[k] :: rows.drop (k + 1) := by
          rw [← List.drop_eq_getElem_cons hkl, List.take_append_drop]
        have hrko := hspo _ (List.getElem_mem hkl)
        generalize rows[k] = row at hrk hsplit hrko
        have hxk : (rows.map V.str)[k]? = some (.str row) := by rw [List.getElem?_map, hrk]; rfl
        have hS := congrArg (fun l : List Str => (l.map (·.length)).sum) hsplit
        simp only [List.map_append, List.map_cons, List.sum_append, List.sum_cons] at hS
        have htl1 : (rows.take k).length = k := by rw [List.length_take]; omega
        have htl2 : (rows.drop (k + 1)).length = rows.length - (k + 1) := List.length_drop ..
        refine ⟨_, rfl, _, rfl, _, rfl, r, _, rfl, SqL.of er7, fun q1 hq1 => ?_⟩
        have kq1 := Kp.new (S := []) (o := .lst (cutV (rows.map V.str) none (some (k : Int)))) hq1
        have eq1 : upd H7 q1 (.lst (cutV (rows.map V.str) none (some (k : Int)))) q1 = some (.lst ((rows.take k).map V.str)) := by rw [upd_same, cut_take (by rw [hml]; omega), List.map_take]
        generalize upd H7 q1 (.lst (cutV (rows.map V.str) none (some (k : Int)))) = G1 at kq1 eq1 ⊢
        have er8 := kq1.lst er7 List.not_mem_nil
        refine ⟨Nat.zero_le _, fun p1 hp1 => ?_⟩
        have kg1 : Kp [] G1 (upd G1 p1 (.lst [])) := Kp.new hp1
        have ep1 : upd G1 p1 (.lst []) p1 = some (.lst (([] : List Str).map V.str)) := upd_same
        generalize upd G1 p1 (.lst []) = G2 at kg1 ep1 ⊢
        have er9 := kg1.lst er8 List.not_mem_nil
        refine ⟨_, rfl, _, rfl, r, _, (k : Int), _, rfl, rfl, SqL.of er9, atI_nat hxk, _, rfl, _, rfl, r, _, (k : Int), _, rfl, rfl, SqL.of er9, atI_nat hxk, (by show 2 ≤ sizeLine; decide), fun p2 hp2 => ?_⟩
        have kg2 : Kp [] G2 (upd G2 p2 (.lst [.str row, .str row])) := Kp.new hp2
        have ep2 : upd G2 p2 (.lst [.str row, .str row]) p2 = some (.lst (([row, row] : List Str).map V.str)) := upd_same
        generalize upd G2 p2 (.lst [.str row, .str row]) = G3 at kg2 ep2 ⊢
        refine ⟨_, rfl, (by show 1 ≤ sizeLine; decide), fun p3 hp3 => ?_⟩
        have kg3 : Kp [] G3 (upd G3 p3 (.lst [.str ow])) := Kp.new hp3
        have ep3 : upd G3 p3 (.lst [.str ow]) p3 = some (.lst (([ow] : List Str).map V.str)) := upd_same
        generalize upd G3 p3 (.lst [.str ow]) = G4 at kg3 ep3 ⊢
        refine ⟨(by show 3 ≤ sizeLine; decide), fun p4 hp4 => ?_⟩
        have kg4 : Kp [] G4 (upd G4 p4 (.lst [.ref p1, .ref p2, .ref p3])) := Kp.new hp4
        have ep4 : upd G4 p4 (.lst [.ref p1, .ref p2, .ref p3]) p4 = some (.lst [.ref p1, .ref p2, .ref p3]) := upd_same
        generalize upd G4 p4 (.lst [.ref p1, .ref p2, .ref p3]) = G5 at kg4 ep4 ⊢
        have pick : ∃ (px : Addr) (mid : List Str), atI [V.ref p1, V.ref p2, V.ref p3] (way - 3) = some (.ref px) ∧ G5 px = some (.lst (mid.map V.str)) ∧ (mid.map (·.length)).sum + mid.length ≤ 2 * row.length + 6 ∧ mid.length ≤ 2 ∧ ∀ s ∈ mid, Okc s := by
          rcases (show way = 3 ∨ way = 4 ∨ way = 5 by omega) with rfl | rfl | rfl
          · exact ⟨p1, [], rfl, kg4.lst (kg3.lst (kg2.lst ep1 List.not_mem_nil) List.not_mem_nil) List.not_mem_nil, by simp, by simp, fun s h => by cases h⟩
          · refine ⟨p2, [row, row], rfl, kg4.lst (kg3.lst ep2 List.not_mem_nil) List.not_mem_nil, by simp; omega, by simp, fun s h => ?_⟩
            rcases List.mem_cons.mp h with z | z
            · rw [z]; exact hrko
            · rw [List.mem_singleton.mp z]; exact hrko
          · refine ⟨p3, [ow], rfl, kg4.lst ep3 List.not_mem_nil, by simp; omega, by simp, fun s h => ?_⟩
            rw [List.mem_singleton.mp h]
            exact hoo
        obtain ⟨px, mid, hat, epx, hms, hmll, hmo⟩ := pick
        have kg15 := ((kg1.trans kg2).trans kg3).trans kg4
        refine ⟨_, rfl, _, _, rfl, rfl, p4, _, way - 3, _, rfl, rfl, SqL.of ep4, hat, ?_⟩
        refine ⟨q1, px, _, _, rfl, rfl, kg15.lst eq1 List.not_mem_nil, epx, Nat.le_of_lt (small_size (by rw [List.length_map, List.length_map]; omega)), fun p5 hp5 => ?_⟩
        have kg5 := Kp.new (S := []) (o := .lst ((rows.take k).map V.str ++ mid.map V.str)) hp5
        have ep5 : upd G5 p5 (.lst ((rows.take k).map V.str ++ mid.map V.str)) p5 = some (.lst ((rows.take k ++ mid).map V.str)) := by rw [upd_same, List.map_append]
        generalize upd G5 p5 (.lst ((rows.take k).map V.str ++ mid.map V.str)) = G6 at kg5 ep5 ⊢
        have er10 := (kg15.trans kg5).lst er8 List.not_mem_nil
        refine ⟨_, rfl, _, rfl, _, _, rfl, rfl, _, rfl, r, _, rfl, SqL.of er10, fun p6 hp6 => ?_⟩
        have kg6 := Kp.new (S := []) (o := .lst (cutV (rows.map V.str) (some ((k : Int) + 1)) none)) hp6
        have ep6 : upd G6 p6 (.lst (cutV (rows.map V.str) (some ((k : Int) + 1)) none)) p6 = some (.lst ((rows.drop (k + 1)).map V.str)) := by
          rw [upd_same, show ((k : Int) + 1) = ((k + 1 : Nat) : Int) by omega, cut_drop (by rw [hml]; omega), List.map_drop]
        generalize upd G6 p6 (.lst (cutV (rows.map V.str) (some ((k : Int) + 1)) none)) = G7 at kg6 ep6 ⊢
        refine ⟨p5, p6, _, _, rfl, rfl, kg6.lst ep5 List.not_mem_nil, ep6, Nat.le_of_lt (small_size (by rw [List.length_map, List.length_map, List.length_append]; omega)), fun p7 hp7 => ?_⟩
        have kg7 := Kp.new (S := []) (o := .lst ((rows.take k ++ mid).map V.str ++ (rows.drop (k + 1)).map V.str)) hp7
        refine nameI (i := 5) (v := .ref p7) (σ := [some (.ref h), some (.str text), some (.int way), some (.int at_), some (.str ⟨#[c]⟩), some (.ref r), some (.int (k : Int)), some (.str ow)]) ?_
        have esum : ((rows.take k ++ mid ++ rows.drop (k + 1)).map (·.length)).sum = ((rows.take k).map (·.length)).sum + (mid.map (·.length)).sum + ((rows.drop (k + 1)).map (·.length)).sum := by simp [Nat.add_assoc]
        have elen : (rows.take k ++ mid ++ rows.drop (k + 1)).length = k + mid.length + (rows.length - (k + 1)) := by rw [List.length_append, List.length_append, htl1, htl2]
        refine ⟨⟨_, rfl⟩, _, rfl, _, p7, rows.take k ++ mid ++ rows.drop (k + 1), rfl, rfl, .inl (SqL.of (by rw [upd_same]; simp only [List.map_append])), ?_, done (rows.take k ++ mid ++ rows.drop (k + 1)) _ ((((kq1.trans kg15).trans kg5).trans kg6).trans kg7) ?_ ?_⟩
        · rw [esum, elen, n1]
          omega
        · rw [esum, elen]
          omega
        · intro s hs'
          rcases List.mem_append.mp hs' with z | z
          · rcases List.mem_append.mp z with z | z
            · exact hspo s (List.mem_of_mem_take z)
            · exact hmo s z
          · exact hspo s (List.mem_of_mem_drop z)
end LP
end

section
set_option Elab.async false
set_option linter.all false
set_option maxRecDepth 100000
set_option maxHeartbeats 4000000
/-! _law_text -/
namespace LP
open PySem PySem.Spec PyProof.Rows L2 Ly GY
variable [LamTab] {P : Program} {W0 : World} {K : PySem.W.Frag} {mg : Str → Option Value} {base : Heap}
def txScope : Scope := { kind := .function, names := [(".0", .local), ("_law_y", .cell), ("range", .globalImplicit), ("_law_some", .cell), ("_law_z", .cell)], isGenerator := false, isCoroutine := false }
theorem high_z {cs : List C3} {m : Int} (h : ∀ c ∈ cs, InR c) (q : HighP (cs.map fun c => c.2.2) (-1) m) : m + 1 = (lay cs : Int) := by
  refine lay_of h ?_
  have e : zs1 cs = (cs.map fun c => c.2.2).map (· + 1) := by unfold zs1; rw [List.map_map]; rfl
  rw [e]
  rcases q with ⟨h1, h2⟩ | ⟨h1, h2⟩
  · exact .inl ⟨by rw [h1]; rfl, by omega⟩
  · refine .inr ⟨List.mem_map.mpr ⟨m, h1, rfl⟩, fun j hj => ?_⟩
    obtain ⟨i, hi, rfl⟩ := List.mem_map.mp hj
    have := h2 i hi
    show i + 1 ≤ m + 1
    omega
def spText (K : PySem.W.Frag) : Sp := fun vs H Q _ => ∃ (v : V) (cs : List C3), vs = [v] ∧ CellsL K H v cs ∧ cs.length ≤ 64 ∧ (∀ c ∈ cs, InR c) ∧ ∀ H', Kp [] H H' → Q (.str (textOf cs)) H'
theorem scText : FnScope ["_law_some", "_law_rows", "_law_z", "_law_cell", "_law_x", "_law_y"] ["_law_some"] (defScope lText) := ⟨rfl, rfl, rfl, by decide +kernel, rfl, by decide +kernel, by decide +kernel⟩
theorem cutDash (i : Nat) : cutV [V.str "-"] none (some (i : Int)) = (sep i).map V.str := by
  unfold cutV sep
  rw [HT.sIx_nat, HT.sIx_none]
  by_cases h : 0 < i
  · rw [if_pos h, Nat.min_eq_right (show [V.str "-"].length ≤ i from h)]
    rfl
  · have : i = 0 := by omega
    subst this
    rfl
theorem ok_text {f : Addr} {fd : FuncData} (F : Fun K "_law_text" "_law_text" lText f fd) (T : Nm K mg) (U : Nl K mg) : FnOk P W0 K mg base CX0 2 f fd ["_law_some"] (spText K) := by
  refine F.ok scText (fun vs H Q E h => ?_) (fun cdv A outer s H vs Q E hr h => ?_)
  · obtain ⟨v, cs, rfl, _⟩ := h
    rfl
  · obtain ⟨v, cs, rfl, hC, h64, hR, q⟩ := h
    refine ⟨_, pss_cons (ps_set (i := 1) scText.nd rfl (.inl rfl) (pe_lst pa_nil))
      (pss_cons (ps_for PassesOwn.never rfl (pi_range1 (by rfl) T.range (pa_cons (pe_op op_add (pe_callBK (GW.cr_maxD rfl hr.units) (by rfl) U.max (by decide +kernel) (pa_cons
          (pe_lc (own := [("_law_cell", 3)]) (g := gName 3) rfl scText.nd (pi_list (pv 0)) (blkOk_by (own := [("_law_cell", 3)]) (N := ["_law_some", "_law_rows", "_law_z", "_law_cell", "_law_x", "_law_y"]) (sc := defScope lText) (by decide +kernel)) (fun _ _ _ _ _ => pg_name (i := 3) scText.nd rfl (.inl rfl)) (fun _ _ _ _ _ => pts_nil) (fun _ _ _ _ _ => pe_ix (r := rIxT K) ix_tup (pv 3) pe_int (fun _ _ => rfl))) pa_nil)
          (pk_cons (pe_un un_neg pe_int) pk_nil)) pe_int) pa_nil)) (pg_name (i := 2) scText.nd rfl (.inr rfl))
        (pss_one (ps_set (i := 1) scText.nd rfl (.inl rfl) (pe_op op_cat (pe_op op_cat (pv 1) (pe_slice sl_list (pe_lst (pa_cons pe_str pa_nil)) po_none (po_some (pv 2))))
          (pe_lc (own := [("_law_y", 5)]) (g := gName 5) rfl scText.nd (pi_range1 (by rfl) T.range (pa_cons pe_int pa_nil)) (blkOk_by (own := [("_law_y", 5)]) (N := ["_law_some", "_law_rows", "_law_z", "_law_cell", "_law_x", "_law_y"]) (sc := defScope lText) (by decide +kernel))
            (fun _ _ _ _ _ => pg_name (i := 5) scText.nd rfl (.inr rfl)) (fun _ _ _ _ _ => pts_nil) (fun _ _ _ _ _ => pe_joinK (K := K) rfl pe_str (pe_lc (own := [("_law_x", 4)]) (g := gName 4) rfl scText.nd (pi_range1 (by rfl) T.range (pa_cons pe_int pa_nil)) (blkOk_by (own := [("_law_x", 4)]) (N := ["_law_some", "_law_rows", "_law_z", "_law_cell", "_law_x", "_law_y"]) (sc := txScope) (by decide +kernel))
              (fun _ _ _ _ _ => pg_name (i := 4) scText.nd rfl (.inl rfl)) (fun _ _ _ _ _ => pts_nil) (fun _ _ _ _ _ => pe_ix (r := rIxS) ix_str pe_str (pe_callTy call_int1 (by rfl) T.int (by decide +kernel) (pa_cons (pe_cmpR (r := rInD K) (op_inD (u65 hr)) (pe_tup (pa_cons (pv 4) (pa_cons (pv 5) (pa_cons (pv 2) pa_nil)))) (pv 0) (by rfl)) pa_nil)) (fun _ _ => rfl)))))))))
      (pss_one (ps_ret (pe_join pe_str (pv 1))))), ?_⟩
    obtain ⟨a, xs, rfl, hT, hI⟩ := of_cellsL hC
    refine ⟨Nat.zero_le _, fun r0 hr0 => ?_⟩
    refine nameI (i := 1) (v := .ref r0) (σ := [some (.ref a), none, none, none, none, none]) ?_
    have k0 : Kp [] H (upd H r0 (.lst [])) := Kp.new hr0
    have e0 : upd H r0 (.lst []) r0 = some (.lst []) := upd_same
    generalize upd H r0 (.lst []) = H0 at k0 e0 ⊢
    have hT0 := k0.sqL hT List.not_mem_nil
    have hI0 := items_mono k0 hI
    refine ⟨_, rfl, a, rfl, ⟨_, hT0⟩, fun D hD => lc_dataL (K := K) cs cD (fun _ => true) (fun c => .int c.2.2) noL_c (fun _ _ => rfl) hD hT0 hI0 (by omega) (fun c x H' Nx Z _ k hx nx _ => ?_) (fun H' ys k hy hd => ?_)⟩
    · obtain ⟨p, rfl, hp⟩ := of_dp_c hx
      refine ⟨rfl, yesI ?_⟩
      exact ⟨_, rfl, p, _, 2, _, rfl, rfl, hp, rfl, nx _ _ (Kp.refl _ _) rfl (.int _)⟩
    · have e : (cs.filter fun _ => true).map (fun c : C3 => PyData.int c.2.2) = (cs.map fun c => c.2.2).map PyData.int := by
        rw [List.filter_eq_self.mpr fun _ _ => rfl, List.map_map]
        rfl
      rw [e] at hd
      have e2 := dps_ints hd
      subst e2
      dsimp only [tNil, tCons, tC]
      refine ⟨_, rfl, ?_⟩
      refine maxR (SqL.of hy) fun m hm => ?_
      have hlay := high_z hR hm
      have h4 := lay_le hR
      have k1 := k0.trans k
      have e1 := k.lst e0 List.not_mem_nil
      refine ⟨_, _, rfl, rfl, (lay cs : Int), by show [V.int (m + 1)] = _; rw [hlay], by omega, by omega, ?_⟩
      refine for_range (D := Ends.mk _ _ (fun _ _ => False) (fun _ _ => False)) (lo := 0) (n := lay cs) (fun i σ H2 => Kp [] H' H2 ∧ ∃ r o2 o3 o4 o5, σ = [some (.ref a), some (.ref r), o2, o3, o4, o5] ∧ H2 r = some (.lst ((rowsTo cs i).map V.str)))
        ⟨Kp.refl _ _, r0, none, none, none, none, rfl, e1⟩ (fun i σ H2 hi pv => ?_) (fun σ H2 pv => ?_)
      rotate_left
      · obtain ⟨k2, r, o2, o3, o4, o5, rfl, h2⟩ := pv
        exact ⟨⟨_, rfl⟩, _, rfl, _, r, rowsTo cs (lay cs), rfl, rfl, .inl (SqL.of h2), rows_fit h4, q H2 (k1.trans k2)⟩
      · obtain ⟨k2, r, o2, o3, o4, o5, rfl, h2⟩ := pv
        have hrl := rowsTo_len cs (i + 1)
        have hrl0 := rowsTo_len cs i
        refine ⟨_, rfl, (by show 1 ≤ sizeLine; decide), fun l1 hl1 => ?_⟩
        have kl1 : Kp [] H2 (upd H2 l1 (.lst [.str "-"])) := Kp.new hl1
        have el1 : upd H2 l1 (.lst [.str "-"]) l1 = some (.lst [.str "-"]) := upd_same
        have h3 := kl1.lst h2 List.not_mem_nil
        generalize upd H2 l1 (.lst [.str "-"]) = H3 at kl1 el1 h3 ⊢
        rw [Int.zero_add]
        refine ⟨_, rfl, _, rfl, l1, _, rfl, SqL.of el1, fun l2 hl2 => ?_⟩
        have kl2 : Kp [] H3 (upd H3 l2 (.lst (cutV [.str "-"] none (some (i : Int))))) := Kp.new hl2
        have el2 : upd H3 l2 (.lst (cutV [.str "-"] none (some (i : Int)))) l2 = some (.lst ((sep i).map V.str)) := by rw [upd_same, cutDash]
        have h4' := kl2.lst h3 List.not_mem_nil
        generalize upd H3 l2 (.lst (cutV [.str "-"] none (some (i : Int)))) = H4 at kl2 el2 h4' ⊢
        have hsl : (sep i).length ≤ 1 := by unfold sep; split <;> simp
        refine ⟨r, l2, _, _, rfl, rfl, h4', el2, Nat.le_of_lt (small_size (by rw [List.length_map, List.length_map]; omega)), fun l3 hl3 => ?_⟩
        have kl3 : Kp [] H4 (upd H4 l3 (.lst ((rowsTo cs i).map V.str ++ (sep i).map V.str))) := Kp.new hl3
        have el3 : upd H4 l3 (.lst ((rowsTo cs i).map V.str ++ (sep i).map V.str)) l3 = some (.lst ((rowsTo cs i ++ sep i).map V.str)) := by rw [upd_same, List.map_append]
        generalize upd H4 l3 (.lst ((rowsTo cs i).map V.str ++ (sep i).map V.str)) = H5 at kl3 el3 ⊢
        have k25 := (kl1.trans kl2).trans kl3
        have k05 := (k1.trans k2).trans k25
        refine ⟨4, rfl, by decide, by decide, fun R hR => lc_range (lo := 0) (n := 4) (fun i' H' => Kp [] H5 H' ∧ H' R = some (.lst ((List.range i').map fun y : Nat => V.str (rowT cs (y : Int) (i : Int))))) ⟨Kp.new hR, upd_same⟩ (fun y H6 hy6 pv => ?_) (fun H6 pv => ?_)⟩
        · obtain ⟨k6, hRl⟩ := pv
          refine ⟨rfl, yesI ?_⟩
          refine ⟨⟨_, rfl⟩, ?_⟩
          refine ⟨4, rfl, by decide, by decide, fun D2 hD2 => lc_range (lo := 0) (n := 4) (fun j H' => Kp [] H6 H' ∧ H' D2 = some (.lst ((List.range j).map fun x : Nat => V.str (sg cs (y : Int) (i : Int) x)))) ⟨Kp.new hD2, upd_same⟩ (fun x H7 hx pv => ?_) (fun H7 pv => ?_)⟩
          · obtain ⟨k7, hDl⟩ := pv
            refine ⟨rfl, yesI ?_⟩
            refine ⟨_, rfl, _, rfl, _, rfl, (by show 3 ≤ sizeLine; decide), fun t ht => ?_⟩
            have kt := Kp.new (S := []) (o := .tup [.int (0 + (x : Int)), .int (0 + (y : Int)), .int (i : Int)]) ht
            have kk := ((k05.trans k6).trans k7).trans kt
            have hDl2 := kt.lst hDl List.not_mem_nil
            refine ⟨_, rfl, cD ((x : Int), (y : Int), (i : Int)), cs.map cD, dp_c (SqT.of (by rw [upd_same, Int.zero_add, Int.zero_add])), cellsL_mono kk hC, cD_shaped _, cDs_shapedL _, .inr ⟨_, rfl, ?_⟩⟩
            rw [any_eqv]
            have fin : ∀ ch : Nat, (⟨#[ch]⟩ : Str) = sg cs (y : Int) (i : Int) x → ∃ acc, upd H7 t (.tup [.int (0 + (x : Int)), .int (0 + (y : Int)), .int (i : Int)]) D2 = some (.lst acc) ∧ acc.length < sizeLine ∧ Kp [] H6 (upd (upd H7 t (.tup [.int (0 + (x : Int)), .int (0 + (y : Int)), .int (i : Int)])) D2 (.lst (acc ++ [V.str ⟨#[ch]⟩]))) ∧
                (upd (upd H7 t (.tup [.int (0 + (x : Int)), .int (0 + (y : Int)), .int (i : Int)])) D2 (.lst (acc ++ [V.str ⟨#[ch]⟩]))) D2 = some (.lst ((List.range (x + 1)).map fun x : Nat => V.str (sg cs (y : Int) (i : Int) x))) := by
              intro ch hch
              refine ⟨_, hDl2, small_size (by rw [List.length_map, List.length_range]; omega), (k7.trans kt).chg0 hD2 hDl2, ?_⟩
              rw [upd_same, List.range_succ, List.map_append, hch]
              rfl
            cases e : decide (((x : Int), (y : Int), (i : Int)) ∈ cs) with
            | true => exact ⟨_, 1, 35, rfl, rfl, (by decide +kernel), rfl, fin 35 (by unfold sg; rw [e, if_pos rfl]; decide +kernel)⟩
            | false => exact ⟨_, 0, 46, rfl, rfl, (by decide +kernel), rfl, fin 46 (by unfold sg; rw [e, if_neg (by decide)]; decide +kernel)⟩
          · obtain ⟨k7, hDl⟩ := pv
            refine ⟨_, D2, (List.range 4).map (sg cs (y : Int) (i : Int)), rfl, rfl, .inl (SqL.of (by rw [List.map_map]; exact hDl)), sg_len _ _ _, ?_⟩
            have hR7 := k7.lst hRl List.not_mem_nil
            refine ⟨_, hR7, small_size (by rw [List.length_map, List.length_range]; omega), (k6.trans k7).chg0 hR hR7, ?_⟩
            rw [upd_same, show List.range (y + 1) = List.range y ++ [y] from List.range_succ, List.map_append]
            rfl
        · obtain ⟨k6, hRl⟩ := pv
          have e6 := k6.lst el3 List.not_mem_nil
          rw [rowsTo_succ, ← List.append_assoc, List.length_append, rowsZ_len] at hrl
          refine ⟨l3, R, _, _, rfl, rfl, e6, hRl, Nat.le_of_lt (small_size (by rw [List.length_map, List.length_map, List.length_range]; omega)), fun l4 hl4 => ?_⟩
          have kl4 := Kp.new (S := []) (o := .lst ((rowsTo cs i ++ sep i).map V.str ++ (List.range 4).map fun y : Nat => V.str (rowT cs (y : Int) (i : Int)))) hl4
          refine ⟨((k2.trans k25).trans k6).trans kl4, l4, _, _, _, _, rfl, ?_⟩
          simp only [upd_same, rowsTo_succ, rowsZ, List.map_append, List.map_map, Function.comp_def, List.append_assoc]
end LP
end

section
set_option Elab.async false
set_option linter.all false
set_option maxRecDepth 100000
set_option maxHeartbeats 4000000
/-! cells as data, bodies' sizes -/
namespace LP
open PySem PySem.Spec PyProof.Rows L2 Ly GY
section
variable [LamTab] [LamOk]
theorem depthCs (cs : List C3) : (PyData.list (cs.map cD)).depth ≤ 2 := by
  have := cDs_depth cs
  simp only [PyData.depth]
  omega
theorem okDs_cells : ∀ cs : List C3, okDs (cs.map cD) = true
  | [] => rfl
  | c :: cs => by
    show (okD (cD c) && okDs (cs.map cD)) = true
    rw [okDs_cells cs]
    rfl
theorem okD_cellsL {cs : List C3} (h : cs.length ≤ 1000) : okD (.list (cs.map cD)) = true := by
  show (okDs (cs.map cD) && decide ((cs.map cD).length ≤ 1000)) = true
  rw [okDs_cells, List.length_map, decide_eq_true h]
  rfl
theorem nb_dp : ∀ b : Bd, nb b + 1 ≤ 2 ^ dp b
  | .block .. => by show 1 + 1 ≤ 2 ^ 1; decide
  | .cells _ => by show 1 + 1 ≤ 2 ^ 1; decide
  | .wth p q => nb2 p q (nb_dp p) (nb_dp q)
  | .common p q => nb2 p q (nb_dp p) (nb_dp q)
  | .less p q => nb2 p q (nb_dp p) (nb_dp q)
  | .moved _ p => nb1 p (nb_dp p)
  | .turnX p => nb1 p (nb_dp p)
  | .turnY p => nb1 p (nb_dp p)
  | .turnZ p => nb1 p (nb_dp p)
where
  nb1 (p : Bd) (h : nb p + 1 ≤ 2 ^ dp p) : 1 + nb p + 1 ≤ 2 ^ (1 + dp p) := by
    have e : 2 ^ (1 + dp p) = 2 * 2 ^ dp p := by rw [Nat.add_comm, Nat.pow_succ, Nat.mul_comm]
    have := nb_pos p
    omega
  nb2 (p q : Bd) (h : nb p + 1 ≤ 2 ^ dp p) (k : nb q + 1 ≤ 2 ^ dp q) : 1 + nb p + nb q + 1 ≤ 2 ^ (1 + max (dp p) (dp q)) := by
    have e : 2 ^ (1 + max (dp p) (dp q)) = 2 * 2 ^ max (dp p) (dp q) := by rw [Nat.add_comm, Nat.pow_succ, Nat.mul_comm]
    have h1 : 2 ^ dp p ≤ 2 ^ max (dp p) (dp q) := Nat.pow_le_pow_right (by decide) (Nat.le_max_left _ _)
    have h2 : 2 ^ dp q ≤ 2 ^ max (dp p) (dp q) := Nat.pow_le_pow_right (by decide) (Nat.le_max_right _ _)
    omega
theorem nb_of_dp {b : Bd} {n : Nat} (h : dp b ≤ n) : nb b + 1 ≤ 2 ^ n := Nat.le_trans (nb_dp b) (Nat.pow_le_pow_right (by decide) h)
theorem eqv_same (ps : List C3) : PyData.eqv (.list (ps.map cD)) (.list (ps.map cD)) = true := SeqAt.eqv_refl _ (SeqAt.canLay_of_shaped (cDs_shapedL ps))
theorem okD_cellsB {cs : List C3} (h : cs.length ≤ 1000) : okD (bD (.cells cs)) = true := by
  have e : okDs (cs.map cD) = true := okDs_cells cs
  show (true && ((okDs (cs.map cD) && decide ((cs.map cD).length ≤ 1000)) && true) && true) = true
  rw [e, List.length_map, decide_eq_true h]
  rfl
theorem depthB (cs : List C3) : (bD (.cells cs)).depth ≤ 4 := by
  have := cDs_depth cs
  show PyData.depth (.tuple [.str "cells", .tuple (cs.map cD)]) ≤ 4
  simp only [PyData.depth, PyData.depthAll]
  omega
end
end LP
end

section
set_option Elab.async false
set_option linter.all false
set_option maxRecDepth 100000
set_option maxHeartbeats 4000000
/-! law_k14: a text asked twice -/
namespace LP
open PySem PySem.Spec PyProof.Rows L2 Ly GY
section
variable [LamTab] [LamOk]
structure LF14 (P : Program) (W0 : World) (K : PySem.W.Frag) (mg : Str → Option Value) (base : Heap) where
  (Pq Pk : Addr)
  (fM fX fA fL fB fx fd ft fc : Addr)
  (dM dX dA dL dB dx dd dt dc : FuncData)
  nM : Fn K mg "_law_mix" fM dM ["_law_script", "_law_seed"]
  gM : FnOk P W0 K mg base CX0 1 fM dM ["_law_script", "_law_seed"] (spMix K)
  nX : Fn K mg "_law_next" fX dX ["_law_h", "_law_many"]
  gX : FnOk P W0 K mg base CX0 1 fX dX ["_law_h", "_law_many"] spNext
  nA : Fn K mg "_law_alike" fA dA ["_law_found", "_law_due_here"]
  gA : FnOk P W0 K mg base CX0 (1 + 10) fA dA ["_law_found", "_law_due_here"] (spAlike K 10)
  nL : Fn K mg "_law_all" fL dL ["_law_body_here"]
  gL : FnOk P W0 K mg base CX0 21 fL dL ["_law_body_here"] (spAll K)
  nB : Fn K mg "_law_body" fB dB ["_law_h", "_law_deep"]
  gB : FnOk P W0 K mg base CX0 (21 + 5) fB dB ["_law_h", "_law_deep"] (spLBody K 5)
  nx : Fn K mg "_law_text" fx dx ["_law_some"]
  gx : FnOk P W0 K mg base CX0 2 fx dx ["_law_some"] (spText K)
  nd : Fn K mg "_law_due" fd dd ["_law_text_here"]
  gd : FnOk P W0 K mg base CX0 2 fd dd ["_law_text_here"] (spDueT K)
  nt : Fn K mg "_law_told" ft dt ["_law_text_here"]
  gt : FnOk P W0 K mg base CX0 6 ft dt ["_law_text_here"] (spTold K Pq Pk)
  nc : Fn K mg "_law_changed" fc dc ["_law_h", "_law_text_here"]
  gc : FnOk P W0 K mg base CX0 2 fc dc ["_law_h", "_law_text_here"] spChanged
  T : Nm K mg
  U : Nl K mg
variable {P : Program} {W0 : World} {K : PySem.W.Frag} {mg : Str → Option Value} {base : Heap}
structure Lv14 (F : LF14 P W0 K mg base) (H : Hp) : Prop where
  q : TGen H F.Pq
  k : TGen H F.Pk
theorem Lv14.mono {F : LF14 P W0 K mg base} {S : List Addr} {H H' : Hp} (v : Lv14 F H) (k : Kp S H H') : Lv14 F H' := ⟨k.tab _ v.q, k.tab _ v.k⟩
abbrev nL14 : List Str := ["_law_script", "_law_h", "_law_layer", "_law_odd", "_law_turn", "_law_text_here", "_law_k", "_law_some", "_law_again"]
theorem scLaw14 : FnScope nL14 ["_law_script"] (defScope lLaw) := ⟨rfl, rfl, rfl, by decide +kernel, rfl, by decide +kernel, by decide +kernel⟩
abbrev lawX14 (P : Program) (W0 : World) (K : PySem.W.Frag) (mg : Str → Option Value) (base : Heap) (f : Addr) (cdv : Value) (A : Around) (outer : List Env) (s : Shared) (H : Hp) (E : XK) : Cx := (cxOf CX0 P W0 K mg base nL14 "law" (defScope lLaw) f cdv A outer s H E).nox
def forB : Stmt → List Stmt
  | .For _ _ b _ _ => b
  | _ => []
/-- the turn's body; the body of the loop over the texts; of the loop over again -/
def loop14 : List Stmt := forB (stOf lLaw 5)
def some14 : List Stmt := forB (loop14.getD 2 (.Pass ⟨0, 0, 0, 0⟩))
def again14 : List Stmt := forB (some14.getD 0 (.Pass ⟨0, 0, 0, 0⟩))
theorem sort_same {as bs : List C3} (p : as.Perm bs) (h1 : as.Pairwise fun a b => ¬ lt3 b a) (h2 : bs.Pairwise fun a b => ¬ lt3 b a) : as = bs :=
  List.Perm.eq_of_pairwise (le := fun a b => ¬ lt3 b a) (fun a b _ _ x y => by
    by_cases e : a = b
    · exact e
    · exact absurd (lt3_tri y e) x) h1 h2 p
section
variable (F : LF14 P W0 K mg base) {f : Addr} {cdv : Value} {A : Around} {outer : List Env} {s : Shared} {H : Hp} {E : XK}
  (hr : Room 30 (A.deeper (envOfC "law" (defScope lLaw) s.heap.objs.size f cdv)))
include hr
/-- what is told and what is due of a text are alike -/
theorem part14_e : ∃ t, PSs (lawX14 P W0 K mg base f cdv A outer s H E) again14 t ∧ ∀ (x : Str) (D : Ends) (σ : L2.St) (H1 : Hp), σ[7]? = some (some (.str x)) → x.length ≤ 10000 → Okc x → Lv14 F H1 → (∀ H', Kp [] H1 H' → D.nx σ H') → t D σ H1 := by
  have hr2 : Room 2 _ := hr.mono (by decide)
  have hr6 : Room 6 _ := hr.mono (by decide)
  have hr11 : Room 11 _ := hr.mono (by decide)
  refine ⟨_, pss_one (ps_if (pt_not (pt_val (pe_call F.gA hr11 (by rfl) F.nA.m F.nA.kp F.nA.b .nil pass0 (pa_cons (pe_call F.gt hr6 (by rfl) F.nt.m F.nt.kp F.nt.b .nil pass0 (pa_cons (pv 7) pa_nil)) (pa_cons (pe_call F.gd hr2 (by rfl) F.nd.m F.nd.kp F.nd.b .nil pass0 (pa_cons (pv 7) pa_nil)) pa_nil)))))
    (pss_one (ps_ret pe_bl)) pss_nil), ?_⟩
  intro x D σ H1 hx hl hok v1 nx
  have few : x = "" ∨ GoodR (Txt.split x "\n") → ∀ ds : List C3, ds.Perm (if x = "" then [] else FR (Txt.split x "\n") (Txt.split x "\n").length) → ds.length ≤ 1000 := fun hg ds hp => by
    rw [hp.length_eq]
    rcases hg with z | z
    · rw [if_pos z]
      exact Nat.zero_le _
    · by_cases c : x = ""
      · rw [if_pos c]
        exact Nat.zero_le _
      · rw [if_neg c]
        have h1 := FR_few (rows := Txt.split x "\n") (Txt.split x "\n").length fun j r _ hr => (can_short (z.can j r hr)).2
        have := z.few
        omega
  refine ⟨_, hx, x, rfl, hl, v1.q, v1.k, fun hg H2 p v ds k2 hT hB hp hso => ?_, fun c0 n p H2 hn k2 hT => ?_⟩
  · refine ⟨_, hx, x, rfl, hl, hok, fun _ H3 p' v' ds' k3 hT' hB' hp' hso' => ?_, fun c1 n p' H3 hn k3 hT' => ?_⟩
    · obtain rfl := sort_same (hp.trans hp'.symm) hso hso'
      refine ⟨.ref p, .ref p', .tuple [.str "body", bD (.cells ds)], rfl, .tup (k3.sqT hT) (.cons (.str _) (.cons (body_mono k3 hB) .nil)), .tup hT' (.cons (.str _) (.cons hB' .nil)), ?_, ?_, fun H4 k4 => ⟨true, rfl, iteF (nx _ ((k2.trans k3).trans k4))⟩⟩
      · have := okD_cellsB (few hg ds hp)
        simp only [okD, okDs, this, Bool.and_self, Bool.true_and, List.length_cons, List.length_nil]
        exact decide_eq_true (by omega)
      · have h4 := depthB ds
        have e : (PyData.tuple [.str "body", bD (.cells ds)]).depth = max (PyData.depth (.str "body")) (max (bD (.cells ds)).depth 0) + 1 := by
          simp only [PyData.depth, PyData.depthAll]
        rw [e]
        simp only [PyData.depth]
        omega
    · rcases hg with z | z
      · exact absurd z c1
      · exact (hn.bad z).elim
  · refine ⟨_, hx, x, rfl, hl, hok, fun hg H3 p' v' ds' k3 hT' hB' hp' hso' => ?_, fun c1 m p' H3 hm k3 hT' => ?_⟩
    · rcases hg with z | z
      · exact absurd z c0
      · exact (hn.bad z).elim
    · obtain rfl := hn.uniq hm
      refine ⟨.ref p, .ref p', .tuple [.str "row", .int (n : Int)], rfl, .tup (k3.sqT hT) (.cons (.str _) (.cons (.int _) .nil)), .tup hT' (.cons (.str _) (.cons (.int _) .nil)), rfl, by simp [PyData.depth, PyData.depthAll], fun H4 k4 => ⟨true, rfl, iteF (nx _ ((k2.trans k3).trans k4))⟩⟩
end
end
end LP
end

section
set_option Elab.async false
set_option linter.all false
set_option maxRecDepth 100000
set_option maxHeartbeats 4000000
/-! law_k14 -/
namespace LP
open PySem PySem.Spec PyProof.Rows L2 Ly GY
section
variable [LamTab] [LamOk]
variable {P : Program} {W0 : World} {K : PySem.W.Frag} {mg : Str → Option Value} {base : Heap}
theorem text_len2 {cs : List C3} (h : ∀ c ∈ cs, InR c) : (textOf cs).length ≤ 100 := by
  have h2 := rowsTo_len cs (lay cs)
  have h4 := lay_le h
  have h5 := sum_le (l := rowsTo cs (lay cs)) fun r hr => by
    rcases rowsTo_row hr with e | ⟨z, y, _, _, e⟩
    · rw [e]; decide +kernel
    · rw [e, rowT_len]; exact Nat.le_refl _
  have h6 := join_len (rowsTo cs (lay cs))
  show (Txt.join "\n" (rowsTo cs (lay cs))).length ≤ 100
  omega
theorem okc_text (cs : List C3) : Okc (textOf cs) := okc_join fun r hr => by
  rcases rowsTo_row hr with e | ⟨z, y, _, _, e⟩
  · rw [e]
    intro c hc
    have e1 : ("-" : Str).cps.toList = [45] := by decide +kernel
    rw [e1] at hc
    have := List.mem_singleton.mp hc
    omega
  · rw [e, rowT_eq]
    intro c hc
    rw [row_codes] at hc
    have key : ∀ b : Bool, cdB b < 1114112 := by decide +kernel
    simp only [List.mem_cons, List.not_mem_nil, or_false] at hc
    rcases hc with z | z | z | z <;> rw [z] <;> exact key _
def lay14 : Str := "#...\n....\n....\n...."
def odd14 : List Str := ["", "\n", "-", "....", lay14, lay14 ++ "\n", lay14 ++ "\n-", lay14 ++ "\n-\n....\n....\n....\n....", " ", Txt.join "\n-\n" [lay14, lay14, lay14, lay14, lay14], Txt.join "\n-\n" [lay14, lay14, lay14, lay14] ++ "\n-"]
theorem odd14_ok : ∀ s ∈ odd14, s.length ≤ 10000 ∧ Okc s := by
  have key : ∀ s ∈ odd14, s.length ≤ 10000 ∧ (s.cps.toList.all fun c => decide (c < 1114112)) = true := by decide +kernel
  exact fun s hs => ⟨(key s hs).1, fun c hc => of_decide_eq_true (List.all_eq_true.mp (key s hs).2 c hc)⟩
/-- the next turn -/
def Nxt14 (F : LF14 P W0 K mg base) (a h l lo : Addr) (H0 : Hp) (σ : L2.St) (H : Hp) : Prop :=
  (∃ o2 o4 o5 o6 o7 o8, σ = [some (.ref a), some (.ref h), o2, some (.ref lo), o4, o5, o6, o7, o8]) ∧ Kp [h, l] H0 H ∧ Sta H h l ∧ Lv14 F H ∧ H lo = some (.lst (odd14.map V.str))
section
variable (F : LF14 P W0 K mg base) {f : Addr} {cdv : Value} {A : Around} {outer : List Env} {s : Shared} {H : Hp} {E : XK}
  (hr : Room 30 (A.deeper (envOfC "law" (defScope lLaw) s.heap.objs.size f cdv)))
include hr
theorem part14_b : ∃ t, PSs (lawX14 P W0 K mg base f cdv A outer s H E) loop14 t ∧ ∀ (a h l lo : Addr) (H0 : Hp) (D : Ends) (σ : L2.St) (H1 : Hp), lo ∉ [h, l] → Nxt14 F a h l lo H0 σ H1 → (∀ σ' H', Nxt14 F a h l lo H0 σ' H' → D.nx σ' H') → t D σ H1 := by
  obtain ⟨te, pe, qe⟩ := part14_e F hr (H := H) (E := E) (outer := outer)
  have hr1 : Room 1 _ := hr.mono (by decide)
  have hr2 : Room 2 _ := hr.mono (by decide)
  have hr21 : Room 21 _ := hr.mono (by decide)
  have hr26 : Room 26 _ := hr.mono (by decide)
  refine ⟨_, pss_cons (ps_set (i := 5) scLaw14.nd rfl (.inl rfl) (pe_call F.gx hr2 (by rfl) F.nx.m F.nx.kp F.nx.b .nil pass0 (pa_cons (pe_call F.gL hr21 (by rfl) F.nL.m F.nL.kp F.nL.b .nil pass0 (pa_cons (pe_call F.gB hr26 (by rfl) F.nB.m F.nB.kp F.nB.b .nil pass0 (pa_cons (pv 1) (pa_cons pe_int pa_nil))) pa_nil)) pa_nil)))
    (pss_cons (ps_for PassesOwn.never rfl (pi_range1 (by rfl) F.T.range (pa_cons (pe_call F.gX hr1 (by rfl) F.nX.m F.nX.kp F.nX.b .nil pass0 (pa_cons (pv 1) (pa_cons pe_int pa_nil))) pa_nil)) (pg_name (i := 6) scLaw14.nd rfl (.inl rfl))
      (pss_one (ps_set (i := 5) scLaw14.nd rfl (.inl rfl) (pe_call F.gc hr2 (by rfl) F.nc.m F.nc.kp F.nc.b .nil pass0 (pa_cons (pv 1) (pa_cons (pv 5) pa_nil))))))
    (pss_one (ps_for PassesOwn.never rfl (pi_list (pe_lst (pa_cons (pv 5) (pa_cons (pe_ix ix_list (pv 3) (pe_call F.gX hr1 (by rfl) F.nX.m F.nX.kp F.nX.b .nil pass0 (pa_cons (pv 1) (pa_cons pe_int pa_nil))) (fun _ _ => rfl)) pa_nil)))) (pg_name (i := 7) scLaw14.nd rfl (.inl rfl))
      (pss_one (ps_for PassesOwn.never rfl (pi_range1 (by rfl) F.T.range (pa_cons pe_int pa_nil)) (pg_name (i := 8) scLaw14.nd rfl (.inl rfl)) pe))))), ?_⟩
  intro a h l lo H0 D σ H1 hlo hat nx
  obtain ⟨⟨o2, o4, o5, o6, o7, o8, rfl⟩, k1, s1, v1, e1⟩ := hat
  refine ⟨_, rfl, h, l, 3, rfl, by decide, by decide, s1, fun H2 v b k2 s2 hB hg hd => ?_⟩
  refine ⟨v, b, rfl, hB, by omega, fun H3 du dys k3 n3 h3 i3 => ?_⟩
  have hAL := all_len b
  have hAR : ∀ c ∈ all b, InR c := fun c hc => in_all hc
  refine ⟨.ref du, all b, rfl, cellsL_of h3 i3, by omega, hAR, fun H4 k4 => ?_⟩
  refine nameI (i := 5) (v := .str (textOf (all b))) (σ := [some (.ref a), some (.ref h), o2, some (.ref lo), o4, o5, o6, o7, o8]) ?_
  have k34 := k3.trans k4
  have k14 := k2.trans k34.w0
  have s4 := s2.mono0 k34
  have e4 := k34.lst (k2.lst e1 hlo) List.not_mem_nil
  have htl := text_len2 hAR
  have hto := okc_text (all b)
  generalize textOf (all b) = x0 at htl hto ⊢
  refine ⟨_, rfl, h, l, 4, rfl, by decide, by decide, s4, fun H5 r k5 s5 r0 r1 => ?_⟩
  obtain ⟨m, rfl⟩ : ∃ m : Nat, r = (m : Int) := ⟨r.toNat, by omega⟩
  have k15 := k14.trans k5
  refine ⟨(m : Int), rfl, by omega, by omega, for_range (D := Ends.mk _ _ _ _) (lo := 0) (n := m) (fun i σ H' => (∃ o6, ∃ x : Str, σ = [some (.ref a), some (.ref h), o2, some (.ref lo), o4, some (.str x), o6, o7, o8] ∧ x.length + 10 ≤ 110 * 2 ^ i ∧ Okc x) ∧ Kp [h, l] H1 H' ∧ Sta H' h l ∧ H' lo = some (.lst (odd14.map V.str)))
    ⟨⟨_, _, rfl, by omega, hto⟩, k15, s5, k5.lst e4 hlo⟩ (fun i σ H' hi pv => ?st) (fun σ H' pv => ?dn)⟩
  case st =>
    obtain ⟨⟨o6', x, rfl, hxl, hxo⟩, k', s', e'⟩ := pv
    have hp : 2 ^ i ≤ 4 := by
      rcases (show i = 0 ∨ i = 1 ∨ i = 2 by omega) with z | z | z <;> rw [z] <;> decide
    refine ⟨_, rfl, _, rfl, h, l, x, rfl, by omega, hxo, s', fun H6 t' k6 s6 ht ho => ?_⟩
    refine ⟨⟨_, _, rfl, ?_, ho⟩, k'.trans k6, s6, k6.lst e' hlo⟩
    rw [Nat.pow_succ]
    omega
  case dn =>
    obtain ⟨⟨o6', x, rfl, hxl, hxo⟩, k', s', e'⟩ := pv
    have hp : 2 ^ m ≤ 8 := by
      rcases (show m = 0 ∨ m = 1 ∨ m = 2 ∨ m = 3 by omega) with z | z | z | z <;> rw [z] <;> decide
    refine ⟨_, rfl, _, rfl, _, rfl, h, l, 11, rfl, by decide, by decide, s', fun H6 od k6 s6 d0 d1 => ?_⟩
    obtain ⟨n, rfl⟩ : ∃ n : Nat, od = (n : Int) := ⟨od.toNat, by omega⟩
    have hn : n < odd14.length := by
      have : odd14.length = 11 := rfl
      omega
    have ho : odd14[n]? = some odd14[n] := List.getElem?_eq_getElem hn
    obtain ⟨hol, hoo⟩ := odd14_ok _ (List.getElem_mem hn)
    generalize odd14[n] = ow at ho hol hoo
    have e6 := k6.lst e' hlo
    refine ⟨lo, _, (n : Int), .str ow, rfl, rfl, SqL.of e6, atI_nat (by rw [List.getElem?_map, ho]; rfl), (by show 2 ≤ sizeLine; decide), fun p hp' => ?_⟩
    have kp : Kp [] H6 (upd H6 p (.lst [.str x, .str ow])) := Kp.new hp'
    have ep : upd H6 p (.lst [.str x, .str ow]) p = some (.lst [.str x, .str ow]) := upd_same
    have k16 := (k'.trans k6).trans kp.w0
    have v6 := v1.mono k16
    have s7 := s6.mono0 kp
    have e7 := kp.lst e6 List.not_mem_nil
    generalize upd H6 p (.lst [.str x, .str ow]) = H7 at kp ep k16 v6 s7 e7 ⊢
    refine ⟨p, rfl, ⟨_, SqL.of ep⟩, for_list (K := K) (a := p) (xs := [.str x, .str ow]) (fun i σ H' => (∃ o6 o7 o8, σ = [some (.ref a), some (.ref h), o2, some (.ref lo), o4, some (.str x), o6, o7, o8]) ∧ Kp [] H7 H') ⟨⟨_, _, _, rfl⟩, Kp.refl _ _⟩ (fun i σ H' _ pv => SqL.of (pv.2.lst ep List.not_mem_nil)) (fun i y σ H' hy pv => ?so) (fun σ H' pv => ?sd)⟩
    case so =>
      obtain ⟨⟨o6, o7, o8, rfl⟩, kk⟩ := pv
      have hy' : ∃ z : Str, y = .str z ∧ z.length ≤ 10000 ∧ Okc z := by
        match i, hy with
        | 0, hy => cases hy; exact ⟨x, rfl, by omega, hxo⟩
        | 1, hy => cases hy; exact ⟨ow, rfl, hol, hoo⟩
      obtain ⟨z, rfl, hzl, hzo⟩ := hy'
      refine ⟨(2 : Int), rfl, by decide, by decide, for_range (D := Ends.mk _ _ _ _) (lo := 0) (n := 2) (fun i σ H'' => (∃ o6 o8, σ = [some (.ref a), some (.ref h), o2, some (.ref lo), o4, some (.str x), o6, some (.str z), o8]) ∧ Kp [] H7 H'') ⟨⟨_, _, rfl⟩, kk⟩ (fun j σ H'' hj pv => ?ag) (fun σ H'' pv => ?ad)⟩
      case ag =>
        obtain ⟨⟨o6, o8, rfl⟩, kj⟩ := pv
        exact qe z _ _ H'' rfl hzl hzo (v6.mono kj) fun H8 k8 => ⟨⟨_, _, rfl⟩, kj.trans k8⟩
      case ad =>
        obtain ⟨⟨o6, o8, rfl⟩, kj⟩ := pv
        exact ⟨⟨_, _, _, rfl⟩, kj⟩
    case sd =>
      obtain ⟨⟨o6, o7, o8, rfl⟩, kk⟩ := pv
      exact nx _ _ ⟨⟨_, _, _, _, _, _, rfl⟩, (k1.trans k16).trans kk.w0, s7.mono0 kk, v6.mono kk, kk.lst e7 List.not_mem_nil⟩
end
theorem app_step {H0 G : Hp} {lo : Addr} {xs : List V} (ys : List V) (k : Kp [] H0 G) (h : H0 lo = none) (e : G lo = some (.lst xs)) : Kp [] H0 (upd G lo (.lst ys)) ∧ (upd G lo (.lst ys)) lo = some (.lst ys) := ⟨k.chg0 h e, upd_same⟩
def spLaw14 (F : LF14 P W0 K mg base) : Sp := fun vs H Q _ => ∃ (a : Addr) (ns : List Int), vs = [.ref a] ∧ SqL K H a (ns.map V.int) ∧ ns.length ≤ 63 ∧ Lv14 F H ∧ ∀ H', Q (.bl true) H'
theorem ok_law14 (F : LF14 P W0 K mg base) {f : Addr} {fd : FuncData} (G : Fun K "law" "law" lLaw f fd) : FnOk P W0 K mg base CX0 31 f fd ["_law_script"] (spLaw14 F) := by
  refine G.ok scLaw14 (fun vs H Q E h => ?_) (fun cdv A outer s H vs Q E hr h => ?_)
  · obtain ⟨a, ns, rfl, _⟩ := h
    rfl
  · obtain ⟨a, ns, rfl, hL, h63, v0, q⟩ := h
    have hr1 : Room 1 _ := hr.mono (by decide)
    obtain ⟨tb, pb, qb⟩ := part14_b F hr (H := H) (E := E) (outer := outer)
    refine ⟨_, pss_cons (ps_set (i := 1) scLaw14.nd rfl (.inl rfl) (pe_call F.gM hr1 (by rfl) F.nM.m F.nM.kp F.nM.b .nil pass0 (pa_cons (pv 0) (pa_cons pe_int pa_nil))))
      (pss_cons (ps_set (i := 2) scLaw14.nd rfl (.inl rfl) pe_str)
      (pss_cons (ps_set (i := 3) scLaw14.nd rfl (.inl rfl) (pe_lst (pa_cons pe_str (pa_cons pe_str (pa_cons pe_str (pa_cons pe_str (pa_cons (pv 2) (pa_cons (pe_op op_add_str (pv 2) pe_str) (pa_cons (pe_op op_add_str (pv 2) pe_str) (pa_cons (pe_op op_add_str (pv 2) pe_str) (pa_cons pe_str pa_nil)))))))))))
      (pss_cons (ps_expr (pe_bm PySem.F.plainAttrs_list PySem.F.slot_list_append PySem.F.type_list_append mt_append (pv 3) (pa_cons (pe_join pe_str (pe_op op_rep (pe_lst (pa_cons (pv 2) pa_nil)) pe_int)) pa_nil)))
      (pss_cons (ps_expr (pe_bm PySem.F.plainAttrs_list PySem.F.slot_list_append PySem.F.type_list_append mt_append (pv 3) (pa_cons (pe_op op_add_str (pe_join pe_str (pe_op op_rep (pe_lst (pa_cons (pv 2) pa_nil)) pe_int)) pe_str) pa_nil)))
      (pss_cons (ps_for PassesOwn.never rfl (pi_range1 (by rfl) F.T.range (pa_cons pe_int pa_nil)) (pg_name (i := 4) scLaw14.nd rfl (.inl rfl)) pb)
      (pss_one (ps_ret pe_bl))))))), ?_⟩
    refine ⟨_, rfl, a, ns, 47, rfl, hL, by omega, by decide, by decide, fun H1 h l k1 n1 n2 s1 => ?_⟩
    have ad : ∀ z : Str, z.length ≤ 100 → lay14.length + z.length ≤ sizeLine := fun z hz => by
      have e : lay14.length = 19 := by decide +kernel
      have hs : (1000 : Nat) < sizeLine := by decide
      omega
    refine ⟨_, rfl, _, rfl, _, _, rfl, rfl, ad _ (by decide +kernel), _, rfl, _, _, rfl, rfl, ad _ (by decide +kernel), _, rfl, _, _, rfl, rfl, ad _ (by decide +kernel), (by show 9 ≤ sizeLine; decide), fun lo hlo => ?_⟩
    have klo : Kp [] H1 (upd H1 lo (.lst ((odd14.take 9).map V.str))) := Kp.new hlo
    have elo : upd H1 lo (.lst ((odd14.take 9).map V.str)) lo = some (.lst ((odd14.take 9).map V.str)) := upd_same
    have slo := s1.mono0 klo
    have hap := s1.apart hlo
    have fit5 : (([lay14, lay14, lay14, lay14, lay14] : List Str).map (·.length)).sum + ([lay14, lay14, lay14, lay14, lay14] : List Str).length * ("\n-\n" : Str).length ≤ 16777216 := by decide +kernel
    have fit4 : (([lay14, lay14, lay14, lay14] : List Str).map (·.length)).sum + ([lay14, lay14, lay14, lay14] : List Str).length * ("\n-\n" : Str).length ≤ 16777216 := by decide +kernel
    refine ⟨_, rfl, .inl ⟨rfl, _, SqL.of elo⟩, ⟨_, rfl⟩, _, rfl, (by show 1 ≤ sizeLine; decide), fun p1 hp1 => ⟨p1, 5, [.str lay14], rfl, rfl, upd_same, by decide, by decide, (by show 1 * 5 ≤ sizeLine; decide), fun p2 hp2 => ?_⟩⟩
    have kp1 : Kp [] _ (upd _ p1 (.lst [.str lay14])) := Kp.new hp1
    have kp2 : Kp [] _ (upd _ p2 (.lst (([lay14, lay14, lay14, lay14, lay14] : List Str).map V.str))) := Kp.new hp2
    have k3 := (klo.trans kp1).trans kp2
    have elo2 := (kp1.trans kp2).lst elo List.not_mem_nil
    refine ⟨_, p2, [lay14, lay14, lay14, lay14, lay14], rfl, rfl, .inl (SqL.of upd_same), fit5, lo, _, _, rfl, rfl, elo2, (by show 9 < sizeLine; decide), ?_⟩
    obtain ⟨kA, eA⟩ := app_step ((odd14.take 10).map V.str) k3 hlo elo2
    refine ⟨_, rfl, .inl ⟨rfl, _, SqL.of eA⟩, ⟨_, rfl⟩, _, rfl, (by show 1 ≤ sizeLine; decide), fun q1 hq1 => ⟨q1, 4, [.str lay14], rfl, rfl, upd_same, by decide, by decide, (by show 1 * 4 ≤ sizeLine; decide), fun q2 hq2 => ?_⟩⟩
    have kq1 : Kp [] _ (upd _ q1 (.lst [.str lay14])) := Kp.new hq1
    have kq2 : Kp [] _ (upd _ q2 (.lst (([lay14, lay14, lay14, lay14] : List Str).map V.str))) := Kp.new hq2
    have k4 := (kA.trans kq1).trans kq2
    have elo3 := (kq1.trans kq2).lst eA List.not_mem_nil
    have l4 : (Txt.join "\n-\n" [lay14, lay14, lay14, lay14]).length + ("\n-" : Str).length ≤ sizeLine := Nat.le_trans (by decide +kernel : _ ≤ 1000) (by decide)
    refine ⟨_, q2, [lay14, lay14, lay14, lay14], rfl, rfl, .inl (SqL.of upd_same), fit4, _, _, rfl, rfl, l4, lo, _, _, rfl, rfl, elo3, (by show 10 < sizeLine; decide), ?_⟩
    obtain ⟨kB, eB⟩ := app_step (odd14.map V.str) k4 hlo elo3
    refine ⟨5, rfl, by decide, by decide, for_range (lo := 0) (n := 5) (fun i σ H' => Nxt14 F a h l lo H1 σ H') ⟨⟨_, _, _, _, _, _, rfl⟩, kB.w0, s1.mono0 kB, (v0.mono k1).mono kB, eB⟩ (fun i σ H2 hi hat => ?_) (fun σ H2 hat => q H2)⟩
    obtain ⟨⟨o2, o4, o5, o6, o7, o8, rfl⟩, k2, s2, v2, e2⟩ := hat
    exact qb a h l lo H1 _ _ H2 hap ⟨⟨_, _, _, _, _, _, rfl⟩, k2, s2, v2, e2⟩ fun σ' H' z => z
end
end LP
end

section
set_option Elab.async false
set_option linter.all false
set_option maxRecDepth 100000
set_option maxHeartbeats 4000000
/-! what the look tells of BadText -/
namespace LP
open PySem PySem.Spec PyProof.Rows L2 Ly GY
theorem oexB_ok {K : PySem.W.Frag} {C : Addr} (h : oexB K C = true) (sa : PySem.W.findIn K (.ref C) "__setattr__" = some (some (.builtin "object.__setattr__"))) (exC : PySem.W.subIn K (.ref C) (.type "BaseException") = some true)
    (tyC : PySem.W.typeIn K (.ref C) = some (.type "type")) (kC : PySem.W.keepIn K (.ref C) = true) : OexC K C := by
  refine ⟨?_, sa, exC, tyC, kC⟩
  unfold oexB at h
  cases q : K.lookup C with
  | none =>
    rw [q] at h
    cases h
  | some o =>
    obtain ⟨oc, od, dt, sl⟩ := o
    rw [q] at h
    cases oc with
    | type t =>
      cases dt with
      | cls cd =>
        obtain ⟨h1, h2⟩ := He.ba h
        obtain ⟨nm, bs, mro, ns, qn, hd, sn, sb, ab, col, del⟩ := cd
        dsimp only at h2
        cases mro with
        | nil => cases h2
        | cons c0 bm =>
          cases c0 with
          | ref C' =>
            rcases hsl : sl.toList with _ | ⟨k0, _ | ⟨k1, _ | ⟨k2, _ | ⟨k3, _ | ⟨k4, _ | ⟨k5, _ | ⟨k6, l⟩⟩⟩⟩⟩⟩⟩ <;> rw [hsl] at h2
            case cons.cons.cons.cons.cons.cons.nil =>
              rcases k4 with _ | u
              · cases h2
              · cases u with
                | builtin n =>
                  obtain ⟨h3, h4⟩ := He.ba h2
                  obtain ⟨h5, h6⟩ := He.ba h4
                  obtain ⟨h7, h8⟩ := He.ba h6
                  obtain ⟨h9, h10⟩ := He.ba h8
                  have e3 : sl = #[k0, k1, k2, k3, some (.builtin n), k5] := by
                    apply Array.toList_inj.mp
                    rw [hsl]
                  have e4 : t = "type" := of_decide_eq_true h1
                  have e5 : C' = C := of_decide_eq_true h3
                  have e6 : n = "ValueError.__new__" := of_decide_eq_true h5
                  have e7 : del = false := by
                    cases del with
                    | false => rfl
                    | true => cases h7
                  have e8 : hd = true := h9
                  subst e3 e4 e5 e6 e7 e8
                  exact ⟨nm, qn, ns, bs, bm, sn, sb, ab, col, od, k0, k1, k2, k3, k5, rfl, h10⟩
                | _ => cases h2
            all_goals (first | cases h2 | (rcases k4 with _ | u <;> first | cases h2 | (cases u <;> cases h2)))
          | _ => cases h2
      | _ => cases h
    | _ => cases h
theorem argBI_ok : ((defArgs stBI).posonlyargs ++ (defArgs stBI).args).head? = some argBI := rfl
structure BadFacts (K : PySem.W.Frag) (C : Addr) : Prop where
  norow : PySem.W.findIn K (.ref C) "row" = some none
  ini : PySem.W.findIn K (.ref C) "__init__" = some (some (.ref (badAd K)))
  ty : PySem.W.typeIn K (.ref (badAd K)) = some (.type "function")
  mro : PySem.W.mroIn K C (.ref C) = some true
  op : PySem.W.nsIn K cStatics "thirdparty.any" = some none
  sup : PySem.W.ks_superIn K C C "__init__" = some (some (.builtin "ValueError.__init__"))
  subV : PySem.W.subIn K (.ref C) (.type "ValueError") = some true
  oex : oexB K C = true
  sa : PySem.W.findIn K (.ref C) "__setattr__" = some (some (.builtin "object.__setattr__"))
  exC : PySem.W.subIn K (.ref C) (.type "BaseException") = some true
  tyC : PySem.W.typeIn K (.ref C) = some (.type "type")
  kC : PySem.W.keepIn K (.ref C) = true
theorem badT_of {P : Program} {K : PySem.W.Frag} {mg : Str → Option Value} {file : Str} (v : fnVC K = vC) (b : badB K file = true) (hP : P.main.file = file) (htop : (P.main.scope.names.lookup ("super" : Str)).isSome = false) (hs : mg "super" = none)
    (hx : mg "BadText" = some (.ref (He.ga K "BadText"))) (B : BadFacts K (He.ga K "BadText")) : BadT P K mg (He.ga K "BadText") := by
  refine ⟨hx, B.norow, ?_⟩
  have O := oexB_ok B.oex B.sa B.exC B.tyC B.kC
  unfold badB at b
  unfold fnVC at v
  cases q : K.lookup (badAd K) with
  | none =>
    rw [q] at b
    cases b
  | some o =>
    obtain ⟨oc, od, dt, osl⟩ := o
    rw [q] at b v
    cases dt with
    | func fd =>
      obtain ⟨n1, n2, n3, n4, n5, n6, n7, n8, n9, n10, n11, n12, n13, n14, n15⟩ := fd
      have v2 : (some (n1, n2, n3, n4, n5, n6, n7.map (·.1), n8, n15) : FnVC) = (some (("__init__" : Str), ("BadText.__init__" : Str), defArgs stBI, FuncBody.stmts (defBody stBI), defScope stBI, mainGlobals, [("__class__" : Str)], Value.none, builtinsNs) : FnVC) := v
      simp only [Option.some.injEq, Prod.mk.injEq] at v2
      obtain ⟨h1, h2, h3, h4, h5, h6, h7, h8, h9⟩ := v2
      obtain ⟨b1, b2⟩ := He.ba b
      obtain ⟨b3, b4⟩ := He.ba b2
      dsimp only at b1 b3 b4
      match n7, h7, b4 with
      | [(x, cc)], h7, b4 =>
        have ex : x = "__class__" := by simpa using h7
        subst ex
        cases hcd : n13 with
        | ref cda =>
          rw [hcd] at b3 b1 q
          dsimp only at b3 b4
          cases qc : K.lookup cda with
          | none =>
            rw [qc] at b3
            cases b3
          | some oc2 =>
            obtain ⟨c1, c2, c3, c4⟩ := oc2
            rw [qc] at b3
            cases c3 with
            | fields vs =>
              dsimp only at b3
              cases qv : (vs.toList : List Value)[2]? with
              | none =>
                rw [qv] at b3
                cases b3
              | some u =>
                rw [qv] at b3
                cases u with
                | str z tk =>
                  have ez : z = file := beq_iff_eq.mp b3
                  cases qq : K.lookup cc with
                  | none =>
                    rw [qq] at b4
                    cases b4
                  | some oc3 =>
                    obtain ⟨d1, d2, d3, d4⟩ := oc3
                    rw [qq] at b4
                    cases d3 with
                    | cell cv =>
                      cases cv with
                      | none => cases b4
                      | some u2 =>
                        cases u2 with
                        | ref D =>
                          have eD : D = He.ga K "BadText" := of_decide_eq_true b4
                          subst h1 h2 h3 h4 h5 h6 h8 h9
                          rw [eD] at qq
                          refine ⟨badAd K, cda, cc, oc, od, n9, n10, n11, n12, n14, osl, ⟨O, ⟨oc, od, _, osl, q, argBI_ok⟩, ⟨c1, c2, vs, c4, z, tk, qc, by simpa using qv, by rw [hP, ez]; exact beq_self_eq_true _⟩, ⟨d1, d2, d4, qq⟩, B.mro, B.op, B.sup, B.subV, hs, htop⟩, q, b1, B.ini, B.ty⟩
                        | _ => cases b4
                    | _ => cases b4
                | _ => cases b3
            | _ => cases b3
        | _ =>
          rw [hcd] at b3
          cases b3
    | _ => cases b
end LP
end

section
set_option Elab.async false
set_option linter.all false
set_option maxRecDepth 100000
set_option maxHeartbeats 4000000
/-! the end: what the top leaves -/
namespace LP
open PySem PySem.Spec PyProof.Rows L2 Ly GY
theorem fun_of {K : PySem.W.Frag} {x : Str} {st : Stmt} {f : Addr} {fd : FuncData} (F : FunD K x x (defArgs st) (defBody st) (defScope st) [] [] f fd) : Fun K x x st f fd := by
  obtain ⟨oc, od, dV, kV, doc, pm, an, cdv, ct, osl, e, lk, hcd, hD, hK⟩ := F.ex
  rcases hD with ⟨_, rfl⟩ | ⟨z, _⟩
  · exact ⟨⟨oc, od, kV, doc, pm, an, cdv, ct, osl, e, lk, hcd⟩, F.kp⟩
  · exact absurd rfl z
theorem funC_of {K : PySem.W.Frag} {x : Str} {p : He.Defn} {st : Stmt} {fd : FuncData} (F : FunD K x x (defArgs st) (defBody st) (defScope st) [] [] (He.fAd K p) fd) : FunC K x x st (He.fAd K p) fd (He.cT K p).1 := by
  obtain ⟨oc, od, dV, kV, doc, pm, an, cdv, ct, osl, e, lk, hcd, hD, hK⟩ := F.ex
  rcases hD with ⟨_, rfl⟩ | ⟨z, _⟩
  · obtain ⟨c, rfl⟩ := He.codeIn_ref hcd
    have q : (He.cT K p).1 = c := He.codeOf_eq lk (by rw [e])
    rw [q]
    exact ⟨oc, od, kV, doc, pm, an, ct, osl, e, lk, hcd⟩
  · exact absurd rfl z
structure Ex1 (K : PySem.W.Frag) : Prop where
  dcheckrows : (He.cT K ("_check_rows", none)).2 ≠ He.ga K "law"
  dcanstand : (He.cT K ("_can_stand", none)).2 ≠ He.ga K "law"
  bB : badB K "/claim/cut.py" = true
  bO : oexB K (He.ga K "BadText") = true
  bX : xfB K (He.ga K "BadText") = true
  b1 : PySem.W.findIn K (.ref (He.ga K "BadText")) "row" = some none
  b2 : PySem.W.findIn K (.ref (He.ga K "BadText")) "__init__" = some (some (.ref (badAd K)))
  b3 : PySem.W.typeIn K (.ref (badAd K)) = some (.type "function")
  b4 : PySem.W.mroIn K (He.ga K "BadText") (.ref (He.ga K "BadText")) = some true
  b5 : PySem.W.nsIn K cStatics "thirdparty.any" = some none
  b6 : PySem.W.ks_superIn K (He.ga K "BadText") (He.ga K "BadText") "__init__" = some (some (.builtin "ValueError.__init__"))
  b7 : PySem.W.subIn K (.ref (He.ga K "BadText")) (.type "ValueError") = some true
  b8 : PySem.W.findIn K (.ref (He.ga K "BadText")) "__setattr__" = some (some (.builtin "object.__setattr__"))
  b9 : PySem.W.subIn K (.ref (He.ga K "BadText")) (.type "BaseException") = some true
  b10 : PySem.W.typeIn K (.ref (He.ga K "BadText")) = some (.type "type")
  b11 : PySem.W.keepIn K (.ref (He.ga K "BadText")) = true
  c1 : PySem.W.findIn K (.ref (He.ga K "BadText")) "__getattribute__" = some (some (.builtin "BaseException.__getattribute__"))
  c2 : PySem.W.findIn K (.ref (He.ga K "BadText")) "__getattr__" = some none
  c3 : PySem.W.hasDictIn K (He.ga K "BadText") = true
  c4 : PySem.W.findIn K (.ref (He.ga K "BadText")) "__class__" = some (some (.builtin "object.__class__"))
  c5 : PySem.W.specialIn K (.builtin "object.__class__") "__get__" = some (some (.builtin "getset_descriptor.__get__"))
  c6 : PySem.W.takesIn K (.builtin "object.__class__") = some true
  c7 : PySem.W.mroIn K (He.ga K "BadText") (.type "object") = some true
  d1 : PySem.W.exmOne K (.ref (He.ga K "BadText")) (.ref (He.ga K "PrintError")) = some true
  d2 : PySem.W.kitAny K (.ref (He.ga K "BadText")) [(.ref (He.ga K "BadPlace")), (.ref (He.ga K "BadReach")), (.ref (He.ga K "NoBody")), (.ref (He.ga K "NoLayer")), (.ref (He.ga K "NoProp")), (.ref (He.ga K "Outside"))] = some false
  d3 : PySem.W.kitOne K (.ref (He.ga K "BadText")) (.ref (He.ga K "BadText")) = some true
  d4 : PySem.W.kitOne K (.ref (He.ga K "BadText")) (.type "ValueError") = some true
theorem ex1_of {K : PySem.W.Frag} (h : ex K = true) : Ex1 K := by
  unfold ex at h
  obtain ⟨h0, h⟩ := He.ba h
  obtain ⟨h1, h⟩ := He.ba h
  obtain ⟨h2, h⟩ := He.ba h
  obtain ⟨h3, h⟩ := He.ba h
  obtain ⟨h4, h⟩ := He.ba h
  obtain ⟨h5, h⟩ := He.ba h
  obtain ⟨h6, h⟩ := He.ba h
  obtain ⟨h7, h⟩ := He.ba h
  obtain ⟨h8, h⟩ := He.ba h
  obtain ⟨h9, h⟩ := He.ba h
  obtain ⟨h10, h⟩ := He.ba h
  obtain ⟨h11, h⟩ := He.ba h
  obtain ⟨h12, h⟩ := He.ba h
  obtain ⟨h13, h⟩ := He.ba h
  obtain ⟨h14, h⟩ := He.ba h
  obtain ⟨h15, h⟩ := He.ba h
  obtain ⟨h16, h⟩ := He.ba h
  obtain ⟨h17, h⟩ := He.ba h
  obtain ⟨h18, h⟩ := He.ba h
  obtain ⟨h19, h⟩ := He.ba h
  obtain ⟨h20, h⟩ := He.ba h
  obtain ⟨h21, h⟩ := He.ba h
  obtain ⟨h22, h⟩ := He.ba h
  obtain ⟨h23, h⟩ := He.ba h
  obtain ⟨h24, h⟩ := He.ba h
  obtain ⟨h25, h⟩ := He.ba h
  exact ⟨of_decide_eq_true h0, of_decide_eq_true h1, h2, h3, h4, of_decide_eq_true h5, of_decide_eq_true h6, of_decide_eq_true h7, of_decide_eq_true h8, of_decide_eq_true h9, of_decide_eq_true h10, of_decide_eq_true h11, of_decide_eq_true h12, of_decide_eq_true h13, of_decide_eq_true h14, h15, of_decide_eq_true h16, of_decide_eq_true h17, h18, of_decide_eq_true h19, of_decide_eq_true h20, of_decide_eq_true h21, of_decide_eq_true h22, of_decide_eq_true h23, of_decide_eq_true h24, of_decide_eq_true h25, of_decide_eq_true h⟩
section
variable {P : Program} {w : World} {K : PySem.W.Frag} {h : Heap} {mg : Str → Option Value}
theorem nm_of (X : K.In h) (G : h.Ns mainGlobals mg) (c : He.SaysD fa defs K) (e : Ex1 K) : Nm K mg where
  isinstance := He.free_ok X G (c.fact 22 (f := .free "isinstance") rfl)
  int := He.free_ok X G (c.fact 23 (f := .free "int") rfl)
  bool := He.free_ok X G (c.fact 24 (f := .free "bool") rfl)
  tuple := He.free_ok X G (c.fact 25 (f := .free "tuple") rfl)
  list := He.free_ok X G (c.fact 26 (f := .free "list") rfl)
  set := He.free_ok X G (c.fact 27 (f := .free "set") rfl)
  len := He.free_ok X G (c.fact 28 (f := .free "len") rfl)
  all := He.free_ok X G (c.fact 29 (f := .free "all") rfl)
  range := He.free_ok X G (c.fact 30 (f := .free "range") rfl)
  sorted := He.free_ok X G (c.fact 31 (f := .free "sorted") rfl)
  side := He.int_ok X G (c.fact 39 (f := .int "SIDE" 4) rfl)
theorem nl_of (X : K.In h) (G : h.Ns mainGlobals mg) (c : He.SaysD fa defs K) : Nl K mg where
  max := He.free_ok X G (c.fact 32 (f := .free "max") rfl)
  min := He.free_ok X G (c.fact 33 (f := .free "min") rfl)
  str := He.free_ok X G (c.fact 34 (f := .free "str") rfl)
theorem nn_of (X : K.In h) (G : h.Ns mainGlobals mg) (c : He.SaysD fa defs K) : Nn mg where
  any := He.free_ok X G (c.fact 36 (f := .free "any") rfl)
  enumerate := He.free_ok X G (c.fact 37 (f := .free "enumerate") rfl)
  btw := He.str_ok X G (c.fact 42 (f := .str "BETWEEN" "-") rfl)
  lrows := He.int_ok X G (c.fact 40 (f := .int "LAYER_ROWS" 5) rfl)
  most := He.int_ok X G (c.fact 41 (f := .int "MOST_ROWS" 19) rfl)
theorem kt_of (X : K.In h) (G : h.Ns mainGlobals mg) (c : He.SaysD fa defs K) (e : Ex1 K) : KindT K mg (He.ga K "PrintError") (He.ga K "NoBody") (He.ga K "Outside") (He.ga K "NoLayer") (He.ga K "NoProp") (He.ga K "BadReach") (He.ga K "BadPlace") (He.ga K "BadText") :=
  ⟨He.glo_ok X G (c.fact 14 (f := .glo "PrintError") rfl), He.glo_ok X G (c.fact 15 (f := .glo "NoBody") rfl), He.glo_ok X G (c.fact 16 (f := .glo "Outside") rfl), He.glo_ok X G (c.fact 17 (f := .glo "NoLayer") rfl), He.glo_ok X G (c.fact 18 (f := .glo "NoProp") rfl), He.glo_ok X G (c.fact 19 (f := .glo "BadReach") rfl), He.glo_ok X G (c.fact 20 (f := .glo "BadPlace") rfl), He.glo_ok X G (c.fact 21 (f := .glo "BadText") rfl), He.free_ok X G (c.fact 35 (f := .free "ValueError") rfl), e.d1, ⟨e.c1, e.c2, e.b9, e.c3, e.c4, e.c5, e.c6, e.c7⟩, xfB_ok e.bX, e.b1, e.d2, e.d3, e.d4⟩
theorem bt_of {P : Program} (X : K.In h) (G : h.Ns mainGlobals mg) (c : He.SaysD fa defs K) (e : Ex1 K) (v : fnVC K = vC) (hP : P.main.file = ("/claim/cut.py" : Str)) (htop : (P.main.scope.names.lookup ("super" : Str)).isSome = false) : BadT P K mg (He.ga K "BadText") :=
  badT_of v e.bB hP htop (He.free_ok X G (c.fact 38 (f := .free "super") rfl)) (He.glo_ok X G (c.fact 21 (f := .glo "BadText") rfl)) ⟨e.b1, e.b2, e.b3, e.b4, e.b5, e.b6, e.b7, e.bO, e.b8, e.b9, e.b10, e.b11⟩
theorem fn_of' {x : Str} {st : Stmt} {ps : List Str} {fd : FuncData} (F : FunD K x x (defArgs st) (defBody st) (defScope st) [] [] (He.ga K x) fd) (m : mg x = some (.ref (He.ga K x)))
    (h : ∀ (kV doc pm : Value) (an : Option Addr) (cdv ct : Value) (us : List Value), us.length = ps.length → bindArgs (PySem.W.fnOf x x (defArgs st) (defBody st) (defScope st) .none kV doc pm an cdv ct) ⟨us, []⟩ = pure (ps.zip us)) : Fn K mg x (He.ga K x) fd ps :=
  ⟨F.kp, (fun_of F).binds h, m⟩
/-- what is asked of the heap at the law's call -/
def spLawA [LamTab] (K : PySem.W.Frag) (Pcheckrows Pcanstand : Addr) : Sp := fun vs H Q _ => ∃ (a : Addr) (ns : List Int), vs = [.ref a] ∧ SqL K H a (ns.map V.int) ∧ ns.length ≤ 63 ∧ (TGen H Pcheckrows ∧ TGen H Pcanstand) ∧ ∀ H', Q (.bl true) H'
theorem all_of (hP : P.main.file = ("/claim/cut.py" : Str)) (htop : (P.main.scope.names.lookup ("super" : Str)).isSome = false) (cv : fnVC K = vC) (X : K.In h) (G : h.Ns mainGlobals mg) (c : He.SaysX fa defs [] tf ex w h K) : ∃ (lt : LamTab) (fd : FuncData), lt = ⟨He.ga K "law", "", (He.cT K ("is_rising", none)).2, []⟩ ∧ (∀ (s : Shared) (u : Value), BindsTo s fd ⟨[u], []⟩ [("_law_script", u)]) ∧
    ∀ base : Heap, K.In base → base.Ns mainGlobals mg → (∀ p ∈ tf.map (He.cT K), LamX.TabB base mg p.1 p.2) → FnOk P w K mg base CX0 31 (He.ga K "law") fd ["_law_script"] (@spLawA lt K (He.cT K ("_check_rows", none)).2 (He.cT K ("_can_stand", none)).2) := by
  have d := c.t.d
  have e := ex1_of c.more
  have T := nm_of X G d e
  have U := nl_of X G d
  have N0 := nn_of X G d
  have kT := kt_of X G d e
  have bT := bt_of X G d e cv hP htop
  obtain ⟨d_read, F_read⟩ := d.def_ 0 (d := ⟨("read", none), "read", "read", defArgs sRead, defBody sRead, defScope sRead, [], []⟩) rfl
  have N_read := fn_of' (x := "read") (st := sRead) (ps := ["text"]) (mg := mg) F_read (He.glo_ok X G (d.fact 0 (f := .glo "read") rfl)) (fun _ _ _ _ _ _ us hl => match us, hl with | [_], _ => rfl)
  obtain ⟨d_checkrows, F_checkrows⟩ := d.def_ 1 (d := ⟨("_check_rows", none), "_check_rows", "_check_rows", defArgs sChkRows, defBody sChkRows, defScope sChkRows, [], []⟩) rfl
  have N_checkrows := fn_of' (x := "_check_rows") (st := sChkRows) (ps := ["rows"]) (mg := mg) F_checkrows (He.glo_ok X G (d.fact 1 (f := .glo "_check_rows") rfl)) (fun _ _ _ _ _ _ us hl => match us, hl with | [_], _ => rfl)
  obtain ⟨d_canstand, F_canstand⟩ := d.def_ 2 (d := ⟨("_can_stand", none), "_can_stand", "_can_stand", defArgs sCanStand, defBody sCanStand, defScope sCanStand, [], []⟩) rfl
  have N_canstand := fn_of' (x := "_can_stand") (st := sCanStand) (ps := ["at", "row"]) (mg := mg) F_canstand (He.glo_ok X G (d.fact 2 (f := .glo "_can_stand") rfl)) (fun _ _ _ _ _ _ us hl => match us, hl with | [_, _], _ => rfl)
  obtain ⟨d_lawmix, F_lawmix⟩ := d.def_ 3 (d := ⟨("_law_mix", none), "_law_mix", "_law_mix", defArgs lMix, defBody lMix, defScope lMix, [], []⟩) rfl
  have N_lawmix := fn_of' (x := "_law_mix") (st := lMix) (ps := ["_law_script", "_law_seed"]) (mg := mg) F_lawmix (He.glo_ok X G (d.fact 3 (f := .glo "_law_mix") rfl)) (fun _ _ _ _ _ _ us hl => match us, hl with | [_, _], _ => rfl)
  obtain ⟨d_lawnext, F_lawnext⟩ := d.def_ 4 (d := ⟨("_law_next", none), "_law_next", "_law_next", defArgs lNext, defBody lNext, defScope lNext, [], []⟩) rfl
  have N_lawnext := fn_of' (x := "_law_next") (st := lNext) (ps := ["_law_h", "_law_many"]) (mg := mg) F_lawnext (He.glo_ok X G (d.fact 4 (f := .glo "_law_next") rfl)) (fun _ _ _ _ _ _ us hl => match us, hl with | [_, _], _ => rfl)
  obtain ⟨d_lawalike, F_lawalike⟩ := d.def_ 5 (d := ⟨("_law_alike", none), "_law_alike", "_law_alike", defArgs lAlike, defBody lAlike, defScope lAlike, [], []⟩) rfl
  have N_lawalike := fn_of' (x := "_law_alike") (st := lAlike) (ps := ["_law_found", "_law_due_here"]) (mg := mg) F_lawalike (He.glo_ok X G (d.fact 5 (f := .glo "_law_alike") rfl)) (fun _ _ _ _ _ _ us hl => match us, hl with | [_, _], _ => rfl)
  obtain ⟨d_lawinside, F_lawinside⟩ := d.def_ 6 (d := ⟨("_law_inside", none), "_law_inside", "_law_inside", defArgs lInside, defBody lInside, defScope lInside, [], []⟩) rfl
  have N_lawinside := fn_of' (x := "_law_inside") (st := lInside) (ps := ["_law_body_here", "_law_cell"]) (mg := mg) F_lawinside (He.glo_ok X G (d.fact 6 (f := .glo "_law_inside") rfl)) (fun _ _ _ _ _ _ us hl => match us, hl with | [_, _], _ => rfl)
  obtain ⟨d_lawall, F_lawall⟩ := d.def_ 7 (d := ⟨("_law_all", none), "_law_all", "_law_all", defArgs lAll, defBody lAll, defScope lAll, [], []⟩) rfl
  have N_lawall := fn_of' (x := "_law_all") (st := lAll) (ps := ["_law_body_here"]) (mg := mg) F_lawall (He.glo_ok X G (d.fact 7 (f := .glo "_law_all") rfl)) (fun _ _ _ _ _ _ us hl => match us, hl with | [_], _ => rfl)
  obtain ⟨d_lawbody, F_lawbody⟩ := d.def_ 8 (d := ⟨("_law_body", none), "_law_body", "_law_body", defArgs lBody, defBody lBody, defScope lBody, [], []⟩) rfl
  have N_lawbody := fn_of' (x := "_law_body") (st := lBody) (ps := ["_law_h", "_law_deep"]) (mg := mg) F_lawbody (He.glo_ok X G (d.fact 8 (f := .glo "_law_body") rfl)) (fun _ _ _ _ _ _ us hl => match us, hl with | [_, _], _ => rfl)
  obtain ⟨d_lawtext, F_lawtext⟩ := d.def_ 9 (d := ⟨("_law_text", none), "_law_text", "_law_text", defArgs lTextL, defBody lTextL, defScope lTextL, [], []⟩) rfl
  have N_lawtext := fn_of' (x := "_law_text") (st := lTextL) (ps := ["_law_some"]) (mg := mg) F_lawtext (He.glo_ok X G (d.fact 9 (f := .glo "_law_text") rfl)) (fun _ _ _ _ _ _ us hl => match us, hl with | [_], _ => rfl)
  obtain ⟨d_lawdue, F_lawdue⟩ := d.def_ 10 (d := ⟨("_law_due", none), "_law_due", "_law_due", defArgs lDue, defBody lDue, defScope lDue, [], []⟩) rfl
  have N_lawdue := fn_of' (x := "_law_due") (st := lDue) (ps := ["_law_text_here"]) (mg := mg) F_lawdue (He.glo_ok X G (d.fact 10 (f := .glo "_law_due") rfl)) (fun _ _ _ _ _ _ us hl => match us, hl with | [_], _ => rfl)
  obtain ⟨d_lawtold, F_lawtold⟩ := d.def_ 11 (d := ⟨("_law_told", none), "_law_told", "_law_told", defArgs lTold, defBody lTold, defScope lTold, [], []⟩) rfl
  have N_lawtold := fn_of' (x := "_law_told") (st := lTold) (ps := ["_law_text_here"]) (mg := mg) F_lawtold (He.glo_ok X G (d.fact 11 (f := .glo "_law_told") rfl)) (fun _ _ _ _ _ _ us hl => match us, hl with | [_], _ => rfl)
  obtain ⟨d_lawchanged, F_lawchanged⟩ := d.def_ 12 (d := ⟨("_law_changed", none), "_law_changed", "_law_changed", defArgs lChanged, defBody lChanged, defScope lChanged, [], []⟩) rfl
  have N_lawchanged := fn_of' (x := "_law_changed") (st := lChanged) (ps := ["_law_h", "_law_text_here"]) (mg := mg) F_lawchanged (He.glo_ok X G (d.fact 12 (f := .glo "_law_changed") rfl)) (fun _ _ _ _ _ _ us hl => match us, hl with | [_, _], _ => rfl)
  obtain ⟨d_law, F_law⟩ := d.def_ 13 (d := ⟨("law", none), "law", "law", defArgs lLaw, defBody lLaw, defScope lLaw, [], []⟩) rfl
  have N_law := fn_of' (x := "law") (st := lLaw) (ps := ["_law_script"]) (mg := mg) F_law (He.glo_ok X G (d.fact 13 (f := .glo "law") rfl)) (fun _ _ _ _ _ _ us hl => match us, hl with | [_], _ => rfl)
  refine ⟨⟨He.ga K "law", "", (He.cT K ("is_rising", none)).2, []⟩, d_law, rfl, fun s u => FunD.bindsA (ps := ["_law_script"]) F_law (fun _ _ _ _ _ _ us hl => match us, hl with | [_], _ => rfl) s [u] rfl, fun base KB GB TB => ?_⟩
  letI : LamTab := ⟨He.ga K "law", "", (He.cT K ("is_rising", none)).2, []⟩
  haveI : LamOk := ⟨apart_ok (And.intro True.intro True.intro)⟩
  have tb : ∀ p ∈ tf, GxR.TabB base mg (He.cT K p).1 (He.cT K p).2 := fun p hp => by
    have t := TB _ (List.mem_map.mpr ⟨p, hp, rfl⟩)
    exact ⟨t.code, t.bm, t.gP⟩
  have g_mix := ok_mix (P := P) (W0 := w) (base := base) (fun_of F_lawmix) T
  have g_next := ok_next (P := P) (W0 := w) (base := base) (fun_of F_lawnext) T U
  have g_alike := ok_alike (P := P) (W0 := w) (base := base) (fun_of F_lawalike) T U N_lawalike 10
  have g_inside := ok_inside (P := P) (W0 := w) (base := base) (fun_of F_lawinside) T N_lawinside 20
  have g_all := ok_all (fun_of F_lawall) T N_lawinside g_inside
  have g_body := ok_lbody (fun_of F_lawbody) T U N_lawbody N_lawnext g_next N_lawall g_all 5
  have g_can := ok_can (P := P) (W0 := w) (base := base) (funC_of (p := ("_can_stand", none)) F_canstand) (tb _ (by simp [tf])) T N0
  have g_chkr := ok_chkall (base := base) (funC_of (p := ("_check_rows", none)) F_checkrows) (tb _ (by simp [tf])) T N0 bT N_canstand g_can
  have g_read := ok_readall (fun_of F_read) T N0 N_checkrows g_chkr
  have g_text := ok_text (P := P) (W0 := w) (base := base) (fun_of F_lawtext) T U
  have g_told := ok_told (fun_of F_lawtold) T kT N_read g_read
  have g_due := ok_dueT (P := P) (W0 := w) (base := base) (fun_of F_lawdue) T U
  have g_changed := ok_changed (fun_of F_lawchanged) T N_lawnext g_next
  let F0 : LF14 P w K mg base := { fM := _, fX := _, fA := _, fL := _, fB := _, fx := _, fd := _, ft := _, fc := _, dM := _, dX := _, dA := _, dL := _, dB := _, dx := _, dd := _, dt := _, dc := _, Pq := (He.cT K ("_can_stand", none)).2, Pk := (He.cT K ("_check_rows", none)).2, nM := N_lawmix, gM := g_mix, nX := N_lawnext, gX := g_next, nA := N_lawalike, gA := g_alike, nL := N_lawall, gL := g_all, nB := N_lawbody, gB := g_body, nx := N_lawtext, gx := g_text, nd := N_lawdue, gd := g_due, nt := N_lawtold, gt := g_told, nc := N_lawchanged, gc := g_changed, T := T, U := U }
  have gl := ok_law14 F0 (fun_of F_law)
  exact gl.imp fun vs H Q E ⟨a, ns, e, hs, hl, ⟨tcheckrows, tcanstand⟩, q⟩ => ⟨a, ns, e, hs, hl, ⟨tcanstand, tcheckrows⟩, q⟩
end
end LP
end

section
set_option Elab.async false
set_option linter.all false
set_option maxRecDepth 100000
set_option maxHeartbeats 0
namespace LP
open PySem PySem.Spec PyProof.Rows L2
theorem law_at {w : World} {K : PySem.W.Frag} {h : Heap} {mg : Str → Option Value} {f : Addr} (X : K.In h) (G : h.Ns mainGlobals mg) (hf : mg "law" = some (.ref f)) (c : He.SaysX fa defs [] tf ex w h K) (cv : fnVC K = vC) : LamX.LawAtS PySem.Challenge.rw_layerprint_k14_texts_that_tell_no_body w K L2.CX0 31 63 "_law_script" mg f h := by
  obtain ⟨lt, fd, elt, hb, hF⟩ := all_of (P := (PySem.Challenge.rw_layerprint_k14_texts_that_tell_no_body).prog) rfl (by decide +kernel) cv X G c
  have ef := hf.symm.trans (He.glo_ok X G (c.t.d.fact 13 (f := .glo "law") rfl))
  cases ef
  subst elt
  have e := ex1_of c.more
  letI : LamTab := ⟨He.ga K "law", "", (He.cT K ("is_rising", none)).2, []⟩
  have key : ∀ {A : Addr × Addr → Prop}, (∀ p ∈ tf, A (He.cT K p)) → ∀ p ∈ tf.map (He.cT K), A p := fun hA p hp => by
    obtain ⟨q, hq, rfl⟩ := List.mem_map.mp hp
    exact hA q hq
  refine ⟨fd, tf.map (He.cT K), _, key (fun p hp => c.empty p hp), key (fun p hp => c.out p hp), key (fun p hp => PySem.W.codeHd_of_K X (c.hd p hp)), hb, ?_, hF⟩
  intro H a ns hl _ hT hS
  have tt : ∀ p ∈ tf, H (He.cT K p).2 = some (.tbl #[]) := fun p hp => hT _ (List.mem_map.mpr ⟨p, hp, rfl⟩)
  have tg : ∀ p ∈ tf, GxR.TabG H (He.cT K p).2 := fun p hp => ⟨#[], tt p hp, True.intro⟩
  exact ⟨a, ns, rfl, hS, hl, ⟨⟨tg _ (by simp [tf]), ne_all (And.intro e.dcheckrows True.intro)⟩, ⟨tg _ (by simp [tf]), ne_all (And.intro e.dcanstand True.intro)⟩⟩, fun _ => rfl⟩
end LP
end

section
set_option Elab.async false
set_option linter.all false
set_option maxRecDepth 100000
set_option maxHeartbeats 0
open PySem PySem.W PySem.Calls PyProof.Rows
theorem PySem.Challenge.cw_layerprint_k14_texts_that_tell_no_body_holds : PySem.Challenge.rw_layerprint_k14_texts_that_tell_no_body.Holds := by
  w_on; o_law
  refine HandSHeadRun.head_any (r := OpenLaw.row PySem.Challenge.rw_layerprint_k14_texts_that_tell_no_body) (q := view (OpenLaw.row PySem.Challenge.rw_layerprint_k14_texts_that_tell_no_body).prog [28]) (H := LP.theHook) (ob := LP.theOb) (M := 6000) (loose := LP.names) (d := HandSHeadRun.topDef (OpenLaw.row PySem.Challenge.rw_layerprint_k14_texts_that_tell_no_body).prog 28) (kwd := []) LP.theOb_eq
    (by kernel_rfl) (fun s => by kernel_rfl) LP.run (by kernel_rfl) (by kernel_rfl) (by kernel_rfl) (by rfl) (by first | assumption | decide +kernel) (by decide +kernel) ⟨rfl, rfl, rfl, rfl, rfl, by decide +kernel⟩ ?hw ?hc
  case hw => w_witness2
  case hc =>
    refine LamX.walk_ofTsE (l := PySem.Challenge.rw_layerprint_k14_texts_that_tell_no_body) (n := 63) (k := 31) (x := "_law_script") (CX := fun _ => L2.CX0) rfl (by decide) (by kernel_rfl) ⟨rfl, by decide, by decide⟩ ?F (fun _ _ _ _ _ z => z)
    intro w mg fa h Y G hmg0
    obtain ⟨K, KX, c, cv⟩ := Y
    have hmg : mg ("law" : PySem.Str) = some (.ref fa) := by
      have e : (HandSHeadRun.topDef (OpenLaw.row PySem.Challenge.rw_layerprint_k14_texts_that_tell_no_body).prog 28).name = ("law" : PySem.Str) := by kernel_rfl
      rw [← e]
      exact hmg0
    exact ⟨K, KX, LP.law_at KX G hmg c cv⟩
end
