import PyProof.Rows.All
import Wide.All
import OpenK.AllK
import Wide.FinOn
import HandS.ForMost
import HandS.IsInst
import HandS.Codes
import HandS.TupAny
import HandS.Deep
import HandS.AnyAll
import HandS.GenList
import HandS.EndOwn
import HandS.TupMul
import HandS.Style
import HandS.Sort
import HandS.Conv
import KE.DataMinMax
import KE.KDictKeyed
import KE.KUnpack
import HandS.ForExc
import HandS.ExcInit
import HandS.TryMany
import HandS.SuiteRaise
import HandS.ExcIs
import HandS.FStr
import HandS.More
import PyProof.MinMaxWalk
import HandS.Flow
import HandS.ExcField
import OpenK.KCls
import KE.KPassesOwn
import KE.GoesEnum
import PyProof.SeqIndex
import HandS.Rev
import HandS.Zip
import KE.KExcIs
import HandS.CallSlots
import HandS.Comp
import HandS.RevRange
import HandS.SetBool
import HandS.Strs
import HandS.DictComp
import KE.SortKeyHeap
import HandS.SortKw
import HandS.ExcValue
import HandS.SortOrd
import HandS.TryOnly
import HandS.SetFor
import HandS.TupSets
import HandS.CallLocal
import KE.KNestM
import PySem.Challenge.RW_allsomeno_k19_whole_further_premises
set_option Elab.async false
set_option linter.all false
set_option maxRecDepth 100000
set_option maxHeartbeats 4000000
/-! ## all(..) and any(..) of a generator expression whose element may call: the generator's frame is a context of its own, its loop goes by a word of one's own -/
namespace GXX
open PySem PySem.Spec PyProof.Rows L2 GenW
section
variable {prog : Program} {w : World} {A : Around}
/-- the generator's loop, by any word J over (turns left, state): an item out (Yd), the end (Fin) -/
theorem seg_loopJ {elt iter tg : Expr} {scope : Scope} {pos : Pos} {it : Addr} {cenv : Env} {J : Nat → Shared → Prop} {Fn : Shared → Prop} {Yd : Nat → Value → Shared → Prop} {Sl : Value → Shared → Shared → Prop}
    (hco : cenv.scope.isCoroutine = false)
    (turn : ∀ k s, J k s → wpAny (model prog w) (A.over (.compLoop (.GeneratorExp elt [⟨tg, iter, [], 0⟩] scope pos) 0 (.ref it) .none cenv) []) (pyNext (.ref it)) (fun r s1 => match r with
      | none => Fn s1
      | some v => wpAny (model prog w) (A.over (.compLoop (.GeneratorExp elt [⟨tg, iter, [], 0⟩] scope pos) 0 (.ref it) .none cenv) []) (letOwnedTupleGo tg (.ref it) v) (fun _ s2 =>
          wpAny (model prog w) (A.over (.compLoop (.GeneratorExp elt [⟨tg, iter, [], 0⟩] scope pos) 0 (.ref it) .none cenv) []) (assign tg cenv v) (fun _ s3 =>
            wpAny (model prog w) (A.over (.compLoop (.GeneratorExp elt [⟨tg, iter, [], 0⟩] scope pos) 0 (.ref it) .none cenv) []) (eval elt cenv) (fun y s4 => Yd k y s4) (fun _ _ => False) s3) (fun _ _ => False) s2) (fun _ _ => False) s1) (fun _ _ => False) s)
    (back : ∀ k y s s', Yd k y s → Sl y s s' → ∃ k', k' < k ∧ J k' s') :
    ∀ (n k : Nat) (s₀ s : Shared), k < n → J k s →
      Seg (model prog w) A (fun _ _ r s1 => r = .ok .next ∧ Fn s1) (fun _ _ v s kap => ∃ k, Yd k v s ∧ ∀ s', Sl v s s' → kap (.send .none) s') n s₀
        (.compLoop (.GeneratorExp elt [⟨tg, iter, [], 0⟩] scope pos) 0 (.ref it) .none cenv) ((model prog w).den (.compLoop (.GeneratorExp elt [⟨tg, iter, [], 0⟩] scope pos) 0 (.ref it) .none cenv)) [] s := by
  intro n
  induction n with
  | zero => exact fun k _ _ h => absurd h (Nat.not_lt_zero k)
  | succ n ih =>
    intro k s₀ s hk hJ
    show Seg _ A _ _ _ s₀ _ ((compTurn (.GeneratorExp elt [⟨tg, iter, [], 0⟩] scope pos) 0 (.ref it) .none cenv).onRaise (leaving cenv)) [] s
    rw [compTurn_gen, Sem.onRaise_eq_wrap]
    refine seg_bind_wrap (wpAny_standAt ?_)
    refine seg_bind_wrap (wpAny_mono (turn k s hJ) (fun r s1 h1 => ?_) fun _ _ z => z.elim)
    cases r with
    | none => exact seg_end (.ok .next) ⟨rfl, h1⟩
    | some v =>
      refine seg_bind_wrap (wpAny_mono h1 (fun _ s2 h2 => ?_) fun _ _ z => z.elim)
      refine seg_bind_wrap (wpAny_mono h2 (fun _ s3 h3 => ?_) fun _ _ z => z.elim)
      simp only [List.forIn_nil, pure_bind, if_true]
      have hy : ∀ v, yieldOut cenv v = yieldValue v := fun v => by simp only [yieldOut, hco, Bool.false_eq_true, if_false]
      simp only [hy]
      rw [Sem.bind_eq_wrap', Sem.bind_eq_wrap', Sem.wrap_wrap, Sem.wrap_wrap]
      refine seg_wrap (wpAny_mono h3 (fun y s4 h4 => ?_) fun _ _ z => z.elim)
      refine seg_at (seg_yield rfl rfl rfl ⟨k, h4, fun s' hs => ?_⟩)
      obtain ⟨k', hk', hJ'⟩ := back k y s4 s' h4 hs
      exact seg_again rfl (ih k' s' s' (by omega) hJ')
end
end GXX
namespace GXX
open PySem PySem.Spec PyProof.Rows L2 GenW
section
variable {prog : Program} {w : World} {A : Around}
/-- .. from its start -/
theorem seg_startJ {elt iter tg : Expr} {scope : Scope} {pos : Pos} {it : Addr} {cenv : Env} {R : GenEnd} {Y : Protocol} {n : Nat} {s₀ s : Shared}
    (self : ∀ (A' : Around) (Q : Value → Shared → Prop) (E : Value → Shared → Prop), Q (.ref it) s → wpAny (model prog w) A' (pyIter (.ref it)) Q E s)
    (loop : Seg (model prog w) A R Y n s₀ (.compLoop (.GeneratorExp elt [⟨tg, iter, [], 0⟩] scope pos) 0 (.ref it) .none cenv) ((model prog w).den (.compLoop (.GeneratorExp elt [⟨tg, iter, [], 0⟩] scope pos) 0 (.ref it) .none cenv)) [] s) :
    Seg (model prog w) A R Y n s₀ (.compStart (.GeneratorExp elt [⟨tg, iter, [], 0⟩] scope pos) 0 (.ref it) .none cenv) ((model prog w).den (.compStart (.GeneratorExp elt [⟨tg, iter, [], 0⟩] scope pos) 0 (.ref it) .none cenv)) [] s := by
  show Seg _ A _ _ _ s₀ _ ((compStart (.GeneratorExp elt [⟨tg, iter, [], 0⟩] scope pos) 0 (.ref it) .none cenv).onRaise (leaving cenv)) [] s
  unfold compStart
  rw [Sem.onRaise_eq_wrap]
  show Seg _ A _ _ _ s₀ _ ((ask >>= _).wrap _ _ _ _) [] s
  refine seg_bind_wrap (wpAny_askSetting ?_)
  split
  · exact seg_again rfl loop
  · refine seg_bind_wrap (wpAny_rule ?_)
    show Seg _ A _ _ _ s₀ _ ((standAt iter.pos >>= _).wrap _ _ _ _) [] s
    exact seg_bind_wrap (wpAny_standAt (seg_bind_wrap (self _ _ _ (seg_again rfl loop))))
/-! ### all(g), any(g) -/
/-- a generator that sleeps: whoever wakes it goes on by R, Y -/
def Asleep (prog : Program) (w : World) (A : Around) (a : Addr) (g : Nat) (R : GenEnd) (Y : Protocol) (n : Nat) (s : Shared) : Prop :=
  s.heap.IsGen a g ∧ s.heap.NoLimit ∧ ∃ gs, s.gens[g]? = some gs ∧ gs.Goes (model prog w) A R Y n (.send .none) (s.setGen g .running)
/-- while it slept nothing went on -/
structure Still (s s' : Shared) : Prop where
  os : s'.os = s.os
  bare : AllBare s'.gens
  heap : s'.heap = s.heap
abbrev RJ (Fn : Shared → Prop) : GenEnd := fun _ _ r s1 => r = .ok .next ∧ Fn s1
/-- the consumer goes on behind the truth that is not brk -/
def On (brk : Bool) (v : Value) (s s' : Shared) : Prop := v = .bool (!brk) ∧ Still s s'
abbrev YJ (brk : Bool) (Yd : Nat → Value → Shared → Prop) : Protocol := fun _ _ v s kap => ∃ k, Yd k v s ∧ ∀ s', On brk v s s' → kap (.send .none) s'
/-- an item: a truth, the generator as it was -/
def Item (a : Addr) (g : Nat) (Yd : Nat → Value → Shared → Prop) : Prop := ∀ k v s, Yd k v s → (∃ b, v = .bool b) ∧ AllBare s.gens ∧ s.heap.NoLimit ∧ s.heap.IsGen a g
theorem all_loopJ {a : Addr} {g : Nat} {Fn : Shared → Prop} {Yd : Nat → Value → Shared → Prop} {Rr : Result → Shared → Prop} (hh : A.handled = none) (hd : A.depth < recursionLimit) (hi : Item a g Yd)
    (hfin : ∀ s' h', Fn s' → (∀ b o, s'.heap.get? b = some o → h'.get? b = some o) → Rr (.ok (.ret (.bool true))) { s'.setGen g .finished with heap := h' })
    (hno : ∀ k s' gs', Yd k (.bool false) s' → gs'.bare = true → Rr (.ok (.ret (.bool false))) (s'.setGen g gs')) :
    ∀ (n : Nat) (s : Shared), Asleep prog w A.in1.in1 a g (RJ Fn) (YJ false Yd) n s → codeAny (model prog w) A (.builtin "all.loop" ⟨[.ref a], []⟩) Rr s := by
  intro n
  induction n with
  | zero =>
    intro s ⟨hg, hl, gs, hgs, hgo⟩
    refine codeAny_builtin F.entry_all_loop ?_
    rw [Around.under_plainId F.plain_all_loop _]
    show wpAny _ A.in1 (pyNext (.ref a) >>= _) _ _ s
    refine wpAny_bind (wpAny_pyNext_genexpQ (A := A.in1) (P := fun _ _ s1 => Fn s1) hh hl hd hg hgs hgo (fun v s1 gs' hb hv => ?_) fun s1 hp h' hk => ?_)
    · obtain ⟨k, hY, hk⟩ := hv
      obtain ⟨⟨b, rfl⟩, hba, _, _⟩ := hi k v s1 hY
      cases b with
      | true => exact (hk s1 ⟨rfl, rfl, hba, rfl⟩).elim
      | false =>
        refine wpAny_bind (wpAny_holding (wpAny_truthy_bool ?_))
        refine wpAny_bind (wpAny_letGo ?_)
        simp only [Bool.false_eq_true, if_false]
        first
          | exact wpAny_pure (hno k s1 gs' hY hb)
          | exact wpAny_bind (wpAny_rule (wpAny_pure (hno k s1 gs' hY hb)))
    · exact wpAny_bind (wpAny_rule (wpAny_pure (hfin _ _ hp hk)))
  | succ n ih =>
    intro s ⟨hg, hl, gs, hgs, hgo⟩
    have hgl : g < s.gens.size := (Array.getElem?_eq_some_iff.mp hgs).1
    refine codeAny_builtin F.entry_all_loop ?_
    rw [Around.under_plainId F.plain_all_loop _]
    show wpAny _ A.in1 (pyNext (.ref a) >>= _) _ _ s
    refine wpAny_bind (wpAny_gsz (n := g + 1) hgl (wpAny_pyNext_genexpQ (A := A.in1) (P := fun _ _ s1 => Fn s1) hh hl hd hg hgs hgo (fun v s1 gs' hb hv => ?_) fun s1 hp h' hk => ?_))
    · intro hsz
      obtain ⟨k, hY, hk⟩ := hv
      obtain ⟨⟨b, rfl⟩, hba, hl1, hg1⟩ := hi k v s1 hY
      have hsz1 : g < s1.gens.size := by
        have q : (s1.setGen g gs').gens.size = s1.gens.size := setGen_size _ _ _
        have hsz' : g + 1 ≤ (s1.setGen g gs').gens.size := hsz
        omega
      refine wpAny_bind (wpAny_holding (wpAny_truthy_bool ?_))
      refine wpAny_bind (wpAny_letGo ?_)
      cases b with
      | true =>
        simp only [if_true]
        refine wpAny_pure ⟨plainId_quiet F.plain_all_loop _, ih _ ⟨hg1, hl1, gs', setGen_at hsz1, ?_⟩⟩
        exact hk _ ⟨rfl, rfl, allBare_setGen (s := s1.setGen g gs') (allBare_setGen hba hb) rfl, rfl⟩
      | false =>
        simp only [Bool.false_eq_true, if_false]
        first
          | exact wpAny_pure (hno k s1 gs' hY hb)
          | exact wpAny_bind (wpAny_rule (wpAny_pure (hno k s1 gs' hY hb)))
    · intro _
      exact wpAny_bind (wpAny_rule (wpAny_pure (hfin _ _ hp hk)))
theorem any_loopJ {a : Addr} {g : Nat} {Fn : Shared → Prop} {Yd : Nat → Value → Shared → Prop} {Rr : Result → Shared → Prop} (hh : A.handled = none) (hd : A.depth < recursionLimit) (hi : Item a g Yd)
    (hfin : ∀ s' h', Fn s' → (∀ b o, s'.heap.get? b = some o → h'.get? b = some o) → Rr (.ok (.ret (.bool false))) { s'.setGen g .finished with heap := h' })
    (hno : ∀ k s' gs', Yd k (.bool true) s' → gs'.bare = true → Rr (.ok (.ret (.bool true))) (s'.setGen g gs')) :
    ∀ (n : Nat) (s : Shared), Asleep prog w A.in1.in1 a g (RJ Fn) (YJ true Yd) n s → codeAny (model prog w) A (.builtin "any.loop" ⟨[.ref a], []⟩) Rr s := by
  intro n
  induction n with
  | zero =>
    intro s ⟨hg, hl, gs, hgs, hgo⟩
    refine codeAny_builtin F.entry_any_loop ?_
    rw [Around.under_plainId F.plain_any_loop _]
    show wpAny _ A.in1 (pyNext (.ref a) >>= _) _ _ s
    refine wpAny_bind (wpAny_pyNext_genexpQ (A := A.in1) (P := fun _ _ s1 => Fn s1) hh hl hd hg hgs hgo (fun v s1 gs' hb hv => ?_) fun s1 hp h' hk => ?_)
    · obtain ⟨k, hY, hk⟩ := hv
      obtain ⟨⟨b, rfl⟩, hba, _, _⟩ := hi k v s1 hY
      cases b with
      | false => exact (hk s1 ⟨rfl, rfl, hba, rfl⟩).elim
      | true =>
        refine wpAny_bind (wpAny_holding (wpAny_truthy_bool ?_))
        refine wpAny_bind (wpAny_letGo ?_)
        simp only [if_true]
        first
          | exact wpAny_pure (hno k s1 gs' hY hb)
          | exact wpAny_bind (wpAny_rule (wpAny_pure (hno k s1 gs' hY hb)))
    · exact wpAny_bind (wpAny_rule (wpAny_pure (hfin _ _ hp hk)))
  | succ n ih =>
    intro s ⟨hg, hl, gs, hgs, hgo⟩
    have hgl : g < s.gens.size := (Array.getElem?_eq_some_iff.mp hgs).1
    refine codeAny_builtin F.entry_any_loop ?_
    rw [Around.under_plainId F.plain_any_loop _]
    show wpAny _ A.in1 (pyNext (.ref a) >>= _) _ _ s
    refine wpAny_bind (wpAny_gsz (n := g + 1) hgl (wpAny_pyNext_genexpQ (A := A.in1) (P := fun _ _ s1 => Fn s1) hh hl hd hg hgs hgo (fun v s1 gs' hb hv => ?_) fun s1 hp h' hk => ?_))
    · intro hsz
      obtain ⟨k, hY, hk⟩ := hv
      obtain ⟨⟨b, rfl⟩, hba, hl1, hg1⟩ := hi k v s1 hY
      have hsz1 : g < s1.gens.size := by
        have q : (s1.setGen g gs').gens.size = s1.gens.size := setGen_size _ _ _
        have hsz' : g + 1 ≤ (s1.setGen g gs').gens.size := hsz
        omega
      refine wpAny_bind (wpAny_holding (wpAny_truthy_bool ?_))
      refine wpAny_bind (wpAny_letGo ?_)
      cases b with
      | false =>
        simp only [Bool.false_eq_true, if_false]
        refine wpAny_pure ⟨plainId_quiet F.plain_any_loop _, ih _ ⟨hg1, hl1, gs', setGen_at hsz1, ?_⟩⟩
        exact hk _ ⟨rfl, rfl, allBare_setGen (s := s1.setGen g gs') (allBare_setGen hba hb) rfl, rfl⟩
      | true =>
        simp only [if_true]
        first
          | exact wpAny_pure (hno k s1 gs' hY hb)
          | exact wpAny_bind (wpAny_rule (wpAny_pure (hno k s1 gs' hY hb)))
    · intro _
      exact wpAny_bind (wpAny_rule (wpAny_pure (hfin _ _ hp hk)))
end
end GXX
namespace GXX
open PySem PySem.Spec PyProof.Rows L2 GenW
/-- the context of a generator expression's frame, woken by a built-in's loop -/
abbrev genCx (X : Cx) (s : Shared) (H : Hp) (scope : Scope) (cl : List (Str × Addr)) (C : Addr) (code : Value) (c : Env → Code) (fp : List Addr) : Cx :=
  { X with s_0 := s, H_0 := H, env := genEnv scope cl C code builtinsNs X.env, outer := X.stack, stack := genEnv scope cl C code builtinsNs X.env :: X.stack,
           A := X.A.in1.in1.over (c (genEnv scope cl C code builtinsNs X.env)) [], ex := fp, fn := fun _ => false, pn := [], xe := fun _ _ => False }
section
variable {X : Cx} {pins : List (Addr × Obj)} {σ : L2.St} {H : Hp} {s s5 : Shared}
theorem gen_start {scope : Scope} {own : List (Str × Nat)} {fp : List Addr} {code : Value} {c : Env → Code} {a : Addr} {go : Obj} {m : Str → Option Value}
    (I : Inv X pins σ H s) (ok : BlkOk X.N X.env.scope scope own) (noc : ∀ y ∈ scope.names, y.2 ≠ .cell) (hN : X.N.Nodup) (hfp : ∀ b ∈ fp, FpOk X pins H b ∧ b < s.heap.objs.size)
    (hc : ∀ e, (c e).envs = [e]) (kp : ∀ b o, s.heap.get? b = some o → s5.heap.get? b = some o) (hos : s5.os = s.os) (hba : AllBare s5.gens) (hm : s5.heap.Ns s.heap.objs.size m)
    (hga : s5.heap.get? a = some go) (hgd : ∀ v, go.data ≠ .cell v) (ha : s.heap.objs.size < a) :
    Inv (genCx X s H scope (cloFrom X.env.cells scope.names []) s.heap.objs.size code c fp) [(a, go)] (wipe σ (own.map (·.2))) H s5 := by
  have hfree : ∀ y ∈ scope.names, y.2 = .free → ∃ c, X.env.cells.lookup y.1 = some c := fun y hy e => (ok.free y hy e).elim (fun k => I.ok.has _ (.inl k)) fun k => I.ok.has _ (.inr k)
  have cm : ∀ {y b}, (y, b) ∈ cloFrom X.env.cells scope.names [] → X.env.cells.lookup y = some b := fun {y b} hm => by
    rcases cloFrom_mem hm with hm | ⟨h1, rfl⟩
    · cases hm
    · obtain ⟨c, hc⟩ := hfree _ h1 rfl
      rw [hc]
      rfl
  have cl : ∀ {y b}, (cloFrom X.env.cells scope.names []).lookup y = some b → X.env.cells.lookup y = some b := fun e => cm (PySem.mem_of_lookup e)
  have look : ∀ {y}, scope.names.lookup y = some .free → ∃ b, (cloFrom X.env.cells scope.names []).lookup y = some b ∧ X.env.cells.lookup y = some b := fun {y} hl => by
    obtain ⟨b, e⟩ := mem_lookup (cloFrom_has (cells := X.env.cells) (acc := []) (PySem.mem_of_lookup hl))
    exact ⟨b, e, cl e⟩
  have nocell : ∀ {y}, scope.names.lookup y = some .cell → False := fun {y} e => noc _ (PySem.mem_of_lookup e) rfl
  have hX : (genCx X s H scope (cloFrom X.env.cells scope.names []) s.heap.objs.size code c fp).Ok :=
    { mod := I.ok.mod, kind := ok.kind, glob := I.ok.glob, blt := rfl, above := Nat.le_refl _,
      inj := fun y z b e1 e2 => I.ok.inj y z b (cl e1) (cl e2),
      has := fun y hy => by
        rcases hy with hy | hy
        · exact (nocell hy).elim
        · obtain ⟨b, e, _⟩ := look hy
          exact ⟨b, e⟩
      cab := fun y b z _ => nomatch z
      hd := I.ok.hd
      frames := by
        show pushEnvs (c _).envs (pushEnvs (envsOf []) X.A.frames) = _
        rw [hc, I.ok.frames]
        rfl
      stk := .inr ⟨rfl, rfl⟩
      exf := fun b hb => ⟨Nat.ne_of_lt (hfp b hb).2, fun y e h z => (hfp b hb).1.2.2.2.2.1 y e (cl h) z⟩
      bs := I.bs
      bsz := Nat.le_trans I.ok.bsz I.sz
      noex := fun b o e hb => (hfp b hb).1.2.2.2.1.elim (fun z => I.ok.noex b o e z) fun z => absurd (Nat.lt_of_lt_of_le (Heap.lt_size e) (Nat.le_trans I.ok.bsz z)) (Nat.lt_irrefl _)
      exfs := fun b hb z => (List.mem_cons.mp (I.stkSub b z)).elim (fun z => (hfp b hb).1.2.1 z) fun z => (hfp b hb).1.2.2.1 z
      funs := I.stack
      frf := I.stkFree }
  refine ⟨hX, hos, hba, Un.kept kp, ⟨m, hm, fun i y v e1 e2 e3 => ?_⟩, fun y b e => ?_, I.hok.fresh (Nat.le_refl _), fun y b e => I.freeC y b (cl e), fun p hp => ?_, I.hok.kept kp, by rw [wipe_length]; exact I.len⟩
  · obtain ⟨e2, hne⟩ := wipe_some e2
    have no : ∀ k, scope.names.lookup y = some k → k = .local ∨ k = .cell → False := fun k e hk => by
      rcases ok.own _ (PySem.mem_of_lookup e) hk with e' | e'
      · obtain ⟨p, hp, hpy⟩ := List.mem_map.mp e'
        have e4 := ok.ix p hp
        have hpy : p.1 = y := hpy
        rw [hpy] at e4
        exact hne (List.mem_map.mpr ⟨p, hp, nodup_ix hN e4 e1⟩)
      · exact e' (List.mem_of_getElem? e1)
    have fr : scope.names.lookup y = some .free := by
      rcases e3 with e3 | e3 | e3
      · exact (no _ e3 (.inl rfl)).elim
      · exact (no _ e3 (.inr rfl)).elim
      · exact e3
    obtain ⟨b, h1, h2⟩ := look fr
    obtain ⟨m', _, hl⟩ := I.loc
    have hv := ok.free _ (PySem.mem_of_lookup fr) rfl
    obtain ⟨u, r, q⟩ := hl i y v e1 e2 (hv.elim (fun k => .inr (.inl k)) fun k => .inr (.inr k))
    refine ⟨u, r, .inr ⟨.inr fr, b, h1, ?_⟩⟩
    rcases q with ⟨k, _⟩ | ⟨_, b', e', z⟩
    · have k : X.env.scope.names.lookup y = some .local := k
      rcases hv with k' | k' <;> (rw [k'] at k; cases k)
    · rw [h2] at e'
      cases e'
      exact z.keeps kp
  · obtain ⟨v, z⟩ := I.cell y b (cl e)
    exact ⟨v, z.keeps kp⟩
  · have hp : p ∈ ([] : List (Addr × Obj)) ++ [(a, go)] := hp
    rw [List.nil_append, List.mem_singleton] at hp
    subst hp
    refine ⟨hga, I.hok.fresh (Nat.le_of_lt ha), Nat.ne_of_gt ha, fun hb => ?_, hgd⟩
    rcases List.mem_cons.mp (I.stkSub a hb) with z | z
    · exact absurd (Nat.lt_trans (by rw [z]; exact I.lt) ha) (Nat.lt_irrefl _)
    · exact I.nofs (Nat.le_of_lt ha) z
/-- nothing went on -/
theorem inv_still {s' : Shared} (I : Inv X pins σ H s) (st : Still s s') : Inv X pins σ H s' := by
  obtain ⟨h', g', d', t', o'⟩ := s'
  obtain ⟨e1, e2, e3⟩ := st
  have e1 : o' = s.os := e1
  have e3 : h' = s.heap := e3
  subst e1 e3
  exact I.step (g' := g') (d' := d') (t' := t') (h' := s.heap) (ch := []) (fun b hb => absurd hb (by simp)) (fun b o _ _ _ e _ => e) (fun b o _ _ _ e _ => ⟨o.slots, e⟩) (fun b o _ _ n => n) (fun b o _ e => ⟨o, e⟩)
    (fun _ _ e => e) (fun _ _ _ e => e) (fun b ps e => ⟨#[], by rw [e]; simp⟩) (fun m hm => hm) I.hok e2
end
end GXX
namespace GXX
open PySem PySem.Spec PyProof.Rows L2 GenW GxR
/-- what all(..) (brk = false), any(..) (brk = true) of a generator expression ask: the walked thing, a word over (turn, turns left, heap), one turn: the target, the element, a truth -/
def tGen (P : Addr) (wi : TI) (g : TG) (te : TE) (vs : List Nat) (brk : Bool) : TE := fun σ H Q => wi σ H fun J H1 => TabG H1 P ∧ ∀ H2, Tabbed P H1 H2 → ∃ W : Nat → Nat → Hp → Prop, (∃ m, W 0 m H2) ∧ ∀ i m H, W i m H →
  (J.stop i H ∧ Q (.bl (!brk)) H) ∨ (J.go i H ∧ ∃ Nx : Hp → Prop, (∀ H', Nx H' → ∃ m', m' < m ∧ W (i + 1) m' H') ∧ ∀ x H', J.yld i H x H' → g x (wipe σ vs) H' fun σ2 H2 => wipe σ2 vs = wipe σ vs ∧
    te σ2 H2 fun y H3 => ∃ b, y = .bl b ∧ (b ≠ brk → Nx H3) ∧ (b = brk → Q (.bl brk) H3))
/-- the code that a generator expression runs -/
abbrev genCode (elt tg iter : Expr) (scope : Scope) (pos : Pos) (it : Addr) : Env → Code := fun e => .compLoop (.GeneratorExp elt [⟨tg, iter, [], 0⟩] scope pos) 0 (.ref it) .none e
theorem room_gen {X : Cx} {k : Nat} {s : Shared} {H : Hp} {scope sc2 : Scope} {cl : List (Str × Addr)} {C it : Addr} {code : Value} {fp : List Addr} {elt tg iter : Expr} {pos : Pos} (hr : Room (k + 1) X.A) : Room k (genCx X s H scope cl C code (genCode elt tg iter sc2 pos it) fp).A := by
  refine ⟨hr.hd, ?_, ?_⟩
  · have := hr.dp
    show X.A.depth + 0 + 1 + 3 * k + 5 < _
    omega
  · have := hr.un
    show X.A.units + 1 + 1 + 0 + 3 + 16 * k + 200 < _
    omega
section
variable {X : Cx} {pins : List (Addr × Obj)} {σ : L2.St} {H : Hp} {s : Shared}
theorem gen_made {c0 P : Addr} {elt iter tg : Expr} {scope : Scope} {gpos : Pos} {own : List (Str × Nat)} {wi : TI} {g : TG} {te : TE} {brk : Bool} {Q : VK} {Q' : Value → Shared → Prop}
    (hcalm : X.calm = true) (hhd : X.A.handled = none) (hdp : X.A.depth < recursionLimit) (TB : TabB X.base X.mg c0 P) (hcode : X.env.code = .ref c0) (hi : PI X tg iter wi) (ok : BlkOk X.N X.env.scope scope own) (noc : ∀ y ∈ scope.names, y.2 ≠ .cell)
    (hN : X.N.Nodup) (hdot : scope.names.lookup (".0" : Str) = some NameKind.local) (hco : scope.isCoroutine = false)
    (hg : ∀ (s : Shared) (H : Hp) (cl : List (Str × Addr)) (C : Addr) (code : Value) (it : Addr) (fp : List Addr), PG (genCx X s H scope cl C code (genCode elt tg iter scope gpos it) fp) tg g)
    (he : ∀ (s : Shared) (H : Hp) (cl : List (Str × Addr)) (C : Addr) (code : Value) (it : Addr) (fp : List Addr), PE (genCx X s H scope cl C code (genCode elt tg iter scope gpos it) fp) elt te)
    (hs : ∀ v, genFold iter X.env v = pure v) (I : Inv X pins σ H s) (h : tGen P wi g te (own.map (·.2)) brk σ H Q)
    (hQ : ∀ (a : Addr) (g0 n : Nat) (s5 : Shared) (Fn : Shared → Prop) (Yd : Nat → Value → Shared → Prop), Item a g0 Yd →
      (∀ s' h', Fn s' → (∀ b o, s'.heap.get? b = some o → h'.get? b = some o) → EP X pins σ Q (.bool (!brk)) { s'.setGen g0 .finished with heap := h' }) →
      (∀ k s' gs', Yd k (.bool brk) s' → gs'.bare = true → EP X pins σ Q (.bool brk) (s'.setGen g0 gs')) →
      Asleep X.prog X.w X.A.in1.in1 a g0 (RJ Fn) (YJ brk Yd) n s5 → Q' (.ref a) s5) :
    wpAny (model X.prog X.w) X.A (eval (.GeneratorExp elt [⟨tg, iter, [], 0⟩] scope gpos) X.env) Q' X.xe s := by
  have hfree : ∀ y ∈ scope.names, y.2 = .free → ∃ c, X.env.cells.lookup y.1 = some c := fun y hy e => (ok.free y hy e).elim (fun k => I.ok.has _ (.inl k)) fun k => I.ok.has _ (.inr k)
  refine wpAny_GeneratorExp_make hco (closure_ok hfree) noc hdot ok.kind hdp ?_ hs
  refine thn (hi.run pins s σ H _ I h) fun xv s1 h1 => thn h1 fun itv s2 h2 => ?_
  obtain ⟨it, fp, tn, J, H2, e, I2, T, st2, f2, ⟨ps, hP, ht⟩, q⟩ := h2
  subst e
  refine ⟨I2.nolimit, ?_⟩
  have hPs : s2.heap.get? P = some { cls := .none, data := .fields ps } := I2.hok P _ hP
  have cd : PySem.W.CodeHd s2.heap c0 P := TB.code.keeps fun b u e => I2.bk b u e
  have fpP : ∀ b ∈ fp, b ≠ P := fun b hb z => by
    have := (f2 b hb).1
    rw [z, hP] at this
    cases this
  -- behind the code's making
  have cont : ∀ (code : Value) (s3 : Shared) (H3 : Hp), Inv X pins σ H3 s3 → Tabbed P H2 H3 → (∀ b o, b ≠ P → s2.heap.get? b = some o → s3.heap.get? b = some o) →
      wpAny (model X.prog X.w) X.A (builtinsFor X.env.globals X.env.builtins) (fun bi s4 => ∀ h', h'.Ns s4.heap.objs.size (fun y => if y = ".0" then some (Value.ref it) else none) → Heap.SameBut s4.heap.objs.size (s4.heap.push { cls := .type "frame", data := .dict #[] }) h' →
          Q' (.ref h'.objs.size) { s4 with
            gens := s4.gens.push (.fresh (.compStart (.GeneratorExp elt [⟨tg, iter, [], 0⟩] scope gpos) 0 (.ref it) .none (genEnv scope (cloFrom X.env.cells scope.names []) s4.heap.objs.size code bi X.env))),
            toks := s4.toks + 1 + 1 + 1,
            heap := h'.push { cls := .type "generator", data := .fields #[.int s4.gens.size 0, .str "<genexpr>" (s4.toks + 1), .str (X.env.qual ++ "<genexpr>") (s4.toks + 1 + 1)] } }) X.xe s3 := by
    intro code s3 H3 I3 htab k23
    obtain ⟨bm, ob, e1, e2, e3, e4, e5, e6, e7, e8⟩ := TB.bm
    refine wpAny_builtinsFor (m := X.mg) (by rw [I3.ok.glob]; exact I3.mod.glob.keeps I3.bk) e1 e2 (I3.bk _ _ e5) e6 e7 e8 ?_
    intro h' hns hsb
    obtain ⟨W, ⟨m0, w0⟩, turn⟩ := q H3 htab
    generalize hgo : ({ cls := .type "generator", data := .fields #[.int s3.gens.size 0, .str "<genexpr>" (s3.toks + 1), .str (X.env.qual ++ "<genexpr>") (s3.toks + 1 + 1)] } : Obj) = go
    generalize hs5 : ({ s3 with gens := s3.gens.push (.fresh (.compStart (.GeneratorExp elt [⟨tg, iter, [], 0⟩] scope gpos) 0 (.ref it) .none (genEnv scope (cloFrom X.env.cells scope.names []) s3.heap.objs.size code builtinsNs X.env))), toks := s3.toks + 1 + 1 + 1, heap := h'.push go } : Shared) = s5
    have h5 : s5.heap = h'.push go := by rw [← hs5]
    have g5 : s5.gens = s3.gens.push (.fresh (.compStart (.GeneratorExp elt [⟨tg, iter, [], 0⟩] scope gpos) 0 (.ref it) .none (genEnv scope (cloFrom X.env.cells scope.names []) s3.heap.objs.size code builtinsNs X.env))) := by rw [← hs5]
    have o5 : s5.os = s3.os := by rw [← hs5]
    have sz' : h'.objs.size = s3.heap.objs.size + 1 := by rw [hsb.1, Heap.size_push]
    have k3' : ∀ b o, s3.heap.get? b = some o → h'.get? b = some o := fun b o e => (hsb.2 b (Nat.ne_of_lt (Heap.lt_size e))).trans (Heap.get?_push_of_some _ e)
    have k35 : ∀ b o, s3.heap.get? b = some o → s5.heap.get? b = some o := fun b o e => by rw [h5]; exact Heap.get?_push_of_some _ (k3' b o e)
    have ga : s5.heap.get? h'.objs.size = some go := by
      rw [h5, ← hgo]
      exact Heap.get?_push_size _ rfl
    have gd : ∀ v, go.data ≠ .cell v := fun v z => by
      rw [← hgo] at z
      cases z
    have isg : ∀ {h6 : Heap}, h6.get? h'.objs.size = some go → h6.IsGen h'.objs.size s3.gens.size := fun e => ⟨go, _, _, e, by rw [← hgo], by rw [← hgo], by rw [← hgo]⟩
    have f3 : ∀ b ∈ fp, FpOk X pins H3 b ∧ b < s3.heap.objs.size := fun b hb => by
      obtain ⟨o, e, _⟩ := T.obj _ _ st2 b hb
      refine ⟨⟨?_, (f2 b hb).2⟩, Heap.lt_size (k23 b o (fpP b hb) e)⟩
      rw [htab.2 b (fpP b hb)]
      exact (f2 b hb).1
    have st5 : tn 0 s5.heap := T.keep _ _ _ st2 fun b hb o e => k35 b o (k23 b o (fpP b hb) e)
    have b5 : AllBare s5.gens := by
      rw [g5]
      exact I3.bare.push rfl
    have ns5 : s5.heap.Ns s3.heap.objs.size (fun y => if y = ".0" then some (Value.ref it) else none) := by
      rw [h5]
      exact hns.push _
    have I5 := gen_start (code := code) (c := genCode elt tg iter scope gpos it) I3 ok noc hN f3 (fun _ => rfl) k35 o5 b5 ns5 ga gd (by rw [sz']; exact Nat.lt_succ_self _)
    generalize hXg : genCx X s3 H3 scope (cloFrom X.env.cells scope.names []) s3.heap.objs.size code (genCode elt tg iter scope gpos it) fp = Xg at I5
    have pg : PG Xg tg g := by rw [← hXg]; exact hg _ _ _ _ _ _ _
    have pe : PE Xg elt te := by rw [← hXg]; exact he _ _ _ _ _ _ _
    have xP : Xg.prog = X.prog := by rw [← hXg]
    have xw : Xg.w = X.w := by rw [← hXg]
    have xK : Xg.K = X.K := by rw [← hXg]
    have xc : Xg.calm = true := by rw [← hXg]; exact hcalm
    have xA : Xg.A = X.A.in1.in1.over (.compLoop (.GeneratorExp elt [⟨tg, iter, [], 0⟩] scope gpos) 0 (.ref it) .none (genEnv scope (cloFrom X.env.cells scope.names []) s3.heap.objs.size code builtinsNs X.env)) [] := by rw [← hXg]
    have xE : Xg.env = genEnv scope (cloFrom X.env.cells scope.names []) s3.heap.objs.size code builtinsNs X.env := by rw [← hXg]
    have xe : Xg.xe = fun _ _ => False := by rw [← hXg]
    have xn : Xg.pn = [] := by rw [← hXg]
    have xex : Xg.ex = fp := by rw [← hXg]
    have fp5 : ∀ b ∈ fp, b ≠ h'.objs.size := fun b hb z => by
      have := (f3 b hb).2
      rw [z, sz'] at this
      exact absurd this (Nat.not_lt.mpr (Nat.le_succ _))
    have stat : ∀ {σ' : L2.St} {H' : Hp} {s' : Shared}, Inv Xg [(h'.objs.size, go)] σ' H' s' → (∀ b ∈ fp, H' b = none) → ∀ b ∈ fp, FpOk Xg [(h'.objs.size, go)] H' b := fun {σ' H' s'} I' hn b hb =>
      ⟨hn b hb, (I'.ok.exf b (by rw [xex]; exact hb)).1, I'.ok.exfs b (by rw [xex]; exact hb), .inl (by rw [xex]; exact hb), fun x c e => (I'.ok.exf b (by rw [xex]; exact hb)).2 x c e, fun p hp => by
        rw [xn, List.nil_append, List.mem_singleton] at hp
        rw [hp]
        exact (fp5 b hb).symm⟩
    have atg : ∀ {σ' : L2.St} {H' : Hp} {s' : Shared}, Inv Xg [(h'.objs.size, go)] σ' H' s' → s'.heap.get? h'.objs.size = some go := fun I' => (I'.pin (h'.objs.size, go) (List.mem_append_right _ List.mem_cons_self)).1
    -- back in the def
    have out : ∀ {σ' : L2.St} {H' : Hp} {s' s'' : Shared}, Inv Xg [(h'.objs.size, go)] σ' H' s' → s''.os = s'.os → AllBare s''.gens → (∀ b o, s'.heap.get? b = some o → s''.heap.get? b = some o) → Inv X pins σ H' s'' := fun {σ' H' s' s''} I' ho hb hk => by
      have un := I'.base
      have os' := I'.os
      have ok' := I'.hok
      rw [← hXg] at un os' ok'
      exact I3.call' (ch := fp) (ho.trans os') (un.trans (Un.kept hk)) (ok'.kept hk) hb fun b hb => ⟨(f3 b hb).1.2.2.2.1, (f3 b hb).1.2.1, (f3 b hb).1.2.2.2.2.1, (f3 b hb).1.2.2.2.2.2⟩
    refine hQ h'.objs.size s3.gens.size (m0 + 1) s5 (fun s' => ∃ σ' H', Inv Xg [(h'.objs.size, go)] σ' H' s' ∧ Q (.bl (!brk)) H')
      (fun k v s' => ∃ b σ' H', v = .bool b ∧ Inv Xg [(h'.objs.size, go)] σ' H' s' ∧ (b ≠ brk → ∃ i k', k' < k ∧ Inv Xg [(h'.objs.size, go)] (wipe σ (own.map (·.2))) H' s' ∧ tn i s'.heap ∧ (∀ b ∈ fp, H' b = none) ∧ W i k' H') ∧ (b = brk → Q (.bl brk) H'))
      (fun k v s' hy => ?_) (fun s' h6 hf hk => ?_) (fun k s' gs' hy hb => ?_) ⟨isg ga, I5.nolimit, .fresh (.compStart (.GeneratorExp elt [⟨tg, iter, [], 0⟩] scope gpos) 0 (.ref it) .none (genEnv scope (cloFrom X.env.cells scope.names []) s3.heap.objs.size code builtinsNs X.env)), by rw [g5]; exact Array.getElem?_push_size .., rfl, ?_⟩
    · obtain ⟨b, σ', H', rfl, I', _⟩ := hy
      exact ⟨⟨b, rfl⟩, I'.bare, I'.nolimit, isg (atg I')⟩
    · obtain ⟨σ', H', I', qf⟩ := hf
      exact ⟨.bl (!brk), H', out I' rfl (allBare_setGen I'.bare rfl) hk, rfl, qf⟩
    · obtain ⟨b, σ', H', hv, I', _, qb⟩ := hy
      cases hv
      exact ⟨.bl brk, H', out I' rfl (allBare_setGen I'.bare hb) (fun _ _ e => e), rfl, qb rfl⟩
    · -- the loop
      have run0 : Still s5 (s5.setGen s3.gens.size .running) := ⟨rfl, allBare_setGen b5 rfl, rfl⟩
      refine seg_startJ (fun A' Q E hq => T.self A' 0 _ Q E st5 hq) ?_
      refine seg_loopJ (J := fun k s' => ∃ i H', Inv Xg [(h'.objs.size, go)] (wipe σ (own.map (·.2))) H' s' ∧ tn i s'.heap ∧ (∀ b ∈ fp, H' b = none) ∧ W i k H') (Sl := On brk) hco (fun k s' hJ => ?_) (fun k y s' s'' hy hst => ?_) (m0 + 1) m0 _ _ (Nat.lt_succ_self _)
        ⟨0, H3, inv_still I5 run0, by rw [run0.heap]; exact st5, fun b hb => (f3 b hb).1.1, w0⟩
      · obtain ⟨i, H', I', st', n', w'⟩ := hJ
        have T' : Turn Xg.prog Xg.w Xg.K tg J fp it tn := by
          rw [xP, xw, xK]
          exact T
        rw [← xP, ← xw, ← xA, ← xE]
        rcases turn i k H' w' with ⟨stop, qq⟩ | ⟨go', Nx, hNx, step⟩
        · refine thnF (T'.done Xg rfl rfl rfl xc i _ s' _ H' (fun _ _ => False) I' (stat I' n') st' stop) fun r s6 ⟨hr, I6⟩ => ?_
          subst hr
          exact ⟨_, H', I6, qq⟩
        · refine thnF (T'.item Xg rfl rfl rfl xc i _ s' _ H' (fun _ _ => False) I' (stat I' n') st' go') fun r s6 ⟨u, hr, h6⟩ => ?_
          subst hr
          refine thnF h6 fun _ s7 ⟨x, H7, I7, r7, y7, st7, n7⟩ => ?_
          have I7' := I7.pinned (stat I7 n7) (T.obj _ _ st7)
          refine wpAny_mono (pg.run _ s7 _ H7 x u _ I7' r7 (step x H7 y7)) (fun _ s8 ⟨σ8, H8, I8, hw8, q8⟩ => ?_) fun _ _ z => by rw [xe] at z; exact z
          refine wpAny_mono (pe.run _ s8 σ8 H8 _ I8 q8) (fun z s9 ⟨yv, H9, I9, r9, b, hb, q1, q2⟩ => ?_) fun _ _ z => by rw [xe] at z; exact z
          subst hb
          have ez : z = Value.bool b := r9
          refine ⟨b, σ8, H9, ez, I9.unpinned, fun hne => ?_, q2⟩
          obtain ⟨m', hm, w9⟩ := hNx H9 (q1 hne)
          have pin9 : ∀ b ∈ fp, ∀ o, s7.heap.get? b = some o → s9.heap.get? b = some o ∧ H9 b = none := fun b hb o e =>
            let z := I9.pin (b, o) (List.mem_append_right _ (List.mem_append_right _ (mem_pinsAt hb e)))
            ⟨z.1, z.2.1⟩
          have hl : (wipe σ (own.map (·.2))).length = σ8.length := by rw [← hw8, wipe_length]
          refine ⟨i + 1, m', hm, (I9.unpinned).weak hl (fun j v e => ?_), T.keep _ _ _ st7 fun b hb o e => (pin9 b hb o e).1, fun b hb => ?_, w9⟩
          · rw [← hw8] at e
            exact (wipe_some e).1
          · obtain ⟨o, e, _⟩ := T.obj _ _ st7 b hb
            exact (pin9 b hb o e).2
      · obtain ⟨b, σ', H', hv, _, q1, _⟩ := hy
        obtain ⟨ev, st⟩ := hst
        rw [hv] at ev
        obtain ⟨i, k', hk, I', t', n', w'⟩ := q1 (fun z => by
          rw [z] at ev
          cases brk <;> cases ev)
        exact ⟨k', hk, i, H', inv_still I' st, by rw [st.heap]; exact t', n', w'⟩
  cases hf : codeAmong gpos ps.toList with
  | none =>
    refine wpAny_genexprCodeX hcode (cd.code hPs ht) (cd.tab hPs) hf fun c' h3 tk hx _ _ hco' _ htab' _ => ?_
    obtain ⟨_, _, _, _, _, _, _, _, _, _, _, _, _, _, _, _, _, _, _, htr, _⟩ := hco'
    have k23 : ∀ b o, b ≠ P → s2.heap.get? b = some o → h3.get? b = some o := fun b o hb e => hx b o hb e
    exact cont _ _ _ (inv_tab (g' := s2.gens) (d' := s2.drawn) (t' := tk) I2 hP k23 htab'.2 I2.bare) ⟨⟨_, upd_same, htr⟩, fun b hb => upd_ne hb⟩ k23
  | some cv =>
    refine wpAny_genexprCode_hit hcode (cd.code hPs ht) hf ?_
    exact cont cv s2 H2 I2 ⟨⟨ps, hP, ht⟩, fun _ _ => rfl⟩ fun _ _ _ e => e
end
end GXX
namespace GXX
open PySem PySem.Spec PyProof.Rows L2 GenW GxR
section
variable {X : Cx} {c0 P : Addr} {elt iter tg : Expr} {scope : Scope} {p gpos pos : Pos} {own : List (Str × Nat)} {wi : TI} {g : TG} {te : TE} {k : Nat}
/-- all(elt for tg in iter) -/
theorem pe_genAll (hcalm : X.calm = true) (hr : Room k X.A) (hgl : Gl X "all") (hm : X.mg "all" = none) (TB : TabB X.base X.mg c0 P) (hcode : X.env.code = .ref c0) (hN : X.N.Nodup) (hi : PI X tg iter wi) (ok : BlkOk X.N X.env.scope scope own)
    (noc : ∀ y ∈ scope.names, y.2 ≠ .cell) (hdot : scope.names.lookup (".0" : Str) = some NameKind.local) (hco : scope.isCoroutine = false)
    (hg : ∀ (s : Shared) (H : Hp) (cl : List (Str × Addr)) (C : Addr) (code : Value) (it : Addr) (fp : List Addr), PG (genCx X s H scope cl C code (genCode elt tg iter scope gpos it) fp) tg g)
    (he : ∀ (s : Shared) (H : Hp) (cl : List (Str × Addr)) (C : Addr) (code : Value) (it : Addr) (fp : List Addr), PE (genCx X s H scope cl C code (genCode elt tg iter scope gpos it) fp) elt te)
    (hs : ∀ v, genFold iter X.env v = pure v := by intro _; rfl)
    (he0 : starEach [.GeneratorExp elt [⟨tg, iter, [], 0⟩] scope gpos] X.env = (false, eval (.GeneratorExp elt [⟨tg, iter, [], 0⟩] scope gpos) X.env) :: starEach [] X.env := by rfl) :
    PE X (.Call (.Name "all" p) [.GeneratorExp elt [⟨tg, iter, [], 0⟩] scope gpos] [] pos) (tGen P wi g te (own.map (·.2)) false) := by
  refine ⟨fun pins s σ H Q I h => ?_⟩
  have hb : bootBuiltins "all" = some (.builtin "all") := by decide +kernel
  have hdp := hr.dp
  refine wpAny_Call_Name_kw (ld_blt I hgl hm hb ?_)
  refine PyProof.Rows.callWith_builtin1 ?_ he0 (by rfl)
  rw [he0]
  show wpAny _ _ (spliced ((false, eval (.GeneratorExp elt [⟨tg, iter, [], 0⟩] scope gpos) X.env) :: backTo pos (starEach [] X.env))) _ _ s
  refine Calls.spliced_cons (gen_made hcalm hr.hd (by omega) TB hcode hi ok noc hN hdot hco hg he hs I h fun a g0 n s5 Fn Yd hit hf hno hsl => ?_)
  refine Calls.spliced_nil ?_
  refine call_function_tree F.kind_all F.plain_all F.entry_all (F.args_all1 _) ?_
  unfold Builtin.«all»
  refine wpAny_bind (m := oneArg "all" _) (wpAny_pure ?_)
  refine wpAny_bind (wpAny_pyIter_gen hsl.1 ?_)
  exact wpAny_pure ⟨plainId_quiet F.plain_all_loop _, all_loopJ hr.hd (by omega) hit hf hno n s5 hsl⟩
/-- any(elt for tg in iter) -/
theorem pe_genAny (hcalm : X.calm = true) (hr : Room k X.A) (hgl : Gl X "any") (hm : X.mg "any" = none) (TB : TabB X.base X.mg c0 P) (hcode : X.env.code = .ref c0) (hN : X.N.Nodup) (hi : PI X tg iter wi) (ok : BlkOk X.N X.env.scope scope own)
    (noc : ∀ y ∈ scope.names, y.2 ≠ .cell) (hdot : scope.names.lookup (".0" : Str) = some NameKind.local) (hco : scope.isCoroutine = false)
    (hg : ∀ (s : Shared) (H : Hp) (cl : List (Str × Addr)) (C : Addr) (code : Value) (it : Addr) (fp : List Addr), PG (genCx X s H scope cl C code (genCode elt tg iter scope gpos it) fp) tg g)
    (he : ∀ (s : Shared) (H : Hp) (cl : List (Str × Addr)) (C : Addr) (code : Value) (it : Addr) (fp : List Addr), PE (genCx X s H scope cl C code (genCode elt tg iter scope gpos it) fp) elt te)
    (hs : ∀ v, genFold iter X.env v = pure v := by intro _; rfl)
    (he0 : starEach [.GeneratorExp elt [⟨tg, iter, [], 0⟩] scope gpos] X.env = (false, eval (.GeneratorExp elt [⟨tg, iter, [], 0⟩] scope gpos) X.env) :: starEach [] X.env := by rfl) :
    PE X (.Call (.Name "any" p) [.GeneratorExp elt [⟨tg, iter, [], 0⟩] scope gpos] [] pos) (tGen P wi g te (own.map (·.2)) true) := by
  refine ⟨fun pins s σ H Q I h => ?_⟩
  have hb : bootBuiltins "any" = some (.builtin "any") := by decide +kernel
  have hdp := hr.dp
  refine wpAny_Call_Name_kw (ld_blt I hgl hm hb ?_)
  refine PyProof.Rows.callWith_builtin1 ?_ he0 (by rfl)
  rw [he0]
  show wpAny _ _ (spliced ((false, eval (.GeneratorExp elt [⟨tg, iter, [], 0⟩] scope gpos) X.env) :: backTo pos (starEach [] X.env))) _ _ s
  refine Calls.spliced_cons (gen_made hcalm hr.hd (by omega) TB hcode hi ok noc hN hdot hco hg he hs I h fun a g0 n s5 Fn Yd hit hf hno hsl => ?_)
  refine Calls.spliced_nil ?_
  refine call_function_tree F.kind_any F.plain_any F.entry_any (F.args_any1 _) ?_
  unfold Builtin.«any»
  refine wpAny_bind (m := oneArg "any" _) (wpAny_pure ?_)
  refine wpAny_bind (wpAny_pyIter_gen hsl.1 ?_)
  exact wpAny_pure ⟨plainId_quiet F.plain_any_loop _, any_loopJ hr.hd (by omega) hit hf hno n s5 hsl⟩
end
end GXX
namespace GXX
open PySem PySem.Spec PyProof.Rows L2 GenW GxR
/-- a def whose code object's place is known -/
structure FunC (K : PySem.W.Frag) (x qual : Str) (st : Stmt) (f : Addr) (fd : FuncData) (c : Addr) : Prop where
  ex : ∃ (oc : Value) (od : Option Addr) (kV doc pm : Value) (an : Option Addr) (ct : Value) (osl : Array (Option Value)),
    fd = PySem.W.fnOf x qual (defArgs st) (defBody st) (defScope st) .none kV doc pm an (.ref c) ct ∧ K.lookup f = some ⟨oc, od, .func fd, osl⟩ ∧ PySem.W.codeIn K (.ref c) qual = true
section
variable {P : Program} {w : World} {K : PySem.W.Frag} {mg : Str → Option Value} {base : Heap}
theorem FunC.ok {x qual : Str} {st : Stmt} {f c : Addr} {fd : FuncData} {N ps : List Str} {k : Nat} {sp : Sp} (F : FunC K x qual st f fd c) (S : FnScope N ps (defScope st)) (len : ∀ vs H Q E, sp vs H Q E → vs.length = ps.length)
    (hbody : ∀ (A : Around) (outer : List Env) (s : Shared) (H : Hp) (vs : List V) (Q : VK) (E : XK), Room k (A.deeper (envOfC qual (defScope st) s.heap.objs.size f (.ref c))) → sp vs H Q E →
      ∃ t, PSs (cxOf CX0 P w K mg base N qual (defScope st) f (.ref c) A outer s H E).nox (defBody st) t ∧ t { nx := fun _ H' => Q .non H', rt := Q } (start N vs) H) : FnOk P w K mg base CX0 (k + 1) f fd ps sp := by
  obtain ⟨oc, od, kV, doc, pm, an, ct, osl, e, lk, hcd⟩ := F.ex
  subst e
  refine fn_of lk hcd S len fun A outer s H vs Q E hr hsp => ?_
  obtain ⟨t, h1, h2⟩ := hbody A outer s H vs Q E hr hsp
  exact ⟨t, h1.nox, h2⟩
end
/-- the defs of the top with their code objects, whose tables are empty -/
def DefTabs (q : Program) (mg : Str → Option Value) (h : Heap) : Prop := ∀ d ∈ PyProof.Rows.recsOf q, ∃ a o fd c P, mg d.name = some (.ref a) ∧ h.get? a = some o ∧ o.data = .func fd ∧ fd.code = .ref c ∧ h.IsCode c P #[] ∧ h.TableAt c P #[]
theorem lookup_mem {α : Type} {a : Nat} {x : α} : ∀ {l : List (Nat × α)}, l.lookup a = some x → (a, x) ∈ l
  | (b, y) :: r, h => by
    rw [List.lookup_cons] at h
    by_cases e : a = b
    · rw [beq_iff_eq.mpr e] at h
      cases h
      rw [e]
      exact List.mem_cons_self
    · rw [beq_eq_false_iff_ne.mpr e] at h
      exact List.mem_cons_of_mem _ (lookup_mem h)
/-- no empty table stands in the written part -/
def noTab (K : PySem.W.Frag) : Bool := K.all fun q => match q.2.data with
  | .fields vs => vs.size != 0
  | _ => true
theorem noTab_lookup {K : PySem.W.Frag} {h : Heap} {P : Addr} (X : K.In h) (n : noTab K = true) (hp : h.get? P = some { cls := .none, data := .fields #[] }) : K.lookup P = none := by
  cases e : K.lookup P with
  | none => rfl
  | some o =>
    have e1 := X P o e
    rw [hp] at e1
    cases e1
    have m : (P, ({ cls := .none, data := .fields #[] } : Obj)) ∈ K := lookup_mem e
    have := List.all_eq_true.mp n _ m
    simp at this
/-- one def's code and table -/
theorem tab_one {q : Program} {K : PySem.W.Frag} {mg : Str → Option Value} {h : Heap} {x : Str} {f : Addr} {o : Obj} {fd : FuncData} (D : DefTabs q mg h) (X : K.In h) (n : noTab K = true) (hrec : ((PyProof.Rows.recsOf q).any fun e => e.name == x) = true) (hm : mg x = some (.ref f))
    (l : K.lookup f = some o) (hd : o.data = .func fd) : ∃ c P, fd.code = .ref c ∧ h.get? P = some { cls := .none, data := .fields #[] } ∧ K.lookup P = none ∧ PySem.W.CodeHd h c P := by
  obtain ⟨d, hd1, hd2⟩ := List.any_eq_true.mp hrec
  have hd2 : d.name = x := beq_iff_eq.mp hd2
  obtain ⟨a, o2, fd2, c, P, h1, h2, h3, h4, h5, h6⟩ := D d hd1
  rw [hd2, hm] at h1
  cases h1
  have h7 := X _ _ l
  rw [h7] at h2
  cases h2
  rw [hd] at h3
  cases h3
  exact ⟨c, P, h4, h6.2, noTab_lookup X n h6.2, PySem.W.CodeHd.of h5 h6⟩
theorem walk_tabs {l : PySem.W.OpenLaw} {n k : Nat} {q : Program} {loose : List Str} {XP : (Str → Option Value) → Heap → Prop} {YP : World → Heap → Prop} {d : DefRec} {K : Params → PySem.W.Frag} {CX : World → CXT} {x : Str}
    (hn : l.most = some n) (hn2 : n ≤ sizeLine) (hdf : d.params.defaults = []) (hr : Room k callerA) (hY : ∀ (w : World) (h : Heap), YP w h → (K w.params).In h)
    (F : ∀ (w : World) (mg : Str → Option Value) (fa : Addr) (h : Heap), YP w h → (K w.params).In h → h.Ns mainGlobals mg → mg d.name = some (.ref fa) → DefTabs q mg h → LamX.LawAtS l w (K w.params) (CX w) k n x mg fa h)
    (hCX : ∀ (w : World) (H : Hp) (s : Shared) (e : Value) (s' : Shared), CX w [] H s (fun _ _ _ => False) e s' → False) :
    PySem.W.WalkO q loose XP YP l.row.toRowW d [] (fun f vs => PySem.call f vs) := by
  refine Att.attach_callB hn hdf fun w s₀ s1 mg mb fa o pm cd doc a vs ns G Y ho hd hcd hmg hobj hints hlen hbits hg => ?_
  obtain ⟨fd, cs, sp, t1, t2, t3, t4, t5, t6⟩ := F w mg fa _ Y (hY w _ Y) G.T.g hmg G.T.tab
  exact LamX.law_callTs (hY w _ Y) G.T.g G.T.b G.T.builtins G.T.nolimit hg t1 t2 t3 G.T.bmain hobj hints (Nat.le_trans hlen hn2) hr t6 t4 (fun H hH hS => t5 H a ns hlen hbits hH hS) fun H e s' => hCX w H s1 e s'
end GXX
/-! ## ranges kept in a name; a datum in a list of data -/
namespace GXX
open PySem PySem.Spec PyProof.Rows L2
section
variable {X : Cx} {tg : Expr}
theorem cr_range1 : CallR X (.type "range") (fun vs H Q => ∃ j, vs = [V.int j] ∧ ∀ p, H p = none → Q (.ref p) (upd H p (.rng 0 j))) := by
  intro pins s σ H vs us Q I r h
  obtain ⟨j, rfl, q⟩ := h
  cases r with
  | cons r rr =>
    cases rr
    obtain ⟨t, rfl⟩ := r
    refine call_range_1 ⟨.ref s.heap.objs.size, upd H s.heap.objs.size (.rng 0 j), I.laid (t' := s.toks + 1 + 1) (fun b o e => Heap.get?_push_of_some _ e) (Nat.le_refl _) ?_, rfl, q _ (I.hok.fresh (Nat.le_refl _))⟩
    exact ⟨_, t, _, Heap.get?_push_size _ rfl⟩
/-- over a range object that stands -/
def iRngV (tl : TE) : TI := fun σ H R => tl σ H fun x H1 => ∃ a lo hi, x = .ref a ∧ H1 a = some (.rng lo hi) ∧ (-(2 ^ 62) ≤ lo ∧ lo < 2 ^ 62 ∧ -(2 ^ 62) ≤ hi ∧ hi < 2 ^ 62) ∧ R (Itr lo (hi - lo).toNat) H1
theorem pi_rngV {l : Expr} {tl : TE} (hl : PE X l tl) : PI X tg l (iRngV tl) := by
  refine ⟨fun pins s σ H R I h => ?_⟩
  refine thn (hl.run pins s σ H _ I h) fun v s1 ⟨x, H1, I1, r1, q1⟩ => ?_
  obtain ⟨a, lo, hi, e, hq, ⟨h1, h2, h3, h4⟩, q⟩ := q1
  subst e
  cases r1
  obtain ⟨t, u, v, ho⟩ := I1.hok a _ hq
  refine wpAny_pyIter_range (show IsRange s1.heap a lo hi 1 t u v from ho) (small_one h1 h2 h3 h4) ?_
  refine ⟨s1.heap.objs.size, [s1.heap.objs.size], _, _, H1, rfl, I1.kept (t' := s1.toks) fun b o e => Heap.get?_push_of_some _ e, turn_range _ lo (hi - lo).toNat, ?_, fun b hb => ?_, q⟩
  · have e1 : lo + ((0 : Nat) : Int) * 1 = lo := by simp
    have e2 : (((hi - lo).toNat : Nat) : Int) - ((0 : Nat) : Int) = Builtin.Range.rangeSize lo hi 1 := by rw [rangeSize_one]; split <;> omega
    show IsRangeIter _ _ (lo + ((0 : Nat) : Int) * 1) ((((hi - lo).toNat : Nat) : Int) - ((0 : Nat) : Int)) 1
    rw [e1, e2]
    exact Heap.get?_push_size _ rfl
  · have e : b = s1.heap.objs.size := by simpa using hb
    subst e
    exact I1.fpOk (Nat.le_refl _) (I1.hok.fresh (Nat.le_refl _))
end
end GXX
/-! ## t[::-1], t a tuple -/
/-! ## min and max of a tuple of integers -/
namespace GXX
open PySem PySem.Spec PyProof.Rows L2
section
variable {X : Cx}
def rMinT (K : PySem.W.Frag) : List V → Hp → VK → Prop := fun vs H Q => ∃ (a : Addr) (n : Int) (ns : List Int), vs = [V.ref a] ∧ SqT K H a ((n :: ns).map V.int) ∧ Q (.int (ns.foldl min n)) H
def rMaxT (K : PySem.W.Frag) : List V → Hp → VK → Prop := fun vs H Q => ∃ (a : Addr) (n : Int) (ns : List Int), vs = [V.ref a] ∧ SqT K H a ((n :: ns).map V.int) ∧ Q (.int (ns.foldl max n)) H
theorem ints_dp {K : PySem.W.Frag} {H : Hp} : ∀ ns : List Int, DpAll K H (ns.map V.int) (ns.map PyData.int)
  | [] => .nil
  | n :: ns => .cons (.int n) (ints_dp ns)
theorem ints_depth : ∀ ns : List Int, PyData.depthAll (ns.map PyData.int) = 0
  | [] => by simp [PyData.depthAll]
  | n :: ns => by
    rw [List.map_cons, PyData.depthAll, ints_depth ns]
    simp [PyData.depth]
theorem ints_alike (ns : List Int) : PySem.W.AlikeAll (ns.map PyData.int) := by
  refine ⟨fun x hx y hy => ?_, fun x hx => ?_⟩
  · obtain ⟨i, _, rfl⟩ := List.mem_map.mp hx
    obtain ⟨j, _, rfl⟩ := List.mem_map.mp hy
    simp [PySem.W.alike]
  · obtain ⟨i, _, rfl⟩ := List.mem_map.mp hx
    exact fun z => nomatch z
theorem cr_minT (hc : X.calm = true) (hu : X.A.units + 2 < cLine) : CallR X (.builtin "min") (rMinT X.K) := by
  intro pins s σ H vs us Q I r h
  obtain ⟨a, n, ns, rfl, hs, q⟩ := h
  obtain ⟨its, rv, ht, hz⟩ := I.tuple hs
  obtain ⟨as, ra⟩ := Dp.readsAll I _ _ _ (ints_dp (n :: ns)) rv
  rw [Vals.ref1 r]
  refine PySem.W.min_tuple_data (I.ok.hd hc) ht ra (ints_alike (n :: ns)) ?_ fun i v h' tk bs hv hr hk => ?_
  · have := ints_depth (n :: ns)
    rw [List.map_cons] at this
    rw [this]
    omega
  · rw [PySem.W.minD_ints] at hr
    cases hr
    exact ⟨.int _, H, I.kept hk, ⟨_, rfl⟩, q⟩
theorem cr_maxT (hc : X.calm = true) (hu : X.A.units + 2 < cLine) : CallR X (.builtin "max") (rMaxT X.K) := by
  intro pins s σ H vs us Q I r h
  obtain ⟨a, n, ns, rfl, hs, q⟩ := h
  obtain ⟨its, rv, ht, hz⟩ := I.tuple hs
  obtain ⟨as, ra⟩ := Dp.readsAll I _ _ _ (ints_dp (n :: ns)) rv
  rw [Vals.ref1 r]
  refine PySem.W.max_tuple_data (I.ok.hd hc) ht ra (ints_alike (n :: ns)) ?_ fun i v h' tk bs hv hr hk => ?_
  · have := ints_depth (n :: ns)
    rw [List.map_cons] at this
    rw [this]
    omega
  · rw [PySem.W.maxD_ints] at hr
    cases hr
    exact ⟨.int _, H, I.kept hk, ⟨_, rfl⟩, q⟩
end
end GXX
/-! ## what the program works with, as plain values: D; how they stand in the heap: R; what a piece of code keeps: Ext -/
namespace Z
open PySem PySem.Spec L2 GxR
open PyProof.Rows hiding St
inductive D where
  | non | bl (b : Bool) | int (i : Int) | str (n : Nat) | tup (l : List D) | lst (l : List D) | cell (n : Nat) | scr (l : List Int) | rng (lo hi : Int) | fn (a : Addr) | dic (l : List (Int × Nat)) | ft (l : List D)
def wds : List String := ["all", "some", "some not", "no", "as many", "fewer", "verb", "self", "one", "both", "mark", "clash", "premise", "pair", "yes", "free",
  "signature", "premises", "sentence", "first", "second", "index", "order", "model", "noun", "groups", "lines", "fact", "claim", "kind", "many", "conflict",
  "numbers", "bad", "fine", "other", "entailed", "refuted", "open", "no model", "every", "most", "any", "none", "x", "0", "1", "3", "", "negation", "not", "form",
  "same", "Assert", "assert", "renamed", "withdraw", "holds", "false", "command", "speaker", "commands", "missing", "All", "21", "True", "journal", "value", "verbs", "nouns"]
def txt (n : Nat) : Str := match wds[n]? with
  | some s => Str.ofString s
  | none => Str.ofString ""
theorem txt_ok_all : (List.range 70).all (fun n => PyData.strOk (txt n)) = true := by decide +kernel
theorem txt_ne_all : (List.range 70).all (fun n => (List.range 70).all fun m => (n == m) || !(decide (txt n = txt m))) = true := by decide +kernel
theorem txt_ok {n : Nat} (h : n < 70) : PyData.strOk (txt n) = true := List.all_eq_true.mp txt_ok_all n (List.mem_range.mpr h)
theorem txt_inj {n m : Nat} (h : n < 70) (h' : m < 70) : txt n = txt m ↔ n = m := by
  refine ⟨fun e => ?_, fun e => by rw [e]⟩
  have := List.all_eq_true.mp (List.all_eq_true.mp txt_ne_all n (List.mem_range.mpr h)) m (List.mem_range.mpr h')
  simp only [e, decide_true, Bool.not_true, Bool.or_false, beq_iff_eq] at this
  exact this
theorem txt_dec {n m : Nat} (h : n < 70) (h' : m < 70) : decide (txt n = txt m) = (n == m) := by
  rw [Bool.eq_iff_iff]
  simp [txt_inj h h']
/-- keys of a dict kept in a name: 0, 1, .. for ints, -1, -2, .. for words -/
def keyI (i : Int) : Key := if i < 0 then Sum.inr (txt (-i - 1).toNat) else Sum.inl i
def DicOk (kvs : List (Key × V)) (l : List (Int × Nat)) : Prop := (∀ q ∈ l, q.2 < 70 ∧ valV kvs (keyI q.1) = some (.str (txt q.2))) ∧ ∀ i : Int, -71 < i → (∀ q ∈ l, q.1 ≠ i) → valV kvs (keyI i) = none
inductive Own where
  | slot (i : Nat) | cell (n : Nat) | far
/-- who may write at an address -/
abbrev MM := Addr → Option Own
/-- a list of the script's -/
def StL (K : PySem.W.Frag) (M : MM) (H : Hp) (a : Addr) (xs : List V) : Prop := (M a = none ∧ Rd H a (.lst xs)) ∨ SqL K (fun _ => none) a xs
/-- a tuple that is read -/
def StT (K : PySem.W.Frag) (M : MM) (H : Hp) (a : Addr) (xs : List V) : Prop := (M a = none ∧ Rd H a (.tup xs)) ∨ SqT K (fun _ => none) a xs
/-- .. of which it is known that it has no dict -/
def FtT (K : PySem.W.Frag) (M : MM) (H : Hp) (a : Addr) (xs : List V) : Prop := (M a = none ∧ ∃ o, H a = some (.frz o (.tup xs)) ∧ o.cls = .type "tuple" ∧ o.dict = none) ∨
  ∃ (o : Obj) (its : Array Value) (n : Nat), K.lookup a = some o ∧ o.cls = .type "tuple" ∧ o.dict = none ∧ o.data = .seq its n ∧ its.size ≤ sizeLine ∧ Vals xs its.toList
mutual
inductive R (K : PySem.W.Frag) (M : MM) (H : Hp) : V → D → Prop
  | non : R K M H .non .non
  | bl (b : Bool) : R K M H (.bl b) (.bl b)
  | int (i : Int) : R K M H (.int i) (.int i)
  | str {n : Nat} : n < 70 → R K M H (.str (txt n)) (.str n)
  | tup {a : Addr} {xs : List V} {ds : List D} : StT K M H a xs → RA K M H xs ds → R K M H (.ref a) (.tup ds)
  | lst {a : Addr} {xs : List V} {ds : List D} : M a = none → H a = some (.lst xs) → RA K M H xs ds → R K M H (.ref a) (.lst ds)
  | cell {a : Addr} {n : Nat} : M a = some (.cell n) → R K M H (.ref a) (.cell n)
  | scr {a : Addr} {l : List Int} : StL K M H a (l.map V.int) → R K M H (.ref a) (.scr l)
  | rng {a : Addr} {lo hi : Int} : M a = none → H a = some (.rng lo hi) → R K M H (.ref a) (.rng lo hi)
  | fn (a : Addr) : R K M H (.ref a) (.fn a)
  | dic {a : Addr} {kvs : List (Key × V)} {l : List (Int × Nat)} : M a = none → H a = some (.dK kvs) → DicOk kvs l → R K M H (.ref a) (.dic l)
  | ft {a : Addr} {xs : List V} {ds : List D} : FtT K M H a xs → RA K M H xs ds → R K M H (.ref a) (.ft ds)
inductive RA (K : PySem.W.Frag) (M : MM) (H : Hp) : List V → List D → Prop
  | nil : RA K M H [] []
  | cons {v : V} {vs : List V} {d : D} {ds : List D} : R K M H v d → RA K M H vs ds → RA K M H (v :: vs) (d :: ds)
end
/-- what data lean on is kept -/
structure Ext0 (M : MM) (H : Hp) (M' : MM) (H' : Hp) : Prop where
  keep : ∀ a o, H a = some o → M a = none → (∀ ps, o ≠ .tbl ps) → H' a = some o ∧ M' a = none
  cell : ∀ a n, M a = some (.cell n) → M' a = some (.cell n)
/-- what a piece of code keeps -/
structure Ext (M : MM) (H : Hp) (M' : MM) (H' : Hp) : Prop extends Ext0 M H M' H' where
  tab : ∀ b, TabG H b → TabG H' b
  far : ∀ a, M a = some .far → M' a = some .far ∧ H' a = H a
  dom : ∀ a o, H a = some o → (∀ ps, o ≠ .tbl ps) → ∃ o', H' a = some o' ∧ ∀ ps, o' ≠ .tbl ps
theorem Ext.refl (M : MM) (H : Hp) : Ext M H M H := ⟨⟨fun _ _ h m _ => ⟨h, m⟩, fun _ _ h => h⟩, fun _ h => h, fun _ h => ⟨h, rfl⟩, fun _ o h n => ⟨o, h, n⟩⟩
theorem Ext0.trans {M M1 M2 : MM} {H H1 H2 : Hp} (a : Ext0 M H M1 H1) (b : Ext0 M1 H1 M2 H2) : Ext0 M H M2 H2 where
  keep := fun c o h m n => let ⟨h1, m1⟩ := a.keep c o h m n; b.keep c o h1 m1 n
  cell := fun c n h => b.cell c n (a.cell c n h)
theorem Ext.trans {M M1 M2 : MM} {H H1 H2 : Hp} (a : Ext M H M1 H1) (b : Ext M1 H1 M2 H2) : Ext M H M2 H2 where
  toExt0 := a.toExt0.trans b.toExt0
  tab := fun c h => b.tab c (a.tab c h)
  far := fun c h => let ⟨m1, e1⟩ := a.far c h; let ⟨m2, e2⟩ := b.far c m1; ⟨m2, e2.trans e1⟩
  dom := fun c o h n => let ⟨o1, h1, n1⟩ := a.dom c o h n; b.dom c o1 h1 n1
section
variable {K : PySem.W.Frag} {M M' : MM} {H H' : Hp}
theorem Ext0.stt (e : Ext0 M H M' H') {a : Addr} {xs : List V} (h : StT K M H a xs) : StT K M' H' a xs := by
  rcases h with ⟨m, h | ⟨o, h⟩⟩ | h
  · obtain ⟨h1, m1⟩ := e.keep a _ h m (fun _ z => nomatch z)
    exact .inl ⟨m1, .inl h1⟩
  · obtain ⟨h1, m1⟩ := e.keep a _ h m (fun _ z => nomatch z)
    exact .inl ⟨m1, .inr ⟨o, h1⟩⟩
  · exact .inr h
theorem Ext0.stl (e : Ext0 M H M' H') {a : Addr} {xs : List V} (h : StL K M H a xs) : StL K M' H' a xs := by
  rcases h with ⟨m, h | ⟨o, h⟩⟩ | h
  · obtain ⟨h1, m1⟩ := e.keep a _ h m (fun _ z => nomatch z)
    exact .inl ⟨m1, .inl h1⟩
  · obtain ⟨h1, m1⟩ := e.keep a _ h m (fun _ z => nomatch z)
    exact .inl ⟨m1, .inr ⟨o, h1⟩⟩
  · exact .inr h
theorem Ext0.ftt (e : Ext0 M H M' H') {a : Addr} {xs : List V} (h : FtT K M H a xs) : FtT K M' H' a xs := by
  rcases h with ⟨m, o, h, c, d⟩ | h
  · obtain ⟨h1, m1⟩ := e.keep a _ h m (fun _ z => nomatch z)
    exact .inl ⟨m1, o, h1, c, d⟩
  · exact .inr h
theorem Ext0.r_ra (e : Ext0 M H M' H') : (∀ v d, R K M H v d → R K M' H' v d) ∧ ∀ vs ds, RA K M H vs ds → RA K M' H' vs ds := by
  refine ⟨fun v d h => ?_, fun vs ds h => ?_⟩
  · exact R.rec (motive_1 := fun v d _ => R K M' H' v d) (motive_2 := fun vs ds _ => RA K M' H' vs ds) .non .bl .int .str (fun s _ ih => .tup (e.stt s) ih)
      (fun m h _ ih => let ⟨h1, m1⟩ := e.keep _ _ h m (fun _ z => nomatch z); .lst m1 h1 ih) (fun m => .cell (e.cell _ _ m))
      (fun h => .scr (e.stl h)) (fun m h => let ⟨h1, m1⟩ := e.keep _ _ h m (fun _ z => nomatch z); .rng m1 h1) .fn (fun m h q => let ⟨h1, m1⟩ := e.keep _ _ h m (fun _ z => nomatch z); .dic m1 h1 q) (fun s _ ih => .ft (e.ftt s) ih) .nil (fun _ _ a b => .cons a b) h
  · exact RA.rec (motive_1 := fun v d _ => R K M' H' v d) (motive_2 := fun vs ds _ => RA K M' H' vs ds) .non .bl .int .str (fun s _ ih => .tup (e.stt s) ih)
      (fun m h _ ih => let ⟨h1, m1⟩ := e.keep _ _ h m (fun _ z => nomatch z); .lst m1 h1 ih) (fun m => .cell (e.cell _ _ m))
      (fun h => .scr (e.stl h)) (fun m h => let ⟨h1, m1⟩ := e.keep _ _ h m (fun _ z => nomatch z); .rng m1 h1) .fn (fun m h q => let ⟨h1, m1⟩ := e.keep _ _ h m (fun _ z => nomatch z); .dic m1 h1 q) (fun s _ ih => .ft (e.ftt s) ih) .nil (fun _ _ a b => .cons a b) h
theorem Ext0.r (e : Ext0 M H M' H') {v : V} {d : D} (h : R K M H v d) : R K M' H' v d := e.r_ra.1 v d h
theorem Ext0.ra (e : Ext0 M H M' H') {vs : List V} {ds : List D} (h : RA K M H vs ds) : RA K M' H' vs ds := e.r_ra.2 vs ds h
theorem Ext.r (e : Ext M H M' H') {v : V} {d : D} (h : R K M H v d) : R K M' H' v d := e.r_ra.1 v d h
theorem Ext.ra (e : Ext M H M' H') {vs : List V} {ds : List D} (h : RA K M H vs ds) : RA K M' H' vs ds := e.r_ra.2 vs ds h
theorem RA.length : ∀ {xs : List V} {ds : List D}, RA K M H xs ds → xs.length = ds.length
  | _, _, .nil => rfl
  | _, _, .cons _ t => by rw [List.length_cons, List.length_cons, RA.length t]
theorem RA.get : ∀ {xs : List V} {ds : List D} {i : Nat} {d : D}, RA K M H xs ds → ds[i]? = some d → ∃ x, xs[i]? = some x ∧ R K M H x d
  | _, _, _, _, .nil, e => nomatch e
  | _, _, 0, _, .cons h _, e => by
    have e1 := Option.some.inj e
    subst e1
    exact ⟨_, rfl, h⟩
  | _, _, i + 1, _, .cons _ t, e => by
    obtain ⟨x, h1, h2⟩ := RA.get (i := i) t (by simpa using e)
    exact ⟨x, by simpa using h1, h2⟩
theorem RA.append : ∀ {xs ys : List V} {ds es : List D}, RA K M H xs ds → RA K M H ys es → RA K M H (xs ++ ys) (ds ++ es)
  | _, _, _, _, .nil, h => h
  | _, _, _, _, .cons h t, u => .cons h (RA.append t u)
theorem RA.take : ∀ {xs : List V} {ds : List D} (n : Nat), RA K M H xs ds → RA K M H (xs.take n) (ds.take n)
  | _, _, 0, _ => by
    rw [List.take_zero, List.take_zero]
    exact .nil
  | _, _, _ + 1, .nil => .nil
  | _, _, n + 1, .cons h t => .cons h (RA.take n t)
theorem RA.drop : ∀ {xs : List V} {ds : List D} (n : Nat), RA K M H xs ds → RA K M H (xs.drop n) (ds.drop n)
  | _, _, 0, h => h
  | _, _, _ + 1, .nil => .nil
  | _, _, n + 1, .cons _ t => RA.drop n t
theorem RA.set : ∀ {xs : List V} {ds : List D} (n : Nat) {v : V} {d : D}, RA K M H xs ds → R K M H v d → RA K M H (xs.set n v) (ds.set n d)
  | _, _, _, _, _, .nil, _ => .nil
  | _, _, 0, _, _, .cons _ t, h => .cons h t
  | _, _, n + 1, _, _, .cons a t, h => .cons a (RA.set n t h)
theorem RA.ints : ∀ l : List Int, RA K M H (l.map V.int) (l.map D.int)
  | [] => .nil
  | i :: l => .cons (.int i) (RA.ints l)
theorem StL.sq {a : Addr} {xs : List V} (h : StL K M H a xs) : SqL K H a xs := by
  rcases h with ⟨_, h⟩ | h
  · exact .inl h
  · rcases h with (h | ⟨_, h⟩) | h
    · cases h
    · cases h
    · exact .inr h
theorem StT.sq {a : Addr} {xs : List V} (h : StT K M H a xs) : SqT K H a xs := by
  rcases h with ⟨_, h⟩ | h
  · exact .inl h
  · rcases h with (h | ⟨_, h⟩) | h
    · cases h
    · cases h
    · exact .inr h
end
end Z
/-! ## slots, cells, what a state stands for -/
namespace Z
open PySem PySem.Spec L2 GxR
open PyProof.Rows hiding St
inductive Slot where
  | un | sv (d : D) | own (l : List D)
inductive Cell where
  | lst (l : List D) | dic (l : List (Int × Int)) | ins (c : Nat) (l : List (Nat × D)) | dct (l : List (D × D)) | memo (T : D)
structure S where
  ρ : List Slot
  cs : List Cell
/-- what is fixed through a law: the written part, the tables of code that are looked at, the classes of errors (with the name of their field) -/
structure En where
  K : PySem.W.Frag
  G : List Addr
  CT : Nat → Option (Addr × Str)
  w : World
/-- all that was tracked is as it was, tables of code may have grown -/
def Same (H H' : Hp) : Prop := (∀ b o, H b = some o → (∀ ps, o ≠ .tbl ps) → H' b = some o) ∧ ∀ b, TabG H b → TabG H' b
theorem Same.refl (H : Hp) : Same H H := ⟨fun _ _ h _ => h, fun _ h => h⟩
theorem Same.trans {H H1 H2 : Hp} (a : Same H H1) (b : Same H1 H2) : Same H H2 := ⟨fun c o h n => b.1 c o (a.1 c o h n) n, fun c h => b.2 c (a.2 c h)⟩
theorem Same.tabbed {P : Addr} {H H' : Hp} (h : TabG H P) (t : Tabbed P H H') : Same H H' := by
  refine ⟨fun b o e n => ?_, fun b hb => ?_⟩
  · obtain ⟨ps, hp, _⟩ := h
    rw [t.2 b (fun z => by rw [z, hp] at e; exact n ps (Option.some.inj e).symm)]
    exact e
  · by_cases z : b = P
    · rw [z]
      exact t.1
    · obtain ⟨ps, hp, ht⟩ := hb
      exact ⟨ps, by rw [t.2 b z]; exact hp, ht⟩
theorem Same.upd {p : Addr} {o : HO} {H : Hp} (h : H p = none) : Same H (upd H p o) := by
  refine ⟨fun b x e n => ?_, fun b hb => ?_⟩
  · rw [upd_ne (ne_of_none e h)]
    exact e
  · obtain ⟨ps, hp, ht⟩ := hb
    exact ⟨ps, by rw [upd_ne (ne_of_none hp h)]; exact hp, ht⟩
def dlook (l : List (Int × Int)) (k : Int) : Option Int := (l.find? fun q => q.1 == k).map (·.2)
/-- the program's classes, and the fields of their instances, by numbers -/
def clss : List String := ["Forcing", "Ground", "Board", "Debate", "Walk"]
def clsN (c : Nat) : Str := Str.ofString (clss.getD c "")
def flds : List String := ["inside", "pairs", "singles", "found", "premises", "enough", "kinds", "forcing", "nouns", "verbs", "stated", "said", "signature", "commands", "stages", "names", "kind", "words", "column"]
def fldN (f : Nat) : Str := Str.ofString (flds.getD f "")
def lookF (l : List (Nat × D)) (f : Nat) : Option D := (l.find? fun q => q.1 == f).map (·.2)
mutual
/-- what may be a key of a dict: a tuple of ints, bools, words and such tuples -/
def keyD : D → Option NestedKey
  | .bl b => some (.num (if b then 1 else 0))
  | .int i => some (.num i)
  | .str n => if n < 70 then some (.text (txt n)) else none
  | .tup l => (keyDs l).map .tup
  | _ => none
def keyDs : List D → Option (List NestedKey)
  | [] => some []
  | d :: l => (match keyD d, keyDs l with
    | some k, some ks => some (k :: ks)
    | _, _ => none)
end
/-- an entry of a dict and what it holds -/
def EntR (K : PySem.W.Frag) (M : MM) (H : Hp) (x : NestedKey × Addr × Value) (q : D × D) : Prop := keyD q.1 = some x.1 ∧ x.1.depth ≤ 8 ∧ R K M H (.ref x.2.1) q.1 ∧ ∃ v, RelV v x.2.2 ∧ R K M H v q.2
def entK (w : World) (x : NestedKey × Addr × Value) : DictEntry := ⟨x.1.hash w, .ref x.2.1, x.2.2⟩
mutual
/-- the cells that d speaks of are below n -/
def cLt (n : Nat) : D → Bool
  | .cell k => decide (k < n)
  | .tup l => cLts n l
  | .lst l => cLts n l
  | .ft l => cLts n l
  | _ => true
def cLts (n : Nat) : List D → Bool
  | [] => true
  | d :: l => cLt n d && cLts n l
end
/-- the dict at a, and its entries in their order -/
def DctR (K : PySem.W.Frag) (w : World) (M : MM) (H : Hp) (a : Addr) (l : List (D × D)) : Prop := ∃ (o : Obj) (es : Array DictEntry) (ep : Nat) (xs : List (NestedKey × Addr × Value)), H a = some (.ext fun h => h.get? a = some o) ∧ (a == sysModules) = false ∧ o.ExactDict ∧ o.data = .dict es ep ∧ es.toList = xs.map (entK w) ∧ (xs.map (·.1)).Nodup ∧ Paired (EntR K M H) xs l
/-- the nouns of a kind -/
def kindNs : D → Option (List Int)
  | .tup [.str 8, .int x] => some [x]
  | .tup [.str 9, .int x, .int y] => some [x, y]
  | .tup [.str 10, .int x, .bl _, .int _, .bl _, .int _] => some [x]
  | .tup [.str 7, .int x, .bl _, .int _] => some [x]
  | _ => none
/-- its verb and its other noun are small -/
def kRng : D → Bool
  | .tup [.str 10, .int _, .bl _, .int v, .bl _, .int y] => decide (0 ≤ v) && decide (v < 8) && decide (0 ≤ y) && decide (y < 8)
  | .tup [.str 7, .int _, .bl _, .int v] => decide (0 ≤ v) && decide (v < 8)
  | _ => true
/-- a number for each kind -/
def kcode : D → Nat
  | .tup [.str 8, .int x] => x.toNat
  | .tup [.str 9, .int x, .int y] => 10 + 8 * x.toNat + y.toNat
  | .tup [.str 10, .int x, .bl a, .int v, .bl b, .int y] => 100 + (((x.toNat * 8 + y.toNat) * 8 + v.toNat) * 2 + a.toNat) * 2 + b.toNat
  | .tup [.str 7, .int x, .bl a, .int v] => 3000 + (x.toNat * 8 + v.toNat) * 2 + a.toNat
  | _ => 5000
def rowD : List D → Option (List Bool)
  | [] => some []
  | .bl b :: l => (rowD l).map (b :: ·)
  | _ => none
def rowsD : List D → Option (List (List Bool))
  | [] => some []
  | .lst r :: l => (match rowD r, rowsD l with
    | some a, some b => some (a :: b)
    | _, _ => none)
  | _ => none
def rowOf (rows : List (List Bool)) (x : Int) : List Bool := rows.getD x.toNat []
def atB (r : List Bool) (y : Int) : Bool := r.getD y.toNat false
/-- a table at [x][y] -/
def tbl (rows : List (List Bool)) (x y : Int) : Bool := atB (rowOf rows x) y
def aboveL (rows : List (List Bool)) (xs : List Int) : List Int := ((List.range rows.length).map fun (y : Nat) => (y : Int)).filter fun y => xs.any fun x => tbl rows x y
/-- the nouns above a kind, by a table -/
def aboveD (T kd : D) : Option D := match T, kindNs kd with
  | .lst l, some xs => (match rowsD l with
    | some rows => if kRng kd = true ∧ rows.length ≤ 8 ∧ (rows.all fun r => r.length == rows.length) = true ∧ (xs.all fun x => decide (0 ≤ x) && decide (x < rows.length)) = true then some (.tup ((aboveL rows xs).map D.int)) else none
    | none => none)
  | _, _ => none
def RC (K : PySem.W.Frag) (w : World) (M : MM) (H : Hp) (a : Addr) : Cell → Prop
  | .lst l => ∃ xs, H a = some (.lst xs) ∧ RA K M H xs l
  | .dic l => ∃ kvs, H a = some (.dK kvs) ∧ kvs.length ≤ l.length ∧ ∀ k : Int, valV kvs (Sum.inl k : Key) = (dlook l k).map V.int
  | .ins c l => ∃ C dx fs, PySem.W.nsIn K mainGlobals (clsN c) = some (some (.ref C)) ∧ H a = some (.ins C dx fs) ∧ fs.length ≤ l.length ∧ (∀ x ∈ fs, ∃ f, f < 19 ∧ x.1 = fldN f) ∧ ∀ f d, f < 19 → lookF l f = some d → ∃ v, fs.lookup (fldN f) = some v ∧ R K M H v d
  | .dct l => DctR K w M H a l
  | .memo T => ∃ l, DctR K w M H a l ∧ (l.map fun q => kcode q.1).Nodup ∧ ∀ q ∈ l, aboveD T q.1 = some q.2 ∧ cLt 0 q.1 = true ∧ cLt 0 q.2 = true
structure RelC (N : En) (M : MM) (cs : List Cell) (H : Hp) : Prop where
  cell : ∀ (n : Nat) (c : Cell), cs[n]? = some c → ∃ a, M a = some (.cell n) ∧ RC N.K N.w M H a c
  uniq : ∀ a b n, M a = some (.cell n) → M b = some (.cell n) → a = b
  csz : ∀ a n, M a = some (.cell n) → n < cs.length
  mdom : ∀ a w, M a = some w → ∃ o, H a = some o ∧ ∀ ps, o ≠ .tbl ps
  tabs : ∀ P ∈ N.G, TabG H P
structure Rel (N : En) (M : MM) (s : S) (σ : St) (H : Hp) : Prop extends RelC N M s.cs H where
  len : σ.length = s.ρ.length
  sv : ∀ (i : Nat) (d : D), s.ρ[i]? = some (Slot.sv d) → ∃ v, σ[i]? = some (some v) ∧ R N.K M H v d
  own : ∀ (i : Nat) (l : List D), s.ρ[i]? = some (Slot.own l) → ∃ a xs, σ[i]? = some (some (.ref a)) ∧ M a = some (.slot i) ∧ H a = some (.lst xs) ∧ RA N.K M H xs l
section
variable {N : En} {M M' : MM} {s : S} {σ : St} {H H' : Hp} {cs : List Cell}
theorem RelC.fresh (r : RelC N M cs H) {p : Addr} (h : H p = none) : M p = none := by
  cases e : M p with
  | none => rfl
  | some w =>
    obtain ⟨o, h1, _⟩ := r.mdom p w e
    rw [h] at h1
    cases h1
theorem RelC.ext (r : RelC N M cs H) (z : Same H H') : Ext M H M H' where
  keep := fun a o h m n => ⟨z.1 a o h n, m⟩
  cell := fun _ _ h => h
  tab := z.2
  far := fun a h => ⟨h, by
    obtain ⟨o, h1, n⟩ := r.mdom a _ h
    rw [h1, z.1 a o h1 n]⟩
  dom := fun a o h n => ⟨o, z.1 a o h n, n⟩
theorem DctR.ext {a : Addr} {l : List (D × D)} (e : Ext0 M H M' H') (h : H' a = H a) (q : DctR N.K N.w M H a l) : DctR N.K N.w M' H' a l := by
  obtain ⟨o, es, ep, xs, h0, h1, h2, h3, h4, h5, h6⟩ := q
  exact ⟨o, es, ep, xs, h.trans h0, h1, h2, h3, h4, h5, Paired.mapP h6 fun x q ⟨k1, k2, k3, v, k4, k5⟩ => ⟨k1, k2, e.r k3, v, k4, e.r k5⟩⟩
theorem RC.ext {a : Addr} {c : Cell} (e : Ext0 M H M' H') (h : H' a = H a) (q : RC N.K N.w M H a c) : RC N.K N.w M' H' a c := by
  cases c with
  | lst l =>
    obtain ⟨xs, h1, h2⟩ := q
    exact ⟨xs, h.trans h1, e.ra h2⟩
  | dic l =>
    obtain ⟨kvs, h1, h2⟩ := q
    exact ⟨kvs, h.trans h1, h2⟩
  | ins c l =>
    obtain ⟨C, dx, fs, h0, h1, h2, h3, h4⟩ := q
    exact ⟨C, dx, fs, h0, h.trans h1, h2, h3, fun f d hf hd => let ⟨v, k1, k2⟩ := h4 f d hf hd; ⟨v, k1, e.r k2⟩⟩
  | dct l => exact DctR.ext e h q
  | memo T =>
    obtain ⟨l, q, hp⟩ := q
    exact ⟨l, DctR.ext e h q, hp⟩
theorem RelC.keptAt (r : RelC N M cs H) (z : Same H H') {a : Addr} {w : Own} (m : M a = some w) : H' a = H a := by
  obtain ⟨o, h1, n⟩ := r.mdom a w m
  rw [h1, z.1 a o h1 n]
theorem RelC.same (r : RelC N M cs H) (z : Same H H') : RelC N M cs H' where
  cell := fun n c h => by
    obtain ⟨a, m, q⟩ := r.cell n c h
    exact ⟨a, m, q.ext (r.ext z).toExt0 (r.keptAt z m)⟩
  uniq := r.uniq
  csz := r.csz
  mdom := fun a w m => by
    obtain ⟨o, h1, n⟩ := r.mdom a w m
    exact ⟨o, z.1 a o h1 n, n⟩
  tabs := fun P h => z.2 P (r.tabs P h)
theorem Rel.same (r : Rel N M s σ H) (z : Same H H') : Rel N M s σ H' where
  toRelC := r.toRelC.same z
  len := r.len
  sv := fun i d h => by
    obtain ⟨v, h1, h2⟩ := r.sv i d h
    exact ⟨v, h1, (r.ext z).r h2⟩
  own := fun i l h => by
    obtain ⟨a, xs, h1, m, h2, h3⟩ := r.own i l h
    exact ⟨a, xs, h1, m, (r.keptAt z m).trans h2, (r.ext z).ra h3⟩
/-- a new object that only we may write -/
def own1 (M : MM) (p : Addr) (w : Option Own) : MM := fun a => if a = p then w else M a
theorem own1_same {p : Addr} {w : Option Own} : own1 M p w p = w := if_pos rfl
theorem own1_ne {p a : Addr} {w : Option Own} (h : a ≠ p) : own1 M p w a = M a := if_neg h
/-- what was of nobody but us may be of anybody's: from the far side -/
theorem ext0_own {p : Addr} {w : Option Own} (h : M p = some .far) : Ext0 M H (own1 M p w) H where
  keep := fun a o h1 m _ => ⟨h1, by
    rw [own1_ne]
    · exact m
    · rintro rfl
      rw [h] at m; cases m⟩
  cell := fun a n h1 => by
    rw [own1_ne]
    · exact h1
    · rintro rfl
      rw [h] at h1; cases h1
/-- an object that nobody's data lean on is written -/
theorem ext0_upd {p : Addr} {o : HO} {w : Own} (h : M p = some w) : Ext0 M H M (upd H p o) where
  keep := fun a u h1 m _ => ⟨(by
    rw [upd_ne]
    · exact h1
    · rintro rfl
      rw [h] at m
      cases m), m⟩
  cell := fun _ _ h1 => h1
theorem RelC.ownW (r : RelC N M cs H) {p : Addr} {w : Option Own} (h : M p = some .far) (hw : ∀ n, w ≠ some (.cell n)) : RelC N (own1 M p w) cs H where
  cell := fun n c h1 => by
    obtain ⟨a, m, q⟩ := r.cell n c h1
    refine ⟨a, ?_, q.ext (ext0_own h) rfl⟩
    rw [own1_ne]
    · exact m
    · rintro rfl
      rw [h] at m; cases m
  uniq := fun a b n h1 h2 => by
    have ha : a ≠ p := fun z => by rw [z, own1_same] at h1; exact hw n h1
    have hb : b ≠ p := fun z => by rw [z, own1_same] at h2; exact hw n h2
    rw [own1_ne ha] at h1
    rw [own1_ne hb] at h2
    exact r.uniq a b n h1 h2
  csz := fun a n h1 => by
    have ha : a ≠ p := fun z => by rw [z, own1_same] at h1; exact hw n h1
    rw [own1_ne ha] at h1
    exact r.csz a n h1
  mdom := fun a u h1 => by
    by_cases ha : a = p
    · subst ha
      exact r.mdom a _ h
    · rw [own1_ne ha] at h1
      exact r.mdom a u h1
  tabs := r.tabs
theorem Rel.ownW (r : Rel N M s σ H) {p : Addr} {w : Option Own} (h : M p = some .far) (hw : ∀ n, w ≠ some (.cell n)) : Rel N (own1 M p w) s σ H where
  toRelC := r.toRelC.ownW h hw
  len := r.len
  sv := fun i d h1 => by
    obtain ⟨v, k1, k2⟩ := r.sv i d h1
    exact ⟨v, k1, (ext0_own h).r k2⟩
  own := fun i l h1 => by
    obtain ⟨a, xs, k1, m, k2, k3⟩ := r.own i l h1
    refine ⟨a, xs, k1, ?_, k2, (ext0_own h).ra k3⟩
    rw [own1_ne]
    · exact m
    · rintro rfl
      rw [h] at m; cases m
theorem tab_upd {p b : Addr} {o u : HO} (hu : H p = some u) (n : ∀ ps, u ≠ .tbl ps) (h : TabG H b) : TabG (upd H p o) b := by
  obtain ⟨ps, hp, ht⟩ := h
  refine ⟨ps, ?_, ht⟩
  rw [upd_ne]
  · exact hp
  · rintro rfl
    rw [hu] at hp
    cases hp
    exact n ps rfl
/-- our own list is written -/
theorem RelC.updL (r : RelC N M cs H) {p : Addr} {xs : List V} {w : Own} (h : M p = some w) (hw : ∀ n, w ≠ .cell n) : RelC N M cs (upd H p (.lst xs)) where
  cell := fun n c h1 => by
    obtain ⟨a, m, q⟩ := r.cell n c h1
    refine ⟨a, m, q.ext (ext0_upd h) (upd_ne ?_)⟩
    rintro rfl
    rw [h] at m
    exact hw n (Option.some.inj m)
  uniq := r.uniq
  csz := r.csz
  mdom := fun a u h1 => by
    by_cases ha : a = p
    · subst ha
      exact ⟨_, upd_same, fun _ z => nomatch z⟩
    · obtain ⟨o, k1, k2⟩ := r.mdom a u h1
      exact ⟨o, by rw [upd_ne ha]; exact k1, k2⟩
  tabs := fun P hP => by
    obtain ⟨u, hu, n⟩ := r.mdom p w h
    exact tab_upd hu n (r.tabs P hP)
theorem ext_upd (r : RelC N M cs H) {p : Addr} {xs : List V} {i : Nat} (h : M p = some (.slot i)) : Ext M H M (upd H p (.lst xs)) where
  toExt0 := ext0_upd h
  tab := fun b hb => by
    obtain ⟨u, hu, n⟩ := r.mdom p _ h
    exact tab_upd hu n hb
  far := fun a ha => ⟨ha, upd_ne fun z => by rw [z, h] at ha; cases ha⟩
  dom := fun a o ho n => by
    by_cases z : a = p
    · subst z
      exact ⟨_, upd_same, fun _ z => nomatch z⟩
    · exact ⟨o, by rw [upd_ne z]; exact ho, n⟩
/-- .. in slot i -/
theorem Rel.updL (r : Rel N M s σ H) {i : Nat} {a : Addr} {l' : List D} {xs' : List V} (h : ∃ l, s.ρ[i]? = some (.own l)) (h1 : σ[i]? = some (some (.ref a))) (m : M a = some (.slot i)) (q : RA N.K M H xs' l') :
    Rel N M { s with ρ := s.ρ.set i (.own l') } σ (upd H a (.lst xs')) where
  toRelC := r.toRelC.updL m (fun _ z => nomatch z)
  len := by simp only [List.length_set]; exact r.len
  sv := fun j d hj => by
    by_cases z : i = j
    · subst z
      obtain ⟨l, h⟩ := h
      rw [List.getElem?_set_self (List.getElem?_eq_some_iff.mp h).1] at hj
      cases hj
    · rw [List.getElem?_set_ne z] at hj
      obtain ⟨v, k1, k2⟩ := r.sv j d hj
      exact ⟨v, k1, (ext0_upd m).r k2⟩
  own := fun j l2 hj => by
    by_cases z : i = j
    · subst z
      obtain ⟨l, h⟩ := h
      rw [List.getElem?_set_self (List.getElem?_eq_some_iff.mp h).1] at hj
      cases hj
      exact ⟨a, xs', h1, m, upd_same, (ext0_upd m).ra q⟩
    · rw [List.getElem?_set_ne z] at hj
      obtain ⟨b, ys, k1, k2, k3, k4⟩ := r.own j l2 hj
      refine ⟨b, ys, k1, k2, ?_, (ext0_upd m).ra k4⟩
      rw [upd_ne]
      · exact k3
      · rintro rfl
        rw [m] at k2
        cases k2
        exact z rfl
/-- a list that was laid anew, ours for now -/
theorem RelC.laid (r : RelC N M cs H) {p : Addr} {xs : List V} (h : H p = none) : RelC N (own1 M p (some .far)) cs (upd H p (.lst xs)) ∧ Ext M H (own1 M p (some .far)) (upd H p (.lst xs)) := by
  have mp := r.fresh h
  have e : Ext M H (own1 M p (some .far)) (upd H p (.lst xs)) := ⟨⟨fun a o h1 m _ => by
      have ne : a ≠ p := fun z => by rw [z, h] at h1; cases h1
      exact ⟨by rw [upd_ne ne]; exact h1, by rw [own1_ne ne]; exact m⟩, fun a n m => by
      have ne : a ≠ p := fun z => by rw [z, mp] at m; cases m
      rw [own1_ne ne]
      exact m⟩, (Same.upd h).2, fun a m => by
      have ne : a ≠ p := fun z => by rw [z, mp] at m; cases m
      exact ⟨by rw [own1_ne ne]; exact m, upd_ne ne⟩, fun a o ho n => ⟨o, (Same.upd h).1 a o ho n, n⟩⟩
  refine ⟨⟨fun n c h1 => ?_, fun a b n h1 h2 => ?_, fun a n h1 => ?_, fun a u h1 => ?_, fun P hP => e.tab P (r.tabs P hP)⟩, e⟩
  · obtain ⟨a, m, q⟩ := r.cell n c h1
    have ne : a ≠ p := fun z => by rw [z, mp] at m; cases m
    exact ⟨a, by rw [own1_ne ne]; exact m, q.ext e.toExt0 (upd_ne ne)⟩
  · have ha : a ≠ p := fun z => by rw [z, own1_same] at h1; cases h1
    have hb : b ≠ p := fun z => by rw [z, own1_same] at h2; cases h2
    rw [own1_ne ha] at h1
    rw [own1_ne hb] at h2
    exact r.uniq a b n h1 h2
  · have ha : a ≠ p := fun z => by rw [z, own1_same] at h1; cases h1
    rw [own1_ne ha] at h1
    exact r.csz a n h1
  · by_cases ha : a = p
    · subst ha
      exact ⟨_, upd_same, fun _ z => nomatch z⟩
    · rw [own1_ne ha] at h1
      obtain ⟨o, k1, k2⟩ := r.mdom a u h1
      exact ⟨o, by rw [upd_ne ha]; exact k1, k2⟩
theorem Rel.laid (r : Rel N M s σ H) {p : Addr} {xs : List V} (h : H p = none) : Rel N (own1 M p (some .far)) s σ (upd H p (.lst xs)) := by
  have mp := r.toRelC.fresh h
  obtain ⟨rc, e⟩ := r.toRelC.laid (xs := xs) h
  refine ⟨rc, r.len, fun i d h1 => ?_, fun i l h1 => ?_⟩
  · obtain ⟨v, k1, k2⟩ := r.sv i d h1
    exact ⟨v, k1, e.r k2⟩
  · obtain ⟨a, ys, k1, m, k2, k3⟩ := r.own i l h1
    have ne : a ≠ p := fun z => by rw [z, mp] at m; cases m
    exact ⟨a, ys, k1, by rw [own1_ne ne]; exact m, by rw [upd_ne ne]; exact k2, e.ra k3⟩
/-- of nobody's, and no datum leans on it -/
def Fresh (M : MM) (H : Hp) (p : Addr) : Prop := M p = none ∧ ∀ o, H p = some o → ∃ ps, o = .tbl ps
theorem Ext.fresh (e : Ext M H M' H') (r : RelC N M cs H) {p : Addr} (h : H' p = none) : Fresh M H p := by
  have q : ∀ o, H p = some o → (∀ ps, o ≠ .tbl ps) → False := fun o ho n => by
    obtain ⟨o', h1, _⟩ := e.dom p o ho n
    rw [h] at h1
    cases h1
  refine ⟨?_, fun o ho => ?_⟩
  · cases m : M p with
    | none => rfl
    | some w =>
      obtain ⟨o, ho, n⟩ := r.mdom p w m
      exact (q o ho n).elim
  · cases o with
    | tbl ps => exact ⟨ps, rfl⟩
    | _ => exact (q _ ho (fun _ z => nomatch z)).elim
/-- behind all: whose a new thing is may be told anew -/
theorem Ext.ownW {p : Addr} {w : Option Own} (e : Ext M H M' H') (f : Fresh M H p) : Ext M H (own1 M' p w) H' where
  keep := fun a o h1 m1 n => by
    have ne : a ≠ p := fun z => by
      obtain ⟨ps, z2⟩ := f.2 o (z ▸ h1)
      exact n ps z2
    obtain ⟨k1, k2⟩ := e.keep a o h1 m1 n
    exact ⟨k1, by rw [own1_ne ne]; exact k2⟩
  cell := fun a n h1 => by
    have ne : a ≠ p := fun z => by rw [z, f.1] at h1; cases h1
    rw [own1_ne ne]
    exact e.cell a n h1
  tab := e.tab
  far := fun a h1 => by
    have ne : a ≠ p := fun z => by rw [z, f.1] at h1; cases h1
    obtain ⟨k1, k2⟩ := e.far a h1
    exact ⟨by rw [own1_ne ne]; exact k1, k2⟩
  dom := e.dom
/-- slots -/
theorem Rel.set (r : Rel N M s σ H) {i : Nat} {v : V} {d : D} (q : R N.K M H v d) : Rel N M { s with ρ := s.ρ.set i (.sv d) } (σ.set i (some v)) H where
  toRelC := r.toRelC
  len := by simp only [List.length_set]; exact r.len
  sv := fun j e hj => by
    by_cases z : i = j
    · subst z
      have hlt : i < s.ρ.length := by
        have := (List.getElem?_eq_some_iff.mp hj).1
        simpa using this
      rw [List.getElem?_set_self hlt] at hj
      cases hj
      exact ⟨v, List.getElem?_set_self (by rw [r.len]; exact hlt), q⟩
    · rw [List.getElem?_set_ne z] at hj
      rw [List.getElem?_set_ne z]
      exact r.sv j e hj
  own := fun j l hj => by
    by_cases z : i = j
    · subst z
      have hlt : i < s.ρ.length := by
        have := (List.getElem?_eq_some_iff.mp hj).1
        simpa using this
      rw [List.getElem?_set_self hlt] at hj
      cases hj
    · rw [List.getElem?_set_ne z] at hj
      rw [List.getElem?_set_ne z]
      exact r.own j l hj
theorem Rel.setOwn (r : Rel N M s σ H) {i : Nat} {p : Addr} {xs : List V} {l : List D} (m : M p = some .far) (h : H p = some (.lst xs)) (q : RA N.K M H xs l) :
    Rel N (own1 M p (some (.slot i))) { s with ρ := s.ρ.set i (.own l) } (σ.set i (some (.ref p))) H := by
  have r2 := r.ownW (w := some (.slot i)) m (fun _ z => nomatch z)
  refine ⟨r2.toRelC, by simp only [List.length_set]; exact r.len, fun j e hj => ?_, fun j l2 hj => ?_⟩
  · by_cases z : i = j
    · subst z
      have hlt : i < s.ρ.length := by
        have := (List.getElem?_eq_some_iff.mp hj).1
        simpa using this
      rw [List.getElem?_set_self hlt] at hj
      cases hj
    · rw [List.getElem?_set_ne z] at hj
      rw [List.getElem?_set_ne z]
      exact r2.sv j e hj
  · by_cases z : i = j
    · subst z
      have hlt : i < s.ρ.length := by
        have := (List.getElem?_eq_some_iff.mp hj).1
        simpa using this
      rw [List.getElem?_set_self hlt] at hj
      cases hj
      exact ⟨p, xs, List.getElem?_set_self (by rw [r.len]; exact hlt), own1_same, h, (ext0_own m).ra q⟩
    · rw [List.getElem?_set_ne z] at hj
      rw [List.getElem?_set_ne z]
      exact r2.own j l2 hj
end
end Z
/-! ## what a piece of code does with a state -/
namespace Z
open PySem PySem.Spec L2 GxR
open PyProof.Rows hiding St
inductive Res (α : Type) where
  | ok (a : α) (s : S) | exc (c : Nat) (d : D) (s : S) | stuck
def Res.bind {α β : Type} (r : Res α) (k : α → S → Res β) : Res β := match r with
  | .ok a s => k a s
  | .exc c d s => .exc c d s
  | .stuck => .stuck
abbrev Ex := S → Res D
abbrev Ts := S → Res Bool
abbrev As := S → Res (List D)
/-- an error's own dict -/
def XD (H : Hp) (dx : Addr) (f : Str) (v : V) : Prop := ∃ fs, H dx = some (.xd fs) ∧ fs.lookup f = some v
def GX (N : En) (W : WX) (M : MM) (H : Hp) (c : Nat) (d : D) (s : S) : Prop := ∀ M' H' σ' C fld dx v, Ext M H M' H' → Rel N M' s σ' H' → N.CT c = some (C, fld) → XD H' dx fld v → R N.K M' H' v d → W (.ref C) (some dx) σ' H'
def GoodE (N : En) (W : WX) (σ : St) (M : MM) (H : Hp) {α : Type} (r : Res α) (Φ : MM → Hp → α → S → Prop) : Prop := match r with
  | .ok a s => ∀ M' H', Ext M H M' H' → Rel N M' s σ H' → Φ M' H' a s
  | .exc c d s => GX N W M H c d s
  | .stuck => False
def GoodS (N : En) (W : WX) (M : MM) (H : Hp) {α : Type} (r : Res α) (Φ : MM → Hp → St → α → S → Prop) : Prop := match r with
  | .ok a s => ∀ M' H' σ', Ext M H M' H' → Rel N M' s σ' H' → Φ M' H' σ' a s
  | .exc c d s => GX N W M H c d s
  | .stuck => False
section
variable {N : En} {W : WX} {σ : St} {M M' : MM} {H H' : Hp} {α β : Type} {r : Res α} {k : α → S → Res β}
theorem GX.rebase {c : Nat} {d : D} {s : S} (e : Ext M H M' H') (h : GX N W M H c d s) : GX N W M' H' c d s := fun M2 H2 σ' C fld dx v e2 => h M2 H2 σ' C fld dx v (e.trans e2)
theorem GoodE.rebase {Φ : MM → Hp → α → S → Prop} (h : GoodE N W σ M H r Φ) (e : Ext M H M' H') : GoodE N W σ M' H' r Φ := by
  cases r with
  | ok a s => exact fun M2 H2 e2 => h M2 H2 (e.trans e2)
  | exc c d s => exact GX.rebase e h
  | stuck => exact h
theorem GoodE.bind {Φ : MM → Hp → β → S → Prop} (h : GoodE N W σ M H (r.bind k) Φ) : GoodE N W σ M H r (fun M' H' a s => GoodE N W σ M' H' (k a s) Φ) := by
  cases r with
  | ok a s => exact fun M2 H2 e2 _ => GoodE.rebase h e2
  | exc c d s => exact h
  | stuck => exact h
theorem GoodE.imp {Φ Φ' : MM → Hp → α → S → Prop} (h : GoodE N W σ M H r Φ) (f : ∀ M' H' a s, Ext M H M' H' → Rel N M' s σ H' → Φ M' H' a s → Φ' M' H' a s) : GoodE N W σ M H r Φ' := by
  cases r with
  | ok a s => exact fun M2 H2 e2 r2 => f M2 H2 a s e2 r2 (h M2 H2 e2 r2)
  | exc c d s => exact h
  | stuck => exact h
theorem GoodE.here {Φ : MM → Hp → α → S → Prop} {a : α} {s : S} (h : GoodE N W σ M H (.ok a s) Φ) (q : Rel N M s σ H) : Φ M H a s := h M H (Ext.refl M H) q
theorem GoodE.at {Φ : MM → Hp → α → S → Prop} {a : α} {s : S} (h : GoodE N W σ M H (.ok a s) Φ) (e : Ext M H M' H') (q : Rel N M' s σ H') : Φ M' H' a s := h M' H' e q
theorem GoodS.rebase {Φ : MM → Hp → St → α → S → Prop} (h : GoodS N W M H r Φ) (e : Ext M H M' H') : GoodS N W M' H' r Φ := by
  cases r with
  | ok a s => exact fun M2 H2 σ2 e2 => h M2 H2 σ2 (e.trans e2)
  | exc c d s => exact GX.rebase e h
  | stuck => exact h
theorem GoodS.bind {Φ : MM → Hp → St → β → S → Prop} (h : GoodS N W M H (r.bind k) Φ) : GoodS N W M H r (fun M' H' _ a s => GoodS N W M' H' (k a s) Φ) := by
  cases r with
  | ok a s => exact fun M2 H2 _ e2 _ => GoodS.rebase h e2
  | exc c d s => exact h
  | stuck => exact h
theorem GoodS.imp {Φ Φ' : MM → Hp → St → α → S → Prop} (h : GoodS N W M H r Φ) (f : ∀ M' H' σ' a s, Ext M H M' H' → Rel N M' s σ' H' → Φ M' H' σ' a s → Φ' M' H' σ' a s) : GoodS N W M H r Φ' := by
  cases r with
  | ok a s => exact fun M2 H2 σ2 e2 r2 => f M2 H2 σ2 a s e2 r2 (h M2 H2 σ2 e2 r2)
  | exc c d s => exact h
  | stuck => exact h
theorem GoodS.toE {Φ : MM → Hp → St → α → S → Prop} (h : GoodS N W M H r Φ) : GoodE N W σ M H r (fun M' H' a s => Φ M' H' σ a s) := by
  cases r with
  | ok a s => exact fun M2 H2 e2 => h M2 H2 σ e2
  | exc c d s => exact h
  | stuck => exact h
theorem GoodS.bindE {Φ : MM → Hp → St → β → S → Prop} (h : GoodS N W M H (r.bind k) Φ) : GoodE N W σ M H r (fun M' H' a s => GoodS N W M' H' (k a s) Φ) := h.bind.toE
theorem GoodS.at {Φ : MM → Hp → St → α → S → Prop} {a : α} {s : S} (h : GoodS N W M H (.ok a s) Φ) (e : Ext M H M' H') (q : Rel N M' s σ H') : Φ M' H' σ a s := h M' H' σ e q
theorem GoodS.here {Φ : MM → Hp → St → α → S → Prop} {a : α} {s : S} (h : GoodS N W M H (.ok a s) Φ) (q : Rel N M s σ H) : Φ M H σ a s := h M H σ (Ext.refl M H) q
end
/-- what may be read: a datum, or a list of ours -/
def RB (K : PySem.W.Frag) (M : MM) (H : Hp) (v : V) (d : D) : Prop := R K M H v d ∨ ∃ a xs l i, v = .ref a ∧ d = .lst l ∧ M a = some (.slot i) ∧ H a = some (.lst xs) ∧ RA K M H xs l
theorem RB.list {K : PySem.W.Frag} {M : MM} {H : Hp} {v : V} {l : List D} (h : RB K M H v (.lst l)) : ∃ a xs, v = .ref a ∧ H a = some (.lst xs) ∧ RA K M H xs l := by
  rcases h with h | ⟨a, xs, l', i, rfl, e, _, h1, h2⟩
  · cases h with
    | lst _ h1 h2 => exact ⟨_, _, rfl, h1, h2⟩
  · cases e
    exact ⟨a, xs, rfl, h1, h2⟩
theorem RB.tup {K : PySem.W.Frag} {M : MM} {H : Hp} {v : V} {l : List D} (h : RB K M H v (.tup l)) : ∃ a xs, v = .ref a ∧ StT K M H a xs ∧ RA K M H xs l := by
  rcases h with h | ⟨a, xs, l', i, rfl, e, _, h1, h2⟩
  · cases h with
    | tup h1 h2 => exact ⟨_, _, rfl, h1, h2⟩
  · cases e
theorem RB.of {K : PySem.W.Frag} {M : MM} {H : Hp} {v : V} {d : D} (h : RB K M H v d) (n : ∀ l, d ≠ .lst l) : R K M H v d := by
  rcases h with h | ⟨a, xs, l', i, rfl, e, _, h1, h2⟩
  · exact h
  · exact absurd e (n _)
theorem R.rb {K : PySem.W.Frag} {M : MM} {H : Hp} {v : V} {d : D} (h : R K M H v d) : RB K M H v d := .inl h
def SimE (N : En) (W : WX) (t : TE) (f : Ex) : Prop := ∀ M s σ H Q, Rel N M s σ H → GoodE N W σ M H (f s) (fun M' H' d _ => ∀ v, R N.K M' H' v d → Q v H') → t σ H Q
def SimB (N : En) (W : WX) (t : TE) (f : Ex) : Prop := ∀ M s σ H Q, Rel N M s σ H → GoodE N W σ M H (f s) (fun M' H' d _ => ∀ v, RB N.K M' H' v d → Q v H') → t σ H Q
/-- a list that nobody else knows of: it stands at p, and is ours -/
def SimF (N : En) (W : WX) (t : TE) (f : As) : Prop := ∀ M s σ H Q, Rel N M s σ H → GoodE N W σ M H (f s) (fun M' H' ds _ => ∀ p xs, Fresh M H p → M' p = some .far → H' p = some (.lst xs) → RA N.K M' H' xs ds → Q (.ref p) H') → t σ H Q
def SimT (N : En) (W : WX) (t : TT) (f : Ts) : Prop := ∀ M s σ H Q, Rel N M s σ H → GoodE N W σ M H (f s) (fun _ H' b _ => Q b H') → t σ H Q
def SimA (N : En) (W : WX) (t : TA) (f : As) : Prop := ∀ M s σ H Q, Rel N M s σ H → GoodE N W σ M H (f s) (fun M' H' ds _ => ∀ vs, RA N.K M' H' vs ds → Q vs H') → t σ H Q
def SE (N : En) (W : WX) (X : Cx) (e : Expr) (f : Ex) : Prop := ∃ t, PE X e t ∧ SimE N W t f
def SB (N : En) (W : WX) (X : Cx) (e : Expr) (f : Ex) : Prop := ∃ t, PE X e t ∧ SimB N W t f
def SF (N : En) (W : WX) (X : Cx) (e : Expr) (f : As) : Prop := ∃ t, PE X e t ∧ SimF N W t f
def ST (N : En) (W : WX) (X : Cx) (e : Expr) (f : Ts) : Prop := ∃ t, PT X e t ∧ SimT N W t f
def SW (N : En) (W : WX) (X : Cx) (e : Expr) (f : Ts) : Prop := ∃ t, PW X e t ∧ SimT N W t f
def SA (N : En) (W : WX) (X : Cx) (es : List Expr) (f : As) : Prop := ∃ t, PA X es t ∧ SimA N W t f ∧ ∀ s ds s', f s = .ok ds s' → ds.length = es.length
section
variable {N : En} {W : WX} {X : Cx} {e a b : Expr} {pos : Pos} {f g fa fb : Ex}
theorem SE.sb (h : SE N W X e f) : SB N W X e f := by
  obtain ⟨t, h1, h2⟩ := h
  exact ⟨t, h1, fun M s σ H Q r q => h2 M s σ H Q r (q.imp fun _ _ _ _ _ _ k v hv => k v hv.rb)⟩
/-! ### constants and names -/
def eC (d : D) : Ex := fun s => .ok d s
theorem sim_c {v : V} {d : D} (h : ∀ M H, R N.K M H v d) : SimE N W (tC v) (eC d) := fun M s σ H Q r q => q.here r v (h M H)
theorem se_int {i : Int} {j : Nat} : SE N W X (.Constant (.int i) j pos) (eC (.int i)) := ⟨_, pe_int, sim_c fun _ _ => .int i⟩
theorem se_bl {b : Bool} {j : Nat} : SE N W X (.Constant (.bool b) j pos) (eC (.bl b)) := ⟨_, pe_bl, sim_c fun _ _ => .bl b⟩
theorem se_non {j : Nat} : SE N W X (.Constant .none j pos) (eC .non) := ⟨_, pe_non, sim_c fun _ _ => .non⟩
theorem se_str {x : Str} {j : Nat} (n : Nat) (hx : x = txt n := by rfl) (hn : n < 70 := by decide) : SE N W X (.Constant (.str x) j pos) (eC (.str n)) := ⟨_, pe_str, sim_c fun _ _ => hx ▸ .str hn⟩
/-- a name: a list of ours is nobody's from here on -/
def eV (i : Nat) : Ex := fun s => match s.ρ[i]? with
  | some (.sv d) => .ok d s
  | some (.own l) => .ok (.lst l) { s with ρ := s.ρ.set i (.sv (.lst l)) }
  | _ => .stuck
/-- .. that is only read -/
def eVB (i : Nat) : Ex := fun s => match s.ρ[i]? with
  | some (.sv d) => .ok d s
  | some (.own l) => .ok (.lst l) s
  | _ => .stuck
end
section
variable {N : En} {W : WX} {M M' : MM} {s : S} {σ : St} {H H' : Hp} {cs : List Cell}
/-- an address is given free -/
theorem ext_free {p : Addr} (hc : ∀ n, M p ≠ some (.cell n)) (hf : M p ≠ some .far) : Ext M H (own1 M p none) H where
  keep := fun a u h m _ => ⟨h, by
    by_cases z : a = p
    · subst z; exact own1_same
    · rw [own1_ne z]; exact m⟩
  tab := fun _ h => h
  cell := fun a n h => by
    rw [own1_ne fun z => hc n (by rw [← z]; exact h)]
    exact h
  far := fun a h => ⟨by
    rw [own1_ne fun z => hf (by rw [← z]; exact h)]
    exact h, rfl⟩
  dom := fun _ o h n => ⟨o, h, n⟩
theorem RelC.free (r : RelC N M cs H) {p : Addr} (hc : ∀ n, M p ≠ some (.cell n)) (e : Ext M H (own1 M p none) H) : RelC N (own1 M p none) cs H where
  cell := fun n c h => by
    obtain ⟨a, m, q⟩ := r.cell n c h
    exact ⟨a, by rw [own1_ne fun z => hc n (by rw [← z]; exact m)]; exact m, q.ext e.toExt0 rfl⟩
  uniq := fun a b n h1 h2 => by
    have ha : a ≠ p := fun z => by rw [z, own1_same] at h1; cases h1
    have hb : b ≠ p := fun z => by rw [z, own1_same] at h2; cases h2
    rw [own1_ne ha] at h1
    rw [own1_ne hb] at h2
    exact r.uniq a b n h1 h2
  csz := fun a n h1 => by
    have ha : a ≠ p := fun z => by rw [z, own1_same] at h1; cases h1
    rw [own1_ne ha] at h1
    exact r.csz a n h1
  mdom := fun a w h1 => by
    have ha : a ≠ p := fun z => by rw [z, own1_same] at h1; cases h1
    rw [own1_ne ha] at h1
    exact r.mdom a w h1
  tabs := r.tabs
theorem Rel.freeze (r : Rel N M s σ H) {i : Nat} {l : List D} (h : s.ρ[i]? = some (.own l)) :
    ∃ M' v, Ext M H M' H ∧ Rel N M' { s with ρ := s.ρ.set i (.sv (.lst l)) } σ H ∧ σ[i]? = some (some v) ∧ R N.K M' H v (.lst l) := by
  obtain ⟨a, xs, h1, m, h2, h3⟩ := r.own i l h
  have hc : ∀ n, M a ≠ some (.cell n) := fun n z => by rw [m] at z; cases z
  have e : Ext M H (own1 M a none) H := ext_free hc fun z => by rw [m] at z; cases z
  have hR : R N.K (own1 M a none) H (.ref a) (.lst l) := .lst own1_same h2 (e.ra h3)
  refine ⟨own1 M a none, .ref a, e, ⟨r.toRelC.free hc e, by simp only [List.length_set]; exact r.len, fun j d hj => ?_, fun j l' hj => ?_⟩, h1, hR⟩
  · by_cases z : i = j
    · subst z
      have hlt : i < s.ρ.length := (List.getElem?_eq_some_iff.mp h).1
      rw [List.getElem?_set_self hlt] at hj
      cases hj
      exact ⟨_, h1, hR⟩
    · rw [List.getElem?_set_ne z] at hj
      obtain ⟨v, k1, k2⟩ := r.sv j d hj
      exact ⟨v, k1, e.r k2⟩
  · by_cases z : i = j
    · subst z
      have hlt : i < s.ρ.length := (List.getElem?_eq_some_iff.mp h).1
      rw [List.getElem?_set_self hlt] at hj
      cases hj
    · rw [List.getElem?_set_ne z] at hj
      obtain ⟨b, ys, k1, k2, k3, k4⟩ := r.own j l' hj
      refine ⟨b, ys, k1, ?_, k3, e.ra k4⟩
      rw [own1_ne]
      · exact k2
      · rintro rfl
        rw [m] at k2
        cases k2
        exact z rfl
end
section
variable {N : En} {W : WX} {X : Cx} {e a b : Expr} {pos : Pos} {f g fa fb : Ex}
theorem sim_v (i : Nat) : SimE N W (tVar i) (eV i) := fun M s σ H Q r q => by
  unfold eV at q
  split at q
  · rename_i d h
    obtain ⟨v, h1, h2⟩ := r.sv i d h
    exact ⟨v, h1, q.here r v h2⟩
  · rename_i l h
    obtain ⟨M', v, e, r', h1, h2⟩ := r.freeze h
    exact ⟨v, h1, q.at e r' v h2⟩
  · exact q.elim
theorem sim_vb (i : Nat) : SimB N W (tVar i) (eVB i) := fun M s σ H Q r q => by
  unfold eVB at q
  split at q
  · rename_i d h
    obtain ⟨v, h1, h2⟩ := r.sv i d h
    exact ⟨v, h1, q.here r v h2.rb⟩
  · rename_i l h
    obtain ⟨a, xs, h1, m, h2, h3⟩ := r.own i l h
    exact ⟨.ref a, h1, q.here r _ (.inr ⟨a, xs, l, i, rfl, rfl, m, h2, h3⟩)⟩
  · exact q.elim
end
end Z
/-! ## == of data -/
namespace Z
open PySem PySem.Spec L2 GxR
open PyProof.Rows hiding St
mutual
def D.py : D → PyData
  | .non => .none
  | .bl b => .bool b
  | .int i => .int i
  | .str n => .str (txt n)
  | .tup l => .tuple (D.pys l)
  | .lst l => .list (D.pys l)
  | .cell _ => .none
  | .scr _ => .none
  | .rng _ _ => .none
  | .dic _ => .none
  | .ft _ => .none
  | .fn _ => .none
def D.pys : List D → List PyData
  | [] => []
  | d :: l => D.py d :: D.pys l
end
mutual
/-- data that can be compared, of at most so many levels -/
def okD : Nat → D → Bool
  | _, .non => true
  | _, .bl _ => true
  | _, .int _ => true
  | _, .str n => decide (n < 70)
  | k + 1, .tup l => okDs k l
  | k + 1, .lst l => okDs k l
  | _, _ => false
def okDs : Nat → List D → Bool
  | _, [] => true
  | k, d :: l => okD k d && okDs k l
end
mutual
def eqD : D → D → Bool
  | .non, .non => true
  | .bl a, .bl b => a == b
  | .bl a, .int j => (if a then 1 else 0) == j
  | .int i, .bl b => i == (if b then 1 else 0)
  | .int i, .int j => i == j
  | .str x, .str y => x == y
  | .tup xs, .tup ys => eqDs xs ys
  | .lst xs, .lst ys => eqDs xs ys
  | _, _ => false
def eqDs : List D → List D → Bool
  | [], [] => true
  | x :: xs, y :: ys => eqD x y && eqDs xs ys
  | _, _ => false
end
section
variable {K : PySem.W.Frag} {M : MM} {H : Hp}
mutual
theorem R.dp : ∀ (d : D) (k : Nat) (v : V), R K M H v d → okD k d = true → Dp K H v d.py
  | .non, _, _, .non, _ => by rw [D.py]; exact .non
  | .bl b, _, _, .bl _, _ => by rw [D.py]; exact .bl b
  | .int i, _, _, .int _, _ => by rw [D.py]; exact .int i
  | .str n, _, _, .str _, _ => by rw [D.py]; exact .str _
  | .tup l, 0, _, _, h => by rw [okD] at h; cases h; all_goals (intros; contradiction)
  | .lst l, 0, _, _, h => by rw [okD] at h; cases h; all_goals (intros; contradiction)
  | .tup l, k + 1, _, .tup h1 h2, h => by
    rw [D.py]
    rw [okD] at h
    exact .tup h1.sq (RA.dp l k _ h2 h)
  | .lst l, k + 1, _, .lst _ h1 h2, h => by
    rw [D.py]
    rw [okD] at h
    exact .lst (.of h1) (RA.dp l k _ h2 h)
  | .cell _, k, _, _, h => by cases k <;> simp [okD] at h
  | .scr _, k, _, _, h => by cases k <;> simp [okD] at h
  | .rng _ _, k, _, _, h => by cases k <;> simp [okD] at h
  | .fn _, k, _, _, h => by cases k <;> simp [okD] at h
  | .dic _, k, _, _, h => by cases k <;> simp [okD] at h
  | .ft _, k, _, _, h => by cases k <;> simp [okD] at h
theorem RA.dp : ∀ (l : List D) (k : Nat) (vs : List V), RA K M H vs l → okDs k l = true → DpAll K H vs (D.pys l)
  | [], _, _, .nil, _ => by rw [D.pys]; exact .nil
  | d :: l, k, _, .cons h1 h2, h => by
    rw [D.pys]
    rw [okDs, Bool.and_eq_true] at h
    exact .cons (R.dp d k _ h1 h.1) (RA.dp l k _ h2 h.2)
end
theorem RB.dp {d : D} {k : Nat} {v : V} (h : RB K M H v d) (o : okD k d = true) : Dp K H v d.py := by
  rcases h with h | ⟨a, xs, l, i, rfl, rfl, _, h1, h2⟩
  · exact h.dp d k v o
  · cases k with
    | zero => rw [okD] at o; cases o; all_goals (intros; contradiction)
    | succ k =>
      rw [okD] at o
      rw [D.py]
      exact .lst (.of h1) (RA.dp l k _ h2 o)
end
mutual
theorem okD_lay : ∀ (d : D) (k : Nat), okD k d = true → d.py.canLay0 = true ∧ d.py.depth ≤ k
  | .non, _, _ => by rw [D.py]; exact ⟨rfl, by simp [PyData.depth]⟩
  | .bl b, _, _ => by rw [D.py]; exact ⟨rfl, by simp [PyData.depth]⟩
  | .int i, _, _ => by rw [D.py]; exact ⟨rfl, by simp [PyData.depth]⟩
  | .str n, k, h => by
    have hn : n < 70 := by cases k <;> simpa [okD] using h
    rw [D.py]
    exact ⟨by simp [PyData.canLay0, txt_ok hn], by simp [PyData.depth]⟩
  | .tup l, 0, h => by rw [okD] at h; cases h; all_goals (intros; contradiction)
  | .lst l, 0, h => by rw [okD] at h; cases h; all_goals (intros; contradiction)
  | .tup l, k + 1, h => by
    rw [okD] at h
    obtain ⟨h1, h2⟩ := okDs_lay l k h
    rw [D.py]
    exact ⟨by simpa [PyData.canLay0] using h1, by simp only [PyData.depth]; omega⟩
  | .lst l, k + 1, h => by
    rw [okD] at h
    obtain ⟨h1, h2⟩ := okDs_lay l k h
    rw [D.py]
    exact ⟨by simpa [PyData.canLay0] using h1, by simp only [PyData.depth]; omega⟩
  | .cell _, k, h => by cases k <;> simp [okD] at h
  | .scr _, k, h => by cases k <;> simp [okD] at h
  | .rng _ _, k, h => by cases k <;> simp [okD] at h
  | .fn _, k, h => by cases k <;> simp [okD] at h
  | .dic _, k, h => by cases k <;> simp [okD] at h
  | .ft _, k, h => by cases k <;> simp [okD] at h
theorem okDs_lay : ∀ (l : List D) (k : Nat), okDs k l = true → PyData.canLayAll0 (D.pys l) = true ∧ PyData.depthAll (D.pys l) ≤ k
  | [], _, _ => by rw [D.pys]; exact ⟨rfl, by simp [PyData.depthAll]⟩
  | d :: l, k, h => by
    rw [okDs, Bool.and_eq_true] at h
    obtain ⟨a1, a2⟩ := okD_lay d k h.1
    obtain ⟨b1, b2⟩ := okDs_lay l k h.2
    rw [D.pys]
    exact ⟨by simp [PyData.canLayAll0, a1, b1], by simp only [PyData.depthAll]; omega⟩
end
theorem okD_shaped {d : D} {k : Nat} (h : okD k d = true) (hk : k ≤ 64) : SeqAt.shaped d.py = true := by
  obtain ⟨h1, h2⟩ := okD_lay d k h
  show (d.py.canLay0 && decide (d.py.depth ≤ 64)) = true
  rw [h1, decide_eq_true (by omega)]
  rfl
mutual
theorem eqD_py : ∀ (d e : D) (k j : Nat), okD k d = true → okD j e = true → PyData.eqv d.py e.py = eqD d e
  | .cell _, _, k, _, h, _ => by cases k <;> simp [okD] at h
  | .scr _, _, k, _, h, _ => by cases k <;> simp [okD] at h
  | .rng _ _, _, k, _, h, _ => by cases k <;> simp [okD] at h
  | .fn _, _, k, _, h, _ => by cases k <;> simp [okD] at h
  | .dic _, _, k, _, h, _ => by cases k <;> simp [okD] at h
  | .ft _, _, k, _, h, _ => by cases k <;> simp [okD] at h
  | _, .cell _, _, k, _, h => by cases k <;> simp [okD] at h
  | _, .scr _, _, k, _, h => by cases k <;> simp [okD] at h
  | _, .rng _ _, _, k, _, h => by cases k <;> simp [okD] at h
  | _, .fn _, _, k, _, h => by cases k <;> simp [okD] at h
  | _, .dic _, _, k, _, h => by cases k <;> simp [okD] at h
  | _, .ft _, _, k, _, h => by cases k <;> simp [okD] at h
  | .tup l, _, 0, _, h, _ => by rw [okD] at h; cases h; all_goals (intros; contradiction)
  | .lst l, _, 0, _, h, _ => by rw [okD] at h; cases h; all_goals (intros; contradiction)
  | _, .tup l, _, 0, _, h => by rw [okD] at h; cases h; all_goals (intros; contradiction)
  | _, .lst l, _, 0, _, h => by rw [okD] at h; cases h; all_goals (intros; contradiction)
  | .tup l, .tup m, k + 1, j + 1, h, h' => by
    rw [okD] at h h'
    rw [D.py, D.py, eqD, PyData.eqv]
    exact eqDs_py l m k j h h'
  | .lst l, .lst m, k + 1, j + 1, h, h' => by
    rw [okD] at h h'
    rw [D.py, D.py, eqD, PyData.eqv]
    exact eqDs_py l m k j h h'
  | .str n, .str m, k, j, h, h' => by
    have hn : n < 70 := by cases k <;> simpa [okD] using h
    have hm : m < 70 := by cases j <;> simpa [okD] using h'
    rw [D.py, D.py, eqD, PyData.eqv, ← txt_dec hn hm]
    rw [Bool.eq_iff_iff]
    simp
  | .non, e, _, j, _, h' => by cases e <;> first | (simp [D.py, eqD, PyData.eqv]; done) | (cases j <;> simp [okD] at h')
  | .bl b, e, _, _, _, _ => by cases e <;> simp [D.py, eqD, PyData.eqv]
  | .int b, e, _, _, _, _ => by cases e <;> simp [D.py, eqD, PyData.eqv]
  | .str n, .non, _, _, _, _ => by simp [D.py, eqD, PyData.eqv]
  | .str n, .bl _, _, _, _, _ => by simp [D.py, eqD, PyData.eqv]
  | .str n, .int _, _, _, _, _ => by simp [D.py, eqD, PyData.eqv]
  | .str n, .tup _, _, _, _, _ => by simp [D.py, eqD, PyData.eqv]
  | .str n, .lst _, _, _, _, _ => by simp [D.py, eqD, PyData.eqv]
  | .tup n, .non, _, _, _, _ => by simp [D.py, eqD, PyData.eqv]
  | .tup n, .bl _, _, _, _, _ => by simp [D.py, eqD, PyData.eqv]
  | .tup n, .int _, _, _, _, _ => by simp [D.py, eqD, PyData.eqv]
  | .tup n, .str _, _, _, _, _ => by simp [D.py, eqD, PyData.eqv]
  | .tup n, .lst _, _, _, _, _ => by simp [D.py, eqD, PyData.eqv]
  | .lst n, .non, _, _, _, _ => by simp [D.py, eqD, PyData.eqv]
  | .lst n, .bl _, _, _, _, _ => by simp [D.py, eqD, PyData.eqv]
  | .lst n, .int _, _, _, _, _ => by simp [D.py, eqD, PyData.eqv]
  | .lst n, .str _, _, _, _, _ => by simp [D.py, eqD, PyData.eqv]
  | .lst n, .tup _, _, _, _, _ => by simp [D.py, eqD, PyData.eqv]
theorem eqDs_py : ∀ (l m : List D) (k j : Nat), okDs k l = true → okDs j m = true → PyData.eqvAll (D.pys l) (D.pys m) = eqDs l m
  | [], [], _, _, _, _ => by simp [D.pys, eqDs, PyData.eqvAll]
  | [], _ :: _, _, _, _, _ => by simp [D.pys, eqDs, PyData.eqvAll]
  | _ :: _, [], _, _, _, _ => by simp [D.pys, eqDs, PyData.eqvAll]
  | d :: l, e :: m, k, j, h, h' => by
    rw [okDs, Bool.and_eq_true] at h h'
    rw [D.pys, D.pys, eqDs, PyData.eqvAll, eqD_py d e k j h.1 h'.1, eqDs_py l m k j h.2 h'.2]
end
/-- x in l -/
def inD (x : D) (l : List D) : Bool := l.any fun z => eqD z x
theorem inD_py {x : D} {k j : Nat} (hx : okD j x = true) : ∀ {l : List D}, okDs k l = true → ((D.pys l).any fun z => PyData.eqv z x.py) = inD x l
  | [], _ => by simp [D.pys, inD]
  | d :: l, h => by
    rw [okDs, Bool.and_eq_true] at h
    have ih := inD_py hx h.2
    rw [D.pys, List.any_cons, eqD_py d x k j h.1 hx, ih]
    rfl
end Z
/-! ## operators by values -/
namespace Z
open PySem PySem.Spec L2 GxR
open PyProof.Rows hiding St
def OpSim (N : En) (r : R2) (g : D → D → Option D) : Prop :=
  ∀ (M : MM) (H : Hp) (cs : List Cell) (x y : V) (d e z : D) (Q : VK), RelC N M cs H → RB N.K M H x d → RB N.K M H y e → g d e = some z → (∀ H' v, Same H H' → R N.K M H' v z → Q v H') → r x y H Q
def addD : D → D → Option D
  | .int i, .int j => some (.int (i + j))
  | .tup a, .tup b => if a.length + b.length ≤ 100000 then some (.tup (a ++ b)) else none
  | .lst a, .lst b => if a.length + b.length ≤ 100000 then some (.lst (a ++ b)) else none
  | _, _ => none
def subD : D → D → Option D
  | .int i, .int j => some (.int (i - j))
  | _, _ => none
def mulD : D → D → Option D
  | .int i, .int j => if (-(2 ^ 64) < i ∧ i < 2 ^ 64) ∨ (-(2 ^ 64) < j ∧ j < 2 ^ 64) then some (.int (i * j)) else none
  | .lst a, .int j => if -(2 ^ 63) ≤ j ∧ j < 2 ^ 63 ∧ a.length * j.toNat ≤ 100000 then some (.lst (List.replicate j.toNat a).flatten) else none
  | .tup a, .int j => if a ≠ [] ∧ 2 ≤ j ∧ j ≤ 1000 ∧ a.length ≤ 1000 then some (.tup (List.replicate j.toNat a).flatten) else none
  | _, _ => none
def modD : D → D → Option D
  | .int i, .int j => if 0 < j then some (.int (i % j)) else none
  | _, _ => none
def fdivD : D → D → Option D
  | .int i, .int j => if 0 < j ∧ j < 1073741824 then some (.int (i / j)) else none
  | _, _ => none
def powD : D → D → Option D
  | .int i, .int j => if 0 ≤ j ∧ j ≤ 1000000 ∧ i.natAbs < 2 ^ 64 then some (.int (i ^ j.toNat)) else none
  | _, _ => none
def eqOp (d e : D) : Option D := if okD 60 d && okD 60 e then some (.bl (eqD d e)) else none
def neOp (d e : D) : Option D := if okD 60 d && okD 60 e then some (.bl (!eqD d e)) else none
def ltD : D → D → Option D
  | .int i, .int j => some (.bl (decide (i < j)))
  | _, _ => none
def leD : D → D → Option D
  | .int i, .int j => some (.bl (decide (i ≤ j)))
  | _, _ => none
def gtD : D → D → Option D
  | .int i, .int j => some (.bl (decide (j < i)))
  | _, _ => none
def geD : D → D → Option D
  | .int i, .int j => some (.bl (decide (j ≤ i)))
  | _, _ => none
def inOp (x : D) : D → Option D
  | .tup l => if okD 60 x && okDs 60 l then some (.bl (inD x l)) else none
  | .lst l => if okD 60 x && okDs 60 l then some (.bl (inD x l)) else none
  | _ => none
def notInOp (x : D) : D → Option D
  | .tup l => if okD 60 x && okDs 60 l then some (.bl (!inD x l)) else none
  | .lst l => if okD 60 x && okDs 60 l then some (.bl (!inD x l)) else none
  | _ => none
def isNon : D → Bool
  | .non => true
  | _ => false
def isNOp (d : D) : D → Option D
  | .non => some (.bl (isNon d))
  | _ => none
def notNOp (d : D) : D → Option D
  | .non => some (.bl (!isNon d))
  | _ => none
def ixD : D → D → Option D
  | .tup l, .int i => atI l i
  | .lst l, .int i => atI l i
  | _, _ => none
section
variable {N : En} {K : PySem.W.Frag} {M : MM} {H : Hp}
theorem len_line {n : Nat} (h : n ≤ 100000) : n ≤ sizeLine := Nat.le_trans h (by decide)
theorem lt_line {n : Nat} (h : n < 100000) : n < sizeLine := Nat.lt_of_lt_of_le h (by decide)
theorem RB.int {v : V} {i : Int} (h : RB K M H v (.int i)) : v = .int i := by
  rcases h with h | ⟨a, xs, l, i, rfl, e, _⟩
  · cases h; rfl
  · cases e
theorem RB.bl {v : V} {i : Bool} (h : RB K M H v (.bl i)) : v = .bl i := by
  rcases h with h | ⟨a, xs, l, i, rfl, e, _⟩
  · cases h; rfl
  · cases e
theorem RB.non {v : V} (h : RB K M H v .non) : v = .non := by
  rcases h with h | ⟨a, xs, l, i, rfl, e, _⟩
  · cases h; rfl
  · cases e
theorem RelC.newTup {cs : List Cell} (r : RelC N M cs H) {p : Addr} {xs : List V} {ds : List D} (h : H p = none) (q : RA N.K M H xs ds) : R N.K M (upd H p (.tup xs)) (.ref p) (.tup ds) :=
  .tup (.inl ⟨r.fresh h, .inl upd_same⟩) ((r.ext (Same.upd h)).ra q)
theorem RelC.newLst {cs : List Cell} (r : RelC N M cs H) {p : Addr} {xs : List V} {ds : List D} (h : H p = none) (q : RA N.K M H xs ds) : R N.K M (upd H p (.lst xs)) (.ref p) (.lst ds) :=
  .lst (r.fresh h) upd_same ((r.ext (Same.upd h)).ra q)
theorem RA.rep {xs : List V} {ds : List D} (q : RA K M H xs ds) : ∀ n : Nat, RA K M H (List.replicate n xs).flatten (List.replicate n ds).flatten
  | 0 => by simp only [List.replicate_zero, List.flatten_nil]; exact .nil
  | n + 1 => by
    simp only [List.replicate_succ, List.flatten_cons]
    exact q.append (q.rep n)
theorem RA.nil_iff {xs : List V} {ds : List D} (q : RA K M H xs ds) : xs = [] ↔ ds = [] := by
  cases q <;> simp
theorem sim_add : OpSim N (fun x y H Q => rI0 (fun i j => .int (i + j)) x y H Q ∨ (rCatA N.K x y H Q ∨ rCat x y H Q)) addD := by
  intro M H cs x y d e z Q rc hx hy hg q
  unfold addD at hg
  split at hg
  · cases hg
    exact .inl ⟨_, _, hx.int, hy.int, q _ _ (Same.refl _) (.int _)⟩
  · split at hg
    · rename_i hl
      cases hg
      obtain ⟨a, xs, rfl, h1, h2⟩ := hx.tup
      obtain ⟨b, ys, rfl, h3, h4⟩ := hy.tup
      refine .inr (.inl ⟨a, b, xs, ys, rfl, rfl, h1.sq, h3.sq, len_line (by rw [h2.length, h4.length]; exact hl), fun e => ?_, fun _ e => ?_, fun _ _ p np => ?_⟩)
      · subst e
        cases h2
        exact q _ _ (Same.refl _) (.tup h3 h4)
      · subst e
        cases h4
        rw [List.append_nil] at q
        exact q _ _ (Same.refl _) (.tup h1 h2)
      · exact q _ _ (Same.upd np) (rc.newTup np (h2.append h4))
    · cases hg
  · split at hg
    · rename_i hl
      cases hg
      obtain ⟨a, xs, rfl, h1, h2⟩ := hx.list
      obtain ⟨b, ys, rfl, h3, h4⟩ := hy.list
      exact .inr (.inr ⟨a, b, xs, ys, rfl, rfl, h1, h3, len_line (by rw [h2.length, h4.length]; exact hl), fun p np => q _ _ (Same.upd np) (rc.newLst np (h2.append h4))⟩)
    · cases hg
  · cases hg
theorem sim_sub : OpSim N (rI0 fun i j => .int (i - j)) subD := by
  intro M H cs x y d e z Q rc hx hy hg q
  unfold subD at hg
  split at hg
  · cases hg
    exact ⟨_, _, hx.int, hy.int, q _ _ (Same.refl _) (.int _)⟩
  · cases hg
theorem sim_mul : OpSim N (fun x y H Q => rI CMul (fun i j => .int (i * j)) x y H Q ∨ (rRep x y H Q ∨ rRepT N.K x y H Q)) mulD := by
  intro M H cs x y d e z Q rc hx hy hg q
  unfold mulD at hg
  split at hg
  · split at hg
    · rename_i hc
      cases hg
      exact .inl ⟨_, _, hx.int, hy.int, hc, q _ _ (Same.refl _) (.int _)⟩
    · cases hg
  · split at hg
    · rename_i hc
      cases hg
      obtain ⟨a, xs, rfl, h1, h2⟩ := hx.list
      have e2 := hy.int
      subst e2
      refine .inr (.inl ⟨a, _, xs, rfl, rfl, h1, hc.1, hc.2.1, len_line (by rw [h2.length]; exact hc.2.2), ?_⟩)
      exact fun p np => q _ _ (Same.upd np) (rc.newLst np (h2.rep _))
    · cases hg
  · split at hg
    · rename_i hc
      cases hg
      obtain ⟨a, xs, rfl, h1, h2⟩ := hx.tup
      have e2 := hy.int
      subst e2
      refine .inr (.inr ⟨a, _, xs, rfl, rfl, h1.sq, fun z => hc.1 (h2.nil_iff.mp z), hc.2.1, hc.2.2.1, by rw [h2.length]; exact hc.2.2.2, ?_⟩)
      exact fun p np => q _ _ (Same.upd np) (rc.newTup np (h2.rep _))
    · cases hg
  · cases hg
theorem sim_mod : OpSim N (rI (fun _ j => 0 < j) fun i j => .int (i % j)) modD := by
  intro M H cs x y d e z Q rc hx hy hg q
  unfold modD at hg
  split at hg
  · split at hg
    · rename_i hc
      cases hg
      exact ⟨_, _, hx.int, hy.int, hc, q _ _ (Same.refl _) (.int _)⟩
    · cases hg
  · cases hg
theorem sim_fdiv : OpSim N (rI CDiv fun i j => .int (i / j)) fdivD := by
  intro M H cs x y d e z Q rc hx hy hg q
  unfold fdivD at hg
  split at hg
  · split at hg
    · rename_i hc
      cases hg
      exact ⟨_, _, hx.int, hy.int, hc, q _ _ (Same.refl _) (.int _)⟩
    · cases hg
  · cases hg
theorem sim_pow : OpSim N (rI CPow fun i j => .int (i ^ j.toNat)) powD := by
  intro M H cs x y d e z Q rc hx hy hg q
  unfold powD at hg
  split at hg
  · split at hg
    · rename_i hc
      cases hg
      exact ⟨_, _, hx.int, hy.int, hc, q _ _ (Same.refl _) (.int _)⟩
    · cases hg
  · cases hg
theorem sim_eq : OpSim N (rEqD N.K) eqOp := by
  intro M H cs x y d e z Q rc hx hy hg q
  unfold eqOp at hg
  split at hg
  · rename_i hc
    rw [Bool.and_eq_true] at hc
    cases hg
    refine ⟨d.py, e.py, hx.dp hc.1, hy.dp hc.2, okD_shaped hc.1 (by decide), okD_shaped hc.2 (by decide), ?_⟩
    rw [eqD_py d e _ _ hc.1 hc.2]
    exact q _ _ (Same.refl _) (.bl _)
  · cases hg
theorem sim_ne : OpSim N (rNeD N.K) neOp := by
  intro M H cs x y d e z Q rc hx hy hg q
  unfold neOp at hg
  split at hg
  · rename_i hc
    rw [Bool.and_eq_true] at hc
    cases hg
    refine ⟨d.py, e.py, hx.dp hc.1, hy.dp hc.2, okD_shaped hc.1 (by decide), okD_shaped hc.2 (by decide), ?_⟩
    rw [eqD_py d e _ _ hc.1 hc.2]
    exact q _ _ (Same.refl _) (.bl _)
  · cases hg
theorem sim_lt : OpSim N (rI0 fun i j => .bl (decide (i < j))) ltD := by
  intro M H cs x y d e z Q rc hx hy hg q
  unfold ltD at hg
  split at hg
  · cases hg
    exact ⟨_, _, hx.int, hy.int, q _ _ (Same.refl _) (.bl _)⟩
  · cases hg
theorem sim_le : OpSim N (rI0 fun i j => .bl (decide (i ≤ j))) leD := by
  intro M H cs x y d e z Q rc hx hy hg q
  unfold leD at hg
  split at hg
  · cases hg
    exact ⟨_, _, hx.int, hy.int, q _ _ (Same.refl _) (.bl _)⟩
  · cases hg
theorem sim_gt : OpSim N (rI0 fun i j => .bl (decide (j < i))) gtD := by
  intro M H cs x y d e z Q rc hx hy hg q
  unfold gtD at hg
  split at hg
  · cases hg
    exact ⟨_, _, hx.int, hy.int, q _ _ (Same.refl _) (.bl _)⟩
  · cases hg
/-- x in t, x in l: any data -/
def rInA (K : PySem.W.Frag) (neg : Bool) : R2 := fun x y H Q => ∃ d ds, Dp K H x d ∧ (Dp K H y (.tuple ds) ∨ Dp K H y (.list ds)) ∧ SeqAt.shaped d = true ∧ SeqAt.shaped (.tuple ds) = true ∧ Q (.bl (if neg then !(ds.any fun z => PyData.eqv z d) else ds.any fun z => PyData.eqv z d)) H
theorem op_inA {X : Cx} (hK : X.K = N.K) (hu : X.A.units + 65 < cLine) : OpR X (compareOp .In) (rInA N.K false) := by
  intro pins s σ H x y v u Q I rx ry h
  rw [← hK] at h
  obtain ⟨d, ds, hd, he, sd, se, q⟩ := h
  obtain ⟨as, r1⟩ := Dp.reads I d x v hd rx
  rcases he with he | he
  · obtain ⟨bs, r2⟩ := Dp.reads I (.tuple ds) y u he ry
    exact SeqAt.in_tuple_reads r2 r1 (SeqAt.canLay_of_shaped se) (SeqAt.canLay_of_shaped sd) (PyProof.Rows.room_in_shaped sd hu) ⟨.bl _, H, I, rfl, q⟩
  · obtain ⟨bs, r2⟩ := Dp.reads I (.list ds) y u he ry
    exact SeqAt.in_list_reads r2 r1 (SeqAt.canLay_of_shaped (d := .list ds) se) (SeqAt.canLay_of_shaped sd) (PyProof.Rows.room_in_shaped sd hu) ⟨.bl _, H, I, rfl, q⟩
theorem op_notInA {X : Cx} (hK : X.K = N.K) (hu : X.A.units + 65 < cLine) : OpR X (compareOp .NotIn) (rInA N.K true) := by
  intro pins s σ H x y v u Q I rx ry h
  rw [← hK] at h
  obtain ⟨d, ds, hd, he, sd, se, q⟩ := h
  obtain ⟨as, r1⟩ := Dp.reads I d x v hd rx
  rcases he with he | he
  · obtain ⟨bs, r2⟩ := Dp.reads I (.tuple ds) y u he ry
    exact SeqAt.notIn_tuple_reads r2 r1 (SeqAt.canLay_of_shaped se) (SeqAt.canLay_of_shaped sd) (PyProof.Rows.room_in_shaped sd hu) ⟨.bl _, H, I, rfl, q⟩
  · obtain ⟨bs, r2⟩ := Dp.reads I (.list ds) y u he ry
    exact SeqAt.notIn_list_reads r2 r1 (SeqAt.canLay_of_shaped (d := .list ds) se) (SeqAt.canLay_of_shaped sd) (PyProof.Rows.room_in_shaped sd hu) ⟨.bl _, H, I, rfl, q⟩
theorem shaped_seq {l : List D} (h : okDs 60 l = true) : SeqAt.shaped (.tuple (D.pys l)) = true := by
  have : okD 61 (.tup l) = true := by rw [okD]; exact h
  have := okD_shaped this (by decide)
  rw [D.py] at this
  exact this
theorem RB.seq {x : V} {d : D} {l : List D} (h : RB K M H x d) (o : okDs 60 l = true) (e : d = .tup l ∨ d = .lst l) : Dp K H x (.tuple (D.pys l)) ∨ Dp K H x (.list (D.pys l)) := by
  rcases e with rfl | rfl
  · have := h.dp (k := 61) (by rw [okD]; exact o)
    rw [D.py] at this
    exact .inl this
  · have := h.dp (k := 61) (by rw [okD]; exact o)
    rw [D.py] at this
    exact .inr this
theorem sim_in : OpSim N (rInA N.K false) inOp := by
  intro M H cs x y d e z Q rc hx hy hg q
  unfold inOp at hg
  split at hg <;> first | (cases hg; done) | skip
  all_goals
    split at hg
    · rename_i l hc
      rw [Bool.and_eq_true] at hc
      cases hg
      refine ⟨d.py, D.pys l, hx.dp hc.1, hy.seq hc.2 (by first | exact .inl rfl | exact .inr rfl), okD_shaped hc.1 (by decide), shaped_seq hc.2, ?_⟩
      rw [inD_py hc.1 hc.2]
      exact q _ _ (Same.refl _) (.bl _)
    · cases hg
theorem sim_notIn : OpSim N (rInA N.K true) notInOp := by
  intro M H cs x y d e z Q rc hx hy hg q
  unfold notInOp at hg
  split at hg <;> first | (cases hg; done) | skip
  all_goals
    split at hg
    · rename_i l hc
      rw [Bool.and_eq_true] at hc
      cases hg
      refine ⟨d.py, D.pys l, hx.dp hc.1, hy.seq hc.2 (by first | exact .inl rfl | exact .inr rfl), okD_shaped hc.1 (by decide), shaped_seq hc.2, ?_⟩
      rw [inD_py hc.1 hc.2]
      exact q _ _ (Same.refl _) (.bl _)
    · cases hg
theorem RA.at {xs : List V} {ds : List D} {i : Int} {d : D} (q : RA K M H xs ds) (h : atI ds i = some d) : ∃ v, atI xs i = some v ∧ R K M H v d := by
  unfold atI at h ⊢
  rw [q.length]
  cases e : ixN ds.length i with
  | none => rw [e] at h; cases h
  | some j =>
    rw [e] at h
    exact q.get h
theorem sim_ix : OpSim N (rIx N.K) ixD := by
  intro M H cs x y d e z Q rc hx hy hg q
  unfold ixD at hg
  split at hg
  · obtain ⟨a, xs, rfl, h1, h2⟩ := hx.tup
    have e2 := hy.int
    subst e2
    obtain ⟨v, k1, k2⟩ := h2.at hg
    exact .inr (.inl ⟨a, xs, _, v, rfl, rfl, h1.sq, k1, q _ _ (Same.refl _) k2⟩)
  · obtain ⟨a, xs, rfl, h1, h2⟩ := hx.list
    have e2 := hy.int
    subst e2
    obtain ⟨v, k1, k2⟩ := h2.at hg
    exact .inl ⟨a, xs, _, v, rfl, rfl, .of h1, k1, q _ _ (Same.refl _) k2⟩
  · cases hg
end
end Z
/-! ## expressions -/
namespace Z
open PySem PySem.Spec L2 GxR
open PyProof.Rows hiding St
def lift (r : Option D) (s : S) : Res D := match r with
  | some z => .ok z s
  | none => .stuck
def eOp (g : D → D → Option D) (fa fb : Ex) : Ex := fun s => (fa s).bind fun x s1 => (fb s1).bind fun y s2 => lift (g x y) s2
/-- the left side is the name in slot i: read when the right side is there -/
def slotD (i : Nat) (s : S) : Option D := match s.ρ[i]? with
  | some (.sv d) => some d
  | some (.own l) => some (.lst l)
  | _ => none
def eOpL (g : D → D → Option D) (i : Nat) (fb : Ex) : Ex := fun s => match slotD i s with
  | some _ => (fb s).bind fun y s2 => (match slotD i s2 with
    | some x => lift (g x y) s2
    | none => .stuck)
  | none => .stuck
def eNot (f : Ex) : Ex := fun s => (f s).bind fun x s1 => match x with
  | .bl b => .ok (.bl (!b)) s1
  | _ => .stuck
def eNeg (f : Ex) : Ex := fun s => (f s).bind fun x s1 => match x with
  | .int b => .ok (.int (-b)) s1
  | _ => .stuck
def eAnd (f g : Ex) : Ex := fun s => (f s).bind fun x s1 => match x with
  | .bl true => g s1
  | .bl false => .ok (.bl false) s1
  | _ => .stuck
def eOr (f g : Ex) : Ex := fun s => (f s).bind fun x s1 => match x with
  | .bl true => .ok (.bl true) s1
  | .bl false => g s1
  | _ => .stuck
def eIf (t : Ts) (f g : Ex) : Ex := fun s => (t s).bind fun b s1 => if b = true then f s1 else g s1
def eChain (g g' : D → D → Option D) (fa fb fc : Ex) : Ex := fun s => (fa s).bind fun x s1 => (fb s1).bind fun y s2 => match g x y with
  | some (.bl true) => (fc s2).bind fun z s3 => lift (g' y z) s3
  | some (.bl false) => .ok (.bl false) s2
  | _ => .stuck
def tV (f : Ex) : Ts := fun s => (f s).bind fun x s1 => match x with
  | .bl b => .ok b s1
  | _ => .stuck
def tN (t : Ts) : Ts := fun s => (t s).bind fun b s1 => .ok (!b) s1
def tA (t u : Ts) : Ts := fun s => (t s).bind fun b s1 => if b = true then u s1 else .ok false s1
def tO (t u : Ts) : Ts := fun s => (t s).bind fun b s1 => if b = true then .ok true s1 else u s1
/-- truth -/
def truD : D → Option Bool
  | .non => some false
  | .bl b => some b
  | .int i => some (i != 0)
  | .tup l => some (!l.isEmpty)
  | .lst l => some (!l.isEmpty)
  | _ => none
def tU (f : Ex) : Ts := fun s => (f s).bind fun x s1 => match truD x with
  | some b => .ok b s1
  | none => .stuck
def aNil : As := fun s => .ok [] s
def aCons (f : Ex) (g : As) : As := fun s => (f s).bind fun x s1 => (g s1).bind fun xs s2 => .ok (x :: xs) s2
def eTup (f : As) : Ex := fun s => (f s).bind fun ds s1 => .ok (.tup ds) s1
def eF (f : As) : Ex := fun s => (f s).bind fun ds s1 => .ok (.lst ds) s1
section
variable {N : En} {W : WX} {X : Cx} {e a b c : Expr} {es rest : List Expr} {pos : Pos} {f g fa fb fc : Ex} {t u : Ts} {fs : As} {r r' : R2} {G G' : D → D → Option D}
theorem GoodE.lift {σ : St} {M : MM} {H : Hp} {o : Option D} {s : S} {Φ : MM → Hp → D → S → Prop} (h : GoodE N W σ M H (Z.lift o s) Φ) (q : Rel N M s σ H) : ∃ z, o = some z ∧ Φ M H z s := by
  cases o with
  | none => exact h.elim
  | some z => exact ⟨z, rfl, h.here q⟩
/-- a rule's end: the value came, the heap may have grown -/
theorem GoodE.grown {σ : St} {M : MM} {H H' : Hp} {z : D} {s : S} {Φ : MM → Hp → D → S → Prop} (h : GoodE N W σ M H (.ok z s) Φ) (q : Rel N M s σ H) (k : Same H H') : Φ M H' z s := h.at (q.ext k) (q.same k)
theorem sim_op (hr : OpSim N r G) {ta tb : TE} (ha : SimE N W ta fa) (hb : SimB N W tb fb) : SimE N W (tOp r ta tb) (eOp G fa fb) := fun M s σ H Q rl q => by
  refine ha M s σ H _ rl (q.bind.imp fun M1 H1 x s1 e1 r1 q1 v1 h1 => ?_)
  refine hb M1 s1 σ H1 _ r1 (q1.bind.imp fun M2 H2 y s2 e2 r2 q2 v2 h2 => ?_)
  cases hz : G x y with
  | none => rw [hz] at q2; exact q2.elim
  | some z =>
    rw [hz] at q2
    exact hr M2 H2 s2.cs v1 v2 x y z Q r2.toRelC (e2.r h1).rb h2 hz fun H3 v3 k h3 => q2.grown r2 k v3 h3
theorem slot_rb {M : MM} {s : S} {σ : St} {H : Hp} {i : Nat} {d : D} (rl : Rel N M s σ H) (h : slotD i s = some d) : ∃ v, σ[i]? = some (some v) ∧ RB N.K M H v d := by
  unfold slotD at h
  split at h
  · rename_i d' h1
    cases h
    obtain ⟨v, k1, k2⟩ := rl.sv i _ h1
    exact ⟨v, k1, k2.rb⟩
  · rename_i l h1
    cases h
    obtain ⟨a, xs, k1, m, k2, k3⟩ := rl.own i _ h1
    exact ⟨_, k1, .inr ⟨a, xs, l, i, rfl, rfl, m, k2, k3⟩⟩
  · cases h
theorem sim_opL (hr : OpSim N r G) {i : Nat} {tb : TE} (hb : SimB N W tb fb) : SimE N W (tOp r (tVar i) tb) (eOpL G i fb) := fun M s σ H Q rl q => by
  unfold eOpL at q
  split at q
  · rename_i d0 h0
    obtain ⟨v, k1, _⟩ := slot_rb rl h0
    refine ⟨v, k1, ?_⟩
    refine hb M s σ H _ rl (q.bind.imp fun M2 H2 y s2 e2 r2 q2 v2 h2 => ?_)
    split at q2
    · rename_i x hx
      obtain ⟨v', k1', k2⟩ := slot_rb r2 hx
      rw [k1] at k1'
      cases k1'
      cases hz : G x y with
      | none => rw [hz] at q2; exact q2.elim
      | some z =>
        rw [hz] at q2
        exact hr M2 H2 s2.cs v v2 x y z Q r2.toRelC k2 h2 hz fun H3 v3 k h3 => q2.grown r2 k v3 h3
    · exact q2.elim
  · exact q.elim
theorem se_op {op : Operator} (ho : OpR X (binaryOp op) r) (hr : OpSim N r G) (ha : SE N W X a fa) (hb : SB N W X b fb) : SE N W X (.BinOp a op b pos) (eOp G fa fb) := by
  obtain ⟨ta, pa, sa⟩ := ha
  obtain ⟨tb, pb, sb⟩ := hb
  exact ⟨_, pe_op ho pa pb, sim_op hr sa sb⟩
theorem se_cmp {op : CmpOp} (ho : OpR X (compareOp op) r) (hr : OpSim N r G) (ha : SE N W X a fa) (hb : SB N W X b fb) (hm : behindInMarks op b = false) : SE N W X (.Compare a [op] [b] pos) (eOp G fa fb) := by
  obtain ⟨ta, pa, sa⟩ := ha
  obtain ⟨tb, pb, sb⟩ := hb
  exact ⟨_, pe_cmpR ho pa pb hm, sim_op hr sa sb⟩
theorem se_ix (ho : IxR X r) (hr : OpSim N r G) (ha : SE N W X a fa) (hb : SB N W X b fb) (hs : PlainIx b) : SE N W X (.Subscript a b pos) (eOp G fa fb) := by
  obtain ⟨ta, pa, sa⟩ := ha
  obtain ⟨tb, pb, sb⟩ := hb
  exact ⟨_, pe_ix ho pa pb hs, sim_op hr sa sb⟩
theorem se_ixL {i : Nat} (ho : IxR X r) (hr : OpSim N r G) (pa : PE X a (tVar i)) (hb : SB N W X b fb) (hs : PlainIx b) : SE N W X (.Subscript a b pos) (eOpL G i fb) := by
  obtain ⟨tb, pb, sb⟩ := hb
  exact ⟨_, pe_ix ho pa pb hs, sim_opL hr sb⟩
theorem se_not (ha : SE N W X a fa) : SE N W X (.UnaryOp .Not a pos) (eNot fa) := by
  obtain ⟨ta, pa, sa⟩ := ha
  refine ⟨_, pe_not pa, fun M s σ H Q rl q => sa M s σ H _ rl (q.bind.imp fun M1 H1 x s1 e1 r1 q1 v1 h1 => ?_)⟩
  split at q1
  · cases h1
    exact ⟨_, rfl, q1.here r1 _ (.bl _)⟩
  · exact q1.elim
theorem se_one {op : BoolOp} (ha : SE N W X a fa) : SE N W X (.BoolOp op [a] pos) fa := by
  obtain ⟨ta, pa, sa⟩ := ha
  exact ⟨_, pe_one pa, sa⟩
theorem se_and (ha : SE N W X a fa) (hb : SE N W X (.BoolOp .And (b :: rest) pos) fb) : SE N W X (.BoolOp .And (a :: b :: rest) pos) (eAnd fa fb) := by
  obtain ⟨ta, pa, sa⟩ := ha
  obtain ⟨tb, pb, sb⟩ := hb
  refine ⟨_, pe_and pa pb, fun M s σ H Q rl q => sa M s σ H _ rl (q.bind.imp fun M1 H1 x s1 e1 r1 q1 v1 h1 => ?_)⟩
  split at q1
  · cases h1
    exact ⟨_, rfl, iteT (sb M1 s1 σ H1 _ r1 q1)⟩
  · cases h1
    exact ⟨_, rfl, iteF (q1.here r1 _ (.bl _))⟩
  · exact q1.elim
theorem se_or (ha : SE N W X a fa) (hb : SE N W X (.BoolOp .Or (b :: rest) pos) fb) : SE N W X (.BoolOp .Or (a :: b :: rest) pos) (eOr fa fb) := by
  obtain ⟨ta, pa, sa⟩ := ha
  obtain ⟨tb, pb, sb⟩ := hb
  refine ⟨_, pe_or pa pb, fun M s σ H Q rl q => sa M s σ H _ rl (q.bind.imp fun M1 H1 x s1 e1 r1 q1 v1 h1 => ?_)⟩
  split at q1
  · cases h1
    exact ⟨_, rfl, iteT (q1.here r1 _ (.bl _))⟩
  · cases h1
    exact ⟨_, rfl, iteF (sb M1 s1 σ H1 _ r1 q1)⟩
  · exact q1.elim
theorem se_if (ht : ST N W X c t) (ha : SE N W X a fa) (hb : SE N W X b fb) : SE N W X (.IfExp c a b pos) (eIf t fa fb) := by
  obtain ⟨tc, pc, sc⟩ := ht
  obtain ⟨ta, pa, sa⟩ := ha
  obtain ⟨tb, pb, sb⟩ := hb
  refine ⟨_, pe_ifExp pc pa pb, fun M s σ H Q rl q => sc M s σ H _ rl (q.bind.imp fun M1 H1 x s1 e1 r1 q1 => ?_)⟩
  cases x with
  | true => exact iteT (sa M1 s1 σ H1 _ r1 q1)
  | false => exact iteF (sb M1 s1 σ H1 _ r1 q1)
theorem sim_chain (hr : OpSim N r G) (hr' : OpSim N r' G') {ta tb tc : TE} (ha : SimE N W ta fa) (hb : SimE N W tb fb) (hc : SimB N W tc fc) : SimE N W (tChain r r' ta tb tc) (eChain G G' fa fb fc) := fun M s σ H Q rl q => by
  refine ha M s σ H _ rl (q.bind.imp fun M1 H1 x s1 e1 r1 q1 v1 h1 => ?_)
  refine hb M1 s1 σ H1 _ r1 (q1.bind.imp fun M2 H2 y s2 e2 r2 q2 v2 h2 => ?_)
  split at q2
  · rename_i hz
    refine hr M2 H2 s2.cs v1 v2 x y _ _ r2.toRelC (e2.r h1).rb h2.rb hz fun H3 v3 k h3 => ?_
    cases h3
    refine ⟨_, rfl, iteT ?_⟩
    refine hc M2 s2 σ H3 _ (r2.same k) ((GoodE.rebase q2 (r2.ext k)).bind.imp fun M4 H4 w s4 e4 r4 q4 v4 h4 => ?_)
    cases hw : G' y w with
    | none => rw [hw] at q4; exact q4.elim
    | some z =>
      rw [hw] at q4
      exact hr' M4 H4 s4.cs v2 v4 y w z Q r4.toRelC (e4.r ((r2.ext k).r h2)).rb h4 hw fun H5 v5 k5 h5 => q4.grown r4 k5 v5 h5
  · rename_i hz
    refine hr M2 H2 s2.cs v1 v2 x y _ _ r2.toRelC (e2.r h1).rb h2.rb hz fun H3 v3 k h3 => ?_
    cases h3
    exact ⟨_, rfl, iteF (q2.grown r2 k _ (.bl _))⟩
  · exact q2.elim
theorem se_chain {op op' : CmpOp} (ho : OpR X (compareOp op) r) (hr : OpSim N r G) (ho' : OpR X (compareOp op') r') (hr' : OpSim N r' G') (ha : SE N W X a fa) (hb : SE N W X b fb) (hc : SB N W X c fc)
    (hm : lastMarks [op, op'] [b, c] = false := by with_unfolding_all rfl) : SE N W X (.Compare a [op, op'] [b, c] pos) (eChain G G' fa fb fc) := by
  obtain ⟨ta, pa, sa⟩ := ha
  obtain ⟨tb, pb, sb⟩ := hb
  obtain ⟨tc, pc, sc⟩ := hc
  exact ⟨_, pe_chain ho ho' pa pb pc hm, sim_chain hr hr' sa sb sc⟩
/-! ### tests -/
theorem sim_tv {te : TE} (h : SimE N W te f) : SimT N W (tB te) (tV f) := fun M s σ H Q rl q => h M s σ H _ rl (q.bind.imp fun M1 H1 x s1 e1 r1 q1 v1 h1 => by
  split at q1
  · cases h1
    exact ⟨_, rfl, q1.here r1⟩
  · exact q1.elim)
theorem st_cmp {op : CmpOp} (ho : OpR X (compareOp op) r) (hr : OpSim N r G) (ha : SE N W X a fa) (hb : SB N W X b fb) (hm : behindInMarks op b = false) : ST N W X (.Compare a [op] [b] pos) (tV (eOp G fa fb)) := by
  obtain ⟨ta, pa, sa⟩ := ha
  obtain ⟨tb, pb, sb⟩ := hb
  exact ⟨_, pt_cmpR ho pa pb hm, sim_tv (sim_op hr sa sb)⟩
theorem st_not (h : ST N W X e t) : ST N W X (.UnaryOp .Not e pos) (tN t) := by
  obtain ⟨te, pe, se⟩ := h
  exact ⟨_, pt_not pe, fun M s σ H Q rl q => se M s σ H _ rl (q.bind.imp fun M1 H1 x s1 e1 r1 q1 => q1.here r1)⟩
theorem sw_pt (h : SW N W X e t) : ST N W X e t := by
  obtain ⟨te, pe, se⟩ := h
  exact ⟨_, pe.pt, se⟩
theorem sw_and1 (h : ST N W X a t) : SW N W X (.BoolOp .And [a] pos) t := by
  obtain ⟨te, pe, se⟩ := h
  exact ⟨_, pw_and1 pe, se⟩
theorem sw_or1 (h : ST N W X a t) : SW N W X (.BoolOp .Or [a] pos) t := by
  obtain ⟨te, pe, se⟩ := h
  exact ⟨_, pw_or1 pe, se⟩
theorem sw_and (ha : ST N W X a t) (hb : SW N W X (.BoolOp .And (b :: rest) pos) u) : SW N W X (.BoolOp .And (a :: b :: rest) pos) (tA t u) := by
  obtain ⟨ta, pa, sa⟩ := ha
  obtain ⟨tb, pb, sb⟩ := hb
  refine ⟨_, pw_and pa pb, fun M s σ H Q rl q => sa M s σ H _ rl (q.bind.imp fun M1 H1 x s1 e1 r1 q1 => ?_)⟩
  cases x with
  | true => exact iteT (sb M1 s1 σ H1 _ r1 q1)
  | false => exact iteF (q1.here r1)
theorem sw_or (ha : ST N W X a t) (hb : SW N W X (.BoolOp .Or (b :: rest) pos) u) : SW N W X (.BoolOp .Or (a :: b :: rest) pos) (tO t u) := by
  obtain ⟨ta, pa, sa⟩ := ha
  obtain ⟨tb, pb, sb⟩ := hb
  refine ⟨_, pw_or pa pb, fun M s σ H Q rl q => sa M s σ H _ rl (q.bind.imp fun M1 H1 x s1 e1 r1 q1 => ?_)⟩
  cases x with
  | true => exact iteT (q1.here r1)
  | false => exact iteF (sb M1 s1 σ H1 _ r1 q1)
theorem RB.tru {M : MM} {H : Hp} {v : V} {d : D} {k : Bool} (h : RB N.K M H v d) (ht : truD d = some k) : TruV N.K v H k := by
  unfold truD at ht
  split at ht
  · cases ht
    rw [h.non]
    exact rfl
  · cases ht
    rw [h.bl]
    exact rfl
  · cases ht
    rw [h.int]
    exact rfl
  · cases ht
    obtain ⟨a, xs, rfl, h1, h2⟩ := h.tup
    refine .inr (.inl ⟨xs, h1.sq, ?_⟩)
    cases h2 <;> rfl
  · cases ht
    obtain ⟨a, xs, rfl, h1, h2⟩ := h.list
    refine .inl ⟨xs, .of h1, ?_⟩
    cases h2 <;> rfl
  · cases ht
theorem st_tru (hK : X.K = N.K) (h : SB N W X e f) (he : ∀ whole, isTrue e X.env whole = (do let v ← whole; standAt e.pos; holding [v] (truthy v)) := by intro _; rfl) : ST N W X e (tU f) := by
  obtain ⟨te, pe, se⟩ := h
  refine ⟨_, pt_truth pe he, fun M s σ H Q rl q => se M s σ H _ rl (q.bind.imp fun M1 H1 x s1 e1 r1 q1 v1 h1 => ?_)⟩
  split at q1
  · rename_i b hb
    rw [hK]
    exact ⟨b, h1.tru hb, q1.here r1⟩
  · exact q1.elim
/-! ### argument lists, displays -/
theorem sa_nil : SA N W X [] aNil := ⟨_, pa_nil, fun M s σ H Q rl q => q.here rl _ .nil, fun s ds s' h => by cases h; rfl⟩
theorem sa_cons (ha : SE N W X e f) (hr : SA N W X es fs) (hs : starEach (e :: es) X.env = (false, eval e X.env) :: starEach es X.env := by rfl) : SA N W X (e :: es) (aCons f fs) := by
  obtain ⟨ta, pa, sa⟩ := ha
  obtain ⟨tr, pr, sr, hl⟩ := hr
  refine ⟨_, pa_cons pa pr hs, fun M s σ H Q rl q => sa M s σ H _ rl (q.bind.imp fun M1 H1 x s1 e1 r1 q1 v1 h1 => sr M1 s1 σ H1 _ r1 (q1.bind.imp fun M2 H2 xs s2 e2 r2 q2 vs h2 => q2.here r2 _ (.cons (e2.r h1) h2))), fun s ds s' h => ?_⟩
  unfold aCons Res.bind at h
  split at h
  · dsimp only at h
    split at h
    · cases h
      rename_i x s1 _ xs s2 h2
      rw [List.length_cons, List.length_cons, hl _ _ _ h2]
    · cases h
    · cases h
  · cases h
  · cases h
theorem sa_run {t : TA} {σ : St} {M : MM} {H : Hp} {s : S} {Q : List V → Hp → Prop} {α : Type} {k : List D → S → Res α} {Φ : MM → Hp → α → S → Prop} (st : SimA N W t fs) (hn : ∀ s ds s', fs s = .ok ds s' → ds.length = es.length) (rl : Rel N M s σ H)
    (q : GoodE N W σ M H ((fs s).bind k) Φ) (f : ∀ M1 H1 ds s1 vs, Ext M H M1 H1 → Rel N M1 s1 σ H1 → GoodE N W σ M1 H1 (k ds s1) Φ → RA N.K M1 H1 vs ds → ds.length = es.length → Q vs H1) : t σ H Q := by
  have q1 := q.bind
  refine st M s σ H _ rl ?_
  cases hf : fs s with
  | stuck => rw [hf] at q1; exact q1.elim
  | exc c d s1 => rw [hf] at q1; exact q1
  | ok ds s1 =>
    rw [hf] at q1
    exact fun M1 H1 e1 r1 vs h1 => f M1 H1 ds s1 vs e1 r1 (q1 M1 H1 e1 r1) h1 (hn s ds s1 hf)
theorem se_tup {k : Nat} (h : SA N W X es fs) (hl : es.length ≤ 100000 := by decide) : SE N W X (.Tuple es k pos) (eTup fs) := by
  obtain ⟨t, pt, st, hn⟩ := h
  refine ⟨_, pe_tup pt, fun M s σ H Q rl q => sa_run (es := es) st hn rl q fun M1 H1 ds s1 vs e1 r1 q1 h1 h2 => ?_⟩
  exact ⟨len_line (by rw [h1.length, h2]; exact hl), fun p np => q1.grown r1 (Same.upd np) _ (r1.toRelC.newTup np h1)⟩
theorem sf_lst (h : SA N W X es fs) (hl : es.length ≤ 100000 := by decide) : SF N W X (.List es pos) fs := by
  obtain ⟨t, pt, st, hn⟩ := h
  refine ⟨_, pe_lst pt, fun M s σ H Q rl q => ?_⟩
  refine st M s σ H _ rl ?_
  cases hf : fs s with
  | stuck => rw [hf] at q; exact q.elim
  | exc c d s1 => rw [hf] at q; exact q
  | ok ds s1 =>
    rw [hf] at q
    refine fun M1 H1 e1 r1 vs h1 => ⟨len_line (by rw [h1.length, hn s ds s1 hf]; exact hl), fun p np => ?_⟩
    obtain ⟨_, e⟩ := r1.toRelC.laid (xs := vs) np
    exact q _ _ (e1.trans e) (r1.laid np) p vs (e1.fresh rl.toRelC np) own1_same upd_same (e.ra h1)
/-- a new list as a datum -/
theorem se_f {fs : As} (h : SF N W X e fs) : SE N W X e (eF fs) := by
  obtain ⟨t, pt, st⟩ := h
  refine ⟨_, pt, fun M s σ H Q rl q => st M s σ H _ rl ?_⟩
  unfold eF at q
  cases hf : fs s with
  | stuck => rw [hf] at q; exact q.elim
  | exc c d s1 => rw [hf] at q; exact q
  | ok ds s1 =>
    rw [hf] at q
    refine fun M1 H1 e1 r1 p xs f m hp h1 => ?_
    exact q _ _ (e1.ownW f) (r1.ownW m (by intro n z; cases z)) _ (.lst own1_same hp ((ext0_own m).ra h1))
end
end Z
/-! ## built-ins, slices -/
namespace Z
open PySem PySem.Spec L2 GxR
open PyProof.Rows hiding St
def CallSim (N : En) (r : List V → Hp → VK → Prop) (g : D → Option D) : Prop :=
  ∀ (M : MM) (H : Hp) (cs : List Cell) (x : V) (d z : D) (Q : VK), RelC N M cs H → RB N.K M H x d → g d = some z → (∀ H' v, Same H H' → R N.K M H' v z → Q v H') → r [x] H Q
/-- a new list comes -/
def CallSimF (N : En) (r : List V → Hp → VK → Prop) (g : D → Option (List D)) : Prop :=
  ∀ (M : MM) (H : Hp) (cs : List Cell) (x : V) (d : D) (z : List D) (Q : VK), RelC N M cs H → RB N.K M H x d → g d = some z → (∀ p xs, H p = none → RA N.K M H xs z → Q (.ref p) (upd H p (.lst xs))) → r [x] H Q
def eC1 (g : D → Option D) (f : Ex) : Ex := fun s => (f s).bind fun x s1 => lift (g x) s1
def liftL (r : Option (List D)) (s : S) : Res (List D) := match r with
  | some z => .ok z s
  | none => .stuck
def aC1 (g : D → Option (List D)) (f : Ex) : As := fun s => (f s).bind fun x s1 => liftL (g x) s1
def lenD : D → Option D
  | .tup l => some (.int l.length)
  | .lst l => some (.int l.length)
  | _ => none
def absD : D → Option D
  | .int i => some (.int (if i < 0 then -i else i))
  | _ => none
def intD : D → Option D
  | .int i => some (.int i)
  | .bl k => some (.int (if k then 1 else 0))
  | _ => none
def tupD : D → Option D
  | .lst l => some (.tup l)
  | .tup l => some (.tup l)
  | _ => none
def boolsD : List D → Option (List Bool)
  | [] => some []
  | .bl b :: l => (boolsD l).map (b :: ·)
  | _ => none
def intsD : List D → Option (List Int)
  | [] => some []
  | .int b :: l => (intsD l).map (b :: ·)
  | _ => none
def allD : D → Option D
  | .lst l => (boolsD l).map fun bs => .bl (bs.all id)
  | _ => none
def anyD : D → Option D
  | .lst l => (boolsD l).map fun bs => .bl (bs.any id)
  | _ => none
def minTD : D → Option D
  | .tup (.int n :: l) => (intsD l).map fun ns => .int (ns.foldl min n)
  | _ => none
def maxTD : D → Option D
  | .tup (.int n :: l) => (intsD l).map fun ns => .int (ns.foldl max n)
  | _ => none
def listD : D → Option (List D)
  | .lst l => some l
  | .tup l => some l
  | .scr l => some (l.map D.int)
  | _ => none
theorem bools_map : ∀ bs : List Bool, boolsD (bs.map D.bl) = some bs
  | [] => rfl
  | b :: bs => by rw [List.map_cons, boolsD, bools_map bs]; rfl
section
variable {N : En} {W : WX} {X : Cx} {K : PySem.W.Frag} {M : MM} {H : Hp}
theorem RA.boolsOf : ∀ {xs : List V} {l : List D} {bs : List Bool}, RA K M H xs l → Z.boolsD l = some bs → xs = bs.map V.bl
  | _, _, bs, .nil, e => by
    rw [Z.boolsD] at e
    cases e
    rfl
  | _, _, bs, .cons (d := d) h t, e => by
    cases h with
    | bl b =>
      rw [Z.boolsD] at e
      obtain ⟨bs', e1, rfl⟩ := Option.map_eq_some_iff.mp e
      rw [RA.boolsOf t e1]
      rfl
    | _ => simp [Z.boolsD] at e
theorem RA.intsOf : ∀ {xs : List V} {l : List D} {bs : List Int}, RA K M H xs l → Z.intsD l = some bs → xs = bs.map V.int
  | _, _, bs, .nil, e => by
    rw [Z.intsD] at e
    cases e
    rfl
  | _, _, bs, .cons (d := d) h t, e => by
    cases h with
    | int b =>
      rw [Z.intsD] at e
      obtain ⟨bs', e1, rfl⟩ := Option.map_eq_some_iff.mp e
      rw [RA.intsOf t e1]
      rfl
    | _ => simp [Z.intsD] at e
theorem sim_len : CallSim N (fun xs H Q => ∃ p ys, xs = [.ref p] ∧ (SqL N.K H p ys ∨ SqT N.K H p ys) ∧ Q (.int ys.length) H) lenD := by
  intro M H cs x d z Q rc hx hg q
  unfold lenD at hg
  split at hg
  · cases hg
    obtain ⟨a, xs, rfl, h1, h2⟩ := hx.tup
    exact ⟨a, xs, rfl, .inr h1.sq, by rw [h2.length]; exact q _ _ (Same.refl _) (.int _)⟩
  · cases hg
    obtain ⟨a, xs, rfl, h1, h2⟩ := hx.list
    exact ⟨a, xs, rfl, .inl (.of h1), by rw [h2.length]; exact q _ _ (Same.refl _) (.int _)⟩
  · cases hg
theorem sim_abs : CallSim N (fun xs H Q => ∃ i, xs = [.int i] ∧ Q (.int (if i < 0 then -i else i)) H) absD := by
  intro M H cs x d z Q rc hx hg q
  unfold absD at hg
  split at hg
  · cases hg
    rw [hx.int]
    exact ⟨_, rfl, q _ _ (Same.refl _) (.int _)⟩
  · cases hg
theorem sim_int : CallSim N (fun xs H Q => (∃ i, xs = [.int i] ∧ Q (.int i) H) ∨ ∃ k, xs = [.bl k] ∧ Q (.int (if k then 1 else 0)) H) intD := by
  intro M H cs x d z Q rc hx hg q
  unfold intD at hg
  split at hg
  · cases hg
    rw [hx.int]
    exact .inl ⟨_, rfl, q _ _ (Same.refl _) (.int _)⟩
  · cases hg
    rw [hx.bl]
    exact .inr ⟨_, rfl, q _ _ (Same.refl _) (.int _)⟩
  · cases hg
theorem sim_tuple : CallSim N (fun xs H Q => ∃ p ys, xs = [.ref p] ∧ ((SqL N.K H p ys ∧ ∀ l, H l = none → Q (.ref l) (upd H l (.tup ys))) ∨ (SqT N.K H p ys ∧ Q (.ref p) H))) tupD := by
  intro M H cs x d z Q rc hx hg q
  unfold tupD at hg
  split at hg
  · cases hg
    obtain ⟨a, xs, rfl, h1, h2⟩ := hx.list
    exact ⟨a, xs, rfl, .inl ⟨.of h1, fun p np => q _ _ (Same.upd np) (rc.newTup np h2)⟩⟩
  · cases hg
    obtain ⟨a, xs, rfl, h1, h2⟩ := hx.tup
    exact ⟨a, xs, rfl, .inr ⟨h1.sq, q _ _ (Same.refl _) (.tup h1 h2)⟩⟩
  · cases hg
theorem sim_all : CallSim N (rAll N.K) allD := by
  intro M H cs x d z Q rc hx hg q
  unfold allD at hg
  split at hg
  · obtain ⟨bs, e1, rfl⟩ := Option.map_eq_some_iff.mp hg
    obtain ⟨a, xs, rfl, h1, h2⟩ := hx.list
    exact ⟨a, bs, rfl, by rw [← h2.boolsOf e1]; exact .of h1, q _ _ (Same.refl _) (.bl _)⟩
  · cases hg
theorem sim_any : CallSim N (rAny N.K) anyD := by
  intro M H cs x d z Q rc hx hg q
  unfold anyD at hg
  split at hg
  · obtain ⟨bs, e1, rfl⟩ := Option.map_eq_some_iff.mp hg
    obtain ⟨a, xs, rfl, h1, h2⟩ := hx.list
    exact ⟨a, bs, rfl, by rw [← h2.boolsOf e1]; exact .of h1, q _ _ (Same.refl _) (.bl _)⟩
  · cases hg
theorem sim_minT : CallSim N (GXX.rMinT N.K) minTD := by
  intro M H cs x d z Q rc hx hg q
  unfold minTD at hg
  split at hg
  · obtain ⟨bs, e1, rfl⟩ := Option.map_eq_some_iff.mp hg
    obtain ⟨a, xs, rfl, h1, h2⟩ := hx.tup
    cases h2 with
    | cons h3 h4 =>
      cases h3
      exact ⟨a, _, bs, rfl, by rw [List.map_cons, ← h4.intsOf e1]; exact h1.sq, q _ _ (Same.refl _) (.int _)⟩
  · cases hg
theorem sim_maxT : CallSim N (GXX.rMaxT N.K) maxTD := by
  intro M H cs x d z Q rc hx hg q
  unfold maxTD at hg
  split at hg
  · obtain ⟨bs, e1, rfl⟩ := Option.map_eq_some_iff.mp hg
    obtain ⟨a, xs, rfl, h1, h2⟩ := hx.tup
    cases h2 with
    | cons h3 h4 =>
      cases h3
      exact ⟨a, _, bs, rfl, by rw [List.map_cons, ← h4.intsOf e1]; exact h1.sq, q _ _ (Same.refl _) (.int _)⟩
  · cases hg
theorem sim_list : CallSimF N (fun xs H Q => ∃ p ys, xs = [.ref p] ∧ (SqL N.K H p ys ∨ SqT N.K H p ys) ∧ ∀ l, H l = none → Q (.ref l) (upd H l (.lst ys))) listD := by
  intro M H cs x d z Q rc hx hg q
  unfold listD at hg
  split at hg
  · cases hg
    obtain ⟨a, xs, rfl, h1, h2⟩ := hx.list
    exact ⟨a, xs, rfl, .inl (.of h1), fun p np => q p xs np h2⟩
  · cases hg
    obtain ⟨a, xs, rfl, h1, h2⟩ := hx.tup
    exact ⟨a, xs, rfl, .inr h1.sq, fun p np => q p xs np h2⟩
  · cases hg
    cases hx.of (by intro l z; cases z) with
    | scr h1 => exact ⟨_, _, rfl, .inl h1.sq, fun p np => q p _ np (RA.ints _)⟩
  · cases hg
variable {a e : Expr} {f fa : Ex} {r : List V → Hp → VK → Prop} {g : D → Option D} {gl : D → Option (List D)} {p pos : Pos}
theorem sim_c1 {ta : TE} (hs : CallSim N r g) (h : SimB N W ta f) : SimE N W (tCB r (tCons ta tNil)) (eC1 g f) := fun M s σ H Q rl q => by
  refine h M s σ H _ rl (q.bind.imp fun M1 H1 x s1 e1 r1 q1 v1 h1 => ?_)
  cases hz : g x with
  | none => rw [hz] at q1; exact q1.elim
  | some z =>
    rw [hz] at q1
    exact hs M1 H1 s1.cs v1 x z Q r1.toRelC h1 hz fun H3 v3 k h3 => q1.grown r1 k v3 h3
theorem sim_c1f {ta : TE} (hs : CallSimF N r gl) (h : SimB N W ta f) : SimF N W (tCB r (tCons ta tNil)) (aC1 gl f) := fun M s σ H Q rl q => by
  refine h M s σ H _ rl ?_
  unfold aC1 at q
  cases hf : f s with
  | stuck => rw [hf] at q; exact q.elim
  | exc c d s1 => rw [hf] at q; exact q
  | ok x s1 =>
    rw [hf] at q
    refine fun M1 H1 e1 r1 v1 h1 => ?_
    cases hz : gl x with
    | none =>
      have q : GoodE N W σ M H (liftL (gl x) s1) _ := q
      rw [hz] at q
      exact q.elim
    | some z =>
      have q : GoodE N W σ M H (liftL (gl x) s1) _ := q
      rw [hz] at q
      refine hs M1 H1 s1.cs v1 x z Q r1.toRelC h1 hz fun p xs np h3 => ?_
      obtain ⟨_, e⟩ := r1.toRelC.laid (xs := xs) np
      exact q _ _ (e1.trans e) (r1.laid np) p xs (e1.fresh rl.toRelC np) own1_same upd_same (e.ra h3)
theorem se_c1 {x : Str} {id : String} (hc : CallR X (.builtin id) r) (hs : CallSim N r g) (hv : bootBuiltins x = some (.builtin id)) (hn : x ≠ "__name__") (hdb : (x == ("__debug__" : Str)) = false) (hg : Gl X x) (hm : X.mg x = none) (ha : SB N W X a f)
    (he : starEach [a] X.env = (false, eval a X.env) :: starEach [] X.env) : SE N W X (.Call (.Name x p) [a] [] pos) (eC1 g f) := by
  obtain ⟨ta, pa, sa⟩ := ha
  exact ⟨_, pe_callB hc hg hm hv (pa_cons pa pa_nil he) hn hdb he rfl, sim_c1 hs sa⟩
theorem se_c1T {x : Str} {T : String} (hc : CallR X (.type T) r) (hs : CallSim N r g) (hv : bootBuiltins x = some (.type T)) (hn : x ≠ "__name__") (hdb : (x == ("__debug__" : Str)) = false) (hg : Gl X x) (hm : X.mg x = none) (ha : SB N W X a f)
    (he : starEach [a] X.env = (false, eval a X.env) :: starEach [] X.env) : SE N W X (.Call (.Name x p) [a] [] pos) (eC1 g f) := by
  obtain ⟨ta, pa, sa⟩ := ha
  exact ⟨_, pe_callTy hc hg hm hv (pa_cons pa pa_nil he) hn hdb he rfl, sim_c1 hs sa⟩
theorem se_len (hK : X.K = N.K) (hg : Gl X "len") (hm : X.mg "len" = none) (ha : SB N W X a f) (he : starEach [a] X.env = (false, eval a X.env) :: starEach [] X.env := by rfl) : SE N W X (.Call (.Name "len" p) [a] [] pos) (eC1 lenD f) :=
  se_c1 (hK ▸ call_len_seq) sim_len (by decide +kernel) (by decide) (by decide) hg hm ha he
theorem se_abs (hg : Gl X "abs") (hm : X.mg "abs" = none) (ha : SB N W X a f) (he : starEach [a] X.env = (false, eval a X.env) :: starEach [] X.env := by rfl) : SE N W X (.Call (.Name "abs" p) [a] [] pos) (eC1 absD f) :=
  se_c1 call_abs sim_abs (by decide +kernel) (by decide) (by decide) hg hm ha he
theorem se_int1 (hg : Gl X "int") (hm : X.mg "int" = none) (ha : SB N W X a f) (he : starEach [a] X.env = (false, eval a X.env) :: starEach [] X.env := by rfl) : SE N W X (.Call (.Name "int" p) [a] [] pos) (eC1 intD f) :=
  se_c1T call_int1 sim_int (by decide +kernel) (by decide) (by decide) hg hm ha he
theorem se_tuple (hK : X.K = N.K) (hg : Gl X "tuple") (hm : X.mg "tuple" = none) (ha : SB N W X a f) (he : starEach [a] X.env = (false, eval a X.env) :: starEach [] X.env := by rfl) : SE N W X (.Call (.Name "tuple" p) [a] [] pos) (eC1 tupD f) :=
  se_c1T (hK ▸ call_tuple_of) sim_tuple (by decide +kernel) (by decide) (by decide) hg hm ha he
theorem se_all (hK : X.K = N.K) (hc : X.calm = true) (hg : Gl X "all") (hm : X.mg "all" = none) (ha : SB N W X a f) (he : starEach [a] X.env = (false, eval a X.env) :: starEach [] X.env := by rfl) : SE N W X (.Call (.Name "all" p) [a] [] pos) (eC1 allD f) :=
  se_c1 (hK ▸ cr_all hc) sim_all (by decide +kernel) (by decide) (by decide) hg hm ha he
theorem se_any (hK : X.K = N.K) (hc : X.calm = true) (hg : Gl X "any") (hm : X.mg "any" = none) (ha : SB N W X a f) (he : starEach [a] X.env = (false, eval a X.env) :: starEach [] X.env := by rfl) : SE N W X (.Call (.Name "any" p) [a] [] pos) (eC1 anyD f) :=
  se_c1 (hK ▸ cr_any hc) sim_any (by decide +kernel) (by decide) (by decide) hg hm ha he
theorem se_minT (hK : X.K = N.K) (hc : X.calm = true) (hu : X.A.units + 2 < cLine) (hg : Gl X "min") (hm : X.mg "min" = none) (ha : SB N W X a f) (he : starEach [a] X.env = (false, eval a X.env) :: starEach [] X.env := by rfl) : SE N W X (.Call (.Name "min" p) [a] [] pos) (eC1 minTD f) :=
  se_c1 (hK ▸ GXX.cr_minT hc hu) sim_minT (by decide +kernel) (by decide) (by decide) hg hm ha he
theorem se_maxT (hK : X.K = N.K) (hc : X.calm = true) (hu : X.A.units + 2 < cLine) (hg : Gl X "max") (hm : X.mg "max" = none) (ha : SB N W X a f) (he : starEach [a] X.env = (false, eval a X.env) :: starEach [] X.env := by rfl) : SE N W X (.Call (.Name "max" p) [a] [] pos) (eC1 maxTD f) :=
  se_c1 (hK ▸ GXX.cr_maxT hc hu) sim_maxT (by decide +kernel) (by decide) (by decide) hg hm ha he
theorem sf_list (hK : X.K = N.K) (hg : Gl X "list") (hm : X.mg "list" = none) (ha : SB N W X a f) (he : starEach [a] X.env = (false, eval a X.env) :: starEach [] X.env := by rfl) : SF N W X (.Call (.Name "list" p) [a] [] pos) (aC1 listD f) := by
  obtain ⟨ta, pa, sa⟩ := ha
  exact ⟨_, pe_callTy (hK ▸ call_list_of) hg hm (by decide +kernel) (pa_cons pa pa_nil he) (by decide) (by decide) he rfl, sim_c1f sim_list sa⟩
end
end Z
/-! ## isinstance, slices, names of the module, cells, calls -/
namespace Z
open PySem PySem.Spec L2 GxR
open PyProof.Rows hiding St
inductive Ty5 where
  | int | bool | str | tuple | list
def Ty5.s : Ty5 → String
  | .int => "int" | .bool => "bool" | .str => "str" | .tuple => "tuple" | .list => "list"
def tyD : D → String
  | .non => "NoneType" | .bl _ => "bool" | .int _ => "int" | .str _ => "str" | .lst _ => "list" | .tup _ => "tuple" | .cell _ => "list" | .scr _ => "list" | .rng _ _ => "range" | .fn _ => "function" | .dic _ => "dict" | .ft _ => "tuple"
def isTy : Ty5 → D → Option Bool
  | _, .cell _ => none
  | _, .scr _ => none
  | _, .rng _ _ => none
  | _, .fn _ => none
  | _, .dic _ => none
  | _, .ft _ => none
  | .int, .int _ => some true
  | .int, .bl _ => some true
  | .bool, .bl _ => some true
  | .str, .str _ => some true
  | .tuple, .tup _ => some true
  | .list, .lst _ => some true
  | _, _ => some false
def eIsi (T : Ty5) (f : Ex) : Ex := fun s => (f s).bind fun x s1 => lift ((isTy T x).map D.bl) s1
/-- l[lo:hi] -/
def cutD (l : List D) (lo hi : Option Int) : List D := (l.drop (HT.sIx l.length 0 lo)).take (HT.sIx l.length l.length hi - HT.sIx l.length 0 lo)
def slD (d : D) (lo hi : Option Int) : Option D := match d with
  | .tup l => some (.tup (cutD l lo hi))
  | .lst l => some (.lst (cutD l lo hi))
  | _ => none
abbrev Os := S → Res (Option Int)
def oNo : Os := fun s => .ok none s
def oEx (f : Ex) : Os := fun s => (f s).bind fun x s1 => match x with
  | .int i => .ok (some i) s1
  | _ => .stuck
def eSl (f : Ex) (lo hi : Os) : Ex := fun s => (f s).bind fun x s1 => (lo s1).bind fun l s2 => (hi s2).bind fun h s3 => lift (slD x l h) s3
def SimO (N : En) (W : WX) (t : TO) (f : Os) : Prop := ∀ M s σ H Q, Rel N M s σ H → GoodE N W σ M H (f s) (fun _ H' o _ => Q o H') → t σ H Q
def SO (N : En) (W : WX) (X : Cx) (e : Option Expr) (f : Os) : Prop := ∃ t, PO X e t ∧ SimO N W t f
section
variable {N : En} {W : WX} {X : Cx} {K : PySem.W.Frag} {M : MM} {H : Hp} {a e t : Expr} {lo hi : Option Expr} {f fa : Ex} {flo fhi : Os} {p p2 pos : Pos}
theorem tyxL {a : Addr} {xs : List V} (h : SqL K H a xs) : TyX K H (.ref a) (.type "list") := by
  rcases h with (h | ⟨o, h⟩) | ⟨o, its, n, h, c, _⟩
  · exact .base (.lst h)
  · exact .base (.frz h)
  · exact .kList h c
theorem tyxT {a : Addr} {xs : List V} (h : SqT K H a xs) : TyX K H (.ref a) (.type "tuple") := by
  rcases h with (h | ⟨o, h⟩) | ⟨o, its, n, h, c, _⟩
  · exact .base (.tup h)
  · exact .fTuple h
  · exact .kTuple h c
theorem RB.tyx {v : V} {d : D} (h : RB K M H v d) {T : Ty5} {b : Bool} (hb : isTy T d = some b) : TyX K H v (.type (tyD d)) := by
  rcases h with h | ⟨a, xs, l, i, rfl, rfl, _, h1, _⟩
  · cases h with
    | non => exact .base .non
    | bl b => exact .base (.bl b)
    | int i => exact .base (.int i)
    | str h => exact .base (.str _)
    | lst _ h1 _ => exact tyxL (.of h1)
    | tup h1 _ => exact tyxT h1.sq
    | cell _ => cases T <;> simp [isTy] at hb
    | scr _ => cases T <;> simp [isTy] at hb
    | rng _ _ => cases T <;> simp [isTy] at hb
    | fn _ => cases T <;> simp [isTy] at hb
    | dic _ _ _ => cases T <;> simp [isTy] at hb
    | ft _ _ => cases T <;> simp [isTy] at hb
  · exact tyxL (.of h1)
theorem kit_all : ∀ T : Ty5, ["NoneType", "bool", "int", "str", "list", "tuple"].all (fun x => kitB x T.s == some (match T, x with
  | .int, "int" => true | .int, "bool" => true | .bool, "bool" => true | .str, "str" => true | .tuple, "tuple" => true | .list, "list" => true | _, _ => false)) = true
  | .int => by decide +kernel
  | .bool => by decide +kernel
  | .str => by decide +kernel
  | .tuple => by decide +kernel
  | .list => by decide +kernel
theorem kit_one {T : Ty5} {d : D} {b : Bool} (hb : isTy T d = some b) : PySem.W.kitOne K (.type (tyD d)) (.type T.s) = some b := by
  have h := List.all_eq_true.mp (kit_all T)
  refine kit_ty ?_
  cases T <;> cases d <;> simp only [isTy, Option.some.injEq, reduceCtorEq] at hb <;> subst hb <;>
    first
      | exact eq_of_beq (h "NoneType" (by simp))
      | exact eq_of_beq (h "bool" (by simp))
      | exact eq_of_beq (h "int" (by simp))
      | exact eq_of_beq (h "str" (by simp))
      | exact eq_of_beq (h "list" (by simp))
      | exact eq_of_beq (h "tuple" (by simp))
/-- isinstance(x, T) -/
theorem se_isi (T : Ty5) (hK : X.K = N.K) (hg : Gl X "isinstance") (hm : X.mg "isinstance" = none) (ht : PE X t (tC (.ty T.s))) (ha : SE N W X a f) (he : starEach [a, t] X.env = (false, eval a X.env) :: starEach [t] X.env := by rfl) (he2 : starEach [t] X.env = (false, eval t X.env) :: starEach [] X.env := by rfl) :
    SE N W X (.Call (.Name "isinstance" p) [a, t] [] pos) (eIsi T f) := by
  obtain ⟨ta, pa, sa⟩ := ha
  refine ⟨_, pe_callB (hK ▸ call_isi) hg hm (by decide +kernel) (pa_cons pa (pa_cons ht pa_nil he2) he) (by decide) (by decide) he (by rw [he2]; rfl), fun M s σ H Q rl q => sa M s σ H _ rl (q.bind.imp fun M1 H1 x s1 e1 r1 q1 v1 h1 => ?_)⟩
  cases hb : isTy T x with
  | none => rw [hb] at q1; exact q1.elim
  | some b =>
    rw [hb] at q1
    exact ⟨v1, .ty T.s, _, _, b, rfl, .ty _, h1.rb.tyx hb, kit_one hb, q1.here r1 _ (.bl b)⟩
theorem so_no : SO N W X none oNo := ⟨_, po_none, fun M s σ H Q rl q => q.here rl⟩
theorem so_ex (h : SE N W X a f) : SO N W X (some a) (oEx f) := by
  obtain ⟨t, pe, se⟩ := h
  refine ⟨_, po_some pe, fun M s σ H Q rl q => se M s σ H _ rl (q.bind.imp fun M1 H1 x s1 e1 r1 q1 v1 h1 => ?_)⟩
  split at q1
  · cases h1
    exact ⟨_, rfl, q1.here r1⟩
  · exact q1.elim
theorem RA.cut {xs : List V} {l : List D} {lo hi : Option Int} (h : RA K M H xs l) : RA K M H (cutV xs lo hi) (cutD l lo hi) := by
  unfold cutV cutD
  rw [h.length]
  exact (h.drop _).take _
theorem cut_whole {α : Type} {l : List α} {lo hi : Option Int} (h : HT.sIx l.length 0 lo = 0 ∧ HT.sIx l.length l.length hi = l.length) : (l.drop (HT.sIx l.length 0 lo)).take (HT.sIx l.length l.length hi - HT.sIx l.length 0 lo) = l := by
  rw [h.1, h.2]
  simp
theorem sim_sl {cs : List Cell} {x : V} {d z : D} {l h : Option Int} {Q : VK} (rc : RelC N M cs H) (hx : RB N.K M H x d) (hg : slD d l h = some z) (q : ∀ H' v, Same H H' → R N.K M H' v z → Q v H') : rSlA N.K x l h H Q ∨ rSlL N.K x l h H Q := by
  unfold slD at hg
  split at hg
  · cases hg
    obtain ⟨a, xs, rfl, h1, h2⟩ := hx.tup
    refine .inl ⟨a, xs, rfl, h1.sq, fun e => ?_, fun _ p np => q _ _ (Same.upd np) (rc.newTup np h2.cut)⟩
    refine q _ _ (Same.refl _) (.tup h1 ?_)
    have e1 := h2.cut (lo := l) (hi := h)
    unfold cutV at e1
    rw [cut_whole e] at e1
    exact e1
  · cases hg
    obtain ⟨a, xs, rfl, h1, h2⟩ := hx.list
    exact .inr ⟨a, xs, rfl, .of h1, fun p np => q _ _ (Same.upd np) (rc.newLst np h2.cut)⟩
  · cases hg
theorem se_sl (hK : X.K = N.K) (ha : SE N W X a f) (hl : SO N W X lo flo) (hh : SO N W X hi fhi) : SE N W X (.Subscript a (.Slice lo hi none p2) pos) (eSl f flo fhi) := by
  obtain ⟨ta, pa, sa⟩ := ha
  obtain ⟨tl, pl, sl⟩ := hl
  obtain ⟨th, ph, sh⟩ := hh
  refine ⟨_, pe_slice (SlR.or (hK ▸ sl_tupA) (hK ▸ sl_list)) pa pl ph, fun M s σ H Q rl q => ?_⟩
  refine sa M s σ H _ rl (q.bind.imp fun M1 H1 x s1 e1 r1 q1 v1 h1 => ?_)
  refine sl M1 s1 σ H1 _ r1 (q1.bind.imp fun M2 H2 l s2 e2 r2 q2 => ?_)
  refine sh M2 s2 σ H2 _ r2 (q2.bind.imp fun M3 H3 h s3 e3 r3 q3 => ?_)
  cases hz : slD x l h with
  | none => rw [hz] at q3; exact q3.elim
  | some z =>
    rw [hz] at q3
    exact sim_sl r3.toRelC (e3.r (e2.r h1)).rb hz fun H5 v5 k5 h5 => q3.grown r3 k5 v5 h5
/-- a name of the module -/
theorem se_glob {x : Str} {v : V} {u : Value} {d : D} (hg : Gl X x) (hm : X.mg x = some u) (r : RelV v u) (h : ∀ M H, R N.K M H v d) (hd : (x == ("__debug__" : Str)) = false := by decide) : SE N W X (.Name x pos) (eC d) := ⟨_, pe_glob hg hm r hd, sim_c h⟩
/-! ### cells -/
/-- c[i], c a cell -/
def cellIx (i : Int) (s : S) : D → Option D
  | .cell n => match s.cs[n]? with
    | some (.lst l) => atI l i
    | _ => none
  | _ => none
def eIxC (fa fb : Ex) : Ex := fun s => (fa s).bind fun x s1 => (fb s1).bind fun y s2 => match y with
  | .int i => lift (cellIx i s2 x) s2
  | _ => .stuck
theorem cell_at {M : MM} {H : Hp} {s : S} {σ : St} {v : V} {n : Nat} {l : List D} (rl : Rel N M s σ H) (h : R N.K M H v (.cell n)) (hc : s.cs[n]? = some (.lst l)) : ∃ a xs, v = .ref a ∧ M a = some (.cell n) ∧ H a = some (.lst xs) ∧ RA N.K M H xs l := by
  cases h with
  | cell m =>
    obtain ⟨b, m2, xs, h1, h2⟩ := rl.cell n _ hc
    rw [rl.uniq _ _ n m2 m] at h1
    exact ⟨_, xs, rfl, m, h1, h2⟩
theorem se_ixC {b : Expr} {fb : Ex} (hK : X.K = N.K) (ha : SE N W X a fa) (hb : SE N W X b fb) (hs : PlainIx b) : SE N W X (.Subscript a b pos) (eIxC fa fb) := by
  obtain ⟨ta, pa, sa⟩ := ha
  obtain ⟨tb, pb, sb⟩ := hb
  refine ⟨_, pe_ix (hK ▸ ix_list) pa pb hs, fun M s σ H Q rl q => ?_⟩
  refine sa M s σ H _ rl (q.bind.imp fun M1 H1 x s1 e1 r1 q1 v1 h1 => ?_)
  refine sb M1 s1 σ H1 _ r1 (q1.bind.imp fun M2 H2 y s2 e2 r2 q2 v2 h2 => ?_)
  split at q2
  · rename_i i
    cases hz : cellIx i s2 x with
    | none => rw [hz] at q2; exact q2.elim
    | some z =>
      rw [hz] at q2
      unfold cellIx at hz
      split at hz
      · split at hz
        · rename_i n _ l hc
          obtain ⟨a, xs, rfl, m, k1, k2⟩ := cell_at r2 (e2.r h1) hc
          cases h2
          obtain ⟨v, k3, k4⟩ := k2.at hz
          exact ⟨a, xs, i, v, rfl, rfl, .of k1, k3, q2.here r2 _ k4⟩
        · cases hz
      · cases hz
  · exact q2.elim
/-- a new list becomes a cell -/
def eNew (f : As) : Ex := fun s => (f s).bind fun ds s1 => .ok (.cell s1.cs.length) { s1 with cs := s1.cs ++ [.lst ds] }
theorem Rel.newCell {M : MM} {H : Hp} {s : S} {σ : St} {p : Addr} {xs : List V} {ds : List D} (rl : Rel N M s σ H) (m : M p = some .far) (h : H p = some (.lst xs)) (q : RA N.K M H xs ds) :
    Rel N (own1 M p (some (.cell s.cs.length))) { s with cs := s.cs ++ [.lst ds] } σ H := by
  have e := ext0_own (w := some (.cell s.cs.length)) (H := H) m
  have ne : ∀ a w, M a = some w → w ≠ .far → a ≠ p := fun a w h1 h2 z => by
    rw [z, m] at h1
    exact h2 (Option.some.inj h1).symm
  refine ⟨⟨fun n c h1 => ?_, fun a b n h1 h2 => ?_, fun a n h1 => ?_, fun a w h1 => ?_, rl.tabs⟩, rl.len, fun i d h1 => ?_, fun i l h1 => ?_⟩
  · by_cases hn : n < s.cs.length
    · rw [List.getElem?_append_left hn] at h1
      obtain ⟨a, k1, k2⟩ := rl.cell n c h1
      exact ⟨a, by rw [own1_ne (ne a _ k1 (fun z => nomatch z))]; exact k1, k2.ext e rfl⟩
    · rw [List.getElem?_append_right (by omega)] at h1
      have hn2 : n - s.cs.length = 0 := by
        have := (List.getElem?_eq_some_iff.mp h1).1
        simp at this
        omega
      rw [hn2] at h1
      cases h1
      have : n = s.cs.length := by omega
      subst this
      exact ⟨p, own1_same, xs, h, e.ra q⟩
  · by_cases ha : a = p
    · by_cases hb : b = p
      · rw [ha, hb]
      · rw [ha, own1_same] at h1
        rw [own1_ne hb] at h2
        cases h1
        exact absurd (rl.csz b _ h2) (Nat.lt_irrefl _)
    · by_cases hb : b = p
      · rw [hb, own1_same] at h2
        rw [own1_ne ha] at h1
        cases h2
        exact absurd (rl.csz a _ h1) (Nat.lt_irrefl _)
      · rw [own1_ne ha] at h1
        rw [own1_ne hb] at h2
        exact rl.uniq a b n h1 h2
  · rw [List.length_append, List.length_singleton]
    by_cases ha : a = p
    · rw [ha, own1_same] at h1
      cases h1
      exact Nat.lt_succ_self _
    · rw [own1_ne ha] at h1
      exact Nat.lt_succ_of_lt (rl.csz a n h1)
  · by_cases ha : a = p
    · subst ha
      exact rl.mdom a _ m
    · rw [own1_ne ha] at h1
      exact rl.mdom a w h1
  · obtain ⟨v, k1, k2⟩ := rl.sv i d h1
    exact ⟨v, k1, e.r k2⟩
  · obtain ⟨a, ys, k1, k2, k3, k4⟩ := rl.own i l h1
    exact ⟨a, ys, k1, by rw [own1_ne (ne a _ k2 (fun z => nomatch z))]; exact k2, k3, e.ra k4⟩
theorem se_new {fs : As} (h : SF N W X e fs) : SE N W X e (eNew fs) := by
  obtain ⟨t, pt, st⟩ := h
  refine ⟨_, pt, fun M s σ H Q rl q => st M s σ H _ rl ?_⟩
  unfold eNew at q
  cases hf : fs s with
  | stuck => rw [hf] at q; exact q.elim
  | exc c d s1 => rw [hf] at q; exact q
  | ok ds s1 =>
    rw [hf] at q
    refine fun M1 H1 e1 r1 p xs f m hp h1 => ?_
    exact q _ _ (e1.ownW f) (r1.newCell m hp h1) _ (.cell own1_same)
end
end Z
/-! ## targets, statements, loops, comprehensions -/
namespace Z
open PySem PySem.Spec L2 GxR
open PyProof.Rows hiding St
inductive Fl where
  | nx | rt (d : D)
abbrev Ss := S → Res Fl
abbrev Tg := D → S → Res Unit
abbrev Tgs := List D → S → Res Unit
abbrev Is := S → Res (List D)
def SimG (N : En) (W : WX) (t : TG) (f : Tg) (ts : List Nat) : Prop := ∀ M s σ H v d Q, Rel N M s σ H → R N.K M H v d → GoodS N W M H (f d s) (fun _ H' σ' _ _ => wipe σ' ts = wipe σ ts → Q σ' H') → t v σ H Q
def SimGs (N : En) (W : WX) (t : TGs) (f : Tgs) (ts : List Nat) : Prop := ∀ M s σ H vs ds Q, Rel N M s σ H → RA N.K M H vs ds → GoodS N W M H (f ds s) (fun _ H' σ' _ _ => wipe σ' ts = wipe σ ts → Q σ' H') → t vs σ H Q
def SimS (N : En) (W : WX) (t : TS) (f : Ss) : Prop := ∀ M s σ H (D : Ends), Rel N M s σ H → GoodS N W M H (f s) (fun M' H' σ' fl _ => match fl with
  | .nx => D.nx σ' H'
  | .rt d => ∀ v, R N.K M' H' v d → D.rt v H') → t D σ H
/-- an iterator goes through these data -/
def Steps (N : En) (M0 : MM) (H0 : Hp) (J : It) (ds : List D) : Prop := ∀ M H cs, Ext M0 H0 M H → RelC N M cs H → ∀ i : Nat, (ds.length ≤ i → J.stop i H) ∧
  ∀ d, ds[i]? = some d → J.go i H ∧ ∀ x H', J.yld i H x H' → Same H H' ∧ R N.K M H' x d
def SimI (N : En) (W : WX) (t : TI) (f : Is) : Prop := ∀ M s σ H Q, Rel N M s σ H → GoodE N W σ M H (f s) (fun M' H' ds _ => ∀ J, Steps N M' H' J ds → Q J H') → t σ H Q
def SG (N : En) (W : WX) (X : Cx) (tg : Expr) (f : Tg) (ts : List Nat) : Prop := ∃ t, PG X tg t ∧ SimG N W t f ts
def SGs (N : En) (W : WX) (X : Cx) (tgs : List Expr) (f : Tgs) (ts : List Nat) : Prop := ∃ t, PGs X tgs t ∧ SimGs N W t f ts
def SS (N : En) (W : WX) (X : Cx) (st : Stmt) (f : Ss) : Prop := ∃ t, PS X st t ∧ SimS N W t f
def SSs (N : En) (W : WX) (X : Cx) (st : List Stmt) (f : Ss) : Prop := ∃ t, PSs X st t ∧ SimS N W t f
def SI (N : En) (W : WX) (X : Cx) (tg it : Expr) (f : Is) : Prop := ∃ t, PI X tg it t ∧ SimI N W t f
/-! ### the functions -/
def gN (i : Nat) : Tg := fun d s => .ok () { s with ρ := s.ρ.set i (.sv d) }
def gT (n : Nat) (fs : Tgs) : Tg := fun d s => match d with
  | .tup l => if l.length = n then fs l s else .stuck
  | .lst l => if l.length = n then fs l s else .stuck
  | _ => .stuck
def gNil : Tgs := fun l s => match l with
  | [] => .ok () s
  | _ => .stuck
def gCons (f : Tg) (fs : Tgs) : Tgs := fun l s => match l with
  | d :: r => (f d s).bind fun _ s1 => fs r s1
  | [] => .stuck
def sNil : Ss := fun s => .ok .nx s
def sCons (f g : Ss) : Ss := fun s => (f s).bind fun fl s1 => match fl with
  | .nx => g s1
  | .rt d => .ok (.rt d) s1
def sSet (i : Nat) (f : Ex) : Ss := fun s => (f s).bind fun d s1 => .ok .nx { s1 with ρ := s1.ρ.set i (.sv d) }
def sOwn (i : Nat) (f : As) : Ss := fun s => (f s).bind fun l s1 => .ok .nx { s1 with ρ := s1.ρ.set i (.own l) }
def sAsg (g : Tg) (f : Ex) : Ss := fun s => (f s).bind fun d s1 => (g d s1).bind fun _ s2 => .ok .nx s2
def sPar (i j : Nat) (f : As) : Ss := fun s => (f s).bind fun ds s1 => match ds with
  | [a, b] => .ok .nx { s1 with ρ := (s1.ρ.set i (.sv a)).set j (.sv b) }
  | _ => .stuck
def sAug (g : D → D → Option D) (i : Nat) (f : Ex) : Ss := fun s => (eOpL g i f s).bind fun d s1 => .ok .nx { s1 with ρ := s1.ρ.set i (.sv d) }
def sEx (f : Ex) : Ss := fun s => (f s).bind fun _ s1 => .ok .nx s1
def sRet (f : Ex) : Ss := fun s => (f s).bind fun d s1 => .ok (.rt d) s1
def sRetN : Ss := fun s => .ok (.rt .non) s
def sIf (t : Ts) (f g : Ss) : Ss := fun s => (t s).bind fun b s1 => if b = true then f s1 else g s1
def sNever : Ss := fun _ => .stuck
def sApp (i : Nat) (f : Ex) : Ss := fun s => match s.ρ[i]? with
  | some (.own _) => (f s).bind fun d s1 => (match s1.ρ[i]? with
    | some (.own l) => if l.length < 100000 then .ok .nx { s1 with ρ := s1.ρ.set i (.own (l ++ [d])) } else .stuck
    | _ => .stuck)
  | _ => .stuck
def sExt (i : Nat) (f : Ex) : Ss := fun s => match s.ρ[i]? with
  | some (.own _) => (f s).bind fun d s1 => (match s1.ρ[i]?, d with
    | some (.own l), .lst l2 => if l.length + l2.length ≤ 100000 then .ok .nx { s1 with ρ := s1.ρ.set i (.own (l ++ l2)) } else .stuck
    | _, _ => .stuck)
  | _ => .stuck
/-- l[k] = d -/
def setAt (l : List D) (k : Int) (d : D) : Option (List D) := (ixN l.length k).map fun j => l.set j d
def sSetIx (i : Nat) (fk : Ex) (f : Ex) : Ss := fun s => (f s).bind fun d s1 => match slotD i s1 with
  | some _ => (fk s1).bind fun k s2 => (match s2.ρ[i]?, k with
    | some (.own l), .int k => (match setAt l k d with
      | some l' => .ok .nx { s2 with ρ := s2.ρ.set i (.own l') }
      | none => .stuck)
    | _, _ => .stuck)
  | none => .stuck
def sSetC (fo fk f : Ex) : Ss := fun s => (f s).bind fun d s1 => (fo s1).bind fun o s2 => (fk s2).bind fun k s3 => match o, k with
  | .cell n, .int k => (match s3.cs[n]? with
    | some (.lst l) => (match setAt l k d with
      | some l' => .ok .nx { s3 with cs := s3.cs.set n (.lst l') }
      | none => .stuck)
    | _ => .stuck)
  | _, _ => .stuck
def forL (g : Tg) (b : Ss) : List D → S → Res Fl
  | [], s => .ok .nx s
  | d :: ds, s => (g d s).bind fun _ s1 => (b s1).bind fun fl s2 => match fl with
    | .nx => forL g b ds s2
    | .rt v => .ok (.rt v) s2
def sFor (fi : Is) (g : Tg) (b : Ss) : Ss := fun s => (fi s).bind fun ds s1 => forL g b ds s1
def whileN (t : Ts) (b : Ss) : Nat → S → Res Fl
  | 0, _ => .stuck
  | n + 1, s => (t s).bind fun c s1 => if c = true then ((b s1).bind fun fl s2 => match fl with
    | .nx => whileN t b n s2
    | .rt v => .ok (.rt v) s2) else .ok .nx s1
def wipeL : List Nat → List Slot → List Slot
  | [], l => l
  | i :: r, l => (wipeL r l).set i .un
def restL (l0 : List Slot) : List Nat → List Slot → List Slot
  | [], l => l
  | i :: r, l => (restL l0 r l).set i (match l0[i]? with
    | some (.sv d) => .sv d
    | _ => .un)
def wipeS (vs : List Nat) (s : S) : S := { s with ρ := wipeL vs s.ρ }
def restS (vs : List Nat) (s0 s : S) : S := { s with ρ := restL s0.ρ vs s.ρ }
def compL (vs : List Nat) (g : Tg) (t : Ts) (f : Ex) : List D → S → Res (List D)
  | [], s => .ok [] s
  | d :: ds, s => (g d (wipeS vs s)).bind fun _ s1 => (t s1).bind fun b s2 => if b = true then ((f s2).bind fun y s3 => (compL vs g t f ds s3).bind fun ys s4 => .ok (y :: ys) s4) else compL vs g t f ds s2
def Res.nox {α : Type} (r : Res α) : Res α := match r with
  | .exc _ _ _ => .stuck
  | x => x
def aLc (vs : List Nat) (fi : Is) (g : Tg) (t : Ts) (f : Ex) : As := fun s => (fi s).bind fun ds s1 => if ds.length ≤ 100000 then ((compL vs g t f ds s1).nox.bind fun ys s2 => .ok ys (restS vs s1 s2)) else .stuck
def tYes : Ts := fun s => .ok true s
/-- all (brk = false), any (brk = true) of what comes -/
def genL (brk : Bool) (vs : List Nat) (g : Tg) (f : Ex) : List D → S → Res Bool
  | [], s => .ok (!brk) s
  | d :: ds, s => (g d (wipeS vs s)).bind fun _ s1 => (f s1).bind fun y s2 => match y with
    | .bl b => if b = brk then .ok brk s2 else genL brk vs g f ds s2
    | _ => .stuck
def eGen (brk : Bool) (vs : List Nat) (fi : Is) (g : Tg) (f : Ex) : Ex := fun s => (fi s).bind fun ds s1 => (genL brk vs g f ds s1).nox.bind fun b s2 => .ok (.bl b) (restS vs s1 s2)
abbrev WF : WX := fun _ _ _ _ => False
section
variable {N : En} {W : WX} {X : Cx} {M : MM} {H : Hp} {s : S} {σ : St}
theorem wipe_set {i : Nat} {x : Option V} : ∀ {ts : List Nat}, i ∈ ts → wipe (σ.set i x) ts = wipe σ ts
  | j :: ts, h => by
    rw [wipe, wipe]
    by_cases hi : i ∈ ts
    · rw [wipe_set hi]
    · have e : i = j := by
        rcases List.mem_cons.mp h with z | z
        · exact z
        · exact absurd z hi
      subst e
      have : ∀ ts : List Nat, i ∉ ts → wipe (σ.set i x) ts = (wipe σ ts).set i x := fun ts => by
        induction ts with
        | nil => intro _; rfl
        | cons k ts ih =>
          intro hk
          rw [wipe, wipe, ih (fun z => hk (List.mem_cons_of_mem _ z)), List.set_comm]
          rintro rfl
          exact hk List.mem_cons_self
      rw [this ts hi, List.set_set]
theorem sg_name {i : Nat} {x : Str} {pos : Pos} (hN : X.N.Nodup) (hi : X.N[i]? = some x) (hx : Loc X.env.scope x) (hf : X.fn x = true ∨ X.env.scope.names.lookup x = some .local := by first | exact .inl rfl | exact .inr rfl | assumption) : SG N W X (.Name x pos) (gN i) [i] :=
  ⟨_, pg_name hN hi hx hf, fun M s σ H v d Q rl h q => q M H (σ.set i (some v)) (Ext.refl M H) (rl.set h) (wipe_set (List.mem_singleton_self i))⟩
theorem sgs_nil : SGs N W X [] gNil [] := ⟨_, pgs_nil, fun M s σ H vs ds Q rl h q => by
  cases h with
  | nil => exact ⟨rfl, q.here rl rfl⟩
  | cons _ _ => exact q.elim⟩
theorem wipe_app : ∀ {a b : List Nat}, wipe σ (a ++ b) = wipe (wipe σ b) a
  | [], _ => rfl
  | i :: a, b => by rw [List.cons_append, wipe, wipe, wipe_app]
theorem wipe_comm {a b : List Nat} : wipe (wipe σ b) a = wipe (wipe σ a) b := by
  induction a generalizing σ with
  | nil => rfl
  | cons i a ih =>
    rw [wipe, wipe, ih]
    have : ∀ (τ : St) (b : List Nat), wipe (τ.set i none) b = (wipe τ b).set i none := fun τ b => by
      induction b with
      | nil => rfl
      | cons k b ih =>
        rw [wipe, wipe, ih]
        by_cases e : i = k
        · subst e; rw [List.set_set]
        · exact List.set_comm _ _ e
    rw [this]
theorem sgs_cons {e : Expr} {es : List Expr} {f : Tg} {fs : Tgs} {a b : List Nat} (h1 : SG N W X e f a) (h2 : SGs N W X es fs b) (hs : (assignEach (e :: es) X.env).map (·.2) = assign e X.env :: (assignEach es X.env).map (·.2) := by rfl) : SGs N W X (e :: es) (gCons f fs) (a ++ b) := by
  obtain ⟨t, pt, st⟩ := h1
  obtain ⟨u, pu, su⟩ := h2
  refine ⟨_, pgs_cons pt pu hs, fun M s σ H vs ds Q rl h q => ?_⟩
  cases h with
  | nil => exact q.elim
  | @cons v vs d ds hv ht =>
    refine ⟨v, vs, rfl, st M s σ H v d _ rl hv ?_⟩
    have q : GoodS N W M H ((f d s).bind fun _ s1 => fs ds s1) _ := q
    refine q.bind.imp fun M1 H1 σ1 _ s1 e1 r1 q1 w1 => ?_
    refine su M1 s1 σ1 H1 vs ds _ r1 (e1.ra ht) (q1.imp fun M2 H2 σ2 _ s2 e2 r2 q2 w2 => q2 ?_)
    rw [wipe_app, wipe_app, w2, ← wipe_comm, w1, wipe_comm]
/-- (a, b, ..) = a list of that length -/
def gLst (K : PySem.W.Frag) (n : Nat) (t : TGs) : TG := fun v σ H Q => ∃ a xs, v = .ref a ∧ SqL K H a xs ∧ xs.length = n ∧ t xs σ H Q
theorem pg_lst {es : List Expr} {k : Nat} {t : TGs} {n : Nat} {pos : Pos} (hc : X.calm = true) (h : PGs X es t)
    (hn : (assignEach es X.env).length = n := by rfl) (hst : (assignEach es X.env).findIdx? (·.1) = none := by rfl) : PG X (.Tuple es k pos) (gLst X.K n t) := by
  refine ⟨fun pins s σ H v u Q I r hw => ?_⟩
  obtain ⟨a, xs, e1, hq, hl, hw⟩ := hw
  subst e1
  cases r
  obtain ⟨its, rv, ht, hz⟩ := I.list hq
  have h2 := ht.isList
  rw [assign_Tuple]
  refine wpAny_bind (wpAny_standAt ?_)
  unfold unpack
  have e3 : (assignEach es X.env).length = its.toArray.size := by simp [hn, ← hl, rv.length]
  rw [e3, hst]
  refine wpAny_bind (wpAny_holding (PySem.W.kun_itemsOf (I.ok.hd hc) h2 fun h' hx => ?_))
  have I1 : Inv X pins σ H { s with heap := h' } := I.kept (t' := s.toks) fun b o e => hx b o (Nat.ne_of_lt (Heap.lt_size e)) e
  exact h.run pins _ σ H xs _ Q I1 (by simpa using rv) hw
theorem pg_or {tg : Expr} {t u : TG} (h1 : PG X tg t) (h2 : PG X tg u) : PG X tg fun v σ H Q => t v σ H Q ∨ u v σ H Q :=
  ⟨fun pins s σ H v w Q I r h => h.elim (h1.run pins s σ H v w Q I r) (h2.run pins s σ H v w Q I r)⟩
theorem sg_tup {es : List Expr} {k n : Nat} {f : Tgs} {ts : List Nat} {pos : Pos} (hK : X.K = N.K) (hc : X.calm = true) (h : SGs N W X es f ts) (hn : (assignEach es X.env).length = n := by rfl) (hst : (assignEach es X.env).findIdx? (·.1) = none := by rfl) : SG N W X (.Tuple es k pos) (gT n f) ts := by
  obtain ⟨t, pt, st⟩ := h
  refine ⟨_, pg_or (pg_tup hc pt hn hst) (pg_lst hc pt hn hst), fun M s σ H v d Q rl h q => ?_⟩
  unfold gT at q
  split at q
  · split at q
    · rename_i l hl
      cases h with
      | tup h1 h2 => exact .inl ⟨_, _, rfl, hK ▸ h1.sq, h2.length.trans hl, st M s σ H _ l Q rl h2 q⟩
    · exact q.elim
  · split at q
    · rename_i l hl
      cases h with
      | lst m h1 h2 => exact .inr ⟨_, _, rfl, .of h1, h2.length.trans hl, st M s σ H _ l Q rl h2 q⟩
    · exact q.elim
  · exact q.elim
/-! ### statements -/
variable {e : Expr} {st : Stmt} {rest : List Stmt} {f f' : Ss} {fe : Ex} {pos : Pos}
theorem sss_nil : SSs N W X [] sNil := ⟨_, pss_nil, fun M s σ H D rl q => q.here rl⟩
theorem sss_one (h : SS N W X st f) : SSs N W X [st] f := by
  obtain ⟨t, pt, h⟩ := h
  exact ⟨t, pss_one pt, h⟩
theorem sss_cons (h : SS N W X st f) (h' : SSs N W X rest f') : SSs N W X (st :: rest) (sCons f f') := by
  obtain ⟨t, pt, h⟩ := h
  obtain ⟨u, pu, h'⟩ := h'
  refine ⟨_, pss_cons pt pu, fun M s σ H D rl q => h M s σ H _ rl (q.bind.imp fun M1 H1 σ1 fl s1 e1 r1 q1 => ?_)⟩
  cases fl with
  | nx => exact h' M1 s1 σ1 H1 D r1 q1
  | rt d => exact q1.here r1
theorem ss_never : SS N W X st sNever := ⟨_, ps_never, fun M s σ H D rl q => q.elim⟩
theorem ss_set {i : Nat} {x : Str} {pos' : Pos} (hN : X.N.Nodup) (hi : X.N[i]? = some x) (hx : Loc X.env.scope x) (he : SE N W X e fe) (hs : swapsWith e (some (.Name x pos')) pos.line X.env = pure false := by rfl) (hf : X.fn x = true ∨ X.env.scope.names.lookup x = some .local := by first | exact .inl rfl | exact .inr rfl | assumption) :
    SS N W X (.Assign [.Name x pos'] e pos) (sSet i fe) := by
  obtain ⟨t, pt, h⟩ := he
  exact ⟨_, ps_set hN hi hx pt hs hf, fun M s σ H D rl q => h M s σ H _ rl (q.bindE.imp fun M1 H1 d s1 e1 r1 q1 v h1 => q1.at (Ext.refl _ _) (r1.set h1))⟩
theorem ss_own {i : Nat} {x : Str} {pos' : Pos} {fl : As} (hN : X.N.Nodup) (hi : X.N[i]? = some x) (hx : Loc X.env.scope x) (he : SF N W X e fl) (hs : swapsWith e (some (.Name x pos')) pos.line X.env = pure false := by rfl) (hf : X.fn x = true ∨ X.env.scope.names.lookup x = some .local := by first | exact .inl rfl | exact .inr rfl | assumption) :
    SS N W X (.Assign [.Name x pos'] e pos) (sOwn i fl) := by
  obtain ⟨t, pt, h⟩ := he
  refine ⟨_, ps_set hN hi hx pt hs hf, fun M s σ H D rl q => h M s σ H _ rl ?_⟩
  unfold sOwn at q
  cases hf : fl s with
  | stuck => rw [hf] at q; exact q.elim
  | exc c d s1 => rw [hf] at q; exact q
  | ok ds s1 =>
    rw [hf] at q
    refine fun M1 H1 e1 r1 p xs fr m hp h1 => ?_
    exact q _ _ _ (e1.ownW fr) (r1.setOwn m hp h1)
theorem ss_asg {tg : Expr} {g : Tg} {ts : List Nat} (he : SE N W X e fe) (hg : SG N W X tg g ts) (hs : swapsWithSole [tg] e pos.line X.env = pure false := by rfl) (hw : swappedStores [tg] e X.env = pure none := by rfl)
    (h1 : (assignEach [tg] X.env).map (·.2) = [assign tg X.env] := by rfl) : SS N W X (.Assign [tg] e pos) (sAsg g fe) := by
  obtain ⟨t, pt, h⟩ := he
  obtain ⟨u, pu, hu⟩ := hg
  refine ⟨_, ps_asg pt pu hs hw h1, fun M s σ H D rl q => h M s σ H _ rl (q.bindE.imp fun M1 H1 d s1 e1 r1 q1 v hv => ?_)⟩
  exact hu M1 s1 σ H1 v d _ r1 hv (q1.bind.imp fun M2 H2 σ2 _ s2 e2 r2 q2 _ => q2.here r2)
theorem ss_par {i j : Nat} {x y : Str} {a b : Expr} {fs : As} {px py pt : Pos} {kt k2 pt2} (hc : X.calm = true) (hN : X.N.Nodup) (hi : X.N[i]? = some x) (hj : X.N[j]? = some y) (hij : i ≠ j)
    (hx : X.env.scope.names.lookup x = some .local) (hy : X.env.scope.names.lookup y = some .local) (ha : SA N W X [a, b] fs)
    (hw : swappedStores [.Tuple [.Name x px, .Name y py] kt pt] (.Tuple [a, b] k2 pt2) X.env = pure (some [x, y]))
    (hs : swapsWithSole [.Tuple [.Name x px, .Name y py] kt pt] (.Tuple [a, b] k2 pt2) pos.line X.env = pure false := by rfl) :
    SS N W X (.Assign [.Tuple [.Name x px, .Name y py] kt pt] (.Tuple [a, b] k2 pt2) pos) (sPar i j fs) := by
  obtain ⟨t, pt, h, _⟩ := ha
  refine ⟨_, ps_par hc hN hi hj hij hx hy pt hw hs, fun M s σ H D rl q => h M s σ H _ rl (q.bindE.imp fun M1 H1 d s1 e1 r1 q1 v hv => ?_)⟩
  cases hv with
  | nil => exact q1.elim
  | cons h1 hv =>
    cases hv with
    | nil => exact q1.elim
    | cons h2 hv =>
      cases hv with
      | cons _ _ => exact q1.elim
      | nil => exact ⟨_, _, rfl, q1.at (Ext.refl _ _) ((r1.set h1).set h2)⟩
theorem ss_aug {i : Nat} {x : Str} {op : Operator} {r : R2} {G : D → D → Option D} {pos' : Pos} (hN : X.N.Nodup) (hi : X.N[i]? = some x) (hx : Loc X.env.scope x) (he : SE N W X e fe) (ho : OpR X (inplaceOp op) r) (hr : OpSim N r G) (hf : X.fn x = true ∨ X.env.scope.names.lookup x = some .local := by first | exact .inl rfl | exact .inr rfl | assumption) :
    SS N W X (.AugAssign (.Name x pos') op e pos) (sAug G i fe) := by
  obtain ⟨t, pt, h⟩ := he
  refine ⟨_, ps_aug (ti := r) hN hi hx pt ho hf, fun M s σ H D rl q => ?_⟩
  have sim := sim_opL (W := W) hr (i := i) (fun M s σ H Q rl q => h M s σ H Q rl (q.imp fun _ _ _ _ _ _ k v hv => k v hv.rb))
  obtain ⟨v, h1, h2⟩ := sim M s σ H (fun z H2 => D.nx (σ.set i (some z)) H2) rl (q.bindE.imp fun M1 H1 d s1 e1 r1 q1 v hv => q1.at (Ext.refl _ _) (r1.set hv))
  exact ⟨v, h1, h2⟩
theorem ss_ex (he : SE N W X e fe) (hs : swapsWith e none pos.line X.env = pure false := by rfl) : SS N W X (.Expr e pos) (sEx fe) := by
  obtain ⟨t, pt, h⟩ := he
  exact ⟨_, ps_expr pt hs, fun M s σ H D rl q => h M s σ H _ rl (q.bindE.imp fun M1 H1 d s1 e1 r1 q1 v hv => q1.here r1)⟩
theorem ss_ret (he : SE N W X e fe) : SS N W X (.Return (some e) pos) (sRet fe) := by
  obtain ⟨t, pt, h⟩ := he
  exact ⟨_, ps_ret pt, fun M s σ H D rl q => h M s σ H _ rl (q.bindE.imp fun M1 H1 d s1 e1 r1 q1 v hv => q1.at (Ext.refl _ _) r1 v hv)⟩
theorem ss_if {c : Expr} {t : Ts} {a b : List Stmt} (hc : ST N W X c t) (ha : SSs N W X a f) (hb : SSs N W X b f') : SS N W X (.If c a b pos) (sIf t f f') := by
  obtain ⟨tc, pc, hc⟩ := hc
  obtain ⟨ta, pa, ha⟩ := ha
  obtain ⟨tb, pb, hb⟩ := hb
  refine ⟨_, ps_if pc pa pb, fun M s σ H D rl q => hc M s σ H _ rl (q.bindE.imp fun M1 H1 x s1 e1 r1 q1 => ?_)⟩
  cases x with
  | true => exact iteT (ha M1 s1 σ H1 D r1 q1)
  | false => exact iteF (hb M1 s1 σ H1 D r1 q1)
theorem ss_app {o : Expr} {i : Nat} {apos cpos : Pos} (po : PE X o (tVar i)) (he : SE N W X e fe)
    (hbase : attributeBase o "append" X.env (eval o X.env) = eval o X.env := by rfl)
    (hfew : ((backTo cpos (starEach [e] X.env)).all (fun x => !x.1) && (backToKw cpos (keywordEach [] X.env)).all (fun x => x.1.isSome) && decide ([e].length + ([] : List Keyword).length + (if ([] : List Keyword).isEmpty then 0 else 1) < 30)) = true := by rfl)
    (hline : (apos.endLine == cpos.line) = true := by rfl) (hs : starEach [e] X.env = (false, eval e X.env) :: starEach [] X.env := by rfl) (hplain : (backTo cpos (starEach [] X.env)).any (·.1) = false := by rfl)
    (hsw : swapsWith (.Call (.Attribute o "append" apos) [e] [] cpos) none pos.line X.env = pure false := by rfl) : SS N W X (.Expr (.Call (.Attribute o "append" apos) [e] [] cpos) pos) (sApp i fe) := by
  obtain ⟨t, pt, h⟩ := he
  refine ⟨_, ps_expr (pe_bm PySem.F.plainAttrs_list PySem.F.slot_list_append PySem.F.type_list_append mt_append po (pa_cons pt pa_nil hs) hbase hfew hline hs hplain) hsw, fun M s σ H D rl q => ?_⟩
  unfold sApp at q
  split at q
  · rename_i l0 h0
    obtain ⟨a, xs, k1, m, k2, k3⟩ := rl.own i l0 h0
    refine ⟨_, k1, .inl ⟨rfl, xs, .of k2⟩, ?_⟩
    refine h M s σ H _ rl (q.bindE.imp fun M1 H1 d s1 e1 r1 q1 v hv => ?_)
    split at q1
    · rename_i l h1
      split at q1
      · rename_i hl
        obtain ⟨b, ys, j1, m1, j2, j3⟩ := r1.own i l h1
        rw [k1] at j1
        cases j1
        refine ⟨a, ys, v, rfl, rfl, j2, lt_line (by rw [j3.length]; exact hl), ?_⟩
        exact q1.at (ext_upd r1.toRelC m1) (r1.updL ⟨l, h1⟩ k1 m1 (j3.append (.cons hv .nil)))
      · exact q1.elim
    · exact q1.elim
  · exact q.elim
theorem ss_ext {o : Expr} {i : Nat} {apos cpos : Pos} (po : PE X o (tVar i)) (he : SE N W X e fe)
    (hbase : attributeBase o "extend" X.env (eval o X.env) = eval o X.env := by rfl)
    (hfew : ((backTo cpos (starEach [e] X.env)).all (fun x => !x.1) && (backToKw cpos (keywordEach [] X.env)).all (fun x => x.1.isSome) && decide ([e].length + ([] : List Keyword).length + (if ([] : List Keyword).isEmpty then 0 else 1) < 30)) = true := by rfl)
    (hline : (apos.endLine == cpos.line) = true := by rfl) (hs : starEach [e] X.env = (false, eval e X.env) :: starEach [] X.env := by rfl) (hplain : (backTo cpos (starEach [] X.env)).any (·.1) = false := by rfl)
    (hsw : swapsWith (.Call (.Attribute o "extend" apos) [e] [] cpos) none pos.line X.env = pure false := by rfl) : SS N W X (.Expr (.Call (.Attribute o "extend" apos) [e] [] cpos) pos) (sExt i fe) := by
  obtain ⟨t, pt, h⟩ := he
  refine ⟨_, ps_expr (pe_bm PySem.F.plainAttrs_list PySem.F.slot_list_extend PySem.F.type_list_extend mt_extend po (pa_cons pt pa_nil hs) hbase hfew hline hs hplain) hsw, fun M s σ H D rl q => ?_⟩
  unfold sExt at q
  split at q
  · rename_i l0 h0
    obtain ⟨a, xs, k1, m, k2, k3⟩ := rl.own i l0 h0
    refine ⟨_, k1, .inl ⟨rfl, xs, .of k2⟩, ?_⟩
    refine h M s σ H _ rl (q.bindE.imp fun M1 H1 d s1 e1 r1 q1 v hv => ?_)
    split at q1
    · rename_i l l2 h1
      split at q1
      · rename_i hl
        obtain ⟨b, ys, j1, m1, j2, j3⟩ := r1.own i l h1
        rw [k1] at j1
        cases j1
        cases hv with
        | lst n1 n2 n3 =>
          refine ⟨a, _, ys, _, rfl, rfl, j2, n2, len_line (by rw [j3.length, n3.length]; exact hl), ?_⟩
          exact q1.at (ext_upd r1.toRelC m1) (r1.updL ⟨l, h1⟩ k1 m1 (j3.append n3))
      · exact q1.elim
    · exact q1.elim
  · exact q.elim
end
end Z
/-! ## stores, loops, comprehensions -/
namespace Z
open PySem PySem.Spec L2 GxR
open PyProof.Rows hiding St
section
variable {N : En} {W : WX} {X : Cx} {M : MM} {H : Hp} {s : S} {σ : St} {e : Expr} {st : Stmt} {rest : List Stmt} {f f' : Ss} {fe : Ex} {pos : Pos}
theorem RA.setAt {K : PySem.W.Frag} {xs : List V} {l l' : List D} {k : Int} {v : V} {d : D} (h : RA K M H xs l) (hv : R K M H v d) (e : setAt l k d = some l') : ∃ j, ixN xs.length k = some j ∧ RA K M H (xs.set j v) l' := by
  unfold Z.setAt at e
  obtain ⟨j, e1, rfl⟩ := Option.map_eq_some_iff.mp e
  exact ⟨j, by rw [h.length]; exact e1, h.set j hv⟩
/-- a cell is written -/
theorem Rel.updC (rl : Rel N M s σ H) {a : Addr} {n : Nat} {l' : List D} {xs' : List V} (hn : n < s.cs.length) (m : M a = some (.cell n)) (q : RA N.K M H xs' l') : Rel N M { s with cs := s.cs.set n (.lst l') } σ (upd H a (.lst xs')) where
  cell := fun j c hj => by
    by_cases z : n = j
    · subst z
      rw [List.getElem?_set_self hn] at hj
      cases hj
      exact ⟨a, m, xs', upd_same, (ext0_upd m).ra q⟩
    · rw [List.getElem?_set_ne z] at hj
      obtain ⟨b, k1, k2⟩ := rl.cell j c hj
      refine ⟨b, k1, k2.ext (ext0_upd m) (upd_ne ?_)⟩
      rintro rfl
      rw [m] at k1
      cases k1
      exact z rfl
  uniq := rl.uniq
  csz := fun b j hj => by rw [List.length_set]; exact rl.csz b j hj
  mdom := fun b u h1 => by
    by_cases ha : b = a
    · subst ha
      exact ⟨_, upd_same, fun _ z => nomatch z⟩
    · obtain ⟨o, k1, k2⟩ := rl.mdom b u h1
      exact ⟨o, by rw [upd_ne ha]; exact k1, k2⟩
  tabs := fun P hP => by
    obtain ⟨u, hu, n⟩ := rl.mdom a _ m
    exact tab_upd hu n (rl.tabs P hP)
  len := rl.len
  sv := fun j d hj => by
    obtain ⟨v, k1, k2⟩ := rl.sv j d hj
    exact ⟨v, k1, (ext0_upd m).r k2⟩
  own := fun j l hj => by
    obtain ⟨b, ys, k1, k2, k3, k4⟩ := rl.own j l hj
    refine ⟨b, ys, k1, k2, ?_, (ext0_upd m).ra k4⟩
    rw [upd_ne]
    · exact k3
    · rintro rfl
      rw [m] at k2
      cases k2
theorem ext_updC (r : RelC N M s.cs H) {p : Addr} {xs : List V} {n : Nat} (h : M p = some (.cell n)) : Ext M H M (upd H p (.lst xs)) where
  toExt0 := ext0_upd h
  tab := fun b hb => by
    obtain ⟨u, hu, n⟩ := r.mdom p _ h
    exact tab_upd hu n hb
  far := fun a ha => ⟨ha, upd_ne fun z => by rw [z, h] at ha; cases ha⟩
  dom := fun a o ho n => by
    by_cases z : a = p
    · subst z
      exact ⟨_, upd_same, fun _ z => nomatch z⟩
    · exact ⟨o, by rw [upd_ne z]; exact ho, n⟩
theorem ss_setC {o k : Expr} {fo fk : Ex} {tp : Pos} (hK : X.K = N.K) (ho : SE N W X o fo) (hk : SE N W X k fk) (he : SE N W X e fe)
    (hs : swapsWithSole [.Subscript o k tp] e pos.line X.env = pure false := by rfl) (hw : swappedStores [.Subscript o k tp] e X.env = pure none := by rfl)
    (h1 : (assignEach [.Subscript o k tp] X.env).map (·.2) = [assign (.Subscript o k tp) X.env] := by rfl)
    (ha : ∀ v, assign (.Subscript o k tp) X.env v = (do
      let ov ← holding [v] (eval o X.env)
      let iv ← holding [v, ov] (eval k X.env)
      standAt tp
      holding [v, ov, iv] (setItem ov iv v)
      release [v, ov, iv] []) := by intro _; rfl) : SS N W X (.Assign [.Subscript o k tp] e pos) (sSetC fo fk fe) := by
  obtain ⟨t, pt, h⟩ := he
  obtain ⟨u, pu, hu⟩ := hk
  obtain ⟨w, pw, hw'⟩ := ho
  refine ⟨_, ps_asg pt (pg_sub pw pu set_list ha) hs hw h1, fun M s σ H D rl q => h M s σ H _ rl (q.bindE.imp fun M1 H1 d s1 e1 r1 q1 v hv => ?_)⟩
  refine hw' M1 s1 σ H1 _ r1 (q1.bindE.imp fun M2 H2 od s2 e2 r2 q2 ov hov => ?_)
  refine hu M2 s2 σ H2 _ r2 (q2.bindE.imp fun M3 H3 kd s3 e3 r3 q3 kv hkv => ?_)
  split at q3
  · rename_i n k
    split at q3
    · rename_i l hl
      split at q3
      · rename_i l' hl'
        obtain ⟨a, xs, rfl, m, j2, j3⟩ := cell_at r3 (e3.r hov) hl
        cases hkv
        obtain ⟨j, g1, g2⟩ := j3.setAt (e3.r (e2.r hv)) hl'
        refine ⟨a, xs, k, j, rfl, rfl, j2, g1, ?_⟩
        exact q3.at (ext_updC r3.toRelC m) (r3.updC (List.getElem?_eq_some_iff.mp hl).1 m g2)
      · exact q3.elim
    · exact q3.elim
  · exact q3.elim
/-! ### loops -/
theorem drop_get {α : Type} {l : List α} {i : Nat} {d : α} (h : l[i]? = some d) : l.drop i = d :: l.drop (i + 1) := by
  obtain ⟨h1, h2⟩ := List.getElem?_eq_some_iff.mp h
  rw [List.drop_eq_getElem_cons h1, h2]
theorem sim_for {wi : TI} {fi : Is} {g : TG} {fg : Tg} {ts : List Nat} {tb : TS} {fb : Ss} (hi : SimI N W wi fi) (hg : SimG N W g fg ts) (hb : SimS N W tb fb) : SimS N W (tFor wi g tb) (sFor fi fg fb) := fun M s σ H D rl q => by
  refine hi M s σ H _ rl (q.bindE.imp fun M1 H1 ds s1 e1 r1 q1 J st => ?_)
  refine ⟨fun i m σ H => i + m = ds.length ∧ ∃ M s, Ext M1 H1 M H ∧ Rel N M s σ H ∧ GoodS N W M H (forL fg fb (ds.drop i) s) (fun M' H' σ' fl _ => match fl with
    | .nx => D.nx σ' H'
    | .rt d => ∀ v, R N.K M' H' v d → D.rt v H'), ⟨ds.length, Nat.zero_add _, M1, s1, Ext.refl _ _, r1, q1⟩, fun i m σ H hW => ?_⟩
  obtain ⟨hm, M2, s2, e2, r2, q2⟩ := hW
  obtain ⟨hstop, hgo⟩ := st M2 H _ e2 r2.toRelC i
  cases hd : ds[i]? with
  | none =>
    have hl : ds.length ≤ i := List.getElem?_eq_none_iff.mp hd
    refine .inl ⟨hstop hl, ?_⟩
    rw [List.drop_eq_nil_of_le hl] at q2
    exact q2.here r2
  | some d =>
    obtain ⟨h1, h2⟩ := hgo d hd
    have hlt := (List.getElem?_eq_some_iff.mp hd).1
    rw [drop_get hd] at q2
    refine .inr ⟨h1, fun σ' H' => (i + 1) + (m - 1) = ds.length ∧ ∃ M s, Ext M1 H1 M H' ∧ Rel N M s σ' H' ∧ GoodS N W M H' (forL fg fb (ds.drop (i + 1)) s) (fun M' H' σ' fl _ => match fl with
      | .nx => D.nx σ' H'
      | .rt d => ∀ v, R N.K M' H' v d → D.rt v H'), fun σ' H' p => ⟨m - 1, by omega, p⟩, fun x H' y => ?_⟩
    obtain ⟨k, hx⟩ := h2 x H' y
    have e3 := r2.toRelC.ext k
    refine hg M2 s2 σ H' x d _ (r2.same k) hx ((GoodS.rebase q2 e3).bind.imp fun M4 H4 σ4 _ s4 e4 r4 q4 _ => ?_)
    refine hb M4 s4 σ4 H4 _ r4 (q4.bind.imp fun M5 H5 σ5 fl s5 e5 r5 q5 => ?_)
    cases fl with
    | nx => exact ⟨by omega, M5, s5, ((e2.trans e3).trans e4).trans e5, r5, q5⟩
    | rt v => exact q5.here r5
theorem ss_for {tg iter : Expr} {body : List Stmt} {fi : Is} {fg : Tg} {ts : List Nat} {fb : Ss} (hp : PassesOwn (model X.prog X.w) X.A X.env X.xe) (hc : X.calm = true) (hi : SI N W X tg iter fi) (hg : SG N W X tg fg ts) (hb : SSs N W X body fb)
    (hs : ∀ x, foldedSetIterable iter X.env x = pure x := by intro _; rfl) : SS N W X (.For tg iter body [] pos) (sFor fi fg fb) := by
  obtain ⟨ti, pi, hi⟩ := hi
  obtain ⟨tg, pg, hg⟩ := hg
  obtain ⟨tb, pb, hb⟩ := hb
  exact ⟨_, ps_for hp hc pi pg pb hs, sim_for hi hg hb⟩
theorem ss_while {c : Expr} {body : List Stmt} {ft : Ts} {fb : Ss} (n : Nat) (hp : PassesOwn (model X.prog X.w) X.A X.env X.xe) (hc : ST N W X c ft) (hb : SSs N W X body fb) : SS N W X (.While c body [] pos) (whileN ft fb n) := by
  obtain ⟨tc, pc, hc⟩ := hc
  obtain ⟨tb, pb, hb⟩ := hb
  refine ⟨_, ps_while hp pc pb, fun M s σ H D rl q => ?_⟩
  refine ⟨fun m σ H => ∃ M s, Rel N M s σ H ∧ GoodS N W M H (whileN ft fb m s) (fun M' H' σ' fl _ => match fl with
    | .nx => D.nx σ' H'
    | .rt d => ∀ v, R N.K M' H' v d → D.rt v H'), ⟨n, M, s, rl, q⟩, fun m σ H hW => ?_⟩
  obtain ⟨M2, s2, r2, q2⟩ := hW
  cases m with
  | zero => exact q2.elim
  | succ m =>
    refine hc M2 s2 σ H _ r2 (q2.bindE.imp fun M3 H3 b s3 e3 r3 q3 => ?_)
    cases b with
    | true =>
      refine iteT ⟨fun σ' H' => ∃ M s, Rel N M s σ' H' ∧ GoodS N W M H' (whileN ft fb m s) (fun M' H' σ' fl _ => match fl with
        | .nx => D.nx σ' H'
        | .rt d => ∀ v, R N.K M' H' v d → D.rt v H'), fun σ' H' p => ⟨m, Nat.lt_succ_self m, p⟩, ?_⟩
      refine hb M3 s3 σ H3 _ r3 (q3.bind.imp fun M5 H5 σ5 fl s5 e5 r5 q5 => ?_)
      cases fl with
      | nx => exact ⟨M5, s5, r5, q5⟩
      | rt v => exact q5.here r5
    | false => exact iteF (q3.here r3)
/-! ### what is walked -/
def iSeq (f : Ex) : Is := fun s => (f s).bind fun x s1 => match x with
  | .tup l => .ok l s1
  | .lst l => .ok l s1
  | _ => .stuck
def rngL (lo hi : Int) : List D := (List.range (hi - lo).toNat).map fun (k : Nat) => D.int (lo + k)
def iRn1 (f : As) : Is := fun s => (f s).bind fun x s1 => match x with
  | [.int j] => if -(2 ^ 62) ≤ j ∧ j < 2 ^ 62 then .ok (rngL 0 j) s1 else .stuck
  | _ => .stuck
def iRn2 (f : As) : Is := fun s => (f s).bind fun x s1 => match x with
  | [.int i, .int j] => if -(2 ^ 62) ≤ i ∧ i < 2 ^ 62 ∧ -(2 ^ 62) ≤ j ∧ j < 2 ^ 62 then .ok (rngL i j) s1 else .stuck
  | _ => .stuck
def iRnV (f : Ex) : Is := fun s => (f s).bind fun x s1 => match x with
  | .rng i j => if -(2 ^ 62) ≤ i ∧ i < 2 ^ 62 ∧ -(2 ^ 62) ≤ j ∧ j < 2 ^ 62 then .ok (rngL i j) s1 else .stuck
  | _ => .stuck
variable {tg iter : Expr} {p : Pos}
theorem steps_list {a : Addr} {xs : List V} {l : List D} (m : M a = none) (h : H a = some (.lst xs)) (q : RA N.K M H xs l) : Steps N M H (Itl N.K a) l := fun M2 H2 cs e rc i => by
  obtain ⟨h2, m2⟩ := e.keep a _ h m (fun _ z => nomatch z)
  have uniq : ∀ ys, SqL N.K H2 a ys → SqL N.K H2 a xs → (∀ i : Nat, (∀ zs, SqL N.K H2 a zs → zs[i]? = ys[i]?) → ys[i]? = xs[i]?) := fun ys h1 h2 i h3 => (h3 xs h2).symm
  refine ⟨fun hl => ⟨xs, .of h2, by rw [q.length]; exact hl⟩, fun d hd => ?_⟩
  obtain ⟨v, k1, k2⟩ := (e.ra q).get hd
  refine ⟨⟨xs, v, .of h2, k1⟩, fun x H' y => ?_⟩
  obtain ⟨rfl, y⟩ := y
  have := y xs (.of h2)
  rw [k1] at this
  cases this
  exact ⟨Same.refl _, k2⟩
theorem steps_tup {a : Addr} {xs : List V} {l : List D} (h : StT N.K M H a xs) (q : RA N.K M H xs l) : Steps N M H (Itt N.K a) l := fun M2 H2 cs e rc i => by
  have h2 := (e.toExt0.stt h).sq
  refine ⟨fun hl => ⟨xs, h2, by rw [q.length]; exact hl⟩, fun d hd => ?_⟩
  obtain ⟨v, k1, k2⟩ := (e.ra q).get hd
  refine ⟨⟨xs, v, h2, k1⟩, fun x H' y => ?_⟩
  obtain ⟨rfl, y⟩ := y
  have := y xs h2
  rw [k1] at this
  cases this
  exact ⟨Same.refl _, k2⟩
theorem PI.or {wi wi' : TI} (h : PI X tg iter wi) (h' : PI X tg iter wi') : PI X tg iter (fun σ H R => wi σ H R ∨ wi' σ H R) :=
  ⟨fun pins s σ H R I q => q.elim (h.run pins s σ H R I) (h'.run pins s σ H R I)⟩
/-- a choice made behind an expression's value -/
theorem pi_seq {l : Expr} {tl : TE} (hl : PE X l tl) : PI X tg l (fun σ H R => tl σ H fun x H1 => ∃ a, x = .ref a ∧ (((∃ xs, SqL X.K H1 a xs) ∧ R (Itl X.K a) H1) ∨ ((∃ xs, SqT X.K H1 a xs) ∧ R (Itt X.K a) H1))) := by
  refine ⟨fun pins s σ H R I h => ?_⟩
  refine thn (hl.run pins s σ H _ I h) fun v s1 ⟨x, H1, I1, r1, q1⟩ => ?_
  obtain ⟨a, ex, q⟩ := q1
  subst ex
  cases r1
  rcases q with ⟨⟨xs, hq⟩, q⟩ | ⟨⟨xs, hq⟩, q⟩
  · obtain ⟨its, rv, p, hz⟩ := I1.list hq
    refine wpAny_pyIter_list p.isList ?_
    refine ⟨s1.heap.objs.size, [s1.heap.objs.size], _, _, H1, rfl, I1.kept (t' := s1.toks) fun b o e => Heap.get?_push_of_some _ e, turn_list a _, ⟨_, Heap.get?_push_size _ rfl, rfl, rfl⟩, fun b hb => ?_, q⟩
    have e : b = s1.heap.objs.size := by simpa using hb
    subst e
    exact I1.fpOk (Nat.le_refl _) (I1.hok.fresh (Nat.le_refl _))
  · obtain ⟨its, rv, p, hz⟩ := I1.tuple hq
    refine wpAny_pyIter_tuple (show s1.heap.IsTuple a its.toArray from p) ?_
    refine ⟨s1.heap.objs.size, [s1.heap.objs.size], _, _, H1, rfl, I1.kept (t' := s1.toks) fun b o e => Heap.get?_push_of_some _ e, turn_tuple a _, ⟨_, Heap.get?_push_size _ rfl, rfl, rfl⟩, fun b hb => ?_, q⟩
    have e : b = s1.heap.objs.size := by simpa using hb
    subst e
    exact I1.fpOk (Nat.le_refl _) (I1.hok.fresh (Nat.le_refl _))
theorem si_seq (hK : X.K = N.K) (h : SE N W X e fe) : SI N W X tg e (iSeq fe) := by
  obtain ⟨t, pt, h⟩ := h
  refine ⟨_, pi_seq pt, fun M s σ H Q rl q => h M s σ H _ rl (q.bind.imp fun M1 H1 x s1 e1 r1 q1 v h1 => ?_)⟩
  split at q1
  · cases h1 with
    | tup h2 h3 => exact ⟨_, rfl, .inr ⟨⟨_, hK ▸ h2.sq⟩, by rw [hK]; exact q1.here r1 _ (steps_tup h2 h3)⟩⟩
  · cases h1 with
    | lst m h2 h3 => exact ⟨_, rfl, .inl ⟨⟨_, .of h2⟩, by rw [hK]; exact q1.here r1 _ (steps_list m h2 h3)⟩⟩
  · exact q1.elim
theorem steps_rng {lo hi : Int} : Steps N M H (Itr lo (hi - lo).toNat) (rngL lo hi) := fun M2 H2 cs e rc i => by
  have hlen : (rngL lo hi).length = (hi - lo).toNat := by simp [rngL]
  refine ⟨fun hl => by show (hi - lo).toNat ≤ i; omega, fun d hd => ?_⟩
  have hi2 : i < (hi - lo).toNat := by
    have := (List.getElem?_eq_some_iff.mp hd).1
    omega
  have hd2 : d = .int (lo + i) := by
    unfold rngL at hd
    rw [List.getElem?_map, List.getElem?_range hi2] at hd
    exact (Option.some.inj hd).symm
  subst hd2
  refine ⟨hi2, fun x H' y => ?_⟩
  obtain ⟨rfl, rfl⟩ := y
  exact ⟨Same.refl _, .int _⟩
theorem si_rng1 {a : Expr} {fs : As} {pos : Pos} (hg : Gl X "range") (hm : X.mg "range" = none) (ha : SA N W X [a] fs) (hs : starEach [a] X.env = [(false, eval a X.env)] := by rfl) : SI N W X tg (.Call (.Name "range" p) [a] [] pos) (iRn1 fs) := by
  obtain ⟨t, pt, h, _⟩ := ha
  refine ⟨_, pi_range1 hg hm pt hs, fun M s σ H Q rl q => h M s σ H _ rl (q.bind.imp fun M1 H1 x s1 e1 r1 q1 v h1 => ?_)⟩
  split at q1
  · split at q1
    · rename_i j hj
      cases h1 with
      | cons h2 h3 =>
        cases h2
        cases h3
        refine ⟨j, rfl, hj.1, hj.2, q1.here r1 _ ?_⟩
        have := steps_rng (N := N) (M := M1) (H := H1) (lo := 0) (hi := j)
        rw [Int.sub_zero] at this
        exact this
    · exact q1.elim
  · exact q1.elim
theorem si_rngV (h : SE N W X e fe) : SI N W X tg e (iRnV fe) := by
  obtain ⟨t, pt, h⟩ := h
  refine ⟨_, GXX.pi_rngV pt, fun M s σ H Q rl q => h M s σ H _ rl (q.bind.imp fun M1 H1 x s1 e1 r1 q1 v h1 => ?_)⟩
  split at q1
  · split at q1
    · rename_i i j hj
      cases h1 with
      | rng m h2 => exact ⟨_, i, j, rfl, h2, hj, q1.here r1 _ steps_rng⟩
    · exact q1.elim
  · exact q1.elim
/-- range(n) kept in a name -/
def eRng1 (f : As) : Ex := fun s => (f s).bind fun x s1 => match x with
  | [.int j] => .ok (.rng 0 j) s1
  | _ => .stuck
theorem se_rng1 {a : Expr} {fs : As} {pos : Pos} (hg : Gl X "range") (hm : X.mg "range" = none) (ha : SA N W X [a] fs) (hs : starEach [a] X.env = (false, eval a X.env) :: starEach [] X.env := by rfl) : SE N W X (.Call (.Name "range" p) [a] [] pos) (eRng1 fs) := by
  obtain ⟨t, pt, h, _⟩ := ha
  refine ⟨_, pe_callTy GXX.cr_range1 hg hm (by decide +kernel) pt (by decide) (by decide) hs rfl, fun M s σ H Q rl q => h M s σ H _ rl (q.bind.imp fun M1 H1 x s1 e1 r1 q1 v h1 => ?_)⟩
  split at q1
  · rename_i j
    cases h1 with
    | cons h2 h3 =>
      cases h2
      cases h3
      exact ⟨j, rfl, fun p np => q1.grown r1 (Same.upd np) _ (.rng (r1.toRelC.fresh np) upd_same)⟩
  · exact q1.elim
/-! ### slots of a block -/
theorem wipeL_length : ∀ {vs : List Nat} {l : List Slot}, (wipeL vs l).length = l.length
  | [], _ => rfl
  | i :: r, l => by rw [wipeL, List.length_set, wipeL_length]
theorem wipeL_sv {vs : List Nat} {l : List Slot} {j : Nat} {x : Slot} (h : (wipeL vs l)[j]? = some x) (n : x ≠ .un) : l[j]? = some x ∧ j ∉ vs := by
  induction vs with
  | nil => exact ⟨h, by simp⟩
  | cons i r ih =>
    rw [wipeL] at h
    by_cases z : i = j
    · subst z
      by_cases hlt : i < (wipeL r l).length
      · rw [List.getElem?_set_self hlt] at h
        exact absurd (Option.some.inj h).symm n
      · rw [List.getElem?_eq_none (by rw [List.length_set]; omega)] at h
        cases h
    · rw [List.getElem?_set_ne z] at h
      obtain ⟨h1, h2⟩ := ih h
      exact ⟨h1, by simp only [List.mem_cons, not_or]; exact ⟨fun e => z e.symm, h2⟩⟩
theorem Rel.wipe (r : Rel N M s σ H) (vs : List Nat) : Rel N M (wipeS vs s) (wipe σ vs) H where
  toRelC := r.toRelC
  len := by
    show (L2.wipe σ vs).length = (wipeL vs s.ρ).length
    rw [wipe_length, wipeL_length]
    exact r.len
  sv := fun i d h => by
    obtain ⟨h1, h2⟩ := wipeL_sv h (fun z => nomatch z)
    rw [wipe_out h2]
    exact r.sv i d h1
  own := fun i l h => by
    obtain ⟨h1, h2⟩ := wipeL_sv h (fun z => nomatch z)
    rw [wipe_out h2]
    exact r.own i l h1
theorem restL_length {l0 : List Slot} : ∀ {vs : List Nat} {l : List Slot}, (restL l0 vs l).length = l.length
  | [], _ => rfl
  | i :: r, l => by rw [restL, List.length_set, restL_length]
theorem restL_at {l0 l : List Slot} {vs : List Nat} {j : Nat} {x : Slot} (h : (restL l0 vs l)[j]? = some x) (n : x ≠ .un) : (j ∈ vs ∧ l0[j]? = some x ∧ ∃ d, x = .sv d) ∨ (j ∉ vs ∧ l[j]? = some x) := by
  induction vs with
  | nil => exact .inr ⟨by simp, h⟩
  | cons i r ih =>
    rw [restL] at h
    by_cases z : i = j
    · subst z
      by_cases hlt : i < (restL l0 r l).length
      · rw [List.getElem?_set_self hlt] at h
        refine .inl ⟨List.mem_cons_self, ?_⟩
        cases e : l0[i]? with
        | none => rw [e] at h; exact absurd (Option.some.inj h).symm n
        | some y =>
          rw [e] at h
          cases y with
          | sv d => exact ⟨h, d, (Option.some.inj h).symm⟩
          | un => exact absurd (Option.some.inj h).symm n
          | own l => exact absurd (Option.some.inj h).symm n
      · rw [List.getElem?_eq_none (by rw [List.length_set]; omega)] at h
        cases h
    · rw [List.getElem?_set_ne z] at h
      rcases ih h with ⟨h1, h2⟩ | ⟨h1, h2⟩
      · exact .inl ⟨List.mem_cons_of_mem _ h1, h2⟩
      · exact .inr ⟨by simp only [List.mem_cons, not_or]; exact ⟨fun e => z e.symm, h1⟩, h2⟩
theorem Rel.unwipe {M0 : MM} {s0 : S} {H0 : Hp} {vs : List Nat} (r0 : Rel N M0 s0 σ H0) (e : Ext M0 H0 M H) (r : Rel N M (wipeS vs s) (L2.wipe σ vs) H) : Rel N M (restS vs s0 s) σ H where
  toRelC := r.toRelC
  len := by
    show σ.length = (restL s0.ρ vs s.ρ).length
    rw [restL_length]
    have h1 : (L2.wipe σ vs).length = (wipeL vs s.ρ).length := r.len
    rw [wipe_length, wipeL_length] at h1
    exact h1
  sv := fun i d h => by
    rcases restL_at h (fun z => nomatch z) with ⟨_, h2, _⟩ | ⟨h1, h2⟩
    · obtain ⟨v, k1, k2⟩ := r0.sv i d h2
      exact ⟨v, k1, e.r k2⟩
    · have h3 : (wipeL vs s.ρ)[i]? = some (.sv d) := by
        have : ∀ {vs : List Nat} {l : List Slot}, i ∉ vs → (wipeL vs l)[i]? = l[i]? := fun {vs l} hn => by
          induction vs with
          | nil => rfl
          | cons j r ih =>
            rw [wipeL, List.getElem?_set_ne (fun z => hn (by rw [z]; exact List.mem_cons_self))]
            exact ih (fun z => hn (List.mem_cons_of_mem _ z))
        rw [this h1]
        exact h2
      obtain ⟨v, k1, k2⟩ := r.sv i d h3
      rw [wipe_out h1] at k1
      exact ⟨v, k1, k2⟩
  own := fun i l h => by
    rcases restL_at h (fun z => nomatch z) with ⟨_, _, d, z⟩ | ⟨h1, h2⟩
    · cases z
    · have h3 : (wipeL vs s.ρ)[i]? = some (.own l) := by
        have : ∀ {vs : List Nat} {l : List Slot}, i ∉ vs → (wipeL vs l)[i]? = l[i]? := fun {vs l} hn => by
          induction vs with
          | nil => rfl
          | cons j r ih =>
            rw [wipeL, List.getElem?_set_ne (fun z => hn (by rw [z]; exact List.mem_cons_self))]
            exact ih (fun z => hn (List.mem_cons_of_mem _ z))
        rw [this h1]
        exact h2
      obtain ⟨a, xs, k1, k2⟩ := r.own i l h3
      rw [wipe_out h1] at k1
      exact ⟨a, xs, k1, k2⟩
end
end Z
/-! ## comprehensions, generator expressions, defs -/
namespace Z
open PySem PySem.Spec L2 GxR
open PyProof.Rows hiding St
section
variable {N : En} {W : WX} {X : Cx} {M M' : MM} {H H' : Hp} {s : S} {σ : St}
/-- our new list grows -/
theorem Rel.updF (r : Rel N M s σ H) {p : Addr} {xs : List V} (h : M p = some .far) : Rel N M s σ (upd H p (.lst xs)) where
  toRelC := r.toRelC.updL h (fun _ z => nomatch z)
  len := r.len
  sv := fun i d h1 => by
    obtain ⟨v, k1, k2⟩ := r.sv i d h1
    exact ⟨v, k1, (ext0_upd h).r k2⟩
  own := fun i l h1 => by
    obtain ⟨a, ys, k1, m, k2, k3⟩ := r.own i l h1
    refine ⟨a, ys, k1, m, ?_, (ext0_upd h).ra k3⟩
    rw [upd_ne]
    · exact k2
    · rintro rfl
      rw [h] at m; cases m
theorem Ext.updF (e : Ext M H M' H') {p : Addr} {xs : List V} (f : Fresh M H p) (m : ∃ ys, H' p = some (.lst ys)) : Ext M H M' (upd H' p (.lst xs)) where
  keep := fun a o h1 m1 n => by
    have ne : a ≠ p := fun z => by
      obtain ⟨ps, z2⟩ := f.2 o (z ▸ h1)
      exact n ps z2
    obtain ⟨k1, k2⟩ := e.keep a o h1 m1 n
    exact ⟨by rw [upd_ne ne]; exact k1, k2⟩
  cell := e.cell
  tab := fun b h => by
    obtain ⟨ys, hy⟩ := m
    exact tab_upd hy (fun _ z => nomatch z) (e.tab b h)
  far := fun a h1 => by
    have ne : a ≠ p := fun z => by rw [z, f.1] at h1; cases h1
    obtain ⟨k1, k2⟩ := e.far a h1
    exact ⟨k1, by rw [upd_ne ne]; exact k2⟩
  dom := fun a o h1 n => by
    obtain ⟨o', k1, k2⟩ := e.dom a o h1 n
    by_cases z : a = p
    · subst z
      exact ⟨_, upd_same, fun _ z => nomatch z⟩
    · exact ⟨o', by rw [upd_ne z]; exact k1, k2⟩
theorem GoodE.nox {α β : Type} {r : Res α} {k : α → S → Res β} {Φ : MM → Hp → β → S → Prop} (q : GoodE N W σ M H (r.nox.bind k) Φ) : GoodS N WF M H r (fun M' H' _ a s => GoodE N W σ M' H' (k a s) Φ) := by
  cases r with
  | ok a s => exact fun M2 H2 _ e2 _ => GoodE.rebase q e2
  | exc c d s => exact q.elim
  | stuck => exact q.elim
theorem GoodS.bind0 {α β : Type} {r : Res α} {k : α → S → Res β} {Φ : MM → Hp → St → β → S → Prop} (h : GoodS N W M H (r.bind k) Φ) : GoodS N W M H r (fun _ _ _ a s => GoodS N W M H (k a s) Φ) := by
  cases r with
  | ok a s => exact fun _ _ _ _ _ => h
  | exc c d s => exact h
  | stuck => exact h
theorem wipe_idem {vs : List Nat} : wipe (wipe σ vs) vs = wipe σ vs := by
  induction vs with
  | nil => rfl
  | cons j r ih =>
    rw [wipe, wipe]
    have c : wipe ((wipe σ r).set j none) r = (wipe (wipe σ r) r).set j none := wipe_comm (σ := wipe σ r) (a := r) (b := [j])
    rw [c, ih, List.set_set]
theorem sim_lc {wi : TI} {fi : Is} {g : TG} {fg : Tg} {ts vs : List Nat} {tt : TT} {ft : Ts} {te : TE} {fe : Ex} (hsub : ∀ σ σ' : St, wipe σ' ts = wipe σ ts → wipe σ' vs = wipe σ vs) (hi : SimI N W wi fi) (hg : SimG N WF g fg ts) (ht : SimT N WF tt ft) (he : SimE N WF te fe) :
    SimF N W (tLc wi g tt te vs) (aLc vs fi fg ft fe) := fun M s σ H Q rl q => by
  refine hi M s σ H _ rl ?_
  unfold aLc at q
  cases hfi : fi s with
  | stuck => rw [hfi] at q; exact q.elim
  | exc c d s1 => rw [hfi] at q; exact q
  | ok ds s1 =>
    rw [hfi] at q
    have q : GoodE N W σ M H (if ds.length ≤ 100000 then ((compL vs fg ft fe ds s1).nox.bind fun ys s2 => .ok ys (restS vs s1 s2)) else .stuck) _ := q
    split at q
    case isFalse => exact q.elim
    rename_i hlen
    refine fun M1 H1 e1 r1 J st D np => ?_
    have fr : Fresh M1 H1 D := ⟨r1.toRelC.fresh np, fun o z => by rw [np] at z; cases z⟩
    have fr0 := e1.fresh rl.toRelC np
    obtain ⟨rc0, e0⟩ := r1.toRelC.laid (xs := []) np
    have r0 := r1.laid (xs := []) np
    refine ⟨fun i m H => i + m = ds.length ∧ ∃ M s τ acc xs, Ext M1 H1 M H ∧ Rel N M s τ H ∧ wipe τ vs = wipe σ vs ∧ M D = some .far ∧ H D = some (.lst xs) ∧ RA N.K M H xs acc ∧ acc.length ≤ i ∧
        GoodS N WF M1 H1 (compL vs fg ft fe (ds.drop i) s) (fun M' H' τ ys s2 => Ext M1 H1 M' H' → Rel N M' s2 τ H' → wipe τ vs = wipe σ vs → ∀ xs, M' D = some .far → H' D = some (.lst xs) → RA N.K M' H' xs (acc ++ ys) → Q (.ref D) H'), ⟨ds.length, Nat.zero_add _, own1 M1 D (some .far), s1, σ, [], [], e0, r0, rfl, own1_same, upd_same, .nil, Nat.zero_le _, ?_⟩, fun i m H hW => ?_⟩
    · refine ((GoodE.nox q).rebase e1).imp fun M2 H2 τ ys s2 e2 r2 q2 e3 r3 w3 xs md hd ha => ?_
      rw [List.nil_append] at ha
      have r4 := r3.wipe vs
      rw [w3] at r4
      exact q2.here (r1.unwipe e3 r4) D xs fr0 md hd ha
    · obtain ⟨hm, M2, s2, τ, acc, xs, e2, r2, w2, md, hd, ha, hl, q2⟩ := hW
      obtain ⟨hstop, hgo⟩ := st M2 H _ e2 r2.toRelC i
      cases hdi : ds[i]? with
      | none =>
        have hli : ds.length ≤ i := List.getElem?_eq_none_iff.mp hdi
        refine .inl ⟨hstop hli, ?_⟩
        rw [List.drop_eq_nil_of_le hli] at q2
        exact q2 M2 H τ e2 r2 e2 r2 w2 xs md hd (by rw [List.append_nil]; exact ha)
      | some d =>
        obtain ⟨h1, h2⟩ := hgo d hdi
        have hlt := (List.getElem?_eq_some_iff.mp hdi).1
        rw [drop_get hdi, compL] at q2
        refine .inr ⟨h1, fun H' => (i + 1) + (m - 1) = ds.length ∧ ∃ M s τ acc xs, Ext M1 H1 M H' ∧ Rel N M s τ H' ∧ wipe τ vs = wipe σ vs ∧ M D = some .far ∧ H' D = some (.lst xs) ∧ RA N.K M H' xs acc ∧ acc.length ≤ i + 1 ∧
          GoodS N WF M1 H1 (compL vs fg ft fe (ds.drop (i + 1)) s) (fun M' H' τ ys s2 => Ext M1 H1 M' H' → Rel N M' s2 τ H' → wipe τ vs = wipe σ vs → ∀ xs, M' D = some .far → H' D = some (.lst xs) → RA N.K M' H' xs (acc ++ ys) → Q (.ref D) H'), fun H' p => ⟨m - 1, by omega, p⟩, fun x H' y => ?_⟩
        obtain ⟨k, hx⟩ := h2 x H' y
        have e3 := r2.toRelC.ext k
        have e13 := e2.trans e3
        have rw2 := (r2.same k).wipe vs
        rw [w2] at rw2
        refine hg M2 (wipeS vs s2) (wipe σ vs) H' x d _ rw2 hx ((GoodS.rebase q2.bind0 e13).imp fun M4 H4 σ4 _ s4 e4 r4 q4 w4 => ?_)
        have w4' : wipe σ4 vs = wipe σ vs := by rw [hsub _ _ w4, wipe_idem]
        refine ⟨by rw [w4'], ?_⟩
        refine ht M4 s4 σ4 H4 _ r4 ((GoodS.rebase q4.bind0 (e13.trans e4)).toE.imp fun M5 H5 b s5 e5 r5 q5 => ?_)
        have e25 := (e3.trans e4).trans e5
        have e15 := e2.trans e25
        obtain ⟨md5, hd5⟩ := e25.far D md
        cases b with
        | false => exact iteF ⟨by omega, M5, s5, σ4, acc, xs, e15, r5, w4', md5, hd5.trans hd, e25.ra ha, by omega, q5⟩
        | true =>
          refine iteT (he M5 s5 σ4 H5 _ r5 ((GoodS.rebase (GoodS.bind0 q5) e15).toE.imp fun M6 H6 y s6 e6 r6 q6 yv hy => ?_))
          obtain ⟨md6, hd6⟩ := e6.far D md5
          have hd6' : H6 D = some (.lst xs) := hd6.trans (hd5.trans hd)
          have e16 := e15.trans e6
          have e26 := e25.trans e6
          refine ⟨xs, hd6', lt_line (by rw [ha.length]; omega), by omega, M6, s6, σ4, acc ++ [y], xs ++ [yv], e16.updF fr ⟨xs, hd6'⟩, r6.updF md6, w4', md6, upd_same, (ext0_upd md6).ra ((e26.ra ha).append (.cons hy .nil)), by rw [List.length_append, List.length_singleton]; omega, ?_⟩
          refine (GoodS.bind0 q6).imp fun M7 H7 σ7 ys s7 e7 r7 q7 e8 r8 w8 xs2 md8 hd8 ha8 => ?_
          exact q7 M7 H7 σ7 e8 r8 e8 r8 w8 xs2 md8 hd8 (by rw [List.append_assoc] at ha8; exact ha8)
end
end Z
namespace Z
open PySem PySem.Spec L2 GxR
open PyProof.Rows hiding St
open GenW
def canE (N : En) (W : WX) (f : Ex) : TE := fun σ H Q => ∃ M s, Rel N M s σ H ∧ GoodE N W σ M H (f s) (fun M' H' d _ => ∀ v, R N.K M' H' v d → Q v H')
def canT (N : En) (W : WX) (f : Ts) : TT := fun σ H Q => ∃ M s, Rel N M s σ H ∧ GoodE N W σ M H (f s) (fun _ H' b _ => Q b H')
def canG (N : En) (W : WX) (f : Tg) (ts : List Nat) : TG := fun v σ H Q => ∃ M s d, Rel N M s σ H ∧ R N.K M H v d ∧ GoodS N W M H (f d s) (fun _ H' σ' _ _ => wipe σ' ts = wipe σ ts → Q σ' H')
def canI (N : En) (W : WX) (f : Is) : TI := fun σ H Q => ∃ M s, Rel N M s σ H ∧ GoodE N W σ M H (f s) (fun M' H' ds _ => ∀ J, Steps N M' H' J ds → Q J H')
section
variable {N : En} {W : WX} {X : Cx} {e tg iter elt : Expr} {es : List Expr}
theorem SE.can {f : Ex} (h : SE N W X e f) : PE X e (canE N W f) := by
  obtain ⟨t, p, q⟩ := h
  exact ⟨fun pins s σ H Q I hw => by
    obtain ⟨M, s', r, g⟩ := hw
    exact p.run pins s σ H Q I (q M s' σ H Q r g)⟩
theorem ST.can {f : Ts} (h : ST N W X e f) : PT X e (canT N W f) := by
  obtain ⟨t, p, q⟩ := h
  exact ⟨fun pins s σ H Q I hw => by
    obtain ⟨M, s', r, g⟩ := hw
    exact p.run pins s σ H Q I (q M s' σ H Q r g)⟩
theorem SG.can {f : Tg} {ts : List Nat} (h : SG N W X e f ts) : PG X e (canG N W f ts) := by
  obtain ⟨t, p, q⟩ := h
  exact ⟨fun pins s σ H v u Q I r hw => by
    obtain ⟨M, s', d, r', rd, g⟩ := hw
    exact p.run pins s σ H v u Q I r (q M s' σ H v d Q r' rd g)⟩
theorem SI.can {f : Is} (h : SI N W X tg iter f) : PI X tg iter (canI N W f) := by
  obtain ⟨t, p, q⟩ := h
  exact ⟨fun pins s σ H Q I hw => by
    obtain ⟨M, s', r, g⟩ := hw
    exact p.run pins s σ H Q I (q M s' σ H Q r g)⟩
theorem sim_canE {f : Ex} : SimE N W (canE N W f) f := fun M s _ _ _ r g => ⟨M, s, r, g⟩
theorem sim_canT {f : Ts} : SimT N W (canT N W f) f := fun M s _ _ _ r g => ⟨M, s, r, g⟩
theorem sim_canG {f : Tg} {ts : List Nat} : SimG N W (canG N W f ts) f ts := fun M s _ _ _ d _ r rd g => ⟨M, s, d, r, rd, g⟩
/-- the tests of a comprehension -/
def STs (N : En) (W : WX) (X : Cx) (ifs : List Expr) (f : Ts) : Prop := PTs X ifs (canT N W f)
theorem sts_nil : STs N W X [] Z.tYes := ⟨fun pins s σ H Q I hw => by
  obtain ⟨M, s', r, g⟩ := hw
  exact pts_nil.run pins s σ H Q I (g.here r)⟩
theorem sts_one {c : Expr} {f : Ts} (h : ST N W X c f) : STs N W X [c] f := pts_one h.can
theorem sub_wipe {ts vs : List Nat} (h : ts.all (fun i => vs.contains i) = true) (σ σ' : St) (w : wipe σ' ts = wipe σ ts) : wipe σ' vs = wipe σ vs := by
  have key : ∀ (vs : List Nat) (i : Nat) (τ : St), i ∈ vs → wipe (τ.set i none) vs = wipe τ vs := fun vs i τ hi => wipe_set hi
  have h2 : ∀ (ts : List Nat) (τ : St), (∀ i ∈ ts, i ∈ vs) → wipe (wipe τ ts) vs = wipe τ vs := by
    intro ts
    induction ts with
    | nil => intro τ _; rfl
    | cons i ts ih =>
      intro τ hh
      rw [wipe, key vs i _ (hh i List.mem_cons_self)]
      exact ih τ fun j hj => hh j (List.mem_cons_of_mem _ hj)
  have hm : ∀ i ∈ ts, i ∈ vs := fun i hi => by
    have := List.all_eq_true.mp h i hi
    simpa using this
  rw [← h2 ts σ' hm, w, h2 ts σ hm]
theorem sf_lc {ifs : List Expr} {scope : Scope} {own : List (Str × Nat)} {pos : Pos} {fi : Is} {fg : Tg} {ft : Ts} {fe : Ex} {ts : List Nat} (hc : X.calm = true) (hN : X.N.Nodup) (hi : SI N W X tg iter fi) (ok : BlkOk X.N X.env.scope scope own)
    (hg : ∀ (s : Shared) (H : Hp) (C : Addr) (cl : List (Str × Addr)) (fp : List Addr), SG N WF (X.blk s H scope (compEnvC scope cl C X.env) fp) tg fg ts) (ht : ∀ (s : Shared) (H : Hp) (C : Addr) (cl : List (Str × Addr)) (fp : List Addr), STs N WF (X.blk s H scope (compEnvC scope cl C X.env) fp) ifs ft)
    (he : ∀ (s : Shared) (H : Hp) (C : Addr) (cl : List (Str × Addr)) (fp : List Addr), SE N WF (X.blk s H scope (compEnvC scope cl C X.env) fp) elt fe) (hsub : ts.all (fun i => (own.map (·.2)).contains i) = true := by rfl) (hs : ∀ x, foldedSetIterable iter X.env x = pure x := by intro _; rfl) :
    SF N W X (.ListComp elt [⟨tg, iter, ifs, 0⟩] scope pos) (aLc (own.map (·.2)) fi fg ft fe) := by
  obtain ⟨ti, pi, si⟩ := hi
  exact ⟨_, pe_lc hc hN pi ok (fun s H C cl fp => (hg s H C cl fp).can) (fun s H C cl fp => ht s H C cl fp) (fun s H C cl fp => (he s H C cl fp).can) hs, sim_lc (sub_wipe hsub) si sim_canG sim_canT sim_canE⟩
/-- name = [..]: the list a datum -/
theorem ss_setLc {i : Nat} {y : Str} {py : Pos} {ifs : List Expr} {scope : Scope} {own : List (Str × Nat)} {pos spos : Pos} {fi : Is} {fg : Tg} {ft : Ts} {fe : Ex} {ts : List Nat} (hc : X.calm = true) (hN : X.N.Nodup) (hy : X.N[i]? = some y) (hyl : X.env.scope.names.lookup y = some .local)
    (hsw : swapsWith (.ListComp elt [⟨tg, iter, ifs, 0⟩] scope pos) (some (.Name y py)) spos.line X.env = pure true) (hi : SI N W X tg iter fi) (ok : BlkOk X.N X.env.scope scope own)
    (hg : ∀ (s : Shared) (H : Hp) (C : Addr) (cl : List (Str × Addr)) (fp : List Addr), SG N WF (X.blk s H scope (compEnvC scope cl C X.env) fp) tg fg ts) (ht : ∀ (s : Shared) (H : Hp) (C : Addr) (cl : List (Str × Addr)) (fp : List Addr), STs N WF (X.blk s H scope (compEnvC scope cl C X.env) fp) ifs ft)
    (he : ∀ (s : Shared) (H : Hp) (C : Addr) (cl : List (Str × Addr)) (fp : List Addr), SE N WF (X.blk s H scope (compEnvC scope cl C X.env) fp) elt fe) (hsub : ts.all (fun i => (own.map (·.2)).contains i) = true := by rfl) (hs : ∀ x, foldedSetIterable iter X.env x = pure x := by intro _; rfl) :
    SS N W X (.Assign [.Name y py] (.ListComp elt [⟨tg, iter, ifs, 0⟩] scope pos) spos) (sSet i (eF (aLc (own.map (·.2)) fi fg ft fe))) := by
  obtain ⟨ti, pi, si⟩ := hi
  refine ⟨_, ps_setLc hc hN hy hyl hsw pi ok (fun s H C cl fp => (hg s H C cl fp).can) (fun s H C cl fp => ht s H C cl fp) (fun s H C cl fp => (he s H C cl fp).can) hs, fun M s σ H D rl q => ?_⟩
  refine sim_lc (sub_wipe hsub) si sim_canG sim_canT sim_canE M s σ H _ rl ?_
  unfold sSet eF at q
  generalize aLc (own.map (·.2)) fi fg ft fe s = r at q ⊢
  cases r with
  | stuck => exact q.elim
  | exc c d s1 => exact q
  | ok ds s1 =>
    refine fun M1 H1 e1 r1 p xs f m hp h1 => ?_
    exact q _ _ _ (e1.ownW f) ((r1.ownW m (by intro n z; cases z)).set (.lst own1_same hp ((ext0_own m).ra h1)))
/-- .. ours -/
theorem ss_ownLc {i : Nat} {y : Str} {py : Pos} {ifs : List Expr} {scope : Scope} {own : List (Str × Nat)} {pos spos : Pos} {fi : Is} {fg : Tg} {ft : Ts} {fe : Ex} {ts : List Nat} (hc : X.calm = true) (hN : X.N.Nodup) (hy : X.N[i]? = some y) (hyl : X.env.scope.names.lookup y = some .local)
    (hsw : swapsWith (.ListComp elt [⟨tg, iter, ifs, 0⟩] scope pos) (some (.Name y py)) spos.line X.env = pure true) (hi : SI N W X tg iter fi) (ok : BlkOk X.N X.env.scope scope own)
    (hg : ∀ (s : Shared) (H : Hp) (C : Addr) (cl : List (Str × Addr)) (fp : List Addr), SG N WF (X.blk s H scope (compEnvC scope cl C X.env) fp) tg fg ts) (ht : ∀ (s : Shared) (H : Hp) (C : Addr) (cl : List (Str × Addr)) (fp : List Addr), STs N WF (X.blk s H scope (compEnvC scope cl C X.env) fp) ifs ft)
    (he : ∀ (s : Shared) (H : Hp) (C : Addr) (cl : List (Str × Addr)) (fp : List Addr), SE N WF (X.blk s H scope (compEnvC scope cl C X.env) fp) elt fe) (hsub : ts.all (fun i => (own.map (·.2)).contains i) = true := by rfl) (hs : ∀ x, foldedSetIterable iter X.env x = pure x := by intro _; rfl) :
    SS N W X (.Assign [.Name y py] (.ListComp elt [⟨tg, iter, ifs, 0⟩] scope pos) spos) (sOwn i (aLc (own.map (·.2)) fi fg ft fe)) := by
  obtain ⟨ti, pi, si⟩ := hi
  refine ⟨_, ps_setLc hc hN hy hyl hsw pi ok (fun s H C cl fp => (hg s H C cl fp).can) (fun s H C cl fp => ht s H C cl fp) (fun s H C cl fp => (he s H C cl fp).can) hs, fun M s σ H D rl q => ?_⟩
  refine sim_lc (sub_wipe hsub) si sim_canG sim_canT sim_canE M s σ H _ rl ?_
  unfold sOwn at q
  generalize aLc (own.map (·.2)) fi fg ft fe s = r at q ⊢
  cases r with
  | stuck => exact q.elim
  | exc c d s1 => exact q
  | ok ds s1 =>
    refine fun M1 H1 e1 r1 p xs f m hp h1 => ?_
    exact q _ _ _ (e1.ownW f) (r1.setOwn m hp h1)
/-! ### all(..), any(..) of a generator expression -/
theorem sim_gen {P : Addr} {wi : TI} {fi : Is} {g : TG} {fg : Tg} {ts vs : List Nat} {te : TE} {fe : Ex} {brk : Bool} (hP : P ∈ N.G) (hsub : ∀ σ σ' : St, wipe σ' ts = wipe σ ts → wipe σ' vs = wipe σ vs) (hi : SimI N W wi fi) (hg : SimG N WF g fg ts) (he : SimE N WF te fe) :
    SimE N W (GXX.tGen P wi g te vs brk) (eGen brk vs fi fg fe) := fun M s σ H Q rl q => by
  refine hi M s σ H _ rl ((GoodE.bind q).imp fun M1 H1 ds s1 e1 r1 q1 J st => ⟨r1.tabs P hP, fun H2 tb => ?_⟩)
  have k2 : Same H1 H2 := Same.tabbed (r1.tabs P hP) tb
  have e0 := r1.toRelC.ext k2
  refine ⟨fun i m H => i + m = ds.length ∧ ∃ M s τ, Ext M1 H1 M H ∧ Rel N M s τ H ∧ wipe τ vs = wipe σ vs ∧
        GoodS N WF M1 H1 (genL brk vs fg fe (ds.drop i) s) (fun M' H' τ b s2 => Ext M1 H1 M' H' → Rel N M' s2 τ H' → wipe τ vs = wipe σ vs → Q (.bl b) H'), ⟨ds.length, Nat.zero_add _, M1, s1, σ, e0, r1.same k2, rfl, ?_⟩, fun i m H hW => ?_⟩
  · refine (GoodE.nox q1).imp fun M2 H2 τ b s2 e2 r2 q2 e3 r3 w3 => ?_
    have r4 := r3.wipe vs
    rw [w3] at r4
    exact q2.here (r1.unwipe e3 r4) _ (.bl b)
  · obtain ⟨hm, M2, s2, τ, e2, r2, w2, q2⟩ := hW
    obtain ⟨hstop, hgo⟩ := st M2 H _ e2 r2.toRelC i
    cases hdi : ds[i]? with
    | none =>
      have hli : ds.length ≤ i := List.getElem?_eq_none_iff.mp hdi
      refine .inl ⟨hstop hli, ?_⟩
      rw [List.drop_eq_nil_of_le hli] at q2
      exact q2 M2 H τ e2 r2 e2 r2 w2
    | some d =>
      obtain ⟨h1, h2⟩ := hgo d hdi
      have hlt := (List.getElem?_eq_some_iff.mp hdi).1
      rw [drop_get hdi, genL] at q2
      refine .inr ⟨h1, fun H' => (i + 1) + (m - 1) = ds.length ∧ ∃ M s τ, Ext M1 H1 M H' ∧ Rel N M s τ H' ∧ wipe τ vs = wipe σ vs ∧
          GoodS N WF M1 H1 (genL brk vs fg fe (ds.drop (i + 1)) s) (fun M' H' τ b s2 => Ext M1 H1 M' H' → Rel N M' s2 τ H' → wipe τ vs = wipe σ vs → Q (.bl b) H'), fun H' p => ⟨m - 1, by omega, p⟩, fun x H' y => ?_⟩
      obtain ⟨k, hx⟩ := h2 x H' y
      have e3 := r2.toRelC.ext k
      have e13 := e2.trans e3
      have rw2 := (r2.same k).wipe vs
      rw [w2] at rw2
      refine hg M2 (wipeS vs s2) (wipe σ vs) H' x d _ rw2 hx ((GoodS.rebase q2.bind0 e13).imp fun M4 H4 σ4 _ s4 e4 r4 q4 w4 => ?_)
      have w4' : wipe σ4 vs = wipe σ vs := by rw [hsub _ _ w4, wipe_idem]
      refine ⟨w4', ?_⟩
      refine he M4 s4 σ4 H4 _ r4 ((GoodS.rebase q4.bind0 (e13.trans e4)).toE.imp fun M5 H5 y s5 e5 r5 q5 v5 h5 => ?_)
      have e15 := (e13.trans e4).trans e5
      split at q5
      · rename_i b
        cases h5
        refine ⟨b, rfl, fun hb => ?_, fun hb => ?_⟩
        · rw [if_neg hb] at q5
          exact ⟨by omega, M5, s5, σ4, e15, r5, w4', q5⟩
        · rw [if_pos hb] at q5
          exact q5 M5 H5 σ4 e15 r5 e15 r5 w4'
      · exact q5.elim
theorem se_gen {brk : Bool} {scope : Scope} {own : List (Str × Nat)} {p gpos pos : Pos} {c0 P : Addr} {k : Nat} {fi : Is} {fg : Tg} {fe : Ex} {ts : List Nat} (hP : P ∈ N.G) (hcalm : X.calm = true) (hr : Room k X.A) (hgl : Gl X (if brk then "any" else "all")) (hm : X.mg (if brk then "any" else "all") = none)
    (TB : TabB X.base X.mg c0 P) (hcode : X.env.code = .ref c0) (hN : X.N.Nodup) (hi : SI N W X tg iter fi) (ok : BlkOk X.N X.env.scope scope own)
    (noc : ∀ y ∈ scope.names, y.2 ≠ .cell) (hdot : scope.names.lookup (".0" : Str) = some NameKind.local) (hco : scope.isCoroutine = false)
    (hg : ∀ (s : Shared) (H : Hp) (cl : List (Str × Addr)) (C : Addr) (code : Value) (it : Addr) (fp : List Addr), SG N WF (GXX.genCx X s H scope cl C code (GXX.genCode elt tg iter scope gpos it) fp) tg fg ts)
    (he : ∀ (s : Shared) (H : Hp) (cl : List (Str × Addr)) (C : Addr) (code : Value) (it : Addr) (fp : List Addr), SE N WF (GXX.genCx X s H scope cl C code (GXX.genCode elt tg iter scope gpos it) fp) elt fe)
    (hsub : ts.all (fun i => (own.map (·.2)).contains i) = true := by rfl)
    (hs : ∀ v, genFold iter X.env v = pure v := by intro _; rfl)
    (he0 : starEach [.GeneratorExp elt [⟨tg, iter, [], 0⟩] scope gpos] X.env = (false, eval (.GeneratorExp elt [⟨tg, iter, [], 0⟩] scope gpos) X.env) :: starEach [] X.env := by rfl) :
    SE N W X (.Call (.Name (if brk then "any" else "all") p) [.GeneratorExp elt [⟨tg, iter, [], 0⟩] scope gpos] [] pos) (eGen brk (own.map (·.2)) fi fg fe) := by
  obtain ⟨ti, pi, si⟩ := hi
  cases brk with
  | false => exact ⟨_, GXX.pe_genAll hcalm hr hgl hm TB hcode hN pi ok noc hdot hco (fun s H cl C code it fp => (hg s H cl C code it fp).can) (fun s H cl C code it fp => (he s H cl C code it fp).can) hs he0, sim_gen hP (sub_wipe hsub) si sim_canG sim_canE⟩
  | true => exact ⟨_, GXX.pe_genAny hcalm hr hgl hm TB hcode hN pi ok noc hdot hco (fun s H cl C code it fp => (hg s H cl C code it fp).can) (fun s H cl C code it fp => (he s H cl C code it fp).can) hs he0, sim_gen hP (sub_wipe hsub) si sim_canG sim_canE⟩
end
end Z
/-! ## defs and their calls -/
namespace Z
open PySem PySem.Spec L2 GxR
open PyProof.Rows hiding St
abbrev Fn := List D → List Cell → Res D
def MM.call (M : MM) : MM := fun a => match M a with
  | some (.slot _) => some .far
  | x => x
/-- behind a call: whose things are -/
def MM.back (M M' : MM) : MM := fun a => match M a with
  | some (.slot i) => some (.slot i)
  | _ => match M' a with
    | some (.slot _) => some .far
    | x => x
def GoodF (N : En) (M : MM) (H : Hp) (r : Res D) (Q : VK) (E : XK) : Prop := match r with
  | .ok d s => ∀ M' H' v, Ext M H M' H' → RelC N M' s.cs H' → R N.K M' H' v d → Q v H'
  | .exc c d s => ∀ M' H' C fld dx v, Ext M H M' H' → RelC N M' s.cs H' → N.CT c = some (C, fld) → XD H' dx fld v → R N.K M' H' v d → E (.ref C) (some dx) H'
  | .stuck => False
def spOf (N : En) (n : Nat) (F : Fn) : Sp := fun vs H Q E => ∃ M ds cs, RelC N M cs H ∧ RA N.K M H vs ds ∧ ds.length = n ∧ GoodF N M H (F ds cs) Q E
def eCall (F : Fn) (fs : As) : Ex := fun s => (fs s).bind fun ds s1 => match F ds s1.cs with
  | .ok d s2 => .ok d ⟨s1.ρ, s2.cs⟩
  | .exc c d s2 => .exc c d ⟨s1.ρ, s2.cs⟩
  | .stuck => .stuck
/-- .. that lets no error out -/
def fnS0 (n : Nat) (b : Ss) : Fn := fun ds cs => match b ⟨ds.map .sv ++ List.replicate (n - ds.length) .un, cs⟩ with
  | .ok (.rt d) s => .ok d ⟨[], s.cs⟩
  | .ok .nx s => .ok .non ⟨[], s.cs⟩
  | _ => .stuck
/-- a def's body, its names in n slots, the first ones its parameters -/
def fnS (n : Nat) (b : Ss) : Fn := fun ds cs => match b ⟨ds.map .sv ++ List.replicate (n - ds.length) .un, cs⟩ with
  | .ok (.rt d) s => .ok d ⟨[], s.cs⟩
  | .ok .nx s => .ok .non ⟨[], s.cs⟩
  | .exc c d s => .exc c d ⟨[], s.cs⟩
  | .stuck => .stuck
section
variable {N : En} {W : WX} {X : Cx} {M M' : MM} {H H' : Hp} {cs cs' : List Cell} {s : S} {σ : St}
theorem call_cell {a : Addr} {n : Nat} : M.call a = some (.cell n) ↔ M a = some (.cell n) := by
  unfold MM.call
  split
  · rename_i i h
    rw [h]
    simp
  · exact Iff.rfl
theorem call_none {a : Addr} : M.call a = none ↔ M a = none := by
  unfold MM.call
  split
  · rename_i i h
    rw [h]
    simp
  · exact Iff.rfl
theorem ext0_call : Ext0 M H M.call H := ⟨fun _ _ h m _ => ⟨h, call_none.mpr m⟩, fun _ _ h => call_cell.mpr h⟩
theorem RelC.call (r : RelC N M cs H) : RelC N M.call cs H where
  cell := fun n c h => by
    obtain ⟨a, m, q⟩ := r.cell n c h
    exact ⟨a, call_cell.mpr m, q.ext ext0_call rfl⟩
  uniq := fun a b n h1 h2 => r.uniq a b n (call_cell.mp h1) (call_cell.mp h2)
  csz := fun a n h => r.csz a n (call_cell.mp h)
  mdom := fun a w h => by
    cases m : M a with
    | none => rw [call_none.mpr m] at h; cases h
    | some u => exact r.mdom a u m
  tabs := r.tabs
theorem back_ext (e : Ext M.call H M' H') : Ext M H (M.back M') H' where
  keep := fun a o h m n => by
    obtain ⟨k1, k2⟩ := e.keep a o h (call_none.mpr m) n
    refine ⟨k1, ?_⟩
    unfold MM.back
    rw [m]
    dsimp only
    rw [k2]
  cell := fun a n m => by
    have k := e.cell a n (call_cell.mpr m)
    unfold MM.back
    rw [m]
    dsimp only
    rw [k]
  tab := e.tab
  far := fun a m => by
    have m2 : M.call a = some .far := by
      unfold MM.call
      rw [m]
    obtain ⟨k1, k2⟩ := e.far a m2
    refine ⟨?_, k2⟩
    unfold MM.back
    rw [m]
    dsimp only
    rw [k1]
  dom := e.dom
theorem back_slot {a : Addr} {i : Nat} (m : M a = some (.slot i)) : M.back M' a = some (.slot i) := by
  unfold MM.back
  rw [m]
theorem call_slot {a : Addr} {i : Nat} (m : M a = some (.slot i)) : M.call a = some .far := by
  unfold MM.call
  rw [m]
theorem back_none (e : Ext M.call H M' H') {a : Addr} (m : M' a = none) : M.back M' a = none := by
  unfold MM.back
  split
  · rename_i i h
    obtain ⟨k, _⟩ := e.far a (call_slot h)
    rw [m] at k
    cases k
  · rw [m]
theorem back_cell (e : Ext M.call H M' H') {a : Addr} {n : Nat} (m : M' a = some (.cell n)) : M.back M' a = some (.cell n) := by
  unfold MM.back
  split
  · rename_i i h
    obtain ⟨k, _⟩ := e.far a (call_slot h)
    rw [m] at k
    cases k
  · rw [m]
theorem of_back_cell {a : Addr} {n : Nat} (m : M.back M' a = some (.cell n)) : M' a = some (.cell n) := by
  unfold MM.back at m
  split at m
  · cases m
  · split at m
    · cases m
    · exact m
theorem ext0_back (e : Ext M.call H M' H') : Ext0 M' H' (M.back M') H' := ⟨fun _ _ h m _ => ⟨h, back_none e m⟩, fun _ _ m => back_cell e m⟩
theorem RelC.back (r0 : RelC N M cs H) (e : Ext M.call H M' H') (r : RelC N M' cs' H') : RelC N (M.back M') cs' H' where
  cell := fun n c h => by
    obtain ⟨a, m, q⟩ := r.cell n c h
    exact ⟨a, back_cell e m, q.ext (ext0_back e) rfl⟩
  uniq := fun a b n h1 h2 => r.uniq a b n (of_back_cell h1) (of_back_cell h2)
  csz := fun a n h => r.csz a n (of_back_cell h)
  mdom := fun a w h => by
    cases m : M' a with
    | some u => exact r.mdom a u m
    | none => rw [back_none e m] at h; cases h
  tabs := r.tabs
theorem Rel.back (r0 : Rel N M s σ H) (e : Ext M.call H M' H') (r : RelC N M' cs' H') : Rel N (M.back M') ⟨s.ρ, cs'⟩ σ H' where
  toRelC := r0.toRelC.back e r
  len := r0.len
  sv := fun i d h => by
    obtain ⟨v, k1, k2⟩ := r0.sv i d h
    exact ⟨v, k1, (back_ext e).r k2⟩
  own := fun i l h => by
    obtain ⟨a, xs, k1, m, k2, k3⟩ := r0.own i l h
    exact ⟨a, xs, k1, back_slot m, by rw [(e.far a (call_slot m)).2]; exact k2, (back_ext e).ra k3⟩
/-- f(..), f a def of the program -/
theorem se_call {CX : CXT} {k n : Nat} {f : Addr} {fd : FuncData} {ps : List Str} {F : Fn} {x : Str} {p pos : Pos} {e : Expr} {es : List Expr} {fs : As} (G : FnOk X.prog X.w X.K X.mg X.base CX k f fd ps (spOf N n F)) (hr : Room k X.A) (hg : Gl X x) (hm : X.mg x = some (.ref f)) (hk : PySem.W.keepIn X.K (.ref f) = true) (hb : Binds X.K fd ps [])
    (hx : ∀ σ, PassesAt CX X σ (WE W σ)) (ha : SA N W X (e :: es) fs) (hn : (e :: es).length = n := by rfl) (hdb : (x == ("__debug__" : Str)) = false := by decide) (he : starEach (e :: es) X.env = (false, eval e X.env) :: starEach es X.env := by rfl) (hpl : (backTo pos (starEach es X.env)).any (·.1) = false := by rfl) :
    SE N W X (.Call (.Name x p) (e :: es) [] pos) (eCall F fs) := by
  obtain ⟨t, pt, st, hl⟩ := ha
  refine ⟨_, pe_callS G hr hg hm hk hb hx pt hdb he hpl, fun M s σ H Q rl q => sa_run (es := e :: es) st hl rl q fun M1 H1 ds s1 vs e1 r1 q1 h1 h2 => ?_⟩
  refine ⟨M1.call, ds, s1.cs, r1.toRelC.call, ext0_call.ra h1, h2.trans hn, ?_⟩
  cases hF : F ds s1.cs with
  | stuck => rw [hF] at q1; exact q1.elim
  | ok d s2 =>
    rw [hF] at q1
    exact fun M' H' v e2 r2 h3 => q1 _ _ (back_ext e2) (r1.back e2 r2) v ((ext0_back e2).r h3)
  | exc c d s2 =>
    rw [hF] at q1
    exact fun M' H' C fld dx v e2 r2 hc hX h3 => q1 _ _ σ C fld dx v (back_ext e2) (r1.back e2 r2) hc hX ((ext0_back e2).r h3)
theorem px0 : ∀ σ, PassesAt L2.CX0 X σ (WE W σ) := fun _ _ _ _ _ _ _ h => False.elim h
theorem GoodF.rebase {r : Res D} {Q : VK} {E : XK} (h : GoodF N M H r Q E) (e : Ext M H M' H') : GoodF N M' H' r Q E := by
  cases r with
  | ok d s => exact fun M2 H2 v e2 => h M2 H2 v (e.trans e2)
  | exc c d s => exact fun M2 H2 C fld dx v e2 => h M2 H2 C fld dx v (e.trans e2)
  | stuck => exact h
theorem start_rel {ds : List D} {vs : List V} {Ns : List Str} (r : RelC N M cs H) (h : RA N.K M H vs ds) (hn : Ns.length - ds.length = Ns.length - vs.length := by rfl) : Rel N M ⟨ds.map .sv ++ List.replicate (Ns.length - ds.length) .un, cs⟩ (L2.start Ns vs) H where
  toRelC := r
  len := by
    unfold L2.start
    simp only [List.length_append, List.length_map, List.length_replicate]
    rw [h.length]
  sv := fun i d hi => by
    unfold L2.start
    by_cases hlt : i < ds.length
    · rw [List.getElem?_append_left (by rw [List.length_map]; exact hlt), List.getElem?_map] at hi
      obtain ⟨d', h1, h2⟩ := Option.map_eq_some_iff.mp hi
      cases h2
      obtain ⟨v, k1, k2⟩ := h.get h1
      refine ⟨v, ?_, k2⟩
      rw [List.getElem?_append_left (by rw [List.length_map, h.length]; exact hlt), List.getElem?_map, k1]
      rfl
    · rw [List.getElem?_append_right (by rw [List.length_map]; omega)] at hi
      rw [List.getElem?_replicate] at hi
      split at hi
      · cases hi
      · cases hi
  own := fun i l hi => by
    by_cases hlt : i < ds.length
    · rw [List.getElem?_append_left (by rw [List.length_map]; exact hlt), List.getElem?_map] at hi
      obtain ⟨d', h1, h2⟩ := Option.map_eq_some_iff.mp hi
      cases h2
    · rw [List.getElem?_append_right (by rw [List.length_map]; omega)] at hi
      rw [List.getElem?_replicate] at hi
      split at hi
      · cases hi
      · cases hi
theorem sp_len {ps : List Str} {F : Fn} : ∀ vs H Q E, spOf N ps.length F vs H Q E → vs.length = ps.length := fun vs H Q E h => by
  obtain ⟨M, ds, cs, rc, ha, hl, g⟩ := h
  rw [ha.length, hl]
theorem body_ok0 {b : Ss} {st : List Stmt} {Ns ps : List Str} {vs : List V} {Q : VK} {E : XK} (hb : SSs N WF X st b) (h : spOf N ps.length (fnS0 Ns.length b) vs H Q E) : ∃ t, PSs X st t ∧ t { nx := fun _ H' => Q .non H', rt := Q } (L2.start Ns vs) H := by
  obtain ⟨t, pt, sim⟩ := hb
  obtain ⟨M, ds, cs, rc, ha, hl, g⟩ := h
  refine ⟨t, pt, sim M _ _ H _ (start_rel rc ha (by rw [ha.length])) ?_⟩
  unfold fnS0 at g
  cases hF : b ⟨ds.map .sv ++ List.replicate (Ns.length - ds.length) .un, cs⟩ with
  | stuck => rw [hF] at g; exact g.elim
  | exc c d s => rw [hF] at g; exact g.elim
  | ok fl s =>
    rw [hF] at g
    cases fl with
    | nx => exact fun M' H' σ' e r => g M' H' .non e r.toRelC .non
    | rt d => exact fun M' H' σ' e r v hv => g M' H' v e r.toRelC hv
end
section
variable {N : En} {P : Program} {w : World} {mg : Str → Option Value} {base : Heap}
/-- a def that lets nothing out -/
theorem fn_sim {x qual : Str} {st : Stmt} {f : Addr} {fd : FuncData} {Ns ps : List Str} {k : Nat} {b : Ss} (F : Fun N.K x qual st f fd) (Sc : FnScope Ns ps (defScope st))
    (hb : ∀ (cdv : Value) (A : Around) (outer : List Env) (s : Shared) (H : Hp) (E : XK), Room k (A.deeper (envOfC qual (defScope st) s.heap.objs.size f cdv)) → SSs N WF (cxOf L2.CX0 P w N.K mg base Ns qual (defScope st) f cdv A outer s H E).nox (defBody st) b) :
    FnOk P w N.K mg base L2.CX0 (k + 1) f fd ps (spOf N ps.length (fnS0 Ns.length b)) :=
  F.ok Sc sp_len fun cdv A outer s H vs Q E hr h => body_ok0 (hb cdv A outer s H E hr) h
theorem fn_simC {x qual : Str} {st : Stmt} {f c : Addr} {fd : FuncData} {Ns ps : List Str} {k : Nat} {b : Ss} (F : GXX.FunC N.K x qual st f fd c) (Sc : FnScope Ns ps (defScope st))
    (hb : ∀ (A : Around) (outer : List Env) (s : Shared) (H : Hp) (E : XK), Room k (A.deeper (envOfC qual (defScope st) s.heap.objs.size f (.ref c))) → SSs N WF (cxOf L2.CX0 P w N.K mg base Ns qual (defScope st) f (.ref c) A outer s H E).nox (defBody st) b) :
    FnOk P w N.K mg base L2.CX0 (k + 1) f fd ps (spOf N ps.length (fnS0 Ns.length b)) :=
  F.ok Sc sp_len fun A outer s H vs Q E hr h => body_ok0 (hb A outer s H E hr) h
end
end Z
/-! ## short forms -/
namespace Z
open PySem PySem.Spec L2 GxR
open PyProof.Rows hiding St
section
variable {N : En} {W : WX} {X : Cx} {e a b : Expr} {pos : Pos} {f fa fb : Ex}
theorem se_v (i : Nat) {x : Str} (hN : X.N[i]? = some x := by rfl) (hv : Vis X.env.scope x := by first | exact Or.inl rfl | exact Or.inr (Or.inl rfl) | exact Or.inr (Or.inr rfl)) (hd : (x == ("__debug__" : Str)) = false := by decide)
    (hcd : (x == ("__classdict__" : Str)) = false := by decide) : SE N W X (.Name x pos) (eV i) := ⟨_, pe_var hN hv hd hcd, sim_v i⟩
theorem sb_v (i : Nat) {x : Str} (hN : X.N[i]? = some x := by rfl) (hv : Vis X.env.scope x := by first | exact Or.inl rfl | exact Or.inr (Or.inl rfl) | exact Or.inr (Or.inr rfl)) (hd : (x == ("__debug__" : Str)) = false := by decide)
    (hcd : (x == ("__classdict__" : Str)) = false := by decide) : SB N W X (.Name x pos) (eVB i) := ⟨_, pe_var hN hv hd hcd, sim_vb i⟩
theorem o_add (hK : X.K = N.K) : OpR X (binaryOp .Add) (fun x y H Q => rI0 (fun i j => .int (i + j)) x y H Q ∨ (rCatA N.K x y H Q ∨ rCat x y H Q)) := op_add.or (OpR.or (hK ▸ op_catA) op_cat)
theorem o_mul (hK : X.K = N.K) : OpR X (binaryOp .Mult) (fun x y H Q => rI CMul (fun i j => .int (i * j)) x y H Q ∨ (rRep x y H Q ∨ rRepT N.K x y H Q)) := op_mul.or (op_rep.or (hK ▸ op_repT))
theorem o_eq (hK : X.K = N.K) (hu : X.A.units + 64 < cLine) : OpR X (compareOp .Eq) (rEqD N.K) := hK ▸ op_eqD hu
theorem o_ne (hK : X.K = N.K) (hu : X.A.units + 64 < cLine) : OpR X (compareOp .NotEq) (rNeD N.K) := hK ▸ op_neD hu
theorem o_ix (hK : X.K = N.K) : IxR X (rIx N.K) := hK ▸ ix_seq
theorem se_add (ha : SE N W X a fa) (hb : SB N W X b fb) (hK : X.K = N.K := by rfl) : SE N W X (.BinOp a .Add b pos) (eOp addD fa fb) := se_op (o_add hK) sim_add ha hb
theorem se_sub (ha : SE N W X a fa) (hb : SB N W X b fb) : SE N W X (.BinOp a .Sub b pos) (eOp subD fa fb) := se_op op_sub sim_sub ha hb
theorem se_mul (ha : SE N W X a fa) (hb : SB N W X b fb) (hK : X.K = N.K := by rfl) : SE N W X (.BinOp a .Mult b pos) (eOp mulD fa fb) := se_op (o_mul hK) sim_mul ha hb
theorem se_mod (ha : SE N W X a fa) (hb : SB N W X b fb) : SE N W X (.BinOp a .Mod b pos) (eOp modD fa fb) := se_op op_mod sim_mod ha hb
theorem se_fdiv (ha : SE N W X a fa) (hb : SB N W X b fb) : SE N W X (.BinOp a .FloorDiv b pos) (eOp fdivD fa fb) := se_op op_fdiv sim_fdiv ha hb
theorem se_pow (ha : SE N W X a fa) (hb : SB N W X b fb) : SE N W X (.BinOp a .Pow b pos) (eOp powD fa fb) := se_op op_pow sim_pow ha hb
theorem se_eq (hu : X.A.units + 64 < cLine) (ha : SE N W X a fa) (hb : SB N W X b fb) (hK : X.K = N.K := by rfl) : SE N W X (.Compare a [.Eq] [b] pos) (eOp eqOp fa fb) := se_cmp (o_eq hK hu) sim_eq ha hb (nomark b)
theorem se_lt (ha : SE N W X a fa) (hb : SB N W X b fb) : SE N W X (.Compare a [.Lt] [b] pos) (eOp ltD fa fb) := se_cmp op_lt sim_lt ha hb (nomark b)
theorem se_in (hu : X.A.units + 65 < cLine) (ha : SE N W X a fa) (hb : SB N W X b fb) (hm : behindInMarks .In b = false := by rfl) (hK : X.K = N.K := by rfl) : SE N W X (.Compare a [.In] [b] pos) (eOp inOp fa fb) := se_cmp (op_inA hK hu) sim_in ha hb hm
theorem st_eq (hu : X.A.units + 64 < cLine) (ha : SE N W X a fa) (hb : SB N W X b fb) (hK : X.K = N.K := by rfl) : ST N W X (.Compare a [.Eq] [b] pos) (tV (eOp eqOp fa fb)) := st_cmp (o_eq hK hu) sim_eq ha hb (nomark b)
theorem st_ne (hu : X.A.units + 64 < cLine) (ha : SE N W X a fa) (hb : SB N W X b fb) (hK : X.K = N.K := by rfl) : ST N W X (.Compare a [.NotEq] [b] pos) (tV (eOp neOp fa fb)) := st_cmp (o_ne hK hu) sim_ne ha hb (nomark b)
theorem st_lt (ha : SE N W X a fa) (hb : SB N W X b fb) : ST N W X (.Compare a [.Lt] [b] pos) (tV (eOp ltD fa fb)) := st_cmp op_lt sim_lt ha hb (nomark b)
theorem st_gt (ha : SE N W X a fa) (hb : SB N W X b fb) : ST N W X (.Compare a [.Gt] [b] pos) (tV (eOp gtD fa fb)) := st_cmp op_gt sim_gt ha hb (nomark b)
theorem st_in (hu : X.A.units + 65 < cLine) (ha : SE N W X a fa) (hb : SB N W X b fb) (hm : behindInMarks .In b = false := by rfl) (hK : X.K = N.K := by rfl) : ST N W X (.Compare a [.In] [b] pos) (tV (eOp inOp fa fb)) := st_cmp (op_inA hK hu) sim_in ha hb hm
theorem st_notIn (hu : X.A.units + 65 < cLine) (ha : SE N W X a fa) (hb : SB N W X b fb) (hm : behindInMarks .NotIn b = false := by rfl) (hK : X.K = N.K := by rfl) : ST N W X (.Compare a [.NotIn] [b] pos) (tV (eOp notInOp fa fb)) := st_cmp (op_notInA hK hu) sim_notIn ha hb hm
theorem se_at (ha : SE N W X a fa) (hb : SE N W X b fb) (hs : PlainIx b := by exact fun _ _ => rfl) (hK : X.K = N.K := by rfl) : SE N W X (.Subscript a b pos) (eOp ixD fa fb) := se_ix (o_ix hK) sim_ix ha hb.sb hs
theorem se_atL (i : Nat) (ha : PE X a (tVar i)) (hb : SE N W X b fb) (hs : PlainIx b := by exact fun _ _ => rfl) (hK : X.K = N.K := by rfl) : SE N W X (.Subscript a b pos) (eOpL ixD i fb) := se_ixL (o_ix hK) sim_ix ha hb.sb hs
/-- the script's own promise -/
def splaw (N : En) : Sp := fun vs H Q _ => ∃ (a : Addr) (ns : List Int), vs = [.ref a] ∧ SqL N.K H a (ns.map V.int) ∧ ns.length ≤ 63 ∧ (∀ P ∈ N.G, TabG H P) ∧ ∀ H', Q (.bl true) H'
theorem law_ok {P : Program} {w : World} {mg : Str → Option Value} {base : Heap} {CX : CXT} {k : Nat} {f : Addr} {fd : FuncData} {ps : List Str} {F : Fn} (G : FnOk P w N.K mg base CX k f fd ps (spOf N 1 F)) (h : ∀ ns : List Int, ns.length ≤ 63 → ∃ s, F [.scr ns] [] = .ok (.bl true) s) :
    FnOk P w N.K mg base CX k f fd ps (splaw N) := G.imp fun vs H Q E q => by
  obtain ⟨a, ns, rfl, hs, hl, ht, hq⟩ := q
  obtain ⟨s, e⟩ := h ns hl
  refine ⟨fun _ => none, [.scr ns], [], ⟨fun n c hc => by simp at hc, fun a b n m => (nomatch m), fun a n m => (nomatch m), fun a w m => (nomatch m), ht⟩, .cons (.scr ?_) .nil, rfl, ?_⟩
  · rcases hs with hs | hs
    · exact .inl ⟨rfl, hs⟩
    · exact .inr (.inr hs)
  · rw [e]
    intro M' H' v _ _ hv
    cases hv
    exact hq H'
end
end Z
/-! ## min and max of two data -/
namespace Z
open PySem PySem.W PySem.Spec PyProof PyProof.Rows
section
variable {prog : Program} {w : World} {A : Around} {E : Value → Shared → Prop} {s : Shared} {a b : Value} {x y : PyData} {as : List Addr} {Q : Value → Shared → Prop}
theorem best_two {f : PyData → PyData → Bool} {v : Value} (h : (#[a, b] : Array Value)[argBest (fun i j => f (([x, y] : List PyData).getD i PyData.none) (([x, y] : List PyData).getD j PyData.none)) (2 - 1)]? = some v) : v = if f y x = true then b else a := by
  have e : argBest (fun i j => f (([x, y] : List PyData).getD i PyData.none) (([x, y] : List PyData).getD j PyData.none)) (2 - 1) = if f y x = true then 1 else 0 := rfl
  rw [e] at h
  cases hf : f y x with
  | true => rw [hf] at h; exact (Option.some.inj h).symm
  | false => rw [hf] at h; exact (Option.some.inj h).symm
theorem min_two_data (hh : A.handled = none) (hr : ReadsAll s.heap [a, b] [x, y] as) (ha : AlikeAll [x, y]) (hu : A.units + 1 + PyData.depthAll [x, y] < cLine)
    (h : ∀ v h' tk, v = (if dataLt y x = true then b else a) → (∀ c o, s.heap.get? c = some o → h'.get? c = some o) → Q v { heap := h', gens := s.gens, drawn := s.drawn, toks := tk, os := s.os }) :
    wpAny (model prog w) A (call (.builtin "min") [a, b]) Q E s := by
  refine call_function_tree F.kind_min F.plain_min F.entry_min (F.args_min2 a b) ?_
  refine (?_ : wpAny _ _ (newTuple [a, b] >>= fun items => pyIter items >>= fun it => newList [] >>= fun l => again (Code.builtin "min.loop" { pos := [it, Value.none, l], kw := [] })) _ _ s)
  refine wpAny_bind (wpAny_newTuple ?_)
  have kp : ∀ c o, s.heap.get? c = some o → (s.heap.push { cls := Value.type "tuple", data := Data.seq #[a, b] }).get? c = some o := fun c o h => Heap.get?_push_of_some _ h
  refine wpAny_bind (iter_tupleW (vs := #[a, b]) hh ⟨_, Heap.get?_push_size _ rfl, rfl, _, rfl⟩ fun s2 hs2 wk st hb hn hk => ?_)
  refine wpAny_bind (wpAny_newList ?_)
  have e2 : s2.gens = s.gens ∧ s2.drawn = s.drawn ∧ s2.os = s.os := by rw [hs2]; exact ⟨rfl, rfl, rfl⟩
  have k3 : ∀ c o, s2.heap.get? c = some o → (s2.heap.push { cls := Value.type "list", data := Data.seq ([] : List Value).toArray }).get? c = some o := fun c o h => Heap.get?_push_of_some _ h
  refine wpAny_pure ⟨plainId_quiet F.plain_min_loop _, ?_⟩
  have hr' : ReadsAll s.heap (#[a, b] : Array Value).toList [x, y] as := hr
  refine codeAny_min_loop_firstH wk s.heap (fun c o h => hn c o (kp c o h)) _ (cmpIn_lt hr' ha (by exact hu)) s2.heap.objs.size (fun z => Nat.lt_irrefl _ (hb _ z)) ?_ [] (Nat.zero_lt_succ _) (fun c o h => k3 c o (hk c o (kp c o h)))
    (wk.frame 0 s2 _ s2.toks st (Nat.le_refl _) fun c _ o h => k3 c o h) (Heap.get?_push_size _ rfl) fun v s' hv hm => ?_
  · cases e : s.heap.get? s2.heap.objs.size with
    | none => rfl
    | some o => exact absurd (Heap.lt_size (hk _ o (kp _ o e))) (Nat.lt_irrefl _)
  · have q := h v s'.heap s'.toks (best_two hv) fun c o hc => hm.heap c o (fun z => ?_) (k3 c o (hk c o (kp c o hc)))
    · have e1 : s'.gens = s.gens := hm.gens.trans e2.1
      have e3 : s'.drawn = s.drawn := hm.drawn.trans e2.2.1
      have e4 : s'.os = s.os := hm.os.trans e2.2.2
      rw [← e1, ← e3, ← e4] at q
      exact q
    · cases z with
      | head => exact absurd (Heap.lt_size (hk _ o (kp _ o hc))) (Nat.lt_irrefl _)
      | tail _ z => exact hn c o (kp c o hc) z
theorem max_two_data (hh : A.handled = none) (hr : ReadsAll s.heap [a, b] [x, y] as) (ha : AlikeAll [x, y]) (hu : A.units + 1 + PyData.depthAll [x, y] < cLine)
    (h : ∀ v h' tk, v = (if dataLt x y = true then b else a) → (∀ c o, s.heap.get? c = some o → h'.get? c = some o) → Q v { heap := h', gens := s.gens, drawn := s.drawn, toks := tk, os := s.os }) :
    wpAny (model prog w) A (call (.builtin "max") [a, b]) Q E s := by
  refine call_function_tree F.kind_max F.plain_max F.entry_max (F.args_max2 a b) ?_
  refine (?_ : wpAny _ _ (newTuple [a, b] >>= fun items => pyIter items >>= fun it => newList [] >>= fun l => again (Code.builtin "max.loop" { pos := [it, Value.none, l], kw := [] })) _ _ s)
  refine wpAny_bind (wpAny_newTuple ?_)
  have kp : ∀ c o, s.heap.get? c = some o → (s.heap.push { cls := Value.type "tuple", data := Data.seq #[a, b] }).get? c = some o := fun c o h => Heap.get?_push_of_some _ h
  refine wpAny_bind (iter_tupleW (vs := #[a, b]) hh ⟨_, Heap.get?_push_size _ rfl, rfl, _, rfl⟩ fun s2 hs2 wk st hb hn hk => ?_)
  refine wpAny_bind (wpAny_newList ?_)
  have e2 : s2.gens = s.gens ∧ s2.drawn = s.drawn ∧ s2.os = s.os := by rw [hs2]; exact ⟨rfl, rfl, rfl⟩
  have k3 : ∀ c o, s2.heap.get? c = some o → (s2.heap.push { cls := Value.type "list", data := Data.seq ([] : List Value).toArray }).get? c = some o := fun c o h => Heap.get?_push_of_some _ h
  refine wpAny_pure ⟨plainId_quiet F.plain_max_loop _, ?_⟩
  have hr' : ReadsAll s.heap (#[a, b] : Array Value).toList [x, y] as := hr
  refine codeAny_max_loop_firstH wk s.heap (fun c o h => hn c o (kp c o h)) _ (cmpIn_gt hr' ha (by exact hu)) s2.heap.objs.size (fun z => Nat.lt_irrefl _ (hb _ z)) ?_ [] (Nat.zero_lt_succ _) (fun c o h => k3 c o (hk c o (kp c o h)))
    (wk.frame 0 s2 _ s2.toks st (Nat.le_refl _) fun c _ o h => k3 c o h) (Heap.get?_push_size _ rfl) fun v s' hv hm => ?_
  · cases e : s.heap.get? s2.heap.objs.size with
    | none => rfl
    | some o => exact absurd (Heap.lt_size (hk _ o (kp _ o e))) (Nat.lt_irrefl _)
  · have q := h v s'.heap s'.toks (best_two (f := fun y x => dataLt x y) hv) fun c o hc => hm.heap c o (fun z => ?_) (k3 c o (hk c o (kp c o hc)))
    · have e1 : s'.gens = s.gens := hm.gens.trans e2.1
      have e3 : s'.drawn = s.drawn := hm.drawn.trans e2.2.1
      have e4 : s'.os = s.os := hm.os.trans e2.2.2
      rw [← e1, ← e3, ← e4] at q
      exact q
    · cases z with
      | head => exact absurd (Heap.lt_size (hk _ o (kp _ o hc))) (Nat.lt_irrefl _)
      | tail _ z => exact hn c o (kp c o hc) z
end
end Z
namespace Z
open PySem PySem.Spec L2 GxR
open PyProof.Rows hiding St
theorem u65 {k : Nat} {A : Around} (h : Room k A) : A.units + 65 < cLine := by have := h.un; omega
theorem u2 {k : Nat} {A : Around} (h : Room k A) : A.units + 2 < cLine := by have := h.un; omega
theorem u70 {k : Nat} {A : Around} (h : Room k A) : A.units + 70 < cLine := by have := h.un; omega
theorem u1 {k : Nat} {A : Around} (h : Room k A) : A.units + 1 < cLine := by have := h.un; omega
def al4 (d e : PyData) : Bool := PySem.W.alike d d && PySem.W.alike d e && PySem.W.alike e d && PySem.W.alike e e && !isNoneD d && !isNoneD e
where isNoneD : PyData → Bool
  | .none => true
  | _ => false
theorem al4_all {d e : PyData} (h : al4 d e = true) : PySem.W.AlikeAll [d, e] := by
  unfold al4 at h
  simp only [Bool.and_eq_true, Bool.not_eq_true'] at h
  obtain ⟨⟨⟨⟨⟨h1, h2⟩, h3⟩, h4⟩, h5⟩, h6⟩ := h
  refine ⟨fun x hx y hy => ?_, fun x hx => ?_⟩
  · simp only [List.mem_cons, List.not_mem_nil, or_false] at hx hy
    rcases hx with rfl | rfl <;> rcases hy with rfl | rfl <;> assumption
  · simp only [List.mem_cons, List.not_mem_nil, or_false] at hx
    rcases hx with rfl | rfl
    · rintro rfl; cases h5
    · rintro rfl; cases h6
def minOp (d e : D) : Option D := if okD 60 d && okD 60 e && al4 d.py e.py then some (if PySem.W.dataLt e.py d.py = true then e else d) else none
def maxOp (d e : D) : Option D := if okD 60 d && okD 60 e && al4 d.py e.py then some (if PySem.W.dataLt d.py e.py = true then e else d) else none
section
variable {N : En} {W : WX} {X : Cx} {K : PySem.W.Frag} {M M' : MM} {H H' : Hp} {s : S} {σ : St} {e a b c : Expr} {f fa fb : Ex} {fs : As} {p p2 pos : Pos} {cs : List Cell}
def rMin2 (K : PySem.W.Frag) : List V → Hp → VK → Prop := fun xs H Q => ∃ x y d e, xs = [x, y] ∧ Dp K H x d ∧ Dp K H y e ∧ al4 d e = true ∧ PyData.depthAll [d, e] ≤ 60 ∧ Q (if PySem.W.dataLt e d = true then y else x) H
def rMax2 (K : PySem.W.Frag) : List V → Hp → VK → Prop := fun xs H Q => ∃ x y d e, xs = [x, y] ∧ Dp K H x d ∧ Dp K H y e ∧ al4 d e = true ∧ PyData.depthAll [d, e] ≤ 60 ∧ Q (if PySem.W.dataLt d e = true then y else x) H
theorem vals2 {x y : V} {us : List Value} (r : Vals [x, y] us) : ∃ u v, us = [u, v] ∧ RelV x u ∧ RelV y v := by
  cases r with
  | cons h t => cases t with
    | cons h2 t2 => cases t2; exact ⟨_, _, rfl, h, h2⟩
theorem cr_min2D (hc : X.calm = true) (hu : X.A.units + 70 < cLine) : CallR X (.builtin "min") (rMin2 X.K) := by
  intro pins s σ H vs us Q I r h
  obtain ⟨x, y, d, e, rfl, hx, hy, ha, hd, q⟩ := h
  obtain ⟨u, v, rfl, r1, r2⟩ := vals2 r
  obtain ⟨as, ra⟩ := Dp.readsAll I [d, e] [x, y] [u, v] (.cons hx (.cons hy .nil)) (.cons r1 (.cons r2 .nil))
  refine min_two_data (I.ok.hd hc) ra (al4_all ha) (by omega) fun z h' tk hz hk => ⟨_, H, I.kept hk, ?_, q⟩
  rw [hz]
  split
  · exact r2
  · exact r1
theorem cr_max2D (hc : X.calm = true) (hu : X.A.units + 70 < cLine) : CallR X (.builtin "max") (rMax2 X.K) := by
  intro pins s σ H vs us Q I r h
  obtain ⟨x, y, d, e, rfl, hx, hy, ha, hd, q⟩ := h
  obtain ⟨u, v, rfl, r1, r2⟩ := vals2 r
  obtain ⟨as, ra⟩ := Dp.readsAll I [d, e] [x, y] [u, v] (.cons hx (.cons hy .nil)) (.cons r1 (.cons r2 .nil))
  refine max_two_data (I.ok.hd hc) ra (al4_all ha) (by omega) fun z h' tk hz hk => ⟨_, H, I.kept hk, ?_, q⟩
  rw [hz]
  split
  · exact r2
  · exact r1
theorem depth2 {d e : D} (h : okD 60 d = true) (h' : okD 60 e = true) : PyData.depthAll [d.py, e.py] ≤ 60 := by
  have h1 := (okD_lay d 60 h).2
  have h2 := (okD_lay e 60 h').2
  simp only [PyData.depthAll]
  omega
theorem se_min2 (hK : X.K = N.K) (hc : X.calm = true) (hu : X.A.units + 70 < cLine) (hg : Gl X "min") (hm : X.mg "min" = none) (ha : SE N W X a fa) (hb : SE N W X b fb) (he : starEach [a, b] X.env = (false, eval a X.env) :: starEach [b] X.env := by rfl) (he2 : starEach [b] X.env = (false, eval b X.env) :: starEach [] X.env := by rfl) :
    SE N W X (.Call (.Name "min" p) [a, b] [] pos) (eOp minOp fa fb) := by
  obtain ⟨ta, pa, sa⟩ := ha
  obtain ⟨tb, pb, sb⟩ := hb
  refine ⟨_, pe_callB (hK ▸ cr_min2D hc hu) hg hm (by decide +kernel) (pa_cons pa (pa_cons pb pa_nil he2) he) (by decide) (by decide) he (by rw [he2]; rfl), fun M s σ H Q rl q => sa M s σ H _ rl (q.bind.imp fun M1 H1 x s1 e1 r1 q1 v1 h1 => sb M1 s1 σ H1 _ r1 (q1.bind.imp fun M2 H2 y s2 e2 r2 q2 v2 h2 => ?_))⟩
  obtain ⟨z, hz, q3⟩ := q2.lift r2
  unfold minOp at hz
  split at hz
  case isFalse => cases hz
  rename_i g
  simp only [Bool.and_eq_true] at g
  obtain ⟨⟨g1, g2⟩, g3⟩ := g
  refine ⟨v1, v2, x.py, y.py, rfl, (e2.r h1).dp _ _ _ g1, h2.dp _ _ _ g2, g3, depth2 g1 g2, q3 _ ?_⟩
  cases hz
  split
  · exact h2
  · exact e2.r h1
theorem se_max2 (hK : X.K = N.K) (hc : X.calm = true) (hu : X.A.units + 70 < cLine) (hg : Gl X "max") (hm : X.mg "max" = none) (ha : SE N W X a fa) (hb : SE N W X b fb) (he : starEach [a, b] X.env = (false, eval a X.env) :: starEach [b] X.env := by rfl) (he2 : starEach [b] X.env = (false, eval b X.env) :: starEach [] X.env := by rfl) :
    SE N W X (.Call (.Name "max" p) [a, b] [] pos) (eOp maxOp fa fb) := by
  obtain ⟨ta, pa, sa⟩ := ha
  obtain ⟨tb, pb, sb⟩ := hb
  refine ⟨_, pe_callB (hK ▸ cr_max2D hc hu) hg hm (by decide +kernel) (pa_cons pa (pa_cons pb pa_nil he2) he) (by decide) (by decide) he (by rw [he2]; rfl), fun M s σ H Q rl q => sa M s σ H _ rl (q.bind.imp fun M1 H1 x s1 e1 r1 q1 v1 h1 => sb M1 s1 σ H1 _ r1 (q1.bind.imp fun M2 H2 y s2 e2 r2 q2 v2 h2 => ?_))⟩
  obtain ⟨z, hz, q3⟩ := q2.lift r2
  unfold maxOp at hz
  split at hz
  case isFalse => cases hz
  rename_i g
  simp only [Bool.and_eq_true] at g
  obtain ⟨⟨g1, g2⟩, g3⟩ := g
  refine ⟨v1, v2, x.py, y.py, rfl, (e2.r h1).dp _ _ _ g1, h2.dp _ _ _ g2, g3, depth2 g1 g2, q3 _ ?_⟩
  cases hz
  split
  · exact h2
  · exact e2.r h1
/-! ### a dict of words, written in the module -/
def look (ps : List (Nat × D)) (k : Nat) : Option D := (ps.find? fun p => p.1 == k).map (·.2)
def kdD (ps : List (Nat × D)) : D → Option D
  | .str k => look ps k
  | _ => none
def eKD (ps : List (Nat × D)) (f : Ex) : Ex := eC1 (kdD ps) f
def addI : D → D → Option D
  | .int i, .int j => some (.int (i + j))
  | _, _ => none
theorem sim_addI : OpSim N (rI0 fun i j => .int (i + j)) addI := by
  intro M H cs x y d e z Q rc hx hy hg q
  cases d <;> cases e <;> simp only [addI] at hg <;> try cases hg
  exact ⟨_, _, hx.int, hy.int, q H _ (Same.refl H) (.int _)⟩
/-- not x, x of any kind -/
def eNotT (t : Ts) : Ex := fun s => (t s).bind fun b s1 => .ok (.bl (!b)) s1
end
end Z
/-! ## {..}[word] -/
namespace Z
open PySem PySem.Spec L2 GxR
open PyProof.Rows hiding St
section
variable {N : En} {W : WX} {X : Cx} {K : PySem.W.Frag} {M M' : MM} {H H' : Hp} {s : S} {σ : St} {e a b c : Expr} {f fa fb : Ex} {fs : As} {p p2 pos : Pos} {cs : List Cell}
theorem RelC.laidO (r : RelC N M cs H) {p : Addr} {o : HO} (ho : ∀ ps, o ≠ .tbl ps) (h : H p = none) : RelC N (own1 M p (some .far)) cs (upd H p o) ∧ Ext M H (own1 M p (some .far)) (upd H p o) := by
  have mp := r.fresh h
  have e : Ext M H (own1 M p (some .far)) (upd H p o) := ⟨⟨fun a o h1 m _ => by
      have ne : a ≠ p := fun z => by rw [z, h] at h1; cases h1
      exact ⟨by rw [upd_ne ne]; exact h1, by rw [own1_ne ne]; exact m⟩, fun a n m => by
      have ne : a ≠ p := fun z => by rw [z, mp] at m; cases m
      rw [own1_ne ne]
      exact m⟩, (Same.upd h).2, fun a m => by
      have ne : a ≠ p := fun z => by rw [z, mp] at m; cases m
      exact ⟨by rw [own1_ne ne]; exact m, upd_ne ne⟩, fun a o ho n => ⟨o, (Same.upd h).1 a o ho n, n⟩⟩
  refine ⟨⟨fun n c h1 => ?_, fun a b n h1 h2 => ?_, fun a n h1 => ?_, fun a u h1 => ?_, fun P hP => e.tab P (r.tabs P hP)⟩, e⟩
  · obtain ⟨a, m, q⟩ := r.cell n c h1
    have ne : a ≠ p := fun z => by rw [z, mp] at m; cases m
    exact ⟨a, by rw [own1_ne ne]; exact m, q.ext e.toExt0 (upd_ne ne)⟩
  · have ha : a ≠ p := fun z => by rw [z, own1_same] at h1; cases h1
    have hb : b ≠ p := fun z => by rw [z, own1_same] at h2; cases h2
    rw [own1_ne ha] at h1
    rw [own1_ne hb] at h2
    exact r.uniq a b n h1 h2
  · have ha : a ≠ p := fun z => by rw [z, own1_same] at h1; cases h1
    rw [own1_ne ha] at h1
    exact r.csz a n h1
  · by_cases ha : a = p
    · subst ha
      exact ⟨_, upd_same, ho⟩
    · rw [own1_ne ha] at h1
      obtain ⟨o, k1, k2⟩ := r.mdom a u h1
      exact ⟨o, by rw [upd_ne ha]; exact k1, k2⟩
theorem Rel.laidO (r : Rel N M s σ H) {p : Addr} {o : HO} (ho : ∀ ps, o ≠ .tbl ps) (h : H p = none) : Rel N (own1 M p (some .far)) s σ (upd H p o) := by
  have mp := r.toRelC.fresh h
  obtain ⟨rc, e⟩ := r.toRelC.laidO ho h
  refine ⟨rc, r.len, fun i d h1 => ?_, fun i l h1 => ?_⟩
  · obtain ⟨v, k1, k2⟩ := r.sv i d h1
    exact ⟨v, k1, e.r k2⟩
  · obtain ⟨a, ys, k1, m, k2, k3⟩ := r.own i l h1
    have ne : a ≠ p := fun z => by rw [z, mp] at m; cases m
    exact ⟨a, ys, k1, by rw [own1_ne ne]; exact m, by rw [upd_ne ne]; exact k2, e.ra k3⟩
def eDX (ks : List Nat) (fs : As) (fi : Ex) : Ex := fun s => (fs s).bind fun ds s1 => (fi s1).bind fun k s2 => match k with
  | .str n => lift (look (ks.zip ds) n) s2
  | _ => .stuck
end
end Z
/-! ## errors of our own: made, raised, caught -/
namespace Z
open PySem PySem.Spec L2 GxR
open PyProof.Rows hiding St
end Z
namespace Z
open PySem PySem.Spec L2 GxR
open PyProof.Rows hiding St
end Z
/-! ## raise, try -/
namespace Z
open PySem PySem.Spec L2 GxR
open PyProof.Rows hiding St
def sRaise (c : Nat) (f : Ex) : Ss := fun s => (f s).bind fun d s1 => match d with
  | .str n => .exc c (.str n) s1
  | _ => .stuck
section
variable {N : En} {W : WX} {X : Cx} {M M' : MM} {H H' : Hp} {s : S} {σ : St} {e : Expr} {f : Ex} {pos p : Pos}
theorem px0' : Passes L2.CX0 X fun _ _ _ => False := fun _ _ _ _ _ _ _ h => False.elim h
end
section
variable {N : En} {P : Program} {w : World} {mg : Str → Option Value} {base : Heap}
def canS (N : En) (W : WX) (f : Ss) : TS := fun D σ H => ∃ M s, Rel N M s σ H ∧ GoodS N W M H (f s) (fun M' H' σ' fl _ => match fl with
  | .nx => D.nx σ' H'
  | .rt d => ∀ v, R N.K M' H' v d → D.rt v H')
theorem SSs.can {W : WX} {X : Cx} {st : List Stmt} {f : Ss} (h : SSs N W X st f) : PSs X st (canS N W f) := by
  obtain ⟨t, pt, sim⟩ := h
  refine ⟨fun pins s σ H D I q => ?_⟩
  obtain ⟨M, s', rl, g⟩ := q
  exact pt.run pins s σ H D I (sim M s' σ H D rl g)
end
end Z
/-! ## try: .. except C as n: return (word, n.f) -/
namespace Z
open PySem PySem.Spec L2 GxR
open PyProof.Rows hiding St
def sTry1 (c : Nat) (g : D → D) (i : Nat) (b : Ss) : Ss := fun s => match b s with
  | .exc c' d s1 => if c' = c ∧ i < s1.ρ.length then .ok (.rt (g d)) s1 else .stuck
  | r => r
end Z
namespace Z
open PySem PySem.Spec L2 GxR
end Z
/-! ## a dict of words by numbers, kept in a name -/
namespace Z
open PySem PySem.Spec L2 GxR
open PyProof.Rows hiding St
section
variable {N : En} {W : WX} {X : Cx} {K : PySem.W.Frag} {M M' : MM} {H H' : Hp} {s : S} {σ : St} {e a b c : Expr} {f fa fb : Ex} {p p2 pos : Pos}
inductive PPl (X : Cx) (pos : Pos) : List (Option Expr) → List Expr → List (Int × Nat) → Prop
  | nil : PPl X pos [] [] []
  | cons {i : Int} {k : Nat} {x : Str} {j j2 : Nat} {p1 p2 : Pos} {keys : List (Option Expr)} {es : List Expr} {l : List (Int × Nat)} (hx : x = txt k) (h : PPl X pos keys es l) (h0 : 0 ≤ i := by decide) : PPl X pos (some (.Constant (.int i) j p1) :: keys) (.Constant (.str x) j2 p2 :: es) ((i, k) :: l)
  | consW (n : Nat) {k : Nat} {x y : Str} {j j2 : Nat} {p1 p2 : Pos} {keys : List (Option Expr)} {es : List Expr} {l : List (Int × Nat)} (hy : y = txt n) (hx : x = txt k) (h : PPl X pos keys es l) : PPl X pos (some (.Constant (.str y) j p1) :: keys) (.Constant (.str x) j2 p2 :: es) ((-(n : Int) - 1, k) :: l)
theorem PPl.len : ∀ {keys : List (Option Expr)} {es : List Expr} {l : List (Int × Nat)}, PPl X pos keys es l → keys.length = l.length ∧ es.length = l.length ∧ keys.all (·.isSome) = true
  | _, _, _, .nil => ⟨rfl, rfl, rfl⟩
  | _, _, _, .cons hx h _ => by
    obtain ⟨h1, h2, h3⟩ := h.len
    exact ⟨by rw [List.length_cons, List.length_cons, h1], by rw [List.length_cons, List.length_cons, h2], by rw [List.all_cons, h3]; rfl⟩
  | _, _, _, .consW n hy hx h => by
    obtain ⟨h1, h2, h3⟩ := h.len
    exact ⟨by rw [List.length_cons, List.length_cons, h1], by rw [List.length_cons, List.length_cons, h2], by rw [List.all_cons, h3]; rfl⟩
def dicAt (l : List (Int × Nat)) (i : Int) : Option D := if i < 0 then none else (l.find? fun q => q.1 == i).map fun q => .str q.2
def dicW (l : List (Int × Nat)) (n : Nat) : Option D := (l.find? fun q => q.1 == -(n : Int) - 1).map fun q => .str q.2
def eDI (fa fb : Ex) : Ex := fun s => (fa s).bind fun x s1 => (fb s1).bind fun y s2 => match x, y with
  | .dic l, .int i => lift (dicAt l i) s2
  | _, _ => .stuck
/-- d[word] -/
def eDW (fa fb : Ex) : Ex := fun s => (fa s).bind fun x s1 => (fb s1).bind fun y s2 => match x, y with
  | .dic l, .str n => lift (dicW l n) s2
  | _, _ => .stuck
/-- word in d -/
def eInW (fa fb : Ex) : Ex := fun s => (fa s).bind fun y s1 => (fb s1).bind fun x s2 => match y, x with
  | .str n, .dic l => .ok (.bl (l.any fun q => q.1 == -(n : Int) - 1)) s2
  | _, _ => .stuck
end
end Z
/-! ## sum(..) of a generator expression, with or without a test -/
/-! ## sum of a generator expression, by values -/
namespace Z
open PySem PySem.Spec L2 GxR
open PyProof.Rows hiding St
end Z
/-! ## enumerate; index; pop -/
namespace Z
open PySem PySem.Spec L2 GxR
open PyProof.Rows hiding St
def enD : Nat → List D → List D
  | _, [] => []
  | i, d :: l => .tup [.int (i : Nat), d] :: enD (i + 1) l
def iEnumerate (f : Ex) : Is := fun s => (f s).bind fun x s1 => match x with
  | .tup l => .ok (enD 0 l) s1
  | .lst l => .ok (enD 0 l) s1
  | _ => .stuck
end Z
/-! ## index, pop -/
namespace Z
open PySem PySem.Spec L2 GxR
open PyProof.Rows hiding St
def flatD : D → Bool
  | .non => true
  | .bl _ => true
  | .int _ => true
  | .str n => decide (n < 70)
  | _ => false
def idxD (x : D) (y : D) : Option D := match x with
  | .lst l => if flatD y && l.all flatD && (l.any fun z => eqD z y) && decide (l.length ≤ 100000) then some (.int ((l.map fun z => eqD z y).idxOf true : Nat)) else none
  | _ => none
section
variable {N : En} {W : WX} {X : Cx} {o e : Expr} {fo fe : Ex} {apos cpos : Pos}
def eIdx (fo fe : Ex) : Ex := fun s => (fo s).bind fun x s1 => match x with
  | .lst l => (fe s1).bind fun y s2 => lift (idxD (.lst l) y) s2
  | _ => .stuck
end
end Z
/-! ## bits; a tuple none or one time -/
namespace Z
open PySem PySem.Spec L2 GxR
open PyProof.Rows hiding St
def andD : D → D → Option D
  | .int i, .int j => some (.int (Builtin.bitAnd i j))
  | _, _ => none
def shlD : D → D → Option D
  | .int i, .int j => if 0 ≤ j ∧ j ≤ 1000000 ∧ i.natAbs < 2 ^ 64 then some (.int (i * 2 ^ j.toNat)) else none
  | _, _ => none
def mul01 : D → D → Option D
  | .tup a, .int j => if a = [] then none else if j = 1 then some (.tup a) else if j = 0 then some (.tup []) else none
  | _, _ => none
section
variable {X : Cx} {N : En} {W : WX} {a b : Expr} {fa fb : Ex} {pos : Pos}
@[simp] theorem x_andD (i j : Int) : andD (.int i) (.int j) = some (.int (Builtin.bitAnd i j)) := Eq.trans rfl rfl
@[simp] theorem x_shlD (i j : Int) : shlD (.int i) (.int j) = if 0 ≤ j ∧ j ≤ 1000000 ∧ i.natAbs < 2 ^ 64 then some (.int (i * 2 ^ j.toNat)) else none := Eq.trans rfl rfl
@[simp] theorem x_mul01 (a : List D) (j : Int) : mul01 (.tup a) (.int j) = if a = [] then none else if j = 1 then some (.tup a) else if j = 0 then some (.tup []) else none := Eq.trans rfl rfl
end
end Z
/-! ## sorted, of integers -/
namespace Z
open PySem PySem.Spec L2 GxR
open PyProof.Rows hiding St
def intsOf : List D → Option (List Int)
  | [] => some []
  | .int i :: l => (intsOf l).map (i :: ·)
  | _ :: _ => none
theorem intsOf_map (l : List Int) : intsOf (l.map D.int) = some l := by
  induction l with
  | nil => rfl
  | cons x l ih => rw [List.map_cons, intsOf, ih]; rfl
theorem intsOf_of : ∀ {l : List D} {ns : List Int}, intsOf l = some ns → l = ns.map D.int
  | [], ns, h => by cases h; rfl
  | .int i :: l, ns, h => by
    rw [intsOf] at h
    obtain ⟨m, h1, rfl⟩ := Option.map_eq_some_iff.mp h
    rw [intsOf_of h1, List.map_cons]
  | .non :: _, _, h => by cases h
  | .bl _ :: _, _, h => by cases h
  | .str _ :: _, _, h => by cases h
  | .tup _ :: _, _, h => by cases h
  | .lst _ :: _, _, h => by cases h
  | .cell _ :: _, _, h => by cases h
  | .scr _ :: _, _, h => by cases h
  | .rng _ _ :: _, _, h => by cases h
  | .fn _ :: _, _, h => by cases h
  | .dic _ :: _, _, h => by cases h
  | .ft _ :: _, _, h => by cases h
theorem ra_ints {K : PySem.W.Frag} {M : MM} {H : Hp} : ∀ {xs : List V} {ns : List Int}, RA K M H xs (ns.map D.int) → xs = ns.map V.int
  | _, [], h => by cases h; rfl
  | _, n :: ns, h => by
    rw [List.map_cons] at h
    cases h with
    | cons h1 h2 =>
      cases h1
      rw [List.map_cons, ra_ints h2]
def sortZ (ns : List Int) : List Int := ns.mergeSort fun a b => decide (a ≤ b)
theorem sortZ_perm (ns : List Int) : (sortZ ns).Perm ns := List.mergeSort_perm _ _
theorem sortZ_sorted (ns : List Int) : (sortZ ns).Pairwise (· ≤ ·) := by
  have := List.pairwise_mergeSort (le := fun a b : Int => decide (a ≤ b)) (fun a b c h1 h2 => by simp at h1 h2 ⊢; omega) (fun a b => by simp; omega) ns
  exact this.imp fun h => by simpa using h
theorem sortZ_unique {ns ms : List Int} (hp : ms.Perm ns) (hs : ms.Pairwise (· ≤ ·)) : ms = sortZ ns :=
  List.Perm.eq_of_pairwise (le := fun a b => a ≤ b) (fun a b _ _ h1 h2 => Int.le_antisymm h1 h2) hs (sortZ_sorted ns) (hp.trans (sortZ_perm ns).symm)
def sortedD : D → Option D
  | .lst l => (intsOf l).bind fun ns => if ns.length < 64 then some (.lst ((sortZ ns).map D.int)) else none
  | _ => none
section
variable {N : En} {W : WX} {X : Cx} {a : Expr} {f : Ex} {p pos : Pos}
theorem sim_sorted : CallSim N (rSorted N.K) sortedD := by
  intro M H cs x d z Q rc hx hg q
  unfold sortedD at hg
  split at hg
  · obtain ⟨ns, h1, h2⟩ := Option.bind_eq_some_iff.mp hg
    split at h2
    · rename_i h64
      cases h2
      obtain ⟨a, xs, rfl, k1, k2⟩ := hx.list
      rw [intsOf_of h1] at k2
      have e := ra_ints k2
      subst e
      refine ⟨a, ns, rfl, .of k1, h64, fun ns' p hp hs np => ?_⟩
      rw [sortZ_unique hp hs]
      exact q _ _ (Same.upd np) (rc.newLst np (RA.ints _))
    · cases h2
  · cases hg
theorem se_sorted (hK : X.K = N.K) (hg : Gl X "sorted") (hm : X.mg "sorted" = none) (ha : SB N W X a f) (he : starEach [a] X.env = (false, eval a X.env) :: starEach [] X.env := by rfl) : SE N W X (.Call (.Name "sorted" p) [a] [] pos) (eC1 sortedD f) :=
  se_c1 (hK ▸ cr_sorted) sim_sorted (by decide +kernel) (by decide) (by decide) hg hm ha he
@[simp] theorem x_sorted (ns : List Int) : sortedD (.lst (ns.map D.int)) = if ns.length < 64 then some (.lst ((sortZ ns).map D.int)) else none := by
  show (intsOf (ns.map D.int)).bind _ = _
  rw [intsOf_map]
  rfl
end
end Z
/-! ## list(range(n)) -/
namespace Z
open PySem PySem.Spec L2 GxR
open PyProof.Rows hiding St
def aLr (f : Ex) : As := fun s => (f s).bind fun x s1 => match x with
  | .int j => if -(2 ^ 62) ≤ j ∧ j ≤ 100000 then .ok (rngL 0 j) s1 else .stuck
  | _ => .stuck
end Z
/-! ## try with several clauses, each with a name -/
namespace Z
open PySem PySem.Spec L2 GxR
open PyProof.Rows hiding St
end Z
/-! ## .. and plain values -/
namespace Z
open PySem PySem.Spec L2 GxR
open PyProof.Rows hiding St
def findH : List (Nat × Nat × (D → D)) → Nat → Option (Nat × (D → D))
  | [], _ => none
  | (c, i, g) :: r, k => if k = c then some (i, g) else findH r k
def sTryN (hs : List (Nat × Nat × (D → D))) (b : Ss) : Ss := fun s => match b s with
  | .exc c d s1 => (match findH hs c with
    | some (i, g) => if i < s1.ρ.length then .ok (.rt (g d)) s1 else .stuck
    | none => .stuck)
  | r => r
section
variable {s : S} {b : Ss}
def tryN (hs : List (Nat × Nat × (D → D))) (r : Res Fl) : Res Fl := match r with
  | .exc c d s1 => (match findH hs c with
    | some (i, g) => if i < s1.ρ.length then .ok (.rt (g d)) s1 else .stuck
    | none => .stuck)
  | r => r
@[simp] theorem sTryN_eq (hs : List (Nat × Nat × (D → D))) : sTryN hs b s = tryN hs (b s) := by
  unfold sTryN tryN
  cases b s <;> rfl
@[simp] theorem tryN_ok (hs : List (Nat × Nat × (D → D))) (fl : Fl) (s : S) : tryN hs (.ok fl s) = .ok fl s := Eq.trans rfl rfl
end
end Z
namespace Z
open PySem PySem.Spec L2 GxR
end Z
/-! ## tuples that are known to have no dict: tuple(a list), t.index(x) -/
namespace Z
open PySem PySem.Spec L2 GxR
open PyProof.Rows hiding St
/-- where such a tuple stands -/
def FtK (K : PySem.W.Frag) (H : Hp) (a : Addr) : Prop := (∃ o xs, H a = some (.frz o (.tup xs)) ∧ o.cls = .type "tuple" ∧ o.dict = none) ∨ ∃ o : Obj, K.lookup a = some o ∧ o.cls = .type "tuple" ∧ o.dict = none
theorem FtT.at {K : PySem.W.Frag} {M : MM} {H : Hp} {a : Addr} {xs : List V} (h : FtT K M H a xs) : FtK K H a := by
  rcases h with ⟨_, o, h, c, d⟩ | ⟨o, its, n, h1, h2, h3, _⟩
  · exact .inl ⟨o, xs, h, c, d⟩
  · exact .inr ⟨o, h1, h2, h3⟩
end Z
/-! ## reversed of a tuple, zip of two tuples -/
namespace Z
open PySem PySem.Spec L2 GxR
open PyProof.Rows hiding St
def zpD : List D → List D → List D
  | a :: l, b :: m => .tup [a, b] :: zpD l m
  | _, _ => []
def iZipT (fs : As) : Is := fun s => (fs s).bind fun ds s1 => match ds with
  | [.tup l, .tup m] => .ok (zpD l m) s1
  | _ => .stuck
end Z
/-! ## except C as n: return n.f if isinstance(n, A) and isinstance(n, B) else None -/
namespace Z
open PySem PySem.Spec L2 GxR
open PyProof.Rows hiding St
end Z
/-! ## tuple(range(n)), known to have no dict -/
namespace Z
open PySem PySem.Spec L2 GxR
open PyProof.Rows hiding St
end Z
/-! ## *= of ints; a def that raises and has a generator expression -/
namespace Z
open PySem PySem.Spec L2 GxR
open PyProof.Rows hiding St
end Z
/-! ## except C as n: return [n.f, isinstance(n, A)] -/
namespace Z
open PySem PySem.Spec L2 GxR
open PyProof.Rows hiding St
end Z
/-! ## {word: [ints], word: [ints]}.get(word, [ints]) -/
namespace Z
open PySem PySem.Spec L2 GxR
open PyProof.Rows hiding St
end Z
/-! ## is True, is False, is not True, of truth values -/
namespace Z
open PySem PySem.Spec L2 GxR
open PyProof.Rows hiding St
def isBOp : D → D → Option D
  | .bl a, .bl b => some (.bl (decide (a = b)))
  | _, _ => none
def notBOp : D → D → Option D
  | .bl a, .bl b => some (.bl (!decide (a = b)))
  | _, _ => none
@[simp] theorem x_isB (a b : Bool) : isBOp (.bl a) (.bl b) = some (.bl (decide (a = b))) := Eq.trans rfl rfl
@[simp] theorem x_notB (a b : Bool) : notBOp (.bl a) (.bl b) = some (.bl (!decide (a = b))) := Eq.trans rfl rfl
end Z
/-! ## a call without arguments -/
namespace Z
open PySem PySem.Spec L2 GxR
open PyProof.Rows hiding St
def eCall0 (F : Fn) : Ex := fun s => match F [] s.cs with
  | .ok d s2 => .ok d ⟨s.ρ, s2.cs⟩
  | _ => .stuck
end Z
/-! ## except L as n, L the base of several errors: if isinstance(n, A) [and isinstance(n, B)]: return .. n.f .. -/
namespace Z
open PySem PySem.Spec L2 GxR
open PyProof.Rows hiding St
end Z
/-! ## tuples times any number -/
namespace Z
open PySem PySem.Spec L2 GxR
open PyProof.Rows hiding St
def mulT : D → D → Option D
  | .tup a, .int j => if a = [] then none else if j = 1 then some (.tup a) else if j = 0 then some (.tup []) else if 2 ≤ j ∧ j ≤ 1000 ∧ a.length ≤ 1000 then some (.tup (List.replicate j.toNat a).flatten) else none
  | _, _ => none
@[simp] theorem x_mulT (a : List D) (j : Int) : mulT (.tup a) (.int j) = if a = [] then none else if j = 1 then some (.tup a) else if j = 0 then some (.tup []) else if 2 ≤ j ∧ j ≤ 1000 ∧ a.length ≤ 1000 then some (.tup (List.replicate j.toNat a).flatten) else none := Eq.trans rfl rfl
end Z
/-! ## a list of ours and another one, put together: a new one -/
namespace Z
open PySem PySem.Spec L2 GxR
open PyProof.Rows hiding St
def aCatL (i : Nat) (fb : Ex) : As := fun s => match slotD i s with
  | some _ => (fb s).bind fun y s2 => (match slotD i s2, y with
    | some (.lst a), .lst b => if a.length + b.length ≤ 100000 then .ok (a ++ b) s2 else .stuck
    | _, _ => .stuck)
  | none => .stuck
end Z
/-! ## a def that returns a new list, and its call where a list is wanted -/
namespace Z
open PySem PySem.Spec L2 GxR
open PyProof.Rows hiding St
def aCallL (F : Fn) (fs : As) : As := fun s => (fs s).bind fun ds s1 => match F ds s1.cs with
  | .ok (.lst l) s2 => .ok l ⟨s1.ρ, s2.cs⟩
  | .exc c d s2 => .exc c d ⟨s1.ρ, s2.cs⟩
  | _ => .stuck
def sRetL (f : As) : Ss := fun s => (f s).bind fun l s1 => .ok (.rt (.lst l)) s1
def sConsN (f g : Ss) : Ss := fun s => (f s).bind fun fl s1 => match fl with
  | .nx => g s1
  | .rt _ => .stuck
section
variable {N : En} {W : WX} {X : Cx} {M M' : MM} {H H' : Hp} {cs cs' : List Cell} {s : S} {σ : St} {pos p : Pos} {e : Expr} {st : Stmt} {rest : List Stmt} {f f' : Ss}
theorem Fresh.base (e : Ext M H M' H') (r : RelC N M cs H) {p : Addr} (h : Fresh M' H' p) : Fresh M H p := by
  have q : ∀ o, H p = some o → (∀ ps, o ≠ .tbl ps) → False := fun o ho n => by
    obtain ⟨o', h1, n1⟩ := e.dom p o ho n
    obtain ⟨ps, h2⟩ := h.2 o' h1
    exact n1 ps h2
  refine ⟨?_, fun o ho => ?_⟩
  · cases m : M p with
    | none => rfl
    | some w =>
      obtain ⟨o, ho, n⟩ := r.mdom p w m
      exact (q o ho n).elim
  · cases o with
    | tbl ps => exact ⟨ps, rfl⟩
    | _ => exact (q _ ho (fun _ z => nomatch z)).elim
end
/-! ### a call that only reads a list of one's own, and says yes or no -/
section
variable {K : PySem.W.Frag} {M M' : MM} {H : Hp}
theorem FtT.free {a : Addr} {xs : List V} (h : ∀ a, M a = none → M' a = none) (q : StT K M H a xs) : StT K M' H a xs := by
  rcases q with ⟨m, q⟩ | q
  · exact .inl ⟨h a m, q⟩
  · exact .inr q
mutual
theorem R.free (h : ∀ a, M a = none → M' a = none) : ∀ (d : D) (k : Nat) (v : V), R K M H v d → okD k d = true → R K M' H v d
  | .non, _, _, q, _ => by cases q; exact .non
  | .bl b, _, _, q, _ => by cases q; exact .bl b
  | .int i, _, _, q, _ => by cases q; exact .int i
  | .str n, _, _, q, _ => by cases q with | str hn => exact .str hn
  | .tup l, 0, _, _, o => by simp [okD] at o
  | .tup l, k + 1, _, q, o => by
    cases q with
    | tup s ra => exact .tup (FtT.free h s) (RA.free h l k _ ra (by simpa [okD] using o))
  | .lst l, 0, _, _, o => by simp [okD] at o
  | .lst l, k + 1, _, q, o => by
    cases q with
    | lst m e ra => exact .lst (h _ m) e (RA.free h l k _ ra (by simpa [okD] using o))
  | .cell _, k, _, _, o => by cases k <;> simp [okD] at o
  | .scr _, k, _, _, o => by cases k <;> simp [okD] at o
  | .rng _ _, k, _, _, o => by cases k <;> simp [okD] at o
  | .fn _, k, _, _, o => by cases k <;> simp [okD] at o
  | .dic _, k, _, _, o => by cases k <;> simp [okD] at o
  | .ft _, k, _, _, o => by cases k <;> simp [okD] at o
theorem RA.free (h : ∀ a, M a = none → M' a = none) : ∀ (l : List D) (k : Nat) (vs : List V), RA K M H vs l → okDs k l = true → RA K M' H vs l
  | [], _, _, q, _ => by cases q; exact .nil
  | d :: l, k, _, q, o => by
    cases q with
    | cons a b =>
      rw [okDs, Bool.and_eq_true] at o
      exact .cons (R.free h d k _ a o.1) (RA.free h l k _ b o.2)
end
end
def eCallP (F : Fn) (i : Nat) (fb : Ex) : Ex := fun s => match s.ρ[i]? with
  | some (.own _) => (fb s).bind fun e s1 => (match s1.ρ[i]? with
    | some (.own l) => if okD 60 e && okDs 60 l then (match F [.lst l, e] [] with
      | .ok (.bl b) _ => .ok (.bl b) s1
      | _ => .stuck) else .stuck
    | _ => .stuck)
  | _ => .stuck
end Z
/-! ## a dict of ints by ints, a cell -/
namespace Z
open PySem PySem.Spec L2 GxR
open PyProof.Rows hiding St
section
variable {N : En} {W : WX} {X : Cx} {K : PySem.W.Frag} {M M' : MM} {H H' : Hp} {s : S} {σ : St} {o k e : Expr} {fo fk fe : Ex} {pos pos' : Pos}
theorem Rel.newCellG {p : Addr} {c0 : Cell} (rl : Rel N M s σ H) (m : M p = some .far) (q : ∀ M', Ext0 M H M' H → RC N.K N.w M' H p c0) :
    Rel N (own1 M p (some (.cell s.cs.length))) { s with cs := s.cs ++ [c0] } σ H := by
  have e := ext0_own (w := some (.cell s.cs.length)) (H := H) m
  have ne : ∀ a w, M a = some w → w ≠ .far → a ≠ p := fun a w h1 h2 z => by
    rw [z, m] at h1
    exact h2 (Option.some.inj h1).symm
  refine ⟨⟨fun n c h1 => ?_, fun a b n h1 h2 => ?_, fun a n h1 => ?_, fun a w h1 => ?_, rl.tabs⟩, rl.len, fun i d h1 => ?_, fun i l h1 => ?_⟩
  · by_cases hn : n < s.cs.length
    · rw [List.getElem?_append_left hn] at h1
      obtain ⟨a, k1, k2⟩ := rl.cell n c h1
      exact ⟨a, by rw [own1_ne (ne a _ k1 (fun z => nomatch z))]; exact k1, k2.ext e rfl⟩
    · rw [List.getElem?_append_right (by omega)] at h1
      have hn2 : n - s.cs.length = 0 := by
        have := (List.getElem?_eq_some_iff.mp h1).1
        simp at this
        omega
      rw [hn2] at h1
      cases h1
      have : n = s.cs.length := by omega
      subst this
      exact ⟨p, own1_same, q _ e⟩
  · by_cases ha : a = p
    · by_cases hb : b = p
      · rw [ha, hb]
      · rw [ha, own1_same] at h1
        rw [own1_ne hb] at h2
        cases h1
        exact absurd (rl.csz b _ h2) (Nat.lt_irrefl _)
    · by_cases hb : b = p
      · rw [hb, own1_same] at h2
        rw [own1_ne ha] at h1
        cases h2
        exact absurd (rl.csz a _ h1) (Nat.lt_irrefl _)
      · rw [own1_ne ha] at h1
        rw [own1_ne hb] at h2
        exact rl.uniq a b n h1 h2
  · rw [List.length_append, List.length_singleton]
    by_cases ha : a = p
    · rw [ha, own1_same] at h1
      cases h1
      exact Nat.lt_succ_self _
    · rw [own1_ne ha] at h1
      exact Nat.lt_succ_of_lt (rl.csz a n h1)
  · by_cases ha : a = p
    · subst ha
      exact rl.mdom a _ m
    · rw [own1_ne ha] at h1
      exact rl.mdom a w h1
  · obtain ⟨v, k1, k2⟩ := rl.sv i d h1
    exact ⟨v, k1, e.r k2⟩
  · obtain ⟨a, ys, k1, k2, k3, k4⟩ := rl.own i l h1
    exact ⟨a, ys, k1, by rw [own1_ne (ne a _ k2 (fun z => nomatch z))]; exact k2, k3, e.ra k4⟩
theorem Rel.updG (rl : Rel N M s σ H) {a : Addr} {n : Nat} {c' : Cell} {o' : HO} (ho : ∀ ps, o' ≠ .tbl ps) (hn : n < s.cs.length) (m : M a = some (.cell n)) (q : RC N.K N.w M (upd H a o') a c') : Rel N M { s with cs := s.cs.set n c' } σ (upd H a o') where
  cell := fun j c hj => by
    by_cases z : n = j
    · subst z
      rw [List.getElem?_set_self hn] at hj
      cases hj
      exact ⟨a, m, q⟩
    · rw [List.getElem?_set_ne z] at hj
      obtain ⟨b, k1, k2⟩ := rl.cell j c hj
      refine ⟨b, k1, k2.ext (ext0_upd m) (upd_ne ?_)⟩
      rintro rfl
      rw [m] at k1
      cases k1
      exact z rfl
  uniq := rl.uniq
  csz := fun b j hj => by rw [List.length_set]; exact rl.csz b j hj
  mdom := fun b u h1 => by
    by_cases ha : b = a
    · subst ha
      exact ⟨_, upd_same, ho⟩
    · obtain ⟨o, k1, k2⟩ := rl.mdom b u h1
      exact ⟨o, by rw [upd_ne ha]; exact k1, k2⟩
  tabs := fun P hP => by
    obtain ⟨u, hu, n⟩ := rl.mdom a _ m
    exact tab_upd hu n (rl.tabs P hP)
  len := rl.len
  sv := fun j d hj => by
    obtain ⟨v, k1, k2⟩ := rl.sv j d hj
    exact ⟨v, k1, (ext0_upd m).r k2⟩
  own := fun j l hj => by
    obtain ⟨b, ys, k1, k2, k3, k4⟩ := rl.own j l hj
    refine ⟨b, ys, k1, k2, ?_, (ext0_upd m).ra k4⟩
    rw [upd_ne]
    · exact k3
    · rintro rfl
      rw [m] at k2
      cases k2
theorem ext_updG (r : RelC N M s.cs H) {p : Addr} {o' : HO} {n : Nat} (ho : ∀ ps, o' ≠ .tbl ps) (h : M p = some (.cell n)) : Ext M H M (upd H p o') where
  toExt0 := ext0_upd h
  tab := fun b hb => by
    obtain ⟨u, hu, n⟩ := r.mdom p _ h
    exact tab_upd hu n hb
  far := fun a ha => ⟨ha, upd_ne fun z => by rw [z, h] at ha; cases ha⟩
  dom := fun a o ho2 n2 => by
    by_cases ha : a = p
    · subst ha
      exact ⟨_, upd_same, ho⟩
    · exact ⟨o, by rw [upd_ne ha]; exact ho2, n2⟩
def eNewD : Ex := fun s => .ok (.cell s.cs.length) { s with cs := s.cs ++ [.dic []] }
def eIxD (fo fk : Ex) : Ex := fun s => (fo s).bind fun x s1 => (fk s1).bind fun y s2 => match x, y with
  | .cell n, .int k => (match s2.cs[n]? with
    | some (.dic l) => (match dlook l k with
      | some v => .ok (.int v) s2
      | none => .stuck)
    | _ => .stuck)
  | _, _ => .stuck
def sSetD (fo fk fe : Ex) : Ss := fun s => (fe s).bind fun d s1 => (fo s1).bind fun x s2 => (fk s2).bind fun y s3 => match x, y, d with
  | .cell n, .int k, .int v => (match s3.cs[n]? with
    | some (.dic l) => if l.length < 100000 then .ok .nx { s3 with cs := s3.cs.set n (.dic ((k, v) :: l)) } else .stuck
    | _ => .stuck)
  | _, _, _ => .stuck
end
end Z
/-! ## how the plain functions are computed -/
namespace Z
open PySem PySem.Spec L2 GxR
open PyProof.Rows hiding St
section
variable {α β γ : Type} {s s1 : S} {f g h : Ex} {t u : Ts} {fs : As} {G : D → D → Option D}
def onB (x : D) (k : Bool → Res α) : Res α := match x with
  | .bl b => k b
  | _ => .stuck
def onI (x : D) (k : Int → Res α) : Res α := match x with
  | .int b => k b
  | _ => .stuck
@[simp] theorem onB_bl (b : Bool) (k : Bool → Res α) : onB (.bl b) k = k b := Eq.trans rfl rfl
@[simp] theorem onI_int (b : Int) (k : Int → Res α) : onI (.int b) k = k b := Eq.trans rfl rfl
@[simp] theorem bind_ok (a : α) (s : S) (k : α → S → Res β) : (Res.ok a s).bind k = k a s := Eq.trans rfl rfl
@[simp] theorem bind_stuck (k : α → S → Res β) : (Res.stuck : Res α).bind k = .stuck := Eq.trans rfl rfl
@[simp] theorem bind_exc (c : Nat) (d : D) (s : S) (k : α → S → Res β) : (Res.exc c d s : Res α).bind k = .exc c d s := Eq.trans rfl rfl
@[simp] theorem lift_some (z : D) (s : S) : lift (some z) s = .ok z s := Eq.trans rfl rfl
@[simp] theorem lift_none (s : S) : lift none s = .stuck := Eq.trans rfl rfl
@[simp] theorem liftL_some (z : List D) (s : S) : liftL (some z) s = .ok z s := Eq.trans rfl rfl
@[simp] theorem nox_ok (a : α) (s : S) : (Res.ok a s).nox = .ok a s := Eq.trans rfl rfl
@[simp] theorem eAnd_eq : eAnd f g s = (f s).bind fun x s1 => onB x fun b => if b = true then g s1 else .ok (.bl false) s1 := by
  unfold eAnd
  congr 1
  funext x s1
  cases x <;> try rfl
  rename_i b
  cases b <;> rfl
@[simp] theorem eOr_eq : eOr f g s = (f s).bind fun x s1 => onB x fun b => if b = true then .ok (.bl true) s1 else g s1 := by
  unfold eOr
  congr 1
  funext x s1
  cases x <;> try rfl
  rename_i b
  cases b <;> rfl
@[simp] theorem eNot_eq : eNot f s = (f s).bind fun x s1 => onB x fun b => .ok (.bl (!b)) s1 := by
  unfold eNot
  congr 1
@[simp] theorem eNeg_eq : eNeg f s = (f s).bind fun x s1 => onI x fun b => .ok (.int (-b)) s1 := by
  unfold eNeg
  congr 1
@[simp] theorem tV_eq : tV f s = (f s).bind fun x s1 => onB x fun b => .ok b s1 := by
  unfold tV
  congr 1
def chk (o : Option D) (k : Bool → Res α) : Res α := match o with
  | some (.bl b) => k b
  | _ => .stuck
@[simp] theorem chk_bl (b : Bool) (k : Bool → Res α) : chk (some (.bl b)) k = k b := Eq.trans rfl rfl
@[simp] theorem eChain_eq {g g' : D → D → Option D} {fa fb fc : Ex} : eChain g g' fa fb fc s = (fa s).bind fun x s1 => (fb s1).bind fun y s2 => chk (g x y) fun b => if b = true then (fc s2).bind fun z s3 => lift (g' y z) s3 else .ok (.bl false) s2 := by
  unfold eChain
  congr 1
  funext x s1
  congr 1
  funext y s2
  cases hg : g x y with
  | none => rfl
  | some z =>
    cases z <;> try rfl
    rename_i b
    cases b <;> rfl
def onT (o : Option Bool) (s : S) : Res Bool := match o with
  | some b => .ok b s
  | none => .stuck
@[simp] theorem onT_some (b : Bool) (s : S) : onT (some b) s = .ok b s := Eq.trans rfl rfl
@[simp] theorem tU_eq : tU f s = (f s).bind fun x s1 => onT (truD x) s1 := by
  unfold tU
  congr 1
def onNx (fl : Fl) (s : S) (k : S → Res Fl) : Res Fl := match fl with
  | .nx => k s
  | .rt d => .ok (.rt d) s
@[simp] theorem onNx_nx (s : S) (k : S → Res Fl) : onNx .nx s k = k s := Eq.trans rfl rfl
@[simp] theorem onNx_rt (d : D) (s : S) (k : S → Res Fl) : onNx (.rt d) s k = .ok (.rt d) s := Eq.trans rfl rfl
@[simp] theorem sCons_eq {f g : Ss} : sCons f g s = (f s).bind fun fl s1 => onNx fl s1 g := by
  unfold sCons
  congr 1
def onSl (o : Option Slot) (k : Slot → Res α) : Res α := match o with
  | some x => k x
  | none => .stuck
@[simp] theorem onSl_some (x : Slot) (k : Slot → Res α) : onSl (some x) k = k x := Eq.trans rfl rfl
def rdV (i : Nat) (s : S) : Slot → Res D
  | .sv d => .ok d s
  | .own l => .ok (.lst l) { s with ρ := s.ρ.set i (.sv (.lst l)) }
  | .un => .stuck
@[simp] theorem rdV_sv (i : Nat) (s : S) (d : D) : rdV i s (.sv d) = .ok d s := Eq.trans rfl rfl
@[simp] theorem rdV_own (i : Nat) (s : S) (l : List D) : rdV i s (.own l) = .ok (.lst l) { s with ρ := s.ρ.set i (.sv (.lst l)) } := Eq.trans rfl rfl
@[simp] theorem eV_eq (i : Nat) : eV i s = onSl s.ρ[i]? (rdV i s) := by
  unfold eV
  split
  · rename_i h; rw [h]; rfl
  · rename_i h; rw [h]; rfl
  · rename_i h1 h2
    cases h : s.ρ[i]? with
    | none => rfl
    | some x => cases x <;> first | rfl | exact absurd h (h1 _) | exact absurd h (h2 _)
def rdB (s : S) : Slot → Res D
  | .sv d => .ok d s
  | .own l => .ok (.lst l) s
  | .un => .stuck
@[simp] theorem rdB_sv (s : S) (d : D) : rdB s (.sv d) = .ok d s := Eq.trans rfl rfl
@[simp] theorem rdB_own (s : S) (l : List D) : rdB s (.own l) = .ok (.lst l) s := Eq.trans rfl rfl
@[simp] theorem eVB_eq (i : Nat) : eVB i s = onSl s.ρ[i]? (rdB s) := by
  unfold eVB
  split
  · rename_i h; rw [h]; rfl
  · rename_i h; rw [h]; rfl
  · rename_i h1 h2
    cases h : s.ρ[i]? with
    | none => rfl
    | some x => cases x <;> first | rfl | exact absurd h (h1 _) | exact absurd h (h2 _)
/-- behind a call -/
def onF (s : S) (r : Res D) : Res D := match r with
  | .ok d s2 => .ok d ⟨s.ρ, s2.cs⟩
  | .exc c d s2 => .exc c d ⟨s.ρ, s2.cs⟩
  | .stuck => .stuck
@[simp] theorem onF_ok (s : S) (d : D) (s2 : S) : onF s (.ok d s2) = .ok d ⟨s.ρ, s2.cs⟩ := Eq.trans rfl rfl
@[simp] theorem onF_exc (s : S) (c : Nat) (d : D) (s2 : S) : onF s (.exc c d s2) = .exc c d ⟨s.ρ, s2.cs⟩ := Eq.trans rfl rfl
@[simp] theorem eCall_eq {F : Fn} : eCall F fs s = (fs s).bind fun ds s1 => onF s1 (F ds s1.cs) := by
  unfold eCall
  congr 1
def fin (r : Res Fl) : Res D := match r with
  | .ok (.rt d) s => .ok d ⟨[], s.cs⟩
  | .ok .nx s => .ok .non ⟨[], s.cs⟩
  | _ => .stuck
@[simp] theorem fin_rt (d : D) (s : S) : fin (.ok (.rt d) s) = .ok d ⟨[], s.cs⟩ := Eq.trans rfl rfl
@[simp] theorem fin_nx (s : S) : fin (.ok .nx s) = .ok .non ⟨[], s.cs⟩ := Eq.trans rfl rfl
@[simp] theorem fnS0_eq (n : Nat) (b : Ss) (ds : List D) (cs : List Cell) : fnS0 n b ds cs = fin (b ⟨ds.map .sv ++ List.replicate (n - ds.length) .un, cs⟩) := Eq.trans rfl rfl
/-- the left side in a slot -/
def sl1 : Slot → Option D
  | .sv d => some d
  | .own l => some (.lst l)
  | .un => none
@[simp] theorem sl1_sv (d : D) : sl1 (.sv d) = some d := Eq.trans rfl rfl
@[simp] theorem sl1_own (l : List D) : sl1 (.own l) = some (.lst l) := Eq.trans rfl rfl
@[simp] theorem slotD_eq (i : Nat) : slotD i s = (s.ρ[i]?).bind sl1 := by
  unfold slotD
  cases h : s.ρ[i]? with
  | none => rfl
  | some x => cases x <;> rfl
def onD (o : Option D) (k : D → Res α) : Res α := match o with
  | some x => k x
  | none => .stuck
@[simp] theorem onD_some (x : D) (k : D → Res α) : onD (some x) k = k x := Eq.trans rfl rfl
@[simp] theorem eOpL_eq (i : Nat) : eOpL G i f s = onD (slotD i s) fun _ => (f s).bind fun y s2 => onD (slotD i s2) fun x => lift (G x y) s2 := by
  unfold eOpL
  cases slotD i s with
  | none => rfl
  | some x =>
    simp only [onD_some]
    congr 1
end
end Z
namespace Z
open PySem PySem.Spec L2 GxR
open PyProof.Rows hiding St
theorem atI_nat {l : List D} {i : Nat} : atI l (i : Int) = l[i]? := by
  unfold atI ixN
  by_cases h : i < l.length
  · simp [h]
  · have h' : l.length ≤ i := Nat.le_of_not_lt h
    simp [h, h']
@[simp] theorem atI_zero {x : D} {l : List D} : atI (x :: l) 0 = some x := by
  have := atI_nat (l := x :: l) (i := 0)
  simpa using this
@[simp] theorem atI_one {x y : D} {l : List D} : atI (x :: y :: l) 1 = some y := by
  have := atI_nat (l := x :: y :: l) (i := 1)
  simpa using this
@[simp] theorem atI_two {x y z : D} {l : List D} : atI (x :: y :: z :: l) 2 = some z := by
  have := atI_nat (l := x :: y :: z :: l) (i := 2)
  simpa using this
@[simp] theorem atI_3 {x y z a : D} {l : List D} : atI (x :: y :: z :: a :: l) 3 = some a := by
  have := atI_nat (l := x :: y :: z :: a :: l) (i := 3)
  simpa using this
@[simp] theorem atI_4 {x y z a b : D} {l : List D} : atI (x :: y :: z :: a :: b :: l) 4 = some b := by
  have := atI_nat (l := x :: y :: z :: a :: b :: l) (i := 4)
  simpa using this
@[simp] theorem atI_5 {x y z a b c : D} {l : List D} : atI (x :: y :: z :: a :: b :: c :: l) 5 = some c := by
  have := atI_nat (l := x :: y :: z :: a :: b :: c :: l) (i := 5)
  simpa using this
@[simp] theorem atI_6 {x y z a b c d : D} {l : List D} : atI (x :: y :: z :: a :: b :: c :: d :: l) 6 = some d := by
  have := atI_nat (l := x :: y :: z :: a :: b :: c :: d :: l) (i := 6)
  simpa using this
@[simp] theorem atI_7 {x y z a b c d e : D} {l : List D} : atI (x :: y :: z :: a :: b :: c :: d :: e :: l) 7 = some e := by
  have := atI_nat (l := x :: y :: z :: a :: b :: c :: d :: e :: l) (i := 7)
  simpa using this
end Z
namespace Z
open PySem PySem.Spec L2 GxR
open PyProof.Rows hiding St
section
variable {α β : Type} {s : S} {f g h fa fb : Ex} {t u : Ts} {fs : As} {G : D → D → Option D} {b b' : Ss}
@[simp] theorem x_eC (d : D) : eC d s = .ok d s := Eq.trans rfl rfl
@[simp] theorem x_eOp : eOp G fa fb s = (fa s).bind fun x s1 => (fb s1).bind fun y s2 => lift (G x y) s2 := Eq.trans rfl rfl
@[simp] theorem x_eIf : eIf t f g s = (t s).bind fun b s1 => if b = true then f s1 else g s1 := Eq.trans rfl rfl
@[simp] theorem x_tN : tN t s = (t s).bind fun b s1 => .ok (!b) s1 := Eq.trans rfl rfl
@[simp] theorem x_tA : tA t u s = (t s).bind fun b s1 => if b = true then u s1 else .ok false s1 := Eq.trans rfl rfl
@[simp] theorem x_tO : tO t u s = (t s).bind fun b s1 => if b = true then .ok true s1 else u s1 := Eq.trans rfl rfl
@[simp] theorem x_aNil : aNil s = .ok [] s := Eq.trans rfl rfl
@[simp] theorem x_aCons : aCons f fs s = (f s).bind fun x s1 => (fs s1).bind fun xs s2 => .ok (x :: xs) s2 := Eq.trans rfl rfl
@[simp] theorem x_eTup : eTup fs s = (fs s).bind fun ds s1 => .ok (.tup ds) s1 := Eq.trans rfl rfl
@[simp] theorem x_eF : eF fs s = (fs s).bind fun ds s1 => .ok (.lst ds) s1 := Eq.trans rfl rfl
@[simp] theorem x_eC1 (g : D → Option D) : eC1 g f s = (f s).bind fun x s1 => lift (g x) s1 := Eq.trans rfl rfl
@[simp] theorem x_aC1 (g : D → Option (List D)) : aC1 g f s = (f s).bind fun x s1 => liftL (g x) s1 := Eq.trans rfl rfl
@[simp] theorem x_eIsi (T : Ty5) : eIsi T f s = (f s).bind fun x s1 => lift ((isTy T x).map D.bl) s1 := Eq.trans rfl rfl
@[simp] theorem x_eNotT : eNotT t s = (t s).bind fun b s1 => .ok (.bl (!b)) s1 := Eq.trans rfl rfl
@[simp] theorem x_eKD (ps : List (Nat × D)) : eKD ps f s = (f s).bind fun x s1 => lift (kdD ps x) s1 := Eq.trans rfl rfl
def onC (o : Option Cell) (k : List D → Res α) : Res α := match o with
  | some (.lst l) => k l
  | _ => .stuck
@[simp] theorem onC_some (l : List D) (k : List D → Res α) : onC (some (.lst l)) k = k l := Eq.trans rfl rfl
def onCe (x : D) (k : Nat → Res α) : Res α := match x with
  | .cell n => k n
  | _ => .stuck
@[simp] theorem onCe_c (n : Nat) (k : Nat → Res α) : onCe (.cell n) k = k n := Eq.trans rfl rfl
@[simp] theorem x_eIxC : eIxC fa fb s = (fa s).bind fun x s1 => (fb s1).bind fun y s2 => onI y fun i => onCe x fun n => onC s2.cs[n]? fun l => lift (atI l i) s2 := by
  unfold eIxC
  congr 1
  funext x s1
  congr 1
  funext y s2
  cases y <;> try rfl
  cases x <;> try rfl
  simp only [onI_int, onCe_c, cellIx]
  rename_i n
  cases s2.cs[n]? with
  | none => rfl
  | some c => cases c <;> rfl
@[simp] theorem x_eNew : eNew fs s = (fs s).bind fun ds s1 => .ok (.cell s1.cs.length) { s1 with cs := s1.cs ++ [.lst ds] } := Eq.trans rfl rfl
@[simp] theorem x_sNil : sNil s = .ok .nx s := Eq.trans rfl rfl
@[simp] theorem x_sSet (i : Nat) : sSet i f s = (f s).bind fun d s1 => .ok .nx { s1 with ρ := s1.ρ.set i (.sv d) } := Eq.trans rfl rfl
@[simp] theorem x_sOwn (i : Nat) : sOwn i fs s = (fs s).bind fun l s1 => .ok .nx { s1 with ρ := s1.ρ.set i (.own l) } := Eq.trans rfl rfl
@[simp] theorem x_sAsg (gt : Tg) : sAsg gt f s = (f s).bind fun d s1 => (gt d s1).bind fun _ s2 => .ok .nx s2 := Eq.trans rfl rfl
@[simp] theorem x_sEx : sEx f s = (f s).bind fun _ s1 => .ok .nx s1 := Eq.trans rfl rfl
@[simp] theorem x_sRet : sRet f s = (f s).bind fun d s1 => .ok (.rt d) s1 := Eq.trans rfl rfl
@[simp] theorem x_sRetN : sRetN s = .ok (.rt .non) s := Eq.trans rfl rfl
@[simp] theorem x_sIf : sIf t b b' s = (t s).bind fun c s1 => if c = true then b s1 else b' s1 := Eq.trans rfl rfl
@[simp] theorem x_gN (i : Nat) (d : D) : gN i d s = .ok () { s with ρ := s.ρ.set i (.sv d) } := Eq.trans rfl rfl
@[simp] theorem x_gNil : gNil [] s = .ok () s := Eq.trans rfl rfl
@[simp] theorem x_gCons (gt : Tg) (gs : Tgs) (d : D) (l : List D) : gCons gt gs (d :: l) s = (gt d s).bind fun _ s1 => gs l s1 := Eq.trans rfl rfl
@[simp] theorem x_gT (n : Nat) (gs : Tgs) (l : List D) : gT n gs (.tup l) s = if l.length = n then gs l s else .stuck := Eq.trans rfl rfl
@[simp] theorem x_gTl (n : Nat) (gs : Tgs) (l : List D) : gT n gs (.lst l) s = if l.length = n then gs l s else .stuck := Eq.trans rfl rfl
def on2 (l : List D) (k : D → D → Res α) : Res α := match l with
  | [a, b] => k a b
  | _ => .stuck
@[simp] theorem on2_2 (a b : D) (k : D → D → Res α) : on2 [a, b] k = k a b := Eq.trans rfl rfl
@[simp] theorem x_sPar (i j : Nat) : sPar i j fs s = (fs s).bind fun ds s1 => on2 ds fun a b => .ok .nx { s1 with ρ := (s1.ρ.set i (.sv a)).set j (.sv b) } := Eq.trans rfl rfl
def onO (o : Option Slot) (k : List D → Res α) : Res α := match o with
  | some (.own l) => k l
  | _ => .stuck
@[simp] theorem onO_o (l : List D) (k : List D → Res α) : onO (some (.own l)) k = k l := Eq.trans rfl rfl
@[simp] theorem x_sApp (i : Nat) : sApp i f s = onO s.ρ[i]? fun _ => (f s).bind fun d s1 => onO s1.ρ[i]? fun l => if l.length < 100000 then .ok .nx { s1 with ρ := s1.ρ.set i (.own (l ++ [d])) } else .stuck := Eq.trans rfl rfl
def onL (x : D) (k : List D → Res α) : Res α := match x with
  | .lst l => k l
  | _ => .stuck
@[simp] theorem onL_l (l : List D) (k : List D → Res α) : onL (.lst l) k = k l := Eq.trans rfl rfl
@[simp] theorem x_sExt (i : Nat) : sExt i f s = onO s.ρ[i]? fun _ => (f s).bind fun d s1 => onO s1.ρ[i]? fun l => onL d fun l2 => if l.length + l2.length ≤ 100000 then .ok .nx { s1 with ρ := s1.ρ.set i (.own (l ++ l2)) } else .stuck := by
  unfold sExt
  cases s.ρ[i]? with
  | none => rfl
  | some x =>
    cases x <;> try rfl
    simp only [onO_o]
    congr 1
    funext d s1
    cases s1.ρ[i]? with
    | none => rfl
    | some y => cases y <;> cases d <;> rfl
def onLo (o : Option (List D)) (k : List D → Res α) : Res α := match o with
  | some l => k l
  | none => .stuck
@[simp] theorem onLo_s (l : List D) (k : List D → Res α) : onLo (some l) k = k l := Eq.trans rfl rfl
@[simp] theorem x_sSetIx (i : Nat) : sSetIx i fa f s = (f s).bind fun d s1 => onD (slotD i s1) fun _ => (fa s1).bind fun k s2 => onO s2.ρ[i]? fun l => onI k fun k => onLo (setAt l k d) fun l' => .ok .nx { s2 with ρ := s2.ρ.set i (.own l') } := by
  unfold sSetIx
  congr 1
  funext d s1
  cases slotD i s1 with
  | none => rfl
  | some x =>
    simp only [onD_some]
    congr 1
    funext k s2
    cases s2.ρ[i]? with
    | none => rfl
    | some y =>
      cases y <;> cases k <;> rfl
@[simp] theorem x_sSetC : sSetC h fa f s = (f s).bind fun d s1 => (h s1).bind fun o s2 => (fa s2).bind fun k s3 => onCe o fun n => onI k fun k => onC s3.cs[n]? fun l => onLo (setAt l k d) fun l' => .ok .nx { s3 with cs := s3.cs.set n (.lst l') } := by
  unfold sSetC
  congr 1
  funext d s1
  congr 1
  funext o s2
  congr 1
  funext k s3
  cases o <;> cases k <;> rfl
@[simp] theorem x_addD (i j : Int) : addD (.int i) (.int j) = some (.int (i + j)) := Eq.trans rfl rfl
@[simp] theorem x_subD (i j : Int) : subD (.int i) (.int j) = some (.int (i - j)) := Eq.trans rfl rfl
@[simp] theorem x_ltD (i j : Int) : ltD (.int i) (.int j) = some (.bl (decide (i < j))) := Eq.trans rfl rfl
@[simp] theorem x_leD (i j : Int) : leD (.int i) (.int j) = some (.bl (decide (i ≤ j))) := Eq.trans rfl rfl
@[simp] theorem x_gtD (i j : Int) : gtD (.int i) (.int j) = some (.bl (decide (j < i))) := Eq.trans rfl rfl
@[simp] theorem x_geD (i j : Int) : geD (.int i) (.int j) = some (.bl (decide (j ≤ i))) := Eq.trans rfl rfl
@[simp] theorem x_addI (i j : Int) : addI (.int i) (.int j) = some (.int (i + j)) := Eq.trans rfl rfl
@[simp] theorem x_modD (i j : Int) : modD (.int i) (.int j) = if 0 < j then some (.int (i % j)) else none := Eq.trans rfl rfl
@[simp] theorem x_fdivD (i j : Int) : fdivD (.int i) (.int j) = if 0 < j ∧ j < 1073741824 then some (.int (i / j)) else none := Eq.trans rfl rfl
@[simp] theorem x_addT (a b : List D) : addD (.tup a) (.tup b) = if a.length + b.length ≤ 100000 then some (.tup (a ++ b)) else none := Eq.trans rfl rfl
@[simp] theorem x_addL (a b : List D) : addD (.lst a) (.lst b) = if a.length + b.length ≤ 100000 then some (.lst (a ++ b)) else none := Eq.trans rfl rfl
@[simp] theorem x_mulD (i j : Int) : mulD (.int i) (.int j) = if (-(2 ^ 64) < i ∧ i < 2 ^ 64) ∨ (-(2 ^ 64) < j ∧ j < 2 ^ 64) then some (.int (i * j)) else none := Eq.trans rfl rfl
@[simp] theorem x_ten : powD (.int 10) (.int 18) = some (.int 1000000000000000000) := by simp [powD]
@[simp] theorem x_eqOp (d e : D) : eqOp d e = if okD 60 d && okD 60 e then some (.bl (eqD d e)) else none := Eq.trans rfl rfl
@[simp] theorem x_neOp (d e : D) : neOp d e = if okD 60 d && okD 60 e then some (.bl (!eqD d e)) else none := Eq.trans rfl rfl
@[simp] theorem x_intup (x : D) (l : List D) : inOp x (.tup l) = if okD 60 x && okDs 60 l then some (.bl (inD x l)) else none := Eq.trans rfl rfl
@[simp] theorem x_nintup (x : D) (l : List D) : notInOp x (.tup l) = if okD 60 x && okDs 60 l then some (.bl (!inD x l)) else none := Eq.trans rfl rfl
@[simp] theorem x_ixtup (l : List D) (i : Int) : ixD (.tup l) (.int i) = atI l i := Eq.trans rfl rfl
@[simp] theorem x_lentup (l : List D) : lenD (.tup l) = some (.int l.length) := Eq.trans rfl rfl
@[simp] theorem x_tuptup (l : List D) : tupD (.tup l) = some (.tup l) := Eq.trans rfl rfl
@[simp] theorem x_listtup (l : List D) : listD (.tup l) = some l := Eq.trans rfl rfl
@[simp] theorem x_trutup (l : List D) : truD (.tup l) = some (!l.isEmpty) := Eq.trans rfl rfl
@[simp] theorem x_inlst (x : D) (l : List D) : inOp x (.lst l) = if okD 60 x && okDs 60 l then some (.bl (inD x l)) else none := Eq.trans rfl rfl
@[simp] theorem x_ninlst (x : D) (l : List D) : notInOp x (.lst l) = if okD 60 x && okDs 60 l then some (.bl (!inD x l)) else none := Eq.trans rfl rfl
@[simp] theorem x_ixlst (l : List D) (i : Int) : ixD (.lst l) (.int i) = atI l i := Eq.trans rfl rfl
@[simp] theorem x_lenlst (l : List D) : lenD (.lst l) = some (.int l.length) := Eq.trans rfl rfl
@[simp] theorem x_tuplst (l : List D) : tupD (.lst l) = some (.tup l) := Eq.trans rfl rfl
@[simp] theorem x_listlst (l : List D) : listD (.lst l) = some l := Eq.trans rfl rfl
@[simp] theorem x_trulst (l : List D) : truD (.lst l) = some (!l.isEmpty) := Eq.trans rfl rfl
@[simp] theorem x_isN (d : D) : isNOp d .non = some (.bl (isNon d)) := Eq.trans rfl rfl
@[simp] theorem x_notN (d : D) : notNOp d .non = some (.bl (!isNon d)) := Eq.trans rfl rfl
@[simp] theorem isNon_non : isNon .non = true := Eq.trans rfl rfl
@[simp] theorem isNon_bl (b : Bool) : isNon (.bl b) = false := Eq.trans rfl rfl
@[simp] theorem isNon_int (b : Int) : isNon (.int b) = false := Eq.trans rfl rfl
@[simp] theorem isNon_str (b : Nat) : isNon (.str b) = false := Eq.trans rfl rfl
@[simp] theorem isNon_tup (b : List D) : isNon (.tup b) = false := Eq.trans rfl rfl
@[simp] theorem isNon_lst (b : List D) : isNon (.lst b) = false := Eq.trans rfl rfl
@[simp] theorem isNon_cell (b : Nat) : isNon (.cell b) = false := Eq.trans rfl rfl
@[simp] theorem x_truB (b : Bool) : truD (.bl b) = some b := Eq.trans rfl rfl
@[simp] theorem x_truI (b : Int) : truD (.int b) = some (b != 0) := Eq.trans rfl rfl
@[simp] theorem x_truN : truD .non = some false := Eq.trans rfl rfl
@[simp] theorem x_abs (i : Int) : absD (.int i) = some (.int (if i < 0 then -i else i)) := Eq.trans rfl rfl
@[simp] theorem x_int (i : Int) : intD (.int i) = some (.int i) := Eq.trans rfl rfl
@[simp] theorem x_intB (b : Bool) : intD (.bl b) = some (.int (if b then 1 else 0)) := Eq.trans rfl rfl
@[simp] theorem x_listS (l : List Int) : listD (.scr l) = some (l.map D.int) := Eq.trans rfl rfl
@[simp] theorem x_is_int_bl (b : Bool) : isTy .int (.bl b) = some true := Eq.trans rfl rfl
@[simp] theorem x_is_int_int (b : Int) : isTy .int (.int b) = some true := Eq.trans rfl rfl
@[simp] theorem x_is_int_str (b : Nat) : isTy .int (.str b) = some false := Eq.trans rfl rfl
@[simp] theorem x_is_int_tup (b : List D) : isTy .int (.tup b) = some false := Eq.trans rfl rfl
@[simp] theorem x_is_int_lst (b : List D) : isTy .int (.lst b) = some false := Eq.trans rfl rfl
@[simp] theorem x_is_int_non : isTy .int .non = some false := Eq.trans rfl rfl
@[simp] theorem x_is_bool_bl (b : Bool) : isTy .bool (.bl b) = some true := Eq.trans rfl rfl
@[simp] theorem x_is_bool_int (b : Int) : isTy .bool (.int b) = some false := Eq.trans rfl rfl
@[simp] theorem x_is_bool_str (b : Nat) : isTy .bool (.str b) = some false := Eq.trans rfl rfl
@[simp] theorem x_is_bool_tup (b : List D) : isTy .bool (.tup b) = some false := Eq.trans rfl rfl
@[simp] theorem x_is_bool_lst (b : List D) : isTy .bool (.lst b) = some false := Eq.trans rfl rfl
@[simp] theorem x_is_bool_non : isTy .bool .non = some false := Eq.trans rfl rfl
@[simp] theorem x_is_str_bl (b : Bool) : isTy .str (.bl b) = some false := Eq.trans rfl rfl
@[simp] theorem x_is_str_int (b : Int) : isTy .str (.int b) = some false := Eq.trans rfl rfl
@[simp] theorem x_is_str_str (b : Nat) : isTy .str (.str b) = some true := Eq.trans rfl rfl
@[simp] theorem x_is_str_tup (b : List D) : isTy .str (.tup b) = some false := Eq.trans rfl rfl
@[simp] theorem x_is_str_lst (b : List D) : isTy .str (.lst b) = some false := Eq.trans rfl rfl
@[simp] theorem x_is_str_non : isTy .str .non = some false := Eq.trans rfl rfl
@[simp] theorem x_is_tuple_bl (b : Bool) : isTy .tuple (.bl b) = some false := Eq.trans rfl rfl
@[simp] theorem x_is_tuple_int (b : Int) : isTy .tuple (.int b) = some false := Eq.trans rfl rfl
@[simp] theorem x_is_tuple_str (b : Nat) : isTy .tuple (.str b) = some false := Eq.trans rfl rfl
@[simp] theorem x_is_tuple_tup (b : List D) : isTy .tuple (.tup b) = some true := Eq.trans rfl rfl
@[simp] theorem x_is_tuple_lst (b : List D) : isTy .tuple (.lst b) = some false := Eq.trans rfl rfl
@[simp] theorem x_is_tuple_non : isTy .tuple .non = some false := Eq.trans rfl rfl
@[simp] theorem x_is_list_bl (b : Bool) : isTy .list (.bl b) = some false := Eq.trans rfl rfl
@[simp] theorem x_is_list_int (b : Int) : isTy .list (.int b) = some false := Eq.trans rfl rfl
@[simp] theorem x_is_list_str (b : Nat) : isTy .list (.str b) = some false := Eq.trans rfl rfl
@[simp] theorem x_is_list_tup (b : List D) : isTy .list (.tup b) = some false := Eq.trans rfl rfl
@[simp] theorem x_is_list_lst (b : List D) : isTy .list (.lst b) = some true := Eq.trans rfl rfl
@[simp] theorem x_is_list_non : isTy .list .non = some false := Eq.trans rfl rfl
@[simp] theorem okD_int (k : Nat) (i : Int) : okD k (.int i) = true := by cases k <;> rfl
@[simp] theorem okD_bl (k : Nat) (i : Bool) : okD k (.bl i) = true := by cases k <;> rfl
@[simp] theorem okD_non (k : Nat) : okD k .non = true := by cases k <;> rfl
@[simp] theorem okD_str (k : Nat) (n : Nat) : okD k (.str n) = decide (n < 70) := by cases k <;> rfl
@[simp] theorem okDs_nil (k : Nat) : okDs k [] = true := by rw [okDs]
@[simp] theorem okDs_cons (k : Nat) (d : D) (l : List D) : okDs k (d :: l) = (okD k d && okDs k l) := by rw [okDs]
@[simp] theorem okD_tup60 (l : List D) : okD 60 (.tup l) = okDs 59 l := by rw [okD]
@[simp] theorem okD_lst60 (l : List D) : okD 60 (.lst l) = okDs 59 l := by rw [okD]
@[simp] theorem okD_tup59 (l : List D) : okD 59 (.tup l) = okDs 58 l := by rw [okD]
@[simp] theorem okD_lst59 (l : List D) : okD 59 (.lst l) = okDs 58 l := by rw [okD]
@[simp] theorem okD_tup58 (l : List D) : okD 58 (.tup l) = okDs 57 l := by rw [okD]
@[simp] theorem okD_lst58 (l : List D) : okD 58 (.lst l) = okDs 57 l := by rw [okD]
@[simp] theorem okD_tup57 (l : List D) : okD 57 (.tup l) = okDs 56 l := by rw [okD]
@[simp] theorem okD_lst57 (l : List D) : okD 57 (.lst l) = okDs 56 l := by rw [okD]
@[simp] theorem okD_tup56 (l : List D) : okD 56 (.tup l) = okDs 55 l := by rw [okD]
@[simp] theorem okD_lst56 (l : List D) : okD 56 (.lst l) = okDs 55 l := by rw [okD]
@[simp] theorem okD_tup55 (l : List D) : okD 55 (.tup l) = okDs 54 l := by rw [okD]
@[simp] theorem okD_lst55 (l : List D) : okD 55 (.lst l) = okDs 54 l := by rw [okD]
@[simp] theorem okD_tup54 (l : List D) : okD 54 (.tup l) = okDs 53 l := by rw [okD]
@[simp] theorem okD_lst54 (l : List D) : okD 54 (.lst l) = okDs 53 l := by rw [okD]
@[simp] theorem okD_tup53 (l : List D) : okD 53 (.tup l) = okDs 52 l := by rw [okD]
@[simp] theorem okD_lst53 (l : List D) : okD 53 (.lst l) = okDs 52 l := by rw [okD]
@[simp] theorem okD_tup52 (l : List D) : okD 52 (.tup l) = okDs 51 l := by rw [okD]
@[simp] theorem okD_lst52 (l : List D) : okD 52 (.lst l) = okDs 51 l := by rw [okD]
@[simp] theorem okD_tup51 (l : List D) : okD 51 (.tup l) = okDs 50 l := by rw [okD]
@[simp] theorem okD_lst51 (l : List D) : okD 51 (.lst l) = okDs 50 l := by rw [okD]
@[simp] theorem eq_non_non  : eqD (.non) (.non) = true := by simp [eqD]
@[simp] theorem eq_non_bl (b2 : Bool) : eqD (.non) (.bl b2) = false := by simp [eqD]
@[simp] theorem eq_non_int (i2 : Int) : eqD (.non) (.int i2) = false := by simp [eqD]
@[simp] theorem eq_non_str (n2 : Nat) : eqD (.non) (.str n2) = false := by simp [eqD]
@[simp] theorem eq_non_tup (l2 : List D) : eqD (.non) (.tup l2) = false := by simp [eqD]
@[simp] theorem eq_non_lst (l2 : List D) : eqD (.non) (.lst l2) = false := by simp [eqD]
@[simp] theorem eq_bl_non (b1 : Bool)  : eqD (.bl b1) (.non) = false := by simp [eqD]
@[simp] theorem eq_bl_bl (b1 : Bool) (b2 : Bool) : eqD (.bl b1) (.bl b2) = (b1 == b2) := by simp [eqD]
@[simp] theorem eq_bl_int (b1 : Bool) (i2 : Int) : eqD (.bl b1) (.int i2) = ((if b1 then 1 else 0) == i2) := by simp [eqD]
@[simp] theorem eq_bl_str (b1 : Bool) (n2 : Nat) : eqD (.bl b1) (.str n2) = false := by simp [eqD]
@[simp] theorem eq_bl_tup (b1 : Bool) (l2 : List D) : eqD (.bl b1) (.tup l2) = false := by simp [eqD]
@[simp] theorem eq_bl_lst (b1 : Bool) (l2 : List D) : eqD (.bl b1) (.lst l2) = false := by simp [eqD]
@[simp] theorem eq_int_non (i1 : Int)  : eqD (.int i1) (.non) = false := by simp [eqD]
@[simp] theorem eq_int_bl (i1 : Int) (b2 : Bool) : eqD (.int i1) (.bl b2) = (i1 == (if b2 then 1 else 0)) := by simp [eqD]
@[simp] theorem eq_int_int (i1 : Int) (i2 : Int) : eqD (.int i1) (.int i2) = (i1 == i2) := by simp [eqD]
@[simp] theorem eq_int_str (i1 : Int) (n2 : Nat) : eqD (.int i1) (.str n2) = false := by simp [eqD]
@[simp] theorem eq_int_tup (i1 : Int) (l2 : List D) : eqD (.int i1) (.tup l2) = false := by simp [eqD]
@[simp] theorem eq_int_lst (i1 : Int) (l2 : List D) : eqD (.int i1) (.lst l2) = false := by simp [eqD]
@[simp] theorem eq_str_non (n1 : Nat)  : eqD (.str n1) (.non) = false := by simp [eqD]
@[simp] theorem eq_str_bl (n1 : Nat) (b2 : Bool) : eqD (.str n1) (.bl b2) = false := by simp [eqD]
@[simp] theorem eq_str_int (n1 : Nat) (i2 : Int) : eqD (.str n1) (.int i2) = false := by simp [eqD]
@[simp] theorem eq_str_str (n1 : Nat) (n2 : Nat) : eqD (.str n1) (.str n2) = (n1 == n2) := by simp [eqD]
@[simp] theorem eq_str_tup (n1 : Nat) (l2 : List D) : eqD (.str n1) (.tup l2) = false := by simp [eqD]
@[simp] theorem eq_str_lst (n1 : Nat) (l2 : List D) : eqD (.str n1) (.lst l2) = false := by simp [eqD]
@[simp] theorem eq_tup_non (l1 : List D)  : eqD (.tup l1) (.non) = false := by simp [eqD]
@[simp] theorem eq_tup_bl (l1 : List D) (b2 : Bool) : eqD (.tup l1) (.bl b2) = false := by simp [eqD]
@[simp] theorem eq_tup_int (l1 : List D) (i2 : Int) : eqD (.tup l1) (.int i2) = false := by simp [eqD]
@[simp] theorem eq_tup_str (l1 : List D) (n2 : Nat) : eqD (.tup l1) (.str n2) = false := by simp [eqD]
@[simp] theorem eq_tup_tup (l1 : List D) (l2 : List D) : eqD (.tup l1) (.tup l2) = eqDs l1 l2 := by simp [eqD]
@[simp] theorem eq_tup_lst (l1 : List D) (l2 : List D) : eqD (.tup l1) (.lst l2) = false := by simp [eqD]
@[simp] theorem eq_lst_non (l1 : List D)  : eqD (.lst l1) (.non) = false := by simp [eqD]
@[simp] theorem eq_lst_bl (l1 : List D) (b2 : Bool) : eqD (.lst l1) (.bl b2) = false := by simp [eqD]
@[simp] theorem eq_lst_int (l1 : List D) (i2 : Int) : eqD (.lst l1) (.int i2) = false := by simp [eqD]
@[simp] theorem eq_lst_str (l1 : List D) (n2 : Nat) : eqD (.lst l1) (.str n2) = false := by simp [eqD]
@[simp] theorem eq_lst_tup (l1 : List D) (l2 : List D) : eqD (.lst l1) (.tup l2) = false := by simp [eqD]
@[simp] theorem eq_lst_lst (l1 : List D) (l2 : List D) : eqD (.lst l1) (.lst l2) = eqDs l1 l2 := by simp [eqD]
@[simp] theorem eqDs_nil : eqDs [] [] = true := by simp [eqDs]
@[simp] theorem eqDs_cons (x y : D) (l m : List D) : eqDs (x :: l) (y :: m) = (eqD x y && eqDs l m) := by simp [eqDs]
@[simp] theorem eqDs_nc (y : D) (m : List D) : eqDs [] (y :: m) = false := by simp [eqDs]
@[simp] theorem eqDs_cn (y : D) (m : List D) : eqDs (y :: m) [] = false := by simp [eqDs]
@[simp] theorem inD_nil (x : D) : inD x [] = false := Eq.trans rfl rfl
@[simp] theorem inD_cons (x y : D) (l : List D) : inD x (y :: l) = (eqD y x || inD x l) := Eq.trans rfl rfl
def onSq (x : D) (k : List D → Res α) : Res α := match x with
  | .tup l => k l
  | .lst l => k l
  | _ => .stuck
@[simp] theorem onSq_t (l : List D) (k : List D → Res α) : onSq (.tup l) k = k l := Eq.trans rfl rfl
@[simp] theorem onSq_l (l : List D) (k : List D → Res α) : onSq (.lst l) k = k l := Eq.trans rfl rfl
@[simp] theorem x_iSeq : iSeq f s = (f s).bind fun x s1 => onSq x fun l => .ok l s1 := Eq.trans rfl rfl
@[simp] theorem kd_str (ps : List (Nat × D)) (k : Nat) : kdD ps (.str k) = look ps k := Eq.trans rfl rfl
def onS (x : D) (k : Nat → Res α) : Res α := match x with
  | .str n => k n
  | _ => .stuck
@[simp] theorem onS_s (n : Nat) (k : Nat → Res α) : onS (.str n) k = k n := Eq.trans rfl rfl
@[simp] theorem x_eDX (ks : List Nat) : eDX ks fs f s = (fs s).bind fun ds s1 => (f s1).bind fun k s2 => onS k fun n => lift (look (ks.zip ds) n) s2 := by
  rfl
@[simp] theorem look_cons (k n : Nat) (d : D) (ps : List (Nat × D)) : look ((k, d) :: ps) n = if k = n then some d else look ps n := by
  unfold look
  by_cases h : k = n <;> simp [h]
@[simp] theorem x_eSl (lo hi : Os) : eSl f lo hi s = (f s).bind fun x s1 => (lo s1).bind fun l s2 => (hi s2).bind fun h s3 => lift (slD x l h) s3 := Eq.trans rfl rfl
@[simp] theorem x_oNo : oNo s = .ok none s := Eq.trans rfl rfl
@[simp] theorem x_oEx : oEx f s = (f s).bind fun x s1 => onI x fun i => .ok (some i) s1 := Eq.trans rfl rfl
@[simp] theorem x_sltup (l : List D) (a b : Option Int) : slD (.tup l) a b = some (.tup (cutD l a b)) := Eq.trans rfl rfl
@[simp] theorem x_sllst (l : List D) (a b : Option Int) : slD (.lst l) a b = some (.lst (cutD l a b)) := Eq.trans rfl rfl
@[simp] theorem x_eIf2 : tYes s = .ok true s := Eq.trans rfl rfl
@[simp] theorem x_aug (i : Nat) : sAug G i f s = (eOpL G i f s).bind fun d s1 => .ok .nx { s1 with ρ := s1.ρ.set i (.sv d) } := Eq.trans rfl rfl
end
end Z
namespace Z
open PySem PySem.Spec L2 GxR
open PyProof.Rows hiding St
section
variable {s : S} {f : Ex} {fi : Is} {g : Tg} {b : Ss} {t : Ts} {fs : As}
@[simp] theorem x_sFor : sFor fi g b s = (fi s).bind fun ds s1 => forL g b ds s1 := Eq.trans rfl rfl
@[simp] theorem forL_nil : forL g b [] s = .ok .nx s := by rw [forL]
@[simp] theorem forL_cons (d : D) (ds : List D) : forL g b (d :: ds) s = (g d s).bind fun _ s1 => (b s1).bind fun fl s2 => onNx fl s2 (forL g b ds) := by
  rw [forL]
  rfl
@[simp] theorem cut_1 (x : D) (l : List D) : cutD (x :: l) (some 1) none = l := by
  unfold cutD
  have h1 : HT.sIx (x :: l).length 0 (some 1) = 1 := by
    simp [HT.sIx]
  have h2 : HT.sIx (x :: l).length (x :: l).length none = (x :: l).length := by
    simp [HT.sIx]
  rw [h1, h2]
  simp
theorem restL_wipe (l0 : List Slot) : ∀ (vs : List Nat) (l : List Slot), restL l0 vs (wipeL vs l) = restL l0 vs l := by
  have comm : ∀ (vs : List Nat) (i : Nat) (x : Slot) (l : List Slot), i ∈ vs → restL l0 vs (l.set i x) = restL l0 vs l := by
    intro vs
    induction vs with
    | nil => intro i x l h; cases h
    | cons j r ih =>
      intro i x l h
      rw [restL, restL]
      by_cases hr : i ∈ r
      · rw [ih i x l hr]
      · have e : i = j := by
          rcases List.mem_cons.mp h with h | h
          · exact h
          · exact absurd h hr
        subst e
        have c2 : ∀ (r : List Nat) (l : List Slot), restL l0 r (l.set i x) = (restL l0 r l).set i x ∨ i ∈ r := by
          intro r
          induction r with
          | nil => intro l; exact .inl rfl
          | cons k r ih2 =>
            intro l
            by_cases hk : i = k
            · exact .inr (by rw [hk]; exact List.mem_cons_self)
            · rcases ih2 l with h | h
              · refine .inl ?_
                rw [restL, restL, h, List.set_comm _ _ hk]
              · exact .inr (List.mem_cons_of_mem _ h)
        rcases c2 r l with h2 | h2
        · rw [h2, List.set_set]
        · exact absurd h2 hr
  have gen : ∀ (vs ws : List Nat) (l : List Slot), (∀ i ∈ vs, i ∈ ws) → restL l0 ws (wipeL vs l) = restL l0 ws l := by
    intro vs
    induction vs with
    | nil => intro ws l _; rfl
    | cons j r ih =>
      intro ws l h
      rw [wipeL, comm ws j .un _ (h j List.mem_cons_self), ih ws l fun i hi => h i (List.mem_cons_of_mem _ hi)]
  exact fun vs l => gen vs vs l fun i h => h
end
end Z
namespace Z
open PySem PySem.Spec L2 GxR
open PyProof.Rows hiding St
section
variable {α : Type} {s : S} {f : Ex} {fi : Is} {g : Tg} {b : Ss} {t : Ts} {fs : As}
def on1 (l : List D) (k : D → Res α) : Res α := match l with
  | [a] => k a
  | _ => .stuck
@[simp] theorem on1_1 (a : D) (k : D → Res α) : on1 [a] k = k a := Eq.trans rfl rfl
@[simp] theorem x_iRn1 : iRn1 fs s = (fs s).bind fun x s1 => on1 x fun d => onI d fun j => if -(2 ^ 62) ≤ j ∧ j < 2 ^ 62 then .ok (rngL 0 j) s1 else .stuck := by
  unfold iRn1
  congr 1
  funext x s1
  match x with
  | [] => rfl
  | [a] => cases a <;> rfl
  | a :: c :: l => cases a <;> cases c <;> cases l <;> rfl
@[simp] theorem x_iRn2 : iRn2 fs s = (fs s).bind fun x s1 => on2 x fun d e => onI d fun i => onI e fun j => if -(2 ^ 62) ≤ i ∧ i < 2 ^ 62 ∧ -(2 ^ 62) ≤ j ∧ j < 2 ^ 62 then .ok (rngL i j) s1 else .stuck := by
  unfold iRn2
  congr 1
  funext x s1
  match x with
  | [] => rfl
  | [a] => cases a <;> rfl
  | [a, c] => cases a <;> cases c <;> rfl
  | a :: c :: e :: l => cases a <;> cases c <;> rfl
@[simp] theorem rng_len {lo hi : Int} : (rngL lo hi).length = (hi - lo).toNat := by unfold rngL; simp
@[simp] theorem wipeS_mk (vs : List Nat) (ρ : List Slot) (cs : List Cell) : wipeS vs ⟨ρ, cs⟩ = ⟨wipeL vs ρ, cs⟩ := Eq.trans rfl rfl
@[simp] theorem wipeL_nil (l : List Slot) : wipeL [] l = l := Eq.trans rfl rfl
@[simp] theorem wipeL_cons (i : Nat) (r : List Nat) (l : List Slot) : wipeL (i :: r) l = (wipeL r l).set i .un := Eq.trans rfl rfl
@[simp] theorem restL_nil (l0 l : List Slot) : restL l0 [] l = l := Eq.trans rfl rfl
def rsl : Option Slot → Slot
  | some (.sv d) => .sv d
  | _ => .un
@[simp] theorem rsl_sv (d : D) : rsl (some (.sv d)) = .sv d := Eq.trans rfl rfl
@[simp] theorem rsl_un : rsl (some .un) = .un := Eq.trans rfl rfl
@[simp] theorem rsl_none : rsl none = .un := Eq.trans rfl rfl
@[simp] theorem restL_cons (l0 : List Slot) (i : Nat) (r : List Nat) (l : List Slot) : restL l0 (i :: r) l = (restL l0 r l).set i (rsl l0[i]?) := by
  rw [restL]
  congr 1
/-- .. whose turns write cells -/
theorem comp_st {vs : List Nat} {ρ : List Slot} (J : List Cell → Prop) (P : D → D → Prop) : ∀ {ds : List D} {s : S}, wipeL vs s.ρ = wipeL vs ρ → J s.cs →
    (∀ d ∈ ds, ∀ cs, J cs → ∃ s1, g d ⟨wipeL vs ρ, cs⟩ = .ok () s1 ∧ ∃ b s2, t s1 = .ok b s2 ∧ (b = false → wipeL vs s2.ρ = wipeL vs ρ ∧ J s2.cs) ∧ (b = true → ∃ y s3, f s2 = .ok y s3 ∧ wipeL vs s3.ρ = wipeL vs ρ ∧ J s3.cs ∧ P d y)) →
    ∃ ys s2, compL vs g t f ds s = .ok ys s2 ∧ wipeL vs s2.ρ = wipeL vs ρ ∧ J s2.cs ∧ (∀ y ∈ ys, ∃ d ∈ ds, P d y) ∧ ys.length ≤ ds.length
  | [], s, hw, hj, _ => ⟨[], s, by rw [compL], hw, hj, (fun y hy => nomatch hy), Nat.le_refl _⟩
  | d :: ds, s, hw, hj, h => by
    obtain ⟨s1, h1, c, s2, h2, h3, h4⟩ := h d List.mem_cons_self s.cs hj
    have ih := fun (s : S) hw hj => comp_st J P (ds := ds) (s := s) hw hj fun e he => h e (List.mem_cons_of_mem _ he)
    have e : wipeS vs s = ⟨wipeL vs ρ, s.cs⟩ := by unfold wipeS; rw [hw]
    rw [compL, e, h1, bind_ok, h2, bind_ok]
    cases c with
    | false =>
      obtain ⟨k1, k2⟩ := h3 rfl
      obtain ⟨ys, s4, a1, a2, a3, a4, a5⟩ := ih s2 k1 k2
      refine ⟨ys, s4, by rw [if_neg (by decide), a1], a2, a3, fun y hy => ?_, by simp only [List.length_cons]; omega⟩
      obtain ⟨d', m, p⟩ := a4 y hy
      exact ⟨d', List.mem_cons_of_mem _ m, p⟩
    | true =>
      obtain ⟨y, s3, b1, b2, b3, b4⟩ := h4 rfl
      obtain ⟨ys, s4, a1, a2, a3, a4, a5⟩ := ih s3 b2 b3
      refine ⟨y :: ys, s4, by rw [if_pos rfl, b1, bind_ok, a1, bind_ok], a2, a3, fun z hz => ?_, by simp only [List.length_cons]; omega⟩
      rcases List.mem_cons.mp hz with rfl | hz
      · exact ⟨d, List.mem_cons_self, b4⟩
      · obtain ⟨d', m, p⟩ := a4 z hz
        exact ⟨d', List.mem_cons_of_mem _ m, p⟩
theorem comp_len {vs : List Nat} : ∀ {ds : List D} {s s2 : S} {ys : List D}, compL vs g tYes f ds s = .ok ys s2 → ys.length = ds.length
  | [], s, s2, ys, h => by rw [compL] at h; cases h; rfl
  | d :: ds, s, s2, ys, h => by
    rw [compL] at h
    cases h1 : g d (wipeS vs s) with
    | stuck => rw [h1] at h; cases h
    | exc c x s1 => rw [h1] at h; cases h
    | ok u s1 =>
      rw [h1, bind_ok] at h
      have h : ((Res.ok true s1).bind fun b s2 => if b = true then ((f s2).bind fun y s3 => (compL vs g tYes f ds s3).bind fun ys s4 => .ok (y :: ys) s4) else compL vs g tYes f ds s2) = .ok ys s2 := h
      rw [bind_ok, if_pos rfl] at h
      cases h2 : f s1 with
      | stuck => rw [h2] at h; cases h
      | exc c x s1 => rw [h2] at h; cases h
      | ok y s3 =>
        rw [h2, bind_ok] at h
        cases h3 : compL vs g tYes f ds s3 with
        | stuck => rw [h3] at h; cases h
        | exc c x s1 => rw [h3] at h; cases h
        | ok zs s4 =>
          rw [h3, bind_ok] at h
          cases h
          rw [List.length_cons, List.length_cons, comp_len h3]
theorem lc_st {vs : List Nat} {ds : List D} {s0 s : S} (J : List Cell → Prop) (P : D → D → Prop) (hi : fi s = .ok ds s0) (hl : ds.length ≤ 100000) (hJ : J s0.cs)
    (h : ∀ d ∈ ds, ∀ cs, J cs → ∃ s1, g d ⟨wipeL vs s0.ρ, cs⟩ = .ok () s1 ∧ ∃ b s2, t s1 = .ok b s2 ∧ (b = false → wipeL vs s2.ρ = wipeL vs s0.ρ ∧ J s2.cs) ∧ (b = true → ∃ y s3, f s2 = .ok y s3 ∧ wipeL vs s3.ρ = wipeL vs s0.ρ ∧ J s3.cs ∧ P d y)) (hr : restL s0.ρ vs s0.ρ = s0.ρ) :
    ∃ ys cs, aLc vs fi g t f s = .ok ys ⟨s0.ρ, cs⟩ ∧ J cs ∧ (∀ y ∈ ys, ∃ d ∈ ds, P d y) ∧ ys.length ≤ ds.length ∧ ((∀ s, t s = tYes s) → ys.length = ds.length) := by
  obtain ⟨ys, s2, k1, k2, k3, k4, k5⟩ := comp_st (s := s0) J P rfl hJ h
  refine ⟨ys, s2.cs, ?_, k3, k4, k5, fun ht => ?_⟩
  · unfold aLc
    rw [hi, bind_ok, if_pos hl, k1, nox_ok, bind_ok]
    have e3 : restS vs s0 s2 = ⟨s0.ρ, s2.cs⟩ := by
      unfold restS
      rw [← restL_wipe, k2, restL_wipe, hr]
    rw [e3]
  · have : t = tYes := funext ht
    subst this
    exact comp_len k1
theorem all_map {β : Type} {F : β → D} {Q : β → Prop} : ∀ {ys : List D}, (∀ y ∈ ys, ∃ r, Q r ∧ y = F r) → ∃ rs : List β, ys = rs.map F ∧ ∀ r ∈ rs, Q r
  | [], _ => ⟨[], rfl, fun _ h => nomatch h⟩
  | y :: ys, h => by
    obtain ⟨r, h1, h2⟩ := h y List.mem_cons_self
    obtain ⟨rs, h3, h4⟩ := all_map fun z hz => h z (List.mem_cons_of_mem _ hz)
    refine ⟨r :: rs, by rw [h2, h3, List.map_cons], fun x hx => ?_⟩
    rcases List.mem_cons.mp hx with rfl | hx
    · exact h1
    · exact h4 x hx
theorem bools_all {β : Type} (l : List β) (p : β → Bool) : boolsD (l.map fun x => D.bl (p x)) = some (l.map p) := by
  have := bools_map (l.map p)
  rw [List.map_map] at this
  exact this
@[simp] theorem x_all (l : List D) : allD (.lst l) = (boolsD l).map fun bs => .bl (bs.all id) := Eq.trans rfl rfl
@[simp] theorem x_any (l : List D) : anyD (.lst l) = (boolsD l).map fun bs => .bl (bs.any id) := Eq.trans rfl rfl
end
end Z
/-! ## cuts -/
namespace Z
open PySem PySem.Spec L2 GxR
open PyProof.Rows hiding St
theorem cut_from {l : List D} {i : Int} (h : 0 ≤ i) : cutD l (some i) none = l.drop i.toNat := by
  unfold cutD
  have e1 : HT.sIx l.length 0 (some i) = min i.toNat l.length := by
    show (if i < 0 then _ else _) = _
    rw [if_neg (by omega)]
  rw [e1, HT.sIx_none]
  by_cases hl : i.toNat ≤ l.length
  · rw [Nat.min_eq_left hl]
    exact List.take_of_length_le (by rw [List.length_drop]; exact Nat.le_refl _)
  · rw [Nat.min_eq_right (by omega), List.drop_eq_nil_of_le (Nat.le_refl _), List.take_nil, List.drop_eq_nil_of_le (by omega)]
theorem cut_to {l : List D} {i : Int} (h : 0 ≤ i) : cutD l none (some i) = l.take i.toNat := by
  unfold cutD
  have e1 : HT.sIx l.length l.length (some i) = min i.toNat l.length := by
    show (if i < 0 then _ else _) = _
    rw [if_neg (by omega)]
  rw [e1, HT.sIx_none, List.drop_zero, Nat.sub_zero, ← List.take_eq_take_min]
@[simp] theorem cut_last (l : List D) : cutD l none (some (-1)) = l.dropLast := by
  unfold cutD
  have e1 : HT.sIx l.length l.length (some (-1)) = l.length - 1 := by
    show (if (-1 : Int) < 0 then ((-1 : Int) + (l.length : Int)).toNat else min ((-1 : Int)).toNat l.length) = _
    rw [if_pos (by decide)]
    omega
  rw [e1, HT.sIx_none, List.drop_zero, Nat.sub_zero, List.dropLast_eq_take]
@[simp] theorem cut_2 (x y : D) (l : List D) : cutD (x :: y :: l) (some 2) none = l := by
  rw [cut_from (by decide)]
  rfl
end Z
/-! ## errors let out and caught; all, any, sum of a generator expression -/
namespace Z
open PySem PySem.Spec L2 GxR
open PyProof.Rows hiding St
section
variable {s s0 s1 : S} {f : Ex} {b : Ss} {fi : Is} {g : Tg}
def finX (r : Res Fl) : Res D := match r with
  | .ok (.rt d) s => .ok d ⟨[], s.cs⟩
  | .ok .nx s => .ok .non ⟨[], s.cs⟩
  | .exc c d s => .exc c d ⟨[], s.cs⟩
  | .stuck => .stuck
@[simp] theorem finX_rt (d : D) (s : S) : finX (.ok (.rt d) s) = .ok d ⟨[], s.cs⟩ := Eq.trans rfl rfl
@[simp] theorem finX_nx (s : S) : finX (.ok .nx s) = .ok .non ⟨[], s.cs⟩ := Eq.trans rfl rfl
@[simp] theorem finX_exc (c : Nat) (d : D) (s : S) : finX (.exc c d s) = .exc c d ⟨[], s.cs⟩ := Eq.trans rfl rfl
@[simp] theorem fnS_eq (n : Nat) (b : Ss) (ds : List D) (cs : List Cell) : fnS n b ds cs = finX (b ⟨ds.map .sv ++ List.replicate (n - ds.length) .un, cs⟩) := Eq.trans rfl rfl
def raiseD (c : Nat) (d : D) (s : S) : Res Fl := match d with
  | .str n => .exc c (.str n) s
  | _ => .stuck
@[simp] theorem raiseD_str (c n : Nat) (s : S) : raiseD c (.str n) s = .exc c (.str n) s := Eq.trans rfl rfl
@[simp] theorem sRaise_eq (c : Nat) : sRaise c f s = (f s).bind fun d s1 => raiseD c d s1 := by
  unfold sRaise
  congr 1
def tryR (c : Nat) (g : D → D) (i : Nat) (r : Res Fl) : Res Fl := match r with
  | .exc c' d s1 => if c' = c ∧ i < s1.ρ.length then .ok (.rt (g d)) s1 else .stuck
  | r => r
@[simp] theorem tryR_ok (c : Nat) (g : D → D) (i : Nat) (fl : Fl) (s : S) : tryR c g i (.ok fl s) = .ok fl s := Eq.trans rfl rfl
@[simp] theorem tryR_exc (c : Nat) (g : D → D) (i : Nat) (d : D) (s : S) : tryR c g i (.exc c d s) = if i < s.ρ.length then .ok (.rt (g d)) s else .stuck := by
  unfold tryR
  simp
@[simp] theorem sTry1_eq (c : Nat) (g : D → D) (i : Nat) : sTry1 c g i b s = tryR c g i (b s) := by
  unfold sTry1 tryR
  cases b s <;> rfl
@[simp] theorem x_multup (a : List D) (j : Int) : mulD (.tup a) (.int j) = if a ≠ [] ∧ 2 ≤ j ∧ j ≤ 1000 ∧ a.length ≤ 1000 then some (.tup (List.replicate j.toNat a).flatten) else none := Eq.trans rfl rfl
@[simp] theorem eDI_eq {fa fb : Ex} : eDI fa fb s = (fa s).bind fun x s1 => (fb s1).bind fun y s2 => match x, y with | .dic l, .int i => lift (dicAt l i) s2 | _, _ => .stuck := Eq.trans rfl rfl
theorem gen_step {brk : Bool} {vs : List Nat} {tb : D → Bool} : ∀ {ds : List D} {s : S}, wipeS vs s = wipeS vs s0 → (∀ d ∈ ds, ∃ s1, g d (wipeS vs s0) = .ok () s1 ∧ f s1 = .ok (.bl (tb d)) s1 ∧ wipeS vs s1 = wipeS vs s0) →
    ∃ s2, genL brk vs g f ds s = .ok (if brk then ds.any tb else ds.all tb) s2 ∧ wipeS vs s2 = wipeS vs s0
  | [], s, hs, _ => ⟨s, by cases brk <;> rfl, hs⟩
  | d :: ds, s, hs, h => by
    obtain ⟨s1, h1, h2, h3⟩ := h d List.mem_cons_self
    rw [genL, hs, h1, bind_ok, h2, bind_ok]
    dsimp only
    by_cases hb : tb d = brk
    · rw [if_pos hb]
      refine ⟨s1, ?_, h3⟩
      cases brk
      · simp [hb]
      · simp [hb]
    · rw [if_neg hb]
      obtain ⟨s2, k1, k2⟩ := gen_step (brk := brk) (ds := ds) (s := s1) h3 fun e he => h e (List.mem_cons_of_mem _ he)
      refine ⟨s2, ?_, k2⟩
      rw [k1]
      cases brk
      · have : tb d = true := by cases e : tb d <;> simp_all
        simp [this]
      · have : tb d = false := by cases e : tb d <;> simp_all
        simp [this]
theorem gen_ok {brk : Bool} {vs : List Nat} {tb : D → Bool} {ds : List D} {s : S} (hi : fi s = .ok ds s0) (h : ∀ d ∈ ds, ∃ s1, g d (wipeS vs s0) = .ok () s1 ∧ f s1 = .ok (.bl (tb d)) s1 ∧ wipeS vs s1 = wipeS vs s0) (hr : restL s0.ρ vs s0.ρ = s0.ρ) :
    eGen brk vs fi g f s = .ok (.bl (if brk then ds.any tb else ds.all tb)) s0 := by
  unfold eGen
  rw [hi, bind_ok]
  obtain ⟨s2, k1, k2⟩ := gen_step (brk := brk) (s := s0) rfl h
  rw [k1, nox_ok, bind_ok]
  have e1 : (wipeS vs s2).cs = (wipeS vs s0).cs := by rw [k2]
  have e1 : s2.cs = s0.cs := e1
  have e2 : (wipeS vs s2).ρ = (wipeS vs s0).ρ := by rw [k2]
  have e2 : wipeL vs s2.ρ = wipeL vs s0.ρ := e2
  have e3 : restS vs s0 s2 = s0 := by
    unfold restS
    rw [e1, ← restL_wipe, e2, restL_wipe, hr]
  rw [e3]
end
end Z
/-! ## a comprehension that picks of what it walks; a loop that looks for something -/
namespace Z
open PySem PySem.Spec L2 GxR
open PyProof.Rows hiding St
section
variable {s s0 : S} {f : Ex} {fi : Is} {g : Tg} {t : Ts}
@[simp] theorem eIdx_eq {fo fe : Ex} : eIdx fo fe s = (fo s).bind fun x s1 => match x with | .lst l => (fe s1).bind fun y s2 => lift (idxD (.lst l) y) s2 | _ => .stuck := Eq.trans rfl rfl
@[simp] theorem iEnum_eq : iEnumerate f s = (f s).bind fun x s1 => match x with | .tup l => .ok (enD 0 l) s1 | .lst l => .ok (enD 0 l) s1 | _ => .stuck := Eq.trans rfl rfl
end
end Z
/-! ## what is walked is made of something -/
namespace Z
open PySem PySem.Spec L2 GxR
open PyProof.Rows hiding St
end Z
/-! ## list(range(n)), computed -/
namespace Z
open PySem PySem.Spec L2 GxR
open PyProof.Rows hiding St
variable {f : Ex}
@[simp] theorem x_aLr {s : S} : aLr f s = (f s).bind fun x s1 => onI x fun j => if -(2 ^ 62) ≤ j ∧ j ≤ 100000 then .ok (rngL 0 j) s1 else .stuck := by
  unfold aLr
  congr 1
end Z
/-! ## comprehensions over lists of one kind, by rewriting -/
namespace Z
open PySem PySem.Spec L2 GxR
open PyProof.Rows hiding St
section
variable {α β : Type} {s : S} {f : Ex} {fi : Is} {t : Ts} {i : Nat} {inj : α → D}
theorem set_un (s : S) (i : Nat) (d : D) : gN i d (wipeS [i] s) = .ok () ⟨s.ρ.set i (.sv d), s.cs⟩ := by
  show Res.ok () (⟨(s.ρ.set i .un).set i (.sv d), s.cs⟩ : S) = _
  rw [List.set_set]
theorem wipe_set1 (s : S) (i : Nat) (d : D) : wipeS [i] ⟨s.ρ.set i (.sv d), s.cs⟩ = wipeS [i] s := by
  show (⟨(s.ρ.set i (.sv d)).set i .un, s.cs⟩ : S) = ⟨s.ρ.set i .un, s.cs⟩
  rw [List.set_set]
/-- a comprehension with a test -/
theorem lcT (xs : List α) (tb : α → Bool) (fy : α → D) (hi : fi s = .ok (xs.map inj) s) (hl : xs.length ≤ 100000) (hr : restL s.ρ [i] s.ρ = s.ρ)
    (h : ∀ x ∈ xs, t ⟨s.ρ.set i (.sv (inj x)), s.cs⟩ = .ok (tb x) ⟨s.ρ.set i (.sv (inj x)), s.cs⟩ ∧ (tb x = true → f ⟨s.ρ.set i (.sv (inj x)), s.cs⟩ = .ok (fy x) ⟨s.ρ.set i (.sv (inj x)), s.cs⟩)) :
    aLc [i] fi (gN i) t f s = .ok ((xs.filter tb).map fy) s := by
  unfold aLc
  rw [hi, bind_ok, List.length_map, if_pos hl]
  have key : ∀ (ys : List α) (s' : S), (∀ x ∈ ys, x ∈ xs) → wipeS [i] s' = wipeS [i] s → ∃ s2, compL [i] (gN i) t f (ys.map inj) s' = .ok ((ys.filter tb).map fy) s2 ∧ wipeS [i] s2 = wipeS [i] s := by
    intro ys
    induction ys with
    | nil => intro s' _ hw; exact ⟨s', by rw [List.map_nil, compL]; rfl, hw⟩
    | cons y ys ih =>
      intro s' hm hw
      obtain ⟨h1, h2⟩ := h y (hm y List.mem_cons_self)
      obtain ⟨s2, k1, k2⟩ := ih ⟨s.ρ.set i (.sv (inj y)), s.cs⟩ (fun x hx => hm x (List.mem_cons_of_mem _ hx)) (wipe_set1 s i _)
      refine ⟨s2, ?_, k2⟩
      rw [List.map_cons, compL, hw, set_un, bind_ok, h1, bind_ok]
      cases ht : tb y with
      | false => rw [if_neg (by decide), k1, List.filter_cons_of_neg (by rw [ht]; decide)]
      | true => rw [if_pos rfl, h2 ht, bind_ok, k1, bind_ok, List.filter_cons_of_pos ht, List.map_cons]
  obtain ⟨s2, k1, k2⟩ := key xs s (fun _ h => h) rfl
  rw [k1, nox_ok, bind_ok]
  have e1 : (wipeS [i] s2).cs = (wipeS [i] s).cs := by rw [k2]
  have e1 : s2.cs = s.cs := e1
  have e2 : (wipeS [i] s2).ρ = (wipeS [i] s).ρ := by rw [k2]
  have e2 : wipeL [i] s2.ρ = wipeL [i] s.ρ := e2
  have e3 : restS [i] s s2 = s := by
    unfold restS
    rw [e1, ← restL_wipe, e2, restL_wipe, hr]
  rw [e3]
theorem lcM (xs : List α) (fy : α → D) (hi : fi s = .ok (xs.map inj) s) (hl : xs.length ≤ 100000) (hr : restL s.ρ [i] s.ρ = s.ρ)
    (h : ∀ x ∈ xs, f ⟨s.ρ.set i (.sv (inj x)), s.cs⟩ = .ok (fy x) ⟨s.ρ.set i (.sv (inj x)), s.cs⟩) :
    aLc [i] fi (gN i) tYes f s = .ok (xs.map fy) s := by
  have e := lcT (t := tYes) xs (fun _ => true) fy hi hl hr fun x hx => ⟨rfl, fun _ => h x hx⟩
  rwa [List.filter_eq_self.mpr fun _ _ => rfl] at e
/-- all, any -/
theorem genT (brk : Bool) (xs : List α) (tb : α → Bool) (hi : fi s = .ok (xs.map inj) s) (hr : restL s.ρ [i] s.ρ = s.ρ)
    (h : ∀ x ∈ xs, f ⟨s.ρ.set i (.sv (inj x)), s.cs⟩ = .ok (.bl (tb x)) ⟨s.ρ.set i (.sv (inj x)), s.cs⟩) :
    eGen brk [i] fi (gN i) f s = .ok (.bl (if brk = true then xs.any tb else xs.all tb)) s := by
  unfold eGen
  rw [hi, bind_ok]
  have key : ∀ (ys : List α) (s' : S), (∀ x ∈ ys, x ∈ xs) → wipeS [i] s' = wipeS [i] s → ∃ s2, genL brk [i] (gN i) f (ys.map inj) s' = .ok (if brk = true then ys.any tb else ys.all tb) s2 ∧ wipeS [i] s2 = wipeS [i] s := by
    intro ys
    induction ys with
    | nil => intro s' _ hw; exact ⟨s', by rw [List.map_nil, genL]; cases brk <;> rfl, hw⟩
    | cons y ys ih =>
      intro s' hm hw
      have h1 := h y (hm y List.mem_cons_self)
      obtain ⟨s2, k1, k2⟩ := ih ⟨s.ρ.set i (.sv (inj y)), s.cs⟩ (fun x hx => hm x (List.mem_cons_of_mem _ hx)) (wipe_set1 s i _)
      rw [List.map_cons, genL, hw, set_un, bind_ok, h1, bind_ok]
      cases brk <;> cases ht : tb y
      · exact ⟨⟨s.ρ.set i (.sv (inj y)), s.cs⟩, by simp [ht], wipe_set1 s i _⟩
      · exact ⟨s2, by simpa [ht] using k1, k2⟩
      · exact ⟨s2, by simpa [ht] using k1, k2⟩
      · exact ⟨⟨s.ρ.set i (.sv (inj y)), s.cs⟩, by simp [ht], wipe_set1 s i _⟩
  obtain ⟨s2, k1, k2⟩ := key xs s (fun _ h => h) rfl
  rw [k1, nox_ok, bind_ok]
  have e1 : (wipeS [i] s2).cs = (wipeS [i] s).cs := by rw [k2]
  have e1 : s2.cs = s.cs := e1
  have e2 : (wipeS [i] s2).ρ = (wipeS [i] s).ρ := by rw [k2]
  have e2 : wipeL [i] s2.ρ = wipeL [i] s.ρ := e2
  have e3 : restS [i] s s2 = s := by
    unfold restS
    rw [e1, ← restL_wipe, e2, restL_wipe, hr]
  rw [e3]
/-- the zts below n -/
def zts (n : Nat) : List Int := (List.range n).map fun (k : Nat) => (k : Int)
theorem rngL_zts (n : Nat) : rngL 0 (n : Int) = (zts n).map D.int := by
  unfold rngL zts
  rw [List.map_map]
  simp [Function.comp_def]
theorem mem_zts {n : Nat} {x : Int} : x ∈ zts n ↔ 0 ≤ x ∧ x < n := by
  unfold zts
  rw [List.mem_map]
  constructor
  · rintro ⟨k, hk, rfl⟩
    rw [List.mem_range] at hk
    omega
  · rintro ⟨h1, h2⟩
    exact ⟨x.toNat, List.mem_range.mpr (by omega), by omega⟩
@[simp] theorem zts_length (n : Nat) : (zts n).length = n := by simp [zts]
end
end Z
/-! ## .. with targets of any kind -/
namespace Z
open PySem PySem.Spec L2 GxR
open PyProof.Rows hiding St
@[simp] theorem nox_stuck {α : Type} : (Res.stuck : Res α).nox = .stuck := Eq.trans rfl rfl
@[simp] theorem x_eCall0 (F : Fn) (s : S) : eCall0 F s = onF s (F [] s.cs).nox := by
  unfold eCall0
  cases F [] s.cs <;> rfl
section
variable {α β : Type} {s : S} {f : Ex} {fi : Is} {t : Ts} {g : Tg} {vs : List Nat} {inj : α → D}
def zipK (ds : List D) (s : S) : Res (List D) := match ds with
  | [.tup l, .tup m] => .ok (zpD l m) s
  | _ => .stuck
@[simp] theorem zipK_2 (l m : List D) (s : S) : zipK [.tup l, .tup m] s = .ok (zpD l m) s := Eq.trans rfl rfl
@[simp] theorem x_iZipT {fs : As} : iZipT fs s = (fs s).bind fun ds s1 => zipK ds s1 := by
  unfold iZipT
  congr 1
def catK (x : Option D) (y : D) (s : S) : Res (List D) := match x, y with
  | some (.lst a), .lst b => if a.length + b.length ≤ 100000 then .ok (a ++ b) s else .stuck
  | _, _ => .stuck
@[simp] theorem catK_ll (a b : List D) (s : S) : catK (some (.lst a)) (.lst b) s = if a.length + b.length ≤ 100000 then .ok (a ++ b) s else .stuck := Eq.trans rfl rfl
@[simp] theorem x_aCatL {i : Nat} {fb : Ex} : aCatL i fb s = onD (slotD i s) fun _ => (fb s).bind fun y s2 => catK (slotD i s2) y s2 := by
  unfold aCatL
  cases slotD i s with
  | none => rfl
  | some x =>
    simp only [onD_some]
    congr 1
end
end Z
/-! ## computing: new lists of defs, dicts of words, lent lists -/
namespace Z
open PySem PySem.Spec L2 GxR
open PyProof.Rows hiding St
section
variable {F : Fn} {fs : As} {fa fb : Ex} {f g : Ss} {s : S} {i : Nat}
@[simp] theorem x_aCallL : aCallL F fs s = (fs s).bind fun ds s1 => match F ds s1.cs with | .ok (.lst l) s2 => .ok l ⟨s1.ρ, s2.cs⟩ | .exc c d s2 => .exc c d ⟨s1.ρ, s2.cs⟩ | _ => .stuck := Eq.trans rfl rfl
@[simp] theorem x_sRetL : sRetL fs s = (fs s).bind fun l s1 => .ok (.rt (.lst l)) s1 := Eq.trans rfl rfl
@[simp] theorem x_sConsN : sConsN f g s = (f s).bind fun fl s1 => match fl with | .nx => g s1 | .rt _ => .stuck := Eq.trans rfl rfl
@[simp] theorem x_eDW : eDW fa fb s = (fa s).bind fun x s1 => (fb s1).bind fun y s2 => match x, y with | .dic l, .str n => lift (dicW l n) s2 | _, _ => .stuck := Eq.trans rfl rfl
@[simp] theorem x_eInW : eInW fa fb s = (fa s).bind fun y s1 => (fb s1).bind fun x s2 => match y, x with | .str n, .dic l => .ok (.bl (l.any fun q => q.1 == -(n : Int) - 1)) s2 | _, _ => .stuck := Eq.trans rfl rfl
@[simp] theorem x_eCallP : eCallP F i fb s = (match s.ρ[i]? with
  | some (.own _) => (fb s).bind fun e s1 => (match s1.ρ[i]? with
    | some (.own l) => if okD 60 e && okDs 60 l then (match F [.lst l, e] [] with
      | .ok (.bl b) _ => .ok (.bl b) s1
      | _ => .stuck) else .stuck
    | _ => .stuck)
  | _ => .stuck) := Eq.trans rfl rfl
end
end Z
/-! ## computing: dicts as cells -/
namespace Z
open PySem PySem.Spec L2 GxR
open PyProof.Rows hiding St
section
variable {fo fk fe : Ex} {s : S}
@[simp] theorem x_eNewD : eNewD s = .ok (.cell s.cs.length) { s with cs := s.cs ++ [.dic []] } := Eq.trans rfl rfl
@[simp] theorem x_eIxD : eIxD fo fk s = (fo s).bind fun x s1 => (fk s1).bind fun y s2 => match x, y with
  | .cell n, .int k => (match s2.cs[n]? with
    | some (.dic l) => (match dlook l k with
      | some v => .ok (.int v) s2
      | none => .stuck)
    | _ => .stuck)
  | _, _ => .stuck := Eq.trans rfl rfl
@[simp] theorem x_sSetD : sSetD fo fk fe s = (fe s).bind fun d s1 => (fo s1).bind fun x s2 => (fk s2).bind fun y s3 => match x, y, d with
  | .cell n, .int k, .int v => (match s3.cs[n]? with
    | some (.dic l) => if l.length < 100000 then .ok .nx { s3 with cs := s3.cs.set n (.dic ((k, v) :: l)) } else .stuck
    | _ => .stuck)
  | _, _, _ => .stuck := Eq.trans rfl rfl
end
end Z
/-! ## list * int as a new list -/
namespace Z
open PySem PySem.Spec L2 GxR
open PyProof.Rows hiding St
end Z
/-! ## the cells that a call made are dropped at its return, where its answer does not speak of them -/
namespace Z
open PySem PySem.Spec L2 GxR
open PyProof.Rows hiding St
def cLtC (n : Nat) : Cell → Prop
  | .lst l => cLts n l = true
  | .dic _ => True
  | .ins _ l => ∀ f d, f < 19 → lookF l f = some d → cLt n d = true
  | .dct l => ∀ q ∈ l, cLt n q.1 = true ∧ cLt n q.2 = true
  | .memo _ => True
section
variable {N : En} {K : PySem.W.Frag} {w : World} {M M' : MM} {H H' : Hp} {n : Nat} {cs : List Cell}
theorem R.lt_ra (h : ∀ a k, M a = some (.cell k) → k < n) : (∀ v d, R K M H v d → cLt n d = true) ∧ ∀ vs ds, RA K M H vs ds → cLts n ds = true := by
  refine ⟨fun v d q => ?_, fun vs ds q => ?_⟩
  · exact R.rec (motive_1 := fun v d _ => cLt n d = true) (motive_2 := fun vs ds _ => cLts n ds = true) rfl (fun _ => rfl) (fun _ => rfl) (fun _ => rfl) (fun _ _ ih => ih)
      (fun _ _ _ ih => ih) (fun m => decide_eq_true (h _ _ m)) (fun _ => rfl) (fun _ _ => rfl) (fun _ => rfl) (fun _ _ _ => rfl) (fun _ _ ih => ih) rfl (fun _ _ a b => by rw [cLts, a, b]; rfl) q
  · exact RA.rec (motive_1 := fun v d _ => cLt n d = true) (motive_2 := fun vs ds _ => cLts n ds = true) rfl (fun _ => rfl) (fun _ => rfl) (fun _ => rfl) (fun _ _ ih => ih)
      (fun _ _ _ ih => ih) (fun m => decide_eq_true (h _ _ m)) (fun _ => rfl) (fun _ _ => rfl) (fun _ => rfl) (fun _ _ _ => rfl) (fun _ _ ih => ih) rfl (fun _ _ a b => by rw [cLts, a, b]; rfl) q
theorem keep_ra (h : ∀ a, M a = none → M' a = none) (hc : ∀ a k, k < n → M a = some (.cell k) → M' a = some (.cell k)) : (∀ v d, R K M H v d → cLt n d = true → R K M' H v d) ∧ ∀ vs ds, RA K M H vs ds → cLts n ds = true → RA K M' H vs ds := by
  have st : ∀ {a xs}, StT K M H a xs → StT K M' H a xs := fun q => FtT.free h q
  have sl : ∀ {a xs}, StL K M H a xs → StL K M' H a xs := fun q => by
    rcases q with ⟨m, q⟩ | q
    · exact .inl ⟨h _ m, q⟩
    · exact .inr q
  have sf : ∀ {a xs}, FtT K M H a xs → FtT K M' H a xs := fun q => by
    rcases q with ⟨m, q⟩ | q
    · exact .inl ⟨h _ m, q⟩
    · exact .inr q
  have rc : ∀ {d : D} {l : List D}, cLts n (d :: l) = true → cLt n d = true ∧ cLts n l = true := fun q => by
    rw [cLts, Bool.and_eq_true] at q
    exact q
  refine ⟨fun v d q => ?_, fun vs ds q => ?_⟩
  · exact R.rec (motive_1 := fun v d _ => cLt n d = true → R K M' H v d) (motive_2 := fun vs ds _ => cLts n ds = true → RA K M' H vs ds) (fun _ => .non) (fun b _ => .bl b) (fun i _ => .int i) (fun q _ => .str q) (fun s _ ih o => .tup (st s) (ih o))
      (fun m e _ ih o => .lst (h _ m) e (ih o)) (fun m o => .cell (hc _ _ (of_decide_eq_true o) m)) (fun s _ => .scr (sl s)) (fun m e _ => .rng (h _ m) e) (fun a _ => .fn a) (fun m e q _ => .dic (h _ m) e q) (fun s _ ih o => .ft (sf s) (ih o)) (fun _ => .nil) (fun _ _ a b o => .cons (a (rc o).1) (b (rc o).2)) q
  · exact RA.rec (motive_1 := fun v d _ => cLt n d = true → R K M' H v d) (motive_2 := fun vs ds _ => cLts n ds = true → RA K M' H vs ds) (fun _ => .non) (fun b _ => .bl b) (fun i _ => .int i) (fun q _ => .str q) (fun s _ ih o => .tup (st s) (ih o))
      (fun m e _ ih o => .lst (h _ m) e (ih o)) (fun m o => .cell (hc _ _ (of_decide_eq_true o) m)) (fun s _ => .scr (sl s)) (fun m e _ => .rng (h _ m) e) (fun a _ => .fn a) (fun m e q _ => .dic (h _ m) e q) (fun s _ ih o => .ft (sf s) (ih o)) (fun _ => .nil) (fun _ _ a b o => .cons (a (rc o).1) (b (rc o).2)) q
theorem RC.ltC (h : ∀ a k, M a = some (.cell k) → k < n) {a : Addr} {c : Cell} (q : RC K w M H a c) : cLtC n c := by
  cases c with
  | lst l =>
    obtain ⟨xs, _, k⟩ := q
    exact (R.lt_ra h).2 _ _ k
  | dic l => exact True.intro
  | ins c l =>
    obtain ⟨C, dx, fs, _, _, _, _, k⟩ := q
    exact fun f d hf hd => let ⟨v, _, k2⟩ := k f d hf hd; (R.lt_ra h).1 _ _ k2
  | dct l =>
    obtain ⟨o, es, ep, xs, _, _, _, _, _, _, k⟩ := q
    have : ∀ {xs : List (NestedKey × Addr × Value)} {l : List (D × D)}, Paired (EntR K M H) xs l → ∀ q ∈ l, cLt n q.1 = true ∧ cLt n q.2 = true := by
      intro xs l p
      induction p with
      | nil => exact fun q hq => nomatch hq
      | cons r _ ih =>
        intro q hq
        rcases List.mem_cons.mp hq with rfl | hq
        · obtain ⟨_, _, k3, v, _, k5⟩ := r
          exact ⟨(R.lt_ra h).1 _ _ k3, (R.lt_ra h).1 _ _ k5⟩
        · exact ih q hq
    exact this k
  | memo T => exact True.intro
theorem cLt_up {n m : Nat} (hnm : n ≤ m) : (∀ d : D, cLt n d = true → cLt m d = true) ∧ ∀ l : List D, cLts n l = true → cLts m l = true := by
  have key : ∀ k : Nat, (∀ d : D, sizeOf d ≤ k → cLt n d = true → cLt m d = true) ∧ ∀ l : List D, sizeOf l ≤ k → cLts n l = true → cLts m l = true := by
    intro k
    induction k with
    | zero => exact ⟨fun d h => by cases d <;> simp at h, fun l h => by cases l <;> simp at h⟩
    | succ k ih =>
      refine ⟨fun d h hd => ?_, fun l h hl => ?_⟩
      · cases d with
        | cell j => exact decide_eq_true (Nat.lt_of_lt_of_le (of_decide_eq_true hd) hnm)
        | tup l => exact ih.2 l (by simp at h; omega) hd
        | lst l => exact ih.2 l (by simp at h; omega) hd
        | ft l => exact ih.2 l (by simp at h; omega) hd
        | _ => rfl
      · cases l with
        | nil => rfl
        | cons d l =>
          rw [cLts, Bool.and_eq_true] at hl ⊢
          simp at h
          exact ⟨ih.1 d (by omega) hl.1, ih.2 l (by omega) hl.2⟩
  exact ⟨fun d => (key _).1 d (Nat.le_refl _), fun l => (key _).2 l (Nat.le_refl _)⟩
theorem cLt_zero {n : Nat} (d : D) (h : cLt 0 d = true) : cLt n d = true := (cLt_up (Nat.zero_le n)).1 d h
theorem DctR.keepC (h : ∀ a, M a = none → M' a = none) (hc : ∀ a k, k < n → M a = some (.cell k) → M' a = some (.cell k)) {a : Addr} {l : List (D × D)} (o : ∀ q ∈ l, cLt n q.1 = true ∧ cLt n q.2 = true) (q : DctR K w M H a l) : DctR K w M' H a l := by
  obtain ⟨ob, es, ep, xs, k0, k1, k2, k3, k4, k5, k⟩ := q
  have : ∀ {xs : List (NestedKey × Addr × Value)} {l : List (D × D)}, Paired (EntR K M H) xs l → (∀ q ∈ l, cLt n q.1 = true ∧ cLt n q.2 = true) → Paired (EntR K M' H) xs l := by
    intro xs l p
    induction p with
    | nil => exact fun _ => .nil
    | cons r _ ih =>
      intro o
      obtain ⟨e1, e2, e3, v, e4, e5⟩ := r
      obtain ⟨o1, o2⟩ := o _ List.mem_cons_self
      exact .cons ⟨e1, e2, (keep_ra h hc).1 _ _ e3 o1, v, e4, (keep_ra h hc).1 _ _ e5 o2⟩ (ih fun q hq => o q (List.mem_cons_of_mem _ hq))
  exact ⟨ob, es, ep, xs, k0, k1, k2, k3, k4, k5, this k o⟩
theorem RC.keepC (h : ∀ a, M a = none → M' a = none) (hc : ∀ a k, k < n → M a = some (.cell k) → M' a = some (.cell k)) {a : Addr} {c : Cell} (o : cLtC n c) (q : RC K w M H a c) : RC K w M' H a c := by
  cases c with
  | lst l =>
    obtain ⟨xs, k1, k⟩ := q
    exact ⟨xs, k1, (keep_ra h hc).2 _ _ k o⟩
  | dic l => exact q
  | ins c l =>
    obtain ⟨C, dx, fs, k0, k1, k2, k3, k⟩ := q
    exact ⟨C, dx, fs, k0, k1, k2, k3, fun f d hf hd => let ⟨v, e1, e2⟩ := k f d hf hd; ⟨v, e1, (keep_ra h hc).1 _ _ e2 (o f d hf hd)⟩⟩
  | dct l => exact DctR.keepC h hc o q
  | memo T =>
    obtain ⟨l, q, hp⟩ := q
    exact ⟨l, DctR.keepC h hc (fun x hx => ⟨cLt_zero _ (hp.2 x hx).2.1, cLt_zero _ (hp.2 x hx).2.2⟩) q, hp⟩
/-- the cells from n on are given up -/
def MM.cut (M : MM) (n : Nat) : MM := fun a => match M a with
  | some (.cell k) => if k < n then some (.cell k) else some .far
  | x => x
theorem cut_none {a : Addr} : M a = none → M.cut n a = none := fun m => by
  unfold MM.cut
  rw [m]
theorem cut_lt {a : Addr} {k : Nat} (h : k < n) (m : M a = some (.cell k)) : M.cut n a = some (.cell k) := by
  unfold MM.cut
  rw [m]
  exact if_pos h
theorem of_cut {a : Addr} {k : Nat} (m : M.cut n a = some (.cell k)) : M a = some (.cell k) ∧ k < n := by
  unfold MM.cut at m
  split at m
  · rename_i j h
    split at m
    · rename_i hj
      cases m
      exact ⟨h, hj⟩
    · cases m
  · rename_i h
    exact absurd m (h k)
theorem RelC.cut {more : List Cell} (r0 : RelC N M cs H) (e : Ext M H M' H') (r : RelC N M' (cs ++ more) H') : RelC N (M'.cut cs.length) cs H' where
  cell := fun n c h => by
    have hn : n < cs.length := (List.getElem?_eq_some_iff.mp h).1
    obtain ⟨a, m, q⟩ := r.cell n c (by rw [List.getElem?_append_left hn]; exact h)
    obtain ⟨b, m0, q0⟩ := r0.cell n c h
    exact ⟨a, cut_lt hn m, q.keepC (fun a z => cut_none z) (fun a k hk z => cut_lt hk z) (q0.ltC r0.csz)⟩
  uniq := fun a b n h1 h2 => r.uniq a b n (of_cut h1).1 (of_cut h2).1
  csz := fun a n h => (of_cut h).2
  mdom := fun a w h => by
    cases m : M' a with
    | none => rw [cut_none m] at h; cases h
    | some u => exact r.mdom a u m
  tabs := r.tabs
theorem Ext.cut (r0 : RelC N M cs H) (e : Ext M H M' H') : Ext M H (M'.cut cs.length) H' where
  keep := fun a o h m n => let ⟨k1, k2⟩ := e.keep a o h m n; ⟨k1, cut_none k2⟩
  cell := fun a n m => cut_lt (r0.csz a n m) (e.cell a n m)
  tab := e.tab
  far := fun a m => by
    obtain ⟨k1, k2⟩ := e.far a m
    refine ⟨?_, k2⟩
    unfold MM.cut
    rw [k1]
  dom := e.dom
end
end Z
/-! ## instances of the program's classes, as cells -/
namespace Z
open PySem PySem.Spec L2 GxR
open PyProof.Rows hiding St
theorem fld_ne_all : (List.range 19).all (fun n => (List.range 19).all fun m => (n == m) || !(decide (fldN n = fldN m))) = true := by decide +kernel
theorem fld_inj {n m : Nat} (h : n < 19) (h' : m < 19) (e : fldN n = fldN m) : n = m := by
  have := List.all_eq_true.mp (List.all_eq_true.mp fld_ne_all n (List.mem_range.mpr h)) m (List.mem_range.mpr h')
  simp only [e, decide_true, Bool.not_true, Bool.or_false, beq_iff_eq] at this
  exact this
def eFld (c0 f : Nat) (fo : Ex) : Ex := fun s => (fo s).bind fun x s1 => match x with
  | .cell n => (match s1.cs[n]? with
    | some (.ins c l) => if c = c0 then (match lookF l f with
      | some d => .ok d s1
      | none => .stuck) else .stuck
    | _ => .stuck)
  | _ => .stuck
def sFldS (c0 f : Nat) (fo fe : Ex) : Ss := fun s => (fe s).bind fun d s1 => (fo s1).bind fun x s2 => match x with
  | .cell n => (match s2.cs[n]? with
    | some (.ins c l) => if c = c0 ∧ l.length < 900 then .ok .nx { s2 with cs := s2.cs.set n (.ins c ((f, d) :: l)) } else .stuck
    | _ => .stuck)
  | _ => .stuck
section
variable {N : En} {W : WX} {X : Cx} {M M' : MM} {H H' : Hp} {s : S} {σ : St} {o e value : Expr} {fo fe : Ex} {pos pos' : Pos}
theorem cellI_at {v : V} {n c : Nat} {l : List (Nat × D)} (rl : Rel N M s σ H) (h : R N.K M H v (.cell n)) (hc : s.cs[n]? = some (.ins c l)) : ∃ a C dx fs, v = .ref a ∧ M a = some (.cell n) ∧ PySem.W.nsIn N.K mainGlobals (clsN c) = some (some (.ref C)) ∧ H a = some (.ins C dx fs) ∧ fs.length ≤ l.length ∧ (∀ x ∈ fs, ∃ f, f < 19 ∧ x.1 = fldN f) ∧ ∀ f d, f < 19 → lookF l f = some d → ∃ v, fs.lookup (fldN f) = some v ∧ R N.K M H v d := by
  cases h with
  | cell m =>
    obtain ⟨b, m2, C, dx, fs, h0, h1, h2, h3, h4⟩ := rl.cell n _ hc
    rw [rl.uniq _ _ n m2 m] at h1
    exact ⟨_, C, dx, fs, rfl, m, h0, h1, h2, h3, h4⟩
/-- o.f -/
theorem se_fld {c0 f : Nat} {x : Str} (hK : X.K = N.K) (T : ∀ C, PySem.W.nsIn N.K mainGlobals (clsN c0) = some (some (.ref C)) → Cls N.K C ∧ NoAttr N.K C (fldN f)) (he : SE N W X o fo) (hx : x = fldN f := by rfl) (hf : f < 19 := by decide) (hb : attributeBase o x X.env (eval o X.env) = eval o X.env := by rfl) :
    SE N W X (.Attribute o x pos) (eFld c0 f fo) := by
  obtain ⟨t, pt, st⟩ := he
  refine ⟨_, pe_fld pt hb, fun M s σ H Q rl q => st M s σ H _ rl (q.bind.imp fun M1 H1 d s1 e1 r1 q1 v hv => ?_)⟩
  split at q1
  · rename_i n
    split at q1
    · rename_i c l hc
      split at q1
      · rename_i ec
        subst ec
        split at q1
        · rename_i z hz
          obtain ⟨a, C, dx, fs, rfl, m, h0, h1, h2, h3, h4⟩ := cellI_at r1 hv hc
          obtain ⟨u, k1, k2⟩ := h4 f z hf hz
          obtain ⟨t1, t2⟩ := T C h0
          subst hx
          exact ⟨a, C, dx, fs, u, rfl, h1, hK ▸ t1, hK ▸ t2, k1, q1.here r1 _ k2⟩
        · exact q1.elim
      · exact q1.elim
    · exact q1.elim
  · exact q1.elim
theorem lookF_self (l : List (Nat × D)) (f : Nat) (d : D) : lookF ((f, d) :: l) f = some d := by simp [lookF]
theorem lookF_ne (l : List (Nat × D)) {f g : Nat} (d : D) (h : f ≠ g) : lookF ((f, d) :: l) g = lookF l g := by
  have : (f == g) = false := by simp [h]
  simp [lookF, List.find?_cons, this]
theorem ins_ne {C dx : Addr} {fs : List (Str × V)} : ∀ ps, HO.ins C dx fs ≠ .tbl ps := fun _ z => nomatch z
theorem putF_keys {f : Str} {y : V} : ∀ {fs : List (Str × V)} {x : Str × V}, x ∈ putF f y fs → x.1 = f ∨ ∃ z ∈ fs, z.1 = x.1
  | [], x, h => by
    simp [putF] at h
    exact .inl (by rw [h])
  | (g, v) :: r, x, h => by
    rw [show putF f y ((g, v) :: r) = (if g = f then (g, y) :: r else (g, v) :: putF f y r) from rfl] at h
    split at h
    · rename_i e
      rcases List.mem_cons.mp h with rfl | h
      · exact .inl e
      · exact .inr ⟨x, List.mem_cons_of_mem _ h, rfl⟩
    · rcases List.mem_cons.mp h with rfl | h
      · exact .inr ⟨_, List.mem_cons_self, rfl⟩
      · rcases putF_keys h with k | ⟨z, hz, k⟩
        · exact .inl k
        · exact .inr ⟨z, List.mem_cons_of_mem _ hz, k⟩
/-- o.f = value -/
theorem ss_fld {c0 f : Nat} {x : Str} (hK : X.K = N.K) (T : ∀ C, PySem.W.nsIn N.K mainGlobals (clsN c0) = some (some (.ref C)) → Cls N.K C ∧ NoAttr N.K C (fldN f)) (ho : SE N W X o fo) (hv : SE N W X value fe) (hx : x = fldN f := by rfl) (hf : f < 19 := by decide) (hs : swapsWith value (some (.Attribute o x pos')) pos.line X.env = pure false := by rfl) :
    SS N W X (.Assign [.Attribute o x pos'] value pos) (sFldS c0 f fo fe) := by
  obtain ⟨t, pt, st⟩ := ho
  obtain ⟨u, pu, su⟩ := hv
  refine ⟨_, ps_fld pt pu hs, fun M s σ H D rl q => su M s σ H _ rl (q.bindE.imp fun M1 H1 d s1 e1 r1 q1 v hv => st M1 s1 σ H1 _ r1 (q1.bindE.imp fun M2 H2 y s2 e2 r2 q2 w hw => ?_))⟩
  split at q2
  · rename_i n
    split at q2
    · rename_i c l hc
      split at q2
      · rename_i hl
        obtain ⟨ec, hl⟩ := hl
        subst ec
        obtain ⟨a, C, dx, fs, rfl, m, h0, h1, h2, h3, h4⟩ := cellI_at r2 hw hc
        obtain ⟨t1, t2⟩ := T C h0
        subst hx
        refine ⟨a, C, dx, fs, rfl, h1, hK ▸ t1, hK ▸ t2, by omega, ?_⟩
        have hn := (List.getElem?_eq_some_iff.mp hc).1
        have e0 := ext0_upd (H := H2) (o := .ins C dx (putF (fldN f) v fs)) m
        refine q2.at (ext_updG r2.toRelC ins_ne m) (r2.updG ins_ne hn m ⟨C, dx, _, h0, upd_same, ?_, fun z hz => ?_, fun g d' hg hd => ?_⟩)
        · have := length_putF (fldN f) v fs
          rw [List.length_cons]
          omega
        · rcases putF_keys hz with k | ⟨z', hz', k⟩
          · exact ⟨f, hf, k⟩
          · obtain ⟨g, hg, k2⟩ := h3 z' hz'
            exact ⟨g, hg, k.symm.trans k2⟩
        · rw [lookup_putF]
          by_cases cc : g = f
          · subst cc
            rw [lookF_self] at hd
            cases hd
            rw [if_pos rfl]
            exact ⟨v, rfl, e0.r (e2.r hv)⟩
          · rw [lookF_ne _ _ (Ne.symm cc)] at hd
            rw [if_neg fun z => cc (fld_inj hg hf z)]
            obtain ⟨v', k1, k2⟩ := h4 g d' hg hd
            exact ⟨v', k1, e0.r k2⟩
      · exact q2.elim
    · exact q2.elim
  · exact q2.elim
end
/-- o.m(..) -/
def eMeth (c0 : Nat) (F : Fn) (fo : Ex) (fs : As) : Ex := fun s => (fo s).bind fun x s1 => match x with
  | .cell n => (match s1.cs[n]? with
    | some (.ins c _) => if c = c0 then (fs s1).bind fun ds s2 => (match F (.cell n :: ds) s2.cs with
      | .ok d s3 => .ok d ⟨s2.ρ, s3.cs⟩
      | _ => .stuck) else .stuck
    | _ => .stuck)
  | _ => .stuck
/-- C(..) -/
def eMake (c0 : Nat) (F : Fn) (fs : As) : Ex := fun s => (fs s).bind fun ds s1 => match F (.cell s1.cs.length :: ds) (s1.cs ++ [.ins c0 []]) with
  | .ok .non s2 => .ok (.cell s1.cs.length) ⟨s1.ρ, s2.cs⟩
  | _ => .stuck
section
variable {N : En} {W : WX} {X : Cx} {M M' : MM} {H H' : Hp} {s : S} {σ : St} {o e value : Expr} {fo fe : Ex} {pos pos' apos p : Pos} {es : List Expr} {fs : As}
theorem lookup_no {fs : List (Str × V)} {m : Str} (h : ∀ x ∈ fs, ∃ f, f < 19 ∧ x.1 = fldN f) (hm : ∀ f, f < 19 → fldN f ≠ m) : fs.lookup m = none := by
  rw [List.lookup_eq_none_iff]
  intro x hx
  obtain ⟨f, hf, e⟩ := h x hx
  have : m ≠ x.1 := fun z => hm f hf (by rw [z, e])
  simpa using this
theorem se_meth {c0 k n : Nat} {C f : Addr} {fd : FuncData} {ps : List Str} {F : Fn} {m : Str} {pl : Sem Bool} (hK : X.K = N.K) (hC : PySem.W.nsIn N.K mainGlobals (clsN c0) = some (some (.ref C))) (ho : SE N W X o fo) (c : Cls X.K C) (hm : Meth X.K C m f) (G : FnOk X.prog X.w X.K X.mg X.base L2.CX0 k f fd ps (spOf N n F)) (hr : Room k X.A) (hb : Binds X.K fd ps [])
    (ha : SA N W X (e :: es) fs) (hn : (e :: es).length + 1 = n := by rfl) (hnf : ∀ f, f < 19 → fldN f ≠ m := by decide +kernel)
    (hst : starEach (e :: es) X.env = (false, eval e X.env) :: starEach es X.env := by rfl) (hpl : (backTo pos (starEach es X.env)).any (·.1) = false := by rfl)
    (ht : eval (.Call (.Attribute o m apos) (e :: es) [] pos) X.env = (do
      let ov ← eval o X.env
      standAt apos.atName
      let (f, first) ← holding [ov] (getMethod ov m pl)
      callWith pos f first (backTo pos (starEach (e :: es) X.env)) (backToKw pos (keywordEach [] X.env))) := by rfl) :
    SE N W X (.Call (.Attribute o m apos) (e :: es) [] pos) (eMeth c0 F fo fs) := by
  obtain ⟨to, po, so⟩ := ho
  obtain ⟨t, pt, st, hl⟩ := ha
  refine ⟨_, pe_meth po c hm G hr hb .nil px0' pt hst hpl ht, fun M s σ H Q rl q => so M s σ H _ rl (q.bind.imp fun M1 H1 x s1 e1 r1 q1 v hv => ?_)⟩
  split at q1
  · rename_i n1
    split at q1
    · rename_i c1 l hc
      split at q1
      · rename_i ec
        subst ec
        obtain ⟨a, C', dx, gs, rfl, m1, h0, h1, h2, h3, h4⟩ := cellI_at r1 hv hc
        rw [hC] at h0
        cases h0
        refine ⟨a, dx, gs, rfl, h1, lookup_no h3 hnf, ?_⟩
        refine sa_run (es := e :: es) st hl r1 q1 fun M2 H2 ds s2 vs e2 r2 q2 k1 k2 => ?_
        rw [List.append_nil]
        refine ⟨M2.call, .cell n1 :: ds, s2.cs, r2.toRelC.call, .cons (.cell (call_cell.mpr (e2.cell _ _ m1))) (ext0_call.ra k1), by rw [List.length_cons, k2]; exact hn, ?_⟩
        cases hF : F (.cell n1 :: ds) s2.cs with
        | stuck => rw [hF] at q2; exact q2.elim
        | ok d s3 =>
          rw [hF] at q2
          exact fun M' H' v e3 r3 h3 => q2 _ _ (back_ext e3) (r2.back e3 r3) v ((ext0_back e3).r h3)
        | exc c d s3 =>
          rw [hF] at q2
          exact q2.elim
      · exact q1.elim
    · exact q1.elim
  · exact q1.elim
theorem se_make {c0 k n : Nat} {C f : Addr} {fd : FuncData} {ps : List Str} {F : Fn} {x : Str} (hC : PySem.W.nsIn N.K mainGlobals (clsN c0) = some (some (.ref C))) (K : Mk X.K C f) (G : FnOk X.prog X.w X.K X.mg X.base L2.CX0 k f fd ps (spOf N n F)) (hr : Room (k + 1) X.A) (hg : Gl X x) (hm : X.mg x = some (.ref C)) (hb : Binds X.K fd ps [])
    (ha : SA N W X (e :: es) fs) (hn : (e :: es).length + 1 = n := by rfl) (hdb : (x == ("__debug__" : Str)) = false := by decide) (he : starEach (e :: es) X.env = (false, eval e X.env) :: starEach es X.env := by rfl) (hpl : (backTo pos (starEach es X.env)).any (·.1) = false := by rfl) :
    SE N W X (.Call (.Name x p) (e :: es) [] pos) (eMake c0 F fs) := by
  obtain ⟨t, pt, st, hl⟩ := ha
  refine ⟨_, pe_make K G hr hg hm hb .nil px0' pt hdb he hpl, fun M s σ H Q rl q => sa_run (es := e :: es) st hl rl q fun M1 H1 ds s1 vs e1 r1 q1 h1 h2 => ?_⟩
  intro a dx na ndx ne
  have own_ne : ∀ ps, HO.own a ≠ .tbl ps := fun _ z => nomatch z
  obtain ⟨_, e2⟩ := r1.toRelC.laidO (o := .own a) own_ne ndx
  have r2 := r1.laidO (o := .own a) own_ne ndx
  have na2 : upd H1 dx (.own a) a = none := by rw [upd_ne (fun z => ne z.symm)]; exact na
  obtain ⟨_, e3⟩ := r2.toRelC.laidO (o := .ins C dx []) ins_ne na2
  have r3 := r2.laidO (o := .ins C dx []) ins_ne na2
  have fr : Fresh M1 H1 a := ⟨r1.toRelC.fresh na, fun o z => by rw [na] at z; cases z⟩
  have e4 := (e2.trans e3).ownW (w := some (.cell s1.cs.length)) fr
  have r4 := r3.newCellG (c0 := .ins c0 []) own1_same fun M' _ => ⟨C, dx, [], hC, upd_same, Nat.le_refl _, fun z hz => (nomatch hz), fun f d _ hd => by simp [lookF] at hd⟩
  rw [List.append_nil]
  refine ⟨_, .cell s1.cs.length :: ds, s1.cs ++ [.ins c0 []], r4.toRelC.call, .cons (.cell (call_cell.mpr own1_same)) (ext0_call.ra (e4.ra h1)), by rw [List.length_cons, h2]; exact hn, ?_⟩
  cases hF : F (.cell s1.cs.length :: ds) (s1.cs ++ [.ins c0 []]) with
  | stuck => rw [hF] at q1; exact q1.elim
  | exc c d s2 => rw [hF] at q1; exact q1.elim
  | ok d s2 =>
    rw [hF] at q1
    cases d with
    | non =>
      intro M' H' v e5 r5 hv
      cases hv
      refine ⟨rfl, ?_⟩
      exact q1 _ _ (e4.trans (back_ext e5)) (r4.back e5 r5) _ (.cell (back_cell e5 (e5.cell _ _ (call_cell.mpr own1_same))))
    | _ => exact q1.elim
end
end Z
/-! ## dicts with tuples for keys, as cells -/
namespace Z
open PySem PySem.Spec L2 GxR
open PyProof.Rows hiding St
section
variable {X : Cx} {pins : List (Addr × Obj)} {σ : St} {H : Hp} {M : MM} {s : Shared}
mutual
theorem nested_of (I : Inv X pins σ H s) : ∀ (d : D) (v : V) (k : NestedKey) (u : Value), R X.K M H v d → keyD d = some k → RelV v u → NestedIs s.heap k u
  | .non, _, _, _, _, e, _ => by simp [keyD] at e
  | .bl b, _, _, _, q, e, r => by
    cases q
    simp [keyD] at e
    subst e
    cases r
    exact .bool rfl
  | .int i, _, _, _, q, e, r => by
    cases q
    simp [keyD] at e
    subst e
    obtain ⟨t, rfl⟩ := r
    exact .int i t
  | .str n, _, _, _, q, e, r => by
    cases q with
    | str hn =>
      simp [keyD, hn] at e
      subst e
      obtain ⟨t, rfl⟩ := r
      exact .text _ t
  | .tup l, _, _, _, q, e, r => by
    cases q with
    | tup st ra =>
      simp only [keyD] at e
      obtain ⟨ks, h1, rfl⟩ := Option.map_eq_some_iff.mp e
      obtain rfl := (show _ = Value.ref _ from r)
      obtain ⟨its, rv, ⟨o, e1, e2, n, e3⟩, _⟩ := I.tuple st.sq
      exact .tup e1 e2 e3 (by rw [List.toList_toArray]; exact nesteds_of I l _ ks its ra h1 rv)
  | .lst l, _, _, _, _, e, _ => by simp [keyD] at e
  | .cell _, _, _, _, _, e, _ => by simp [keyD] at e
  | .scr _, _, _, _, _, e, _ => by simp [keyD] at e
  | .rng _ _, _, _, _, _, e, _ => by simp [keyD] at e
  | .fn _, _, _, _, _, e, _ => by simp [keyD] at e
  | .dic _, _, _, _, _, e, _ => by simp [keyD] at e
  | .ft _, _, _, _, _, e, _ => by simp [keyD] at e
theorem nesteds_of (I : Inv X pins σ H s) : ∀ (l : List D) (vs : List V) (ks : List NestedKey) (us : List Value), RA X.K M H vs l → keyDs l = some ks → Vals vs us → NestedAll s.heap ks us
  | [], _, _, _, q, e, r => by
    cases q
    simp [keyDs] at e
    subst e
    cases r
    exact .nil
  | d :: l, _, _, _, q, e, r => by
    cases q with
    | cons a b =>
      cases r with
      | cons r1 r2 =>
        unfold keyDs at e
        split at e
        · rename_i k ks h1 h2
          cases e
          exact .cons (nested_of I d _ _ _ a h1 r1) (nesteds_of I l _ _ _ b h2 r2)
        · cases e
end
end
theorem key_bl {b : Bool} {k : NestedKey} (h : keyD (.bl b) = some k) : k = .num (if b then 1 else 0) := by
  simp [keyD] at h
  exact h.symm
theorem key_int {i : Int} {k : NestedKey} (h : keyD (.int i) = some k) : k = .num i := by
  simp [keyD] at h
  exact h.symm
theorem key_str {n : Nat} {k : NestedKey} (h : keyD (.str n) = some k) : n < 70 ∧ k = .text (txt n) := by
  simp [keyD] at h
  exact ⟨h.1, h.2.symm⟩
theorem key_tup {l : List D} {k : NestedKey} (h : keyD (.tup l) = some k) : ∃ ks, keyDs l = some ks ∧ k = .tup ks := by
  simp only [keyD] at h
  obtain ⟨ks, h1, h2⟩ := Option.map_eq_some_iff.mp h
  exact ⟨ks, h1, h2.symm⟩
theorem key_cons {d : D} {l : List D} {ks : List NestedKey} (h : keyDs (d :: l) = some ks) : ∃ k r, keyD d = some k ∧ keyDs l = some r ∧ ks = k :: r := by
  unfold keyDs at h
  split at h
  · rename_i k r h1 h2
    cases h
    exact ⟨k, r, h1, h2, rfl⟩
  · cases h
mutual
theorem eqD_key : ∀ (d e : D) (k j : NestedKey), keyD d = some k → keyD e = some j → eqD d e = NestedKey.beq k j
  | .bl a, .bl b, _, _, h, h' => by rw [key_bl h, key_bl h']; cases a <;> cases b <;> rfl
  | .bl a, .int j, _, _, h, h' => by rw [key_bl h, key_int h']; rfl
  | .bl _, .str _, _, _, h, h' => by rw [key_bl h, (key_str h').2]; rfl
  | .bl _, .tup _, _, _, h, h' => by obtain ⟨ks, _, e⟩ := key_tup h'; rw [key_bl h, e]; rfl
  | .int _, .bl _, _, _, h, h' => by rw [key_int h, key_bl h']; rfl
  | .int _, .int _, _, _, h, h' => by rw [key_int h, key_int h']; rfl
  | .int _, .str _, _, _, h, h' => by rw [key_int h, (key_str h').2]; rfl
  | .int _, .tup _, _, _, h, h' => by obtain ⟨ks, _, e⟩ := key_tup h'; rw [key_int h, e]; rfl
  | .str _, .bl _, _, _, h, h' => by rw [(key_str h).2, key_bl h']; rfl
  | .str _, .int _, _, _, h, h' => by rw [(key_str h).2, key_int h']; rfl
  | .str n, .str m, _, _, h, h' => by
    obtain ⟨h1, e1⟩ := key_str h
    obtain ⟨h2, e2⟩ := key_str h'
    rw [e1, e2]
    exact (txt_dec h1 h2).symm
  | .str _, .tup _, _, _, h, h' => by obtain ⟨ks, _, e⟩ := key_tup h'; rw [(key_str h).2, e]; rfl
  | .tup _, .bl _, _, _, h, h' => by obtain ⟨ks, _, e⟩ := key_tup h; rw [key_bl h', e]; rfl
  | .tup _, .int _, _, _, h, h' => by obtain ⟨ks, _, e⟩ := key_tup h; rw [key_int h', e]; rfl
  | .tup _, .str _, _, _, h, h' => by obtain ⟨ks, _, e⟩ := key_tup h; rw [(key_str h').2, e]; rfl
  | .tup l, .tup m, _, _, h, h' => by
    obtain ⟨ks, k1, e⟩ := key_tup h
    obtain ⟨js, k2, e'⟩ := key_tup h'
    rw [e, e', eqD, NestedKey.beq]
    exact eqDs_key l m ks js k1 k2
  | .non, _, _, _, h, _ => by simp [keyD] at h
  | .lst _, _, _, _, h, _ => by simp [keyD] at h
  | .cell _, _, _, _, h, _ => by simp [keyD] at h
  | .scr _, _, _, _, h, _ => by simp [keyD] at h
  | .rng _ _, _, _, _, h, _ => by simp [keyD] at h
  | .fn _, _, _, _, h, _ => by simp [keyD] at h
  | .dic _, _, _, _, h, _ => by simp [keyD] at h
  | .ft _, _, _, _, h, _ => by simp [keyD] at h
  | _, .non, _, _, _, h => by simp [keyD] at h
  | _, .lst _, _, _, _, h => by simp [keyD] at h
  | _, .cell _, _, _, _, h => by simp [keyD] at h
  | _, .scr _, _, _, _, h => by simp [keyD] at h
  | _, .rng _ _, _, _, _, h => by simp [keyD] at h
  | _, .fn _, _, _, _, h => by simp [keyD] at h
  | _, .dic _, _, _, _, h => by simp [keyD] at h
  | _, .ft _, _, _, _, h => by simp [keyD] at h
theorem eqDs_key : ∀ (l m : List D) (ks js : List NestedKey), keyDs l = some ks → keyDs m = some js → eqDs l m = NestedKey.beqAll ks js
  | [], [], _, _, h, h' => by
    simp [keyDs] at h h'
    subst h
    subst h'
    rfl
  | [], d :: m, _, _, h, h' => by
    obtain ⟨k, r, _, _, e⟩ := key_cons h'
    simp [keyDs] at h
    subst h
    subst e
    rfl
  | d :: l, [], _, _, h, h' => by
    obtain ⟨k, r, _, _, e⟩ := key_cons h
    simp [keyDs] at h'
    subst h'
    subst e
    rfl
  | d :: l, e :: m, _, _, h, h' => by
    obtain ⟨k, r, k1, k2, e1⟩ := key_cons h
    obtain ⟨j, r', j1, j2, e2⟩ := key_cons h'
    subst e1
    subst e2
    rw [eqDs, NestedKey.beqAll, eqD_key d e k j k1 j1, eqDs_key l m r r' k2 j2]
end
/-! ### the dict at an address, and what D says of it -/
def dfind (l : List (D × D)) (k : D) : Option D := (l.find? fun q => eqD q.1 k).map (·.2)
def dstore (l : List (D × D)) (k v : D) : List (D × D) := if (l.any fun q => eqD q.1 k) = true then l.map fun q => if eqD q.1 k = true then (q.1, v) else q else l ++ [(k, v)]
section
variable {K : PySem.W.Frag} {M : MM} {H : Hp}
theorem ent_find {d : D} {k : NestedKey} (hk : keyD d = some k) : ∀ {xs : List (NestedKey × Addr × Value)} {l : List (D × D)}, Paired (EntR K M H) xs l →
    match dfind l d with
    | some y => ∃ u v, valueAt (pairsH xs) k = some u ∧ RelV v u ∧ R K M H v y
    | none => valueAt (pairsH xs) k = none
  | _, _, .nil => rfl
  | x :: xs, q :: l, .cons r p => by
    obtain ⟨e1, e2, e3, v, e4, e5⟩ := r
    have eq := eqD_key q.1 d x.1 k e1 hk
    have ih := ent_find hk p
    by_cases c : x.1 = k
    · have c2 : eqD q.1 d = true := by rw [eq, c]; exact NestedKey.beq_self k
      have d1 : dfind (q :: l) d = some q.2 := by simp [dfind, c2]
      rw [d1]
      exact ⟨x.2.2, v, by simp [pairsH, valueAt, c], e4, e5⟩
    · have c2 : eqD q.1 d = false := by
        rw [eq, ← NestedKey.decide_eq]
        exact decide_eq_false c
      have d1 : dfind (q :: l) d = dfind l d := by simp [dfind, c2]
      have d2 : valueAt (pairsH (x :: xs)) k = valueAt (pairsH xs) k := by simp [pairsH, valueAt, c]
      rw [d1, d2]
      exact ih
end
end Z
/-! ## what is done with a dict whose keys are tuples -/
namespace Z
open PySem PySem.Spec L2 GxR
open PyProof.Rows hiding St
section
variable {X : Cx} {pins : List (Addr × Obj)} {σ : St} {H : Hp} {M : MM} {s : Shared} {a : Addr} {l : List (D × D)}
theorem paired_mem {α β : Type} {F : α → β → Prop} : ∀ {xs : List α} {ys : List β}, Paired F xs ys → ∀ x ∈ xs, ∃ y ∈ ys, F x y
  | _, _, .nil, _, h => nomatch h
  | _, _, .cons r p, x, h => by
    rcases List.mem_cons.mp h with rfl | h
    · exact ⟨_, List.mem_cons_self, r⟩
    · obtain ⟨y, hy, k⟩ := paired_mem p x h
      exact ⟨y, List.mem_cons_of_mem _ hy, k⟩
theorem key_is (I : Inv X pins σ H s) {b : Addr} {d : D} {k : NestedKey} (rk : R X.K M H (.ref b) d) (hk : keyD d = some k) (h8 : k.depth ≤ 8) : (nestedKind X.prog X.w).is s.heap k b := ⟨nested_of I d _ k _ rk hk rfl, h8⟩
theorem dct_of (I : Inv X pins σ H s) (q : RC X.K X.w M H a (.dct l)) : ∃ xs, s.heap.DictOfH (nestedKind X.prog X.w) a xs ∧ Paired (EntR X.K M H) xs l ∧ (a == sysModules) = false := by
  obtain ⟨o, es, ep, xs, h0, h1, h2, h3, h4, h5, h6⟩ := q
  obtain ⟨p, _, _⟩ := I.hok a _ h0
  refine ⟨xs, ⟨o, es, ep, p, h2, h3, h4, fun x hx => ?_, h5⟩, h6, h1⟩
  obtain ⟨y, _, e1, e2, e3, _⟩ := paired_mem h6 x hx
  exact key_is I e3 e1 e2
theorem room8 {A : Around} (hu : A.units + 64 < cLine) : (nestedKind X.prog X.w).room A.in1 := by
  show A.units + 1 + 8 < cLine
  omega
theorem atKey_find {d : D} {k : NestedKey} {K : PySem.W.Frag} (hk : keyD d = some k) {xs : List (NestedKey × Addr × Value)} (p : Paired (EntR K M H) xs l) : (atKey xs k).isSome = (dfind l d).isSome := by
  have q := ent_find hk p
  rw [valueAt_pairsH] at q
  cases hd : dfind l d with
  | none =>
    rw [hd] at q
    rw [Option.map_eq_none_iff.mp q]
    rfl
  | some y =>
    rw [hd] at q
    obtain ⟨u, v, e, _⟩ := q
    obtain ⟨z, hz, _⟩ := Option.map_eq_some_iff.mp e
    rw [hz]
    rfl
end
/-- key in d; not in (b = true) -/
def tInX (X : Cx) (neg : Bool) (ty td : TE) : TE := fun σ H Q => ty σ H fun y H1 => td σ H1 fun x H2 => ∃ M b a d k l, y = .ref b ∧ x = .ref a ∧ R X.K M H2 (.ref b) d ∧ keyD d = some k ∧ k.depth ≤ 8 ∧ RC X.K X.w M H2 a (.dct l) ∧ Q (.bl (neg ^^ (dfind l d).isSome)) H2
def tGetX (X : Cx) (td ty : TE) : TE := fun σ H Q => td σ H fun x H1 => ty σ H1 fun y H2 => ∃ M b a d k l z, y = .ref b ∧ x = .ref a ∧ R X.K M H2 (.ref b) d ∧ keyD d = some k ∧ k.depth ≤ 8 ∧ RC X.K X.w M H2 a (.dct l) ∧ dfind l d = some z ∧ ∀ v, R X.K M H2 v z → Q v H2
section
variable {X : Cx} {o i : Expr} {td ty tv : TE} {pos pos' : Pos}
theorem pc_notX (hu : X.A.units + 64 < cLine) (hi : PE X i ty) (ho : PE X o td) : PC X .NotIn i o (tInX X true ty td) := by
  refine ⟨fun pins s σ H Q I h => ?_⟩
  refine thn (hi.run pins s σ H _ I h) fun iv s1 ⟨y, H1, I1, ry, q1⟩ => thn (ho.run pins s1 σ H1 _ I1 q1) fun u s2 ⟨x, H2, I2, rx, M, b, a, d, k, l, ey, ex, rk, hk, h8, rc, q2⟩ => ?_
  subst ex ey
  obtain rfl : u = Value.ref a := rx
  obtain rfl : iv = Value.ref b := ry
  obtain ⟨xs, hx, hp, hs⟩ := dct_of I2 rc
  refine wpAny_notIn_heap (room8 hu) (key_is I2 rk hk h8) hs hx ?_
  rw [atKey_find hk hp]
  rw [Bool.true_xor] at q2
  exact ⟨.bl _, H2, I2.tok _, rfl, q2⟩
theorem pe_getX (hu : X.A.units + 64 < cLine) (ho : PE X o td) (hi : PE X i ty) (hs : NoSl i) : PE X (.Subscript o i pos) (tGetX X td ty) := by
  refine ⟨fun pins s σ H Q I h => ?_⟩
  refine subD_of PySem.F.slot_dict_getitem.lookup hs (thn (ho.run pins s σ H _ I h) fun u s1 ⟨x, H1, I1, rx, q1⟩ => thn (hi.run pins s1 σ H1 _ I1 q1) fun iv s2 ⟨y, H2, I2, ry, M, b, a, d, k, l, z, ey, ex, rk, hk, h8, rc, hz, q2⟩ => ?_)
  subst ex ey
  obtain rfl : u = Value.ref a := rx
  obtain rfl : iv = Value.ref b := ry
  obtain ⟨xs, hx, hp, _⟩ := dct_of I2 rc
  have q := ent_find hk hp
  rw [hz, valueAt_pairsH] at q
  obtain ⟨w, v, e, rv, r⟩ := q
  obtain ⟨p, hpk, hp2⟩ := Option.map_eq_some_iff.mp e
  refine ⟨hx.typeIs, wpAny_getItem_heap (room8 hu) (key_is I2 rk hk h8) hx hpk ?_⟩
  rw [hp2]
  exact ⟨v, H2, I2.tok _, rv, q2 v r⟩
end
/-! ### in plain values -/
def keyT (d : D) : Option NestedKey := match d with
  | .tup l => keyD (.tup l)
  | _ => none
def eInX (neg : Bool) (fk fo : Ex) : Ex := fun s => (fk s).bind fun d s1 => (fo s1).bind fun x s2 => match x with
  | .cell n => (match s2.cs[n]? with
    | some (.dct l) => (match keyT d with
      | some k => if k.depth ≤ 8 then .ok (.bl (neg ^^ (dfind l d).isSome)) s2 else .stuck
      | none => .stuck)
    | _ => .stuck)
  | _ => .stuck
def eGetX (fo fk : Ex) : Ex := fun s => (fo s).bind fun x s1 => (fk s1).bind fun d s2 => match x with
  | .cell n => (match s2.cs[n]? with
    | some (.dct l) => (match keyT d, dfind l d with
      | some k, some z => if k.depth ≤ 8 then .ok z s2 else .stuck
      | _, _ => .stuck)
    | _ => .stuck)
  | _ => .stuck
section
variable {N : En} {W : WX} {X : Cx} {M M' : MM} {H H' : Hp} {s : S} {σ : St} {o i : Expr} {fo fk : Ex} {pos pos' : Pos}
theorem cellX_at {v : V} {n : Nat} {l : List (D × D)} (rl : Rel N M s σ H) (h : R N.K M H v (.cell n)) (hc : s.cs[n]? = some (.dct l)) : ∃ a, v = .ref a ∧ M a = some (.cell n) ∧ RC N.K N.w M H a (.dct l) := by
  cases h with
  | cell m =>
    obtain ⟨b, m2, q⟩ := rl.cell n _ hc
    have := rl.uniq _ _ n m2 m
    subst this
    exact ⟨_, rfl, m, q⟩
/-- a key is a tuple, so a reference -/
theorem key_ref {K : PySem.W.Frag} {v : V} {l : List D} (h : R K M H v (.tup l)) : ∃ b, v = .ref b := by
  cases h
  exact ⟨_, rfl⟩
theorem keyT_ref {K : PySem.W.Frag} {v : V} {d : D} {k : NestedKey} (h : R K M H v d) (hk : keyT d = some k) : (∃ b, v = .ref b) ∧ keyD d = some k := by
  cases d with
  | tup l => exact ⟨key_ref h, hk⟩
  | _ => cases hk
theorem sim_inX {neg : Bool} {tk td : TE} (hK : N.K = X.K) (hw : N.w = X.w) (sk : SimE N W tk fk) (so : SimE N W td fo) : SimE N W (tInX X neg tk td) (eInX neg fk fo) := fun M s σ H Q rl q => by
  refine sk M s σ H _ rl (q.bind.imp fun M1 H1 d s1 e1 r1 q1 yv hy => so M1 s1 σ H1 _ r1 (q1.bind.imp fun M2 H2 x s2 e2 r2 q2 xv hx => ?_))
  split at q2
  · rename_i n
    split at q2
    · rename_i l hc
      split at q2
      · rename_i k hk
        split at q2
        · rename_i h8
          obtain ⟨a, rfl, m, rc⟩ := cellX_at r2 hx hc
          obtain ⟨⟨b, rfl⟩, hk⟩ := keyT_ref hy hk
          rw [hK] at rc
          rw [hw] at rc
          exact ⟨M2, b, a, d, k, l, rfl, rfl, hK ▸ e2.r hy, hk, h8, rc, q2.here r2 _ (.bl _)⟩
        · exact q2.elim
      · exact q2.elim
    · exact q2.elim
  · exact q2.elim
theorem st_notX (hK : N.K = X.K) (hw : N.w = X.w) (hu : X.A.units + 64 < cLine) (hi : SE N W X i fk) (ho : SE N W X o fo) (hm : behindInMarks .NotIn o = false := by rfl) : ST N W X (.Compare i [.NotIn] [o] pos) (tV (eInX true fk fo)) := by
  obtain ⟨ta, pa, sa⟩ := hi
  obtain ⟨tb, pb, sb⟩ := ho
  exact ⟨_, pt_cmp (pc_notX hu pa pb) hm, sim_tv (sim_inX hK hw sa sb)⟩
theorem se_getX (hK : N.K = X.K) (hw : N.w = X.w) (hu : X.A.units + 64 < cLine) (ho : SE N W X o fo) (hi : SE N W X i fk) (hs : NoSl i := by exact fun _ _ => rfl) : SE N W X (.Subscript o i pos) (eGetX fo fk) := by
  obtain ⟨ta, pa, sa⟩ := ho
  obtain ⟨tb, pb, sb⟩ := hi
  refine ⟨_, pe_getX hu pa pb hs, fun M s σ H Q rl q => sa M s σ H _ rl (q.bind.imp fun M1 H1 x s1 e1 r1 q1 xv hx => sb M1 s1 σ H1 _ r1 (q1.bind.imp fun M2 H2 d s2 e2 r2 q2 yv hy => ?_))⟩
  split at q2
  · rename_i n
    split at q2
    · rename_i l hc
      split at q2
      · rename_i k z hk hz
        split at q2
        · rename_i h8
          obtain ⟨a, rfl, m, rc⟩ := cellX_at r2 (e2.r hx) hc
          obtain ⟨⟨b, rfl⟩, hk⟩ := keyT_ref hy hk
          rw [hK] at rc
          rw [hw] at rc
          exact ⟨M2, b, a, d, k, l, z, rfl, rfl, hK ▸ hy, hk, h8, rc, hz, fun v hv => q2.here r2 _ (hK.symm ▸ hv)⟩
        · exact q2.elim
      · exact q2.elim
    · exact q2.elim
  · exact q2.elim
end
end Z
/-! ## {} and d[k] = v -/
namespace Z
open PySem PySem.Spec L2 GxR
open PyProof.Rows hiding St
abbrev knownAt (a : Addr) (o : Obj) : HO := .ext fun h => h.get? a = some o
theorem known_ne {a : Addr} {o : Obj} : ∀ ps, knownAt a o ≠ .tbl ps := fun _ z => nomatch z
section
variable {X : Cx} {pins : List (Addr × Obj)} {σ : St} {H : Hp} {M : MM} {s : Shared} {a b : Addr} {l : List (D × D)} {o i value : Expr} {td ty tv : TE} {pos pos' : Pos}
def tNewX (w : World) : TE := fun _ H Q => ∀ (p : Addr) (o : Obj), H p = none → (p == sysModules) = false → o.ExactDict → o.data = .dict #[] 0 → Q (.ref p) (upd H p (knownAt p o))
theorem pe_newX : PE X (.Dict [] [] pos) (tNewX X.w) := ⟨fun pins s σ H Q I h => by
  have e : (s.heap.push { cls := .type "dict", data := .dict #[] }).get? s.heap.objs.size = some { cls := .type "dict", data := .dict #[] } := Heap.get?_push_size _ rfl
  exact wpAny_Dict_empty ⟨.ref s.heap.objs.size, _, I.laid (a := s.heap.objs.size) (o := knownAt s.heap.objs.size { cls := .type "dict", data := .dict #[] }) (t' := s.toks) (fun _ _ q => Heap.get?_push_of_some _ q) (Nat.le_refl _) ⟨e, ⟨_, e⟩, fun h1 h2 f k => k _ f⟩, rfl, h _ _ (I.hok.fresh (Nat.le_refl _)) (beq_eq_false_iff_ne.mpr (Ne.symm (Nat.ne_of_lt I.big))) ⟨rfl, rfl, rfl⟩ rfl⟩⟩
theorem paired_snoc {α β : Type} {F : α → β → Prop} {x : α} {y : β} (r : F x y) : ∀ {xs : List α} {ys : List β}, Paired F xs ys → Paired F (xs ++ [x]) (ys ++ [y])
  | _, _, .nil => .cons r .nil
  | _, _, .cons q p => .cons q (paired_snoc r p)
theorem ent_put {K : PySem.W.Frag} {d z : D} {k : NestedKey} {v : V} {u : Value} (hk : keyD d = some k) (rv : RelV v u) (rz : R K M H v z) : ∀ {xs : List (NestedKey × Addr × Value)} {l : List (D × D)}, Paired (EntR K M H) xs l →
    Paired (EntR K M H) (xs.map (putAt k u)) (l.map fun q => if eqD q.1 d = true then (q.1, z) else q)
  | _, _, .nil => .nil
  | x :: xs, q :: l, .cons r p => by
    obtain ⟨e1, e2, e3, v0, e4, e5⟩ := r
    have eq := eqD_key q.1 d x.1 k e1 hk
    rw [← NestedKey.decide_eq] at eq
    refine .cons ?_ (ent_put hk rv rz p)
    show EntR K M H (putAt k u x) (if eqD q.1 d = true then (q.1, z) else q)
    by_cases c : x.1 = k
    · have c2 : eqD q.1 d = true := by rw [eq]; exact decide_eq_true c
      rw [if_pos c2]
      unfold putAt
      rw [if_pos c]
      exact ⟨e1, e2, e3, v, rv, rz⟩
    · have c2 : ¬ eqD q.1 d = true := by rw [eq, decide_eq_false c]; exact Bool.false_ne_true
      rw [if_neg c2]
      unfold putAt
      rw [if_neg c]
      exact ⟨e1, e2, e3, v0, e4, e5⟩
theorem find_any {l : List (D × D)} {d : D} : (dfind l d).isSome = l.any fun q => eqD q.1 d := by
  unfold dfind
  rw [Option.isSome_map, Bool.eq_iff_iff, List.find?_isSome, List.any_eq_true]
theorem ent_store {K : PySem.W.Frag} {d z : D} {k : NestedKey} {v : V} {u : Value} {b : Addr} (hk : keyD d = some k) (h8 : k.depth ≤ 8) (rb : R K M H (.ref b) d) (rv : RelV v u) (rz : R K M H v z) {xs : List (NestedKey × Addr × Value)} {l : List (D × D)} (p : Paired (EntR K M H) xs l) :
    Paired (EntR K M H) (storedH xs k b u) (dstore l d z) := by
  have e := atKey_find hk p
  rw [find_any] at e
  unfold storedH dstore
  rw [e]
  split
  · exact ent_put hk rv rz p
  · exact paired_snoc ⟨hk, h8, rb, v, rv, rz⟩ p
theorem paired_len {α β : Type} {F : α → β → Prop} : ∀ {xs : List α} {ys : List β}, Paired F xs ys → xs.length = ys.length
  | _, _, .nil => rfl
  | _, _, .cons _ p => by rw [List.length_cons, List.length_cons, paired_len p]
/-- d[k] = v -/
def sPutX (X : Cx) (td ty tv : TE) : TS := fun D σ H => tv σ H fun v H1 => td σ H1 fun x H2 => ty σ H2 fun y H3 => ∃ M b a d k l, y = .ref b ∧ x = .ref a ∧ R X.K M H3 (.ref b) d ∧ keyD d = some k ∧ k.depth ≤ 8 ∧ RC X.K X.w M H3 a (.dct l) ∧ l.length ≤ 100000 ∧
  ∀ ob : Obj, (∀ z, R X.K M H3 v z → ∃ es ep xs, ob.ExactDict ∧ ob.data = .dict es ep ∧ es.toList = xs.map (entK X.w) ∧ (xs.map (·.1)).Nodup ∧ Paired (EntR X.K M H3) xs (dstore l d z)) → D.nx σ (upd H3 a (knownAt a ob))
theorem ps_putX (hu : X.A.units + 64 < cLine) (ho : PE X o td) (hi : PE X i ty) (hv : PE X value tv) (hs : swapsWith value (some (.Subscript o i pos')) pos.line X.env = pure false) :
    PS X (.Assign [.Subscript o i pos'] value pos) (sPutX X td ty tv) := by
  refine ⟨fun pins s σ H D I h => ?_⟩
  refine wpAny_Assign_Subscript (thn (hv.run pins s σ H _ I h) fun r s1 ⟨v, H1, I1, rv, q1⟩ => thn (ho.run pins s1 σ H1 _ I1 q1) fun u s2 ⟨x, H2, I2, rx, q2⟩ => thn (hi.run pins s2 σ H2 _ I2 q2) fun iv s3 ⟨y, H3, I3, ry, M, b, a, d, k, l, ey, ex, rk, hk, h8, rc, hl, q3⟩ => ?_) hs
  subst ex ey
  obtain rfl : u = Value.ref a := rx
  obtain rfl : iv = Value.ref b := ry
  obtain ⟨xs, hx, hp, _⟩ := dct_of I3 rc
  have hm : H3 a = some (knownAt a _) := rc.choose_spec.choose_spec.choose_spec.choose_spec.1
  refine wpAny_setItem_heap (hsz := len_line (by rw [paired_len hp]; exact hl)) (room8 hu) (key_is I3 rk hk h8) hx fun h' hx' sb => ?_
  obtain ⟨ob, es, ep, e, ex, dat, ent, _, nd⟩ := hx'
  refine ⟨σ, _, I3.write (x := a) (e := a) (o := knownAt a ob) (by rw [hm]; exact True.intro) (.inl rfl) (fun c q hc z => (sb.2 c hc).trans z) ⟨_, e⟩ ⟨e, ⟨_, e⟩, fun h1 h2 f k => k _ f⟩, q3 ob fun z rz => ⟨es, ep, _, ex, dat, ent, nd, ent_store hk h8 rk rv rz hp⟩⟩
end
end Z
/-! ## {}, d[k] = v, d.get(k, x), d.setdefault(k, x), e.append(x) of a cell -/
namespace Z
open PySem PySem.Spec L2 GxR
open PyProof.Rows hiding St
def eNewX : Ex := fun s => .ok (.cell s.cs.length) { s with cs := s.cs ++ [.dct []] }
def sPutXd (fo fk fe : Ex) : Ss := fun s => (fe s).bind fun z s1 => (fo s1).bind fun x s2 => (fk s2).bind fun d s3 => match x with
  | .cell n => (match s3.cs[n]? with
    | some (.dct l) => (match keyT d with
      | some k => if k.depth ≤ 8 ∧ l.length ≤ 100000 then .ok .nx { s3 with cs := s3.cs.set n (.dct (dstore l d z)) } else .stuck
      | none => .stuck)
    | _ => .stuck)
  | _ => .stuck
/-- d.get(k, x) -/
def eGorX (fo fk fx : Ex) : Ex := fun s => (fo s).bind fun x s1 => match x with
  | .cell n => (match s1.cs[n]? with
    | some (.dct _) => (fk s1).bind fun d s2 => (fx s2).bind fun z s3 => (match s3.cs[n]? with
      | some (.dct l) => (match keyT d with
        | some k => if k.depth ≤ 8 then .ok ((dfind l d).getD z) s3 else .stuck
        | none => .stuck)
      | _ => .stuck)
    | _ => .stuck)
  | _ => .stuck
/-- d.setdefault(k, x) -/
def eSdfX (fo fk fx : Ex) : Ex := fun s => (fo s).bind fun x s1 => match x with
  | .cell n => (match s1.cs[n]? with
    | some (.dct _) => (fk s1).bind fun d s2 => (fx s2).bind fun z s3 => (match s3.cs[n]? with
      | some (.dct l) => (match keyT d with
        | some k => if k.depth ≤ 8 ∧ l.length ≤ 100000 then (match dfind l d with
          | some y => .ok y s3
          | none => .ok z { s3 with cs := s3.cs.set n (.dct (dstore l d z)) }) else .stuck
        | none => .stuck)
      | _ => .stuck)
    | _ => .stuck)
  | _ => .stuck
/-- e.append(x), e a cell -/
def sAppC (fo fx : Ex) : Ss := fun s => (fo s).bind fun x s1 => match x with
  | .cell n => (match s1.cs[n]? with
    | some (.lst _) => (fx s1).bind fun d s2 => (match s2.cs[n]? with
      | some (.lst l) => if l.length < 100000 then .ok .nx { s2 with cs := s2.cs.set n (.lst (l ++ [d])) } else .stuck
      | _ => .stuck)
    | _ => .stuck)
  | _ => .stuck
/-! ### trees -/
def tGorX (X : Cx) (td ty tx : TE) : TE := fun σ H Q => td σ H fun x H1 => ∃ M0 a l0, x = .ref a ∧ RC X.K X.w M0 H1 a (.dct l0) ∧ ty σ H1 fun y H2 => tx σ H2 fun z H3 => ∃ M b d k l zd, y = .ref b ∧ R X.K M H3 (.ref b) d ∧ keyD d = some k ∧ k.depth ≤ 8 ∧ RC X.K X.w M H3 a (.dct l) ∧ R X.K M H3 z zd ∧ ∀ v, R X.K M H3 v ((dfind l d).getD zd) → Q v H3
def tSdfX (X : Cx) (td ty tx : TE) : TE := fun σ H Q => td σ H fun x H1 => ∃ M0 a l0, x = .ref a ∧ RC X.K X.w M0 H1 a (.dct l0) ∧ ty σ H1 fun y H2 => tx σ H2 fun z H3 => ∃ M b d k l, y = .ref b ∧ R X.K M H3 (.ref b) d ∧ keyD d = some k ∧ k.depth ≤ 8 ∧ RC X.K X.w M H3 a (.dct l) ∧ l.length ≤ 100000 ∧
  match dfind l d with
  | some q => ∀ v, R X.K M H3 v q → Q v H3
  | none => ∀ ob : Obj, (∀ zd, R X.K M H3 z zd → ∃ es ep xs, ob.ExactDict ∧ ob.data = .dict es ep ∧ es.toList = xs.map (entK X.w) ∧ (xs.map (·.1)).Nodup ∧ Paired (EntR X.K M H3) xs (dstore l d zd)) → Q z (upd H3 a (knownAt a ob))
section
variable {X : Cx} {pins : List (Addr × Obj)} {σ : St} {H : Hp} {M : MM} {s : Shared} {a b : Addr} {l : List (D × D)} {o e f : Expr} {td ty tx : TE} {apos cpos : Pos}
theorem dct_is (I : Inv X pins σ H s) (q : RC X.K X.w M H a (.dct l)) : s.TypeIs (.ref a) "dict" ∧ (∀ c, Value.ref a = .ref c → ∃ ob, s.heap.get? c = some ob ∧ ob.dict = none) := by
  obtain ⟨xs, hx, _, _⟩ := dct_of I q
  refine ⟨hx.typeIs, fun c z => ?_⟩
  cases z
  obtain ⟨ob, _, _, h1, h2, _⟩ := hx
  exact ⟨ob, h1, h2.2.1⟩
theorem pe_gorX (hu : X.A.units + 64 < cLine) (ho : PE X o td) (he : PE X e ty) (hf : PE X f tx) (m : M2 X o "get" apos e f cpos) : PE X (.Call (.Attribute o "get" apos) [e, f] [] cpos) (tGorX X td ty tx) := by
  refine ⟨fun pins s σ H Q I h => ?_⟩
  refine wpAny_Call_method m.base m.few m.line PySem.F.plainAttrs_dict PySem.F.slot_dict_get PySem.F.type_dict_get (thn (ho.run pins s σ H _ I h) fun u s1 ⟨x, H1, I1, rx, M0, a, l0, ex, rc0, q1⟩ => ?_)
  subst ex
  obtain rfl : u = Value.ref a := rx
  obtain ⟨t1, t2⟩ := dct_is I1 rc0
  refine ⟨t1, t2, ?_⟩
  rw [m.trees]
  refine Calls.callWith_builtin rfl (Calls.evalArgs_plain (Calls.spliced_cons (thn (he.run pins s1 σ H1 _ I1 q1) fun iv s2 ⟨y, H2, I2, ry, q2⟩ =>
    Calls.spliced_cons (thn (hf.run pins s2 σ H2 _ I2 q2) fun fv s3 ⟨z, H3, I3, rz, M, b, d, k, l, zd, ey, rk, hk, h8, rc, rzd, q3⟩ => Calls.spliced_nil ?_))))
  subst ey
  obtain rfl : iv = Value.ref b := ry
  obtain ⟨xs, hx, hp, hs⟩ := dct_of I3 rc
  refine PySem.getOr_keyed (room8 hu) (key_is I3 rk hk h8) hs ⟨xs, hx, rfl⟩ ?_
  have g := ent_find hk hp
  cases hd : dfind l d with
  | none =>
    rw [hd] at g q3
    rw [g]
    exact ⟨z, H3, I3.tok _, rz, q3 z rzd⟩
  | some y =>
    rw [hd] at g q3
    obtain ⟨w, v, e1, rv, r⟩ := g
    rw [e1]
    exact ⟨v, H3, I3.tok _, rv, q3 v r⟩
theorem pe_sdfX (hu : X.A.units + 64 < cLine) (ho : PE X o td) (he : PE X e ty) (hf : PE X f tx) (m : M2 X o "setdefault" apos e f cpos) : PE X (.Call (.Attribute o "setdefault" apos) [e, f] [] cpos) (tSdfX X td ty tx) := by
  refine ⟨fun pins s σ H Q I h => ?_⟩
  refine wpAny_Call_method m.base m.few m.line PySem.F.plainAttrs_dict PySem.F.slot_dict_setdefault PySem.F.type_dict_setdefault (thn (ho.run pins s σ H _ I h) fun u s1 ⟨x, H1, I1, rx, M0, a, l0, ex, rc0, q1⟩ => ?_)
  subst ex
  obtain rfl : u = Value.ref a := rx
  obtain ⟨t1, t2⟩ := dct_is I1 rc0
  refine ⟨t1, t2, ?_⟩
  rw [m.trees]
  refine Calls.callWith_builtin rfl (Calls.evalArgs_plain (Calls.spliced_cons (thn (he.run pins s1 σ H1 _ I1 q1) fun iv s2 ⟨y, H2, I2, ry, q2⟩ =>
    Calls.spliced_cons (thn (hf.run pins s2 σ H2 _ I2 q2) fun fv s3 ⟨z, H3, I3, rz, M, b, d, k, l, ey, rk, hk, h8, rc, hl, q3⟩ => Calls.spliced_nil ?_))))
  subst ey
  obtain rfl : iv = Value.ref b := ry
  obtain ⟨xs, hx, hp, hs⟩ := dct_of I3 rc
  have hm : H3 a = some (knownAt a _) := rc.choose_spec.choose_spec.choose_spec.choose_spec.1
  have g := ent_find hk hp
  rw [valueAt_pairsH] at g
  refine PySem.call_setdefault_heap (hsz := len_line (by rw [paired_len hp]; exact hl)) (room8 hu) (key_is I3 rk hk h8) hs hx (fun p hpk => ?_) fun hn h' hx' sb => ?_
  · cases hd : dfind l d with
    | none =>
      rw [hd] at g
      rw [Option.map_eq_none_iff.mp g] at hpk
      cases hpk
    | some y =>
      rw [hd] at g q3
      obtain ⟨w, v, e1, rv, r⟩ := g
      rw [hpk] at e1
      cases e1
      exact ⟨v, H3, I3.tok _, rv, q3 v r⟩
  · cases hd : dfind l d with
    | some y =>
      rw [hd] at g
      obtain ⟨w, v, e1, _⟩ := g
      rw [hn] at e1
      cases e1
    | none =>
      rw [hd] at q3
      obtain ⟨ob, es, ep, e, ex, dat, ent, _, nd⟩ := hx'
      exact ⟨z, _, I3.write (x := a) (e := a) (o := knownAt a ob) (by rw [hm]; exact True.intro) (.inl rfl) (fun c q hc z => (sb.2 c hc).trans z) ⟨_, e⟩ ⟨e, ⟨_, e⟩, fun h1 h2 f k => k _ f⟩, rz, q3 ob fun zd rzd => ⟨es, ep, _, ex, dat, ent, nd, ent_store hk h8 rk rz rzd hp⟩⟩
end
section
variable {N : En} {W : WX} {X : Cx} {M M' : MM} {H H' : Hp} {s : S} {σ : St} {o i e f value : Expr} {fo fk fe fx : Ex} {pos pos' apos cpos : Pos}
theorem se_newX (hw : N.w = X.w) : SE N W X (.Dict [] [] pos) eNewX := by
  refine ⟨_, pe_newX, fun M s σ H Q rl q => fun p ob np hp hx hd => ?_⟩
  obtain ⟨rc, e⟩ := rl.toRelC.laidO (o := knownAt p ob) known_ne np
  have r1 := rl.laidO (o := knownAt p ob) known_ne np
  have fr : Fresh M H p := ⟨rl.toRelC.fresh np, fun o z => by rw [np] at z; cases z⟩
  exact q _ _ (e.ownW fr) (r1.newCellG own1_same fun M' _ => ⟨ob, #[], 0, [], upd_same, hp, hx, hd, rfl, List.nodup_nil, .nil⟩) _ (.cell own1_same)
theorem rc_put {n : Nat} {a : Addr} {l l' : List (D × D)} {ob : Obj} (m : M a = some (.cell n)) (rc : RC N.K N.w M H a (.dct l)) (h : ∃ es ep xs, ob.ExactDict ∧ ob.data = .dict es ep ∧ es.toList = xs.map (entK N.w) ∧ (xs.map (·.1)).Nodup ∧ Paired (EntR N.K M H) xs l') : RC N.K N.w M (upd H a (knownAt a ob)) a (.dct l') := by
  obtain ⟨o, _, _, _, _, hs, _⟩ := rc
  obtain ⟨es, ep, xs, h1, h2, h3, h4, h5⟩ := h
  have e0 := ext0_upd (H := H) (o := knownAt a ob) m
  exact ⟨ob, es, ep, xs, upd_same, hs, h1, h2, h3, h4, Paired.mapP h5 fun x q ⟨k1, k2, k3, v, k4, k5⟩ => ⟨k1, k2, e0.r k3, v, k4, e0.r k5⟩⟩
theorem ss_putX (hK : N.K = X.K) (hw : N.w = X.w) (hu : X.A.units + 64 < cLine) (ho : SE N W X o fo) (hi : SE N W X i fk) (hv : SE N W X value fe) (hs : swapsWith value (some (.Subscript o i pos')) pos.line X.env = pure false := by rfl) : SS N W X (.Assign [.Subscript o i pos'] value pos) (sPutXd fo fk fe) := by
  obtain ⟨ta, pa, sa⟩ := ho
  obtain ⟨tb, pb, sb⟩ := hi
  obtain ⟨tc, pc, sc⟩ := hv
  refine ⟨_, ps_putX hu pa pb pc hs, fun M s σ H D rl q => sc M s σ H _ rl (q.bindE.imp fun M1 H1 z s1 e1 r1 q1 zv hz => sa M1 s1 σ H1 _ r1 (q1.bindE.imp fun M2 H2 x s2 e2 r2 q2 xv hx => sb M2 s2 σ H2 _ r2 (q2.bindE.imp fun M3 H3 d s3 e3 r3 q3 yv hy => ?_)))⟩
  split at q3
  · rename_i n
    split at q3
    · rename_i l hc
      split at q3
      · rename_i k hk
        split at q3
        · rename_i h8
          obtain ⟨a, rfl, m, rc⟩ := cellX_at r3 (e3.r hx) hc
          obtain ⟨⟨b, rfl⟩, hk⟩ := keyT_ref hy hk
          have hn := (List.getElem?_eq_some_iff.mp hc).1
          refine ⟨M3, b, a, d, k, l, rfl, rfl, hK ▸ hy, hk, h8.1, hK ▸ hw ▸ rc, h8.2, fun ob hob => ?_⟩
          have hob := hob z (hK ▸ (e2.trans e3).r hz)
          rw [← hK, ← hw] at hob
          exact q3.at (ext_updG r3.toRelC known_ne m) (r3.updG known_ne hn m (rc_put m rc hob))
        · exact q3.elim
      · exact q3.elim
    · exact q3.elim
  · exact q3.elim
theorem se_gorX (hK : N.K = X.K) (hw : N.w = X.w) (hu : X.A.units + 64 < cLine) (ho : SE N W X o fo) (he : SE N W X e fk) (hf : SE N W X f fx) (m : M2 X o "get" apos e f cpos) : SE N W X (.Call (.Attribute o "get" apos) [e, f] [] cpos) (eGorX fo fk fx) := by
  obtain ⟨ta, pa, sa⟩ := ho
  obtain ⟨tb, pb, sb⟩ := he
  obtain ⟨tc, pc, sc⟩ := hf
  refine ⟨_, pe_gorX hu pa pb pc m, fun M s σ H Q rl q => sa M s σ H _ rl (q.bind.imp fun M1 H1 x s1 e1 r1 q1 xv hx => ?_)⟩
  split at q1
  · rename_i n
    split at q1
    · rename_i l0 hc0
      obtain ⟨a, rfl, m0, rc0⟩ := cellX_at r1 hx hc0
      refine ⟨M1, a, l0, rfl, hK ▸ hw ▸ rc0, sb M1 s1 σ H1 _ r1 (q1.bind.imp fun M2 H2 d s2 e2 r2 q2 yv hy => sc M2 s2 σ H2 _ r2 (q2.bind.imp fun M3 H3 z s3 e3 r3 q3 zv hz => ?_))⟩
      split at q3
      · rename_i l hc
        split at q3
        · rename_i k hk
          split at q3
          · rename_i h8
            obtain ⟨a2, ea, m2, rc⟩ := cellX_at r3 (.cell (e3.cell _ _ (e2.cell _ _ m0))) hc
            cases ea
            obtain ⟨⟨b, rfl⟩, hk⟩ := keyT_ref hy hk
            exact ⟨M3, b, d, k, l, z, rfl, hK ▸ e3.r hy, hk, h8, hK ▸ hw ▸ rc, hK ▸ hz, fun v hv => q3.here r3 _ (hK.symm ▸ hv)⟩
          · exact q3.elim
        · exact q3.elim
      · exact q3.elim
    · exact q1.elim
  · exact q1.elim
theorem se_sdfX (hK : N.K = X.K) (hw : N.w = X.w) (hu : X.A.units + 64 < cLine) (ho : SE N W X o fo) (he : SE N W X e fk) (hf : SE N W X f fx) (m : M2 X o "setdefault" apos e f cpos) : SE N W X (.Call (.Attribute o "setdefault" apos) [e, f] [] cpos) (eSdfX fo fk fx) := by
  obtain ⟨ta, pa, sa⟩ := ho
  obtain ⟨tb, pb, sb⟩ := he
  obtain ⟨tc, pc, sc⟩ := hf
  refine ⟨_, pe_sdfX hu pa pb pc m, fun M s σ H Q rl q => sa M s σ H _ rl (q.bind.imp fun M1 H1 x s1 e1 r1 q1 xv hx => ?_)⟩
  split at q1
  · rename_i n
    split at q1
    · rename_i l0 hc0
      obtain ⟨a, rfl, m0, rc0⟩ := cellX_at r1 hx hc0
      refine ⟨M1, a, l0, rfl, hK ▸ hw ▸ rc0, sb M1 s1 σ H1 _ r1 (q1.bind.imp fun M2 H2 d s2 e2 r2 q2 yv hy => sc M2 s2 σ H2 _ r2 (q2.bind.imp fun M3 H3 z s3 e3 r3 q3 zv hz => ?_))⟩
      split at q3
      · rename_i l hc
        split at q3
        · rename_i k hk
          split at q3
          · rename_i h8
            obtain ⟨a2, ea, m2, rc⟩ := cellX_at r3 (.cell (e3.cell _ _ (e2.cell _ _ m0))) hc
            cases ea
            obtain ⟨⟨b, rfl⟩, hk⟩ := keyT_ref hy hk
            have hn := (List.getElem?_eq_some_iff.mp hc).1
            refine ⟨M3, b, d, k, l, rfl, hK ▸ e3.r hy, hk, h8.1, hK ▸ hw ▸ rc, h8.2, ?_⟩
            cases hd : dfind l d with
            | some y =>
              rw [hd] at q3
              exact fun v hv => q3.here r3 _ (hK.symm ▸ hv)
            | none =>
              rw [hd] at q3
              intro ob hob
              have hob := hob z (hK ▸ hz)
              rw [← hK, ← hw] at hob
              have e4 := ext_updG (o' := knownAt a ob) r3.toRelC known_ne m2
              exact q3 _ _ e4 (r3.updG known_ne hn m2 (rc_put m2 rc hob)) _ (e4.r hz)
          · exact q3.elim
        · exact q3.elim
      · exact q3.elim
    · exact q1.elim
  · exact q1.elim
end
end Z
/-! ## e.append(x), e a cell; exact sameness of plain values -/
namespace Z
open PySem PySem.Spec L2 GxR
open PyProof.Rows hiding St
section
variable {N : En} {W : WX} {X : Cx} {M M' : MM} {H H' : Hp} {s : S} {σ : St} {o e : Expr} {fo fe : Ex} {pos apos cpos : Pos}
theorem ss_appC (ho : SE N W X o fo) (he : SE N W X e fe)
    (hbase : attributeBase o "append" X.env (eval o X.env) = eval o X.env := by rfl)
    (hfew : ((backTo cpos (starEach [e] X.env)).all (fun x => !x.1) && (backToKw cpos (keywordEach [] X.env)).all (fun x => x.1.isSome) && decide ([e].length + ([] : List Keyword).length + (if ([] : List Keyword).isEmpty then 0 else 1) < 30)) = true := by rfl)
    (hline : (apos.endLine == cpos.line) = true := by rfl) (hs : starEach [e] X.env = (false, eval e X.env) :: starEach [] X.env := by rfl) (hplain : (backTo cpos (starEach [] X.env)).any (·.1) = false := by rfl)
    (hsw : swapsWith (.Call (.Attribute o "append" apos) [e] [] cpos) none pos.line X.env = pure false := by rfl) : SS N W X (.Expr (.Call (.Attribute o "append" apos) [e] [] cpos) pos) (sAppC fo fe) := by
  obtain ⟨t, pt, h⟩ := he
  obtain ⟨u, pu, h0⟩ := ho
  refine ⟨_, ps_expr (pe_bm PySem.F.plainAttrs_list PySem.F.slot_list_append PySem.F.type_list_append mt_append pu (pa_cons pt pa_nil hs) hbase hfew hline hs hplain) hsw, fun M s σ H D rl q => h0 M s σ H _ rl (q.bindE.imp fun M1 H1 x s1 e1 r1 q1 xv hx => ?_)⟩
  split at q1
  · rename_i n
    split at q1
    · rename_i l0 hc0
      obtain ⟨a, xs, rfl, m, k2, k3⟩ := cell_at r1 hx hc0
      refine ⟨.inl ⟨rfl, xs, .of k2⟩, ?_⟩
      refine h M1 s1 σ H1 _ r1 (q1.bindE.imp fun M2 H2 d s2 e2 r2 q2 v hv => ?_)
      split at q2
      · rename_i l hc
        split at q2
        · rename_i hl
          obtain ⟨b, ys, eb, m1, j2, j3⟩ := cell_at r2 (.cell (e2.cell _ _ m)) hc
          cases eb
          have hn := (List.getElem?_eq_some_iff.mp hc).1
          refine ⟨a, ys, v, rfl, rfl, j2, lt_line (by rw [j3.length]; exact hl), ?_⟩
          exact q2.at (ext_updC r2.toRelC m1) (r2.updC hn m1 (j3.append (.cons hv .nil)))
        · exact q2.elim
      · exact q2.elim
    · exact q1.elim
  · exact q1.elim
end
mutual
def sameD : D → D → Bool
  | .non, .non => true
  | .bl a, .bl b => a == b
  | .int a, .int b => a == b
  | .str a, .str b => a == b
  | .tup l, .tup m => sameDs l m
  | .lst l, .lst m => sameDs l m
  | .cell a, .cell b => a == b
  | _, _ => false
def sameDs : List D → List D → Bool
  | [], [] => true
  | d :: l, e :: m => sameD d e && sameDs l m
  | _, _ => false
end
mutual
theorem same_eq : ∀ (d e : D), sameD d e = true → d = e
  | .non, e, h => by cases e <;> first | rfl | (simp [sameD] at h)
  | .bl a, e, h => by cases e <;> first | (simp [sameD] at h; rw [h]) | (simp [sameD] at h)
  | .int a, e, h => by cases e <;> first | (simp [sameD] at h; rw [h]) | (simp [sameD] at h)
  | .str a, e, h => by cases e <;> first | (simp [sameD] at h; rw [h]) | (simp [sameD] at h)
  | .tup l, e, h => by
    cases e with
    | tup m => rw [sames_eq l m (by simpa [sameD] using h)]
    | _ => simp [sameD] at h
  | .lst l, e, h => by
    cases e with
    | lst m => rw [sames_eq l m (by simpa [sameD] using h)]
    | _ => simp [sameD] at h
  | .cell a, e, h => by cases e <;> first | (simp [sameD] at h; rw [h]) | (simp [sameD] at h)
  | .scr _, _, h => by simp [sameD] at h
  | .rng _ _, _, h => by simp [sameD] at h
  | .fn _, _, h => by simp [sameD] at h
  | .dic _, _, h => by simp [sameD] at h
  | .ft _, _, h => by simp [sameD] at h
theorem sames_eq : ∀ (l m : List D), sameDs l m = true → l = m
  | [], [], _ => rfl
  | [], _ :: _, h => by simp [sameDs] at h
  | _ :: _, [], h => by simp [sameDs] at h
  | d :: l, e :: m, h => by
    rw [sameDs, Bool.and_eq_true] at h
    rw [same_eq d e h.1, sames_eq l m h.2]
end
end Z
/-! ## what an instance keeps for itself: a dict of what was once worked out; lists that are not written any more -/
namespace Z
open PySem PySem.Spec L2 GxR
open PyProof.Rows hiding St
def MemoOk (T : D) (l : List (D × D)) : Prop := (l.map fun q => kcode q.1).Nodup ∧ ∀ q ∈ l, aboveD T q.1 = some q.2 ∧ cLt 0 q.1 = true ∧ cLt 0 q.2 = true
section
variable {N : En} {M M' : MM} {H H' : Hp} {cs : List Cell} {k : Nat} {T : D} {l : List (D × D)} {c' : Cell}
theorem RelC.put (r : RelC N M cs H) (hk : k < cs.length) (q : ∃ a, M a = some (.cell k) ∧ RC N.K N.w M H a c') : RelC N M (cs.set k c') H where
  cell := fun n x hx => by
    by_cases z : k = n
    · subst z
      rw [List.getElem?_set_self hk] at hx
      cases hx
      exact q
    · rw [List.getElem?_set_ne z] at hx
      exact r.cell n x hx
  uniq := r.uniq
  csz := fun a n m => by rw [List.length_set]; exact r.csz a n m
  mdom := r.mdom
  tabs := r.tabs
theorem RelC.toDct (r : RelC N M cs H) (h : cs[k]? = some (.memo T)) : ∃ l, RelC N M (cs.set k (.dct l)) H ∧ MemoOk T l := by
  obtain ⟨a, m, l, q, hp⟩ := r.cell k _ h
  exact ⟨l, r.put (List.getElem?_eq_some_iff.mp h).1 ⟨a, m, q⟩, hp⟩
theorem RelC.toMemo (r : RelC N M cs H) (h : cs[k]? = some (.dct l)) (hl : MemoOk T l) : RelC N M (cs.set k (.memo T)) H := by
  obtain ⟨a, m, q⟩ := r.cell k _ h
  exact r.put (List.getElem?_eq_some_iff.mp h).1 ⟨a, m, l, q, hl⟩
end
/-- a promise in other words: with a dict in the place of what is kept -/
theorem fn_memo {N : En} {P : Program} {w : World} {mg : Str → Option Value} {base : Heap} {K : PySem.W.Frag} {CX : CXT} {j n : Nat} {f : Addr} {fd : FuncData} {ps : List Str} {F F' : Fn} (G : FnOk P w K mg base CX j f fd ps (spOf N n F))
    (h : ∀ ds cs, F' ds cs ≠ .stuck → ∃ k T, cs[k]? = some (.memo T) ∧ ∀ l, MemoOk T l → ∃ d l', MemoOk T l' ∧ F ds (cs.set k (.dct l)) = .ok d ⟨[], cs.set k (.dct l')⟩ ∧ F' ds cs = .ok d ⟨[], cs⟩) : FnOk P w K mg base CX j f fd ps (spOf N n F') :=
  G.imp fun vs H Q E q => by
    obtain ⟨M, ds, cs, rc, ha, hl, g⟩ := q
    obtain ⟨k, T, hk, hh⟩ := h ds cs fun z => by rw [z] at g; exact g
    obtain ⟨l, rc2, hm⟩ := rc.toDct hk
    obtain ⟨d, l', hm', e1, e2⟩ := hh l hm
    refine ⟨M, ds, _, rc2, ha, hl, ?_⟩
    rw [e1]
    rw [e2] at g
    intro M' H' v e r hv
    have hlt := (List.getElem?_eq_some_iff.mp hk).1
    have r2 := RelC.toMemo (T := T) r (k := k) (l := l') (List.getElem?_set_self hlt) hm'
    rw [List.set_set] at r2
    have e3 : cs.set k (.memo T) = cs := by
      apply List.ext_getElem?
      intro i
      by_cases z : k = i
      · subst z; rw [List.getElem?_set_self hlt, hk]
      · rw [List.getElem?_set_ne z]
    rw [e3] at r2
    exact g M' H' v e r2 hv
/-! ### lists that are not written any more -/
def cLtB (n : Nat) : Cell → Bool
  | .lst l => cLts n l
  | .dic _ => true
  | .ins _ l => l.all fun q => cLt n q.2
  | .dct l => l.all fun q => cLt n q.1 && cLt n q.2
  | .memo _ => true
def frzD (m : Nat) (cs : List Cell) (d : D) : D := match d with
  | .cell j => if m ≤ j then (match cs[j]? with
    | some (.lst xs) => .lst xs
    | _ => d) else d
  | _ => d
def frzC (m : Nat) (cs : List Cell) : Cell → Cell
  | .dct l => .dct (l.map fun q => (q.1, frzD m cs q.2))
  | c => c
def frzOkD (m : Nat) (cs : List Cell) (d : D) : Bool := cLt m d || (match d with
  | .cell j => decide (m ≤ j) && (match cs[j]? with
    | some (.lst xs) => cLts m xs
    | _ => false)
  | _ => false)
def frzOk (m : Nat) (cs : List Cell) : Cell → Bool
  | .dct l => l.all fun q => cLt m q.1 && frzOkD m cs q.2
  | c => cLtB m c
def MM.frz (M : MM) (m : Nat) : MM := fun a => match M a with
  | some (.cell k) => if k < m then some (.cell k) else none
  | x => x
section
variable {N : En} {M M' : MM} {H H' : Hp} {cs : List Cell} {m : Nat} {l : List (D × D)} {c : Cell}
theorem frz_none {a : Addr} : M a = none → M.frz m a = none := fun e => by
  unfold MM.frz
  rw [e]
theorem frz_lt {a : Addr} {k : Nat} (h : k < m) (e : M a = some (.cell k)) : M.frz m a = some (.cell k) := by
  unfold MM.frz
  rw [e]
  exact if_pos h
theorem frz_ge {a : Addr} {k : Nat} (h : m ≤ k) (e : M a = some (.cell k)) : M.frz m a = none := by
  unfold MM.frz
  rw [e]
  exact if_neg (by omega)
theorem of_frz {a : Addr} {k : Nat} (e : M.frz m a = some (.cell k)) : M a = some (.cell k) ∧ k < m := by
  unfold MM.frz at e
  split at e
  · rename_i j h
    split at e
    · rename_i hj
      cases e
      exact ⟨h, hj⟩
    · cases e
  · rename_i h
    exact absurd e (h k)
theorem cLtB_C (h : cLtB m c = true) : cLtC m c := by
  cases c with
  | lst l => exact h
  | dic l => exact True.intro
  | ins c l =>
    intro f d _ hd
    unfold lookF at hd
    obtain ⟨q, hq, rfl⟩ := Option.map_eq_some_iff.mp hd
    exact List.all_eq_true.mp h q (List.mem_of_find?_eq_some hq)
  | dct l =>
    intro q hq
    have := List.all_eq_true.mp h q hq
    rw [Bool.and_eq_true] at this
    exact this
  | memo T => exact True.intro
theorem keep_frz {K : PySem.W.Frag} {v : V} {d : D} (h : R K M H v d) (o : cLt m d = true) : R K (M.frz m) H v d := (keep_ra (n := m) (fun _ => frz_none) (fun _ _ => frz_lt)).1 _ _ h o
theorem keep_frzs {K : PySem.W.Frag} {v : List V} {d : List D} (h : RA K M H v d) (o : cLts m d = true) : RA K (M.frz m) H v d := (keep_ra (n := m) (fun _ => frz_none) (fun _ _ => frz_lt)).2 _ _ h o
theorem frz_val (r : RelC N M cs H) {v : V} {d : D} (h : R N.K M H v d) (o : frzOkD m cs d = true) : R N.K (M.frz m) H v (frzD m cs d) := by
  unfold frzOkD at o
  rw [Bool.or_eq_true] at o
  by_cases z : cLt m d = true
  · have e : frzD m cs d = d := by
      unfold frzD
      split
      · rename_i j
        have hj : j < m := of_decide_eq_true z
        rw [if_neg (by omega)]
      · rfl
    rw [e]
    exact keep_frz h z
  · rcases o with o | o
    · exact absurd o z
    · cases d with
      | cell j =>
        dsimp only at o
        rw [Bool.and_eq_true] at o
        have hj : m ≤ j := of_decide_eq_true o.1
        have o2 := o.2
        unfold frzD
        dsimp only
        rw [if_pos hj]
        split at o2
        · rename_i xs hxs
          cases h with
          | cell m1 =>
            obtain ⟨b, m2, ys, h1, h2⟩ := r.cell j _ hxs
            have := r.uniq _ _ j m2 m1
            subst this
            exact .lst (frz_ge hj m1) h1 (keep_frzs h2 o2)
        · cases o2
      | _ => cases o
theorem RelC.frz (r : RelC N M cs H) (hm : m ≤ cs.length) (ok : ∀ c ∈ cs.take m, frzOk m cs c = true) : RelC N (M.frz m) ((cs.take m).map (frzC m cs)) H where
  cell := fun n c h => by
    rw [List.getElem?_map] at h
    obtain ⟨c0, h1, rfl⟩ := Option.map_eq_some_iff.mp h
    have hn : n < m := by
      have := (List.getElem?_eq_some_iff.mp h1).1
      rw [List.length_take] at this
      omega
    have o := ok c0 (List.mem_of_getElem? h1)
    rw [List.getElem?_take_of_lt hn] at h1
    obtain ⟨a, ma, q⟩ := r.cell n c0 h1
    refine ⟨a, frz_lt hn ma, ?_⟩
    cases c0 with
    | dct l =>
      obtain ⟨ob, es, ep, xs, k0, k1, k2, k3, k4, k5, k⟩ := q
      refine ⟨ob, es, ep, xs, k0, k1, k2, k3, k4, k5, ?_⟩
      have : ∀ {xs : List (NestedKey × Addr × Value)} {l : List (D × D)}, Paired (EntR N.K M H) xs l → (∀ q ∈ l, (cLt m q.1 && frzOkD m cs q.2) = true) → Paired (EntR N.K (M.frz m) H) xs (l.map fun q => (q.1, frzD m cs q.2)) := by
        intro xs l p
        induction p with
        | nil => exact fun _ => .nil
        | cons rr _ ih =>
          intro o
          obtain ⟨e1, e2, e3, v, e4, e5⟩ := rr
          have o1 := o _ List.mem_cons_self
          rw [Bool.and_eq_true] at o1
          exact .cons ⟨e1, e2, keep_frz e3 o1.1, v, e4, frz_val r e5 o1.2⟩ (ih fun q hq => o q (List.mem_cons_of_mem _ hq))
      exact this k (List.all_eq_true.mp o)
    | lst l => exact RC.keepC (n := m) (fun _ => frz_none) (fun _ _ => frz_lt) (cLtB_C (c := .lst l) o) q
    | dic l => exact q
    | ins c l => exact RC.keepC (n := m) (fun _ => frz_none) (fun _ _ => frz_lt) (cLtB_C (c := .ins c l) o) q
    | memo T => exact RC.keepC (c := .memo T) (n := m) (fun _ => frz_none) (fun _ _ => frz_lt) True.intro q
  uniq := fun a b n h1 h2 => r.uniq a b n (of_frz h1).1 (of_frz h2).1
  csz := fun a n h => by
    rw [List.length_map, List.length_take, Nat.min_eq_left hm]
    exact (of_frz h).2
  mdom := fun a w h => by
    cases e : M a with
    | none => rw [frz_none e] at h; cases h
    | some u => exact r.mdom a u e
  tabs := r.tabs
theorem Ext.frz {M0 : MM} {H0 : Hp} (h : ∀ a k, M0 a = some (.cell k) → k < m) (e : Ext M0 H0 M H) : Ext M0 H0 (M.frz m) H where
  keep := fun a o h1 h2 n => let ⟨k1, k2⟩ := e.keep a o h1 h2 n; ⟨k1, frz_none k2⟩
  cell := fun a n e1 => frz_lt (h a n e1) (e.cell a n e1)
  tab := e.tab
  far := fun a e1 => by
    obtain ⟨k1, k2⟩ := e.far a e1
    refine ⟨?_, k2⟩
    unfold MM.frz
    rw [k1]
  dom := e.dom
end
/-- F makes three dicts behind the cells there are, and lists behind these: the lists become values, the last dict what is kept for the first argument's table -/
def pubF (F : Fn) : Fn := fun ds cs => match ds, F ds cs with
  | [_, T, _], .ok .non s => if cs.length + 3 ≤ s.cs.length ∧ ((s.cs.take (cs.length + 3)).all fun c => frzOk (cs.length + 3) s.cs c) = true then (match s.cs[cs.length + 2]? with
    | some (.dct []) => .ok .non ⟨[], ((s.cs.take (cs.length + 3)).map (frzC (cs.length + 3) s.cs)).set (cs.length + 2) (.memo T)⟩
    | _ => .stuck) else .stuck
  | _, _ => .stuck
theorem fn_pub {N : En} {P : Program} {w : World} {mg : Str → Option Value} {base : Heap} {K : PySem.W.Frag} {CX : CXT} {j n : Nat} {f : Addr} {fd : FuncData} {ps : List Str} {F : Fn} (G : FnOk P w K mg base CX j f fd ps (spOf N n F)) : FnOk P w K mg base CX j f fd ps (spOf N n (pubF F)) :=
  G.imp fun vs H Q E q => by
    obtain ⟨M, ds, cs, rc, ha, hl, g⟩ := q
    refine ⟨M, ds, cs, rc, ha, hl, ?_⟩
    unfold pubF at g
    split at g
    · rename_i a T b s hF
      rw [hF]
      split at g
      · rename_i hc
        split at g
        · rename_i hd
          intro M' H' v e r hv
          cases hv
          have r1 := r.frz hc.1 (List.all_eq_true.mp hc.2)
          have e1 : (((s.cs.take (cs.length + 3)).map (frzC (cs.length + 3) s.cs)))[cs.length + 2]? = some (.dct []) := by
            rw [List.getElem?_map, List.getElem?_take_of_lt (by omega), hd]
            rfl
          exact g (M'.frz (cs.length + 3)) H' .non (e.frz fun a k m => by have := rc.csz a k m; omega) (r1.toMemo e1 ⟨List.nodup_nil, fun q hq => nomatch hq⟩) .non
        · exact g.elim
      · exact g.elim
    · exact g.elim
end Z
/-! ## walks over lists that are cells, comprehensions with two clauses -/
namespace Z
open PySem PySem.Spec L2 GxR
open PyProof.Rows hiding St
/-- what is walked, and the cell that it is, if it is one -/
abbrev Ig := S → Res (List D × Option Nat)
def gdC (w : Option Nat) (ds : List D) (cs : List Cell) : Bool := match w with
  | none => true
  | some n => (match cs[n]? with
    | some (.lst l) => sameDs l ds
    | _ => false)
def StepsG (N : En) (M0 : MM) (H0 : Hp) (J : It) (ds : List D) (w : Option Nat) : Prop := ∀ M H cs, Ext0 M0 H0 M H → RelC N M cs H → gdC w ds cs = true → ∀ i : Nat, (ds.length ≤ i → J.stop i H) ∧
  ∀ d, ds[i]? = some d → J.go i H ∧ ∀ x H', J.yld i H x H' → Same H H' ∧ R N.K M H' x d
def SimIg (N : En) (W : WX) (t : TI) (f : Ig) : Prop := ∀ M s σ H Q, Rel N M s σ H → GoodE N W σ M H (f s) (fun M' H' x _ => ∀ J, StepsG N M' H' J x.1 x.2 → Q J H') → t σ H Q
def SIg (N : En) (W : WX) (X : Cx) (tg it : Expr) (f : Ig) : Prop := ∃ t, PI X tg it t ∧ SimIg N W t f
/-- a tuple, a list, or a list that is a cell -/
def igK (x : D) (s : S) : Res (List D × Option Nat) := match x with
  | .tup l => .ok (l, none) s
  | .lst l => .ok (l, none) s
  | .cell n => (match s.cs[n]? with
    | some (.lst l) => .ok (l, some n) s
    | _ => .stuck)
  | _ => .stuck
def igD (f : Ex) : Ig := fun s => (f s).bind igK
def compG (w : Option Nat) (ds0 : List D) (vs : List Nat) (g : Tg) (t : Ts) (f : Ex) : List D → S → Res (List D)
  | [], s => if gdC w ds0 s.cs = true then .ok [] s else .stuck
  | d :: ds, s => if gdC w ds0 s.cs = true then ((g d (wipeS vs s)).bind fun _ s1 => (t s1).bind fun b s2 => if b = true then ((f s2).bind fun y s3 => (compG w ds0 vs g t f ds s3).bind fun ys s4 => .ok (y :: ys) s4) else compG w ds0 vs g t f ds s2) else .stuck
def comp2 (w : Option Nat) (ds0 : List D) (vs vs1 : List Nat) (g : Tg) (t : Ts) (fi1 : Ig) (g1 : Tg) (t1 : Ts) (f : Ex) : List D → S → Res (List D)
  | [], s => if gdC w ds0 s.cs = true then .ok [] s else .stuck
  | d :: ds, s => if gdC w ds0 s.cs = true then ((g d (wipeS vs s)).bind fun _ s1 => (t s1).bind fun b s2 => if b = true then ((fi1 s2).bind fun p s3 => if p.1.length ≤ 300 then ((compG p.2 p.1 vs1 g1 t1 f p.1 s3).bind fun ys s4 => (comp2 w ds0 vs vs1 g t fi1 g1 t1 f ds s4).bind fun zs s5 => .ok (ys ++ zs) s5) else .stuck) else comp2 w ds0 vs vs1 g t fi1 g1 t1 f ds s2) else .stuck
def aLc2 (vs vs1 : List Nat) (fi : Ig) (g : Tg) (t : Ts) (fi1 : Ig) (g1 : Tg) (t1 : Ts) (f : Ex) : As := fun s => (fi s).bind fun p s1 => if p.1.length ≤ 300 then ((comp2 p.2 p.1 vs vs1 g t fi1 g1 t1 f p.1 s1).nox.bind fun ys s2 => .ok ys (restS vs s1 s2)) else .stuck
section
variable {N : En} {W : WX} {X : Cx} {M M' : MM} {H H' : Hp} {s : S} {σ : St}
theorem Res.bind_assoc {α β γ : Type} (r : Res α) (k : α → S → Res β) (j : β → S → Res γ) : (r.bind k).bind j = r.bind fun a s => (k a s).bind j := by cases r <;> rfl
theorem stepsG_rng {lo hi : Int} : StepsG N M H (Itr lo (hi - lo).toNat) (rngL lo hi) none := fun M2 H2 cs e rc _ i => steps_rng (M := M2) (H := H2) M2 H2 cs (Ext.refl _ _) rc i
def ig1 (f : As) : Ig := fun s => (f s).bind fun x s1 => match x with
  | [.int j] => if -(2 ^ 62) ≤ j ∧ j < 2 ^ 62 then .ok (rngL 0 j, none) s1 else .stuck
  | _ => .stuck
def igV (f : Ex) : Ig := fun s => (f s).bind fun x s1 => match x with
  | .rng i j => if -(2 ^ 62) ≤ i ∧ i < 2 ^ 62 ∧ -(2 ^ 62) ≤ j ∧ j < 2 ^ 62 then .ok (rngL i j, none) s1 else .stuck
  | _ => .stuck
theorem sig_rngV {tg e : Expr} {fe : Ex} (h : SE N W X e fe) : SIg N W X tg e (igV fe) := by
  obtain ⟨t, pt, h⟩ := h
  refine ⟨_, GXX.pi_rngV pt, fun M s σ H Q rl q => h M s σ H _ rl (q.bind.imp fun M1 H1 x s1 e1 r1 q1 v h1 => ?_)⟩
  split at q1
  · split at q1
    · rename_i i j hj
      cases h1 with
      | rng m h2 => exact ⟨_, i, j, rfl, h2, hj, q1.here r1 _ stepsG_rng⟩
    · exact q1.elim
  · exact q1.elim
theorem good_ifb {α β : Type} {c : Prop} [Decidable c] {r : Res α} {k : α → S → Res β} {Φ : MM → Hp → St → β → S → Prop} (q : GoodS N W M H ((if c then r else .stuck).bind k) Φ) : c ∧ GoodS N W M H (r.bind k) Φ := by
  split at q
  · rename_i h; exact ⟨h, q⟩
  · exact q.elim
def canIg (N : En) (W : WX) (f : Ig) : TI := fun σ H Q => ∃ M s, Rel N M s σ H ∧ GoodE N W σ M H (f s) (fun M' H' x _ => ∀ J, StepsG N M' H' J x.1 x.2 → Q J H')
theorem SIg.can {tg iter : Expr} {f : Ig} (h : SIg N W X tg iter f) : PI X tg iter (canIg N W f) := by
  obtain ⟨t, p, q⟩ := h
  exact ⟨fun pins s σ H Q I hw => by
    obtain ⟨M, s', r, g⟩ := hw
    exact p.run pins s σ H Q I (q M s' σ H Q r g)⟩
theorem sim_canIg {f : Ig} : SimIg N W (canIg N W f) f := fun M s _ _ _ r g => ⟨M, s, r, g⟩
/-! ### for -/
/-! ### comprehensions -/
theorem compG_gd {w : Option Nat} {ds0 : List D} {vs : List Nat} {g : Tg} {t : Ts} {f : Ex} {β : Type} {k : List D → S → Res β} {Φ : MM → Hp → St → β → S → Prop} : ∀ {l : List D}, GoodS N W M H ((compG w ds0 vs g t f l s).bind k) Φ → gdC w ds0 s.cs = true
  | [], q => by
    rw [compG] at q
    by_cases c : gdC w ds0 s.cs = true
    · exact c
    · rw [if_neg c] at q; exact q.elim
  | _ :: _, q => by
    rw [compG] at q
    by_cases c : gdC w ds0 s.cs = true
    · exact c
    · rw [if_neg c] at q; exact q.elim
theorem comp2_gd {w : Option Nat} {ds0 : List D} {vs vs1 : List Nat} {g : Tg} {t : Ts} {fi1 : Ig} {g1 : Tg} {t1 : Ts} {f : Ex} {β : Type} {k : List D → S → Res β} {Φ : MM → Hp → St → β → S → Prop} : ∀ {l : List D}, GoodS N W M H ((comp2 w ds0 vs vs1 g t fi1 g1 t1 f l s).bind k) Φ → gdC w ds0 s.cs = true
  | [], q => by
    rw [comp2] at q
    by_cases c : gdC w ds0 s.cs = true
    · exact c
    · rw [if_neg c] at q; exact q.elim
  | _ :: _, q => by
    rw [comp2] at q
    by_cases c : gdC w ds0 s.cs = true
    · exact c
    · rw [if_neg c] at q; exact q.elim
theorem sim_lc2 {wi wi1 : TI} {fi fi1 : Ig} {g g1 : TG} {fg fg1 : Tg} {ts ts1 vs vs1 : List Nat} {tt tt1 : TT} {ft ft1 : Ts} {te : TE} {fe : Ex} (hsub : ∀ σ σ' : St, wipe σ' ts = wipe σ ts → wipe σ' vs = wipe σ vs) (hsub1 : ∀ σ σ' : St, wipe σ' ts1 = wipe σ ts1 → wipe σ' vs1 = wipe σ vs1) (hvv : ∀ σ σ' : St, wipe σ' vs1 = wipe σ vs1 → wipe σ' vs = wipe σ vs)
    (hi : SimIg N W wi fi) (hg : SimG N WF g fg ts) (ht : SimT N WF tt ft) (hi1 : SimIg N WF wi1 fi1) (hg1 : SimG N WF g1 fg1 ts1) (ht1 : SimT N WF tt1 ft1) (he : SimE N WF te fe) :
    SimF N W (tLc2 wi g tt wi1 g1 tt1 te vs vs1) (aLc2 vs vs1 fi fg ft fi1 fg1 ft1 fe) := fun M s σ H Q rl q => by
  refine hi M s σ H _ rl ?_
  unfold aLc2 at q
  cases hfi : fi s with
  | stuck => rw [hfi] at q; exact q.elim
  | exc c d s1 => rw [hfi] at q; exact q
  | ok p s1 =>
    obtain ⟨ds, w⟩ := p
    rw [hfi] at q
    have q : GoodE N W σ M H (if ds.length ≤ 300 then ((comp2 w ds vs vs1 fg ft fi1 fg1 ft1 fe ds s1).nox.bind fun ys s2 => .ok ys (restS vs s1 s2)) else .stuck) _ := q
    split at q
    case isFalse => exact q.elim
    rename_i hlen
    refine fun M1 H1 e1 r1 J st D np => ?_
    have fr : Fresh M1 H1 D := ⟨r1.toRelC.fresh np, fun o z => by rw [np] at z; cases z⟩
    have fr0 := e1.fresh rl.toRelC np
    obtain ⟨rc0, e0⟩ := r1.toRelC.laid (xs := []) np
    have r0 := r1.laid (xs := []) np
    refine ⟨fun i m H => i + m = ds.length ∧ ∃ M s τ acc xs, Ext M1 H1 M H ∧ Rel N M s τ H ∧ wipe τ vs = wipe σ vs ∧ M D = some .far ∧ H D = some (.lst xs) ∧ RA N.K M H xs acc ∧ acc.length ≤ 300 * i ∧
        GoodS N WF M1 H1 ((comp2 w ds vs vs1 fg ft fi1 fg1 ft1 fe (ds.drop i) s).bind fun ys s2 => .ok (acc ++ ys) s2) (fun M' H' τ ys s2 => Ext M1 H1 M' H' → Rel N M' s2 τ H' → wipe τ vs = wipe σ vs → ∀ xs, M' D = some .far → H' D = some (.lst xs) → RA N.K M' H' xs ys → Q (.ref D) H'), ⟨ds.length, Nat.zero_add _, own1 M1 D (some .far), s1, σ, [], [], e0, r0, rfl, own1_same, upd_same, .nil, Nat.zero_le _, ?_⟩, fun i m H hW => ?_⟩
    · have q2 := (GoodE.nox q).rebase e1
      show GoodS N WF M1 H1 ((comp2 w ds vs vs1 fg ft fi1 fg1 ft1 fe ds s1).bind fun ys s2 => .ok ([] ++ ys) s2) _
      have ee : (comp2 w ds vs vs1 fg ft fi1 fg1 ft1 fe ds s1).bind (fun ys s2 => .ok ([] ++ ys) s2) = comp2 w ds vs vs1 fg ft fi1 fg1 ft1 fe ds s1 := by
        cases comp2 w ds vs vs1 fg ft fi1 fg1 ft1 fe ds s1 <;> rfl
      rw [ee]
      refine q2.imp fun M2 H2 τ ys s2 e2 r2 q2 e3 r3 w3 xs md hd ha => ?_
      have r4 := r3.wipe vs
      rw [w3] at r4
      exact q2.here (r1.unwipe e3 r4) D xs fr0 md hd ha
    · obtain ⟨hm, M2, s2, τ, acc, xs, e2, r2, w2, md, hd, ha, hl, q2⟩ := hW
      have hgd := comp2_gd q2
      obtain ⟨hstop, hgo⟩ := st M2 H _ e2.toExt0 r2.toRelC hgd i
      cases hdi : ds[i]? with
      | none =>
        have hli : ds.length ≤ i := List.getElem?_eq_none_iff.mp hdi
        refine .inl ⟨hstop hli, ?_⟩
        rw [List.drop_eq_nil_of_le hli, comp2, if_pos hgd] at q2
        exact q2 M2 H τ e2 r2 e2 r2 w2 xs md hd (by rw [List.append_nil]; exact ha)
      | some d =>
        obtain ⟨h1, h2⟩ := hgo d hdi
        have hlt := (List.getElem?_eq_some_iff.mp hdi).1
        rw [drop_get hdi, comp2, if_pos hgd, Res.bind_assoc] at q2
        refine .inr ⟨h1, fun H' => (i + 1) + (m - 1) = ds.length ∧ ∃ M s τ acc xs, Ext M1 H1 M H' ∧ Rel N M s τ H' ∧ wipe τ vs = wipe σ vs ∧ M D = some .far ∧ H' D = some (.lst xs) ∧ RA N.K M H' xs acc ∧ acc.length ≤ 300 * (i + 1) ∧
          GoodS N WF M1 H1 ((comp2 w ds vs vs1 fg ft fi1 fg1 ft1 fe (ds.drop (i + 1)) s).bind fun ys s2 => .ok (acc ++ ys) s2) (fun M' H' τ ys s2 => Ext M1 H1 M' H' → Rel N M' s2 τ H' → wipe τ vs = wipe σ vs → ∀ xs, M' D = some .far → H' D = some (.lst xs) → RA N.K M' H' xs ys → Q (.ref D) H'), fun H' p => ⟨m - 1, by omega, p⟩, fun x H' y => ?_⟩
        obtain ⟨k, hx⟩ := h2 x H' y
        have e3 := r2.toRelC.ext k
        have e13 := e2.trans e3
        have rw2 := (r2.same k).wipe vs
        rw [w2] at rw2
        refine hg M2 (wipeS vs s2) (wipe σ vs) H' x d _ rw2 hx ((GoodS.rebase q2.bind0 e13).imp fun M4 H4 σ4 _ s4 e4 r4 q4 w4 => ?_)
        have w4' : wipe σ4 vs = wipe σ vs := by rw [hsub _ _ w4, wipe_idem]
        refine ⟨by rw [w4'], ?_⟩
        rw [Res.bind_assoc] at q4
        refine ht M4 s4 σ4 H4 _ r4 ((GoodS.rebase q4.bind0 (e13.trans e4)).toE.imp fun M5 H5 b s5 e5 r5 q5 => ?_)
        have e25 := (e3.trans e4).trans e5
        have e15 := e2.trans e25
        obtain ⟨md5, hd5⟩ := e25.far D md
        cases b with
        | false => exact iteF ⟨by omega, M5, s5, σ4, acc, xs, e15, r5, w4', md5, hd5.trans hd, e25.ra ha, by omega, q5⟩
        | true =>
          have q5 : GoodS N WF M1 H1 (((fi1 s5).bind fun p s3 => if p.1.length ≤ 300 then ((compG p.2 p.1 vs1 fg1 ft1 fe p.1 s3).bind fun ys s4 => (comp2 w ds vs vs1 fg ft fi1 fg1 ft1 fe (ds.drop (i + 1)) s4).bind fun zs s5 => .ok (ys ++ zs) s5) else .stuck).bind fun ys s2 => .ok (acc ++ ys) s2) _ := q5
          rw [Res.bind_assoc] at q5
          refine iteT (hi1 M5 s5 σ4 H5 _ r5 ((GoodS.rebase (GoodS.bind0 q5) e15).toE.imp fun M6 H6 p s6 e6 r6 q6 J1 st1 => ?_))
          obtain ⟨es, w1⟩ := p
          dsimp only at q6 st1
          obtain ⟨hes, q6⟩ := good_ifb q6
          have e16 := e15.trans e6
          have e26 := e25.trans e6
          obtain ⟨md6, hd6⟩ := e26.far D md
          have assoc : ∀ (acc : List Z.D) (l : List Z.D) (s : S), ((compG w1 es vs1 fg1 ft1 fe l s).bind fun ys s4 => (comp2 w ds vs vs1 fg ft fi1 fg1 ft1 fe (ds.drop (i + 1)) s4).bind fun zs s5 => .ok (ys ++ zs) s5).bind (fun ys s2 => .ok (acc ++ ys) s2) = (compG w1 es vs1 fg1 ft1 fe l s).bind fun ys s4 => (comp2 w ds vs vs1 fg ft fi1 fg1 ft1 fe (ds.drop (i + 1)) s4).bind fun zs s5 => .ok (acc ++ (ys ++ zs)) s5 := by
            intro acc l s
            rw [Res.bind_assoc]
            congr 1
            funext ys s4
            rw [Res.bind_assoc]
            rfl
          rw [assoc] at q6
          refine ⟨fun j k H => j + k = es.length ∧ ∃ M s τ acc xs, Ext M1 H1 M H ∧ Ext0 M6 H6 M H ∧ Rel N M s τ H ∧ wipe τ vs1 = wipe σ4 vs1 ∧ M D = some .far ∧ H D = some (.lst xs) ∧ RA N.K M H xs acc ∧ acc.length ≤ 300 * i + j ∧
            GoodS N WF M1 H1 ((compG w1 es vs1 fg1 ft1 fe (es.drop j) s).bind fun ys s4 => (comp2 w ds vs vs1 fg ft fi1 fg1 ft1 fe (ds.drop (i + 1)) s4).bind fun zs s5 => .ok (acc ++ (ys ++ zs)) s5) (fun M' H' τ ys s2 => Ext M1 H1 M' H' → Rel N M' s2 τ H' → wipe τ vs = wipe σ vs → ∀ xs, M' D = some .far → H' D = some (.lst xs) → RA N.K M' H' xs ys → Q (.ref D) H'), ⟨es.length, Nat.zero_add _, M6, s6, σ4, acc, xs, e16, (Ext.refl _ _).toExt0, r6, rfl, md6, hd6.trans hd, e26.ra ha, by omega, q6⟩, fun j k H hV => ?_⟩
          obtain ⟨hk, M7, s7, τ7, acc7, xs7, e17, e67, r7, w7, md7, hd7, ha7, hl7, q7⟩ := hV
          have hgd1 := compG_gd q7
          obtain ⟨hstop1, hgo1⟩ := st1 M7 H _ e67 r7.toRelC hgd1 j
          cases hej : es[j]? with
          | none =>
            have hlj : es.length ≤ j := List.getElem?_eq_none_iff.mp hej
            refine .inl ⟨hstop1 hlj, by omega, M7, s7, τ7, acc7, xs7, e17, r7, by rw [hvv _ _ w7, w4'], md7, hd7, ha7, by omega, ?_⟩
            rw [List.drop_eq_nil_of_le hlj, compG, if_pos hgd1] at q7
            exact q7
          | some e =>
            obtain ⟨g1', g2'⟩ := hgo1 e hej
            have hlt1 := (List.getElem?_eq_some_iff.mp hej).1
            rw [drop_get hej, compG, if_pos hgd1, Res.bind_assoc] at q7
            refine .inr ⟨g1', fun H' => (j + 1) + (k - 1) = es.length ∧ ∃ M s τ acc xs, Ext M1 H1 M H' ∧ Ext0 M6 H6 M H' ∧ Rel N M s τ H' ∧ wipe τ vs1 = wipe σ4 vs1 ∧ M D = some .far ∧ H' D = some (.lst xs) ∧ RA N.K M H' xs acc ∧ acc.length ≤ 300 * i + (j + 1) ∧
              GoodS N WF M1 H1 ((compG w1 es vs1 fg1 ft1 fe (es.drop (j + 1)) s).bind fun ys s4 => (comp2 w ds vs vs1 fg ft fi1 fg1 ft1 fe (ds.drop (i + 1)) s4).bind fun zs s5 => .ok (acc ++ (ys ++ zs)) s5) (fun M' H' τ ys s2 => Ext M1 H1 M' H' → Rel N M' s2 τ H' → wipe τ vs = wipe σ vs → ∀ xs, M' D = some .far → H' D = some (.lst xs) → RA N.K M' H' xs ys → Q (.ref D) H'), fun H' p => ⟨k - 1, by omega, p⟩, fun x1 H8 y1 => ?_⟩
            obtain ⟨k8, hx8⟩ := g2' x1 H8 y1
            have e8 := r7.toRelC.ext k8
            have e18 := e17.trans e8
            have rw7 := (r7.same k8).wipe vs1
            rw [w7] at rw7
            refine hg1 M7 (wipeS vs1 s7) (wipe σ4 vs1) H8 x1 e _ rw7 hx8 ((GoodS.rebase q7.bind0 e18).imp fun M9 H9 σ9 _ s9 e9 r9 q9 w9 => ?_)
            have w9' : wipe σ9 vs1 = wipe σ4 vs1 := by rw [hsub1 _ _ w9, wipe_idem]
            refine ⟨by rw [w9'], ?_⟩
            rw [Res.bind_assoc] at q9
            refine ht1 M9 s9 σ9 H9 _ r9 ((GoodS.rebase q9.bind0 (e18.trans e9)).toE.imp fun Ma Ha b sa ea ra qa => ?_)
            have e7a := (e8.trans e9).trans ea
            have e1a := e17.trans e7a
            obtain ⟨mda, hda⟩ := e7a.far D md7
            cases b with
            | false => exact iteF ⟨by omega, Ma, sa, σ9, acc7, xs7, e1a, e67.trans e7a.toExt0, ra, w9', mda, hda.trans hd7, e7a.ra ha7, by omega, qa⟩
            | true =>
              have qa : GoodS N WF M1 H1 (((fe sa).bind fun y s3 => (compG w1 es vs1 fg1 ft1 fe (es.drop (j + 1)) s3).bind fun ys s4 => .ok (y :: ys) s4).bind fun ys s4 => (comp2 w ds vs vs1 fg ft fi1 fg1 ft1 fe (ds.drop (i + 1)) s4).bind fun zs s5 => .ok (acc7 ++ (ys ++ zs)) s5) _ := qa
              rw [Res.bind_assoc] at qa
              refine iteT (he Ma sa σ9 Ha _ ra ((GoodS.rebase (GoodS.bind0 qa) e1a).toE.imp fun Mb Hb y sb eb rb qb yv hy => ?_))
              obtain ⟨mdb, hdb⟩ := eb.far D mda
              have hdb' : Hb D = some (.lst xs7) := hdb.trans (hda.trans hd7)
              have e1b := e1a.trans eb
              have e7b := e7a.trans eb
              refine ⟨xs7, hdb', lt_line (by rw [ha7.length]; omega), by omega, Mb, sb, σ9, acc7 ++ [y], xs7 ++ [yv], e1b.updF fr ⟨xs7, hdb'⟩, (e67.trans e7b.toExt0).trans (ext0_upd mdb), rb.updF mdb, w9', mdb, upd_same, (ext0_upd mdb).ra ((e7b.ra ha7).append (.cons hy .nil)), by rw [List.length_append, List.length_singleton]; omega, ?_⟩
              · rw [Res.bind_assoc] at qb
                have e0 : (fun (a : List Z.D) (s : S) => (Res.ok (y :: a) s).bind fun ys s4 => (comp2 w ds vs vs1 fg ft fi1 fg1 ft1 fe (ds.drop (i + 1)) s4).bind fun zs s5 => .ok (acc7 ++ (ys ++ zs)) s5) = fun ys s4 => (comp2 w ds vs vs1 fg ft fi1 fg1 ft1 fe (ds.drop (i + 1)) s4).bind fun zs s5 => Res.ok (acc7 ++ [y] ++ (ys ++ zs)) s5 := by
                  funext a s
                  show ((comp2 w ds vs vs1 fg ft fi1 fg1 ft1 fe (ds.drop (i + 1)) s).bind fun zs s5 => Res.ok (acc7 ++ (y :: a ++ zs)) s5) = _
                  congr 1
                  funext zs s5
                  rw [List.append_assoc]
                  rfl
                rw [e0] at qb
                exact qb
end
end Z
/-! ## .. as expressions and stores -/
namespace Z
open PySem PySem.Spec L2 GxR
open PyProof.Rows hiding St
section
variable {N : En} {W : WX} {X : Cx} {M M' : MM} {H H' : Hp} {s : S} {σ : St} {tg iter elt tg1 iter1 : Expr} {scope : Scope} {own : List (Str × Nat)} {pos spos py : Pos} {fi fi1 : Ig} {fg fg1 : Tg} {ft ft1 : Ts} {fe : Ex} {ts ts1 vs1 : List Nat} {ifs ifs1 : List Expr} {i : Nat} {y : Str}
theorem mem_of_all {vs ws : List Nat} (h : vs.all (fun i => ws.contains i) = true) : ∀ i ∈ vs, i ∈ ws := fun i hi => by
  have := List.all_eq_true.mp h i hi
  simpa using this
section
variable (hc : X.calm = true) (hN : X.N.Nodup) (hi : SIg N W X tg iter fi) (ok : BlkOk X.N X.env.scope scope own)
    (hg : ∀ (s : Shared) (H : Hp) (C : Addr) (cl : List (Str × Addr)) (fp : List Addr), SG N WF (X.blk s H scope (compEnvC scope cl C X.env) fp) tg fg ts) (ht : ∀ (s : Shared) (H : Hp) (C : Addr) (cl : List (Str × Addr)) (fp : List Addr), STs N WF (X.blk s H scope (compEnvC scope cl C X.env) fp) ifs ft)
    (he : ∀ (s : Shared) (H : Hp) (C : Addr) (cl : List (Str × Addr)) (fp : List Addr), SE N WF (X.blk s H scope (compEnvC scope cl C X.env) fp) elt fe)
include hc hN hi ok hg ht he
variable (hi1 : ∀ (s : Shared) (H : Hp) (C : Addr) (cl : List (Str × Addr)) (fp : List Addr), SIg N WF (X.blk s H scope (compEnvC scope cl C X.env) fp) tg1 iter1 fi1)
    (hg1 : ∀ (s : Shared) (H : Hp) (C : Addr) (cl : List (Str × Addr)) (fp : List Addr), SG N WF (X.blk s H scope (compEnvC scope cl C X.env) fp) tg1 fg1 ts1) (ht1 : ∀ (s : Shared) (H : Hp) (C : Addr) (cl : List (Str × Addr)) (fp : List Addr), STs N WF (X.blk s H scope (compEnvC scope cl C X.env) fp) ifs1 ft1)
include hi1 hg1 ht1
theorem sf_lc2 (hsub : ts.all (fun i => (own.map (·.2)).contains i) = true := by rfl) (hsub1 : ts1.all (fun i => vs1.contains i) = true := by rfl) (hvv : vs1.all (fun i => (own.map (·.2)).contains i) = true := by rfl)
    (hs : ∀ x, foldedSetIterable iter X.env x = pure x := by intro _; rfl) (hs1 : ∀ env x, foldedSetIterable iter1 env x = pure x := by intro _ _; rfl) :
    SF N W X (.ListComp elt [⟨tg, iter, ifs, 0⟩, ⟨tg1, iter1, ifs1, 0⟩] scope pos) (aLc2 (own.map (·.2)) vs1 fi fg ft fi1 fg1 ft1 fe) := by
  obtain ⟨ti, pi, si⟩ := hi
  exact ⟨_, pe_lc2 hc hN pi ok (mem_of_all hvv) (fun s H C cl fp => (hg s H C cl fp).can) (fun s H C cl fp => ht s H C cl fp) (fun s H C cl fp => (hi1 s H C cl fp).can) (fun s H C cl fp => (hg1 s H C cl fp).can) (fun s H C cl fp => ht1 s H C cl fp) (fun s H C cl fp => (he s H C cl fp).can) hs hs1,
    sim_lc2 (sub_wipe hsub) (sub_wipe hsub1) (sub_wipe hvv) si sim_canG sim_canT sim_canIg sim_canG sim_canT sim_canE⟩
end
end
end Z
/-! ## cells dropped at a return, by what can be computed; the nouns above a kind, once worked out -/
namespace Z
open PySem PySem.Spec L2 GxR
open PyProof.Rows hiding St
def drpK (cs : List Cell) (s : S) (d : D) : Bool := decide (cs.length ≤ s.cs.length) && ((s.cs.take cs.length).all fun c => cLtB cs.length c) && cLt cs.length d
def drpB (F : Fn) : Fn := fun ds cs => match F ds cs with
  | .ok d s => if drpK cs s d = true then .ok d ⟨[], s.cs.take cs.length⟩ else .stuck
  | .exc c d s => if drpK cs s d = true then .exc c d ⟨[], s.cs.take cs.length⟩ else .stuck
  | .stuck => .stuck
section
variable {N : En} {M M' : MM} {H H' : Hp} {cs cs' : List Cell}
theorem RelC.cutB (r0 : RelC N M cs H) (h1 : cs.length ≤ cs'.length) (h2 : ((cs'.take cs.length).all fun c => cLtB cs.length c) = true) (r : RelC N M' cs' H') : RelC N (M'.cut cs.length) (cs'.take cs.length) H' where
  cell := fun n c h => by
    have hn : n < cs.length := by
      have := (List.getElem?_eq_some_iff.mp h).1
      rw [List.length_take] at this
      omega
    have o := List.all_eq_true.mp h2 c (List.mem_of_getElem? h)
    rw [List.getElem?_take_of_lt hn] at h
    obtain ⟨a, m, q⟩ := r.cell n c h
    exact ⟨a, cut_lt hn m, q.keepC (fun a z => cut_none z) (fun a k hk z => cut_lt hk z) (cLtB_C o)⟩
  uniq := fun a b n h1 h2 => r.uniq a b n (of_cut h1).1 (of_cut h2).1
  csz := fun a n h => by
    rw [List.length_take, Nat.min_eq_left h1]
    exact (of_cut h).2
  mdom := fun a w h => by
    cases m : M' a with
    | none => rw [cut_none m] at h; cases h
    | some u => exact r.mdom a u m
  tabs := r.tabs
theorem good_drpB {F : Fn} {ds : List D} {Q : VK} {E : XK} (rc : RelC N M cs H) (g : GoodF N M H (drpB F ds cs) Q E) : GoodF N M H (F ds cs) Q E := by
  have sp : ∀ {s : S} {d : D}, drpK cs s d = true → cs.length ≤ s.cs.length ∧ ((s.cs.take cs.length).all fun c => cLtB cs.length c) = true ∧ cLt cs.length d = true := fun h => by
    unfold drpK at h
    rw [Bool.and_eq_true, Bool.and_eq_true] at h
    exact ⟨of_decide_eq_true h.1.1, h.1.2, h.2⟩
  unfold drpB at g
  cases hF : F ds cs with
  | stuck => rw [hF] at g; exact g.elim
  | ok d s =>
    rw [hF] at g
    dsimp only at g
    split at g
    · rename_i hc
      obtain ⟨c1, c2, c3⟩ := sp hc
      intro M' H' v e r h3
      exact g _ H' v (e.cut rc) (RelC.cutB rc c1 c2 r) ((keep_ra (fun a z => cut_none z) (fun a k hk z => cut_lt hk z)).1 _ _ h3 c3)
    · exact g.elim
  | exc c d s =>
    rw [hF] at g
    dsimp only at g
    split at g
    · rename_i hc
      obtain ⟨c1, c2, c3⟩ := sp hc
      intro M' H' C fld dx v e r hC hX h3
      exact g _ H' C fld dx v (e.cut rc) (RelC.cutB rc c1 c2 r) hC hX ((keep_ra (fun a z => cut_none z) (fun a k hk z => cut_lt hk z)).1 _ _ h3 c3)
    · exact g.elim
theorem fn_drpB {CX : CXT} {k n : Nat} {f : Addr} {fd : FuncData} {ps : List Str} {F : Fn} {K : PySem.W.Frag} {P : Program} {w : World} {mg : Str → Option Value} {base : Heap} (G : FnOk P w K mg base CX k f fd ps (spOf N n F)) : FnOk P w K mg base CX k f fd ps (spOf N n (drpB F)) :=
  G.imp fun vs H Q E q => by
    obtain ⟨M, ds, cs, rc, ha, hl, g⟩ := q
    exact ⟨M, ds, cs, rc, ha, hl, good_drpB rc g⟩
/-- .. where the cells that were are as they were -/
theorem drpB_ok {F : Fn} {ds : List D} {d : D} {more : List Cell} (h : F ds cs = .ok d ⟨[], cs ++ more⟩) (hp : (cs.all fun c => cLtB cs.length c) = true) (hd : cLt cs.length d = true) : drpB F ds cs = .ok d ⟨[], cs⟩ := by
  unfold drpB
  rw [h]
  have e : drpK cs ⟨[], cs ++ more⟩ d = true := by
    unfold drpK
    simp only [List.length_append, List.take_left, hp, hd, Bool.and_true, decide_eq_true_eq]
    omega
  show (if drpK cs ⟨[], cs ++ more⟩ d = true then Res.ok d ⟨[], (cs ++ more).take cs.length⟩ else .stuck) = _
  rw [if_pos e, List.take_left]
end
/-! ### kinds as keys -/
theorem kind_cases {kd : D} {xs : List Int} (h : kindNs kd = some xs) : (∃ x, kd = .tup [.str 8, .int x] ∧ xs = [x]) ∨ (∃ x y, kd = .tup [.str 9, .int x, .int y] ∧ xs = [x, y]) ∨
    (∃ x a v b y, kd = .tup [.str 10, .int x, .bl a, .int v, .bl b, .int y] ∧ xs = [x]) ∨ ∃ x a v, kd = .tup [.str 7, .int x, .bl a, .int v] ∧ xs = [x] := by
  unfold kindNs at h
  split at h
  · cases h; exact .inl ⟨_, rfl, rfl⟩
  · cases h; exact .inr (.inl ⟨_, _, rfl, rfl⟩)
  · cases h; exact .inr (.inr (.inl ⟨_, _, _, _, _, rfl, rfl⟩))
  · cases h; exact .inr (.inr (.inr ⟨_, _, _, rfl, rfl⟩))
  · cases h
theorem kind_key {kd : D} {xs : List Int} (h : kindNs kd = some xs) : ∃ k, keyT kd = some k ∧ k.depth ≤ 8 := by
  rcases kind_cases h with ⟨x, rfl, _⟩ | ⟨x, y, rfl, _⟩ | ⟨x, a, v, b, y, rfl, _⟩ | ⟨x, a, v, rfl, _⟩
  · exact ⟨_, rfl, Nat.le_of_ble_eq_true rfl⟩
  · exact ⟨_, rfl, Nat.le_of_ble_eq_true rfl⟩
  · exact ⟨_, rfl, Nat.le_of_ble_eq_true rfl⟩
  · exact ⟨_, rfl, Nat.le_of_ble_eq_true rfl⟩
theorem kind_eq {kd kd' : D} {xs xs' : List Int} (h : kindNs kd = some xs) (h' : kindNs kd' = some xs') (e : eqD kd kd' = true) : kd = kd' := by
  rcases kind_cases h with ⟨x, rfl, _⟩ | ⟨x, y, rfl, _⟩ | ⟨x, a, v, b, y, rfl, _⟩ | ⟨x, a, v, rfl, _⟩ <;> rcases kind_cases h' with ⟨x', rfl, _⟩ | ⟨x', y', rfl, _⟩ | ⟨x', a', v', b', y', rfl, _⟩ | ⟨x', a', v', rfl, _⟩ <;> simp at e <;> simp [e]
theorem kind_refl {kd : D} {xs : List Int} (h : kindNs kd = some xs) : eqD kd kd = true := by
  rcases kind_cases h with ⟨x, rfl, _⟩ | ⟨x, y, rfl, _⟩ | ⟨x, a, v, b, y, rfl, _⟩ | ⟨x, a, v, rfl, _⟩ <;> simp
theorem kind_plain {kd : D} {xs : List Int} (h : kindNs kd = some xs) : cLt 0 kd = true := by
  rcases kind_cases h with ⟨x, rfl, _⟩ | ⟨x, y, rfl, _⟩ | ⟨x, a, v, b, y, rfl, _⟩ | ⟨x, a, v, rfl, _⟩ <;> rfl
theorem ints_plain : ∀ l : List Int, cLts 0 (l.map D.int) = true
  | [] => rfl
  | _ :: l => by rw [List.map_cons, cLts, ints_plain l]; rfl
theorem above_some {T kd d : D} (h : aboveD T kd = some d) : ∃ l rows xs, T = .lst l ∧ rowsD l = some rows ∧ kindNs kd = some xs ∧ rows.length ≤ 8 ∧ (∀ r ∈ rows, r.length = rows.length) ∧ (∀ x ∈ xs, 0 ≤ x ∧ x < rows.length) ∧ d = .tup ((aboveL rows xs).map D.int) ∧ kRng kd = true := by
  unfold aboveD at h
  split at h
  · rename_i l xs hk
    split at h
    · rename_i rows hr
      split at h
      · rename_i hc
        cases h
        refine ⟨l, rows, xs, rfl, hr, hk, hc.2.1, fun r hm => ?_, fun x hx => ?_, rfl, hc.1⟩
        · exact beq_iff_eq.mp (List.all_eq_true.mp hc.2.2.1 r hm)
        · have := List.all_eq_true.mp hc.2.2.2 x hx
          simpa using this
      · cases h
    · cases h
  · cases h
/-- the kind of a number -/
def kdec (n : Nat) : D := cond (Nat.blt n 10) (.tup [.str 8, .int n]) (cond (Nat.blt n 100) (.tup [.str 9, .int ((n - 10) / 8 : Nat), .int ((n - 10) % 8 : Nat)])
  (cond (Nat.blt n 3000) (.tup [.str 10, .int ((n - 100) / 256 : Nat), .bl (Nat.beq ((n - 100) / 2 % 2) 1), .int ((n - 100) / 4 % 8 : Nat), .bl (Nat.beq ((n - 100) % 2) 1), .int ((n - 100) / 32 % 8 : Nat)])
    (.tup [.str 7, .int ((n - 3000) / 16 : Nat), .bl (Nat.beq ((n - 3000) % 2) 1), .int ((n - 3000) / 2 % 8 : Nat)])))
theorem blt_t {n m : Nat} (h : n < m) : Nat.blt n m = true := Nat.ble_eq_true_of_le h
theorem blt_f {n m : Nat} (h : m ≤ n) : Nat.blt n m = false := Bool.eq_false_iff.mpr fun e => Nat.not_lt_of_le h (Nat.le_of_ble_eq_true e)
theorem to_b : ∀ b : Bool, b.toNat < 2 ∧ Nat.beq b.toNat 1 = b
  | true => ⟨Nat.one_lt_two, rfl⟩
  | false => ⟨Nat.zero_lt_two, rfl⟩
theorem to_n {x : Int} (h : 0 ≤ x) : ∃ n : Nat, x = n := ⟨x.toNat, (Int.toNat_of_nonneg h).symm⟩
theorem kd1 (n : Nat) (h : n < 8) : kdec n = .tup [.str 8, .int n] := by
  unfold kdec
  rw [blt_t (by omega)]
  rfl
theorem kd2 (x y : Nat) (h : x < 8) (h' : y < 8) : kdec (10 + 8 * x + y) = .tup [.str 9, .int x, .int y] := by
  unfold kdec
  rw [blt_f (by omega), blt_t (by omega), show (10 + 8 * x + y - 10) / 8 = x by omega, show (10 + 8 * x + y - 10) % 8 = y by omega]
  rfl
theorem kd3 (x y v a b : Nat) (hx : x < 8) (hy : y < 8) (hv : v < 8) (ha : a < 2) (hb : b < 2) : kdec (100 + (((x * 8 + y) * 8 + v) * 2 + a) * 2 + b) = .tup [.str 10, .int x, .bl (Nat.beq a 1), .int v, .bl (Nat.beq b 1), .int y] := by
  obtain ⟨m, hm⟩ : ∃ m, m = (((x * 8 + y) * 8 + v) * 2 + a) * 2 + b := ⟨_, rfl⟩
  have e : 100 + (((x * 8 + y) * 8 + v) * 2 + a) * 2 + b - 100 = m := by omega
  unfold kdec
  rw [blt_f (by omega), blt_f (by omega), blt_t (by omega), e, show m / 256 = x by omega, show m / 2 % 2 = a by omega, show m / 4 % 8 = v by omega, show m % 2 = b by omega, show m / 32 % 8 = y by omega]
  rfl
theorem kd4 (x v a : Nat) (hv : v < 8) (ha : a < 2) : kdec (3000 + (x * 8 + v) * 2 + a) = .tup [.str 7, .int x, .bl (Nat.beq a 1), .int v] := by
  obtain ⟨m, hm⟩ : ∃ m, m = (x * 8 + v) * 2 + a := ⟨_, rfl⟩
  have e : 3000 + (x * 8 + v) * 2 + a - 3000 = m := by omega
  unfold kdec
  rw [blt_f (by omega), blt_f (by omega), blt_f (by omega), e, show m / 16 = x by omega, show m % 2 = a by omega, show m / 2 % 8 = v by omega]
  rfl
theorem kcode_dec {T kd d : D} (h : aboveD T kd = some d) : kdec (kcode kd) = kd ∧ kcode kd < 4000 := by
  obtain ⟨_, rows, xs, _, _, hk, hl, _, hx, _, hr⟩ := above_some h
  have bd : ∀ {x : Int}, x ∈ xs → ∃ n : Nat, x = n ∧ n < 8 := fun {x} hm => by
    obtain ⟨h0, h1⟩ := hx x hm
    obtain ⟨n, rfl⟩ := to_n h0
    exact ⟨n, rfl, by omega⟩
  rcases kind_cases hk with ⟨x, rfl, rfl⟩ | ⟨x, y, rfl, rfl⟩ | ⟨x, a, v, b, y, rfl, rfl⟩ | ⟨x, a, v, rfl, rfl⟩
  · obtain ⟨n, rfl, hn⟩ := bd List.mem_cons_self
    exact ⟨kd1 n hn, show n < 4000 by omega⟩
  · obtain ⟨n, rfl, hn⟩ := bd List.mem_cons_self
    obtain ⟨m, rfl, hm⟩ := bd (List.mem_cons_of_mem _ List.mem_cons_self)
    exact ⟨kd2 n m hn hm, show 10 + 8 * n + m < 4000 by omega⟩
  · obtain ⟨n, rfl, hn⟩ := bd List.mem_cons_self
    have hr : (decide (0 ≤ v) && decide (v < 8) && decide (0 ≤ y) && decide (y < 8)) = true := hr
    rw [Bool.and_eq_true, Bool.and_eq_true, Bool.and_eq_true, decide_eq_true_eq, decide_eq_true_eq, decide_eq_true_eq, decide_eq_true_eq] at hr
    obtain ⟨⟨⟨v0, v1⟩, y0⟩, y1⟩ := hr
    obtain ⟨v, rfl⟩ := to_n v0
    obtain ⟨y, rfl⟩ := to_n y0
    obtain ⟨a0, a1⟩ := to_b a
    obtain ⟨b0, b1⟩ := to_b b
    have k := kd3 n y v a.toNat b.toNat hn (by omega) (by omega) a0 b0
    rw [a1, b1] at k
    exact ⟨k, show 100 + (((n * 8 + y) * 8 + v) * 2 + a.toNat) * 2 + b.toNat < 4000 by omega⟩
  · obtain ⟨n, rfl, hn⟩ := bd List.mem_cons_self
    have hr : (decide (0 ≤ v) && decide (v < 8)) = true := hr
    rw [Bool.and_eq_true, decide_eq_true_eq, decide_eq_true_eq] at hr
    obtain ⟨v0, v1⟩ := hr
    obtain ⟨v, rfl⟩ := to_n v0
    obtain ⟨a0, a1⟩ := to_b a
    have k := kd4 n v a.toNat (by omega) a0
    rw [a1] at k
    exact ⟨k, show 3000 + (n * 8 + v) * 2 + a.toNat < 4000 by omega⟩
theorem kcode_inj {T kd kd' d d' : D} (h : aboveD T kd = some d) (h' : aboveD T kd' = some d') (e : kcode kd = kcode kd') : kd = kd' := by
  rw [← (kcode_dec h).1, e, (kcode_dec h').1]
theorem kcode_lt {T kd d : D} (h : aboveD T kd = some d) : kcode kd < 4000 := (kcode_dec h).2
theorem few_below : ∀ (n : Nat) (l : List Nat), l.Nodup → (∀ x ∈ l, x < n) → l.length ≤ n
  | 0, l, _, h => by
    cases l with
    | nil => exact Nat.le_refl _
    | cons x l => exact absurd (h x List.mem_cons_self) (by omega)
  | n + 1, l, hn, h => by
    by_cases c : n ∈ l
    · have h1 := few_below n (l.erase n) (hn.erase _) fun x hx => by
        have h2 := h x (List.mem_of_mem_erase hx)
        have h3 : x ≠ n := fun z => by
          rw [z] at hx
          exact (List.Nodup.not_mem_erase hn) hx
        omega
      have := List.length_erase_of_mem c
      have : 0 < l.length := List.length_pos_of_mem c
      omega
    · have := few_below n l hn fun x hx => by
        have h2 := h x hx
        have h3 : x ≠ n := fun z => c (z ▸ hx)
        omega
      omega
theorem memo_few {T : D} {l : List (D × D)} (hm : MemoOk T l) : l.length ≤ 4000 := by
  have := few_below 4000 (l.map fun q => kcode q.1) hm.1 fun x hx => by
    obtain ⟨q, hq, rfl⟩ := List.mem_map.mp hx
    exact kcode_lt (hm.2 q hq).1
  simpa using this
theorem memo_find {T : D} {l : List (D × D)} (hm : MemoOk T l) {kd d : D} (h : aboveD T kd = some d) : dfind l kd = some d ∨ dfind l kd = none := by
  cases e : dfind l kd with
  | none => exact .inr rfl
  | some z =>
    refine .inl ?_
    unfold dfind at e
    obtain ⟨q, hq, rfl⟩ := Option.map_eq_some_iff.mp e
    have h1 := List.find?_some hq
    obtain ⟨h2, _, _⟩ := hm.2 q (List.mem_of_find?_eq_some hq)
    obtain ⟨_, _, xs, _, _, hk, _⟩ := above_some h
    obtain ⟨_, _, xs', _, _, hk', _⟩ := above_some h2
    have := kind_eq hk' hk h1
    rw [this, h] at h2
    exact h2.symm
theorem memo_put {T : D} {l : List (D × D)} (hm : MemoOk T l) {kd d : D} (h : aboveD T kd = some d) : MemoOk T (dstore l kd d) ∧ dfind (dstore l kd d) kd = some d := by
  obtain ⟨_, rows, xs, _, _, hk, _, _, _, hd, _⟩ := above_some h
  have hp : cLt 0 d = true := by rw [hd]; exact ints_plain _
  refine ⟨?_, ?_⟩
  · unfold dstore
    split
    · refine ⟨?_, fun q hq => ?_⟩
      · rw [List.map_map]
        have e0 : ((fun q : D × D => kcode q.1) ∘ fun q : D × D => if eqD q.1 kd = true then (q.1, d) else q) = fun q => kcode q.1 := by
          funext q
          show kcode (if eqD q.1 kd = true then (q.1, d) else q).1 = kcode q.1
          split <;> rfl
        rw [e0]
        exact hm.1
      obtain ⟨q0, h0, rfl⟩ := List.mem_map.mp hq
      obtain ⟨a, b, c⟩ := hm.2 q0 h0
      split
      · rename_i he
        obtain ⟨_, _, xs', _, _, hk', _⟩ := above_some a
        have := kind_eq hk' hk he
        refine ⟨?_, b, hp⟩
        show aboveD T q0.1 = some d
        rw [this]
        exact h
      · exact ⟨a, b, c⟩
    · rename_i hna
      refine ⟨?_, fun q hq => ?_⟩
      · rw [List.map_append, List.nodup_append]
        refine ⟨hm.1, by simp, fun a ha b hb => ?_⟩
        obtain ⟨q, hq, rfl⟩ := List.mem_map.mp ha
        rw [List.map_cons, List.map_nil, List.mem_singleton] at hb
        subst hb
        intro z
        obtain ⟨h2, _, _⟩ := hm.2 q hq
        have := kcode_inj h2 h z
        refine hna (List.any_eq_true.mpr ⟨q, hq, ?_⟩)
        rw [this]
        exact kind_refl hk
      rcases List.mem_append.mp hq with hq | hq
      · exact hm.2 q hq
      · rw [List.mem_singleton] at hq
        subst hq
        exact ⟨h, kind_plain hk, hp⟩
  · unfold dstore dfind
    split
    · rename_i ha
      obtain ⟨q, hq, he⟩ := List.any_eq_true.mp ha
      rw [List.find?_map]
      have e0 : ((fun q => eqD q.1 kd) ∘ fun q : D × D => if eqD q.1 kd = true then (q.1, d) else q) = fun q => eqD q.1 kd := by
        funext q
        show eqD (if eqD q.1 kd = true then (q.1, d) else q).1 kd = eqD q.1 kd
        split <;> rfl
      rw [e0]
      cases hf : l.find? fun q => eqD q.1 kd with
      | none =>
        have := List.find?_eq_none.mp hf q hq
        exact absurd he this
      | some z =>
        have := List.find?_some hf
        show some (if eqD z.1 kd = true then (z.1, d) else z).2 = some d
        rw [if_pos this]
    · rename_i ha
      have hn : l.find? (fun q => eqD q.1 kd) = none := List.find?_eq_none.mpr fun q hq he => ha (List.any_eq_true.mpr ⟨q, hq, he⟩)
      rw [List.find?_append, hn]
      simp [kind_refl hk]
/-- self.nouns_above(kind) -/
def memF : Fn := fun ds cs => match ds with
  | [.cell n, kd] => (match cs[n]? with
    | some (.ins 0 l) => (match lookF l 0, lookF l 3 with
      | some T, some (.cell k) => (match cs[k]? with
        | some (.memo T') => if sameD T' T = true then (match aboveD T kd with
          | some d => .ok d ⟨[], cs⟩
          | none => .stuck) else .stuck
        | _ => .stuck)
      | _, _ => .stuck)
    | _ => .stuck)
  | _ => .stuck
theorem memF_some {ds : List D} {cs : List Cell} (h : memF ds cs ≠ .stuck) : ∃ n kd l T k d, ds = [.cell n, kd] ∧ cs[n]? = some (.ins 0 l) ∧ lookF l 0 = some T ∧ lookF l 3 = some (.cell k) ∧ cs[k]? = some (.memo T) ∧ aboveD T kd = some d ∧ memF ds cs = .ok d ⟨[], cs⟩ := by
  unfold memF at h ⊢
  split at h
  · rename_i n kd
    split at h
    · rename_i l hc
      split at h
      · rename_i T k h1 h2
        split at h
        · rename_i T' h3
          split at h
          · rename_i h4
            split at h
            · rename_i d h5
              have e := same_eq _ _ h4
              subst e
              exact ⟨n, kd, l, T', k, d, rfl, hc, h1, h2, h3, h5, by simp [hc, h1, h2, h3, h4, h5]⟩
            · exact absurd rfl h
          · exact absurd rfl h
        · exact absurd rfl h
      · exact absurd rfl h
    · exact absurd rfl h
  · exact absurd rfl h
end Z
namespace Z
end Z
/-! ## comprehensions over an own list that stays own -/
namespace Z
open PySem PySem.Spec L2 GxR
open PyProof.Rows hiding St
end Z
/-! ## a target that is an attribute -/
namespace Z
open PySem PySem.Spec L2 GxR
open PyProof.Rows hiding St
def gFld (c0 f : Nat) (fo : Ex) : Tg := fun d s => (fo s).bind fun x s2 => match x with
  | .cell n => (match s2.cs[n]? with
    | some (.ins c l) => if c = c0 ∧ l.length < 900 then .ok () { s2 with cs := s2.cs.set n (.ins c ((f, d) :: l)) } else .stuck
    | _ => .stuck)
  | _ => .stuck
end Z
/-! ## x or y, by truth -/
namespace Z
open PySem PySem.Spec L2 GxR
open PyProof.Rows hiding St
def eOrT (f g : Ex) : Ex := fun s => (f s).bind fun x s1 => match truD x with
  | some true => .ok x s1
  | some false => g s1
  | none => .stuck
end Z
/-! ## a method without arguments; the length of a list in a cell -/
namespace Z
open PySem PySem.Spec L2 GxR
open PyProof.Rows hiding St
def eLenC (f : Ex) : Ex := fun s => (f s).bind fun x s1 => match x with
  | .cell n => (match s1.cs[n]? with
    | some (.lst l) => .ok (.int l.length) s1
    | _ => .stuck)
  | _ => .stuck
end Z
/-! ## pop without an index, of a list in a cell and of an own list -/
namespace Z
open PySem PySem.Spec L2 GxR
open PyProof.Rows hiding St
def ePopC (fo : Ex) : Ex := fun s => (fo s).bind fun x s1 => match x with
  | .cell n => (match s1.cs[n]? with
    | some (.lst l) => (match l.getLast? with
      | some d => .ok d { s1 with cs := s1.cs.set n (.lst l.dropLast) }
      | none => .stuck)
    | _ => .stuck)
  | _ => .stuck
def ePop0 (i : Nat) : Ex := fun s => match s.ρ[i]? with
  | some (.own l) => (match l.getLast? with
    | some d => .ok d { s with ρ := s.ρ.set i (.own l.dropLast) }
    | none => .stuck)
  | _ => .stuck
end Z
/-! ## tuple of a list in a cell -/
namespace Z
open PySem PySem.Spec L2 GxR
open PyProof.Rows hiding St
def eTupC (fo : Ex) : Ex := fun s => (fo s).bind fun x s1 => match x with
  | .cell n => (match s1.cs[n]? with
    | some (.lst l) => .ok (.tup l) s1
    | _ => .stuck)
  | _ => .stuck
def aLstC (fo : Ex) : As := fun s => (fo s).bind fun x s1 => match x with
  | .cell n => (match s1.cs[n]? with
    | some (.lst l) => .ok l s1
    | _ => .stuck)
  | _ => .stuck
end Z
/-! ## a method that raises -/
namespace Z
open PySem PySem.Spec L2 GxR
open PyProof.Rows hiding St
def eMethE (c0 : Nat) (F : Fn) (fo : Ex) (fs : As) : Ex := fun s => (fo s).bind fun x s1 => match x with
  | .cell n => (match s1.cs[n]? with
    | some (.ins c _) => if c = c0 then (fs s1).bind fun ds s2 => (match F (.cell n :: ds) s2.cs with
      | .ok d s3 => .ok d ⟨s2.ρ, s3.cs⟩
      | .exc c d s3 => .exc c d ⟨s2.ρ, s3.cs⟩
      | .stuck => .stuck) else .stuck
    | _ => .stuck)
  | _ => .stuck
end Z
/-! ## comprehensions with any number of clauses -/
namespace L2
open PySem PySem.Spec PyProof.Rows
/-- a clause behind the first one, as it is read; vs: the names that it and those behind it take -/
structure Cl where
  wi : TI
  g : TG
  tt : TT
  vs : List Nat
def fvs : List Cl → List Nat
  | [] => []
  | c :: _ => c.vs
/-- what the clauses' own readings are -/
inductive ClsOk (Y : Cx) : List Comprehension → List Cl → Prop
  | nil : ClsOk Y [] []
  | cons {tg iter : Expr} {ifs : List Expr} {gs : List Comprehension} {c : Cl} {cs : List Cl} (p1 : PI Y tg iter c.wi) (p2 : PG Y tg c.g) (p3 : PTs Y ifs c.tt) (p4 : ∀ i ∈ fvs cs, i ∈ c.vs) (p5 : ∀ ev x, foldedSetIterable iter ev x = pure x) (p6 : ClsOk Y gs cs) : ClsOk Y (⟨tg, iter, ifs, 0⟩ :: gs) (c :: cs)
section
variable {pg : Program} {w : World} {A : Around} {R : Result → Shared → Prop} {sh : Shared} {elt tg src : Expr} {cnd : List Expr} {gs : List Comprehension} {scope : Scope} {pos : Pos} {it acc : Value} {ev : Env} {k : Nat}
/-- what stands at the end of a turn: an item is put behind, or the loop of the next clause is begun -/
def EmOk (pg : Program) (w : World) (A : Around) (elt : Expr) (gs : List Comprehension) (scope : Scope) (pos : Pos) (acc : Value) (ev : Env) (k : Nat) (Fin : Shared → Prop) (Er : Value → Shared → Prop) (s3 : Shared) : Prop :=
  match gs[k + 1]? with
  | none => wpAny (model pg w) A (eval elt ev) (fun x s4 => wpAny (model pg w) A (call (.builtin "list.append") [acc, x]) (fun _ s5 => Fin s5) Er s4) Er s3
  | some c => wpAny (model pg w) A (eval c.iter ev) (fun x s4 => wpAny (model pg w) A (pyIter x) (fun y s5 => codeAny (model pg w) A (.compStart (.ListComp elt gs scope pos) (k + 1) y acc ev) (fun r s' => match r with
      | .ok _ => Fin s'
      | .error _ => False) s5) Er s4) Er s3
theorem EmOk.imp {Fin Fin' : Shared → Prop} {Er : Value → Shared → Prop} (h : ∀ s', Fin s' → Fin' s') : EmOk pg w A elt gs scope pos acc ev k Fin Er sh → EmOk pg w A elt gs scope pos acc ev k Fin' Er sh := by
  unfold EmOk
  split
  · exact fun q => wpAny_mono q (fun x s4 h4 => wpAny_mono h4 (fun _ s5 h5 => h s5 h5) fun _ _ z => z) fun _ _ z => z
  · exact fun q => wpAny_mono q (fun x s4 h4 => wpAny_mono h4 (fun y s5 h5 => codeAny_mono h5 fun r s' hr => by
      cases r with
      | ok f => exact h s' hr
      | error e => exact hr.elim) fun _ _ z => z) fun _ _ z => z
end
end L2
/-! ## .. over plain values -/
namespace Z
open PySem PySem.Spec L2 GxR
open PyProof.Rows hiding St
/-- a clause behind the first: its source, its target, its test, the names taken by it and by those behind it, the names of its target -/
structure CF where
  fi : Ig
  g : Tg
  t : Ts
  vs : List Nat
  ts : List Nat
def fvF : List CF → List Nat
  | [] => []
  | c :: _ => c.vs
def canCl (N : En) (c : CF) : L2.Cl := ⟨canIg N WF c.fi, canG N WF c.g c.ts, canT N WF c.t, c.vs⟩
inductive CfOk : List CF → Prop
  | nil : CfOk []
  | cons {c : CF} {cs : List CF} (h1 : ∀ σ σ' : St, wipe σ' c.ts = wipe σ c.ts → wipe σ' c.vs = wipe σ c.vs) (h2 : ∀ σ σ' : St, wipe σ' (fvF cs) = wipe σ (fvF cs) → wipe σ' c.vs = wipe σ c.vs) (h3 : CfOk cs) : CfOk (c :: cs)
inductive SCls (N : En) (Y : Cx) : List Comprehension → List CF → Prop
  | nil : SCls N Y [] []
  | cons {tg iter : Expr} {ifs : List Expr} {gs : List Comprehension} {c : CF} {cs : List CF} (p1 : SIg N WF Y tg iter c.fi) (p2 : SG N WF Y tg c.g c.ts) (p3 : STs N WF Y ifs c.t) (p6 : SCls N Y gs cs) (p4 : (fvF cs).all (fun i => c.vs.contains i) = true := by rfl) (p5 : ∀ ev x, foldedSetIterable iter ev x = pure x := by intro _ _; rfl) : SCls N Y (⟨tg, iter, ifs, 0⟩ :: gs) (c :: cs)
section
variable {N : En} {W : WX} {X : Cx} {M M' : MM} {H H' : Hp} {s : S} {σ : St}
theorem fvs_can (cs : List CF) : fvs (cs.map (canCl N)) = fvF cs := by cases cs <;> rfl
theorem SCls.can {Y : Cx} : ∀ {gs : List Comprehension} {cs : List CF}, SCls N Y gs cs → ClsOk Y gs (cs.map (canCl N)) := by
  intro gs cs h
  induction h with
  | nil => exact .nil
  | @cons tg iter ifs gs c cs p1 p2 p3 p6 p4 p5 ih => exact .cons p1.can p2.can p3 (by rw [fvs_can]; exact mem_of_all p4) p5 ih
section
variable {tg iter elt : Expr} {scope : Scope} {own : List (Str × Nat)} {pos spos py : Pos} {fi : Ig} {fg : Tg} {ft : Ts} {fe : Ex} {ts : List Nat} {ifs : List Expr} {gs : List Comprehension} {cs : List CF} {i : Nat} {y : Str}
theorem SCls.sub (h : ∀ c ∈ cs, c.ts.all (fun i => c.vs.contains i) = true) {Y : Cx} (q : SCls N Y gs cs) : CfOk cs := by
  induction q with
  | nil => exact .nil
  | @cons tg iter ifs gs c cs p1 p2 p3 p6 p4 p5 ih => exact .cons (sub_wipe (h c List.mem_cons_self)) (sub_wipe p4) (ih fun c' hc => h c' (List.mem_cons_of_mem _ hc))
variable (hc : X.calm = true) (hN : X.N.Nodup) (hi : SIg N W X tg iter fi) (ok : BlkOk X.N X.env.scope scope own)
    (hg : ∀ (s : Shared) (H : Hp) (C : Addr) (cl : List (Str × Addr)) (fp : List Addr), SG N WF (X.blk s H scope (compEnvC scope cl C X.env) fp) tg fg ts) (ht : ∀ (s : Shared) (H : Hp) (C : Addr) (cl : List (Str × Addr)) (fp : List Addr), STs N WF (X.blk s H scope (compEnvC scope cl C X.env) fp) ifs ft)
    (he : ∀ (s : Shared) (H : Hp) (C : Addr) (cl : List (Str × Addr)) (fp : List Addr), SE N WF (X.blk s H scope (compEnvC scope cl C X.env) fp) elt fe)
    (hcl : ∀ (s : Shared) (H : Hp) (C : Addr) (cl : List (Str × Addr)) (fp : List Addr), SCls N (X.blk s H scope (compEnvC scope cl C X.env) fp) gs cs) (hok : CfOk cs)
include hc hN hi ok hg ht he hcl hok
end
end
end Z
/-! ## reversed(range(n)) -/
namespace Z
open PySem PySem.Spec L2 GxR
open PyProof.Rows hiding St
end Z
/-! ## sets of ints by comprehensions -/
namespace L2
open PpSet
open PySem PySem.Spec PyProof.Rows
end L2
/-! ## dicts of ints and sorted sets of ints by comprehensions -/
namespace L2
open PySem PySem.Spec PyProof.Rows
end L2
namespace Z
open PySem PySem.Spec L2 GxR
open PyProof.Rows hiding St
def onII (x y : D) {α : Type} (k : Int → Int → Res α) : Res α := match x, y with
  | .int i, .int j => k i j
  | _, _ => .stuck
def onZ (x : D) {α : Type} (k : Int → Res α) : Res α := match x with
  | .int i => k i
  | _ => .stuck
section
variable {N : En} {W : WX} {X : Cx} {M M' : MM} {H H' : Hp} {s : S} {σ : St}
def KvOk (kvs : List (Key × V)) (l : List (Int × Int)) : Prop := kvs.length ≤ l.length ∧ ∀ k : Int, valV kvs (Sum.inl k : Key) = (dlook l k).map V.int
theorem KvOk.put {kvs : List (Key × V)} {l : List (Int × Int)} (h : KvOk kvs l) (i j : Int) : KvOk (putK kvs (Sum.inl i : Key) (V.int j)) ((i, j) :: l) := by
  refine ⟨?_, fun k => ?_⟩
  · have := length_putK kvs (Sum.inl i : Key) (V.int j)
    have := h.1
    rw [List.length_cons]
    omega
  · rw [valV_put]
    unfold dlook
    rw [List.find?_cons]
    by_cases z : k = i
    · subst z
      simp
    · have z2 : ¬ (Sum.inl k : Key) = Sum.inl i := fun w => z (Sum.inl.inj w)
      rw [if_neg z2]
      have z3 : (i == k) = false := by simp; exact fun w => z w.symm
      simp only [z3]
      exact h.2 k
/-! ### as expressions -/
section
variable {tg iter kx vx elt o k e a b : Expr} {scope : Scope} {own : List (Str × Nat)} {pos spos py p p2 pos2 : Pos} {fi : Ig} {fg : Tg} {ft : Ts} {fk fe fo fx fa fb : Ex} {ts : List Nat} {ifs : List Expr}
/-- d.get(k, x) of a dict that is a cell -/
def eGetD (fo fk fx : Ex) : Ex := fun s => (fo s).bind fun x s1 => match x with
  | .cell n => (match s1.cs[n]? with
    | some (.dic _) => (fk s1).bind fun y s2 => (fx s2).bind fun z s3 => (match y with
      | .int k => (match s3.cs[n]? with
        | some (.dic l) => .ok ((dlook l k).elim z D.int) s3
        | _ => .stuck)
      | _ => .stuck)
    | _ => .stuck)
  | _ => .stuck
/-- k in d, k not in d -/
def eInDc (neg : Bool) (fk fo : Ex) : Ex := fun s => (fk s).bind fun y s1 => (fo s1).bind fun x s2 => match x, y with
  | .cell n, .int k => (match s2.cs[n]? with
    | some (.dic l) => .ok (.bl (if neg then !(dlook l k).isSome else (dlook l k).isSome)) s2
    | _ => .stuck)
  | _, _ => .stuck
/-- max of a list of ints -/
def maxLD : D → Option D
  | .lst l => (intsOf l).bind fun ns => match ns with
    | [] => none
    | n :: ns => some (.int (ns.foldl max n))
  | _ => none
/-- zip of two lists -/
def iZipL (fs : As) : Is := fun s => (fs s).bind fun ds s1 => match ds with
  | [.lst l, .lst m] => .ok (zpD l m) s1
  | _ => .stuck
end
end
/-! ### return [word, n.f] of a caught error -/
end Z
/-! ## sorted, of a tuple of ints -/
namespace PyProof.Rows
open PySem
end PyProof.Rows
namespace Z
open PySem PySem.Spec L2 GxR
open PyProof.Rows hiding St
def sortedTD : D → Option D
  | .tup l => (intsOf l).bind fun ns => if ns.length < 64 then some (.lst ((sortZ ns).map D.int)) else none
  | _ => none
section
variable {N : En} {W : WX} {X : L2.Cx} {a : Expr} {f : Ex} {p pos : Pos}
@[simp] theorem x_sortedT2 (a b : Int) : sortedTD (.tup [.int a, .int b]) = some (.lst [.int (min a b), .int (max a b)]) := by
  have h : sortZ [a, b] = [min a b, max a b] := (sortZ_unique (by
    by_cases c : a ≤ b
    · rw [Int.min_eq_left c, Int.max_eq_right c]
    · have c : b ≤ a := by omega
      rw [Int.min_eq_right c, Int.max_eq_left c]
      exact List.Perm.swap _ _ _) (by simp; omega)).symm
  unfold sortedTD
  rw [show [D.int a, D.int b] = [a, b].map D.int from rfl]
  simp only [intsOf_map, Option.bind_some]
  rw [h]
  rfl
end
end Z
/-! ## orders of rows of ints, and sorting by them -/
namespace Z
open PySem PySem.Spec L2 GxR
open PyProof.Rows hiding St
end Z
/-! ## sorted, of rows and of pairs -/
namespace Z
open PySem PySem.Spec L2 GxR
open PyProof.Rows hiding St
/-! ### as data -/
def allOf {ρ : Type} (f : D → Option ρ) : List D → Option (List ρ)
  | [] => some []
  | d :: ds => match f d, allOf f ds with
    | some r, some rs => some (r :: rs)
    | _, _ => none
end Z
/-! ## sorted(l, key=f), f a def of the program that tells how long a row is, and the row -/
namespace Z
open PySem PySem.Spec L2 GxR
open PyProof.Rows hiding St
end Z
/-! ## f(a, l), l a list of one's own, lent for a yes or no -/
namespace Z
open PySem PySem.Spec L2 GxR
open PyProof.Rows hiding St
def eCallQ (F : Fn) (i : Nat) (fa : Ex) : Ex := fun s => (fa s).bind fun e s1 => match s1.ρ[i]? with
  | some (.own l) => if okD 60 e && okDs 60 l then (match F [e, .lst l] [] with
    | .ok (.bl b) _ => .ok (.bl b) s1
    | _ => .stuck) else .stuck
  | _ => .stuck
section
variable {F : Fn} {fa : Ex} {s : S} {i : Nat}
@[simp] theorem x_eCallQ : eCallQ F i fa s = ((fa s).bind fun e s1 => match s1.ρ[i]? with
  | some (.own l) => if okD 60 e && okDs 60 l then (match F [e, .lst l] [] with
    | .ok (.bl b) _ => .ok (.bl b) s1
    | _ => .stuck) else .stuck
  | _ => .stuck) := Eq.trans rfl rfl
end
end Z
/-! ## sorted, of rows, or of a list of one item at most -/
namespace Z
open PySem PySem.Spec L2 GxR
open PyProof.Rows hiding St
end Z
/-! ## all(..), any(..) of a generator expression whose own names an inner block captures -/
namespace Z
open PySem PySem.Spec L2 GxR
open PyProof.Rows hiding St
open GenW
end Z
/-! ## an instance whose __init__ raises -/
namespace Z
open PySem PySem.Spec L2 GxR
open PyProof.Rows hiding St
def eMakeE (c0 : Nat) (F : Fn) (fs : As) : Ex := fun s => (fs s).bind fun ds s1 => match F (.cell s1.cs.length :: ds) (s1.cs ++ [.ins c0 []]) with
  | .ok .non s2 => .ok (.cell s1.cs.length) ⟨s1.ρ, s2.cs⟩
  | .exc c d s2 => .exc c d ⟨s1.ρ, s2.cs⟩
  | _ => .stuck
end Z
/-! ## try: .. except C: return None -/
namespace Z
open PySem PySem.Spec L2 GxR
open PyProof.Rows hiding St
def sTry0 (c : Nat) (b : Ss) : Ss := fun s => match b s with
  | .exc c' d s1 => if c' = c then .ok (.rt .non) s1 else .stuck
  | r => r
end Z
/-! ## a list in a cell compared -/
namespace Z
open PySem PySem.Spec L2 GxR
open PyProof.Rows hiding St
def eEqC (fa fb : Ex) : Ex := fun s => (fa s).bind fun x s1 => match x with
  | .cell n => (fb s1).bind fun y s2 => match s2.cs[n]? with
    | some (.lst l) => lift (eqOp (.lst l) y) s2
    | _ => .stuck
  | _ => .stuck
end Z
/-! ## a slice of a list in a cell; a walk over two lists of which the first is a cell -/
namespace Z
open PySem PySem.Spec L2 GxR
open PyProof.Rows hiding St
def eSlC (fo : Ex) (lo hi : Os) : Ex := fun s => (fo s).bind fun x s1 => (lo s1).bind fun l s2 => (hi s2).bind fun h s3 => match x with
  | .cell n => (match s3.cs[n]? with
    | some (.lst xs) => .ok (.lst (cutD xs l h)) s3
    | _ => .stuck)
  | _ => .stuck
/-- the pairs, what the cell holds, the cell -/
abbrev Ih := S → Res ((List D × List D) × Nat)
end Z
/-! ## sorted(set(l)), l a list of ints -/
namespace L2
open PySem PySem.Spec PyProof.Rows
theorem nodup_len {l m : List Int} (h : l.Nodup) (hs : ∀ x ∈ l, x ∈ m) : l.length ≤ m.length := by
  induction l generalizing m with
  | nil => exact Nat.zero_le _
  | cons x l ih =>
    obtain ⟨h1, h2⟩ := List.nodup_cons.mp h
    have hx := hs x List.mem_cons_self
    have := ih (m := m.erase x) h2 fun y hy => (List.mem_erase_of_ne fun (e : y = x) => h1 (e ▸ hy)).mpr (hs y (List.mem_cons_of_mem _ hy))
    rw [List.length_erase_of_mem hx] at this
    have := List.length_pos_of_mem hx
    rw [List.length_cons]
    omega
end L2
namespace Z
open PySem PySem.Spec L2 GxR
open PyProof.Rows hiding St
end Z
/-! ## a def as a value, and a call of one of several defs that a name holds -/
namespace Z
open PySem PySem.Spec L2 GxR
open PyProof.Rows hiding St
def eCallA (i : Nat) (l : List (Addr × Fn)) (fs : As) : Ex := fun s => match s.ρ[i]? with
  | some (.sv (.fn a)) => (match l.lookup a with
    | some F => (fs s).bind fun ds s1 => (match F ds s1.cs with
      | .ok d s2 => .ok d ⟨s1.ρ, s2.cs⟩
      | _ => .stuck)
    | none => .stuck)
  | _ => .stuck
section
variable {N : En} {W : WX} {X : Cx} {k n i : Nat} {x : Str} {a : Addr} {p pos : Pos} {e : Expr} {es : List Expr} {fs : As} {l : List (Addr × Fn)}
theorem se_fnN (hg : Gl X x) (hm : X.mg x = some (.ref a)) (hdb : (x == ("__debug__" : Str)) = false := by decide) : SE N W X (.Name x p) (eC (.fn a)) :=
  ⟨_, pe_glob hg hm (show RelV (V.ref a) (.ref a) from rfl) hdb, fun M s σ H Q rl q => q.here rl _ (.fn a)⟩
theorem held_in {P : Program} {w : World} {K : PySem.W.Frag} {mg : Str → Option Value} {base : Heap} (h : ∀ q ∈ l, Held P w K mg base k q.1 (spOf N n q.2)) : ∀ f sp, (l.lookup f).map (spOf N n) = some sp → Held P w K mg base k f sp := by
  have key : ∀ (l : List (Addr × Fn)) f F, (∀ q ∈ l, Held P w K mg base k q.1 (spOf N n q.2)) → l.lookup f = some F → Held P w K mg base k f (spOf N n F) := by
    intro l f F
    induction l with
    | nil => intro _ e; cases e
    | cons q l ih =>
      obtain ⟨b, G⟩ := q
      intro h e
      by_cases c : f = b
      · subst c
        rw [List.lookup_cons_self] at e
        cases e
        exact h _ List.mem_cons_self
      · have c' : (f == b) = false := beq_eq_false_iff_ne.mpr c
        rw [List.lookup_cons, c'] at e
        exact ih (fun q hq => h q (List.mem_cons_of_mem _ hq)) e
  intro f sp e
  obtain ⟨F, hF, rfl⟩ := Option.map_eq_some_iff.mp e
  exact key l f F h hF
theorem held_one {P : Program} {w : World} {K : PySem.W.Frag} {mg : Str → Option Value} {base : Heap} {f b : Addr} {fd : FuncData} {ps : List Str} {sp : Sp} {j : Nat} (e : f = b) (F : FnOk P w K mg base CX0 j f fd ps sp) (h : j ≤ k) (hk : PySem.W.keepIn K (.ref f) = true) (hb : Binds K fd ps []) : Held P w K mg base k b sp := by
  subst e
  exact ⟨⟨fd, ps, F.mono h, hk, hb⟩⟩
theorem se_callA (A : ∀ q ∈ l, Held X.prog X.w X.K X.mg X.base k q.1 (spOf N n q.2)) (hr : Room k X.A) (hN : X.N[i]? = some x) (hv : Vis X.env.scope x) (ha : SA N W X (e :: es) fs) (hn : (e :: es).length = n := by rfl)
    (hdb : (x == ("__debug__" : Str)) = false := by decide) (hcd : (x == ("__classdict__" : Str)) = false := by decide)
    (he : starEach (e :: es) X.env = (false, eval e X.env) :: starEach es X.env := by rfl) (hpl : (backTo pos (starEach es X.env)).any (·.1) = false := by rfl) : SE N W X (.Call (.Name x p) (e :: es) [] pos) (eCallA i l fs) := by
  obtain ⟨t, pt, st, hl⟩ := ha
  refine ⟨_, pe_callA (S := fun f => (l.lookup f).map (spOf N n)) (held_in A) hr hN hv pt hdb hcd he hpl, fun M s σ H Q rl q => ?_⟩
  unfold eCallA at q
  split at q
  · rename_i a hs
    split at q
    · rename_i F hF
      obtain ⟨v, k1, k2⟩ := rl.sv i _ hs
      cases k2
      refine ⟨a, spOf N n F, k1, (by show (l.lookup a).map (spOf N n) = _; rw [hF]; rfl), sa_run (es := e :: es) st hl rl q fun M1 H1 ds s1 vs e1 r1 q1 h1 h2 => ?_⟩
      refine ⟨M1.call, ds, s1.cs, r1.toRelC.call, ext0_call.ra h1, h2.trans hn, ?_⟩
      cases hG : F ds s1.cs with
      | stuck => rw [hG] at q1; exact q1.elim
      | ok d s2 =>
        rw [hG] at q1
        exact fun M' H' v e2 r2 h3 => q1 _ _ (back_ext e2) (r1.back e2 r2) v ((ext0_back e2).r h3)
      | exc c d s2 =>
        rw [hG] at q1
        exact q1.elim
    · exact q.elim
  · exact q.elim
end
end Z
/-! ## computing: instances, dicts with tuples for keys, walks over cells -/
namespace Z
open PySem PySem.Spec L2 GxR
open PyProof.Rows hiding St
section
variable {α β : Type} {s : S} {f g h fo fk fe fx : Ex} {fs : As} {t : Ts}
def onDct (o : Option Cell) (k : List (D × D) → Res α) : Res α := match o with
  | some (.dct l) => k l
  | _ => .stuck
@[simp] theorem onDct_s (l : List (D × D)) (k : List (D × D) → Res α) : onDct (some (.dct l)) k = k l := Eq.trans rfl rfl
def onIns (o : Option Cell) (c0 : Nat) (k : List (Nat × D) → Res α) : Res α := match o with
  | some (.ins c l) => if c = c0 then k l else .stuck
  | _ => .stuck
@[simp] theorem onIns_s (c : Nat) (l : List (Nat × D)) (k : List (Nat × D) → Res α) : onIns (some (.ins c l)) c k = k l := if_pos rfl
@[simp] theorem lookF_nil (i : Nat) : lookF [] i = none := Eq.trans rfl rfl
@[simp] theorem lookF_cons (i j : Nat) (d : D) (l : List (Nat × D)) : lookF ((i, d) :: l) j = if i = j then some d else lookF l j := by
  unfold lookF
  by_cases h : i = j <;> simp [h]
@[simp] theorem x_eFld (c0 i : Nat) : eFld c0 i fo s = (fo s).bind fun x s1 => onCe x fun n => onIns s1.cs[n]? c0 fun l => onD (lookF l i) fun d => .ok d s1 := by
  unfold eFld
  congr 1
@[simp] theorem x_sFldS (c0 i : Nat) : sFldS c0 i fo fe s = (fe s).bind fun d s1 => (fo s1).bind fun x s2 => onCe x fun n => onIns s2.cs[n]? c0 fun l => if l.length < 900 then .ok .nx { s2 with cs := s2.cs.set n (.ins c0 ((i, d) :: l)) } else .stuck := by
  unfold sFldS
  congr 1
  funext d s1
  congr 1
  funext x s2
  cases x <;> try rfl
  simp only [onCe_c]
  rename_i n
  cases s2.cs[n]? with
  | none => rfl
  | some c =>
    cases c <;> try rfl
    rename_i c l
    unfold onIns
    dsimp only
    by_cases h : c = c0
    · subst h
      simp
    · simp [h]
@[simp] theorem x_eMeth (c0 : Nat) (F : Fn) : eMeth c0 F fo fs s = (fo s).bind fun x s1 => onCe x fun n => onIns s1.cs[n]? c0 fun _ => (fs s1).bind fun ds s2 => onF s2 (F (.cell n :: ds) s2.cs).nox := by
  unfold eMeth
  congr 1
  funext x s1
  cases x <;> try rfl
  simp only [onCe_c]
  rename_i n
  cases s1.cs[n]? with
  | none => rfl
  | some c =>
    cases c <;> try rfl
    rename_i c l
    unfold onIns
    dsimp only
    split
    · congr 1
      funext ds s2
      cases F (D.cell n :: ds) s2.cs <;> rfl
    · rfl
def onMk (s1 : S) (r : Res D) : Res D := match r with
  | .ok .non s2 => .ok (.cell s1.cs.length) ⟨s1.ρ, s2.cs⟩
  | _ => .stuck
@[simp] theorem onMk_ok (s1 s2 : S) : onMk s1 (.ok .non s2) = .ok (.cell s1.cs.length) ⟨s1.ρ, s2.cs⟩ := Eq.trans rfl rfl
@[simp] theorem x_eMake (c0 : Nat) (F : Fn) : eMake c0 F fs s = (fs s).bind fun ds s1 => onMk s1 (F (.cell s1.cs.length :: ds) (s1.cs ++ [.ins c0 []])) := Eq.trans rfl rfl
@[simp] theorem x_eNewX : eNewX s = .ok (.cell s.cs.length) { s with cs := s.cs ++ [.dct []] } := Eq.trans rfl rfl
/-- it may be a key -/
def kOk (d : D) : Bool := match keyT d with
  | some k => decide (k.depth ≤ 8)
  | none => false
def flatK : D → Bool
  | .int _ => true
  | .bl _ => true
  | .str n => decide (n < 70)
  | _ => false
theorem flat_key {d : D} (h : flatK d = true) : ∃ k, keyD d = some k ∧ k.depth = 0 := by
  cases d with
  | int i => exact ⟨_, rfl, rfl⟩
  | bl b => exact ⟨_, rfl, rfl⟩
  | str n =>
    have : n < 70 := of_decide_eq_true h
    exact ⟨.text (txt n), by simp [keyD, this], rfl⟩
  | _ => cases h
theorem flat_keys : ∀ {l : List D}, l.all flatK = true → ∃ ks, keyDs l = some ks ∧ (NestedKey.tup ks).depth ≤ 1
  | [], _ => ⟨[], by simp [keyDs], Nat.le_of_ble_eq_true rfl⟩
  | d :: l, h => by
    rw [List.all_cons, Bool.and_eq_true] at h
    obtain ⟨k, h1, h2⟩ := flat_key h.1
    obtain ⟨ks, h3, h4⟩ := flat_keys h.2
    refine ⟨k :: ks, by simp [keyDs, h1, h3], ?_⟩
    simp only [NestedKey.depth, NestedKey.depthAll] at h4 ⊢
    omega
theorem kOk_flat {l : List D} (h : l.all flatK = true) : kOk (.tup l) = true := by
  obtain ⟨ks, h1, h2⟩ := flat_keys h
  have : keyT (.tup l) = some (.tup ks) := by simp [keyT, keyD, h1]
  unfold kOk
  rw [this]
  exact decide_eq_true (by omega)
theorem kOk_kind {kd : D} {xs : List Int} (h : kindNs kd = some xs) : kOk kd = true := by
  obtain ⟨k, h1, h2⟩ := kind_key h
  unfold kOk
  rw [h1]
  exact decide_eq_true h2
theorem key_if {d : D} {A : Res α} : (match keyT d with | some k => if k.depth ≤ 8 then A else .stuck | none => .stuck) = if kOk d = true then A else .stuck := by
  unfold kOk
  cases keyT d with
  | none => rfl
  | some k => simp
theorem key_if2 {d : D} {n : Nat} {A : Res α} : (match keyT d with | some k => if k.depth ≤ 8 ∧ n ≤ 100000 then A else .stuck | none => .stuck) = if kOk d = true ∧ n ≤ 100000 then A else .stuck := by
  unfold kOk
  cases keyT d with
  | none => simp
  | some k => simp
@[simp] theorem x_eInX (neg : Bool) : eInX neg fk fo s = (fk s).bind fun d s1 => (fo s1).bind fun x s2 => onCe x fun n => onDct s2.cs[n]? fun l => if kOk d = true then .ok (.bl (neg ^^ (dfind l d).isSome)) s2 else .stuck := by
  unfold eInX
  congr 1
  funext d s1
  congr 1
  funext x s2
  cases x <;> try rfl
  simp only [onCe_c]
  rename_i n
  cases s2.cs[n]? with
  | none => rfl
  | some c =>
    cases c <;> try rfl
    exact key_if
@[simp] theorem x_eGetX : eGetX fo fk s = (fo s).bind fun x s1 => (fk s1).bind fun d s2 => onCe x fun n => onDct s2.cs[n]? fun l => if kOk d = true then onD (dfind l d) fun z => .ok z s2 else .stuck := by
  unfold eGetX
  congr 1
  funext x s1
  congr 1
  funext d s2
  cases x <;> try rfl
  simp only [onCe_c]
  rename_i n
  cases s2.cs[n]? with
  | none => rfl
  | some c =>
    cases c <;> try rfl
    rename_i l
    unfold kOk onDct
    dsimp only
    cases hk : keyT d with
    | none => simp
    | some k =>
      cases dfind l d with
      | none => simp [onD]
      | some z => simp
@[simp] theorem x_sPutXd : sPutXd fo fk fe s = (fe s).bind fun z s1 => (fo s1).bind fun x s2 => (fk s2).bind fun d s3 => onCe x fun n => onDct s3.cs[n]? fun l => if kOk d = true ∧ l.length ≤ 100000 then .ok .nx { s3 with cs := s3.cs.set n (.dct (dstore l d z)) } else .stuck := by
  unfold sPutXd
  congr 1
  funext z s1
  congr 1
  funext x s2
  congr 1
  funext d s3
  cases x <;> try rfl
  simp only [onCe_c]
  rename_i n
  cases s3.cs[n]? with
  | none => rfl
  | some c =>
    cases c <;> try rfl
    exact key_if2
@[simp] theorem x_eGorX : eGorX fo fk fx s = (fo s).bind fun x s1 => onCe x fun n => onDct s1.cs[n]? fun _ => (fk s1).bind fun d s2 => (fx s2).bind fun z s3 => onDct s3.cs[n]? fun l => if kOk d = true then .ok ((dfind l d).getD z) s3 else .stuck := by
  unfold eGorX
  congr 1
  funext x s1
  cases x <;> try rfl
  simp only [onCe_c]
  rename_i n
  cases s1.cs[n]? with
  | none => rfl
  | some c =>
    cases c <;> try rfl
    simp only [onDct_s]
    congr 1
    funext d s2
    congr 1
    funext z s3
    cases s3.cs[n]? with
    | none => rfl
    | some c =>
      cases c <;> try rfl
      exact key_if
/-- what setdefault does -/
def sdfK (n : Nat) (l : List (D × D)) (d z : D) (s : S) : Option D → Res D
  | some y => .ok y s
  | none => .ok z { s with cs := s.cs.set n (.dct (dstore l d z)) }
@[simp] theorem x_eSdfX : eSdfX fo fk fx s = (fo s).bind fun x s1 => onCe x fun n => onDct s1.cs[n]? fun _ => (fk s1).bind fun d s2 => (fx s2).bind fun z s3 => onDct s3.cs[n]? fun l => if kOk d = true ∧ l.length ≤ 100000 then sdfK n l d z s3 (dfind l d) else .stuck := by
  unfold eSdfX
  congr 1
  funext x s1
  cases x <;> try rfl
  simp only [onCe_c]
  rename_i n
  cases s1.cs[n]? with
  | none => rfl
  | some c =>
    cases c <;> try rfl
    simp only [onDct_s]
    congr 1
    funext d s2
    congr 1
    funext z s3
    cases s3.cs[n]? with
    | none => rfl
    | some c =>
      cases c <;> try rfl
      refine Eq.trans ?_ key_if2
      cases keyT d with
      | none => rfl
      | some k => rfl
@[simp] theorem x_sAppC : sAppC fo fx s = (fo s).bind fun x s1 => onCe x fun n => onC s1.cs[n]? fun _ => (fx s1).bind fun d s2 => onC s2.cs[n]? fun l => if l.length < 100000 then .ok .nx { s2 with cs := s2.cs.set n (.lst (l ++ [d])) } else .stuck := by
  unfold sAppC
  congr 1
theorem cut_ab {l : List D} {a b : Int} (h : 0 ≤ a) (h' : 0 ≤ b) : cutD l (some a) (some b) = (l.drop a.toNat).take (b.toNat - a.toNat) := by
  unfold cutD
  have e1 : HT.sIx l.length 0 (some a) = min a.toNat l.length := by
    show (if a < 0 then _ else _) = _
    rw [if_neg (by omega)]
  have e2 : HT.sIx l.length l.length (some b) = min b.toNat l.length := by
    show (if b < 0 then _ else _) = _
    rw [if_neg (by omega)]
  rw [e1, e2]
  by_cases hl : a.toNat ≤ l.length
  · rw [Nat.min_eq_left hl]
    by_cases hb : b.toNat ≤ l.length
    · rw [Nat.min_eq_left hb]
    · rw [Nat.min_eq_right (by omega), List.take_of_length_le (by rw [List.length_drop]; omega), List.take_of_length_le (by rw [List.length_drop]; omega)]
  · have m : min a.toNat l.length = l.length := by omega
    rw [m, List.drop_eq_nil_of_le (Nat.le_refl _), List.drop_eq_nil_of_le (by omega)]
    simp
theorem rowsD_eq : ∀ {l : List D} {rows : List (List Bool)}, rowsD l = some rows → l = rows.map fun r => .lst (r.map D.bl)
  | [], _, h => by
    simp [rowsD] at h
    subst h
    rfl
  | d :: l, rows, h => by
    have rowD_eq : ∀ {l : List D} {r : List Bool}, rowD l = some r → l = r.map D.bl := by
      intro l
      induction l with
      | nil => intro r h; simp [rowD] at h; subst h; rfl
      | cons d l ih =>
        intro r h
        cases d with
        | bl b =>
          simp only [rowD] at h
          obtain ⟨r', h1, rfl⟩ := Option.map_eq_some_iff.mp h
          rw [ih h1]
          rfl
        | _ => simp [rowD] at h
    cases d with
    | lst r =>
      simp only [rowsD] at h
      split at h
      · rename_i a b h1 h2
        cases h
        rw [rowD_eq h1, rowsD_eq h2]
        rfl
      · cases h
    | _ => simp [rowsD] at h
theorem rowD_map : ∀ r : List Bool, rowD (r.map D.bl) = some r
  | [] => rfl
  | b :: r => by rw [List.map_cons, rowD, rowD_map r]; rfl
theorem rowsD_map : ∀ rows : List (List Bool), rowsD (rows.map fun r => .lst (r.map D.bl)) = some rows
  | [] => rfl
  | r :: rows => by rw [List.map_cons, rowsD, rowD_map, rowsD_map rows]
/-- a table as it is written -/
def rwD (r : List Bool) : D := .lst (r.map D.bl)
def tabD (rows : List (List Bool)) : D := .lst (rows.map rwD)
theorem tab_at {rows : List (List Bool)} {x : Int} (h0 : 0 ≤ x) (h : x < rows.length) : ixD (tabD rows) (.int x) = some (rwD (rowOf rows x)) := by
  have hx : x.toNat < rows.length := by omega
  have e : x = (x.toNat : Int) := by omega
  unfold tabD ixD rowOf
  dsimp only
  conv => lhs; rw [e]
  rw [Z.atI_nat, List.getElem?_map, List.getElem?_eq_getElem hx]
  simp [List.getD, hx]
theorem row_at {r : List Bool} {y : Int} (h0 : 0 ≤ y) (h : y < r.length) : ixD (rwD r) (.int y) = some (.bl (atB r y)) := by
  have hx : y.toNat < r.length := by omega
  have e : y = (y.toNat : Int) := by omega
  unfold rwD ixD atB
  dsimp only
  conv => lhs; rw [e]
  rw [Z.atI_nat, List.getElem?_map, List.getElem?_eq_getElem hx]
  simp [List.getD, hx]
theorem row_len {rows : List (List Bool)} {n : Nat} (hr : ∀ r ∈ rows, r.length = n) {x : Int} (h0 : 0 ≤ x) (h : x < rows.length) : (rowOf rows x).length = n := by
  have hx : x.toNat < rows.length := by omega
  unfold rowOf
  rw [List.getD_eq_getElem?_getD, List.getElem?_eq_getElem hx]
  exact hr _ (List.getElem_mem hx)
theorem sameDs_bl : ∀ r : List Bool, sameDs (r.map D.bl) (r.map D.bl) = true
  | [] => rfl
  | b :: r => by rw [List.map_cons, sameDs, sameDs_bl r]; simp [sameD]
theorem sameD_tab : ∀ rows : List (List Bool), sameD (tabD rows) (tabD rows) = true
  | [] => rfl
  | r :: rows => by
    have ih := sameD_tab rows
    unfold tabD at ih ⊢
    have e : rwD r = .lst (r.map D.bl) := rfl
    rw [sameD] at ih ⊢
    rw [List.map_cons, sameDs, ih]
    simp [e, sameD, sameDs_bl]
end
end Z
/-! ## comprehensions with two clauses, over cells; all and any with targets of any kind -/
namespace Z
open PySem PySem.Spec L2 GxR
open PyProof.Rows hiding St
section
variable {α β : Type} {s : S} {f fe : Ex} {fi : Is} {t t1 : Ts} {g : Tg} {vs : List Nat} {i j : Nat} {inj : α → D} {inj2 : β → D} {gi gi1 : Ig} {w : Option Nat}
theorem rest_back {vs : List Nat} {s s2 : S} (h : wipeS vs s2 = wipeS vs s) (hr : restL s.ρ vs s.ρ = s.ρ) : restS vs s s2 = s := by
  have e1 : (wipeS vs s2).cs = (wipeS vs s).cs := by rw [h]
  have e1 : s2.cs = s.cs := e1
  have e2 : (wipeS vs s2).ρ = (wipeS vs s).ρ := by rw [h]
  have e2 : wipeL vs s2.ρ = wipeL vs s.ρ := e2
  unfold restS
  rw [e1, ← restL_wipe, e2, restL_wipe, hr]
/-- all, any, with any target -/
theorem genG (brk : Bool) (xs : List α) (st : α → S) (tb : α → Bool) (hi : fi s = .ok (xs.map inj) s) (hr : restL s.ρ vs s.ρ = s.ρ)
    (h : ∀ x ∈ xs, g (inj x) (wipeS vs s) = .ok () (st x) ∧ f (st x) = .ok (.bl (tb x)) (st x) ∧ wipeS vs (st x) = wipeS vs s) :
    eGen brk vs fi g f s = .ok (.bl (if brk = true then xs.any tb else xs.all tb)) s := by
  unfold eGen
  rw [hi, bind_ok]
  have key : ∀ (ys : List α) (s' : S), (∀ x ∈ ys, x ∈ xs) → wipeS vs s' = wipeS vs s → ∃ s2, genL brk vs g f (ys.map inj) s' = .ok (if brk = true then ys.any tb else ys.all tb) s2 ∧ wipeS vs s2 = wipeS vs s := by
    intro ys
    induction ys with
    | nil => intro s' _ hw; exact ⟨s', by rw [List.map_nil, genL]; cases brk <;> rfl, hw⟩
    | cons y ys ih =>
      intro s' hm hw
      obtain ⟨h0, h1, h2⟩ := h y (hm y List.mem_cons_self)
      obtain ⟨s2, k1, k2⟩ := ih (st y) (fun x hx => hm x (List.mem_cons_of_mem _ hx)) h2
      rw [List.map_cons, genL, hw, h0, bind_ok, h1, bind_ok]
      cases brk <;> cases ht : tb y
      · exact ⟨st y, by simp [ht], h2⟩
      · exact ⟨s2, by simpa [ht] using k1, k2⟩
      · exact ⟨s2, by simpa [ht] using k1, k2⟩
      · exact ⟨st y, by simp [ht], h2⟩
  obtain ⟨s2, k1, k2⟩ := key xs s (fun _ h => h) rfl
  rw [k1, nox_ok, bind_ok, rest_back k2 hr]
theorem compG_ok (ds0 : List D) (hg : gdC w ds0 s.cs = true) (st : α → S) (tb : α → Bool) (fy : α → D) : ∀ (ys : List α) (s' : S), s'.cs = s.cs → wipeS vs s' = wipeS vs s → (∀ x ∈ ys, g (inj x) (wipeS vs s) = .ok () (st x) ∧ t (st x) = .ok (tb x) (st x) ∧ (tb x = true → f (st x) = .ok (fy x) (st x)) ∧ wipeS vs (st x) = wipeS vs s) →
    ∃ s2, compG w ds0 vs g t f (ys.map inj) s' = .ok ((ys.filter tb).map fy) s2 ∧ wipeS vs s2 = wipeS vs s ∧ s2.cs = s.cs
  | [], s', hc, hw, _ => ⟨s', by rw [List.map_nil, compG, hc, if_pos hg]; rfl, hw, hc⟩
  | y :: ys, s', hc, hw, h => by
    obtain ⟨h0, h1, h2, h3⟩ := h y List.mem_cons_self
    have hc3 : (st y).cs = s.cs := by
      have : (wipeS vs (st y)).cs = (wipeS vs s).cs := by rw [h3]
      exact this
    obtain ⟨s2, k1, k2, k3⟩ := compG_ok ds0 hg st tb fy ys (st y) hc3 h3 fun x hx => h x (List.mem_cons_of_mem _ hx)
    refine ⟨s2, ?_, k2, k3⟩
    rw [List.map_cons, compG, hc, if_pos hg, hw, h0, bind_ok, h1, bind_ok]
    cases ht : tb y with
    | false => rw [if_neg (by decide), k1, List.filter_cons_of_neg (by rw [ht]; decide)]
    | true => rw [if_pos rfl, h2 ht, bind_ok, k1, bind_ok, List.filter_cons_of_pos ht, List.map_cons]
def st1 (s : S) (i j : Nat) (x : D) : S := ⟨(s.ρ.set j .un).set i (.sv x), s.cs⟩
def st2 (s : S) (i j : Nat) (x y : D) : S := ⟨((s.ρ.set j .un).set i (.sv x)).set j (.sv y), s.cs⟩
@[simp] theorem st1_mk (ρ : List Slot) (cs : List Cell) (i j : Nat) (x : D) : st1 ⟨ρ, cs⟩ i j x = ⟨(ρ.set j .un).set i (.sv x), cs⟩ := rfl
@[simp] theorem st2_mk (ρ : List Slot) (cs : List Cell) (i j : Nat) (x y : D) : st2 ⟨ρ, cs⟩ i j x y = ⟨((ρ.set j .un).set i (.sv x)).set j (.sv y), cs⟩ := rfl
theorem wipe2 (s : S) (i j : Nat) : wipeS [i, j] s = ⟨(s.ρ.set j .un).set i .un, s.cs⟩ := rfl
/-- two clauses -/
theorem lc2T (hij : i ≠ j) (xs : List α) (ys : α → List β) (w1 : α → Option Nat) (ta : α → Bool) (tb : α → β → Bool) (fy : α → β → D) (hi : gi s = .ok (xs.map inj, w) s) (hg : gdC w (xs.map inj) s.cs = true) (hl : xs.length ≤ 300) (hr : restL s.ρ [i, j] s.ρ = s.ρ)
    (h : ∀ x ∈ xs, t (st1 s i j (inj x)) = .ok (ta x) (st1 s i j (inj x)) ∧ (ta x = true → gi1 (st1 s i j (inj x)) = .ok ((ys x).map inj2, w1 x) (st1 s i j (inj x)) ∧ gdC (w1 x) ((ys x).map inj2) s.cs = true ∧ (ys x).length ≤ 300 ∧
      ∀ y ∈ ys x, t1 (st2 s i j (inj x) (inj2 y)) = .ok (tb x y) (st2 s i j (inj x) (inj2 y)) ∧ (tb x y = true → f (st2 s i j (inj x) (inj2 y)) = .ok (fy x y) (st2 s i j (inj x) (inj2 y))))) :
    aLc2 [i, j] [j] gi (gN i) t gi1 (gN j) t1 f s = .ok (xs.flatMap fun x => if ta x = true then ((ys x).filter (tb x)).map (fy x) else []) s := by
  unfold aLc2
  rw [hi, bind_ok]
  dsimp only
  rw [List.length_map, if_pos hl]
  have key : ∀ (zs : List α) (s' : S), (∀ x ∈ zs, x ∈ xs) → wipeS [i, j] s' = wipeS [i, j] s → ∃ s2, comp2 w (xs.map inj) [i, j] [j] (gN i) t gi1 (gN j) t1 f (zs.map inj) s' = .ok (zs.flatMap fun x => if ta x = true then ((ys x).filter (tb x)).map (fy x) else []) s2 ∧ wipeS [i, j] s2 = wipeS [i, j] s := by
    intro zs
    induction zs with
    | nil =>
      intro s' _ hw
      have hc : s'.cs = s.cs := by
        have : (wipeS [i, j] s').cs = (wipeS [i, j] s).cs := by rw [hw]
        exact this
      exact ⟨s', by rw [List.map_nil, comp2, hc, if_pos hg]; rfl, hw⟩
    | cons z zs ih =>
      intro s' hm hw
      have hc : s'.cs = s.cs := by
        have : (wipeS [i, j] s').cs = (wipeS [i, j] s).cs := by rw [hw]
        exact this
      obtain ⟨h1, h2⟩ := h z (hm z List.mem_cons_self)
      have e0 : gN i (inj z) (wipeS [i, j] s') = .ok () (st1 s i j (inj z)) := by
        rw [hw, wipe2]
        show Res.ok () (⟨((s.ρ.set j .un).set i .un).set i (.sv (inj z)), s.cs⟩ : S) = _
        rw [List.set_set]
        rfl
      have w0 : wipeS [i, j] (st1 s i j (inj z)) = wipeS [i, j] s := by
        rw [wipe2, wipe2]
        show (⟨(((s.ρ.set j .un).set i (.sv (inj z))).set j .un).set i .un, s.cs⟩ : S) = _
        rw [List.set_comm _ _ hij, List.set_set, List.set_set]
      rw [List.map_cons, comp2, hc, if_pos hg, e0, bind_ok, h1, bind_ok, List.flatMap_cons]
      cases ht : ta z with
      | false =>
        obtain ⟨s2, k1, k2⟩ := ih (st1 s i j (inj z)) (fun x hx => hm x (List.mem_cons_of_mem _ hx)) w0
        refine ⟨s2, ?_, k2⟩
        rw [if_neg (by decide), k1, if_neg (by decide), List.nil_append]
      | true =>
        obtain ⟨g1, g2, g3, g4⟩ := h2 ht
        rw [if_pos rfl, g1, bind_ok]
        dsimp only
        rw [List.length_map, if_pos g3]
        have wj : wipeS [j] (st1 s i j (inj z)) = st1 s i j (inj z) := by
          show (⟨((s.ρ.set j .un).set i (.sv (inj z))).set j .un, s.cs⟩ : S) = ⟨(s.ρ.set j .un).set i (.sv (inj z)), s.cs⟩
          rw [List.set_comm _ _ hij, List.set_set]
        obtain ⟨s3, k1, k2, k3⟩ := compG_ok (s := st1 s i j (inj z)) (vs := [j]) (g := gN j) (t := t1) (f := f) (inj := inj2) ((ys z).map inj2) g2 (fun y => st2 s i j (inj z) (inj2 y)) (tb z) (fy z) (ys z) (st1 s i j (inj z)) rfl rfl fun y hy => by
          refine ⟨?_, (g4 y hy).1, (g4 y hy).2, ?_⟩
          · rw [wj]
            rfl
          · rw [wj]
            show (⟨(((s.ρ.set j .un).set i (.sv (inj z))).set j (.sv (inj2 y))).set j .un, s.cs⟩ : S) = _
            rw [List.set_set]
            exact wj
        rw [k1, bind_ok]
        have w3 : wipeS [i, j] s3 = wipeS [i, j] s := by
          have e1 : s3.ρ.set j .un = (st1 s i j (inj z)).ρ.set j .un := by
            have : (wipeS [j] s3).ρ = (wipeS [j] (st1 s i j (inj z))).ρ := by rw [k2]
            exact this
          rw [← w0, wipe2, wipe2, e1, k3]
        obtain ⟨s4, m1, m2⟩ := ih s3 (fun x hx => hm x (List.mem_cons_of_mem _ hx)) w3
        refine ⟨s4, ?_, m2⟩
        rw [m1, bind_ok, if_pos rfl]
  obtain ⟨s2, k1, k2⟩ := key xs s (fun _ h => h) rfl
  rw [k1, nox_ok, bind_ok, rest_back k2 hr]
@[simp] theorem gdC_none (ds : List D) (cs : List Cell) : gdC none ds cs = true := rfl
@[simp] theorem x_ig1 {fs : As} : ig1 fs s = (fs s).bind fun x s1 => on1 x fun d => onI d fun j => if -(2 ^ 62) ≤ j ∧ j < 2 ^ 62 then .ok (rngL 0 j, none) s1 else .stuck := by
  unfold ig1
  congr 1
  funext x s1
  match x with
  | [] => rfl
  | [a] => cases a <;> rfl
  | a :: c :: l => cases a <;> cases c <;> cases l <;> rfl
def onR (x : D) (k : Int → Int → Res (List D × Option Nat)) : Res (List D × Option Nat) := match x with
  | .rng a b => k a b
  | _ => .stuck
@[simp] theorem onR_r (a b : Int) (k : Int → Int → Res (List D × Option Nat)) : onR (.rng a b) k = k a b := rfl
@[simp] theorem x_igV : igV fe s = (fe s).bind fun x s1 => onR x fun a b => if -(2 ^ 62) ≤ a ∧ a < 2 ^ 62 ∧ -(2 ^ 62) ≤ b ∧ b < 2 ^ 62 then .ok (rngL a b, none) s1 else .stuck := by
  unfold igV
  congr 1
@[simp] theorem x_igD : igD fe s = (fe s).bind igK := rfl
@[simp] theorem igK_tup (l : List D) : igK (.tup l) s = .ok (l, none) s := rfl
@[simp] theorem igK_lst (l : List D) : igK (.lst l) s = .ok (l, none) s := rfl
def onRl (x : D) (k : Int → Int → Res (List D)) : Res (List D) := match x with
  | .rng a b => k a b
  | _ => .stuck
@[simp] theorem onRl_r (a b : Int) (k : Int → Int → Res (List D)) : onRl (.rng a b) k = k a b := rfl
@[simp] theorem x_iRnV : iRnV fe s = (fe s).bind fun x s1 => onRl x fun a b => if -(2 ^ 62) ≤ a ∧ a < 2 ^ 62 ∧ -(2 ^ 62) ≤ b ∧ b < 2 ^ 62 then .ok (rngL a b) s1 else .stuck := by
  unfold iRnV
  congr 1
def onI1 (x : List D) (k : Int → Res D) : Res D := match x with
  | [.int j] => k j
  | _ => .stuck
@[simp] theorem onI1_i (j : Int) (k : Int → Res D) : onI1 [.int j] k = k j := rfl
@[simp] theorem x_eRng1 {fs : As} : eRng1 fs s = (fs s).bind fun x s1 => onI1 x fun j => .ok (.rng 0 j) s1 := by
  unfold eRng1
  congr 1
end
theorem lim0 : -(2 ^ 62) ≤ (0 : Int) ∧ (0 : Int) < 2 ^ 62 := by decide
theorem limN {n : Nat} (hn : n ≤ 1000000) : -(2 ^ 62) ≤ (n : Int) ∧ (n : Int) < 2 ^ 62 := by omega
theorem lim_if {α : Type} {n : Nat} (hn : n ≤ 1000000) (a b : α) : (if -(2 ^ 62) ≤ (0 : Int) ∧ (0 : Int) < 2 ^ 62 ∧ -(2 ^ 62) ≤ (n : Int) ∧ (n : Int) < 2 ^ 62 then a else b) = a := if_pos ⟨lim0.1, lim0.2, (limN hn).1, (limN hn).2⟩
theorem lim_if1 {α : Type} {n : Nat} (hn : n ≤ 1000000) (a b : α) : (if -(2 ^ 62) ≤ (n : Int) ∧ (n : Int) < 2 ^ 62 then a else b) = a := if_pos (limN hn)
/-- for x in a range kept in a name -/
theorem rngV_ok {n : Nat} (hn : n ≤ 1000000) {ρ : List Slot} {cs : List Cell} {i : Nat} (h : ρ[i]? = some (.sv (.rng 0 n))) : iRnV (eV i) ⟨ρ, cs⟩ = .ok ((zts n).map D.int) ⟨ρ, cs⟩ := by
  rw [x_iRnV, eV_eq]
  show (onSl ρ[i]? _).bind _ = _
  rw [h, onSl_some, rdV_sv, bind_ok, onRl_r, lim_if hn, rngL_zts]
theorem igV_ok {n : Nat} (hn : n ≤ 1000000) {ρ : List Slot} {cs : List Cell} {i : Nat} (h : ρ[i]? = some (.sv (.rng 0 n))) : igV (eV i) ⟨ρ, cs⟩ = .ok ((zts n).map D.int, none) ⟨ρ, cs⟩ := by
  rw [x_igV, eV_eq]
  show (onSl ρ[i]? _).bind _ = _
  rw [h, onSl_some, rdV_sv, bind_ok, onR_r, lim_if hn, rngL_zts]
/-- for x in range(n) -/
theorem rn1_ok {n : Nat} (hn : n ≤ 1000000) {f : Ex} {s : S} (h : f s = .ok (.int n) s) : iRn1 (aCons f aNil) s = .ok ((zts n).map D.int) s := by
  rw [x_iRn1, x_aCons, h, bind_ok, x_aNil, bind_ok, bind_ok, on1_1, onI_int, lim_if1 hn, rngL_zts]
end Z
/-! ## computing: over an own list that stays own -/
namespace Z
open PySem PySem.Spec L2 GxR
open PyProof.Rows hiding St
end Z
/-! ## computing: a target that is an attribute -/
namespace Z
open PySem PySem.Spec L2 GxR
open PyProof.Rows hiding St
section
variable {s : S} {d : D} {fo : Ex}
@[simp] theorem x_gFld (c0 i : Nat) : gFld c0 i fo d s = (fo s).bind fun x s2 => onCe x fun n => onIns s2.cs[n]? c0 fun l => if l.length < 900 then .ok () { s2 with cs := s2.cs.set n (.ins c0 ((i, d) :: l)) } else .stuck := by
  unfold gFld
  congr 1
  funext x s2
  cases x <;> try rfl
  simp only [onCe_c]
  rename_i n
  cases s2.cs[n]? with
  | none => rfl
  | some c =>
    cases c <;> try rfl
    rename_i c l
    unfold onIns
    dsimp only
    by_cases h : c = c0
    · subst h
      simp
    · simp [h]
end
end Z
/-! ## computing: x or y, by truth -/
namespace Z
open PySem PySem.Spec L2 GxR
open PyProof.Rows hiding St
def onTr {α : Type} (o : Option Bool) (k : Bool → Res α) : Res α := match o with
  | some b => k b
  | none => .stuck
@[simp] theorem onTr_s {α : Type} {b : Bool} {k : Bool → Res α} : onTr (some b) k = k b := rfl
section
variable {s : S} {fa fb : Ex}
@[simp] theorem x_eOrT : eOrT fa fb s = (fa s).bind fun x s1 => onTr (truD x) fun b => if b = true then .ok x s1 else fb s1 := by
  unfold eOrT
  congr 1
  funext x s1
  cases truD x with
  | none => rfl
  | some b => cases b <;> rfl
end
end Z
/-! ## computing: the length of a list in a cell -/
namespace Z
open PySem PySem.Spec L2 GxR
open PyProof.Rows hiding St
section
variable {s : S} {f : Ex}
@[simp] theorem x_eLenC : eLenC f s = (f s).bind fun x s1 => onCe x fun n => onC s1.cs[n]? fun l => .ok (.int l.length) s1 := by
  unfold eLenC
  congr 1
end
end Z
/-! ## computing: pop, tuple, list of a list in a cell -/
namespace Z
open PySem PySem.Spec L2 GxR
open PyProof.Rows hiding St
section
variable {s : S} {f : Ex}
@[simp] theorem x_ePopC : ePopC f s = (f s).bind fun x s1 => onCe x fun n => onC s1.cs[n]? fun l => onD l.getLast? fun d => .ok d { s1 with cs := s1.cs.set n (.lst l.dropLast) } := by
  unfold ePopC
  congr 1
@[simp] theorem x_ePop0 (i : Nat) : ePop0 i s = onO s.ρ[i]? fun l => onD l.getLast? fun d => .ok d { s with ρ := s.ρ.set i (.own l.dropLast) } := by
  unfold ePop0 onO
  cases s.ρ[i]? with
  | none => rfl
  | some c => cases c <;> rfl
@[simp] theorem x_eTupC : eTupC f s = (f s).bind fun x s1 => onCe x fun n => onC s1.cs[n]? fun l => .ok (.tup l) s1 := by
  unfold eTupC
  congr 1
@[simp] theorem x_aLstC : aLstC f s = (f s).bind fun x s1 => onCe x fun n => onC s1.cs[n]? fun l => .ok l s1 := by
  unfold aLstC
  congr 1
end
end Z
/-! ## computing: a method that raises -/
namespace Z
open PySem PySem.Spec L2 GxR
open PyProof.Rows hiding St
section
variable {s : S} {fo : Ex} {fs : As}
@[simp] theorem x_eMethE (c0 : Nat) (F : Fn) : eMethE c0 F fo fs s = (fo s).bind fun x s1 => onCe x fun n => onIns s1.cs[n]? c0 fun _ => (fs s1).bind fun ds s2 => onF s2 (F (.cell n :: ds) s2.cs) := by
  unfold eMethE
  congr 1
end
end Z
/-! ## computing: dicts and sets by comprehensions -/
namespace Z
open PySem PySem.Spec L2 GxR
open PyProof.Rows hiding St
section
variable {fo fk fx fe : Ex} {fs : As} {s : S}
@[simp] theorem x_eGetD : eGetD fo fk fx s = (fo s).bind fun x s1 => match x with
  | .cell n => (match s1.cs[n]? with
    | some (.dic _) => (fk s1).bind fun y s2 => (fx s2).bind fun z s3 => (match y with
      | .int k => (match s3.cs[n]? with
        | some (.dic l) => .ok ((dlook l k).elim z D.int) s3
        | _ => .stuck)
      | _ => .stuck)
    | _ => .stuck)
  | _ => .stuck := Eq.trans rfl rfl
@[simp] theorem x_eInDc {neg : Bool} : eInDc neg fk fo s = (fk s).bind fun y s1 => (fo s1).bind fun x s2 => match x, y with
  | .cell n, .int k => (match s2.cs[n]? with
    | some (.dic l) => .ok (.bl (if neg then !(dlook l k).isSome else (dlook l k).isSome)) s2
    | _ => .stuck)
  | _, _ => .stuck := Eq.trans rfl rfl
@[simp] theorem x_maxL (n : Int) (ns : List Int) : maxLD (.lst (.int n :: ns.map D.int)) = some (.int (ns.foldl max n)) := by
  have : D.int n :: ns.map D.int = (n :: ns).map D.int := rfl
  rw [this]
  show (intsOf ((n :: ns).map D.int)).bind _ = _
  rw [intsOf_map]
  rfl
def onLL (x : List D) (k : List D → List D → Res (List D)) : Res (List D) := match x with
  | [.lst l, .lst m] => k l m
  | _ => .stuck
@[simp] theorem onLL_ll (l m : List D) (k : List D → List D → Res (List D)) : onLL [.lst l, .lst m] k = k l m := rfl
@[simp] theorem x_iZipL : iZipL fs s = (fs s).bind fun ds s1 => onLL ds fun l m => .ok (zpD l m) s1 := by
  unfold iZipL onLL
  congr 1
@[simp] theorem onII_ii {α : Type} (i j : Int) (k : Int → Int → Res α) : onII (.int i) (.int j) k = k i j := rfl
@[simp] theorem onZ_i {α : Type} (i : Int) (k : Int → Res α) : onZ (.int i) k = k i := rfl
variable {α : Type} {inj : α → D} {gi : Ig} {w : Option Nat} {t : Ts} {i : Nat}
end
end Z
/-! ## computing: an instance whose __init__ raises -/
namespace Z
open PySem PySem.Spec L2 GxR
open PyProof.Rows hiding St
def onMkE (s1 : S) (r : Res D) : Res D := match r with
  | .ok .non s2 => .ok (.cell s1.cs.length) ⟨s1.ρ, s2.cs⟩
  | .exc c d s2 => .exc c d ⟨s1.ρ, s2.cs⟩
  | _ => .stuck
section
variable {s : S} {fs : As}
@[simp] theorem onMkE_ok (s1 s2 : S) : onMkE s1 (.ok .non s2) = .ok (.cell s1.cs.length) ⟨s1.ρ, s2.cs⟩ := Eq.trans rfl rfl
@[simp] theorem onMkE_exc (s1 s2 : S) (c : Nat) (d : D) : onMkE s1 (.exc c d s2) = .exc c d ⟨s1.ρ, s2.cs⟩ := Eq.trans rfl rfl
@[simp] theorem x_eMakeE (c0 : Nat) (F : Fn) : eMakeE c0 F fs s = (fs s).bind fun ds s1 => onMkE s1 (F (.cell s1.cs.length :: ds) (s1.cs ++ [.ins c0 []])) := Eq.trans rfl rfl
end
end Z
/-! ## computing: try: .. except C: return None -/
namespace Z
open PySem PySem.Spec L2 GxR
open PyProof.Rows hiding St
def tryR0 (c : Nat) (r : Res Fl) : Res Fl := match r with
  | .exc c' d s1 => if c' = c then .ok (.rt .non) s1 else .stuck
  | r => r
section
variable {s : S} {b : Ss}
@[simp] theorem tryR0_ok (c : Nat) (fl : Fl) (s : S) : tryR0 c (.ok fl s) = .ok fl s := Eq.trans rfl rfl
@[simp] theorem tryR0_exc (c : Nat) (d : D) (s : S) : tryR0 c (.exc c d s) = .ok (.rt .non) s := by
  unfold tryR0
  simp
@[simp] theorem sTry0_eq (c : Nat) : sTry0 c b s = tryR0 c (b s) := by
  unfold sTry0 tryR0
  cases b s <;> rfl
end
end Z
/-! ## computing: a list in a cell compared -/
namespace Z
open PySem PySem.Spec L2 GxR
open PyProof.Rows hiding St
section
variable {s : S} {fa fb : Ex}
@[simp] theorem x_eEqC : eEqC fa fb s = (fa s).bind fun x s1 => onCe x fun n => (fb s1).bind fun y s2 => onC s2.cs[n]? fun l => lift (eqOp (.lst l) y) s2 := by
  unfold eEqC
  congr 1
end
end Z
/-! ## computing: a slice of a cell, a walk over a cell and a list -/
namespace Z
open PySem PySem.Spec L2 GxR
open PyProof.Rows hiding St
section
variable {s : S} {f : Ex} {flo fhi : Os} {fs : As} {fi : Ih} {g : Tg} {b : Ss}
@[simp] theorem x_eSlC : eSlC f flo fhi s = (f s).bind fun x s1 => (flo s1).bind fun l s2 => (fhi s2).bind fun h s3 => onCe x fun n => onC s3.cs[n]? fun xs => .ok (.lst (cutD xs l h)) s3 := by
  unfold eSlC
  congr 1
end
end Z
/-! ## computing: sorted(set(l)) -/
namespace Z
open PySem PySem.Spec L2 GxR
open PyProof.Rows hiding St
end Z
namespace V
open PySem PySem.Spec L2 GxR Z
open PyProof.Rows hiding St
def top (i : Nat) : Stmt := PySem.Challenge.pw_allsomeno_k19_whole_further_premises.main.body.getD i (.Pass ⟨0, 0, 0, 0⟩)
def clsBody : Stmt → List Stmt
  | .ClassDef (body := b) .. => b
  | _ => []
abbrev sis_integer : Stmt := top 10
abbrev Nis_integer : List Str := ["value", "least", "most"]
theorem scis_integer : FnScope Nis_integer ["value", "least", "most"] (defScope sis_integer) := ⟨rfl, rfl, rfl, by decide +kernel, rfl, by decide +kernel, by decide +kernel⟩
abbrev sis_noun : Stmt := top 11
abbrev Nis_noun : List Str := ["signature", "value"]
theorem scis_noun : FnScope Nis_noun ["signature", "value"] (defScope sis_noun) := ⟨rfl, rfl, rfl, by decide +kernel, rfl, by decide +kernel, by decide +kernel⟩
abbrev sis_verb : Stmt := top 12
abbrev Nis_verb : List Str := ["signature", "value"]
theorem scis_verb : FnScope Nis_verb ["signature", "value"] (defScope sis_verb) := ⟨rfl, rfl, rfl, by decide +kernel, rfl, by decide +kernel, by decide +kernel⟩
abbrev sis_signature : Stmt := top 13
abbrev Nis_signature : List Str := ["value"]
theorem scis_signature : FnScope Nis_signature ["value"] (defScope sis_signature) := ⟨rfl, rfl, rfl, by decide +kernel, rfl, by decide +kernel, by decide +kernel⟩
abbrev s_is_verb_sentence : Stmt := top 15
abbrev N_is_verb_sentence : List Str := ["signature", "value", "_", "q", "x", "does", "v", "by", "p", "y"]
theorem sc_is_verb_sentence : FnScope N_is_verb_sentence ["signature", "value"] (defScope s_is_verb_sentence) := ⟨rfl, rfl, rfl, by decide +kernel, rfl, by decide +kernel, by decide +kernel⟩
abbrev s_is_self_sentence : Stmt := top 16
abbrev N_is_self_sentence : List Str := ["signature", "value", "_", "q", "x", "does", "v"]
theorem sc_is_self_sentence : FnScope N_is_self_sentence ["signature", "value"] (defScope s_is_self_sentence) := ⟨rfl, rfl, rfl, by decide +kernel, rfl, by decide +kernel, by decide +kernel⟩
abbrev sis_sentence : Stmt := top 14
abbrev Nis_sentence : List Str := ["signature", "value"]
theorem scis_sentence : FnScope Nis_sentence ["signature", "value"] (defScope sis_sentence) := ⟨rfl, rfl, rfl, by decide +kernel, rfl, by decide +kernel, by decide +kernel⟩
abbrev sare_premises : Stmt := top 17
abbrev Nare_premises : List Str := ["signature", "value", "one"]
theorem scare_premises : FnScope Nare_premises ["signature", "value"] (defScope sare_premises) := ⟨rfl, rfl, rfl, by decide +kernel, rfl, by decide +kernel, by decide +kernel⟩
abbrev scheck_signature : Stmt := top 18
abbrev Ncheck_signature : List Str := ["signature"]
theorem sccheck_signature : FnScope Ncheck_signature ["signature"] (defScope scheck_signature) := ⟨rfl, rfl, rfl, by decide +kernel, rfl, by decide +kernel, by decide +kernel⟩
abbrev scheck_premises : Stmt := top 19
abbrev Ncheck_premises : List Str := ["signature", "premises", "name"]
theorem sccheck_premises : FnScope Ncheck_premises ["signature", "premises", "name"] (defScope scheck_premises) := ⟨rfl, rfl, rfl, by decide +kernel, rfl, by decide +kernel, by decide +kernel⟩
abbrev snouns_of : Stmt := top 21
abbrev Nnouns_of : List Str := ["kind"]
theorem scnouns_of : FnScope Nnouns_of ["kind"] (defScope snouns_of) := ⟨rfl, rfl, rfl, by decide +kernel, rfl, by decide +kernel, by decide +kernel⟩
abbrev s_stated_by : Stmt := top 22
abbrev N_stated_by : List Str := ["premise", "word", "x", "y", "_", "does", "v", "by", "p"]
theorem sc_stated_by : FnScope N_stated_by ["premise"] (defScope s_stated_by) := ⟨rfl, rfl, rfl, by decide +kernel, rfl, by decide +kernel, by decide +kernel⟩
abbrev skinds_stated : Stmt := top 23
abbrev Nkinds_stated : List Str := ["premises", "kinds", "premise", "kind"]
theorem sckinds_stated : FnScope Nkinds_stated ["premises"] (defScope skinds_stated) := ⟨rfl, rfl, rfl, by decide +kernel, rfl, by decide +kernel, by decide +kernel⟩
abbrev s_table : Stmt := top 25
abbrev N_table : List Str := ["many", "pairs", "x", "y"]
theorem sc_table : FnScope N_table ["many", "pairs"] (defScope s_table) := ⟨rfl, rfl, rfl, by decide +kernel, rfl, by decide +kernel, by decide +kernel⟩
abbrev s_leads : Stmt := top 26
abbrev N_leads : List Str := ["table", "x", "y", "z"]
theorem sc_leads : FnScope N_leads ["table", "x", "y"] (defScope s_leads) := ⟨rfl, rfl, rfl, by decide +kernel, rfl, by decide +kernel, by decide +kernel⟩
abbrev s_more_subsets : Stmt := top 27
abbrev N_more_subsets : List Str := ["inside", "enough", "nouns", "x", "y"]
theorem sc_more_subsets : FnScope N_more_subsets ["inside", "enough"] (defScope s_more_subsets) := ⟨rfl, rfl, rfl, by decide +kernel, rfl, by decide +kernel, by decide +kernel⟩
abbrev s_more_at_least : Stmt := top 28
abbrev N_more_at_least : List Str := ["inside", "enough", "nouns", "x", "y"]
theorem sc_more_at_least : FnScope N_more_at_least ["inside", "enough"] (defScope s_more_at_least) := ⟨rfl, rfl, rfl, by decide +kernel, rfl, by decide +kernel, by decide +kernel⟩
abbrev stables_of : Stmt := top 29
abbrev Ntables_of : List Str := ["many", "premises", "parts", "counts", "premise", "inside", "enough", "before", "x"]
theorem sctables_of : FnScope Ntables_of ["many", "premises"] (defScope stables_of) := ⟨rfl, rfl, rfl, by decide +kernel, rfl, by decide +kernel, by decide +kernel⟩
abbrev snouns_over : Stmt := top 30
abbrev Nnouns_over : List Str := ["inside", "kind", "y", "x"]
theorem scnouns_over : FnScope Nnouns_over ["inside", "kind"] (defScope snouns_over) := ⟨rfl, rfl, rfl, by decide +kernel, rfl, by decide +kernel, by decide +kernel⟩
abbrev s_needs : Stmt := top 31
abbrev N_needs : List Str := ["inside", "enough", "premises", "x", "y", "premise"]
theorem sc_needs : FnScope N_needs ["inside", "enough", "premises", "x", "y"] (defScope s_needs) := ⟨rfl, rfl, rfl, by decide +kernel, rfl, by decide +kernel, by decide +kernel⟩
abbrev snouns_needed : Stmt := top 32
abbrev Nnouns_needed : List Str := ["inside", "enough", "premises", "needed", "kind", "at", "more", "y", "x"]
theorem scnouns_needed : FnScope Nnouns_needed ["inside", "enough", "premises"] (defScope snouns_needed) := ⟨rfl, rfl, rfl, by decide +kernel, rfl, by decide +kernel, by decide +kernel⟩
abbrev s_different_pairs : Stmt := top 33
abbrev N_different_pairs : List Str := ["table", "nouns", "x", "y"]
theorem sc_different_pairs : FnScope N_different_pairs ["table"] (defScope s_different_pairs) := ⟨rfl, rfl, rfl, by decide +kernel, rfl, by decide +kernel, by decide +kernel⟩
abbrev ssubsets : Stmt := top 34
abbrev Nsubsets : List Str := ["signature", "premises", "inside", "_"]
theorem scsubsets : FnScope Nsubsets ["signature", "premises"] (defScope ssubsets) := ⟨rfl, rfl, rfl, by decide +kernel, rfl, by decide +kernel, by decide +kernel⟩
abbrev sat_least : Stmt := top 35
abbrev Nat_least : List Str := ["signature", "premises", "_", "enough"]
theorem scat_least : FnScope Nat_least ["signature", "premises"] (defScope sat_least) := ⟨rfl, rfl, rfl, by decide +kernel, rfl, by decide +kernel, by decide +kernel⟩
abbrev snouns_required : Stmt := top 36
abbrev Nnouns_required : List Str := ["signature", "premises", "inside", "enough"]
theorem scnouns_required : FnScope Nnouns_required ["signature", "premises"] (defScope snouns_required) := ⟨rfl, rfl, rfl, by decide +kernel, rfl, by decide +kernel, by decide +kernel⟩
abbrev s_is_mark_rest : Stmt := top 41
abbrev N_is_mark_rest : List Str := ["signature", "rest", "does", "v", "by", "y"]
theorem sc_is_mark_rest : FnScope N_is_mark_rest ["signature", "rest"] (defScope s_is_mark_rest) := ⟨rfl, rfl, rfl, by decide +kernel, rfl, by decide +kernel, by decide +kernel⟩
abbrev shas_form_of_kind : Stmt := top 40
abbrev Nhas_form_of_kind : List Str := ["signature", "value", "word", "rest"]
theorem schas_form_of_kind : FnScope Nhas_form_of_kind ["signature", "value"] (defScope shas_form_of_kind) := ⟨rfl, rfl, rfl, by decide +kernel, rfl, by decide +kernel, by decide +kernel⟩
abbrev s_check_kind : Stmt := top 42
abbrev N_check_kind : List Str := ["signature", "kind", "name"]
theorem sc_check_kind : FnScope N_check_kind ["signature", "kind", "name"] (defScope s_check_kind) := ⟨rfl, rfl, rfl, by decide +kernel, rfl, by decide +kernel, by decide +kernel⟩
abbrev s_check_verb : Stmt := top 43
abbrev N_check_verb : List Str := ["signature", "verb"]
theorem sc_check_verb : FnScope N_check_verb ["signature", "verb"] (defScope s_check_verb) := ⟨rfl, rfl, rfl, by decide +kernel, rfl, by decide +kernel, by decide +kernel⟩
abbrev skinds_needed : Stmt := top 44
abbrev Nkinds_needed : List Str := ["inside", "enough", "premises", "singles", "others", "x", "kind"]
theorem sckinds_needed : FnScope Nkinds_needed ["inside", "enough", "premises"] (defScope skinds_needed) := ⟨rfl, rfl, rfl, by decide +kernel, rfl, by decide +kernel, by decide +kernel⟩
abbrev s_word : Stmt := top 45
abbrev N_word : List Str := ["yes", "no"]
theorem sc_word : FnScope N_word ["yes", "no"] (defScope s_word) := ⟨rfl, rfl, rfl, by decide +kernel, rfl, by decide +kernel, by decide +kernel⟩
abbrev skinds_required : Stmt := top 46
abbrev Nkinds_required : List Str := ["signature", "premises", "inside", "enough"]
theorem sckinds_required : FnScope Nkinds_required ["signature", "premises"] (defScope skinds_required) := ⟨rfl, rfl, rfl, by decide +kernel, rfl, by decide +kernel, by decide +kernel⟩
abbrev sForcing___init__ : Stmt := (clsBody (top 38)).getD 0 (.Pass ⟨0, 0, 0, 0⟩)
abbrev NForcing___init__ : List Str := ["self", "inside", "premises", "premise", "_", "x", "does", "v", "by", "y"]
theorem scForcing___init__ : FnScope NForcing___init__ ["self", "inside", "premises"] (defScope sForcing___init__) := ⟨rfl, rfl, rfl, by decide +kernel, rfl, by decide +kernel, by decide +kernel⟩
abbrev sForcing_nouns_above : Stmt := (clsBody (top 38)).getD 1 (.Pass ⟨0, 0, 0, 0⟩)
abbrev NForcing_nouns_above : List Str := ["self", "kind"]
theorem scForcing_nouns_above : FnScope NForcing_nouns_above ["self", "kind"] (defScope sForcing_nouns_above) := ⟨rfl, rfl, rfl, by decide +kernel, rfl, by decide +kernel, by decide +kernel⟩
abbrev sForcing_is_between : Stmt := (clsBody (top 38)).getD 2 (.Pass ⟨0, 0, 0, 0⟩)
abbrev NForcing_is_between : List Str := ["self", "does", "verb", "first", "second", "doers", "targets", "x", "y"]
theorem scForcing_is_between : FnScope NForcing_is_between ["self", "does", "verb", "first", "second"] (defScope sForcing_is_between) := ⟨rfl, rfl, rfl, by decide +kernel, rfl, by decide +kernel, by decide +kernel⟩
abbrev sforced_between : Stmt := top 47
abbrev Nforced_between : List Str := ["signature", "premises", "verb", "first", "second", "inside", "_", "forcing", "yes"]
theorem scforced_between : FnScope Nforced_between ["signature", "premises", "verb", "first", "second"] (defScope sforced_between) := ⟨rfl, rfl, rfl, by decide +kernel, rfl, by decide +kernel, by decide +kernel⟩
abbrev s_law_stream : Stmt := top 49
abbrev N_law_stream : List Str := ["script"]
theorem sc_law_stream : FnScope N_law_stream ["script"] (defScope s_law_stream) := ⟨rfl, rfl, rfl, by decide +kernel, rfl, by decide +kernel, by decide +kernel⟩
abbrev s_law_next : Stmt := top 50
abbrev N_law_next : List Str := ["stream", "many", "k", "cell", "digit"]
theorem sc_law_next : FnScope N_law_next ["stream", "many"] (defScope s_law_next) := ⟨rfl, rfl, rfl, by decide +kernel, rfl, by decide +kernel, by decide +kernel⟩
abbrev s_law_sentence : Stmt := top 51
abbrev N_law_sentence : List Str := ["stream", "nouns", "verbs", "x", "y", "pick", "words", "q", "does", "v"]
theorem sc_law_sentence : FnScope N_law_sentence ["stream", "nouns", "verbs"] (defScope s_law_sentence) := ⟨rfl, rfl, rfl, by decide +kernel, rfl, by decide +kernel, by decide +kernel⟩
abbrev s_law_premises : Stmt := top 52
abbrev N_law_premises : List Str := ["stream", "signature", "most", "k"]
theorem sc_law_premises : FnScope N_law_premises ["stream", "signature", "most"] (defScope s_law_premises) := ⟨rfl, rfl, rfl, by decide +kernel, rfl, by decide +kernel, by decide +kernel⟩
abbrev s_law_some_kind : Stmt := top 53
abbrev N_law_some_kind : List Str := ["stream", "signature", "x", "y", "pick", "does", "v"]
theorem sc_law_some_kind : FnScope N_law_some_kind ["stream", "signature"] (defScope s_law_some_kind) := ⟨rfl, rfl, rfl, by decide +kernel, rfl, by decide +kernel, by decide +kernel⟩
abbrev slaw : Stmt := top 54
abbrev Nlaw : List Str := ["script", "stream", "signature", "premises", "more", "told", "after", "turn", "first", "second", "verb", "before", "pairs", "nouns", "x", "y", "item"]
theorem sclaw : FnScope Nlaw ["script"] (defScope slaw) := ⟨rfl, rfl, rfl, by decide +kernel, rfl, by decide +kernel, by decide +kernel⟩
set_option genInjectivity false in
set_option genSizeOf false in
structure Txt (N : En) (w : World) (mg : Str → Option Value) where
  hw : N.w = w
  C_Forcing : Addr
  at_Forcing : PySem.W.nsIn N.K mainGlobals (clsN 0) = some (some (.ref C_Forcing))
  gC_Forcing : mg "Forcing" = some (.ref C_Forcing)
  cl_Forcing : Cls N.K C_Forcing
  fa_Forcing_found : ∀ C, PySem.W.nsIn N.K mainGlobals (clsN 0) = some (some (.ref C)) → Cls N.K C ∧ NoAttr N.K C (fldN 3)
  fa_Forcing_inside : ∀ C, PySem.W.nsIn N.K mainGlobals (clsN 0) = some (some (.ref C)) → Cls N.K C ∧ NoAttr N.K C (fldN 0)
  fa_Forcing_pairs : ∀ C, PySem.W.nsIn N.K mainGlobals (clsN 0) = some (some (.ref C)) → Cls N.K C ∧ NoAttr N.K C (fldN 1)
  fa_Forcing_singles : ∀ C, PySem.W.nsIn N.K mainGlobals (clsN 0) = some (some (.ref C)) → Cls N.K C ∧ NoAttr N.K C (fldN 2)
  f_is_integer : Addr
  d_is_integer : FuncData
  F_is_integer : Fun N.K "is_integer" "is_integer" sis_integer f_is_integer d_is_integer
  g_is_integer : mg "is_integer" = some (.ref f_is_integer)
  b_is_integer : Binds N.K d_is_integer ["value", "least", "most"] []
  f_is_noun : Addr
  d_is_noun : FuncData
  F_is_noun : Fun N.K "is_noun" "is_noun" sis_noun f_is_noun d_is_noun
  g_is_noun : mg "is_noun" = some (.ref f_is_noun)
  b_is_noun : Binds N.K d_is_noun ["signature", "value"] []
  f_is_verb : Addr
  d_is_verb : FuncData
  F_is_verb : Fun N.K "is_verb" "is_verb" sis_verb f_is_verb d_is_verb
  g_is_verb : mg "is_verb" = some (.ref f_is_verb)
  b_is_verb : Binds N.K d_is_verb ["signature", "value"] []
  f_is_signature : Addr
  d_is_signature : FuncData
  F_is_signature : Fun N.K "is_signature" "is_signature" sis_signature f_is_signature d_is_signature
  g_is_signature : mg "is_signature" = some (.ref f_is_signature)
  b_is_signature : Binds N.K d_is_signature ["value"] []
  f__is_verb_sentence : Addr
  d__is_verb_sentence : FuncData
  F__is_verb_sentence : Fun N.K "_is_verb_sentence" "_is_verb_sentence" s_is_verb_sentence f__is_verb_sentence d__is_verb_sentence
  g__is_verb_sentence : mg "_is_verb_sentence" = some (.ref f__is_verb_sentence)
  b__is_verb_sentence : Binds N.K d__is_verb_sentence ["signature", "value"] []
  f__is_self_sentence : Addr
  d__is_self_sentence : FuncData
  F__is_self_sentence : Fun N.K "_is_self_sentence" "_is_self_sentence" s_is_self_sentence f__is_self_sentence d__is_self_sentence
  g__is_self_sentence : mg "_is_self_sentence" = some (.ref f__is_self_sentence)
  b__is_self_sentence : Binds N.K d__is_self_sentence ["signature", "value"] []
  f_is_sentence : Addr
  d_is_sentence : FuncData
  F_is_sentence : Fun N.K "is_sentence" "is_sentence" sis_sentence f_is_sentence d_is_sentence
  g_is_sentence : mg "is_sentence" = some (.ref f_is_sentence)
  b_is_sentence : Binds N.K d_is_sentence ["signature", "value"] []
  f_are_premises : Addr
  d_are_premises : FuncData
  F_are_premises : Fun N.K "are_premises" "are_premises" sare_premises f_are_premises d_are_premises
  g_are_premises : mg "are_premises" = some (.ref f_are_premises)
  b_are_premises : Binds N.K d_are_premises ["signature", "value"] []
  f_check_signature : Addr
  d_check_signature : FuncData
  F_check_signature : Fun N.K "check_signature" "check_signature" scheck_signature f_check_signature d_check_signature
  g_check_signature : mg "check_signature" = some (.ref f_check_signature)
  b_check_signature : Binds N.K d_check_signature ["signature"] []
  f_check_premises : Addr
  d_check_premises : FuncData
  F_check_premises : Fun N.K "check_premises" "check_premises" scheck_premises f_check_premises d_check_premises
  g_check_premises : mg "check_premises" = some (.ref f_check_premises)
  b_check_premises : Binds N.K d_check_premises ["signature", "premises", "name"] []
  f_nouns_of : Addr
  d_nouns_of : FuncData
  F_nouns_of : Fun N.K "nouns_of" "nouns_of" snouns_of f_nouns_of d_nouns_of
  g_nouns_of : mg "nouns_of" = some (.ref f_nouns_of)
  b_nouns_of : Binds N.K d_nouns_of ["kind"] []
  f__stated_by : Addr
  d__stated_by : FuncData
  F__stated_by : Fun N.K "_stated_by" "_stated_by" s_stated_by f__stated_by d__stated_by
  g__stated_by : mg "_stated_by" = some (.ref f__stated_by)
  b__stated_by : Binds N.K d__stated_by ["premise"] []
  f_kinds_stated : Addr
  d_kinds_stated : FuncData
  F_kinds_stated : Fun N.K "kinds_stated" "kinds_stated" skinds_stated f_kinds_stated d_kinds_stated
  g_kinds_stated : mg "kinds_stated" = some (.ref f_kinds_stated)
  b_kinds_stated : Binds N.K d_kinds_stated ["premises"] []
  f__table : Addr
  d__table : FuncData
  F__table : Fun N.K "_table" "_table" s_table f__table d__table
  g__table : mg "_table" = some (.ref f__table)
  b__table : Binds N.K d__table ["many", "pairs"] []
  f__leads : Addr
  d__leads : FuncData
  F__leads : Fun N.K "_leads" "_leads" s_leads f__leads d__leads
  g__leads : mg "_leads" = some (.ref f__leads)
  b__leads : Binds N.K d__leads ["table", "x", "y"] []
  f__more_subsets : Addr
  d__more_subsets : FuncData
  F__more_subsets : Fun N.K "_more_subsets" "_more_subsets" s_more_subsets f__more_subsets d__more_subsets
  g__more_subsets : mg "_more_subsets" = some (.ref f__more_subsets)
  b__more_subsets : Binds N.K d__more_subsets ["inside", "enough"] []
  f__more_at_least : Addr
  d__more_at_least : FuncData
  F__more_at_least : Fun N.K "_more_at_least" "_more_at_least" s_more_at_least f__more_at_least d__more_at_least
  g__more_at_least : mg "_more_at_least" = some (.ref f__more_at_least)
  b__more_at_least : Binds N.K d__more_at_least ["inside", "enough"] []
  f_tables_of : Addr
  d_tables_of : FuncData
  F_tables_of : Fun N.K "tables_of" "tables_of" stables_of f_tables_of d_tables_of
  g_tables_of : mg "tables_of" = some (.ref f_tables_of)
  b_tables_of : Binds N.K d_tables_of ["many", "premises"] []
  f_nouns_over : Addr
  d_nouns_over : FuncData
  F_nouns_over : Fun N.K "nouns_over" "nouns_over" snouns_over f_nouns_over d_nouns_over
  g_nouns_over : mg "nouns_over" = some (.ref f_nouns_over)
  b_nouns_over : Binds N.K d_nouns_over ["inside", "kind"] []
  f__needs : Addr
  d__needs : FuncData
  F__needs : Fun N.K "_needs" "_needs" s_needs f__needs d__needs
  g__needs : mg "_needs" = some (.ref f__needs)
  b__needs : Binds N.K d__needs ["inside", "enough", "premises", "x", "y"] []
  f_nouns_needed : Addr
  d_nouns_needed : FuncData
  F_nouns_needed : Fun N.K "nouns_needed" "nouns_needed" snouns_needed f_nouns_needed d_nouns_needed
  g_nouns_needed : mg "nouns_needed" = some (.ref f_nouns_needed)
  b_nouns_needed : Binds N.K d_nouns_needed ["inside", "enough", "premises"] []
  f__different_pairs : Addr
  d__different_pairs : FuncData
  F__different_pairs : Fun N.K "_different_pairs" "_different_pairs" s_different_pairs f__different_pairs d__different_pairs
  g__different_pairs : mg "_different_pairs" = some (.ref f__different_pairs)
  b__different_pairs : Binds N.K d__different_pairs ["table"] []
  f_subsets : Addr
  d_subsets : FuncData
  F_subsets : Fun N.K "subsets" "subsets" ssubsets f_subsets d_subsets
  g_subsets : mg "subsets" = some (.ref f_subsets)
  b_subsets : Binds N.K d_subsets ["signature", "premises"] []
  e_subsets : f_subsets = 202
  f_at_least : Addr
  d_at_least : FuncData
  F_at_least : Fun N.K "at_least" "at_least" sat_least f_at_least d_at_least
  g_at_least : mg "at_least" = some (.ref f_at_least)
  b_at_least : Binds N.K d_at_least ["signature", "premises"] []
  e_at_least : f_at_least = 209
  f_nouns_required : Addr
  d_nouns_required : FuncData
  F_nouns_required : Fun N.K "nouns_required" "nouns_required" snouns_required f_nouns_required d_nouns_required
  g_nouns_required : mg "nouns_required" = some (.ref f_nouns_required)
  b_nouns_required : Binds N.K d_nouns_required ["signature", "premises"] []
  e_nouns_required : f_nouns_required = 216
  f__is_mark_rest : Addr
  d__is_mark_rest : FuncData
  F__is_mark_rest : Fun N.K "_is_mark_rest" "_is_mark_rest" s_is_mark_rest f__is_mark_rest d__is_mark_rest
  g__is_mark_rest : mg "_is_mark_rest" = some (.ref f__is_mark_rest)
  b__is_mark_rest : Binds N.K d__is_mark_rest ["signature", "rest"] []
  f_has_form_of_kind : Addr
  d_has_form_of_kind : FuncData
  F_has_form_of_kind : Fun N.K "has_form_of_kind" "has_form_of_kind" shas_form_of_kind f_has_form_of_kind d_has_form_of_kind
  g_has_form_of_kind : mg "has_form_of_kind" = some (.ref f_has_form_of_kind)
  b_has_form_of_kind : Binds N.K d_has_form_of_kind ["signature", "value"] []
  f__check_kind : Addr
  d__check_kind : FuncData
  F__check_kind : Fun N.K "_check_kind" "_check_kind" s_check_kind f__check_kind d__check_kind
  g__check_kind : mg "_check_kind" = some (.ref f__check_kind)
  b__check_kind : Binds N.K d__check_kind ["signature", "kind", "name"] []
  f__check_verb : Addr
  d__check_verb : FuncData
  F__check_verb : Fun N.K "_check_verb" "_check_verb" s_check_verb f__check_verb d__check_verb
  g__check_verb : mg "_check_verb" = some (.ref f__check_verb)
  b__check_verb : Binds N.K d__check_verb ["signature", "verb"] []
  f_kinds_needed : Addr
  d_kinds_needed : FuncData
  F_kinds_needed : Fun N.K "kinds_needed" "kinds_needed" skinds_needed f_kinds_needed d_kinds_needed
  g_kinds_needed : mg "kinds_needed" = some (.ref f_kinds_needed)
  b_kinds_needed : Binds N.K d_kinds_needed ["inside", "enough", "premises"] []
  f__word : Addr
  d__word : FuncData
  F__word : Fun N.K "_word" "_word" s_word f__word d__word
  g__word : mg "_word" = some (.ref f__word)
  b__word : Binds N.K d__word ["yes", "no"] []
  f_kinds_required : Addr
  d_kinds_required : FuncData
  F_kinds_required : Fun N.K "kinds_required" "kinds_required" skinds_required f_kinds_required d_kinds_required
  g_kinds_required : mg "kinds_required" = some (.ref f_kinds_required)
  b_kinds_required : Binds N.K d_kinds_required ["signature", "premises"] []
  e_kinds_required : f_kinds_required = 305
  f_Forcing___init__ : Addr
  d_Forcing___init__ : FuncData
  F_Forcing___init__ : Fun N.K "__init__" "Forcing.__init__" sForcing___init__ f_Forcing___init__ d_Forcing___init__
  b_Forcing___init__ : Binds N.K d_Forcing___init__ ["self", "inside", "premises"] []
  mk_Forcing : Mk N.K C_Forcing f_Forcing___init__
  f_Forcing_nouns_above : Addr
  d_Forcing_nouns_above : FuncData
  F_Forcing_nouns_above : Fun N.K "nouns_above" "Forcing.nouns_above" sForcing_nouns_above f_Forcing_nouns_above d_Forcing_nouns_above
  b_Forcing_nouns_above : Binds N.K d_Forcing_nouns_above ["self", "kind"] []
  me_Forcing_nouns_above : Meth N.K C_Forcing "nouns_above" f_Forcing_nouns_above
  f_Forcing_is_between : Addr
  d_Forcing_is_between : FuncData
  F_Forcing_is_between : Fun N.K "is_between" "Forcing.is_between" sForcing_is_between f_Forcing_is_between d_Forcing_is_between
  b_Forcing_is_between : Binds N.K d_Forcing_is_between ["self", "does", "verb", "first", "second"] []
  me_Forcing_is_between : Meth N.K C_Forcing "is_between" f_Forcing_is_between
  f_forced_between : Addr
  d_forced_between : FuncData
  F_forced_between : Fun N.K "forced_between" "forced_between" sforced_between f_forced_between d_forced_between
  g_forced_between : mg "forced_between" = some (.ref f_forced_between)
  b_forced_between : Binds N.K d_forced_between ["signature", "premises", "verb", "first", "second"] []
  f__law_stream : Addr
  d__law_stream : FuncData
  F__law_stream : Fun N.K "_law_stream" "_law_stream" s_law_stream f__law_stream d__law_stream
  g__law_stream : mg "_law_stream" = some (.ref f__law_stream)
  b__law_stream : Binds N.K d__law_stream ["script"] []
  f__law_next : Addr
  d__law_next : FuncData
  F__law_next : Fun N.K "_law_next" "_law_next" s_law_next f__law_next d__law_next
  g__law_next : mg "_law_next" = some (.ref f__law_next)
  b__law_next : Binds N.K d__law_next ["stream", "many"] []
  f__law_sentence : Addr
  d__law_sentence : FuncData
  F__law_sentence : Fun N.K "_law_sentence" "_law_sentence" s_law_sentence f__law_sentence d__law_sentence
  g__law_sentence : mg "_law_sentence" = some (.ref f__law_sentence)
  b__law_sentence : Binds N.K d__law_sentence ["stream", "nouns", "verbs"] []
  f__law_premises : Addr
  d__law_premises : FuncData
  F__law_premises : Fun N.K "_law_premises" "_law_premises" s_law_premises f__law_premises d__law_premises
  g__law_premises : mg "_law_premises" = some (.ref f__law_premises)
  b__law_premises : Binds N.K d__law_premises ["stream", "signature", "most"] []
  f__law_some_kind : Addr
  d__law_some_kind : FuncData
  F__law_some_kind : Fun N.K "_law_some_kind" "_law_some_kind" s_law_some_kind f__law_some_kind d__law_some_kind
  g__law_some_kind : mg "_law_some_kind" = some (.ref f__law_some_kind)
  b__law_some_kind : Binds N.K d__law_some_kind ["stream", "signature"] []
  cc_are_premises : Addr
  pp_are_premises : Addr
  FC_are_premises : GXX.FunC N.K "are_premises" "are_premises" sare_premises f_are_premises d_are_premises cc_are_premises
  m_are_premises : pp_are_premises ∈ N.G
  cc__leads : Addr
  pp__leads : Addr
  FC__leads : GXX.FunC N.K "_leads" "_leads" s_leads f__leads d__leads cc__leads
  m__leads : pp__leads ∈ N.G
  cc_Forcing_is_between : Addr
  pp_Forcing_is_between : Addr
  FC_Forcing_is_between : GXX.FunC N.K "is_between" "Forcing.is_between" sForcing_is_between f_Forcing_is_between d_Forcing_is_between cc_Forcing_is_between
  m_Forcing_is_between : pp_Forcing_is_between ∈ N.G
  n_abs : mg "abs" = none
  n_all : mg "all" = none
  n_any : mg "any" = none
  n_bool : mg "bool" = none
  n_int : mg "int" = none
  n_isinstance : mg "isinstance" = none
  n_len : mg "len" = none
  n_list : mg "list" = none
  n_max : mg "max" = none
  n_min : mg "min" = none
  n_range : mg "range" = none
  n_sorted : mg "sorted" = none
  n_tuple : mg "tuple" = none
  k_MOST_NOUNS : Tok
  c_MOST_NOUNS : mg "MOST_NOUNS" = some (.int 4 k_MOST_NOUNS)
  k_MOST_VERBS : Tok
  c_MOST_VERBS : mg "MOST_VERBS" = some (.int 2 k_MOST_VERBS)
  k_MOST_PREMISES : Tok
  c_MOST_PREMISES : mg "MOST_PREMISES" = some (.int 8 k_MOST_PREMISES)
  a_QUANTIFIERS : Addr
  c_QUANTIFIERS : mg "QUANTIFIERS" = some (.ref a_QUANTIFIERS)
  t_QUANTIFIERS : ∀ M H, R N.K M H (.ref a_QUANTIFIERS) (.tup [.str 0, .str 1])
  a_NOUN_WORDS : Addr
  c_NOUN_WORDS : mg "NOUN_WORDS" = some (.ref a_NOUN_WORDS)
  t_NOUN_WORDS : ∀ M H, R N.K M H (.ref a_NOUN_WORDS) (.tup [.str 0, .str 2, .str 3, .str 1, .str 4, .str 5])
structure Tabs (N : En) {w : World} {mg : Str → Option Value} (T : Txt N w mg) (base : Heap) : Prop where
  b_are_premises : TabB base mg T.cc_are_premises T.pp_are_premises
  b__leads : TabB base mg T.cc__leads T.pp__leads
  b_Forcing_is_between : TabB base mg T.cc_Forcing_is_between T.pp_Forcing_is_between
def B_is_integer : Ss :=
  sRet (eAnd (eIsi .int (eV 0)) (eAnd (eNot (eIsi .bool (eV 0))) (eChain leD leD (eV 1) (eV 0) (eVB 2))))
def F_is_integer : Fn := fnS0 3 B_is_integer
def B_is_noun : Ss :=
  sRet (eCall (F_is_integer) (aCons (eV 1) (aCons (eC (.int 0)) (aCons (eOp subD (eOp ixD (eV 0) (eC (.int 0))) (eC (.int 1))) (aNil)))))
def F_is_noun : Fn := fnS0 2 B_is_noun
def B_is_verb : Ss :=
  sRet (eCall (F_is_integer) (aCons (eV 1) (aCons (eC (.int 0)) (aCons (eOp subD (eOp ixD (eV 0) (eC (.int 1))) (eC (.int 1))) (aNil)))))
def F_is_verb : Fn := fnS0 2 B_is_verb
def B_is_signature : Ss :=
  sCons (sIf (tO (tN (tU (eIsi .tuple (eV 0)))) (tV (eOp neOp (eC1 lenD (eVB 0)) (eC (.int 2))))) (sRet (eC (.bl false))) (sNil))
  (sRet (eAnd (eCall (F_is_integer) (aCons (eOp ixD (eV 0) (eC (.int 0))) (aCons (eC (.int 1)) (aCons (eC (.int 4)) (aNil))))) (eCall (F_is_integer) (aCons (eOp ixD (eV 0) (eC (.int 1))) (aCons (eC (.int 0)) (aCons (eC (.int 2)) (aNil)))))))
def F_is_signature : Fn := fnS0 1 B_is_signature
def B__is_verb_sentence : Ss :=
  sCons (sIf (tV (eOp neOp (eC1 lenD (eVB 1)) (eC (.int 8)))) (sRet (eC (.bl false))) (sNil))
  (sCons (sAsg (gT 8 (gCons (gN 2) (gCons (gN 3) (gCons (gN 4) (gCons (gN 5) (gCons (gN 6) (gCons (gN 7) (gCons (gN 8) (gCons (gN 9) (gNil)))))))))) (eV 1))
  (sCons (sIf (tO (tV (eOp notInOp (eV 3) (eC (.tup [.str 0, .str 1])))) (tV (eOp notInOp (eV 8) (eC (.tup [.str 0, .str 1]))))) (sRet (eC (.bl false))) (sNil))
  (sCons (sIf (tO (tN (tU (eIsi .bool (eV 5)))) (tN (tU (eIsi .bool (eV 7))))) (sRet (eC (.bl false))) (sNil))
  (sRet (eAnd (eCall (F_is_noun) (aCons (eV 0) (aCons (eV 4) (aNil)))) (eAnd (eCall (F_is_verb) (aCons (eV 0) (aCons (eV 6) (aNil)))) (eCall (F_is_noun) (aCons (eV 0) (aCons (eV 9) (aNil))))))))))
def F__is_verb_sentence : Fn := fnS0 10 B__is_verb_sentence
def B__is_self_sentence : Ss :=
  sCons (sIf (tV (eOp neOp (eC1 lenD (eVB 1)) (eC (.int 5)))) (sRet (eC (.bl false))) (sNil))
  (sCons (sAsg (gT 5 (gCons (gN 2) (gCons (gN 3) (gCons (gN 4) (gCons (gN 5) (gCons (gN 6) (gNil))))))) (eV 1))
  (sCons (sIf (tO (tV (eOp notInOp (eV 3) (eC (.tup [.str 0, .str 1])))) (tN (tU (eIsi .bool (eV 5))))) (sRet (eC (.bl false))) (sNil))
  (sRet (eAnd (eCall (F_is_noun) (aCons (eV 0) (aCons (eV 4) (aNil)))) (eCall (F_is_verb) (aCons (eV 0) (aCons (eV 6) (aNil))))))))
def F__is_self_sentence : Fn := fnS0 7 B__is_self_sentence
def B_is_sentence : Ss :=
  sCons (sIf (tO (tN (tU (eIsi .tuple (eV 1)))) (tV (eOp eqOp (eC1 lenD (eVB 1)) (eC (.int 0))))) (sRet (eC (.bl false))) (sNil))
  (sCons (sIf (tV (eOp eqOp (eOp ixD (eV 1) (eC (.int 0))) (eC (.str 6)))) (sRet (eCall (F__is_verb_sentence) (aCons (eV 0) (aCons (eV 1) (aNil))))) (sNil))
  (sCons (sIf (tV (eOp eqOp (eOp ixD (eV 1) (eC (.int 0))) (eC (.str 7)))) (sRet (eCall (F__is_self_sentence) (aCons (eV 0) (aCons (eV 1) (aNil))))) (sNil))
  (sCons (sIf (tO (tV (eOp notInOp (eOp ixD (eV 1) (eC (.int 0))) (eC (.tup [.str 0, .str 2, .str 3, .str 1, .str 4, .str 5])))) (tV (eOp neOp (eC1 lenD (eVB 1)) (eC (.int 3))))) (sRet (eC (.bl false))) (sNil))
  (sRet (eAnd (eCall (F_is_noun) (aCons (eV 0) (aCons (eOp ixD (eV 1) (eC (.int 1))) (aNil)))) (eCall (F_is_noun) (aCons (eV 0) (aCons (eOp ixD (eV 1) (eC (.int 2))) (aNil)))))))))
def F_is_sentence : Fn := fnS0 2 B_is_sentence
def B_are_premises : Ss :=
  sCons (sIf (tO (tN (tU (eIsi .tuple (eV 1)))) (tV (eOp gtD (eC1 lenD (eVB 1)) (eC (.int 8))))) (sRet (eC (.bl false))) (sNil))
  (sRet (eGen false [2] (iSeq (eV 1)) (gN 2) (eCall (F_is_sentence) (aCons (eV 0) (aCons (eV 2) (aNil))))))
def F_are_premises : Fn := fnS0 3 B_are_premises
def B_check_signature : Ss :=
  sIf (tN (tU (eCall (F_is_signature) (aCons (eV 0) (aNil))))) (sNever) (sNil)
def F_check_signature : Fn := fnS0 1 B_check_signature
def B_check_premises : Ss :=
  sIf (tN (tU (eCall (F_are_premises) (aCons (eV 0) (aCons (eV 1) (aNil)))))) (sNever) (sNil)
def F_check_premises : Fn := fnS0 3 B_check_premises
def B_nouns_of : Ss :=
  sRet (eIf (tV (eOp eqOp (eOp ixD (eV 0) (eC (.int 0))) (eC (.str 9)))) (eSl (eV 0) (oEx (eC (.int 1))) (oEx (eC (.int 3)))) (eSl (eV 0) (oEx (eC (.int 1))) (oEx (eC (.int 2)))))
def F_nouns_of : Fn := fnS0 1 B_nouns_of
def B__stated_by : Ss :=
  sCons (sSet 1 (eOp ixD (eV 0) (eC (.int 0))))
  (sCons (sIf (tV (eOp eqOp (eV 1) (eC (.str 1)))) (sCons (sPar 2 3 (aCons (eC1 minTD (eSl (eV 0) (oEx (eC (.int 1))) (oNo))) (aCons (eC1 maxTD (eSl (eV 0) (oEx (eC (.int 1))) (oNo))) (aNil))))
  (sRet (eIf (tV (eOp eqOp (eV 2) (eVB 3))) (eF (aCons (eTup (aCons (eC (.str 8)) (aCons (eV 2) (aNil)))) (aNil))) (eF (aCons (eTup (aCons (eC (.str 9)) (aCons (eV 2) (aCons (eV 3) (aNil))))) (aNil)))))) (sNil))
  (sCons (sIf (tV (eOp eqOp (eV 1) (eC (.str 2)))) (sRet (eF (aCons (eTup (aCons (eC (.str 8)) (aCons (eOp ixD (eV 0) (eC (.int 1))) (aNil)))) (aNil)))) (sNil))
  (sCons (sIf (tV (eOp eqOp (eV 1) (eC (.str 5)))) (sRet (eF (aCons (eTup (aCons (eC (.str 8)) (aCons (eOp ixD (eV 0) (eC (.int 2))) (aNil)))) (aNil)))) (sNil))
  (sCons (sIf (tA (tV (eOp eqOp (eV 1) (eC (.str 6)))) (tV (eOp eqOp (eOp ixD (eV 0) (eC (.int 1))) (eC (.str 1))))) (sCons (sAsg (gT 8 (gCons (gN 4) (gCons (gN 4) (gCons (gN 2) (gCons (gN 5) (gCons (gN 6) (gCons (gN 7) (gCons (gN 8) (gCons (gN 3) (gNil)))))))))) (eV 0))
  (sRet (eIf (tV (eOp eqOp (eV 8) (eC (.str 1)))) (eF (aCons (eTup (aCons (eC (.str 8)) (aCons (eV 2) (aNil)))) (aCons (eTup (aCons (eC (.str 8)) (aCons (eV 3) (aNil)))) (aNil)))) (eF (aCons (eTup (aCons (eC (.str 10)) (aCons (eV 2) (aCons (eV 5) (aCons (eV 6) (aCons (eV 7) (aCons (eV 3) (aNil)))))))) (aNil)))))) (sNil))
  (sCons (sIf (tA (tV (eOp eqOp (eV 1) (eC (.str 7)))) (tV (eOp eqOp (eOp ixD (eV 0) (eC (.int 1))) (eC (.str 1))))) (sCons (sAsg (gT 5 (gCons (gN 4) (gCons (gN 4) (gCons (gN 2) (gCons (gN 5) (gCons (gN 6) (gNil))))))) (eV 0))
  (sRet (eF (aCons (eTup (aCons (eC (.str 7)) (aCons (eV 2) (aCons (eV 5) (aCons (eV 6) (aNil)))))) (aNil))))) (sNil))
  (sRet (eF (aNil))))))))
def F__stated_by : Fn := fnS0 9 B__stated_by
def B_kinds_stated : Ss :=
  sCons (sOwn 1 (aNil))
  (sCons (sFor (iSeq (eV 0)) (gN 2) (sFor (iSeq (eCall (F__stated_by) (aCons (eV 2) (aNil)))) (gN 3) (sIf (tV (eOp notInOp (eV 3) (eVB 1))) (sApp 1 (eV 3)) (sNil))))
  (sRet (eV 1)))
def F_kinds_stated : Fn := fnS0 4 B_kinds_stated
def B__table : Ss :=
  sRet (eF (aLc [2] (iRn1 (aCons (eV 0) (aNil))) (gN 2) (Z.tYes) (eF (aLc [3] (iRn1 (aCons (eV 0) (aNil))) (gN 3) (Z.tYes) (eOp inOp (eTup (aCons (eV 2) (aCons (eV 3) (aNil)))) (eVB 1))))))
def F__table : Fn := fnS0 4 B__table
def B__leads : Ss :=
  sRet (eGen true [3] (iRn1 (aCons (eC1 lenD (eVB 0)) (aNil))) (gN 3) (eAnd (eOp ixD (eOp ixD (eV 0) (eV 1)) (eV 3)) (eOp ixD (eOp ixD (eV 0) (eV 3)) (eV 2))))
def F__leads : Fn := fnS0 4 B__leads
def B__more_subsets : Ss :=
  sCons (sSet 2 (eRng1 (aCons (eC1 lenD (eVB 0)) (aNil))))
  (sRet (eF (aLc [3] (iRnV (eV 2)) (gN 3) (Z.tYes) (eF (aLc [4] (iRnV (eV 2)) (gN 4) (Z.tYes) (eOr (eCall (F__leads) (aCons (eV 0) (aCons (eV 3) (aCons (eV 4) (aNil))))) (eAnd (eOp ixD (eOp ixD (eV 0) (eV 4)) (eV 3)) (eOp ixD (eOp ixD (eV 1) (eV 4)) (eV 3)))))))))
def F__more_subsets : Fn := fnS0 5 B__more_subsets
def B__more_at_least : Ss :=
  sCons (sSet 2 (eRng1 (aCons (eC1 lenD (eVB 0)) (aNil))))
  (sRet (eF (aLc [3] (iRnV (eV 2)) (gN 3) (Z.tYes) (eF (aLc [4] (iRnV (eV 2)) (gN 4) (Z.tYes) (eOr (eOp ixD (eOp ixD (eV 1) (eV 3)) (eV 4)) (eOr (eOp ixD (eOp ixD (eV 0) (eV 4)) (eV 3)) (eCall (F__leads) (aCons (eV 1) (aCons (eV 3) (aCons (eV 4) (aNil))))))))))))
def F__more_at_least : Fn := fnS0 5 B__more_at_least
def B_tables_of : Ss :=
  sCons (sOwn 2 (aLc [8] (iRn1 (aCons (eV 0) (aNil))) (gN 8) (Z.tYes) (eTup (aCons (eV 8) (aCons (eV 8) (aNil))))))
  (sCons (sOwn 3 (aNil))
  (sCons (sFor (iSeq (eV 1)) (gN 4) (sCons (sIf (tV (eOp eqOp (eOp ixD (eV 4) (eC (.int 0))) (eC (.str 0)))) (sApp 2 (eSl (eV 4) (oEx (eC (.int 1))) (oNo))) (sNil))
  (sCons (sIf (tV (eOp eqOp (eOp ixD (eV 4) (eC (.int 0))) (eC (.str 4)))) (sApp 3 (eSl (eV 4) (oEx (eC (.int 1))) (oNo))) (sNil))
  (sIf (tV (eOp eqOp (eOp ixD (eV 4) (eC (.int 0))) (eC (.str 5)))) (sApp 3 (eTup (aCons (eOp ixD (eV 4) (eC (.int 2))) (aCons (eOp ixD (eV 4) (eC (.int 1))) (aNil))))) (sNil)))))
  (sCons (sPar 5 6 (aCons (eCall (F__table) (aCons (eV 0) (aCons (eV 2) (aNil)))) (aCons (eCall (F__table) (aCons (eV 0) (aCons (eV 3) (aNil)))) (aNil))))
  (sCons (sSet 7 (eC .non))
  (sCons (whileN (tV (eOp neOp (eV 7) (eTup (aCons (eV 5) (aCons (eV 6) (aNil)))))) (sCons (sSet 7 (eTup (aCons (eV 5) (aCons (eV 6) (aNil)))))
  (sCons (sSet 5 (eCall (F__more_subsets) (aCons (eV 5) (aCons (eV 6) (aNil)))))
  (sSet 6 (eCall (F__more_at_least) (aCons (eV 5) (aCons (eV 6) (aNil))))))) 1000)
  (sRet (eTup (aCons (eV 5) (aCons (eV 6) (aNil))))))))))
def F_tables_of : Fn := fnS0 9 B_tables_of
def B_nouns_over : Ss :=
  sRet (eC1 tupD (eF (aLc [2] (iRn1 (aCons (eC1 lenD (eVB 0)) (aNil))) (gN 2) (tU (eC1 anyD (eF (aLc [3] (iSeq (eCall (F_nouns_of) (aCons (eV 1) (aNil)))) (gN 3) (Z.tYes) (eOp ixD (eOp ixD (eV 0) (eV 3)) (eV 2)))))) (eV 2))))
def F_nouns_over : Fn := fnS0 4 B_nouns_over
def B__needs : Ss :=
  sCons (sIf (tO (tU (eOp ixD (eOp ixD (eV 0) (eV 3)) (eV 4))) (tU (eOp ixD (eOp ixD (eV 1) (eV 4)) (eV 3)))) (sRet (eC (.bl true))) (sNil))
  (sCons (sFor (iSeq (eV 2)) (gN 5) (sIf (tA (tV (eOp eqOp (eSl (eV 5) (oNo) (oEx (eC (.int 3)))) (eTup (aCons (eC (.str 6)) (aCons (eC (.str 0)) (aCons (eV 3) (aNil))))))) (tV (eOp eqOp (eSl (eV 5) (oEx (eC (.int 6))) (oNo)) (eTup (aCons (eC (.str 1)) (aCons (eV 4) (aNil))))))) (sRet (eC (.bl true))) (sNil)))
  (sRet (eC (.bl false))))
def F__needs : Fn := fnS0 6 B__needs
def B_nouns_needed : Ss :=
  sCons (sOwn 3 (aNil))
  (sCons (sFor (iSeq (eCall (F_kinds_stated) (aCons (eV 2) (aNil)))) (gN 4) (sExt 3 (eF (aLc [8] (iSeq (eCall (F_nouns_over) (aCons (eV 0) (aCons (eV 4) (aNil))))) (gN 8) (tV (eOp notInOp (eV 8) (eVB 3))) (eV 8)))))
  (sCons (sSet 5 (eC (.int 0)))
  (sCons (whileN (tV (eOp ltD (eV 5) (eC1 lenD (eVB 3)))) (sCons (sSet 6 (eF (aLc [7] (iRn1 (aCons (eC1 lenD (eVB 0)) (aNil))) (gN 7) (tA (tV (eOp notInOp (eV 7) (eVB 3))) (tU (eCall (F__needs) (aCons (eV 0) (aCons (eV 1) (aCons (eV 2) (aCons (eOpL ixD 3 (eV 5)) (aCons (eV 7) (aNil))))))))) (eV 7))))
  (sCons (sExt 3 (eV 6))
  (sAug addI 5 (eC (.int 1))))) 1000)
  (sRet (eC1 tupD (eC1 sortedD (eVB 3)))))))
def F_nouns_needed : Fn := fnS0 9 B_nouns_needed
def B__different_pairs : Ss :=
  sCons (sSet 1 (eRng1 (aCons (eC1 lenD (eVB 0)) (aNil))))
  (sRet (eC1 tupD (eF (aLc2 [2, 3] [3] (igV (eV 1)) (gN 2) (Z.tYes) (igV (eV 1)) (gN 3) (tA (tV (eOp neOp (eV 2) (eVB 3))) (tU (eOp ixD (eOp ixD (eV 0) (eV 2)) (eV 3)))) (eTup (aCons (eV 2) (aCons (eV 3) (aNil))))))))
def F__different_pairs : Fn := fnS0 4 B__different_pairs
def B_subsets : Ss :=
  sCons (sEx (eCall (F_check_signature) (aCons (eV 0) (aNil))))
  (sCons (sEx (eCall (F_check_premises) (aCons (eV 0) (aCons (eV 1) (aCons (eC (.str 17)) (aNil))))))
  (sCons (sAsg (gT 2 (gCons (gN 2) (gCons (gN 3) (gNil)))) (eCall (F_tables_of) (aCons (eOp ixD (eV 0) (eC (.int 0))) (aCons (eV 1) (aNil)))))
  (sRet (eCall (F__different_pairs) (aCons (eV 2) (aNil))))))
def F_subsets : Fn := fnS0 4 B_subsets
def B_at_least : Ss :=
  sCons (sEx (eCall (F_check_signature) (aCons (eV 0) (aNil))))
  (sCons (sEx (eCall (F_check_premises) (aCons (eV 0) (aCons (eV 1) (aCons (eC (.str 17)) (aNil))))))
  (sCons (sAsg (gT 2 (gCons (gN 2) (gCons (gN 3) (gNil)))) (eCall (F_tables_of) (aCons (eOp ixD (eV 0) (eC (.int 0))) (aCons (eV 1) (aNil)))))
  (sRet (eCall (F__different_pairs) (aCons (eV 3) (aNil))))))
def F_at_least : Fn := fnS0 4 B_at_least
def B_nouns_required : Ss :=
  sCons (sEx (eCall (F_check_signature) (aCons (eV 0) (aNil))))
  (sCons (sEx (eCall (F_check_premises) (aCons (eV 0) (aCons (eV 1) (aCons (eC (.str 17)) (aNil))))))
  (sCons (sAsg (gT 2 (gCons (gN 2) (gCons (gN 3) (gNil)))) (eCall (F_tables_of) (aCons (eOp ixD (eV 0) (eC (.int 0))) (aCons (eV 1) (aNil)))))
  (sRet (eCall (F_nouns_needed) (aCons (eV 2) (aCons (eV 3) (aCons (eV 1) (aNil))))))))
def F_nouns_required : Fn := fnS0 4 B_nouns_required
def B__is_mark_rest : Ss :=
  sCons (sIf (tV (eOp neOp (eC1 lenD (eVB 1)) (eC (.int 4)))) (sRet (eC (.bl false))) (sNil))
  (sCons (sAsg (gT 4 (gCons (gN 2) (gCons (gN 3) (gCons (gN 4) (gCons (gN 5) (gNil)))))) (eV 1))
  (sRet (eAnd (eIsi .bool (eV 2)) (eAnd (eCall (F_is_verb) (aCons (eV 0) (aCons (eV 3) (aNil)))) (eAnd (eIsi .bool (eV 4)) (eCall (F_is_noun) (aCons (eV 0) (aCons (eV 5) (aNil)))))))))
def F__is_mark_rest : Fn := fnS0 6 B__is_mark_rest
def B_has_form_of_kind : Ss :=
  sCons (sIf (tO (tN (tU (eIsi .tuple (eV 1)))) (tO (tV (eOp ltD (eC1 lenD (eVB 1)) (eC (.int 2)))) (tN (tU (eCall (F_is_noun) (aCons (eV 0) (aCons (eOp ixD (eV 1) (eC (.int 1))) (aNil)))))))) (sRet (eC (.bl false))) (sNil))
  (sCons (sPar 2 3 (aCons (eOp ixD (eV 1) (eC (.int 0))) (aCons (eSl (eV 1) (oEx (eC (.int 2))) (oNo)) (aNil))))
  (sCons (sIf (tV (eOp eqOp (eV 2) (eC (.str 8)))) (sRet (eOp eqOp (eC1 lenD (eVB 3)) (eC (.int 0)))) (sNil))
  (sCons (sIf (tV (eOp eqOp (eV 2) (eC (.str 9)))) (sRet (eAnd (eOp eqOp (eC1 lenD (eVB 3)) (eC (.int 1))) (eAnd (eCall (F_is_noun) (aCons (eV 0) (aCons (eOp ixD (eV 3) (eC (.int 0))) (aNil)))) (eOp ltD (eOp ixD (eV 1) (eC (.int 1))) (eOp ixD (eV 3) (eC (.int 0))))))) (sNil))
  (sCons (sIf (tV (eOp eqOp (eV 2) (eC (.str 10)))) (sRet (eCall (F__is_mark_rest) (aCons (eV 0) (aCons (eV 3) (aNil))))) (sNil))
  (sRet (eAnd (eOp eqOp (eV 2) (eC (.str 7))) (eAnd (eOp eqOp (eC1 lenD (eVB 3)) (eC (.int 2))) (eAnd (eIsi .bool (eOp ixD (eV 3) (eC (.int 0)))) (eCall (F_is_verb) (aCons (eV 0) (aCons (eOp ixD (eV 3) (eC (.int 1))) (aNil))))))))))))
def F_has_form_of_kind : Fn := fnS0 4 B_has_form_of_kind
def B__check_kind : Ss :=
  sIf (tN (tU (eCall (F_has_form_of_kind) (aCons (eV 0) (aCons (eV 1) (aNil)))))) (sNever) (sNil)
def F__check_kind : Fn := fnS0 3 B__check_kind
def B__check_verb : Ss :=
  sIf (tN (tU (eCall (F_is_verb) (aCons (eV 0) (aCons (eV 1) (aNil)))))) (sNever) (sNil)
def F__check_verb : Fn := fnS0 2 B__check_verb
def B_kinds_needed : Ss :=
  sCons (sSet 3 (eF (aLc [5] (iSeq (eCall (F_nouns_needed) (aCons (eV 0) (aCons (eV 1) (aCons (eV 2) (aNil)))))) (gN 5) (Z.tYes) (eTup (aCons (eC (.str 8)) (aCons (eV 5) (aNil)))))))
  (sCons (sSet 4 (eF (aLc [6] (iSeq (eCall (F_kinds_stated) (aCons (eV 2) (aNil)))) (gN 6) (tV (eOp neOp (eOp ixD (eV 6) (eC (.int 0))) (eC (.str 8)))) (eV 6))))
  (sRet (eC1 tupD (eOp addD (eV 3) (eVB 4)))))
def F_kinds_needed : Fn := fnS0 7 B_kinds_needed
def B__word : Ss :=
  sCons (sIf (tU (eVB 0)) (sRet (eIf (tU (eVB 1)) (eC (.str 9)) (eC (.str 14)))) (sNil))
  (sRet (eIf (tU (eVB 1)) (eC (.str 3)) (eC (.str 15))))
def F__word : Fn := fnS0 2 B__word
def B_kinds_required : Ss :=
  sCons (sEx (eCall (F_check_signature) (aCons (eV 0) (aNil))))
  (sCons (sEx (eCall (F_check_premises) (aCons (eV 0) (aCons (eV 1) (aCons (eC (.str 17)) (aNil))))))
  (sCons (sAsg (gT 2 (gCons (gN 2) (gCons (gN 3) (gNil)))) (eCall (F_tables_of) (aCons (eOp ixD (eV 0) (eC (.int 0))) (aCons (eV 1) (aNil)))))
  (sRet (eCall (F_kinds_needed) (aCons (eV 2) (aCons (eV 3) (aCons (eV 1) (aNil))))))))
def F_kinds_required : Fn := fnS0 4 B_kinds_required
def B_Forcing___init__ : Ss :=
  sCons (sFldS 0 0 (eV 0) (eV 1))
  (sCons (sFldS 0 1 (eV 0) (eNewX))
  (sCons (sFldS 0 2 (eV 0) (eNewX))
  (sCons (sFldS 0 3 (eV 0) (eNewX))
  (sFor (iSeq (eV 2)) (gN 3) (sCons (sIf (tA (tV (eOp eqOp (eSl (eV 3) (oNo) (oEx (eC (.int 2)))) (eTup (aCons (eC (.str 6)) (aCons (eC (.str 0)) (aNil)))))) (tV (eOp eqOp (eOp ixD (eV 3) (eC (.int 6))) (eC (.str 0))))) (sCons (sAsg (gT 8 (gCons (gN 4) (gCons (gN 4) (gCons (gN 5) (gCons (gN 6) (gCons (gN 7) (gCons (gN 8) (gCons (gN 4) (gCons (gN 9) (gNil)))))))))) (eV 3))
  (sAppC (eSdfX (eFld 0 1 (eV 0)) (eTup (aCons (eV 6) (aCons (eV 7) (aNil)))) (eNew (aNil))) (eIf (tU (eVB 8)) (eTup (aCons (eV 9) (aCons (eV 5) (aNil)))) (eTup (aCons (eV 5) (aCons (eV 9) (aNil))))))) (sNil))
  (sIf (tV (eOp eqOp (eSl (eV 3) (oNo) (oEx (eC (.int 2)))) (eTup (aCons (eC (.str 7)) (aCons (eC (.str 0)) (aNil)))))) (sCons (sAsg (gT 5 (gCons (gN 4) (gCons (gN 4) (gCons (gN 5) (gCons (gN 6) (gCons (gN 7) (gNil))))))) (eV 3))
  (sAppC (eSdfX (eFld 0 2 (eV 0)) (eTup (aCons (eV 6) (aCons (eV 7) (aNil)))) (eNew (aNil))) (eV 5))) (sNil)))))))
def Fr_Forcing___init__ : Fn := fnS0 10 B_Forcing___init__
def F_Forcing___init__ : Fn := pubF Fr_Forcing___init__
def B_Forcing_nouns_above : Ss :=
  sCons (sIf (tV (eInX true (eV 1) (eFld 0 3 (eV 0)))) (sPutXd (eFld 0 3 (eV 0)) (eV 1) (eCall (F_nouns_over) (aCons (eFld 0 0 (eV 0)) (aCons (eV 1) (aNil))))) (sNil))
  (sRet (eGetX (eFld 0 3 (eV 0)) (eV 1)))
def Fr_Forcing_nouns_above : Fn := fnS0 2 B_Forcing_nouns_above
def F_Forcing_nouns_above : Fn := memF
def B_Forcing_is_between : Ss :=
  sCons (sAsg (gT 2 (gCons (gN 5) (gCons (gN 6) (gNil)))) (eTup (aCons (eMeth 0 F_Forcing_nouns_above (eV 0) (aCons (eV 3) (aNil))) (aCons (eMeth 0 F_Forcing_nouns_above (eV 0) (aCons (eV 4) (aNil))) (aNil)))))
  (sCons (sIf (tA (tV (eOp eqOp (eOp ixD (eV 3) (eC (.int 0))) (eC (.str 10)))) (tA (tV (eOp eqOp (eSl (eV 3) (oEx (eC (.int 2))) (oEx (eC (.int 5)))) (eTup (aCons (eV 1) (aCons (eV 2) (aCons (eC (.bl false)) (aNil))))))) (tV (eOp inOp (eOp ixD (eV 3) (eC (.int 5))) (eVB 6))))) (sRet (eC (.bl true))) (sNil))
  (sCons (sIf (tA (tV (eOp eqOp (eOp ixD (eV 4) (eC (.int 0))) (eC (.str 10)))) (tA (tV (eOp eqOp (eSl (eV 4) (oEx (eC (.int 2))) (oEx (eC (.int 5)))) (eTup (aCons (eV 1) (aCons (eV 2) (aCons (eC (.bl true)) (aNil))))))) (tV (eOp inOp (eOp ixD (eV 4) (eC (.int 5))) (eVB 5))))) (sRet (eC (.bl true))) (sNil))
  (sRet (eGen true [7, 8] (iSeq (eGorX (eFld 0 1 (eV 0)) (eTup (aCons (eV 1) (aCons (eV 2) (aNil)))) (eF (aNil)))) (gT 2 (gCons (gN 7) (gCons (gN 8) (gNil)))) (eAnd (eOp inOp (eV 7) (eVB 5)) (eOp inOp (eV 8) (eVB 6)))))))
def F_Forcing_is_between : Fn := fnS0 9 B_Forcing_is_between
def B_forced_between : Ss :=
  sCons (sEx (eCall (F_check_signature) (aCons (eV 0) (aNil))))
  (sCons (sEx (eCall (F_check_premises) (aCons (eV 0) (aCons (eV 1) (aCons (eC (.str 17)) (aNil))))))
  (sCons (sEx (eCall (F__check_verb) (aCons (eV 0) (aCons (eV 2) (aNil)))))
  (sCons (sEx (eCall (F__check_kind) (aCons (eV 0) (aCons (eV 3) (aCons (eC (.str 19)) (aNil))))))
  (sCons (sEx (eCall (F__check_kind) (aCons (eV 0) (aCons (eV 4) (aCons (eC (.str 20)) (aNil))))))
  (sCons (sAsg (gT 2 (gCons (gN 5) (gCons (gN 6) (gNil)))) (eCall (F_tables_of) (aCons (eOp ixD (eV 0) (eC (.int 0))) (aCons (eV 1) (aNil)))))
  (sCons (sSet 7 (eMake 0 F_Forcing___init__ (aCons (eV 5) (aCons (eV 1) (aNil)))))
  (sCons (sSet 8 (eMeth 0 F_Forcing_is_between (eV 7) (aCons (eC (.bl true)) (aCons (eV 2) (aCons (eV 3) (aCons (eV 4) (aNil)))))))
  (sRet (eCall (F__word) (aCons (eV 8) (aCons (eMeth 0 F_Forcing_is_between (eV 7) (aCons (eC (.bl false)) (aCons (eV 2) (aCons (eV 3) (aCons (eV 4) (aNil)))))) (aNil))))))))))))
def Fr_forced_between : Fn := fnS0 9 B_forced_between
def F_forced_between : Fn := drpB Fr_forced_between
def B__law_stream : Ss :=
  sRet (eNew (aCons (eF (aC1 listD (eVB 0))) (aCons (eC (.int 0)) (aCons (eC (.int 0)) (aNil)))))
def F__law_stream : Fn := fnS0 1 B__law_stream
def B__law_next : Ss :=
  sCons (sIf (tV (eOp eqOp (eIxC (eV 0) (eC (.int 1))) (eC (.int 0)))) (sCons (sSet 2 (eIxC (eV 0) (eC (.int 2))))
  (sCons (sSet 3 (eOp addD (eC (.int 7)) (eVB 2)))
  (sCons (sIf (tV (eOp ltD (eV 2) (eC1 lenD (eIxC (eV 0) (eC (.int 0)))))) (sSet 3 (eC1 absD (eOp ixD (eIxC (eV 0) (eC (.int 0))) (eV 2)))) (sNil))
  (sCons (sIf (tV (eOp ltD (eV 3) (eOp powD (eC (.int 10)) (eC (.int 18))))) (sCons (sSet 3 (eOp modD (eC1 intD (eOp addD (eOp addD (eOp mulD (eV 3) (eC (.int 48271))) (eOp mulD (eV 2) (eC (.int 69621)))) (eC (.int 11)))) (eC (.int 2147483647))))
  (sSet 3 (eOp addD (eOp mulD (eOp modD (eC1 intD (eOp addD (eOp mulD (eV 3) (eC (.int 16807))) (eC (.int 13)))) (eC (.int 2147483647))) (eC (.int 65537))) (eVB 3)))) (sNil))
  (sCons (sSetC (eV 0) (eC (.int 1)) (eV 3))
  (sSetC (eV 0) (eC (.int 2)) (eOp addD (eV 2) (eC (.int 1))))))))) (sNil))
  (sCons (sSet 4 (eOp modD (eC1 intD (eIxC (eV 0) (eC (.int 1)))) (eVB 1)))
  (sCons (sSetC (eV 0) (eC (.int 1)) (eOp fdivD (eIxC (eV 0) (eC (.int 1))) (eVB 1)))
  (sRet (eV 4))))
def F__law_next : Fn := fnS0 5 B__law_next
def B__law_sentence : Ss :=
  sCons (sSet 3 (eCall (F__law_next) (aCons (eV 0) (aCons (eV 1) (aNil)))))
  (sCons (sSet 4 (eCall (F__law_next) (aCons (eV 0) (aCons (eV 1) (aNil)))))
  (sCons (sSet 5 (eCall (F__law_next) (aCons (eV 0) (aCons (eC (.int 9)) (aNil)))))
  (sCons (sIf (tO (tV (eOp ltD (eV 5) (eC (.int 6)))) (tV (eOp eqOp (eV 2) (eC (.int 0))))) (sRet (eTup (aCons (eOp ixD (eF (aCons (eC (.str 0)) (aCons (eC (.str 2)) (aCons (eC (.str 3)) (aCons (eC (.str 1)) (aCons (eC (.str 4)) (aCons (eC (.str 5)) (aNil)))))))) (eOp modD (eC1 intD (eVB 5)) (eC (.int 6)))) (aCons (eV 3) (aCons (eV 4) (aNil)))))) (sNil))
  (sCons (sSet 6 (eF (aCons (eC (.str 0)) (aCons (eC (.str 1)) (aNil)))))
  (sCons (sSet 7 (eOp ixD (eV 6) (eCall (F__law_next) (aCons (eV 0) (aCons (eC (.int 2)) (aNil))))))
  (sCons (sSet 8 (eOp eqOp (eCall (F__law_next) (aCons (eV 0) (aCons (eC (.int 2)) (aNil)))) (eC (.int 0))))
  (sCons (sSet 9 (eCall (F__law_next) (aCons (eV 0) (aCons (eV 2) (aNil)))))
  (sCons (sIf (tV (eOp eqOp (eV 5) (eC (.int 6)))) (sRet (eTup (aCons (eC (.str 7)) (aCons (eV 7) (aCons (eV 3) (aCons (eV 8) (aCons (eV 9) (aNil)))))))) (sNil))
  (sRet (eTup (aCons (eC (.str 6)) (aCons (eV 7) (aCons (eV 3) (aCons (eV 8) (aCons (eV 9) (aCons (eOp eqOp (eCall (F__law_next) (aCons (eV 0) (aCons (eC (.int 2)) (aNil)))) (eC (.int 0))) (aCons (eOp ixD (eV 6) (eCall (F__law_next) (aCons (eV 0) (aCons (eC (.int 2)) (aNil))))) (aCons (eV 4) (aNil)))))))))))))))))))
def F__law_sentence : Fn := fnS0 10 B__law_sentence
def B__law_premises : Ss :=
  sRet (eC1 tupD (eF (aLc [3] (iRn1 (aCons (eCall (F__law_next) (aCons (eV 0) (aCons (eOp addD (eV 2) (eC (.int 1))) (aNil)))) (aNil))) (gN 3) (Z.tYes) (eCall (F__law_sentence) (aCons (eV 0) (aCons (eOp ixD (eV 1) (eC (.int 0))) (aCons (eOp ixD (eV 1) (eC (.int 1))) (aNil))))))))
def F__law_premises : Fn := fnS0 4 B__law_premises
def B__law_some_kind : Ss :=
  sCons (sSet 2 (eCall (F__law_next) (aCons (eV 0) (aCons (eOp ixD (eV 1) (eC (.int 0))) (aNil)))))
  (sCons (sSet 3 (eCall (F__law_next) (aCons (eV 0) (aCons (eOp ixD (eV 1) (eC (.int 0))) (aNil)))))
  (sCons (sSet 4 (eCall (F__law_next) (aCons (eV 0) (aCons (eC (.int 4)) (aNil)))))
  (sCons (sIf (tO (tV (eOp eqOp (eV 4) (eC (.int 0)))) (tV (eOp eqOp (eOp ixD (eV 1) (eC (.int 1))) (eC (.int 0))))) (sRet (eTup (aCons (eC (.str 8)) (aCons (eV 2) (aNil))))) (sNil))
  (sCons (sIf (tA (tV (eOp eqOp (eV 4) (eC (.int 1)))) (tV (eOp neOp (eV 2) (eVB 3)))) (sRet (eTup (aCons (eC (.str 9)) (aCons (eOp minOp (eV 2) (eV 3)) (aCons (eOp maxOp (eV 2) (eV 3)) (aNil)))))) (sNil))
  (sCons (sSet 5 (eOp eqOp (eCall (F__law_next) (aCons (eV 0) (aCons (eC (.int 2)) (aNil)))) (eC (.int 0))))
  (sCons (sSet 6 (eCall (F__law_next) (aCons (eV 0) (aCons (eOp ixD (eV 1) (eC (.int 1))) (aNil)))))
  (sCons (sIf (tV (eOp eqOp (eV 4) (eC (.int 2)))) (sRet (eTup (aCons (eC (.str 7)) (aCons (eV 2) (aCons (eV 5) (aCons (eV 6) (aNil))))))) (sNil))
  (sRet (eTup (aCons (eC (.str 10)) (aCons (eV 2) (aCons (eV 5) (aCons (eV 6) (aCons (eOp eqOp (eCall (F__law_next) (aCons (eV 0) (aCons (eC (.int 2)) (aNil)))) (eC (.int 0))) (aCons (eV 3) (aNil))))))))))))))))
def F__law_some_kind : Fn := fnS0 7 B__law_some_kind
def B_law : Ss :=
  sCons (sSet 1 (eCall (F__law_stream) (aCons (eV 0) (aNil))))
  (sCons (sSet 2 (eTup (aCons (eOp addD (eC (.int 2)) (eCall (F__law_next) (aCons (eV 1) (aCons (eC (.int 3)) (aNil))))) (aCons (eOp addD (eC (.int 1)) (eCall (F__law_next) (aCons (eV 1) (aCons (eC (.int 2)) (aNil))))) (aNil)))))
  (sCons (sSet 3 (eCall (F__law_premises) (aCons (eV 1) (aCons (eV 2) (aCons (eC (.int 5)) (aNil))))))
  (sCons (sSet 4 (eOp addD (eV 3) (eCall (F__law_premises) (aCons (eV 1) (aCons (eV 2) (aCons (eC (.int 3)) (aNil)))))))
  (sCons (sFor (iSeq (eF (aCons (eC (.fn 202)) (aCons (eC (.fn 209)) (aCons (eC (.fn 216)) (aCons (eC (.fn 305)) (aNil))))))) (gN 5) (sCons (sSet 6 (eCallA 5 [(202, F_subsets), (209, F_at_least), (216, F_nouns_required), (305, F_kinds_required)] (aCons (eV 2) (aCons (eV 4) (aNil)))))
  (sIf (tN (tU (eC1 allD (eF (aLc [16] (iSeq (eCallA 5 [(202, F_subsets), (209, F_at_least), (216, F_nouns_required), (305, F_kinds_required)] (aCons (eV 2) (aCons (eV 3) (aNil))))) (gN 16) (Z.tYes) (eOp inOp (eV 16) (eVB 6))))))) (sRet (eC (.bl false))) (sNil))))
  (sCons (sFor (iRn1 (aCons (eC (.int 4)) (aNil))) (gN 7) (sCons (sSet 8 (eCall (F__law_some_kind) (aCons (eV 1) (aCons (eV 2) (aNil)))))
  (sCons (sSet 9 (eCall (F__law_some_kind) (aCons (eV 1) (aCons (eV 2) (aNil)))))
  (sCons (sSet 10 (eCall (F__law_next) (aCons (eV 1) (aCons (eOp ixD (eV 2) (eC (.int 1))) (aNil)))))
  (sCons (sSet 11 (eCall (F_forced_between) (aCons (eV 2) (aCons (eV 3) (aCons (eV 10) (aCons (eV 8) (aCons (eV 9) (aNil))))))))
  (sCons (sSet 6 (eCall (F_forced_between) (aCons (eV 2) (aCons (eV 4) (aCons (eV 10) (aCons (eV 8) (aCons (eV 9) (aNil))))))))
  (sIf (tA (tV (eOp neOp (eV 11) (eC (.str 15)))) (tV (eOp notInOp (eV 6) (eF (aCons (eV 11) (aCons (eC (.str 9)) (aNil))))))) (sRet (eC (.bl false))) (sNil))))))))
  (sCons (sSet 12 (eCall (F_subsets) (aCons (eV 2) (aCons (eV 4) (aNil)))))
  (sCons (sSet 13 (eCall (F_nouns_required) (aCons (eV 2) (aCons (eV 4) (aNil)))))
  (sCons (sFor (iSeq (eV 12)) (gT 2 (gCons (gN 14) (gCons (gN 15) (gNil)))) (sIf (tA (tV (eOp inOp (eTup (aCons (eV 15) (aCons (eV 14) (aNil)))) (eVB 12))) (tV (eOp neOp (eOp inOp (eV 14) (eVB 13)) (eOp inOp (eV 15) (eVB 13))))) (sRet (eC (.bl false))) (sNil)))
  (sRet (eC (.bl true)))))))))))
def F_law : Fn := fnS0 17 B_law
/-! ## the nouns above a kind, and what an instance keeps of it -/
theorem p_nouns_of {kd : D} {xs : List Int} {cs : List Cell} (h : kindNs kd = some xs) : F_nouns_of [kd] cs = .ok (.tup (xs.map D.int)) ⟨[], cs⟩ := by
  rcases kind_cases h with ⟨x, rfl, rfl⟩ | ⟨x, y, rfl, rfl⟩ | ⟨x, a, v, b, y, rfl, rfl⟩ | ⟨x, a, v, rfl, rfl⟩ <;> simp [F_nouns_of, B_nouns_of, cut_ab]
theorem p_nouns_over {rows : List (List Bool)} {xs : List Int} {kd : D} {cs : List Cell} (hk : kindNs kd = some xs) (hl : rows.length ≤ 8) (hr : ∀ r ∈ rows, r.length = rows.length) (hx : ∀ x ∈ xs, 0 ≤ x ∧ x < rows.length) :
    F_nouns_over [tabD rows, kd] cs = .ok (.tup ((aboveL rows xs).map D.int)) ⟨[], cs⟩ := by
  have hxl : xs.length ≤ 100000 := by
    rcases kind_cases hk with ⟨_, _, rfl⟩ | ⟨_, _, _, rfl⟩ | ⟨_, _, _, _, _, _, rfl⟩ | ⟨_, _, _, _, rfl⟩ <;> simp
  have e1 : ∀ s1 : S, s1 = ⟨[.sv (tabD rows), .sv kd, .un, .un], cs⟩ → (aLc [2] (iRn1 (aCons (eC1 lenD (eVB 0)) (aNil))) (gN 2) (tU (eC1 anyD (eF (aLc [3] (iSeq (eCall (F_nouns_of) (aCons (eV 1) (aNil)))) (gN 3) (Z.tYes) (eOp ixD (eOp ixD (eV 0) (eV 3)) (eV 2)))))) (eV 2)) s1 =
      .ok (((zts rows.length).filter fun y => xs.any fun x => tbl rows x y).map D.int) s1 := by
    rintro s1 rfl
    refine lcT (zts rows.length) (fun y => xs.any fun x => tbl rows x y) D.int (inj := D.int) ?_ (by simp; omega) (by simp) fun y hy => ⟨?_, fun _ => by simp⟩
    · have := rngL_zts rows.length
      simp [tabD, lenD, this]
      omega
    · rw [mem_zts] at hy
      have e2 : ∀ s2 : S, s2 = ⟨[.sv (tabD rows), .sv kd, .sv (.int y), .un], cs⟩ → (aLc [3] (iSeq (eCall (F_nouns_of) (aCons (eV 1) (aNil)))) (gN 3) (Z.tYes) (eOp ixD (eOp ixD (eV 0) (eV 3)) (eV 2))) s2 =
          .ok (xs.map fun x => .bl (tbl rows x y)) s2 := by
        rintro s2 rfl
        refine lcM (inj := D.int) xs _ ?_ hxl (by simp) fun x hxm => ?_
        · simp [p_nouns_of hk]
        · obtain ⟨a, b⟩ := hx x hxm
          simp [tab_at a b, row_at hy.1 (by rw [row_len hr a b]; exact hy.2), tbl]
      simp [e2, bools_all, truD]
  have e3 : ((zts rows.length).filter fun y => xs.any fun x => tbl rows x y) = aboveL rows xs := rfl
  simp [F_nouns_over, B_nouns_over, e1, tupD, e3]
theorem memo_eq (ds : List D) (cs : List Cell) (h : memF ds cs ≠ .stuck) : ∃ k T, cs[k]? = some (.memo T) ∧ ∀ l, MemoOk T l → ∃ d l', MemoOk T l' ∧ Fr_Forcing_nouns_above ds (cs.set k (.dct l)) = .ok d ⟨[], cs.set k (.dct l')⟩ ∧ memF ds cs = .ok d ⟨[], cs⟩ := by
  obtain ⟨n, kd, fl, T, k, d, rfl, h1, h2, h3, h4, h5, h6⟩ := memF_some h
  refine ⟨k, T, h4, fun l hm => ?_⟩
  obtain ⟨tl, rows, xs, rfl, hr, hk, hl, hsq, hx, rfl, _⟩ := above_some h5
  have et : D.lst tl = tabD rows := by rw [rowsD_eq hr]; rfl
  have hkl : k < cs.length := (List.getElem?_eq_some_iff.mp h4).1
  have hnl : n < cs.length := (List.getElem?_eq_some_iff.mp h1).1
  have hne : k ≠ n := fun z => by rw [z, h1] at h4; cases h4
  have g1 : ∀ c, (cs.set k c)[n]? = some (.ins 0 fl) := fun c => by rw [List.getElem?_set_ne hne, h1]
  have g2 : ∀ c, (cs.set k c)[k]? = some c := fun c => List.getElem?_set_self hkl
  have ko := kOk_kind hk
  have hov : ∀ cs, F_nouns_over [.lst tl, kd] cs = .ok (.tup ((aboveL rows xs).map D.int)) ⟨[], cs⟩ := fun cs => by
    rw [et]
    exact p_nouns_over hk hl hsq hx
  rcases memo_find hm h5 with hf | hf
  · refine ⟨_, l, hm, ?_, h6⟩
    simp [Fr_Forcing_nouns_above, B_Forcing_nouns_above, g1, g2, h2, h3, ko, hf]
  · have hlen : l.length ≤ 100000 := Nat.le_trans (memo_few hm) (by decide)
    obtain ⟨m1, m2⟩ := memo_put hm h5
    refine ⟨_, _, m1, ?_, h6⟩
    simp [Fr_Forcing_nouns_above, B_Forcing_nouns_above, g1, g2, h2, h3, ko, hf, hov, hlen, m2]
theorem ok_is_integer {N : En} {w : World} {P : Program} {mg : Str → Option Value} {base : Heap} (T : Txt N w mg) (TB : Tabs N T base) : FnOk P w N.K mg base CX0 1 T.f_is_integer T.d_is_integer ["value", "least", "most"] (spOf N 3 F_is_integer) := by
  refine fn_sim (Ns := Nis_integer) (ps := ["value", "least", "most"]) (b := B_is_integer) T.F_is_integer scis_integer fun cdv A outer s H E hr => ?_
  exact sss_one (ss_ret (se_and (se_isi .int rfl (by rfl) T.n_isinstance (pe_bltn (v := .ty "int") (by rfl) T.n_int (by decide +kernel) rfl) (se_v 0)) (se_and (se_not (se_isi .bool rfl (by rfl) T.n_isinstance (pe_bltn (v := .ty "bool") (by rfl) T.n_bool (by decide +kernel) rfl) (se_v 0))) (se_one (se_chain op_le sim_le op_le sim_le (se_v 1) (se_v 0) (sb_v 2))))))
theorem ok_is_noun {N : En} {w : World} {P : Program} {mg : Str → Option Value} {base : Heap} (T : Txt N w mg) (TB : Tabs N T base) : FnOk P w N.K mg base CX0 2 T.f_is_noun T.d_is_noun ["signature", "value"] (spOf N 2 F_is_noun) := by
  refine fn_sim (Ns := Nis_noun) (ps := ["signature", "value"]) (b := B_is_noun) T.F_is_noun scis_noun fun cdv A outer s H E hr => ?_
  exact sss_one (ss_ret (se_call (ok_is_integer T TB) (hr.mono (by decide)) (by rfl) T.g_is_integer T.F_is_integer.kp T.b_is_integer px0 (sa_cons (se_v 1) (sa_cons (se_int) (sa_cons (se_sub (se_at (se_v 0) (se_int)) ((se_int).sb)) (sa_nil))))))
theorem ok_is_verb {N : En} {w : World} {P : Program} {mg : Str → Option Value} {base : Heap} (T : Txt N w mg) (TB : Tabs N T base) : FnOk P w N.K mg base CX0 2 T.f_is_verb T.d_is_verb ["signature", "value"] (spOf N 2 F_is_verb) := by
  refine fn_sim (Ns := Nis_verb) (ps := ["signature", "value"]) (b := B_is_verb) T.F_is_verb scis_verb fun cdv A outer s H E hr => ?_
  exact sss_one (ss_ret (se_call (ok_is_integer T TB) (hr.mono (by decide)) (by rfl) T.g_is_integer T.F_is_integer.kp T.b_is_integer px0 (sa_cons (se_v 1) (sa_cons (se_int) (sa_cons (se_sub (se_at (se_v 0) (se_int)) ((se_int).sb)) (sa_nil))))))
theorem ok_is_signature {N : En} {w : World} {P : Program} {mg : Str → Option Value} {base : Heap} (T : Txt N w mg) (TB : Tabs N T base) : FnOk P w N.K mg base CX0 2 T.f_is_signature T.d_is_signature ["value"] (spOf N 1 F_is_signature) := by
  refine fn_sim (Ns := Nis_signature) (ps := ["value"]) (b := B_is_signature) T.F_is_signature scis_signature fun cdv A outer s H E hr => ?_
  exact sss_cons (ss_if (sw_pt (sw_or (st_not (st_tru rfl ((se_isi .tuple rfl (by rfl) T.n_isinstance (pe_bltn (v := .ty "tuple") (by rfl) T.n_tuple (by decide +kernel) rfl) (se_v 0)).sb))) (sw_or1 (st_ne hr.units (se_len rfl (by rfl) T.n_len (sb_v 0)) ((se_int).sb))))) (sss_one (ss_ret (se_bl))) (sss_nil))
      (sss_one (ss_ret (se_and (se_call (ok_is_integer T TB) (hr.mono (by decide)) (by rfl) T.g_is_integer T.F_is_integer.kp T.b_is_integer px0 (sa_cons (se_at (se_v 0) (se_int)) (sa_cons (se_int) (sa_cons (se_glob (v := .int 4) (by rfl) T.c_MOST_NOUNS ⟨_, rfl⟩ (fun _ _ => .int _)) (sa_nil))))) (se_one (se_call (ok_is_integer T TB) (hr.mono (by decide)) (by rfl) T.g_is_integer T.F_is_integer.kp T.b_is_integer px0 (sa_cons (se_at (se_v 0) (se_int)) (sa_cons (se_int) (sa_cons (se_glob (v := .int 2) (by rfl) T.c_MOST_VERBS ⟨_, rfl⟩ (fun _ _ => .int _)) (sa_nil)))))))))
theorem ok__is_verb_sentence {N : En} {w : World} {P : Program} {mg : Str → Option Value} {base : Heap} (T : Txt N w mg) (TB : Tabs N T base) : FnOk P w N.K mg base CX0 3 T.f__is_verb_sentence T.d__is_verb_sentence ["signature", "value"] (spOf N 2 F__is_verb_sentence) := by
  refine fn_sim (Ns := N_is_verb_sentence) (ps := ["signature", "value"]) (b := B__is_verb_sentence) T.F__is_verb_sentence sc_is_verb_sentence fun cdv A outer s H E hr => ?_
  exact sss_cons (ss_if (st_ne hr.units (se_len rfl (by rfl) T.n_len (sb_v 1)) ((se_int).sb)) (sss_one (ss_ret (se_bl))) (sss_nil))
      (sss_cons (ss_asg (se_v 1) (sg_tup rfl rfl (sgs_cons (sg_name (i := 2) sc_is_verb_sentence.nd rfl (Or.inl rfl)) (sgs_cons (sg_name (i := 3) sc_is_verb_sentence.nd rfl (Or.inl rfl)) (sgs_cons (sg_name (i := 4) sc_is_verb_sentence.nd rfl (Or.inl rfl)) (sgs_cons (sg_name (i := 5) sc_is_verb_sentence.nd rfl (Or.inl rfl)) (sgs_cons (sg_name (i := 6) sc_is_verb_sentence.nd rfl (Or.inl rfl)) (sgs_cons (sg_name (i := 7) sc_is_verb_sentence.nd rfl (Or.inl rfl)) (sgs_cons (sg_name (i := 8) sc_is_verb_sentence.nd rfl (Or.inl rfl)) (sgs_cons (sg_name (i := 9) sc_is_verb_sentence.nd rfl (Or.inl rfl)) (sgs_nil)))))))))))
      (sss_cons (ss_if (sw_pt (sw_or (st_notIn (u65 hr) (se_v 3) ((se_glob (v := .ref T.a_QUANTIFIERS) (by rfl) T.c_QUANTIFIERS rfl T.t_QUANTIFIERS).sb)) (sw_or1 (st_notIn (u65 hr) (se_v 8) ((se_glob (v := .ref T.a_QUANTIFIERS) (by rfl) T.c_QUANTIFIERS rfl T.t_QUANTIFIERS).sb))))) (sss_one (ss_ret (se_bl))) (sss_nil))
      (sss_cons (ss_if (sw_pt (sw_or (st_not (st_tru rfl ((se_isi .bool rfl (by rfl) T.n_isinstance (pe_bltn (v := .ty "bool") (by rfl) T.n_bool (by decide +kernel) rfl) (se_v 5)).sb))) (sw_or1 (st_not (st_tru rfl ((se_isi .bool rfl (by rfl) T.n_isinstance (pe_bltn (v := .ty "bool") (by rfl) T.n_bool (by decide +kernel) rfl) (se_v 7)).sb)))))) (sss_one (ss_ret (se_bl))) (sss_nil))
      (sss_one (ss_ret (se_and (se_call (ok_is_noun T TB) (hr.mono (by decide)) (by rfl) T.g_is_noun T.F_is_noun.kp T.b_is_noun px0 (sa_cons (se_v 0) (sa_cons (se_v 4) (sa_nil)))) (se_and (se_call (ok_is_verb T TB) (hr.mono (by decide)) (by rfl) T.g_is_verb T.F_is_verb.kp T.b_is_verb px0 (sa_cons (se_v 0) (sa_cons (se_v 6) (sa_nil)))) (se_one (se_call (ok_is_noun T TB) (hr.mono (by decide)) (by rfl) T.g_is_noun T.F_is_noun.kp T.b_is_noun px0 (sa_cons (se_v 0) (sa_cons (se_v 9) (sa_nil))))))))))))
theorem ok__is_self_sentence {N : En} {w : World} {P : Program} {mg : Str → Option Value} {base : Heap} (T : Txt N w mg) (TB : Tabs N T base) : FnOk P w N.K mg base CX0 3 T.f__is_self_sentence T.d__is_self_sentence ["signature", "value"] (spOf N 2 F__is_self_sentence) := by
  refine fn_sim (Ns := N_is_self_sentence) (ps := ["signature", "value"]) (b := B__is_self_sentence) T.F__is_self_sentence sc_is_self_sentence fun cdv A outer s H E hr => ?_
  exact sss_cons (ss_if (st_ne hr.units (se_len rfl (by rfl) T.n_len (sb_v 1)) ((se_int).sb)) (sss_one (ss_ret (se_bl))) (sss_nil))
      (sss_cons (ss_asg (se_v 1) (sg_tup rfl rfl (sgs_cons (sg_name (i := 2) sc_is_self_sentence.nd rfl (Or.inl rfl)) (sgs_cons (sg_name (i := 3) sc_is_self_sentence.nd rfl (Or.inl rfl)) (sgs_cons (sg_name (i := 4) sc_is_self_sentence.nd rfl (Or.inl rfl)) (sgs_cons (sg_name (i := 5) sc_is_self_sentence.nd rfl (Or.inl rfl)) (sgs_cons (sg_name (i := 6) sc_is_self_sentence.nd rfl (Or.inl rfl)) (sgs_nil))))))))
      (sss_cons (ss_if (sw_pt (sw_or (st_notIn (u65 hr) (se_v 3) ((se_glob (v := .ref T.a_QUANTIFIERS) (by rfl) T.c_QUANTIFIERS rfl T.t_QUANTIFIERS).sb)) (sw_or1 (st_not (st_tru rfl ((se_isi .bool rfl (by rfl) T.n_isinstance (pe_bltn (v := .ty "bool") (by rfl) T.n_bool (by decide +kernel) rfl) (se_v 5)).sb)))))) (sss_one (ss_ret (se_bl))) (sss_nil))
      (sss_one (ss_ret (se_and (se_call (ok_is_noun T TB) (hr.mono (by decide)) (by rfl) T.g_is_noun T.F_is_noun.kp T.b_is_noun px0 (sa_cons (se_v 0) (sa_cons (se_v 4) (sa_nil)))) (se_one (se_call (ok_is_verb T TB) (hr.mono (by decide)) (by rfl) T.g_is_verb T.F_is_verb.kp T.b_is_verb px0 (sa_cons (se_v 0) (sa_cons (se_v 6) (sa_nil))))))))))
theorem ok_is_sentence {N : En} {w : World} {P : Program} {mg : Str → Option Value} {base : Heap} (T : Txt N w mg) (TB : Tabs N T base) : FnOk P w N.K mg base CX0 4 T.f_is_sentence T.d_is_sentence ["signature", "value"] (spOf N 2 F_is_sentence) := by
  refine fn_sim (Ns := Nis_sentence) (ps := ["signature", "value"]) (b := B_is_sentence) T.F_is_sentence scis_sentence fun cdv A outer s H E hr => ?_
  exact sss_cons (ss_if (sw_pt (sw_or (st_not (st_tru rfl ((se_isi .tuple rfl (by rfl) T.n_isinstance (pe_bltn (v := .ty "tuple") (by rfl) T.n_tuple (by decide +kernel) rfl) (se_v 1)).sb))) (sw_or1 (st_eq hr.units (se_len rfl (by rfl) T.n_len (sb_v 1)) ((se_int).sb))))) (sss_one (ss_ret (se_bl))) (sss_nil))
      (sss_cons (ss_if (st_eq hr.units (se_at (se_v 1) (se_int)) ((se_str 6).sb)) (sss_one (ss_ret (se_call (ok__is_verb_sentence T TB) (hr.mono (by decide)) (by rfl) T.g__is_verb_sentence T.F__is_verb_sentence.kp T.b__is_verb_sentence px0 (sa_cons (se_v 0) (sa_cons (se_v 1) (sa_nil)))))) (sss_nil))
      (sss_cons (ss_if (st_eq hr.units (se_at (se_v 1) (se_int)) ((se_str 7).sb)) (sss_one (ss_ret (se_call (ok__is_self_sentence T TB) (hr.mono (by decide)) (by rfl) T.g__is_self_sentence T.F__is_self_sentence.kp T.b__is_self_sentence px0 (sa_cons (se_v 0) (sa_cons (se_v 1) (sa_nil)))))) (sss_nil))
      (sss_cons (ss_if (sw_pt (sw_or (st_notIn (u65 hr) (se_at (se_v 1) (se_int)) ((se_glob (v := .ref T.a_NOUN_WORDS) (by rfl) T.c_NOUN_WORDS rfl T.t_NOUN_WORDS).sb)) (sw_or1 (st_ne hr.units (se_len rfl (by rfl) T.n_len (sb_v 1)) ((se_int).sb))))) (sss_one (ss_ret (se_bl))) (sss_nil))
      (sss_one (ss_ret (se_and (se_call (ok_is_noun T TB) (hr.mono (by decide)) (by rfl) T.g_is_noun T.F_is_noun.kp T.b_is_noun px0 (sa_cons (se_v 0) (sa_cons (se_at (se_v 1) (se_int)) (sa_nil)))) (se_one (se_call (ok_is_noun T TB) (hr.mono (by decide)) (by rfl) T.g_is_noun T.F_is_noun.kp T.b_is_noun px0 (sa_cons (se_v 0) (sa_cons (se_at (se_v 1) (se_int)) (sa_nil)))))))))))
theorem ok_are_premises {N : En} {w : World} {P : Program} {mg : Str → Option Value} {base : Heap} (T : Txt N w mg) (TB : Tabs N T base) : FnOk P w N.K mg base CX0 6 T.f_are_premises T.d_are_premises ["signature", "value"] (spOf N 2 F_are_premises) := by
  refine fn_simC (Ns := Nare_premises) (ps := ["signature", "value"]) (b := B_are_premises) T.FC_are_premises scare_premises fun A outer s H E hr => ?_
  exact sss_cons (ss_if (sw_pt (sw_or (st_not (st_tru rfl ((se_isi .tuple rfl (by rfl) T.n_isinstance (pe_bltn (v := .ty "tuple") (by rfl) T.n_tuple (by decide +kernel) rfl) (se_v 1)).sb))) (sw_or1 (st_gt (se_len rfl (by rfl) T.n_len (sb_v 1)) ((se_glob (v := .int 8) (by rfl) T.c_MOST_PREMISES ⟨_, rfl⟩ (fun _ _ => .int _)).sb))))) (sss_one (ss_ret (se_bl))) (sss_nil))
      (sss_one (ss_ret (se_gen (brk := false) (own := [("one", 2)]) T.m_are_premises rfl hr (by rfl) T.n_all TB.b_are_premises rfl scare_premises.nd (si_seq rfl (se_v 1)) (blkOk_by (own := [("one", 2)]) (N := Nare_premises) (sc := defScope sare_premises) (by decide +kernel)) (by decide +kernel) rfl rfl (fun _ _ _ _ _ _ _ => sg_name (i := 2) scare_premises.nd rfl (Or.inl rfl)) (fun _ _ _ _ _ _ _ => se_call (ok_is_sentence T TB) (GXX.room_gen (k := 4) (hr.mono (by decide))) (by rfl) T.g_is_sentence T.F_is_sentence.kp T.b_is_sentence px0 (sa_cons (se_v 0) (sa_cons (se_v 2) (sa_nil)))))))
theorem ok_check_signature {N : En} {w : World} {P : Program} {mg : Str → Option Value} {base : Heap} (T : Txt N w mg) (TB : Tabs N T base) : FnOk P w N.K mg base CX0 3 T.f_check_signature T.d_check_signature ["signature"] (spOf N 1 F_check_signature) := by
  refine fn_sim (Ns := Ncheck_signature) (ps := ["signature"]) (b := B_check_signature) T.F_check_signature sccheck_signature fun cdv A outer s H E hr => ?_
  exact sss_one (ss_if (st_not (st_tru rfl ((se_call (ok_is_signature T TB) (hr.mono (by decide)) (by rfl) T.g_is_signature T.F_is_signature.kp T.b_is_signature px0 (sa_cons (se_v 0) (sa_nil))).sb))) (sss_one (ss_never)) (sss_nil))
theorem ok_check_premises {N : En} {w : World} {P : Program} {mg : Str → Option Value} {base : Heap} (T : Txt N w mg) (TB : Tabs N T base) : FnOk P w N.K mg base CX0 7 T.f_check_premises T.d_check_premises ["signature", "premises", "name"] (spOf N 3 F_check_premises) := by
  refine fn_sim (Ns := Ncheck_premises) (ps := ["signature", "premises", "name"]) (b := B_check_premises) T.F_check_premises sccheck_premises fun cdv A outer s H E hr => ?_
  exact sss_one (ss_if (st_not (st_tru rfl ((se_call (ok_are_premises T TB) (hr.mono (by decide)) (by rfl) T.g_are_premises T.F_are_premises.kp T.b_are_premises px0 (sa_cons (se_v 0) (sa_cons (se_v 1) (sa_nil)))).sb))) (sss_one (ss_never)) (sss_nil))
theorem ok_nouns_of {N : En} {w : World} {P : Program} {mg : Str → Option Value} {base : Heap} (T : Txt N w mg) (TB : Tabs N T base) : FnOk P w N.K mg base CX0 1 T.f_nouns_of T.d_nouns_of ["kind"] (spOf N 1 F_nouns_of) := by
  refine fn_sim (Ns := Nnouns_of) (ps := ["kind"]) (b := B_nouns_of) T.F_nouns_of scnouns_of fun cdv A outer s H E hr => ?_
  exact sss_one (ss_ret (se_if (st_eq hr.units (se_at (se_v 0) (se_int)) ((se_str 9).sb)) (se_sl rfl (se_v 0) (so_ex (se_int)) (so_ex (se_int))) (se_sl rfl (se_v 0) (so_ex (se_int)) (so_ex (se_int)))))
theorem ok__stated_by {N : En} {w : World} {P : Program} {mg : Str → Option Value} {base : Heap} (T : Txt N w mg) (TB : Tabs N T base) : FnOk P w N.K mg base CX0 1 T.f__stated_by T.d__stated_by ["premise"] (spOf N 1 F__stated_by) := by
  refine fn_sim (Ns := N_stated_by) (ps := ["premise"]) (b := B__stated_by) T.F__stated_by sc_stated_by fun cdv A outer s H E hr => ?_
  exact sss_cons (ss_set (i := 1) sc_stated_by.nd rfl (Or.inl rfl) (se_at (se_v 0) (se_int)))
      (sss_cons (ss_if (st_eq hr.units (se_v 1) ((se_str 1).sb)) (sss_cons (ss_par (i := 2) (j := 3) rfl sc_stated_by.nd rfl rfl (by decide) rfl rfl (sa_cons (se_minT rfl rfl (u2 hr) (by rfl) T.n_min ((se_sl rfl (se_v 0) (so_ex (se_int)) (so_no)).sb)) (sa_cons (se_maxT rfl rfl (u2 hr) (by rfl) T.n_max ((se_sl rfl (se_v 0) (so_ex (se_int)) (so_no)).sb)) (sa_nil))) rfl)
      (sss_one (ss_ret (se_if (st_eq hr.units (se_v 2) (sb_v 3)) (se_f (sf_lst (sa_cons (se_tup (sa_cons (se_str 8) (sa_cons (se_v 2) (sa_nil)))) (sa_nil)))) (se_f (sf_lst (sa_cons (se_tup (sa_cons (se_str 9) (sa_cons (se_v 2) (sa_cons (se_v 3) (sa_nil))))) (sa_nil)))))))) (sss_nil))
      (sss_cons (ss_if (st_eq hr.units (se_v 1) ((se_str 2).sb)) (sss_one (ss_ret (se_f (sf_lst (sa_cons (se_tup (sa_cons (se_str 8) (sa_cons (se_at (se_v 0) (se_int)) (sa_nil)))) (sa_nil)))))) (sss_nil))
      (sss_cons (ss_if (st_eq hr.units (se_v 1) ((se_str 5).sb)) (sss_one (ss_ret (se_f (sf_lst (sa_cons (se_tup (sa_cons (se_str 8) (sa_cons (se_at (se_v 0) (se_int)) (sa_nil)))) (sa_nil)))))) (sss_nil))
      (sss_cons (ss_if (sw_pt (sw_and (st_eq hr.units (se_v 1) ((se_str 6).sb)) (sw_and1 (st_eq hr.units (se_at (se_v 0) (se_int)) ((se_str 1).sb))))) (sss_cons (ss_asg (se_v 0) (sg_tup rfl rfl (sgs_cons (sg_name (i := 4) sc_stated_by.nd rfl (Or.inl rfl)) (sgs_cons (sg_name (i := 4) sc_stated_by.nd rfl (Or.inl rfl)) (sgs_cons (sg_name (i := 2) sc_stated_by.nd rfl (Or.inl rfl)) (sgs_cons (sg_name (i := 5) sc_stated_by.nd rfl (Or.inl rfl)) (sgs_cons (sg_name (i := 6) sc_stated_by.nd rfl (Or.inl rfl)) (sgs_cons (sg_name (i := 7) sc_stated_by.nd rfl (Or.inl rfl)) (sgs_cons (sg_name (i := 8) sc_stated_by.nd rfl (Or.inl rfl)) (sgs_cons (sg_name (i := 3) sc_stated_by.nd rfl (Or.inl rfl)) (sgs_nil)))))))))))
      (sss_one (ss_ret (se_if (st_eq hr.units (se_v 8) ((se_str 1).sb)) (se_f (sf_lst (sa_cons (se_tup (sa_cons (se_str 8) (sa_cons (se_v 2) (sa_nil)))) (sa_cons (se_tup (sa_cons (se_str 8) (sa_cons (se_v 3) (sa_nil)))) (sa_nil))))) (se_f (sf_lst (sa_cons (se_tup (sa_cons (se_str 10) (sa_cons (se_v 2) (sa_cons (se_v 5) (sa_cons (se_v 6) (sa_cons (se_v 7) (sa_cons (se_v 3) (sa_nil)))))))) (sa_nil)))))))) (sss_nil))
      (sss_cons (ss_if (sw_pt (sw_and (st_eq hr.units (se_v 1) ((se_str 7).sb)) (sw_and1 (st_eq hr.units (se_at (se_v 0) (se_int)) ((se_str 1).sb))))) (sss_cons (ss_asg (se_v 0) (sg_tup rfl rfl (sgs_cons (sg_name (i := 4) sc_stated_by.nd rfl (Or.inl rfl)) (sgs_cons (sg_name (i := 4) sc_stated_by.nd rfl (Or.inl rfl)) (sgs_cons (sg_name (i := 2) sc_stated_by.nd rfl (Or.inl rfl)) (sgs_cons (sg_name (i := 5) sc_stated_by.nd rfl (Or.inl rfl)) (sgs_cons (sg_name (i := 6) sc_stated_by.nd rfl (Or.inl rfl)) (sgs_nil))))))))
      (sss_one (ss_ret (se_f (sf_lst (sa_cons (se_tup (sa_cons (se_str 7) (sa_cons (se_v 2) (sa_cons (se_v 5) (sa_cons (se_v 6) (sa_nil)))))) (sa_nil))))))) (sss_nil))
      (sss_one (ss_ret (se_f (sf_lst (sa_nil))))))))))
theorem ok_kinds_stated {N : En} {w : World} {P : Program} {mg : Str → Option Value} {base : Heap} (T : Txt N w mg) (TB : Tabs N T base) : FnOk P w N.K mg base CX0 2 T.f_kinds_stated T.d_kinds_stated ["premises"] (spOf N 1 F_kinds_stated) := by
  refine fn_sim (Ns := Nkinds_stated) (ps := ["premises"]) (b := B_kinds_stated) T.F_kinds_stated sckinds_stated fun cdv A outer s H E hr => ?_
  exact sss_cons (ss_own (i := 1) sckinds_stated.nd rfl (Or.inl rfl) (sf_lst (sa_nil)))
      (sss_cons (ss_for PassesOwn.never rfl (si_seq rfl (se_v 0)) (sg_name (i := 2) sckinds_stated.nd rfl (Or.inl rfl)) (sss_one (ss_for PassesOwn.never rfl (si_seq rfl (se_call (ok__stated_by T TB) (hr.mono (by decide)) (by rfl) T.g__stated_by T.F__stated_by.kp T.b__stated_by px0 (sa_cons (se_v 2) (sa_nil)))) (sg_name (i := 3) sckinds_stated.nd rfl (Or.inl rfl)) (sss_one (ss_if (st_notIn (u65 hr) (se_v 3) (sb_v 1)) (sss_one (ss_app (i := 1) (pe_var rfl (by first | exact Or.inl rfl | exact Or.inr (Or.inl rfl) | exact Or.inr (Or.inr rfl)) (by decide) (by decide)) (se_v 3))) (sss_nil))))))
      (sss_one (ss_ret (se_v 1))))
theorem ok__table {N : En} {w : World} {P : Program} {mg : Str → Option Value} {base : Heap} (T : Txt N w mg) (TB : Tabs N T base) : FnOk P w N.K mg base CX0 1 T.f__table T.d__table ["many", "pairs"] (spOf N 2 F__table) := by
  refine fn_sim (Ns := N_table) (ps := ["many", "pairs"]) (b := B__table) T.F__table sc_table fun cdv A outer s H E hr => ?_
  exact sss_one (ss_ret (se_f (sf_lc (own := [("x", 2)]) rfl sc_table.nd (si_rng1 (by rfl) T.n_range (sa_cons (se_v 0) (sa_nil))) (blkOk_by (own := [("x", 2)]) (N := N_table) (sc := defScope s_table) (by decide +kernel)) (fun _ _ _ _ _ => sg_name (i := 2) sc_table.nd rfl (Or.inr rfl)) (fun _ _ _ _ _ => sts_nil) (fun _ _ _ _ _ => se_f (sf_lc (own := [("y", 3)]) rfl sc_table.nd (si_rng1 (by rfl) T.n_range (sa_cons (se_v 0) (sa_nil))) (blkOk_by (own := [("y", 3)]) (by kernel_rfl!)) (fun _ _ _ _ _ => sg_name (i := 3) sc_table.nd rfl (Or.inl rfl)) (fun _ _ _ _ _ => sts_nil) (fun _ _ _ _ _ => se_in (u65 hr) (se_tup (sa_cons (se_v 2) (sa_cons (se_v 3) (sa_nil)))) (sb_v 1)))))))
theorem ok__leads {N : En} {w : World} {P : Program} {mg : Str → Option Value} {base : Heap} (T : Txt N w mg) (TB : Tabs N T base) : FnOk P w N.K mg base CX0 2 T.f__leads T.d__leads ["table", "x", "y"] (spOf N 3 F__leads) := by
  refine fn_simC (Ns := N_leads) (ps := ["table", "x", "y"]) (b := B__leads) T.FC__leads sc_leads fun A outer s H E hr => ?_
  exact sss_one (ss_ret (se_gen (brk := true) (own := [("z", 3)]) T.m__leads rfl hr (by rfl) T.n_any TB.b__leads rfl sc_leads.nd (si_rng1 (by rfl) T.n_range (sa_cons (se_len rfl (by rfl) T.n_len (sb_v 0)) (sa_nil))) (blkOk_by (own := [("z", 3)]) (N := N_leads) (sc := defScope s_leads) (by decide +kernel)) (by decide +kernel) rfl rfl (fun _ _ _ _ _ _ _ => sg_name (i := 3) sc_leads.nd rfl (Or.inl rfl)) (fun _ _ _ _ _ _ _ => se_and (se_at (se_at (se_v 0) (se_v 1)) (se_v 3)) (se_one (se_at (se_at (se_v 0) (se_v 3)) (se_v 2))))))
theorem ok__more_subsets {N : En} {w : World} {P : Program} {mg : Str → Option Value} {base : Heap} (T : Txt N w mg) (TB : Tabs N T base) : FnOk P w N.K mg base CX0 3 T.f__more_subsets T.d__more_subsets ["inside", "enough"] (spOf N 2 F__more_subsets) := by
  refine fn_sim (Ns := N_more_subsets) (ps := ["inside", "enough"]) (b := B__more_subsets) T.F__more_subsets sc_more_subsets fun cdv A outer s H E hr => ?_
  exact sss_cons (ss_set (i := 2) sc_more_subsets.nd rfl (Or.inr rfl) (se_rng1 (by rfl) T.n_range (sa_cons (se_len rfl (by rfl) T.n_len (sb_v 0)) (sa_nil))))
      (sss_one (ss_ret (se_f (sf_lc (own := [("x", 3)]) rfl sc_more_subsets.nd (si_rngV (se_v 2)) (blkOk_by (own := [("x", 3)]) (N := N_more_subsets) (sc := defScope s_more_subsets) (by decide +kernel)) (fun _ _ _ _ _ => sg_name (i := 3) sc_more_subsets.nd rfl (Or.inr rfl)) (fun _ _ _ _ _ => sts_nil) (fun _ _ _ _ _ => se_f (sf_lc (own := [("y", 4)]) rfl sc_more_subsets.nd (si_rngV (se_v 2)) (blkOk_by (own := [("y", 4)]) (by kernel_rfl!)) (fun _ _ _ _ _ => sg_name (i := 4) sc_more_subsets.nd rfl (Or.inl rfl)) (fun _ _ _ _ _ => sts_nil) (fun _ _ _ _ _ => se_or (se_call (ok__leads T TB) (hr.mono (by decide)) (by rfl) T.g__leads T.F__leads.kp T.b__leads px0 (sa_cons (se_v 0) (sa_cons (se_v 3) (sa_cons (se_v 4) (sa_nil))))) (se_one (se_and (se_at (se_at (se_v 0) (se_v 4)) (se_v 3)) (se_one (se_at (se_at (se_v 1) (se_v 4)) (se_v 3))))))))))))
theorem ok__more_at_least {N : En} {w : World} {P : Program} {mg : Str → Option Value} {base : Heap} (T : Txt N w mg) (TB : Tabs N T base) : FnOk P w N.K mg base CX0 3 T.f__more_at_least T.d__more_at_least ["inside", "enough"] (spOf N 2 F__more_at_least) := by
  refine fn_sim (Ns := N_more_at_least) (ps := ["inside", "enough"]) (b := B__more_at_least) T.F__more_at_least sc_more_at_least fun cdv A outer s H E hr => ?_
  exact sss_cons (ss_set (i := 2) sc_more_at_least.nd rfl (Or.inr rfl) (se_rng1 (by rfl) T.n_range (sa_cons (se_len rfl (by rfl) T.n_len (sb_v 0)) (sa_nil))))
      (sss_one (ss_ret (se_f (sf_lc (own := [("x", 3)]) rfl sc_more_at_least.nd (si_rngV (se_v 2)) (blkOk_by (own := [("x", 3)]) (N := N_more_at_least) (sc := defScope s_more_at_least) (by decide +kernel)) (fun _ _ _ _ _ => sg_name (i := 3) sc_more_at_least.nd rfl (Or.inr rfl)) (fun _ _ _ _ _ => sts_nil) (fun _ _ _ _ _ => se_f (sf_lc (own := [("y", 4)]) rfl sc_more_at_least.nd (si_rngV (se_v 2)) (blkOk_by (own := [("y", 4)]) (by kernel_rfl!)) (fun _ _ _ _ _ => sg_name (i := 4) sc_more_at_least.nd rfl (Or.inl rfl)) (fun _ _ _ _ _ => sts_nil) (fun _ _ _ _ _ => se_or (se_at (se_at (se_v 1) (se_v 3)) (se_v 4)) (se_or (se_at (se_at (se_v 0) (se_v 4)) (se_v 3)) (se_one (se_call (ok__leads T TB) (hr.mono (by decide)) (by rfl) T.g__leads T.F__leads.kp T.b__leads px0 (sa_cons (se_v 1) (sa_cons (se_v 3) (sa_cons (se_v 4) (sa_nil))))))))))))))
theorem ok_tables_of {N : En} {w : World} {P : Program} {mg : Str → Option Value} {base : Heap} (T : Txt N w mg) (TB : Tabs N T base) : FnOk P w N.K mg base CX0 4 T.f_tables_of T.d_tables_of ["many", "premises"] (spOf N 2 F_tables_of) := by
  refine fn_sim (Ns := Ntables_of) (ps := ["many", "premises"]) (b := B_tables_of) T.F_tables_of sctables_of fun cdv A outer s H E hr => ?_
  exact sss_cons (ss_ownLc (i := 2) (own := [("x", 8)]) rfl sctables_of.nd rfl rfl (sw_true rfl rfl rfl (by decide +kernel)) (si_rng1 (by rfl) T.n_range (sa_cons (se_v 0) (sa_nil))) (blkOk_by (own := [("x", 8)]) (N := Ntables_of) (sc := defScope stables_of) (by decide +kernel)) (fun _ _ _ _ _ => sg_name (i := 8) sctables_of.nd rfl (Or.inl rfl)) (fun _ _ _ _ _ => sts_nil) (fun _ _ _ _ _ => se_tup (sa_cons (se_v 8) (sa_cons (se_v 8) (sa_nil)))))
      (sss_cons (ss_own (i := 3) sctables_of.nd rfl (Or.inl rfl) (sf_lst (sa_nil)))
      (sss_cons (ss_for PassesOwn.never rfl (si_seq rfl (se_v 1)) (sg_name (i := 4) sctables_of.nd rfl (Or.inl rfl)) (sss_cons (ss_if (st_eq hr.units (se_at (se_v 4) (se_int)) ((se_str 0).sb)) (sss_one (ss_app (i := 2) (pe_var rfl (by first | exact Or.inl rfl | exact Or.inr (Or.inl rfl) | exact Or.inr (Or.inr rfl)) (by decide) (by decide)) (se_sl rfl (se_v 4) (so_ex (se_int)) (so_no)))) (sss_nil))
      (sss_cons (ss_if (st_eq hr.units (se_at (se_v 4) (se_int)) ((se_str 4).sb)) (sss_one (ss_app (i := 3) (pe_var rfl (by first | exact Or.inl rfl | exact Or.inr (Or.inl rfl) | exact Or.inr (Or.inr rfl)) (by decide) (by decide)) (se_sl rfl (se_v 4) (so_ex (se_int)) (so_no)))) (sss_nil))
      (sss_one (ss_if (st_eq hr.units (se_at (se_v 4) (se_int)) ((se_str 5).sb)) (sss_one (ss_app (i := 3) (pe_var rfl (by first | exact Or.inl rfl | exact Or.inr (Or.inl rfl) | exact Or.inr (Or.inr rfl)) (by decide) (by decide)) (se_tup (sa_cons (se_at (se_v 4) (se_int)) (sa_cons (se_at (se_v 4) (se_int)) (sa_nil)))))) (sss_nil))))))
      (sss_cons (ss_par (i := 5) (j := 6) rfl sctables_of.nd rfl rfl (by decide) rfl rfl (sa_cons (se_call (ok__table T TB) (hr.mono (by decide)) (by rfl) T.g__table T.F__table.kp T.b__table px0 (sa_cons (se_v 0) (sa_cons (se_v 2) (sa_nil)))) (sa_cons (se_call (ok__table T TB) (hr.mono (by decide)) (by rfl) T.g__table T.F__table.kp T.b__table px0 (sa_cons (se_v 0) (sa_cons (se_v 3) (sa_nil)))) (sa_nil))) rfl)
      (sss_cons (ss_set (i := 7) sctables_of.nd rfl (Or.inl rfl) (se_non))
      (sss_cons (ss_while 1000 PassesOwn.never (st_ne hr.units (se_v 7) ((se_tup (sa_cons (se_v 5) (sa_cons (se_v 6) (sa_nil)))).sb)) (sss_cons (ss_set (i := 7) sctables_of.nd rfl (Or.inl rfl) (se_tup (sa_cons (se_v 5) (sa_cons (se_v 6) (sa_nil)))))
      (sss_cons (ss_set (i := 5) sctables_of.nd rfl (Or.inl rfl) (se_call (ok__more_subsets T TB) (hr.mono (by decide)) (by rfl) T.g__more_subsets T.F__more_subsets.kp T.b__more_subsets px0 (sa_cons (se_v 5) (sa_cons (se_v 6) (sa_nil)))))
      (sss_one (ss_set (i := 6) sctables_of.nd rfl (Or.inl rfl) (se_call (ok__more_at_least T TB) (hr.mono (by decide)) (by rfl) T.g__more_at_least T.F__more_at_least.kp T.b__more_at_least px0 (sa_cons (se_v 5) (sa_cons (se_v 6) (sa_nil)))))))))
      (sss_one (ss_ret (se_tup (sa_cons (se_v 5) (sa_cons (se_v 6) (sa_nil)))))))))))
theorem ok_nouns_over {N : En} {w : World} {P : Program} {mg : Str → Option Value} {base : Heap} (T : Txt N w mg) (TB : Tabs N T base) : FnOk P w N.K mg base CX0 2 T.f_nouns_over T.d_nouns_over ["inside", "kind"] (spOf N 2 F_nouns_over) := by
  refine fn_sim (Ns := Nnouns_over) (ps := ["inside", "kind"]) (b := B_nouns_over) T.F_nouns_over scnouns_over fun cdv A outer s H E hr => ?_
  exact sss_one (ss_ret (se_tuple rfl (by rfl) T.n_tuple ((se_f (sf_lc (own := [("y", 2)]) rfl scnouns_over.nd (si_rng1 (by rfl) T.n_range (sa_cons (se_len rfl (by rfl) T.n_len (sb_v 0)) (sa_nil))) (blkOk_by (own := [("y", 2)]) (N := Nnouns_over) (sc := defScope snouns_over) (by decide +kernel)) (fun _ _ _ _ _ => sg_name (i := 2) scnouns_over.nd rfl (Or.inr rfl)) (fun _ _ _ _ _ => sts_one (st_tru rfl ((se_any rfl rfl (by rfl) T.n_any ((se_f (sf_lc (own := [("x", 3)]) rfl scnouns_over.nd (si_seq rfl (se_call (ok_nouns_of T TB) (hr.mono (by decide)) (by rfl) T.g_nouns_of T.F_nouns_of.kp T.b_nouns_of px0 (sa_cons (se_v 1) (sa_nil)))) (blkOk_by (own := [("x", 3)]) (by kernel_rfl!)) (fun _ _ _ _ _ => sg_name (i := 3) scnouns_over.nd rfl (Or.inl rfl)) (fun _ _ _ _ _ => sts_nil) (fun _ _ _ _ _ => se_at (se_at (se_v 0) (se_v 3)) (se_v 2)))).sb)).sb))) (fun _ _ _ _ _ => se_v 2))).sb)))
theorem ok__needs {N : En} {w : World} {P : Program} {mg : Str → Option Value} {base : Heap} (T : Txt N w mg) (TB : Tabs N T base) : FnOk P w N.K mg base CX0 1 T.f__needs T.d__needs ["inside", "enough", "premises", "x", "y"] (spOf N 5 F__needs) := by
  refine fn_sim (Ns := N_needs) (ps := ["inside", "enough", "premises", "x", "y"]) (b := B__needs) T.F__needs sc_needs fun cdv A outer s H E hr => ?_
  exact sss_cons (ss_if (sw_pt (sw_or (st_tru rfl ((se_at (se_at (se_v 0) (se_v 3)) (se_v 4)).sb)) (sw_or1 (st_tru rfl ((se_at (se_at (se_v 1) (se_v 4)) (se_v 3)).sb))))) (sss_one (ss_ret (se_bl))) (sss_nil))
      (sss_cons (ss_for PassesOwn.never rfl (si_seq rfl (se_v 2)) (sg_name (i := 5) sc_needs.nd rfl (Or.inl rfl)) (sss_one (ss_if (sw_pt (sw_and (st_eq hr.units (se_sl rfl (se_v 5) (so_no) (so_ex (se_int))) ((se_tup (sa_cons (se_str 6) (sa_cons (se_str 0) (sa_cons (se_v 3) (sa_nil))))).sb)) (sw_and1 (st_eq hr.units (se_sl rfl (se_v 5) (so_ex (se_int)) (so_no)) ((se_tup (sa_cons (se_str 1) (sa_cons (se_v 4) (sa_nil)))).sb))))) (sss_one (ss_ret (se_bl))) (sss_nil))))
      (sss_one (ss_ret (se_bl))))
theorem ok_nouns_needed {N : En} {w : World} {P : Program} {mg : Str → Option Value} {base : Heap} (T : Txt N w mg) (TB : Tabs N T base) : FnOk P w N.K mg base CX0 3 T.f_nouns_needed T.d_nouns_needed ["inside", "enough", "premises"] (spOf N 3 F_nouns_needed) := by
  refine fn_sim (Ns := Nnouns_needed) (ps := ["inside", "enough", "premises"]) (b := B_nouns_needed) T.F_nouns_needed scnouns_needed fun cdv A outer s H E hr => ?_
  exact sss_cons (ss_own (i := 3) scnouns_needed.nd rfl (Or.inr rfl) (sf_lst (sa_nil)))
      (sss_cons (ss_for PassesOwn.never rfl (si_seq rfl (se_call (ok_kinds_stated T TB) (hr.mono (by decide)) (by rfl) T.g_kinds_stated T.F_kinds_stated.kp T.b_kinds_stated px0 (sa_cons (se_v 2) (sa_nil)))) (sg_name (i := 4) scnouns_needed.nd rfl (Or.inl rfl)) (sss_one (ss_ext (i := 3) (pe_var rfl (by first | exact Or.inl rfl | exact Or.inr (Or.inl rfl) | exact Or.inr (Or.inr rfl)) (by decide) (by decide)) (se_f (sf_lc (own := [("x", 8)]) rfl scnouns_needed.nd (si_seq rfl (se_call (ok_nouns_over T TB) (hr.mono (by decide)) (by rfl) T.g_nouns_over T.F_nouns_over.kp T.b_nouns_over px0 (sa_cons (se_v 0) (sa_cons (se_v 4) (sa_nil))))) (blkOk_by (own := [("x", 8)]) (N := Nnouns_needed) (sc := defScope snouns_needed) (by decide +kernel)) (fun _ _ _ _ _ => sg_name (i := 8) scnouns_needed.nd rfl (Or.inl rfl)) (fun _ _ _ _ _ => sts_one (st_notIn (u65 hr) (se_v 8) (sb_v 3))) (fun _ _ _ _ _ => se_v 8))))))
      (sss_cons (ss_set (i := 5) scnouns_needed.nd rfl (Or.inr rfl) (se_int))
      (sss_cons (ss_while 1000 PassesOwn.never (st_lt (se_v 5) ((se_len rfl (by rfl) T.n_len (sb_v 3)).sb)) (sss_cons (ss_setLc (i := 6) (own := [("y", 7)]) rfl scnouns_needed.nd rfl rfl (sw_true rfl rfl rfl (by decide +kernel)) (si_rng1 (by rfl) T.n_range (sa_cons (se_len rfl (by rfl) T.n_len (sb_v 0)) (sa_nil))) (blkOk_by (own := [("y", 7)]) (N := Nnouns_needed) (sc := defScope snouns_needed) (by decide +kernel)) (fun _ _ _ _ _ => sg_name (i := 7) scnouns_needed.nd rfl (Or.inl rfl)) (fun _ _ _ _ _ => sts_one (sw_pt (sw_and (st_notIn (u65 hr) (se_v 7) (sb_v 3)) (sw_and1 (st_tru rfl ((se_call (ok__needs T TB) (hr.mono (by decide)) (by rfl) T.g__needs T.F__needs.kp T.b__needs px0 (sa_cons (se_v 0) (sa_cons (se_v 1) (sa_cons (se_v 2) (sa_cons (se_atL 3 (pe_var rfl (by first | exact Or.inl rfl | exact Or.inr (Or.inl rfl) | exact Or.inr (Or.inr rfl)) (by decide) (by decide)) (se_v 5)) (sa_cons (se_v 7) (sa_nil))))))).sb)))))) (fun _ _ _ _ _ => se_v 7))
      (sss_cons (ss_ext (i := 3) (pe_var rfl (by first | exact Or.inl rfl | exact Or.inr (Or.inl rfl) | exact Or.inr (Or.inr rfl)) (by decide) (by decide)) (se_v 6))
      (sss_one (ss_aug (i := 5) scnouns_needed.nd rfl (Or.inr rfl) (se_int) ip_add sim_addI)))))
      (sss_one (ss_ret (se_tuple rfl (by rfl) T.n_tuple ((se_sorted rfl (by rfl) T.n_sorted (sb_v 3)).sb)))))))
theorem ok__different_pairs {N : En} {w : World} {P : Program} {mg : Str → Option Value} {base : Heap} (T : Txt N w mg) (TB : Tabs N T base) : FnOk P w N.K mg base CX0 1 T.f__different_pairs T.d__different_pairs ["table"] (spOf N 1 F__different_pairs) := by
  refine fn_sim (Ns := N_different_pairs) (ps := ["table"]) (b := B__different_pairs) T.F__different_pairs sc_different_pairs fun cdv A outer s H E hr => ?_
  exact sss_cons (ss_set (i := 1) sc_different_pairs.nd rfl (Or.inr rfl) (se_rng1 (by rfl) T.n_range (sa_cons (se_len rfl (by rfl) T.n_len (sb_v 0)) (sa_nil))))
      (sss_one (ss_ret (se_tuple rfl (by rfl) T.n_tuple ((se_f (sf_lc2 (own := [("x", 2), ("y", 3)]) (vs1 := [3]) rfl sc_different_pairs.nd (sig_rngV (se_v 1)) (blkOk_by (own := [("x", 2), ("y", 3)]) (N := N_different_pairs) (sc := defScope s_different_pairs) (by decide +kernel)) (fun _ _ _ _ _ => sg_name (i := 2) sc_different_pairs.nd rfl (Or.inl rfl)) (fun _ _ _ _ _ => sts_nil) (fun _ _ _ _ _ => se_tup (sa_cons (se_v 2) (sa_cons (se_v 3) (sa_nil)))) (fun _ _ _ _ _ => sig_rngV (se_v 1)) (fun _ _ _ _ _ => sg_name (i := 3) sc_different_pairs.nd rfl (Or.inl rfl)) (fun _ _ _ _ _ => sts_one (sw_pt (sw_and (st_ne hr.units (se_v 2) (sb_v 3)) (sw_and1 (st_tru rfl ((se_at (se_at (se_v 0) (se_v 2)) (se_v 3)).sb)))))))).sb))))
theorem ok_subsets {N : En} {w : World} {P : Program} {mg : Str → Option Value} {base : Heap} (T : Txt N w mg) (TB : Tabs N T base) : FnOk P w N.K mg base CX0 8 T.f_subsets T.d_subsets ["signature", "premises"] (spOf N 2 F_subsets) := by
  refine fn_sim (Ns := Nsubsets) (ps := ["signature", "premises"]) (b := B_subsets) T.F_subsets scsubsets fun cdv A outer s H E hr => ?_
  exact sss_cons (ss_ex (se_call (ok_check_signature T TB) (hr.mono (by decide)) (by rfl) T.g_check_signature T.F_check_signature.kp T.b_check_signature px0 (sa_cons (se_v 0) (sa_nil))))
      (sss_cons (ss_ex (se_call (ok_check_premises T TB) (hr.mono (by decide)) (by rfl) T.g_check_premises T.F_check_premises.kp T.b_check_premises px0 (sa_cons (se_v 0) (sa_cons (se_v 1) (sa_cons (se_str 17) (sa_nil))))))
      (sss_cons (ss_asg (se_call (ok_tables_of T TB) (hr.mono (by decide)) (by rfl) T.g_tables_of T.F_tables_of.kp T.b_tables_of px0 (sa_cons (se_at (se_v 0) (se_int)) (sa_cons (se_v 1) (sa_nil)))) (sg_tup rfl rfl (sgs_cons (sg_name (i := 2) scsubsets.nd rfl (Or.inl rfl)) (sgs_cons (sg_name (i := 3) scsubsets.nd rfl (Or.inl rfl)) (sgs_nil)))))
      (sss_one (ss_ret (se_call (ok__different_pairs T TB) (hr.mono (by decide)) (by rfl) T.g__different_pairs T.F__different_pairs.kp T.b__different_pairs px0 (sa_cons (se_v 2) (sa_nil)))))))
theorem ok_at_least {N : En} {w : World} {P : Program} {mg : Str → Option Value} {base : Heap} (T : Txt N w mg) (TB : Tabs N T base) : FnOk P w N.K mg base CX0 8 T.f_at_least T.d_at_least ["signature", "premises"] (spOf N 2 F_at_least) := by
  refine fn_sim (Ns := Nat_least) (ps := ["signature", "premises"]) (b := B_at_least) T.F_at_least scat_least fun cdv A outer s H E hr => ?_
  exact sss_cons (ss_ex (se_call (ok_check_signature T TB) (hr.mono (by decide)) (by rfl) T.g_check_signature T.F_check_signature.kp T.b_check_signature px0 (sa_cons (se_v 0) (sa_nil))))
      (sss_cons (ss_ex (se_call (ok_check_premises T TB) (hr.mono (by decide)) (by rfl) T.g_check_premises T.F_check_premises.kp T.b_check_premises px0 (sa_cons (se_v 0) (sa_cons (se_v 1) (sa_cons (se_str 17) (sa_nil))))))
      (sss_cons (ss_asg (se_call (ok_tables_of T TB) (hr.mono (by decide)) (by rfl) T.g_tables_of T.F_tables_of.kp T.b_tables_of px0 (sa_cons (se_at (se_v 0) (se_int)) (sa_cons (se_v 1) (sa_nil)))) (sg_tup rfl rfl (sgs_cons (sg_name (i := 2) scat_least.nd rfl (Or.inl rfl)) (sgs_cons (sg_name (i := 3) scat_least.nd rfl (Or.inl rfl)) (sgs_nil)))))
      (sss_one (ss_ret (se_call (ok__different_pairs T TB) (hr.mono (by decide)) (by rfl) T.g__different_pairs T.F__different_pairs.kp T.b__different_pairs px0 (sa_cons (se_v 3) (sa_nil)))))))
theorem ok_nouns_required {N : En} {w : World} {P : Program} {mg : Str → Option Value} {base : Heap} (T : Txt N w mg) (TB : Tabs N T base) : FnOk P w N.K mg base CX0 8 T.f_nouns_required T.d_nouns_required ["signature", "premises"] (spOf N 2 F_nouns_required) := by
  refine fn_sim (Ns := Nnouns_required) (ps := ["signature", "premises"]) (b := B_nouns_required) T.F_nouns_required scnouns_required fun cdv A outer s H E hr => ?_
  exact sss_cons (ss_ex (se_call (ok_check_signature T TB) (hr.mono (by decide)) (by rfl) T.g_check_signature T.F_check_signature.kp T.b_check_signature px0 (sa_cons (se_v 0) (sa_nil))))
      (sss_cons (ss_ex (se_call (ok_check_premises T TB) (hr.mono (by decide)) (by rfl) T.g_check_premises T.F_check_premises.kp T.b_check_premises px0 (sa_cons (se_v 0) (sa_cons (se_v 1) (sa_cons (se_str 17) (sa_nil))))))
      (sss_cons (ss_asg (se_call (ok_tables_of T TB) (hr.mono (by decide)) (by rfl) T.g_tables_of T.F_tables_of.kp T.b_tables_of px0 (sa_cons (se_at (se_v 0) (se_int)) (sa_cons (se_v 1) (sa_nil)))) (sg_tup rfl rfl (sgs_cons (sg_name (i := 2) scnouns_required.nd rfl (Or.inl rfl)) (sgs_cons (sg_name (i := 3) scnouns_required.nd rfl (Or.inl rfl)) (sgs_nil)))))
      (sss_one (ss_ret (se_call (ok_nouns_needed T TB) (hr.mono (by decide)) (by rfl) T.g_nouns_needed T.F_nouns_needed.kp T.b_nouns_needed px0 (sa_cons (se_v 2) (sa_cons (se_v 3) (sa_cons (se_v 1) (sa_nil)))))))))
theorem ok__is_mark_rest {N : En} {w : World} {P : Program} {mg : Str → Option Value} {base : Heap} (T : Txt N w mg) (TB : Tabs N T base) : FnOk P w N.K mg base CX0 3 T.f__is_mark_rest T.d__is_mark_rest ["signature", "rest"] (spOf N 2 F__is_mark_rest) := by
  refine fn_sim (Ns := N_is_mark_rest) (ps := ["signature", "rest"]) (b := B__is_mark_rest) T.F__is_mark_rest sc_is_mark_rest fun cdv A outer s H E hr => ?_
  exact sss_cons (ss_if (st_ne hr.units (se_len rfl (by rfl) T.n_len (sb_v 1)) ((se_int).sb)) (sss_one (ss_ret (se_bl))) (sss_nil))
      (sss_cons (ss_asg (se_v 1) (sg_tup rfl rfl (sgs_cons (sg_name (i := 2) sc_is_mark_rest.nd rfl (Or.inl rfl)) (sgs_cons (sg_name (i := 3) sc_is_mark_rest.nd rfl (Or.inl rfl)) (sgs_cons (sg_name (i := 4) sc_is_mark_rest.nd rfl (Or.inl rfl)) (sgs_cons (sg_name (i := 5) sc_is_mark_rest.nd rfl (Or.inl rfl)) (sgs_nil)))))))
      (sss_one (ss_ret (se_and (se_isi .bool rfl (by rfl) T.n_isinstance (pe_bltn (v := .ty "bool") (by rfl) T.n_bool (by decide +kernel) rfl) (se_v 2)) (se_and (se_call (ok_is_verb T TB) (hr.mono (by decide)) (by rfl) T.g_is_verb T.F_is_verb.kp T.b_is_verb px0 (sa_cons (se_v 0) (sa_cons (se_v 3) (sa_nil)))) (se_and (se_isi .bool rfl (by rfl) T.n_isinstance (pe_bltn (v := .ty "bool") (by rfl) T.n_bool (by decide +kernel) rfl) (se_v 4)) (se_one (se_call (ok_is_noun T TB) (hr.mono (by decide)) (by rfl) T.g_is_noun T.F_is_noun.kp T.b_is_noun px0 (sa_cons (se_v 0) (sa_cons (se_v 5) (sa_nil)))))))))))
theorem ok_has_form_of_kind {N : En} {w : World} {P : Program} {mg : Str → Option Value} {base : Heap} (T : Txt N w mg) (TB : Tabs N T base) : FnOk P w N.K mg base CX0 4 T.f_has_form_of_kind T.d_has_form_of_kind ["signature", "value"] (spOf N 2 F_has_form_of_kind) := by
  refine fn_sim (Ns := Nhas_form_of_kind) (ps := ["signature", "value"]) (b := B_has_form_of_kind) T.F_has_form_of_kind schas_form_of_kind fun cdv A outer s H E hr => ?_
  exact sss_cons (ss_if (sw_pt (sw_or (st_not (st_tru rfl ((se_isi .tuple rfl (by rfl) T.n_isinstance (pe_bltn (v := .ty "tuple") (by rfl) T.n_tuple (by decide +kernel) rfl) (se_v 1)).sb))) (sw_or (st_lt (se_len rfl (by rfl) T.n_len (sb_v 1)) ((se_int).sb)) (sw_or1 (st_not (st_tru rfl ((se_call (ok_is_noun T TB) (hr.mono (by decide)) (by rfl) T.g_is_noun T.F_is_noun.kp T.b_is_noun px0 (sa_cons (se_v 0) (sa_cons (se_at (se_v 1) (se_int)) (sa_nil)))).sb))))))) (sss_one (ss_ret (se_bl))) (sss_nil))
      (sss_cons (ss_par (i := 2) (j := 3) rfl schas_form_of_kind.nd rfl rfl (by decide) rfl rfl (sa_cons (se_at (se_v 1) (se_int)) (sa_cons (se_sl rfl (se_v 1) (so_ex (se_int)) (so_no)) (sa_nil))) rfl)
      (sss_cons (ss_if (st_eq hr.units (se_v 2) ((se_str 8).sb)) (sss_one (ss_ret (se_eq hr.units (se_len rfl (by rfl) T.n_len (sb_v 3)) ((se_int).sb)))) (sss_nil))
      (sss_cons (ss_if (st_eq hr.units (se_v 2) ((se_str 9).sb)) (sss_one (ss_ret (se_and (se_eq hr.units (se_len rfl (by rfl) T.n_len (sb_v 3)) ((se_int).sb)) (se_and (se_call (ok_is_noun T TB) (hr.mono (by decide)) (by rfl) T.g_is_noun T.F_is_noun.kp T.b_is_noun px0 (sa_cons (se_v 0) (sa_cons (se_at (se_v 3) (se_int)) (sa_nil)))) (se_one (se_lt (se_at (se_v 1) (se_int)) ((se_at (se_v 3) (se_int)).sb))))))) (sss_nil))
      (sss_cons (ss_if (st_eq hr.units (se_v 2) ((se_str 10).sb)) (sss_one (ss_ret (se_call (ok__is_mark_rest T TB) (hr.mono (by decide)) (by rfl) T.g__is_mark_rest T.F__is_mark_rest.kp T.b__is_mark_rest px0 (sa_cons (se_v 0) (sa_cons (se_v 3) (sa_nil)))))) (sss_nil))
      (sss_one (ss_ret (se_and (se_eq hr.units (se_v 2) ((se_str 7).sb)) (se_and (se_eq hr.units (se_len rfl (by rfl) T.n_len (sb_v 3)) ((se_int).sb)) (se_and (se_isi .bool rfl (by rfl) T.n_isinstance (pe_bltn (v := .ty "bool") (by rfl) T.n_bool (by decide +kernel) rfl) (se_at (se_v 3) (se_int))) (se_one (se_call (ok_is_verb T TB) (hr.mono (by decide)) (by rfl) T.g_is_verb T.F_is_verb.kp T.b_is_verb px0 (sa_cons (se_v 0) (sa_cons (se_at (se_v 3) (se_int)) (sa_nil))))))))))))))
theorem ok__check_kind {N : En} {w : World} {P : Program} {mg : Str → Option Value} {base : Heap} (T : Txt N w mg) (TB : Tabs N T base) : FnOk P w N.K mg base CX0 5 T.f__check_kind T.d__check_kind ["signature", "kind", "name"] (spOf N 3 F__check_kind) := by
  refine fn_sim (Ns := N_check_kind) (ps := ["signature", "kind", "name"]) (b := B__check_kind) T.F__check_kind sc_check_kind fun cdv A outer s H E hr => ?_
  exact sss_one (ss_if (st_not (st_tru rfl ((se_call (ok_has_form_of_kind T TB) (hr.mono (by decide)) (by rfl) T.g_has_form_of_kind T.F_has_form_of_kind.kp T.b_has_form_of_kind px0 (sa_cons (se_v 0) (sa_cons (se_v 1) (sa_nil)))).sb))) (sss_one (ss_never)) (sss_nil))
theorem ok__check_verb {N : En} {w : World} {P : Program} {mg : Str → Option Value} {base : Heap} (T : Txt N w mg) (TB : Tabs N T base) : FnOk P w N.K mg base CX0 3 T.f__check_verb T.d__check_verb ["signature", "verb"] (spOf N 2 F__check_verb) := by
  refine fn_sim (Ns := N_check_verb) (ps := ["signature", "verb"]) (b := B__check_verb) T.F__check_verb sc_check_verb fun cdv A outer s H E hr => ?_
  exact sss_one (ss_if (st_not (st_tru rfl ((se_call (ok_is_verb T TB) (hr.mono (by decide)) (by rfl) T.g_is_verb T.F_is_verb.kp T.b_is_verb px0 (sa_cons (se_v 0) (sa_cons (se_v 1) (sa_nil)))).sb))) (sss_one (ss_never)) (sss_nil))
theorem ok_kinds_needed {N : En} {w : World} {P : Program} {mg : Str → Option Value} {base : Heap} (T : Txt N w mg) (TB : Tabs N T base) : FnOk P w N.K mg base CX0 4 T.f_kinds_needed T.d_kinds_needed ["inside", "enough", "premises"] (spOf N 3 F_kinds_needed) := by
  refine fn_sim (Ns := Nkinds_needed) (ps := ["inside", "enough", "premises"]) (b := B_kinds_needed) T.F_kinds_needed sckinds_needed fun cdv A outer s H E hr => ?_
  exact sss_cons (ss_setLc (i := 3) (own := [("x", 5)]) rfl sckinds_needed.nd rfl rfl (sw_true rfl rfl rfl (by decide +kernel)) (si_seq rfl (se_call (ok_nouns_needed T TB) (hr.mono (by decide)) (by rfl) T.g_nouns_needed T.F_nouns_needed.kp T.b_nouns_needed px0 (sa_cons (se_v 0) (sa_cons (se_v 1) (sa_cons (se_v 2) (sa_nil)))))) (blkOk_by (own := [("x", 5)]) (N := Nkinds_needed) (sc := defScope skinds_needed) (by decide +kernel)) (fun _ _ _ _ _ => sg_name (i := 5) sckinds_needed.nd rfl (Or.inl rfl)) (fun _ _ _ _ _ => sts_nil) (fun _ _ _ _ _ => se_tup (sa_cons (se_str 8) (sa_cons (se_v 5) (sa_nil)))))
      (sss_cons (ss_setLc (i := 4) (own := [("kind", 6)]) rfl sckinds_needed.nd rfl rfl (sw_true rfl rfl rfl (by decide +kernel)) (si_seq rfl (se_call (ok_kinds_stated T TB) (hr.mono (by decide)) (by rfl) T.g_kinds_stated T.F_kinds_stated.kp T.b_kinds_stated px0 (sa_cons (se_v 2) (sa_nil)))) (blkOk_by (own := [("kind", 6)]) (N := Nkinds_needed) (sc := defScope skinds_needed) (by decide +kernel)) (fun _ _ _ _ _ => sg_name (i := 6) sckinds_needed.nd rfl (Or.inl rfl)) (fun _ _ _ _ _ => sts_one (st_ne hr.units (se_at (se_v 6) (se_int)) ((se_str 8).sb))) (fun _ _ _ _ _ => se_v 6))
      (sss_one (ss_ret (se_tuple rfl (by rfl) T.n_tuple ((se_add (se_v 3) (sb_v 4)).sb)))))
theorem ok__word {N : En} {w : World} {P : Program} {mg : Str → Option Value} {base : Heap} (T : Txt N w mg) (TB : Tabs N T base) : FnOk P w N.K mg base CX0 1 T.f__word T.d__word ["yes", "no"] (spOf N 2 F__word) := by
  refine fn_sim (Ns := N_word) (ps := ["yes", "no"]) (b := B__word) T.F__word sc_word fun cdv A outer s H E hr => ?_
  exact sss_cons (ss_if (st_tru rfl (sb_v 0)) (sss_one (ss_ret (se_if (st_tru rfl (sb_v 1)) (se_str 9) (se_str 14)))) (sss_nil))
      (sss_one (ss_ret (se_if (st_tru rfl (sb_v 1)) (se_str 3) (se_str 15))))
theorem ok_kinds_required {N : En} {w : World} {P : Program} {mg : Str → Option Value} {base : Heap} (T : Txt N w mg) (TB : Tabs N T base) : FnOk P w N.K mg base CX0 8 T.f_kinds_required T.d_kinds_required ["signature", "premises"] (spOf N 2 F_kinds_required) := by
  refine fn_sim (Ns := Nkinds_required) (ps := ["signature", "premises"]) (b := B_kinds_required) T.F_kinds_required sckinds_required fun cdv A outer s H E hr => ?_
  exact sss_cons (ss_ex (se_call (ok_check_signature T TB) (hr.mono (by decide)) (by rfl) T.g_check_signature T.F_check_signature.kp T.b_check_signature px0 (sa_cons (se_v 0) (sa_nil))))
      (sss_cons (ss_ex (se_call (ok_check_premises T TB) (hr.mono (by decide)) (by rfl) T.g_check_premises T.F_check_premises.kp T.b_check_premises px0 (sa_cons (se_v 0) (sa_cons (se_v 1) (sa_cons (se_str 17) (sa_nil))))))
      (sss_cons (ss_asg (se_call (ok_tables_of T TB) (hr.mono (by decide)) (by rfl) T.g_tables_of T.F_tables_of.kp T.b_tables_of px0 (sa_cons (se_at (se_v 0) (se_int)) (sa_cons (se_v 1) (sa_nil)))) (sg_tup rfl rfl (sgs_cons (sg_name (i := 2) sckinds_required.nd rfl (Or.inl rfl)) (sgs_cons (sg_name (i := 3) sckinds_required.nd rfl (Or.inl rfl)) (sgs_nil)))))
      (sss_one (ss_ret (se_call (ok_kinds_needed T TB) (hr.mono (by decide)) (by rfl) T.g_kinds_needed T.F_kinds_needed.kp T.b_kinds_needed px0 (sa_cons (se_v 2) (sa_cons (se_v 3) (sa_cons (se_v 1) (sa_nil)))))))))
theorem okr_Forcing___init__ {N : En} {w : World} {P : Program} {mg : Str → Option Value} {base : Heap} (T : Txt N w mg) (TB : Tabs N T base) : FnOk P w N.K mg base CX0 1 T.f_Forcing___init__ T.d_Forcing___init__ ["self", "inside", "premises"] (spOf N 3 Fr_Forcing___init__) := by
  refine fn_sim (Ns := NForcing___init__) (ps := ["self", "inside", "premises"]) (b := B_Forcing___init__) T.F_Forcing___init__ scForcing___init__ fun cdv A outer s H E hr => ?_
  exact sss_cons (ss_fld (c0 := 0) (f := 0) rfl T.fa_Forcing_inside (se_v 0) (se_v 1))
      (sss_cons (ss_fld (c0 := 0) (f := 1) rfl T.fa_Forcing_pairs (se_v 0) (se_newX T.hw))
      (sss_cons (ss_fld (c0 := 0) (f := 2) rfl T.fa_Forcing_singles (se_v 0) (se_newX T.hw))
      (sss_cons (ss_fld (c0 := 0) (f := 3) rfl T.fa_Forcing_found (se_v 0) (se_newX T.hw))
      (sss_one (ss_for PassesOwn.never rfl (si_seq rfl (se_v 2)) (sg_name (i := 3) scForcing___init__.nd rfl (Or.inl rfl)) (sss_cons (ss_if (sw_pt (sw_and (st_eq hr.units (se_sl rfl (se_v 3) (so_no) (so_ex (se_int))) ((se_tup (sa_cons (se_str 6) (sa_cons (se_str 0) (sa_nil)))).sb)) (sw_and1 (st_eq hr.units (se_at (se_v 3) (se_int)) ((se_str 0).sb))))) (sss_cons (ss_asg (se_v 3) (sg_tup rfl rfl (sgs_cons (sg_name (i := 4) scForcing___init__.nd rfl (Or.inl rfl)) (sgs_cons (sg_name (i := 4) scForcing___init__.nd rfl (Or.inl rfl)) (sgs_cons (sg_name (i := 5) scForcing___init__.nd rfl (Or.inl rfl)) (sgs_cons (sg_name (i := 6) scForcing___init__.nd rfl (Or.inl rfl)) (sgs_cons (sg_name (i := 7) scForcing___init__.nd rfl (Or.inl rfl)) (sgs_cons (sg_name (i := 8) scForcing___init__.nd rfl (Or.inl rfl)) (sgs_cons (sg_name (i := 4) scForcing___init__.nd rfl (Or.inl rfl)) (sgs_cons (sg_name (i := 9) scForcing___init__.nd rfl (Or.inl rfl)) (sgs_nil)))))))))))
      (sss_one (ss_appC (se_sdfX rfl T.hw (Nat.lt_of_succ_lt (u65 hr)) (se_fld (c0 := 0) (f := 1) rfl T.fa_Forcing_pairs (se_v 0)) (se_tup (sa_cons (se_v 6) (sa_cons (se_v 7) (sa_nil)))) (se_new (sf_lst (sa_nil))) ⟨rfl, rfl, rfl, rfl⟩) (se_if (st_tru rfl (sb_v 8)) (se_tup (sa_cons (se_v 9) (sa_cons (se_v 5) (sa_nil)))) (se_tup (sa_cons (se_v 5) (sa_cons (se_v 9) (sa_nil)))))))) (sss_nil))
      (sss_one (ss_if (st_eq hr.units (se_sl rfl (se_v 3) (so_no) (so_ex (se_int))) ((se_tup (sa_cons (se_str 7) (sa_cons (se_str 0) (sa_nil)))).sb)) (sss_cons (ss_asg (se_v 3) (sg_tup rfl rfl (sgs_cons (sg_name (i := 4) scForcing___init__.nd rfl (Or.inl rfl)) (sgs_cons (sg_name (i := 4) scForcing___init__.nd rfl (Or.inl rfl)) (sgs_cons (sg_name (i := 5) scForcing___init__.nd rfl (Or.inl rfl)) (sgs_cons (sg_name (i := 6) scForcing___init__.nd rfl (Or.inl rfl)) (sgs_cons (sg_name (i := 7) scForcing___init__.nd rfl (Or.inl rfl)) (sgs_nil))))))))
      (sss_one (ss_appC (se_sdfX rfl T.hw (Nat.lt_of_succ_lt (u65 hr)) (se_fld (c0 := 0) (f := 2) rfl T.fa_Forcing_singles (se_v 0)) (se_tup (sa_cons (se_v 6) (sa_cons (se_v 7) (sa_nil)))) (se_new (sf_lst (sa_nil))) ⟨rfl, rfl, rfl, rfl⟩) (se_v 5)))) (sss_nil)))))))))
theorem ok_Forcing___init__ {N : En} {w : World} {P : Program} {mg : Str → Option Value} {base : Heap} (T : Txt N w mg) (TB : Tabs N T base) : FnOk P w N.K mg base CX0 1 T.f_Forcing___init__ T.d_Forcing___init__ ["self", "inside", "premises"] (spOf N 3 F_Forcing___init__) := fn_pub (okr_Forcing___init__ T TB)
theorem okr_Forcing_nouns_above {N : En} {w : World} {P : Program} {mg : Str → Option Value} {base : Heap} (T : Txt N w mg) (TB : Tabs N T base) : FnOk P w N.K mg base CX0 3 T.f_Forcing_nouns_above T.d_Forcing_nouns_above ["self", "kind"] (spOf N 2 Fr_Forcing_nouns_above) := by
  refine fn_sim (Ns := NForcing_nouns_above) (ps := ["self", "kind"]) (b := B_Forcing_nouns_above) T.F_Forcing_nouns_above scForcing_nouns_above fun cdv A outer s H E hr => ?_
  exact sss_cons (ss_if (st_notX rfl T.hw (Nat.lt_of_succ_lt (u65 hr)) (se_v 1) (se_fld (c0 := 0) (f := 3) rfl T.fa_Forcing_found (se_v 0))) (sss_one (ss_putX rfl T.hw (Nat.lt_of_succ_lt (u65 hr)) (se_fld (c0 := 0) (f := 3) rfl T.fa_Forcing_found (se_v 0)) (se_v 1) (se_call (ok_nouns_over T TB) (hr.mono (by decide)) (by rfl) T.g_nouns_over T.F_nouns_over.kp T.b_nouns_over px0 (sa_cons (se_fld (c0 := 0) (f := 0) rfl T.fa_Forcing_inside (se_v 0)) (sa_cons (se_v 1) (sa_nil)))))) (sss_nil))
      (sss_one (ss_ret (se_getX rfl T.hw (Nat.lt_of_succ_lt (u65 hr)) (se_fld (c0 := 0) (f := 3) rfl T.fa_Forcing_found (se_v 0)) (se_v 1))))
theorem ok_Forcing_nouns_above {N : En} {w : World} {P : Program} {mg : Str → Option Value} {base : Heap} (T : Txt N w mg) (TB : Tabs N T base) : FnOk P w N.K mg base CX0 3 T.f_Forcing_nouns_above T.d_Forcing_nouns_above ["self", "kind"] (spOf N 2 F_Forcing_nouns_above) := fn_memo (okr_Forcing_nouns_above T TB) memo_eq
theorem ok_Forcing_is_between {N : En} {w : World} {P : Program} {mg : Str → Option Value} {base : Heap} (T : Txt N w mg) (TB : Tabs N T base) : FnOk P w N.K mg base CX0 5 T.f_Forcing_is_between T.d_Forcing_is_between ["self", "does", "verb", "first", "second"] (spOf N 5 F_Forcing_is_between) := by
  refine fn_simC (Ns := NForcing_is_between) (ps := ["self", "does", "verb", "first", "second"]) (b := B_Forcing_is_between) T.FC_Forcing_is_between scForcing_is_between fun A outer s H E hr => ?_
  exact sss_cons (ss_asg (se_tup (sa_cons (se_meth (c0 := 0) rfl T.at_Forcing (se_v 0) T.cl_Forcing T.me_Forcing_nouns_above (ok_Forcing_nouns_above T TB) (hr.mono (by decide)) T.b_Forcing_nouns_above (sa_cons (se_v 3) (sa_nil))) (sa_cons (se_meth (c0 := 0) rfl T.at_Forcing (se_v 0) T.cl_Forcing T.me_Forcing_nouns_above (ok_Forcing_nouns_above T TB) (hr.mono (by decide)) T.b_Forcing_nouns_above (sa_cons (se_v 4) (sa_nil))) (sa_nil)))) (sg_tup rfl rfl (sgs_cons (sg_name (i := 5) scForcing_is_between.nd rfl (Or.inr rfl)) (sgs_cons (sg_name (i := 6) scForcing_is_between.nd rfl (Or.inr rfl)) (sgs_nil)))))
      (sss_cons (ss_if (sw_pt (sw_and (st_eq hr.units (se_at (se_v 3) (se_int)) ((se_str 10).sb)) (sw_and (st_eq hr.units (se_sl rfl (se_v 3) (so_ex (se_int)) (so_ex (se_int))) ((se_tup (sa_cons (se_v 1) (sa_cons (se_v 2) (sa_cons (se_bl) (sa_nil))))).sb)) (sw_and1 (st_in (u65 hr) (se_at (se_v 3) (se_int)) (sb_v 6)))))) (sss_one (ss_ret (se_bl))) (sss_nil))
      (sss_cons (ss_if (sw_pt (sw_and (st_eq hr.units (se_at (se_v 4) (se_int)) ((se_str 10).sb)) (sw_and (st_eq hr.units (se_sl rfl (se_v 4) (so_ex (se_int)) (so_ex (se_int))) ((se_tup (sa_cons (se_v 1) (sa_cons (se_v 2) (sa_cons (se_bl) (sa_nil))))).sb)) (sw_and1 (st_in (u65 hr) (se_at (se_v 4) (se_int)) (sb_v 5)))))) (sss_one (ss_ret (se_bl))) (sss_nil))
      (sss_one (ss_ret (se_gen (brk := true) (own := [("x", 7), ("y", 8)]) T.m_Forcing_is_between rfl hr (by rfl) T.n_any TB.b_Forcing_is_between rfl scForcing_is_between.nd (si_seq rfl (se_gorX rfl T.hw (Nat.lt_of_succ_lt (u65 hr)) (se_fld (c0 := 0) (f := 1) rfl T.fa_Forcing_pairs (se_v 0)) (se_tup (sa_cons (se_v 1) (sa_cons (se_v 2) (sa_nil)))) (se_f (sf_lst (sa_nil))) ⟨rfl, rfl, rfl, rfl⟩)) (blkOk_by (own := [("x", 7), ("y", 8)]) (N := NForcing_is_between) (sc := defScope sForcing_is_between) (by decide +kernel)) (by decide +kernel) rfl rfl (fun _ _ _ _ _ _ _ => sg_tup rfl rfl (sgs_cons (sg_name (i := 7) scForcing_is_between.nd rfl (Or.inl rfl)) (sgs_cons (sg_name (i := 8) scForcing_is_between.nd rfl (Or.inl rfl)) (sgs_nil)))) (fun _ _ _ _ _ _ _ => se_and (se_in (u65 (GXX.room_gen (k := 0) (hr.mono (by decide)))) (se_v 7) (sb_v 5)) (se_one (se_in (u65 (GXX.room_gen (k := 0) (hr.mono (by decide)))) (se_v 8) (sb_v 6)))))))))
theorem okr_forced_between {N : En} {w : World} {P : Program} {mg : Str → Option Value} {base : Heap} (T : Txt N w mg) (TB : Tabs N T base) : FnOk P w N.K mg base CX0 8 T.f_forced_between T.d_forced_between ["signature", "premises", "verb", "first", "second"] (spOf N 5 Fr_forced_between) := by
  refine fn_sim (Ns := Nforced_between) (ps := ["signature", "premises", "verb", "first", "second"]) (b := B_forced_between) T.F_forced_between scforced_between fun cdv A outer s H E hr => ?_
  exact sss_cons (ss_ex (se_call (ok_check_signature T TB) (hr.mono (by decide)) (by rfl) T.g_check_signature T.F_check_signature.kp T.b_check_signature px0 (sa_cons (se_v 0) (sa_nil))))
      (sss_cons (ss_ex (se_call (ok_check_premises T TB) (hr.mono (by decide)) (by rfl) T.g_check_premises T.F_check_premises.kp T.b_check_premises px0 (sa_cons (se_v 0) (sa_cons (se_v 1) (sa_cons (se_str 17) (sa_nil))))))
      (sss_cons (ss_ex (se_call (ok__check_verb T TB) (hr.mono (by decide)) (by rfl) T.g__check_verb T.F__check_verb.kp T.b__check_verb px0 (sa_cons (se_v 0) (sa_cons (se_v 2) (sa_nil)))))
      (sss_cons (ss_ex (se_call (ok__check_kind T TB) (hr.mono (by decide)) (by rfl) T.g__check_kind T.F__check_kind.kp T.b__check_kind px0 (sa_cons (se_v 0) (sa_cons (se_v 3) (sa_cons (se_str 19) (sa_nil))))))
      (sss_cons (ss_ex (se_call (ok__check_kind T TB) (hr.mono (by decide)) (by rfl) T.g__check_kind T.F__check_kind.kp T.b__check_kind px0 (sa_cons (se_v 0) (sa_cons (se_v 4) (sa_cons (se_str 20) (sa_nil))))))
      (sss_cons (ss_asg (se_call (ok_tables_of T TB) (hr.mono (by decide)) (by rfl) T.g_tables_of T.F_tables_of.kp T.b_tables_of px0 (sa_cons (se_at (se_v 0) (se_int)) (sa_cons (se_v 1) (sa_nil)))) (sg_tup rfl rfl (sgs_cons (sg_name (i := 5) scforced_between.nd rfl (Or.inl rfl)) (sgs_cons (sg_name (i := 6) scforced_between.nd rfl (Or.inl rfl)) (sgs_nil)))))
      (sss_cons (ss_set (i := 7) scforced_between.nd rfl (Or.inl rfl) (se_make T.at_Forcing T.mk_Forcing (ok_Forcing___init__ T TB) (hr.mono (by decide)) (by rfl) T.gC_Forcing T.b_Forcing___init__ (sa_cons (se_v 5) (sa_cons (se_v 1) (sa_nil)))))
      (sss_cons (ss_set (i := 8) scforced_between.nd rfl (Or.inl rfl) (se_meth (c0 := 0) rfl T.at_Forcing (se_v 7) T.cl_Forcing T.me_Forcing_is_between (ok_Forcing_is_between T TB) (hr.mono (by decide)) T.b_Forcing_is_between (sa_cons (se_bl) (sa_cons (se_v 2) (sa_cons (se_v 3) (sa_cons (se_v 4) (sa_nil)))))))
      (sss_one (ss_ret (se_call (ok__word T TB) (hr.mono (by decide)) (by rfl) T.g__word T.F__word.kp T.b__word px0 (sa_cons (se_v 8) (sa_cons (se_meth (c0 := 0) rfl T.at_Forcing (se_v 7) T.cl_Forcing T.me_Forcing_is_between (ok_Forcing_is_between T TB) (hr.mono (by decide)) T.b_Forcing_is_between (sa_cons (se_bl) (sa_cons (se_v 2) (sa_cons (se_v 3) (sa_cons (se_v 4) (sa_nil)))))) (sa_nil)))))))))))))
theorem ok_forced_between {N : En} {w : World} {P : Program} {mg : Str → Option Value} {base : Heap} (T : Txt N w mg) (TB : Tabs N T base) : FnOk P w N.K mg base CX0 8 T.f_forced_between T.d_forced_between ["signature", "premises", "verb", "first", "second"] (spOf N 5 F_forced_between) := fn_drpB (okr_forced_between T TB)
theorem ok__law_stream {N : En} {w : World} {P : Program} {mg : Str → Option Value} {base : Heap} (T : Txt N w mg) (TB : Tabs N T base) : FnOk P w N.K mg base CX0 1 T.f__law_stream T.d__law_stream ["script"] (spOf N 1 F__law_stream) := by
  refine fn_sim (Ns := N_law_stream) (ps := ["script"]) (b := B__law_stream) T.F__law_stream sc_law_stream fun cdv A outer s H E hr => ?_
  exact sss_one (ss_ret (se_new (sf_lst (sa_cons (se_f (sf_list rfl (by rfl) T.n_list (sb_v 0))) (sa_cons (se_int) (sa_cons (se_int) (sa_nil)))))))
theorem ok__law_next {N : En} {w : World} {P : Program} {mg : Str → Option Value} {base : Heap} (T : Txt N w mg) (TB : Tabs N T base) : FnOk P w N.K mg base CX0 1 T.f__law_next T.d__law_next ["stream", "many"] (spOf N 2 F__law_next) := by
  refine fn_sim (Ns := N_law_next) (ps := ["stream", "many"]) (b := B__law_next) T.F__law_next sc_law_next fun cdv A outer s H E hr => ?_
  exact sss_cons (ss_if (st_eq hr.units (se_ixC rfl (se_v 0) (se_int) (fun _ _ => rfl)) ((se_int).sb)) (sss_cons (ss_set (i := 2) sc_law_next.nd rfl (Or.inl rfl) (se_ixC rfl (se_v 0) (se_int) (fun _ _ => rfl)))
      (sss_cons (ss_set (i := 3) sc_law_next.nd rfl (Or.inl rfl) (se_add (se_int) (sb_v 2)))
      (sss_cons (ss_if (st_lt (se_v 2) ((se_len rfl (by rfl) T.n_len ((se_ixC rfl (se_v 0) (se_int) (fun _ _ => rfl)).sb)).sb)) (sss_one (ss_set (i := 3) sc_law_next.nd rfl (Or.inl rfl) (se_abs (by rfl) T.n_abs ((se_at (se_ixC rfl (se_v 0) (se_int) (fun _ _ => rfl)) (se_v 2)).sb)))) (sss_nil))
      (sss_cons (ss_if (st_lt (se_v 3) ((se_pow (se_int) ((se_int).sb)).sb)) (sss_cons (ss_set (i := 3) sc_law_next.nd rfl (Or.inl rfl) (se_mod (se_int1 (by rfl) T.n_int ((se_add (se_add (se_mul (se_v 3) ((se_int).sb)) ((se_mul (se_v 2) ((se_int).sb)).sb)) ((se_int).sb)).sb)) ((se_int).sb)))
      (sss_one (ss_set (i := 3) sc_law_next.nd rfl (Or.inl rfl) (se_add (se_mul (se_mod (se_int1 (by rfl) T.n_int ((se_add (se_mul (se_v 3) ((se_int).sb)) ((se_int).sb)).sb)) ((se_int).sb)) ((se_int).sb)) (sb_v 3))))) (sss_nil))
      (sss_cons (ss_setC rfl (se_v 0) (se_int) (se_v 3))
      (sss_one (ss_setC rfl (se_v 0) (se_int) (se_add (se_v 2) ((se_int).sb))))))))) (sss_nil))
      (sss_cons (ss_set (i := 4) sc_law_next.nd rfl (Or.inl rfl) (se_mod (se_int1 (by rfl) T.n_int ((se_ixC rfl (se_v 0) (se_int) (fun _ _ => rfl)).sb)) (sb_v 1)))
      (sss_cons (ss_setC rfl (se_v 0) (se_int) (se_fdiv (se_ixC rfl (se_v 0) (se_int) (fun _ _ => rfl)) (sb_v 1)))
      (sss_one (ss_ret (se_v 4)))))
theorem ok__law_sentence {N : En} {w : World} {P : Program} {mg : Str → Option Value} {base : Heap} (T : Txt N w mg) (TB : Tabs N T base) : FnOk P w N.K mg base CX0 2 T.f__law_sentence T.d__law_sentence ["stream", "nouns", "verbs"] (spOf N 3 F__law_sentence) := by
  refine fn_sim (Ns := N_law_sentence) (ps := ["stream", "nouns", "verbs"]) (b := B__law_sentence) T.F__law_sentence sc_law_sentence fun cdv A outer s H E hr => ?_
  exact sss_cons (ss_set (i := 3) sc_law_sentence.nd rfl (Or.inl rfl) (se_call (ok__law_next T TB) (hr.mono (by decide)) (by rfl) T.g__law_next T.F__law_next.kp T.b__law_next px0 (sa_cons (se_v 0) (sa_cons (se_v 1) (sa_nil)))))
      (sss_cons (ss_set (i := 4) sc_law_sentence.nd rfl (Or.inl rfl) (se_call (ok__law_next T TB) (hr.mono (by decide)) (by rfl) T.g__law_next T.F__law_next.kp T.b__law_next px0 (sa_cons (se_v 0) (sa_cons (se_v 1) (sa_nil)))))
      (sss_cons (ss_set (i := 5) sc_law_sentence.nd rfl (Or.inl rfl) (se_call (ok__law_next T TB) (hr.mono (by decide)) (by rfl) T.g__law_next T.F__law_next.kp T.b__law_next px0 (sa_cons (se_v 0) (sa_cons (se_int) (sa_nil)))))
      (sss_cons (ss_if (sw_pt (sw_or (st_lt (se_v 5) ((se_int).sb)) (sw_or1 (st_eq hr.units (se_v 2) ((se_int).sb))))) (sss_one (ss_ret (se_tup (sa_cons (se_at (se_f (sf_lst (sa_cons (se_str 0) (sa_cons (se_str 2) (sa_cons (se_str 3) (sa_cons (se_str 1) (sa_cons (se_str 4) (sa_cons (se_str 5) (sa_nil))))))))) (se_mod (se_int1 (by rfl) T.n_int (sb_v 5)) ((se_int).sb))) (sa_cons (se_v 3) (sa_cons (se_v 4) (sa_nil))))))) (sss_nil))
      (sss_cons (ss_set (i := 6) sc_law_sentence.nd rfl (Or.inl rfl) (se_f (sf_lst (sa_cons (se_str 0) (sa_cons (se_str 1) (sa_nil))))))
      (sss_cons (ss_set (i := 7) sc_law_sentence.nd rfl (Or.inl rfl) (se_at (se_v 6) (se_call (ok__law_next T TB) (hr.mono (by decide)) (by rfl) T.g__law_next T.F__law_next.kp T.b__law_next px0 (sa_cons (se_v 0) (sa_cons (se_int) (sa_nil))))))
      (sss_cons (ss_set (i := 8) sc_law_sentence.nd rfl (Or.inl rfl) (se_eq hr.units (se_call (ok__law_next T TB) (hr.mono (by decide)) (by rfl) T.g__law_next T.F__law_next.kp T.b__law_next px0 (sa_cons (se_v 0) (sa_cons (se_int) (sa_nil)))) ((se_int).sb)))
      (sss_cons (ss_set (i := 9) sc_law_sentence.nd rfl (Or.inl rfl) (se_call (ok__law_next T TB) (hr.mono (by decide)) (by rfl) T.g__law_next T.F__law_next.kp T.b__law_next px0 (sa_cons (se_v 0) (sa_cons (se_v 2) (sa_nil)))))
      (sss_cons (ss_if (st_eq hr.units (se_v 5) ((se_int).sb)) (sss_one (ss_ret (se_tup (sa_cons (se_str 7) (sa_cons (se_v 7) (sa_cons (se_v 3) (sa_cons (se_v 8) (sa_cons (se_v 9) (sa_nil))))))))) (sss_nil))
      (sss_one (ss_ret (se_tup (sa_cons (se_str 6) (sa_cons (se_v 7) (sa_cons (se_v 3) (sa_cons (se_v 8) (sa_cons (se_v 9) (sa_cons (se_eq hr.units (se_call (ok__law_next T TB) (hr.mono (by decide)) (by rfl) T.g__law_next T.F__law_next.kp T.b__law_next px0 (sa_cons (se_v 0) (sa_cons (se_int) (sa_nil)))) ((se_int).sb)) (sa_cons (se_at (se_v 6) (se_call (ok__law_next T TB) (hr.mono (by decide)) (by rfl) T.g__law_next T.F__law_next.kp T.b__law_next px0 (sa_cons (se_v 0) (sa_cons (se_int) (sa_nil))))) (sa_cons (se_v 4) (sa_nil))))))))))))))))))))
theorem ok__law_premises {N : En} {w : World} {P : Program} {mg : Str → Option Value} {base : Heap} (T : Txt N w mg) (TB : Tabs N T base) : FnOk P w N.K mg base CX0 3 T.f__law_premises T.d__law_premises ["stream", "signature", "most"] (spOf N 3 F__law_premises) := by
  refine fn_sim (Ns := N_law_premises) (ps := ["stream", "signature", "most"]) (b := B__law_premises) T.F__law_premises sc_law_premises fun cdv A outer s H E hr => ?_
  exact sss_one (ss_ret (se_tuple rfl (by rfl) T.n_tuple ((se_f (sf_lc (own := [("k", 3)]) rfl sc_law_premises.nd (si_rng1 (by rfl) T.n_range (sa_cons (se_call (ok__law_next T TB) (hr.mono (by decide)) (by rfl) T.g__law_next T.F__law_next.kp T.b__law_next px0 (sa_cons (se_v 0) (sa_cons (se_add (se_v 2) ((se_int).sb)) (sa_nil)))) (sa_nil))) (blkOk_by (own := [("k", 3)]) (N := N_law_premises) (sc := defScope s_law_premises) (by decide +kernel)) (fun _ _ _ _ _ => sg_name (i := 3) sc_law_premises.nd rfl (Or.inl rfl)) (fun _ _ _ _ _ => sts_nil) (fun _ _ _ _ _ => se_call (ok__law_sentence T TB) (hr.mono (by decide)) (by rfl) T.g__law_sentence T.F__law_sentence.kp T.b__law_sentence px0 (sa_cons (se_v 0) (sa_cons (se_at (se_v 1) (se_int)) (sa_cons (se_at (se_v 1) (se_int)) (sa_nil))))))).sb)))
theorem ok__law_some_kind {N : En} {w : World} {P : Program} {mg : Str → Option Value} {base : Heap} (T : Txt N w mg) (TB : Tabs N T base) : FnOk P w N.K mg base CX0 2 T.f__law_some_kind T.d__law_some_kind ["stream", "signature"] (spOf N 2 F__law_some_kind) := by
  refine fn_sim (Ns := N_law_some_kind) (ps := ["stream", "signature"]) (b := B__law_some_kind) T.F__law_some_kind sc_law_some_kind fun cdv A outer s H E hr => ?_
  exact sss_cons (ss_set (i := 2) sc_law_some_kind.nd rfl (Or.inl rfl) (se_call (ok__law_next T TB) (hr.mono (by decide)) (by rfl) T.g__law_next T.F__law_next.kp T.b__law_next px0 (sa_cons (se_v 0) (sa_cons (se_at (se_v 1) (se_int)) (sa_nil)))))
      (sss_cons (ss_set (i := 3) sc_law_some_kind.nd rfl (Or.inl rfl) (se_call (ok__law_next T TB) (hr.mono (by decide)) (by rfl) T.g__law_next T.F__law_next.kp T.b__law_next px0 (sa_cons (se_v 0) (sa_cons (se_at (se_v 1) (se_int)) (sa_nil)))))
      (sss_cons (ss_set (i := 4) sc_law_some_kind.nd rfl (Or.inl rfl) (se_call (ok__law_next T TB) (hr.mono (by decide)) (by rfl) T.g__law_next T.F__law_next.kp T.b__law_next px0 (sa_cons (se_v 0) (sa_cons (se_int) (sa_nil)))))
      (sss_cons (ss_if (sw_pt (sw_or (st_eq hr.units (se_v 4) ((se_int).sb)) (sw_or1 (st_eq hr.units (se_at (se_v 1) (se_int)) ((se_int).sb))))) (sss_one (ss_ret (se_tup (sa_cons (se_str 8) (sa_cons (se_v 2) (sa_nil)))))) (sss_nil))
      (sss_cons (ss_if (sw_pt (sw_and (st_eq hr.units (se_v 4) ((se_int).sb)) (sw_and1 (st_ne hr.units (se_v 2) (sb_v 3))))) (sss_one (ss_ret (se_tup (sa_cons (se_str 9) (sa_cons (se_min2 rfl rfl (u70 hr) (by rfl) T.n_min (se_v 2) (se_v 3)) (sa_cons (se_max2 rfl rfl (u70 hr) (by rfl) T.n_max (se_v 2) (se_v 3)) (sa_nil))))))) (sss_nil))
      (sss_cons (ss_set (i := 5) sc_law_some_kind.nd rfl (Or.inl rfl) (se_eq hr.units (se_call (ok__law_next T TB) (hr.mono (by decide)) (by rfl) T.g__law_next T.F__law_next.kp T.b__law_next px0 (sa_cons (se_v 0) (sa_cons (se_int) (sa_nil)))) ((se_int).sb)))
      (sss_cons (ss_set (i := 6) sc_law_some_kind.nd rfl (Or.inl rfl) (se_call (ok__law_next T TB) (hr.mono (by decide)) (by rfl) T.g__law_next T.F__law_next.kp T.b__law_next px0 (sa_cons (se_v 0) (sa_cons (se_at (se_v 1) (se_int)) (sa_nil)))))
      (sss_cons (ss_if (st_eq hr.units (se_v 4) ((se_int).sb)) (sss_one (ss_ret (se_tup (sa_cons (se_str 7) (sa_cons (se_v 2) (sa_cons (se_v 5) (sa_cons (se_v 6) (sa_nil)))))))) (sss_nil))
      (sss_one (ss_ret (se_tup (sa_cons (se_str 10) (sa_cons (se_v 2) (sa_cons (se_v 5) (sa_cons (se_v 6) (sa_cons (se_eq hr.units (se_call (ok__law_next T TB) (hr.mono (by decide)) (by rfl) T.g__law_next T.F__law_next.kp T.b__law_next px0 (sa_cons (se_v 0) (sa_cons (se_int) (sa_nil)))) ((se_int).sb)) (sa_cons (se_v 3) (sa_nil)))))))))))))))))
theorem ok_law {N : En} {w : World} {P : Program} {mg : Str → Option Value} {base : Heap} (T : Txt N w mg) (TB : Tabs N T base) {f : Addr} {fd : FuncData} (F : Fun N.K "law" "law" slaw f fd) : FnOk P w N.K mg base CX0 9 f fd ["script"] (spOf N 1 F_law) := by
  refine fn_sim (Ns := Nlaw) (ps := ["script"]) (b := B_law) F sclaw fun cdv A outer s H E hr => ?_
  exact sss_cons (ss_set (i := 1) sclaw.nd rfl (Or.inl rfl) (se_call (ok__law_stream T TB) (hr.mono (by decide)) (by rfl) T.g__law_stream T.F__law_stream.kp T.b__law_stream px0 (sa_cons (se_v 0) (sa_nil))))
      (sss_cons (ss_set (i := 2) sclaw.nd rfl (Or.inl rfl) (se_tup (sa_cons (se_add (se_int) ((se_call (ok__law_next T TB) (hr.mono (by decide)) (by rfl) T.g__law_next T.F__law_next.kp T.b__law_next px0 (sa_cons (se_v 1) (sa_cons (se_int) (sa_nil)))).sb)) (sa_cons (se_add (se_int) ((se_call (ok__law_next T TB) (hr.mono (by decide)) (by rfl) T.g__law_next T.F__law_next.kp T.b__law_next px0 (sa_cons (se_v 1) (sa_cons (se_int) (sa_nil)))).sb)) (sa_nil)))))
      (sss_cons (ss_set (i := 3) sclaw.nd rfl (Or.inl rfl) (se_call (ok__law_premises T TB) (hr.mono (by decide)) (by rfl) T.g__law_premises T.F__law_premises.kp T.b__law_premises px0 (sa_cons (se_v 1) (sa_cons (se_v 2) (sa_cons (se_int) (sa_nil))))))
      (sss_cons (ss_set (i := 4) sclaw.nd rfl (Or.inl rfl) (se_add (se_v 3) ((se_call (ok__law_premises T TB) (hr.mono (by decide)) (by rfl) T.g__law_premises T.F__law_premises.kp T.b__law_premises px0 (sa_cons (se_v 1) (sa_cons (se_v 2) (sa_cons (se_int) (sa_nil))))).sb)))
      (sss_cons (ss_for PassesOwn.never rfl (si_seq rfl (se_f (sf_lst (sa_cons (se_fnN (by rfl) (T.g_subsets.trans (by rw [T.e_subsets]))) (sa_cons (se_fnN (by rfl) (T.g_at_least.trans (by rw [T.e_at_least]))) (sa_cons (se_fnN (by rfl) (T.g_nouns_required.trans (by rw [T.e_nouns_required]))) (sa_cons (se_fnN (by rfl) (T.g_kinds_required.trans (by rw [T.e_kinds_required]))) (sa_nil)))))))) (sg_name (i := 5) sclaw.nd rfl (Or.inl rfl)) (sss_cons (ss_set (i := 6) sclaw.nd rfl (Or.inr rfl) (se_callA (i := 5) (k := 8) (n := 2) (List.forall_mem_cons.mpr ⟨held_one T.e_subsets (ok_subsets T TB) (by decide) T.F_subsets.kp T.b_subsets, (List.forall_mem_cons.mpr ⟨held_one T.e_at_least (ok_at_least T TB) (by decide) T.F_at_least.kp T.b_at_least, (List.forall_mem_cons.mpr ⟨held_one T.e_nouns_required (ok_nouns_required T TB) (by decide) T.F_nouns_required.kp T.b_nouns_required, (List.forall_mem_cons.mpr ⟨held_one T.e_kinds_required (ok_kinds_required T TB) (by decide) T.F_kinds_required.kp T.b_kinds_required, (List.forall_mem_nil _)⟩)⟩)⟩)⟩) (hr.mono (by decide)) rfl (by first | exact Or.inl rfl | exact Or.inr (Or.inl rfl) | exact Or.inr (Or.inr rfl)) (sa_cons (se_v 2) (sa_cons (se_v 4) (sa_nil)))))
      (sss_one (ss_if (st_not (st_tru rfl ((se_all rfl rfl (by rfl) T.n_all ((se_f (sf_lc (own := [("item", 16)]) rfl sclaw.nd (si_seq rfl (se_callA (i := 5) (k := 8) (n := 2) (List.forall_mem_cons.mpr ⟨held_one T.e_subsets (ok_subsets T TB) (by decide) T.F_subsets.kp T.b_subsets, (List.forall_mem_cons.mpr ⟨held_one T.e_at_least (ok_at_least T TB) (by decide) T.F_at_least.kp T.b_at_least, (List.forall_mem_cons.mpr ⟨held_one T.e_nouns_required (ok_nouns_required T TB) (by decide) T.F_nouns_required.kp T.b_nouns_required, (List.forall_mem_cons.mpr ⟨held_one T.e_kinds_required (ok_kinds_required T TB) (by decide) T.F_kinds_required.kp T.b_kinds_required, (List.forall_mem_nil _)⟩)⟩)⟩)⟩) (hr.mono (by decide)) rfl (by first | exact Or.inl rfl | exact Or.inr (Or.inl rfl) | exact Or.inr (Or.inr rfl)) (sa_cons (se_v 2) (sa_cons (se_v 3) (sa_nil))))) (blkOk_by (own := [("item", 16)]) (N := Nlaw) (sc := defScope slaw) (by decide +kernel)) (fun _ _ _ _ _ => sg_name (i := 16) sclaw.nd rfl (Or.inl rfl)) (fun _ _ _ _ _ => sts_nil) (fun _ _ _ _ _ => se_in (u65 hr) (se_v 16) (sb_v 6)))).sb)).sb))) (sss_one (ss_ret (se_bl))) (sss_nil)))))
      (sss_cons (ss_for PassesOwn.never rfl (si_rng1 (by rfl) T.n_range (sa_cons (se_int) (sa_nil))) (sg_name (i := 7) sclaw.nd rfl (Or.inl rfl)) (sss_cons (ss_set (i := 8) sclaw.nd rfl (Or.inl rfl) (se_call (ok__law_some_kind T TB) (hr.mono (by decide)) (by rfl) T.g__law_some_kind T.F__law_some_kind.kp T.b__law_some_kind px0 (sa_cons (se_v 1) (sa_cons (se_v 2) (sa_nil)))))
      (sss_cons (ss_set (i := 9) sclaw.nd rfl (Or.inl rfl) (se_call (ok__law_some_kind T TB) (hr.mono (by decide)) (by rfl) T.g__law_some_kind T.F__law_some_kind.kp T.b__law_some_kind px0 (sa_cons (se_v 1) (sa_cons (se_v 2) (sa_nil)))))
      (sss_cons (ss_set (i := 10) sclaw.nd rfl (Or.inl rfl) (se_call (ok__law_next T TB) (hr.mono (by decide)) (by rfl) T.g__law_next T.F__law_next.kp T.b__law_next px0 (sa_cons (se_v 1) (sa_cons (se_at (se_v 2) (se_int)) (sa_nil)))))
      (sss_cons (ss_set (i := 11) sclaw.nd rfl (Or.inl rfl) (se_call (ok_forced_between T TB) (hr.mono (by decide)) (by rfl) T.g_forced_between T.F_forced_between.kp T.b_forced_between px0 (sa_cons (se_v 2) (sa_cons (se_v 3) (sa_cons (se_v 10) (sa_cons (se_v 8) (sa_cons (se_v 9) (sa_nil))))))))
      (sss_cons (ss_set (i := 6) sclaw.nd rfl (Or.inr rfl) (se_call (ok_forced_between T TB) (hr.mono (by decide)) (by rfl) T.g_forced_between T.F_forced_between.kp T.b_forced_between px0 (sa_cons (se_v 2) (sa_cons (se_v 4) (sa_cons (se_v 10) (sa_cons (se_v 8) (sa_cons (se_v 9) (sa_nil))))))))
      (sss_one (ss_if (sw_pt (sw_and (st_ne hr.units (se_v 11) ((se_str 15).sb)) (sw_and1 (st_notIn (u65 hr) (se_v 6) ((se_f (sf_lst (sa_cons (se_v 11) (sa_cons (se_str 9) (sa_nil))))).sb))))) (sss_one (ss_ret (se_bl))) (sss_nil)))))))))
      (sss_cons (ss_set (i := 12) sclaw.nd rfl (Or.inl rfl) (se_call (ok_subsets T TB) (hr.mono (by decide)) (by rfl) T.g_subsets T.F_subsets.kp T.b_subsets px0 (sa_cons (se_v 2) (sa_cons (se_v 4) (sa_nil)))))
      (sss_cons (ss_set (i := 13) sclaw.nd rfl (Or.inl rfl) (se_call (ok_nouns_required T TB) (hr.mono (by decide)) (by rfl) T.g_nouns_required T.F_nouns_required.kp T.b_nouns_required px0 (sa_cons (se_v 2) (sa_cons (se_v 4) (sa_nil)))))
      (sss_cons (ss_for PassesOwn.never rfl (si_seq rfl (se_v 12)) (sg_tup rfl rfl (sgs_cons (sg_name (i := 14) sclaw.nd rfl (Or.inl rfl)) (sgs_cons (sg_name (i := 15) sclaw.nd rfl (Or.inl rfl)) (sgs_nil)))) (sss_one (ss_if (sw_pt (sw_and (st_in (u65 hr) (se_tup (sa_cons (se_v 15) (sa_cons (se_v 14) (sa_nil)))) (sb_v 12)) (sw_and1 (st_ne hr.units (se_in (u65 hr) (se_v 14) (sb_v 13)) ((se_in (u65 hr) (se_v 15) (sb_v 13)).sb))))) (sss_one (ss_ret (se_bl))) (sss_nil))))
      (sss_one (ss_ret (se_bl)))))))))))
/-! ## the law's stream -/
structure Strm where
  ns : List Int
  a : Int
  b : Int
  ha : 0 ≤ a
  hb : 0 ≤ b
def Strm.c (s : Strm) : Cell := .lst [.lst (s.ns.map D.int), .int s.a, .int s.b]
def Strm.raw (s : Strm) : Int := if s.b < s.ns.length then (if s.ns.getD s.b.toNat 0 < 0 then -(s.ns.getD s.b.toNat 0) else s.ns.getD s.b.toNat 0) else 7 + s.b
def mix1 (c k : Int) : Int := (c * 48271 + k * 69621 + 11) % 2147483647
def mix (c k : Int) : Int := if c < 1000000000000000000 then (mix1 c k * 16807 + 13) % 2147483647 * 65537 + mix1 c k else c
def Strm.val (s : Strm) : Int := if s.a = 0 then mix s.raw s.b else s.a
theorem raw_pos (s : Strm) : 0 ≤ s.raw := by
  have := s.hb
  unfold Strm.raw
  split
  · split <;> omega
  · omega
theorem val_pos (s : Strm) : 0 ≤ s.val := by
  have h := raw_pos s
  have h2 := s.ha
  unfold Strm.val mix mix1
  split
  · split
    · omega
    · exact h
  · exact h2
def Strm.nxt (s : Strm) (m : Int) (hm : 0 ≤ m) : Strm := ⟨s.ns, s.val / m, if s.a = 0 then s.b + 1 else s.b, Int.ediv_nonneg (val_pos s) hm, by have := s.hb; split <;> omega⟩
theorem atI_int {l : List D} {i : Int} (h : 0 ≤ i) : atI l i = l[i.toNat]? := by
  have := atI_nat (l := l) (i := i.toNat)
  rwa [Int.toNat_of_nonneg h] at this
theorem next_eq (s : Strm) (m : Int) (h : 0 < m) (h' : m < 1073741824) : F__law_next [.cell 0, .int m] [s.c] = .ok (.int (s.val % m)) ⟨[], [(s.nxt m (Int.le_of_lt h)).c]⟩ := by
  have hb := s.hb
  by_cases h0 : s.a = 0
  · by_cases h1 : s.b < s.ns.length
    · obtain ⟨x, e, hr⟩ : ∃ x, s.ns[s.b.toNat]? = some x ∧ s.raw = if x < 0 then -x else x := by
        have : s.b.toNat < s.ns.length := by omega
        refine ⟨s.ns[s.b.toNat], List.getElem?_eq_getElem this, ?_⟩
        unfold Strm.raw
        rw [if_pos h1]
        simp [List.getD, this]
      by_cases h2 : s.raw < 1000000000000000000
      · simp [F__law_next, B__law_next, Strm.c, Strm.nxt, Strm.val, h0, h1, atI_int hb, e, setAt, ixN, h, h', mix, mix1, ← hr, h2]
      · simp [F__law_next, B__law_next, Strm.c, Strm.nxt, Strm.val, h0, h1, atI_int hb, e, setAt, ixN, h, h', mix, mix1, ← hr, h2]
    · have hr : s.raw = 7 + s.b := by
        unfold Strm.raw
        rw [if_neg h1]
      by_cases h2 : s.raw < 1000000000000000000
      · simp [F__law_next, B__law_next, Strm.c, Strm.nxt, Strm.val, h0, h1, setAt, ixN, h, h', mix, mix1, ← hr, h2]
      · simp [F__law_next, B__law_next, Strm.c, Strm.nxt, Strm.val, h0, h1, setAt, ixN, h, h', mix, mix1, ← hr, h2]
  · skip
    simp [F__law_next, B__law_next, Strm.c, Strm.nxt, Strm.val, h0, setAt, ixN, h, h']
theorem s_next (s : Strm) (m : Int) (h : 0 < m) (h' : m < 1073741824) : ∃ x s', F__law_next [.cell 0, .int m] [s.c] = .ok (.int x) ⟨[], [Strm.c s']⟩ ∧ 0 ≤ x ∧ x < m :=
  ⟨_, _, next_eq s m h h', Int.emod_nonneg _ (by omega), Int.emod_lt_of_pos _ h⟩
theorem s_stream (ns : List Int) : ∃ s : Strm, F__law_stream [.scr ns] [] = .ok (.cell 0) ⟨[], [s.c]⟩ := by
  refine ⟨⟨ns, 0, 0, by omega, by omega⟩, ?_⟩
  simp [F__law_stream, B__law_stream, Strm.c]
/-! ## signatures and sentences -/
/-- a signature -/
structure Sig where
  n : Int
  v : Int
  hn : 1 ≤ n
  hn4 : n ≤ 4
  hv : 0 ≤ v
  hv2 : v ≤ 2
def Sig.d (g : Sig) : D := .tup [.int g.n, .int g.v]
inductive Sen where
  | nn (w : Nat) (x y : Int)
  | vb (q : Nat) (x : Int) (does : Bool) (v : Int) (by' : Bool) (p : Nat) (y : Int)
  | se (q : Nat) (x : Int) (does : Bool) (v : Int)
  deriving DecidableEq
def Sen.d : Sen → D
  | .nn w x y => .tup [.str w, .int x, .int y]
  | .vb q x does v by' p y => .tup [.str 6, .str q, .int x, .bl does, .int v, .bl by', .str p, .int y]
  | .se q x does v => .tup [.str 7, .str q, .int x, .bl does, .int v]
def isN (g : Sig) (x : Int) : Prop := 0 ≤ x ∧ x < g.n
def isV (g : Sig) (x : Int) : Prop := 0 ≤ x ∧ x < g.v
def Sen.ok (g : Sig) : Sen → Prop
  | .nn w x y => w < 6 ∧ isN g x ∧ isN g y
  | .vb q x _ v _ p y => q < 2 ∧ isN g x ∧ isV g v ∧ p < 2 ∧ isN g y
  | .se q x _ v => q < 2 ∧ isN g x ∧ isV g v
/-! ## the program's words on sentences -/
theorem p_int {x a b : Int} {cs : List Cell} (h1 : a ≤ x) (h2 : x ≤ b) : F_is_integer [.int x, .int a, .int b] cs = .ok (.bl true) ⟨[], cs⟩ := by
  simp [F_is_integer, B_is_integer, h1, h2]
theorem p_noun {g : Sig} {x : Int} {cs : List Cell} (h : isN g x) : F_is_noun [g.d, .int x] cs = .ok (.bl true) ⟨[], cs⟩ := by
  have e := p_int (cs := cs) h.1 (show x ≤ g.n - 1 from Int.le_sub_one_of_lt h.2)
  simp [F_is_noun, B_is_noun, Sig.d, e]
theorem p_verb {g : Sig} {x : Int} {cs : List Cell} (h : isV g x) : F_is_verb [g.d, .int x] cs = .ok (.bl true) ⟨[], cs⟩ := by
  have e := p_int (cs := cs) h.1 (show x ≤ g.v - 1 from Int.le_sub_one_of_lt h.2)
  simp [F_is_verb, B_is_verb, Sig.d, e]
theorem p_signature {g : Sig} {cs : List Cell} : F_is_signature [g.d] cs = .ok (.bl true) ⟨[], cs⟩ := by
  have e := p_int (cs := cs) g.hn g.hn4
  have e2 := p_int (cs := cs) g.hv g.hv2
  simp [F_is_signature, B_is_signature, Sig.d, e, e2]
theorem p_check_signature {g : Sig} {cs : List Cell} : F_check_signature [g.d] cs = .ok .non ⟨[], cs⟩ := by
  simp [F_check_signature, B_check_signature, p_signature]
theorem w6 {w : Nat} (h : w < 6) : w = 0 ∨ w = 1 ∨ w = 2 ∨ w = 3 ∨ w = 4 ∨ w = 5 := by omega
theorem w2 {w : Nat} (h : w < 2) : w = 0 ∨ w = 1 := by omega
theorem p_sentence {g : Sig} {z : Sen} {cs : List Cell} (h : z.ok g) : F_is_sentence [g.d, z.d] cs = .ok (.bl true) ⟨[], cs⟩ := by
  cases z with
  | nn w x y =>
    obtain ⟨hw, hx, hy⟩ := h
    have ex := p_noun (cs := cs) hx
    have ey := p_noun (cs := cs) hy
    rcases w6 hw with rfl | rfl | rfl | rfl | rfl | rfl <;> simp [F_is_sentence, B_is_sentence, Sen.d, ex, ey]
  | vb q x d v b p y =>
    obtain ⟨hq, hx, hv, hp, hy⟩ := h
    have ex := p_noun (cs := cs) hx
    have ey := p_noun (cs := cs) hy
    have ev := p_verb (cs := cs) hv
    have e2 : F__is_verb_sentence [g.d, (Sen.vb q x d v b p y).d] cs = .ok (.bl true) ⟨[], cs⟩ := by
      rcases w2 hq with rfl | rfl <;> rcases w2 hp with rfl | rfl <;> simp [F__is_verb_sentence, B__is_verb_sentence, Sen.d, ex, ey, ev]
    simp only [Sen.d] at e2
    simp [F_is_sentence, B_is_sentence, Sen.d, e2]
  | se q x d v =>
    obtain ⟨hq, hx, hv⟩ := h
    have ex := p_noun (cs := cs) hx
    have ev := p_verb (cs := cs) hv
    have e2 : F__is_self_sentence [g.d, (Sen.se q x d v).d] cs = .ok (.bl true) ⟨[], cs⟩ := by
      rcases w2 hq with rfl | rfl <;> simp [F__is_self_sentence, B__is_self_sentence, Sen.d, ex, ev]
    simp only [Sen.d] at e2
    simp [F_is_sentence, B_is_sentence, Sen.d, e2]
theorem all_true (l : List D) : (l.all fun _ => true) = true := by simp
theorem p_premises {g : Sig} {zs : List Sen} {cs : List Cell} (hl : zs.length ≤ 8) (h : ∀ z ∈ zs, z.ok g) : F_are_premises [g.d, .tup (zs.map Sen.d)] cs = .ok (.bl true) ⟨[], cs⟩ := by
  have e := gen_ok (brk := false) (vs := [2]) (fi := iSeq (eV 1)) (g := gN 2) (f := eCall (F_is_sentence) (aCons (eV 0) (aCons (eV 2) (aNil)))) (tb := fun _ => true) (ds := zs.map Sen.d) (s := ⟨[.sv g.d, .sv (.tup (zs.map Sen.d)), .un], cs⟩) (s0 := ⟨[.sv g.d, .sv (.tup (zs.map Sen.d)), .un], cs⟩) (by simp) (fun d hd => by
    obtain ⟨z, hz, rfl⟩ := List.mem_map.mp hd
    exact ⟨⟨[.sv g.d, .sv (.tup (zs.map Sen.d)), .sv z.d], cs⟩, by simp, by simp [p_sentence (h z hz)], by simp⟩) (by simp)
  have hl2 : ¬ (8 : Int) < zs.length := by omega
  simp only [Bool.false_eq_true, if_false, all_true] at e
  simp [F_are_premises, B_are_premises, e, hl2]
theorem p_check_premises {g : Sig} {zs : List Sen} {nm : D} {cs : List Cell} (hl : zs.length ≤ 8) (h : ∀ z ∈ zs, z.ok g) : F_check_premises [g.d, .tup (zs.map Sen.d), nm] cs = .ok .non ⟨[], cs⟩ := by
  simp [F_check_premises, B_check_premises, p_premises hl h]
/-! ## pairs, numbers in lists -/
abbrev Pr := Int × Int
def prD (p : Pr) : D := .tup [.int p.1, .int p.2]
theorem inD_ints {x : Int} : ∀ {l : List Int}, inD (.int x) (l.map D.int) = decide (x ∈ l)
  | [] => rfl
  | y :: l => by
    rw [List.map_cons, inD_cons, inD_ints, eq_int_int]
    by_cases h : y = x
    · simp [h]
    · have h' : ¬ x = y := fun z => h z.symm
      simp [h, h']
theorem okDs_ints {k : Nat} : ∀ {l : List Int}, okDs k (l.map D.int) = true
  | [] => okDs_nil k
  | y :: l => by rw [List.map_cons, okDs_cons, okD_int, okDs_ints]; rfl
theorem okD_pr (k : Nat) (p : Pr) : okD (k + 1) (prD p) = true := by
  unfold prD
  rw [okD]
  simp
theorem okDs_prs (k : Nat) : ∀ {l : List Pr}, okDs (k + 1) (l.map prD) = true
  | [] => okDs_nil _
  | y :: l => by rw [List.map_cons, okDs_cons, okD_pr, okDs_prs]; rfl
theorem eqD_pr {a b : Pr} : eqD (prD a) (prD b) = decide (a = b) := by
  unfold prD
  by_cases h : a = b
  · subst h; simp
  · have : ¬ (a.1 = b.1 ∧ a.2 = b.2) := fun z => h (Prod.ext z.1 z.2)
    simp [h]
    exact fun h1 h2 => this ⟨h1, h2⟩
theorem okD60_pr (p : Pr) : okD 60 (prD p) = true := okD_pr 59 p
theorem okDs60_prs (l : List Pr) : okDs 60 (l.map prD) = true := okDs_prs 59
theorem inD_prs {p : Pr} : ∀ {l : List Pr}, inD (prD p) (l.map prD) = decide (p ∈ l)
  | [] => rfl
  | y :: l => by
    rw [List.map_cons, inD_cons, inD_prs, eqD_pr]
    by_cases h : y = p
    · simp [h]
    · have h' : ¬ p = y := fun z => h z.symm
      simp [h, h']
theorem in_ints {x : Int} {l : List Int} : inOp (.int x) (.tup (l.map D.int)) = some (.bl (decide (x ∈ l))) := by
  simp [inOp, okDs_ints, inD_ints]
theorem nin_intsL {x : Int} {l : List Int} : notInOp (.int x) (.lst (l.map D.int)) = some (.bl (!decide (x ∈ l))) := by
  simp [notInOp, okDs_ints, inD_ints]
theorem in_prsL {p : Pr} {l : List Pr} : inOp (.tup [.int p.1, .int p.2]) (.lst (l.map prD)) = some (.bl (decide (p ∈ l))) := by
  have e : D.tup [.int p.1, .int p.2] = prD p := rfl
  rw [e, inOp, okD60_pr, okDs60_prs, inD_prs]
  rfl
/-- a loop whose state is told by what is behind it -/
theorem forP {α B : Type} {g : Tg} {b : Ss} {inj : α → D} (mk : List α → B → S) (xs : List α) (h : ∀ done x rest v, xs = done ++ x :: rest → ∃ v', ((g (inj x) (mk done v)).bind fun _ s1 => b s1) = .ok .nx (mk (done ++ [x]) v')) (v0 : B) :
    ∃ v', forL g b (xs.map inj) (mk [] v0) = .ok .nx (mk xs v') := by
  have key : ∀ (rest done : List α) (v : B), xs = done ++ rest → ∃ v', forL g b (rest.map inj) (mk done v) = .ok .nx (mk xs v') := by
    intro rest
    induction rest with
    | nil => intro done v e; exact ⟨v, by rw [List.append_nil] at e; rw [e]; exact forL_nil⟩
    | cons x rest ih =>
      intro done v e
      obtain ⟨v1, e1⟩ := h done x rest v e
      obtain ⟨v2, e2⟩ := ih (done ++ [x]) v1 (by rw [e, List.append_assoc]; rfl)
      refine ⟨v2, ?_⟩
      rw [List.map_cons, forL_cons]
      rw [show (g (inj x) (mk done v)).bind (fun _ s1 => (b s1).bind fun fl s2 => onNx fl s2 (forL g b (rest.map inj))) = ((g (inj x) (mk done v)).bind fun _ s1 => b s1).bind fun fl s2 => onNx fl s2 (forL g b (rest.map inj)) from by cases g (inj x) (mk done v) <;> rfl]
      rw [e1, bind_ok, onNx_nx, e2]
  exact key xs [] v0 rfl
theorem whileN_eq {t : Ts} {b : Ss} {m : Nat} {s : S} : whileN t b (m + 1) s = (t s).bind fun c s1 => if c = true then ((b s1).bind fun fl s2 => onNx fl s2 (whileN t b m)) else .ok .nx s1 := by
  rw [whileN]
  rfl
/-! ## tables -/
abbrev Tb := Int → Int → Bool
def tabOf (n : Nat) (f : Tb) : List (List Bool) := (zts n).map fun x => (zts n).map fun y => f x y
theorem tabOf_len (n : Nat) (f : Tb) : (tabOf n f).length = n := by simp [tabOf]
theorem tabOf_rows {n : Nat} {f : Tb} : ∀ r ∈ tabOf n f, r.length = n := fun r hr => by
  obtain ⟨x, _, rfl⟩ := List.mem_map.mp hr
  simp
theorem zts_get {n : Nat} {x : Int} (h0 : 0 ≤ x) (h : x < n) : (zts n)[x.toNat]? = some x := by
  unfold zts
  rw [List.getElem?_map, List.getElem?_range (by omega)]
  show some ((x.toNat : Int)) = _
  congr 1
  omega
theorem rowOf_tab {n : Nat} {f : Tb} {x : Int} (h0 : 0 ≤ x) (h : x < n) : Z.rowOf (tabOf n f) x = (zts n).map fun y => f x y := by
  unfold Z.rowOf tabOf
  rw [List.getD_eq_getElem?_getD, List.getElem?_map, zts_get h0 h]
  rfl
theorem atB_row {n : Nat} {f : Int → Bool} {y : Int} (h0 : 0 ≤ y) (h : y < n) : atB ((zts n).map f) y = f y := by
  unfold atB
  rw [List.getD_eq_getElem?_getD, List.getElem?_map, zts_get h0 h]
  rfl
theorem tbl_tab {n : Nat} {f : Tb} {x y : Int} (hx : 0 ≤ x ∧ x < n) (hy : 0 ≤ y ∧ y < n) : tbl (tabOf n f) x y = f x y := by
  unfold tbl
  rw [rowOf_tab hx.1 hx.2, atB_row hy.1 hy.2]
/-- reading T[x], T[x][y] -/
def rwF (n : Nat) (f : Tb) (x : Int) : D := rwD ((zts n).map fun y => f x y)
def tbF (n : Nat) (f : Tb) : D := tabD (tabOf n f)
theorem tbF_at {n : Nat} {f : Tb} {x : Int} (hx : 0 ≤ x ∧ x < n) : ixD (tbF n f) (.int x) = some (rwF n f x) := by
  unfold tbF rwF
  rw [tab_at hx.1 (by rw [tabOf_len]; exact hx.2), rowOf_tab hx.1 hx.2]
theorem rwF_at {n : Nat} {f : Tb} {x y : Int} (hy : 0 ≤ y ∧ y < n) : ixD (rwF n f x) (.int y) = some (.bl (f x y)) := by
  unfold rwF
  rw [Z.row_at hy.1 (by simpa using hy.2), atB_row hy.1 hy.2]
theorem tbF_len (n : Nat) (f : Tb) : lenD (tbF n f) = some (.int n) := by
  unfold tbF tabD
  simp [lenD, tabOf_len]
/-- how a table comes -/
theorem tbF_eq (n : Nat) (f : Tb) : D.lst ((zts n).map fun x => D.lst ((zts n).map fun y => D.bl (f x y))) = tbF n f := by
  unfold tbF tabD tabOf rwD
  rw [List.map_map]
  simp only [Function.comp_def, List.map_map]
theorem tbF_congr {n : Nat} {f f' : Tb} (h : ∀ x ∈ zts n, ∀ y ∈ zts n, f x y = f' x y) : tbF n f = tbF n f' := by
  unfold tbF tabOf
  congr 1
  exact List.map_congr_left fun x hx => List.map_congr_left fun y hy => h x hx y hy
theorem bools_bl : ∀ {l m : List Bool}, eqDs (l.map D.bl) (m.map D.bl) = decide (l = m)
  | [], [] => by simp
  | [], b :: m => by simp
  | b :: l, [] => by simp
  | b :: l, c :: m => by
    rw [List.map_cons, List.map_cons, eqDs_cons, bools_bl, eq_bl_bl]
    by_cases h : b = c <;> by_cases h' : l = m <;> simp [h, h']
theorem tabs_eq : ∀ {a b : List (List Bool)}, eqDs (a.map rwD) (b.map rwD) = decide (a = b)
  | [], [] => by simp
  | [], r :: m => by simp
  | r :: l, [] => by simp
  | r :: l, q :: m => by
    rw [List.map_cons, List.map_cons, eqDs_cons, tabs_eq]
    show (eqD (.lst (r.map D.bl)) (.lst (q.map D.bl)) && _) = _
    rw [eq_lst_lst, bools_bl]
    by_cases h : r = q <;> by_cases h' : l = m <;> simp [h, h']
theorem eqD_tab {a b : List (List Bool)} : eqD (tabD a) (tabD b) = decide (a = b) := by
  unfold tabD
  rw [eq_lst_lst, tabs_eq]
theorem okDs_bls (k : Nat) : ∀ l : List Bool, okDs k (l.map D.bl) = true
  | [] => okDs_nil k
  | _ :: l => by rw [List.map_cons, okDs_cons, okD_bl, okDs_bls]; rfl
theorem okD_rw (k : Nat) (r : List Bool) : okD (k + 1) (rwD r) = true := by
  unfold rwD
  rw [okD, okDs_bls]
theorem okDs_rws (k : Nat) : ∀ l : List (List Bool), okDs (k + 1) (l.map rwD) = true
  | [] => okDs_nil _
  | _ :: l => by rw [List.map_cons, okDs_cons, okD_rw, okDs_rws]; rfl
theorem okD_tab (k : Nat) (a : List (List Bool)) : okD (k + 2) (tabD a) = true := by
  unfold tabD
  rw [okD, okDs_rws]
theorem tabOf_inj {n : Nat} {f f' : Tb} (h : tabOf n f = tabOf n f') : ∀ x ∈ zts n, ∀ y ∈ zts n, f x y = f' x y := fun x hx y hy => by
  rw [mem_zts] at hx hy
  rw [← tbl_tab (f := f) hx hy, h, tbl_tab hx hy]
/-! ## the program's tables -/
theorem p_table {n : Nat} (hn : n ≤ 8) {l : List Pr} {cs : List Cell} : F__table [.int n, .lst (l.map prD)] cs = .ok (tbF n fun x y => decide ((x, y) ∈ l)) ⟨[], cs⟩ := by
  have e1 : ∀ s1 : S, s1 = ⟨[.sv (.int n), .sv (.lst (l.map prD)), .un, .un], cs⟩ → (aLc [2] (iRn1 (aCons (eV 0) (aNil))) (gN 2) (Z.tYes) (eF (aLc [3] (iRn1 (aCons (eV 0) (aNil))) (gN 3) (Z.tYes) (eOp inOp (eTup (aCons (eV 2) (aCons (eV 3) (aNil)))) (eVB 1))))) s1 =
      .ok ((zts n).map fun x => D.lst ((zts n).map fun y => D.bl (decide ((x, y) ∈ l)))) s1 := by
    rintro s1 rfl
    refine lcM (inj := D.int) (zts n) _ ?_ (by simp; omega) (by simp) fun x hx => ?_
    · simp [rngL_zts]; omega
    · have e2 : ∀ s2 : S, s2 = ⟨[.sv (.int n), .sv (.lst (l.map prD)), .sv (.int x), .un], cs⟩ → (aLc [3] (iRn1 (aCons (eV 0) (aNil))) (gN 3) (Z.tYes) (eOp inOp (eTup (aCons (eV 2) (aCons (eV 3) (aNil)))) (eVB 1))) s2 = .ok ((zts n).map fun y => D.bl (decide ((x, y) ∈ l))) s2 := by
        rintro s2 rfl
        refine lcM (inj := D.int) (zts n) _ ?_ (by simp; omega) (by simp) fun y hy => ?_
        · simp [rngL_zts]; omega
        · have := in_prsL (p := (x, y)) (l := l)
          simp [this]
      simp [e2]
  simp [F__table, B__table, e1, tbF_eq]
def leads (n : Nat) (f : Tb) (x y : Int) : Bool := (zts n).any fun z => f x z && f z y
theorem p_leads {n : Nat} (hn : n ≤ 8) {f : Tb} {x y : Int} {cs : List Cell} (hx : x ∈ zts n) (hy : y ∈ zts n) : F__leads [tbF n f, .int x, .int y] cs = .ok (.bl (leads n f x y)) ⟨[], cs⟩ := by
  have e1 : ∀ s1 : S, s1 = ⟨[.sv (tbF n f), .sv (.int x), .sv (.int y), .un], cs⟩ → (eGen true [3] (iRn1 (aCons (eC1 lenD (eVB 0)) (aNil))) (gN 3) (eAnd (eOp ixD (eOp ixD (eV 0) (eV 1)) (eV 3)) (eOp ixD (eOp ixD (eV 0) (eV 3)) (eV 2)))) s1 = .ok (.bl (leads n f x y)) s1 := by
    rintro s1 rfl
    refine genT (inj := D.int) true (zts n) (fun z => f x z && f z y) ?_ (by simp) fun z hz => ?_
    · simp [rngL_zts, tbF_len]; omega
    · rw [mem_zts] at hx hy hz
      cases h : f x z <;> simp [tbF_at hx, rwF_at hz, tbF_at hz, rwF_at hy, h]
  simp [F__leads, B__leads, e1]
def mSub (n : Nat) (f g : Tb) : Tb := fun x y => leads n f x y || (f y x && g y x)
def mMany (n : Nat) (f g : Tb) : Tb := fun x y => g x y || (f y x || leads n g x y)
theorem p_more_subsets {n : Nat} (hn : n ≤ 8) {f g : Tb} {cs : List Cell} : F__more_subsets [tbF n f, tbF n g] cs = .ok (tbF n (mSub n f g)) ⟨[], cs⟩ := by
  have e1 : ∀ s1 : S, s1 = ⟨[.sv (tbF n f), .sv (tbF n g), .sv (.rng 0 n), .un, .un], cs⟩ → (aLc [3] (iRnV (eV 2)) (gN 3) (Z.tYes) (eF (aLc [4] (iRnV (eV 2)) (gN 4) (Z.tYes) (eOr (eCall (F__leads) (aCons (eV 0) (aCons (eV 3) (aCons (eV 4) (aNil))))) (eAnd (eOp ixD (eOp ixD (eV 0) (eV 4)) (eV 3)) (eOp ixD (eOp ixD (eV 1) (eV 4)) (eV 3))))))) s1 =
      .ok ((zts n).map fun x => D.lst ((zts n).map fun y => D.bl (mSub n f g x y))) s1 := by
    rintro s1 rfl
    refine lcM (inj := D.int) (zts n) _ ?_ (by simp; omega) (by simp) fun x hx => ?_
    · exact rngV_ok (by omega) rfl
    · have e2 : ∀ s2 : S, s2 = ⟨[.sv (tbF n f), .sv (tbF n g), .sv (.rng 0 n), .sv (.int x), .un], cs⟩ → (aLc [4] (iRnV (eV 2)) (gN 4) (Z.tYes) (eOr (eCall (F__leads) (aCons (eV 0) (aCons (eV 3) (aCons (eV 4) (aNil))))) (eAnd (eOp ixD (eOp ixD (eV 0) (eV 4)) (eV 3)) (eOp ixD (eOp ixD (eV 1) (eV 4)) (eV 3))))) s2 = .ok ((zts n).map fun y => D.bl (mSub n f g x y)) s2 := by
        rintro s2 rfl
        refine lcM (inj := D.int) (zts n) _ ?_ (by simp; omega) (by simp) fun y hy => ?_
        · exact rngV_ok (by omega) rfl
        · have el := p_leads hn (f := f) (cs := cs) hx hy
          rw [mem_zts] at hx hy
          unfold mSub
          cases h1 : leads n f x y <;> cases h2 : f y x <;> simp [el, h1, h2, tbF_at hx, rwF_at hx, tbF_at hy]
      simp [e2]
  simp [F__more_subsets, B__more_subsets, tbF_len, e1, tbF_eq]
theorem p_more_at_least {n : Nat} (hn : n ≤ 8) {f g : Tb} {cs : List Cell} : F__more_at_least [tbF n f, tbF n g] cs = .ok (tbF n (mMany n f g)) ⟨[], cs⟩ := by
  have e1 : ∀ s1 : S, s1 = ⟨[.sv (tbF n f), .sv (tbF n g), .sv (.rng 0 n), .un, .un], cs⟩ → (aLc [3] (iRnV (eV 2)) (gN 3) (Z.tYes) (eF (aLc [4] (iRnV (eV 2)) (gN 4) (Z.tYes) (eOr (eOp ixD (eOp ixD (eV 1) (eV 3)) (eV 4)) (eOr (eOp ixD (eOp ixD (eV 0) (eV 4)) (eV 3)) (eCall (F__leads) (aCons (eV 1) (aCons (eV 3) (aCons (eV 4) (aNil)))))))))) s1 =
      .ok ((zts n).map fun x => D.lst ((zts n).map fun y => D.bl (mMany n f g x y))) s1 := by
    rintro s1 rfl
    refine lcM (inj := D.int) (zts n) _ ?_ (by simp; omega) (by simp) fun x hx => ?_
    · exact rngV_ok (by omega) rfl
    · have e2 : ∀ s2 : S, s2 = ⟨[.sv (tbF n f), .sv (tbF n g), .sv (.rng 0 n), .sv (.int x), .un], cs⟩ → (aLc [4] (iRnV (eV 2)) (gN 4) (Z.tYes) (eOr (eOp ixD (eOp ixD (eV 1) (eV 3)) (eV 4)) (eOr (eOp ixD (eOp ixD (eV 0) (eV 4)) (eV 3)) (eCall (F__leads) (aCons (eV 1) (aCons (eV 3) (aCons (eV 4) (aNil)))))))) s2 = .ok ((zts n).map fun y => D.bl (mMany n f g x y)) s2 := by
        rintro s2 rfl
        refine lcM (inj := D.int) (zts n) _ ?_ (by simp; omega) (by simp) fun y hy => ?_
        · exact rngV_ok (by omega) rfl
        · have el := p_leads hn (f := g) (cs := cs) hx hy
          rw [mem_zts] at hx hy
          unfold mMany
          cases h1 : g x y <;> cases h2 : f y x <;> simp [el, h1, h2, tbF_at hx, rwF_at hx, rwF_at hy, tbF_at hy]
      simp [e2]
  simp [F__more_at_least, B__more_at_least, tbF_len, e1, tbF_eq]
/-! ### what is said, and what comes of it -/
inductive Rl (P : List Sen) : Bool → Int → Int → Prop
  | refl (x : Int) : Rl P true x x
  | all {x y : Int} : Sen.nn 0 x y ∈ P → Rl P true x y
  | tr {b : Bool} {x z y : Int} : Rl P b x z → Rl P b z y → Rl P b x y
  | eq {x y : Int} : Rl P true y x → Rl P false y x → Rl P true x y
  | many {x y : Int} : Sen.nn 4 x y ∈ P → Rl P false x y
  | few {x y : Int} : Sen.nn 5 y x ∈ P → Rl P false x y
  | sub {x y : Int} : Rl P true y x → Rl P false x y
def Sen.part : Sen → List Pr
  | .nn 0 x y => [(x, y)]
  | _ => []
def Sen.cnt : Sen → List Pr
  | .nn 4 x y => [(x, y)]
  | .nn 5 x y => [(y, x)]
  | _ => []
/-- pairs of nouns at which two tables differ count -/
def cntT (n : Nat) (f : Tb) : Nat := ((zts n).flatMap fun x => (zts n).map fun y => (x, y)).countP fun p => f p.1 p.2
theorem mem_prs {n : Nat} {p : Pr} : p ∈ ((zts n).flatMap fun x => (zts n).map fun y => (x, y)) ↔ p.1 ∈ zts n ∧ p.2 ∈ zts n := by
  rw [List.mem_flatMap]
  constructor
  · rintro ⟨x, hx, h⟩
    obtain ⟨y, hy, rfl⟩ := List.mem_map.mp h
    exact ⟨hx, hy⟩
  · rintro ⟨h1, h2⟩
    exact ⟨p.1, h1, List.mem_map.mpr ⟨p.2, h2, rfl⟩⟩
theorem countP_le' {α : Type} {p q : α → Bool} : ∀ {l : List α}, (∀ x ∈ l, p x = true → q x = true) → l.countP p ≤ l.countP q
  | [], _ => Nat.le_refl _
  | a :: l, h => by
    have ih := countP_le' (p := p) (q := q) (l := l) fun x hx => h x (List.mem_cons_of_mem _ hx)
    have ha := h a List.mem_cons_self
    rw [List.countP_cons, List.countP_cons]
    cases hp : p a <;> cases hq : q a <;> simp_all <;> omega
theorem countP_lt' {α : Type} {p q : α → Bool} : ∀ {l : List α}, (∀ x ∈ l, p x = true → q x = true) → (∃ x ∈ l, p x = false ∧ q x = true) → l.countP p < l.countP q
  | [], _, ⟨x, hx, _⟩ => nomatch hx
  | a :: l, h, ⟨x, hx, h1, h2⟩ => by
    have hl := fun x hx => h x (List.mem_cons_of_mem a hx)
    rw [List.countP_cons, List.countP_cons]
    rcases List.mem_cons.mp hx with rfl | hx
    · have := countP_le' hl
      simp [h1, h2]
      omega
    · have := countP_lt' hl ⟨x, hx, h1, h2⟩
      have ha := h a List.mem_cons_self
      cases hp : p a <;> cases hq : q a <;> simp_all <;> omega
theorem cntT_le (n : Nat) (f : Tb) : cntT n f ≤ n * n := by
  have h := List.countP_le_length (p := fun p : Pr => f p.1 p.2) (l := (zts n).flatMap fun x => (zts n).map fun y => (x, y))
  have e : ((zts n).flatMap fun x => (zts n).map fun y => (x, y)).length = n * n := by
    rw [List.length_flatMap]
    simp [List.map_const']
  rw [e] at h
  exact h
theorem cntT_mono {n : Nat} {f f' : Tb} (h : ∀ x ∈ zts n, ∀ y ∈ zts n, f x y = true → f' x y = true) : cntT n f ≤ cntT n f' :=
  countP_le' fun p hp => h _ (mem_prs.mp hp).1 _ (mem_prs.mp hp).2
theorem cntT_lt {n : Nat} {f f' : Tb} (h : ∀ x ∈ zts n, ∀ y ∈ zts n, f x y = true → f' x y = true) (hne : tabOf n f ≠ tabOf n f') : cntT n f < cntT n f' := by
  refine countP_lt' (fun p hp => h _ (mem_prs.mp hp).1 _ (mem_prs.mp hp).2) ?_
  refine Classical.byContradiction fun hno => hne ?_
  unfold tabOf
  refine List.map_congr_left fun x hx => List.map_congr_left fun y hy => ?_
  cases h1 : f x y with
  | true => rw [h x hx y hy h1]
  | false =>
    cases h2 : f' x y with
    | false => rfl
    | true => exact absurd ⟨(x, y), mem_prs.mpr ⟨hx, hy⟩, h1, h2⟩ hno
structure TabsOk (P : List Sen) (n : Nat) (f g : Tb) : Prop where
  s1 : ∀ x ∈ zts n, ∀ y ∈ zts n, f x y = true → Rl P true x y
  s2 : ∀ x ∈ zts n, ∀ y ∈ zts n, g x y = true → Rl P false x y
  r : ∀ x ∈ zts n, f x x = true
  a : ∀ x y, Sen.nn 0 x y ∈ P → f x y = true
  m : ∀ x y, Sen.nn 4 x y ∈ P → g x y = true
  w : ∀ x y, Sen.nn 5 x y ∈ P → g y x = true
def inR (n : Nat) (P : List Sen) : Prop := ∀ w x y, Sen.nn w x y ∈ P → x ∈ zts n ∧ y ∈ zts n
theorem leads_sound {P : List Sen} {n : Nat} {b : Bool} {f : Tb} (h : ∀ x ∈ zts n, ∀ y ∈ zts n, f x y = true → Rl P b x y) {x y : Int} (hx : x ∈ zts n) (hy : y ∈ zts n) (e : leads n f x y = true) : Rl P b x y := by
  obtain ⟨z, hz, e⟩ := List.any_eq_true.mp e
  rw [Bool.and_eq_true] at e
  exact .tr (h x hx z hz e.1) (h z hz y hy e.2)
theorem TabsOk.step1 {P : List Sen} {n : Nat} {f g : Tb} (hP : inR n P) (h : TabsOk P n f g) : TabsOk P n (mSub n f g) g ∧ ∀ x ∈ zts n, ∀ y ∈ zts n, f x y = true → mSub n f g x y = true := by
  have mono : ∀ x ∈ zts n, ∀ y ∈ zts n, f x y = true → mSub n f g x y = true := fun x hx y hy e => by
    unfold mSub
    rw [Bool.or_eq_true]
    exact .inl (List.any_eq_true.mpr ⟨x, hx, by rw [h.r x hx, e]; rfl⟩)
  refine ⟨⟨fun x hx y hy e => ?_, h.s2, fun x hx => mono x hx x hx (h.r x hx), fun x y hm => ?_, h.m, h.w⟩, mono⟩
  · unfold mSub at e
    rw [Bool.or_eq_true, Bool.and_eq_true] at e
    rcases e with e | ⟨e1, e2⟩
    · exact leads_sound h.s1 hx hy e
    · exact .eq (h.s1 y hy x hx e1) (h.s2 y hy x hx e2)
  · obtain ⟨hx, hy⟩ := hP _ _ _ hm
    exact mono x hx y hy (h.a x y hm)
theorem TabsOk.step2 {P : List Sen} {n : Nat} {f g : Tb} (h : TabsOk P n f g) : TabsOk P n f (mMany n f g) ∧ ∀ x ∈ zts n, ∀ y ∈ zts n, g x y = true → mMany n f g x y = true := by
  have mono : ∀ x y, g x y = true → mMany n f g x y = true := fun x y e => by
    unfold mMany
    rw [e]
    rfl
  refine ⟨⟨h.s1, fun x hx y hy e => ?_, h.r, h.a, fun x y hm => mono x y (h.m x y hm), fun x y hm => mono y x (h.w x y hm)⟩, fun x _ y _ => mono x y⟩
  unfold mMany at e
  rw [Bool.or_eq_true, Bool.or_eq_true] at e
  rcases e with e | e | e
  · exact h.s2 x hx y hy e
  · exact .sub (h.s1 y hy x hx e)
  · exact leads_sound h.s2 hx hy e
/-- closed tables have all -/
theorem tabs_full {P : List Sen} {n : Nat} {f g : Tb} (hP : inR n P) (h : TabsOk P n f g) (c1 : ∀ x ∈ zts n, ∀ y ∈ zts n, mSub n f g x y = f x y) (c2 : ∀ x ∈ zts n, ∀ y ∈ zts n, mMany n f g x y = g x y) :
    ∀ {b : Bool} {x y : Int}, Rl P b x y → (x = y ∧ (b = true ∨ x ∉ zts n)) ∨ (x ∈ zts n ∧ y ∈ zts n ∧ (if b = true then f x y else g x y) = true) := by
  have lf : ∀ x ∈ zts n, ∀ z ∈ zts n, ∀ y ∈ zts n, f x z = true → f z y = true → f x y = true := fun x hx z hz y hy e1 e2 => by
    rw [← c1 x hx y hy]
    unfold mSub
    rw [Bool.or_eq_true]
    exact .inl (List.any_eq_true.mpr ⟨z, hz, by rw [e1, e2]; rfl⟩)
  have lg : ∀ x ∈ zts n, ∀ z ∈ zts n, ∀ y ∈ zts n, g x z = true → g z y = true → g x y = true := fun x hx z hz y hy e1 e2 => by
    rw [← c2 x hx y hy]
    unfold mMany
    rw [Bool.or_eq_true, Bool.or_eq_true]
    exact .inr (.inr (List.any_eq_true.mpr ⟨z, hz, by rw [e1, e2]; rfl⟩))
  intro b x y r
  induction r with
  | refl x => exact .inl ⟨rfl, .inl rfl⟩
  | all hm =>
    obtain ⟨hx, hy⟩ := hP _ _ _ hm
    exact .inr ⟨hx, hy, h.a _ _ hm⟩
  | @tr b x z y _ _ ih1 ih2 =>
    rcases ih1 with ⟨rfl, k1⟩ | ⟨hx, hz, k1⟩
    · rcases ih2 with ⟨rfl, k2⟩ | ⟨hz, hy, k2⟩
      · exact .inl ⟨rfl, k1⟩
      · exact .inr ⟨hz, hy, k2⟩
    · rcases ih2 with ⟨rfl, k2⟩ | ⟨_, hy, k2⟩
      · exact .inr ⟨hx, hz, k1⟩
      · refine .inr ⟨hx, hy, ?_⟩
        cases b with
        | true => exact lf x hx z hz y hy k1 k2
        | false => exact lg x hx z hz y hy k1 k2
  | @eq x y _ _ ih1 ih2 =>
    rcases ih1 with ⟨rfl, k1⟩ | ⟨hy, hx, k1⟩
    · exact .inl ⟨rfl, .inl rfl⟩
    · rcases ih2 with ⟨rfl, k2⟩ | ⟨_, _, k2⟩
      · exact .inl ⟨rfl, .inl rfl⟩
      · refine .inr ⟨hx, hy, ?_⟩
        show f x y = true
        rw [← c1 x hx y hy]
        unfold mSub
        rw [Bool.or_eq_true, Bool.and_eq_true]
        exact .inr ⟨k1, k2⟩
  | many hm =>
    obtain ⟨hx, hy⟩ := hP _ _ _ hm
    exact .inr ⟨hx, hy, h.m _ _ hm⟩
  | few hm =>
    obtain ⟨hx, hy⟩ := hP _ _ _ hm
    exact .inr ⟨hy, hx, h.w _ _ hm⟩
  | @sub x y _ ih =>
    rcases ih with ⟨rfl, k1⟩ | ⟨hy, hx, k1⟩
    · by_cases hx : y ∈ zts n
      · refine .inr ⟨hx, hx, ?_⟩
        show g y y = true
        rw [← c2 y hx y hx]
        unfold mMany
        rw [h.r y hx]
        simp
      · exact .inl ⟨rfl, .inr hx⟩
    · refine .inr ⟨hx, hy, ?_⟩
      show g x y = true
      rw [← c2 x hx y hy]
      unfold mMany
      rw [show f y x = true from k1]
      simp
open Classical in
/-- the tables of premises -/
noncomputable def subR (P : List Sen) : Tb := fun x y => decide (Rl P true x y)
open Classical in
noncomputable def manyR (P : List Sen) : Tb := fun x y => decide (Rl P false x y)
open Classical in
theorem subR_iff {P : List Sen} {x y : Int} : subR P x y = true ↔ Rl P true x y := by
  unfold subR
  exact decide_eq_true_iff
open Classical in
theorem manyR_iff {P : List Sen} {x y : Int} : manyR P x y = true ↔ Rl P false x y := by
  unfold manyR
  exact decide_eq_true_iff
theorem tabs_are {P : List Sen} {n : Nat} {f g : Tb} (hP : inR n P) (h : TabsOk P n f g) (c1 : tabOf n (mSub n f g) = tabOf n f) (c2 : tabOf n (mMany n f g) = tabOf n g) : tbF n f = tbF n (subR P) ∧ tbF n g = tbF n (manyR P) := by
  have full := fun {b x y} => tabs_full (b := b) (x := x) (y := y) hP h (fun x hx y hy => tabOf_inj c1 x hx y hy) (fun x hx y hy => tabOf_inj c2 x hx y hy)
  refine ⟨tbF_congr fun x hx y hy => ?_, tbF_congr fun x hx y hy => ?_⟩
  · rw [Bool.eq_iff_iff, subR_iff]
    refine ⟨h.s1 x hx y hy, fun r => ?_⟩
    rcases full r with ⟨rfl, _⟩ | ⟨_, _, k⟩
    · exact h.r x hx
    · exact k
  · rw [Bool.eq_iff_iff, manyR_iff]
    refine ⟨h.s2 x hx y hy, fun r => ?_⟩
    rcases full r with ⟨rfl, k | k⟩ | ⟨_, _, k⟩
    · cases k
    · exact absurd hx k
    · exact k
/-! ### the program comes to them -/
theorem mSub_congr {n : Nat} {f f' g g' : Tb} (h1 : ∀ x ∈ zts n, ∀ y ∈ zts n, f x y = f' x y) (h2 : ∀ x ∈ zts n, ∀ y ∈ zts n, g x y = g' x y) : ∀ x ∈ zts n, ∀ y ∈ zts n, mSub n f g x y = mSub n f' g' x y := fun x hx y hy => by
  unfold mSub leads
  rw [h1 y hy x hx, h2 y hy x hx]
  congr 1
  rw [Bool.eq_iff_iff, List.any_eq_true, List.any_eq_true]
  constructor
  · rintro ⟨z, hz, e⟩
    exact ⟨z, hz, by rw [← h1 x hx z hz, ← h1 z hz y hy]; exact e⟩
  · rintro ⟨z, hz, e⟩
    exact ⟨z, hz, by rw [h1 x hx z hz, h1 z hz y hy]; exact e⟩
theorem mMany_congr {n : Nat} {f f' g g' : Tb} (h1 : ∀ x ∈ zts n, ∀ y ∈ zts n, f x y = f' x y) (h2 : ∀ x ∈ zts n, ∀ y ∈ zts n, g x y = g' x y) : ∀ x ∈ zts n, ∀ y ∈ zts n, mMany n f g x y = mMany n f' g' x y := fun x hx y hy => by
  unfold mMany leads
  rw [h1 y hy x hx, h2 x hx y hy]
  congr 1
  congr 1
  rw [Bool.eq_iff_iff, List.any_eq_true, List.any_eq_true]
  constructor
  · rintro ⟨z, hz, e⟩
    exact ⟨z, hz, by rw [← h2 x hx z hz, ← h2 z hz y hy]; exact e⟩
  · rintro ⟨z, hz, e⟩
    exact ⟨z, hz, by rw [h2 x hx z hz, h2 z hz y hy]; exact e⟩
theorem tabOf_congr {n : Nat} {f f' : Tb} (h : ∀ x ∈ zts n, ∀ y ∈ zts n, f x y = f' x y) : tabOf n f = tabOf n f' :=
  List.map_congr_left fun x hx => List.map_congr_left fun y hy => h x hx y hy
/-- two tables, compared -/
theorem two_tabs {n : Nat} {f g f' g' : Tb} : neOp (.tup [tbF n f, tbF n g]) (.tup [tbF n f', tbF n g']) = some (.bl (!decide (tabOf n f = tabOf n f' ∧ tabOf n g = tabOf n g'))) := by
  have h1 := okD_tab 57 (tabOf n f)
  have h2 := okD_tab 57 (tabOf n g)
  have h3 := okD_tab 57 (tabOf n f')
  have h4 := okD_tab 57 (tabOf n g')
  unfold tbF
  rw [x_neOp, okD_tup60, okD_tup60, okDs_cons, okDs_cons, okDs_nil, okDs_cons, okDs_cons, okDs_nil, h1, h2, h3, h4]
  simp only [Bool.and_self, if_true, eq_tup_tup, eqDs_cons, eqDs_nil, eqD_tab, Bool.and_true]
  by_cases a : tabOf n f = tabOf n f' <;> by_cases b : tabOf n g = tabOf n g' <;> simp [a, b]
def wT : Ts := tV (eOp neOp (eV 7) (eTup (aCons (eV 5) (aCons (eV 6) (aNil)))))
def wB : Ss := sCons (sSet 7 (eTup (aCons (eV 5) (aCons (eV 6) (aNil)))))
  (sCons (sSet 5 (eCall (F__more_subsets) (aCons (eV 5) (aCons (eV 6) (aNil)))))
  (sSet 6 (eCall (F__more_at_least) (aCons (eV 5) (aCons (eV 6) (aNil))))))
theorem w_tabs {P : List Sen} {n : Nat} (hn : n ≤ 8) (hP : inR n P) {p0 p1 p2 p3 p4 p8 : Slot} {cs : List Cell} : ∀ (k m : Nat) (f g : Tb) (bD : D), TabsOk P n f g → 2 * (n * n) ≤ cntT n f + cntT n g + k → k + 2 ≤ m → neOp bD (.tup [tbF n f, tbF n g]) = some (.bl true) →
    whileN wT wB m ⟨[p0, p1, p2, p3, p4, .sv (tbF n f), .sv (tbF n g), .sv bD, p8], cs⟩ = .ok .nx ⟨[p0, p1, p2, p3, p4, .sv (tbF n (subR P)), .sv (tbF n (manyR P)), .sv (.tup [tbF n (subR P), tbF n (manyR P)]), p8], cs⟩ := by
  have turn : ∀ (m : Nat) (f g : Tb) (bD : D), neOp bD (.tup [tbF n f, tbF n g]) = some (.bl true) → whileN wT wB (m + 1) ⟨[p0, p1, p2, p3, p4, .sv (tbF n f), .sv (tbF n g), .sv bD, p8], cs⟩ =
      whileN wT wB m ⟨[p0, p1, p2, p3, p4, .sv (tbF n (mSub n f g)), .sv (tbF n (mMany n (mSub n f g) g)), .sv (.tup [tbF n f, tbF n g]), p8], cs⟩ := fun m f g bD hc => by
    rw [whileN_eq]
    have e1 : wT ⟨[p0, p1, p2, p3, p4, .sv (tbF n f), .sv (tbF n g), .sv bD, p8], cs⟩ = .ok true ⟨[p0, p1, p2, p3, p4, .sv (tbF n f), .sv (tbF n g), .sv bD, p8], cs⟩ := by
      simp [wT, hc, -x_neOp]
    have e2 : wB ⟨[p0, p1, p2, p3, p4, .sv (tbF n f), .sv (tbF n g), .sv bD, p8], cs⟩ = .ok .nx ⟨[p0, p1, p2, p3, p4, .sv (tbF n (mSub n f g)), .sv (tbF n (mMany n (mSub n f g) g)), .sv (.tup [tbF n f, tbF n g]), p8], cs⟩ := by
      simp [wB, p_more_subsets hn, p_more_at_least hn]
    rw [e1, bind_ok, if_pos rfl, e2, bind_ok, onNx_nx]
  intro k
  induction k with
  | zero =>
    intro m f g bD h hk hm hc
    obtain ⟨m, rfl⟩ : ∃ m', m = m' + 2 := ⟨m - 2, by omega⟩
    rw [turn (m + 1) f g bD hc]
    obtain ⟨h1, m1⟩ := h.step1 hP
    obtain ⟨h2, m2⟩ := h1.step2
    have q1 : tabOf n f = tabOf n (mSub n f g) := Classical.byContradiction fun z => by
      have := cntT_lt m1 z
      have := cntT_le n (mSub n f g)
      have := cntT_le n g
      omega
    have q2 : tabOf n g = tabOf n (mMany n (mSub n f g) g) := Classical.byContradiction fun z => by
      have := cntT_lt m2 z
      have := cntT_le n f
      have := cntT_le n (mMany n (mSub n f g) g)
      omega
    have a1 := tabOf_inj q1
    have a2 := tabOf_inj q2
    obtain ⟨r1, r2⟩ := tabs_are hP h2 (tabOf_congr fun x hx y hy => (mSub_congr (fun x hx y hy => (a1 x hx y hy).symm) (fun x hx y hy => (a2 x hx y hy).symm) x hx y hy)) (tabOf_congr fun x hx y hy => by
      rw [← a2 x hx y hy]
      rw [mMany_congr (f' := mSub n f g) (fun _ _ _ _ => rfl) (fun x hx y hy => (a2 x hx y hy).symm) x hx y hy, ← a2 x hx y hy])
    have e3 : tbF n f = tbF n (mSub n f g) := tbF_congr a1
    have e4 : tbF n g = tbF n (mMany n (mSub n f g) g) := tbF_congr a2
    rw [e3, e4] at *
    rw [r1, r2]
    rw [whileN_eq]
    simp [wT, two_tabs, -x_neOp]
  | succ k ih =>
    intro m f g bD h hk hm hc
    obtain ⟨m, rfl⟩ : ∃ m', m = m' + 2 := ⟨m - 2, by omega⟩
    rw [turn (m + 1) f g bD hc]
    obtain ⟨h1, m1⟩ := h.step1 hP
    obtain ⟨h2, m2⟩ := h1.step2
    by_cases q : tabOf n f = tabOf n (mSub n f g) ∧ tabOf n g = tabOf n (mMany n (mSub n f g) g)
    · obtain ⟨q1, q2⟩ := q
      have a1 := tabOf_inj q1
      have a2 := tabOf_inj q2
      obtain ⟨r1, r2⟩ := tabs_are hP h2 (tabOf_congr fun x hx y hy => (mSub_congr (fun x hx y hy => (a1 x hx y hy).symm) (fun x hx y hy => (a2 x hx y hy).symm) x hx y hy)) (tabOf_congr fun x hx y hy => by
        rw [← a2 x hx y hy]
        rw [mMany_congr (f' := mSub n f g) (fun _ _ _ _ => rfl) (fun x hx y hy => (a2 x hx y hy).symm) x hx y hy, ← a2 x hx y hy])
      have e3 : tbF n f = tbF n (mSub n f g) := tbF_congr a1
      have e4 : tbF n g = tbF n (mMany n (mSub n f g) g) := tbF_congr a2
      rw [e3, e4, r1, r2]
      rw [whileN_eq]
      simp [wT, two_tabs, -x_neOp]
    · have hc2 : neOp (.tup [tbF n f, tbF n g]) (.tup [tbF n (mSub n f g), tbF n (mMany n (mSub n f g) g)]) = some (.bl true) := by
        rw [two_tabs, decide_eq_false q]
        rfl
      refine ih (m + 1) _ _ _ h2 ?_ (by omega) hc2
      have l1 := cntT_mono m1
      have l2 := cntT_mono m2
      by_cases q1 : tabOf n f = tabOf n (mSub n f g)
      · have q2 : tabOf n g ≠ tabOf n (mMany n (mSub n f g) g) := fun z => q ⟨q1, z⟩
        have := cntT_lt m2 q2
        omega
      · have := cntT_lt m1 q1
        omega
theorem ne_none {l : List D} (h : okD 60 (.tup l) = true) : neOp .non (.tup l) = some (.bl true) := by
  rw [x_neOp, h]
  simp
def Sig.k (g : Sig) : Nat := g.n.toNat
theorem Sig.k_eq (g : Sig) : (g.k : Int) = g.n := by
  have := g.hn
  unfold Sig.k
  omega
theorem Sig.k_le (g : Sig) : g.k ≤ 4 := by
  have := g.hn4
  unfold Sig.k
  omega
theorem isN_iff {g : Sig} {x : Int} : isN g x ↔ x ∈ zts g.k := by
  rw [mem_zts, g.k_eq]
  rfl
theorem inR_of {g : Sig} {P : List Sen} (h : ∀ z ∈ P, z.ok g) : inR g.k P := fun w x y hm => by
  obtain ⟨_, hx, hy⟩ := h _ hm
  exact ⟨isN_iff.mp hx, isN_iff.mp hy⟩
theorem part_le (z : Sen) : z.part.length ≤ 1 ∧ z.cnt.length ≤ 1 := by
  unfold Sen.part Sen.cnt
  refine ⟨?_, ?_⟩ <;> split <;> simp
theorem flat_le1 {f : Sen → List Pr} (h : ∀ z, (f z).length ≤ 1) : ∀ l : List Sen, (l.flatMap f).length ≤ l.length
  | [] => Nat.le_refl _
  | z :: l => by
    have := flat_le1 h l
    have := h z
    rw [List.flatMap_cons, List.length_append, List.length_cons]
    omega
theorem p_tables_of {g : Sig} {P : List Sen} {cs : List Cell} (hP : ∀ z ∈ P, z.ok g) (hl : P.length ≤ 1000) : F_tables_of [.int g.n, .tup (P.map Sen.d)] cs = .ok (.tup [tbF g.k (subR P), tbF g.k (manyR P)]) ⟨[], cs⟩ := by
  have k4 := g.k_le
  have ek := g.k_eq
  have e0 : ∀ s1 : S, s1 = ⟨[.sv (.int g.n), .sv (.tup (P.map Sen.d)), .un, .un, .un, .un, .un, .un, .un], cs⟩ → (aLc [8] (iRn1 (aCons (eV 0) (aNil))) (gN 8) (Z.tYes) (eTup (aCons (eV 8) (aCons (eV 8) (aNil))))) s1 = .ok (((zts g.k).map fun x => (x, x)).map prD) s1 := by
    rintro s1 rfl
    rw [List.map_map]
    refine lcM (inj := D.int) (zts g.k) _ (rn1_ok (by omega) (by simp [ek])) (by simp; omega) (by simp) fun x hx => ?_
    simp [prD]
  obtain ⟨v, e1⟩ := forP (g := gN 4) (b := sCons (sIf (tV (eOp eqOp (eOp ixD (eV 4) (eC (.int 0))) (eC (.str 0)))) (sApp 2 (eSl (eV 4) (oEx (eC (.int 1))) (oNo))) (sNil))
  (sCons (sIf (tV (eOp eqOp (eOp ixD (eV 4) (eC (.int 0))) (eC (.str 4)))) (sApp 3 (eSl (eV 4) (oEx (eC (.int 1))) (oNo))) (sNil))
  (sIf (tV (eOp eqOp (eOp ixD (eV 4) (eC (.int 0))) (eC (.str 5)))) (sApp 3 (eTup (aCons (eOp ixD (eV 4) (eC (.int 2))) (aCons (eOp ixD (eV 4) (eC (.int 1))) (aNil))))) (sNil)))) (inj := Sen.d)
    (fun done (v : Slot) => ⟨[.sv (.int g.n), .sv (.tup (P.map Sen.d)), .own ((((zts g.k).map fun x => (x, x)) ++ done.flatMap Sen.part).map prD), .own ((done.flatMap Sen.cnt).map prD), v, .un, .un, .un, .un], cs⟩) P (fun done x rest v e => ⟨.sv x.d, by
      have hx := hP x (by rw [e]; simp)
      have l1 := flat_le1 (fun z => (part_le z).1) done
      have l2 := flat_le1 (fun z => (part_le z).2) done
      have l3 : done.length ≤ 1000 := by
        have := congrArg List.length e
        rw [List.length_append] at this
        omega
      have b2 : (done.flatMap Sen.cnt).length < 100000 := by omega
      have b1 : g.k + (done.flatMap Sen.part).length < 100000 := by omega
      cases x with
      | nn w x y =>
        rcases w6 hx.1 with rfl | rfl | rfl | rfl | rfl | rfl <;> simp [Sen.d, Sen.part, Sen.cnt, b1, b2, prD, -List.length_flatMap]
      | vb q x d v b p y => simp [Sen.d, Sen.part, Sen.cnt]
      | se q x d v => simp [Sen.d, Sen.part, Sen.cnt]⟩) .un
  simp only [List.flatMap_nil, List.append_nil, List.map_nil] at e1
  have t1 := p_table (n := g.k) (by omega) (l := ((zts g.k).map fun x => (x, x)) ++ P.flatMap Sen.part) (cs := cs)
  have t2 := p_table (n := g.k) (by omega) (l := P.flatMap Sen.cnt) (cs := cs)
  rw [ek] at t1 t2
  have hT : TabsOk P g.k (fun x y => decide ((x, y) ∈ ((zts g.k).map fun x => (x, x)) ++ P.flatMap Sen.part)) (fun x y => decide ((x, y) ∈ P.flatMap Sen.cnt)) := by
    refine ⟨fun x hx y hy e => ?_, fun x hx y hy e => ?_, fun x hx => ?_, fun x y hm => ?_, fun x y hm => ?_, fun x y hm => ?_⟩
    · rw [decide_eq_true_eq, List.mem_append] at e
      rcases e with e | e
      · obtain ⟨z, _, e⟩ := List.mem_map.mp e
        cases e
        exact .refl _
      · obtain ⟨z, hz, e⟩ := List.mem_flatMap.mp e
        unfold Sen.part at e
        split at e
        · rw [List.mem_singleton] at e
          cases e
          exact .all hz
        · cases e
    · rw [decide_eq_true_eq] at e
      obtain ⟨z, hz, e⟩ := List.mem_flatMap.mp e
      unfold Sen.cnt at e
      split at e
      · rw [List.mem_singleton] at e
        cases e
        exact .many hz
      · rw [List.mem_singleton] at e
        cases e
        exact .few hz
      · cases e
    · rw [decide_eq_true_eq, List.mem_append]
      exact .inl (List.mem_map.mpr ⟨x, hx, rfl⟩)
    · rw [decide_eq_true_eq, List.mem_append]
      exact .inr (List.mem_flatMap.mpr ⟨_, hm, by simp [Sen.part]⟩)
    · rw [decide_eq_true_eq]
      exact List.mem_flatMap.mpr ⟨_, hm, by simp [Sen.cnt]⟩
    · rw [decide_eq_true_eq]
      exact List.mem_flatMap.mpr ⟨_, hm, by simp [Sen.cnt]⟩
  have b16 : g.k * g.k ≤ 16 := Nat.mul_le_mul k4 k4
  have hw := w_tabs (by omega) (inR_of hP) (p0 := .sv (.int g.n)) (p1 := .sv (.tup (P.map Sen.d))) (p2 := .sv (.lst ((((zts g.k).map fun x => (x, x)) ++ P.flatMap Sen.part).map prD))) (p3 := .sv (.lst ((P.flatMap Sen.cnt).map prD))) (p4 := v) (p8 := .un) (cs := cs) 32 1000 _ _ .non hT (by omega) (by omega)
    (ne_none (by rw [okD_tup60, okDs_cons, okDs_cons, okDs_nil, tbF, tbF, okD_tab 57, okD_tab 57]; rfl))
  unfold wT wB at hw
  generalize (fun x y => decide ((x, y) ∈ ((zts g.k).map fun x => (x, x)) ++ P.flatMap Sen.part)) = f0 at t1 hT hw
  generalize (fun x y => decide ((x, y) ∈ P.flatMap Sen.cnt)) = g0 at t2 hT hw
  simp [F_tables_of, B_tables_of, e0, e1, t1, t2, hw, -List.map_map, -List.map_append]
/-! ## kinds -/
inductive Kd where
  | one (x : Int) | both (x y : Int) | mark (x : Int) (d : Bool) (v : Int) (b : Bool) (y : Int) | slf (x : Int) (d : Bool) (v : Int)
  deriving DecidableEq
def Kd.d : Kd → D
  | .one x => .tup [.str 8, .int x]
  | .both x y => .tup [.str 9, .int x, .int y]
  | .mark x d v b y => .tup [.str 10, .int x, .bl d, .int v, .bl b, .int y]
  | .slf x d v => .tup [.str 7, .int x, .bl d, .int v]
def Kd.ns : Kd → List Int
  | .one x => [x]
  | .both x y => [x, y]
  | .mark x _ _ _ _ => [x]
  | .slf x _ _ => [x]
def Kd.ok (g : Sig) : Kd → Prop
  | .one x => isN g x
  | .both x y => isN g x ∧ isN g y ∧ x < y
  | .mark x _ v _ y => isN g x ∧ isV g v ∧ isN g y
  | .slf x _ v => isN g x ∧ isV g v
def Kd.isOne : Kd → Bool
  | .one _ => true
  | _ => false
theorem Kd.nsD (k : Kd) : kindNs k.d = some k.ns := by cases k <;> rfl
theorem Kd.ns_ok {g : Sig} {k : Kd} (h : k.ok g) : ∀ x ∈ k.ns, isN g x := by
  cases k <;> simp [Kd.ns, Kd.ok] at h ⊢ <;> simp [h]
theorem Kd.eqD (k j : Kd) : Z.eqD k.d j.d = decide (k = j) := by
  cases k <;> cases j <;> simp [Kd.d]
  all_goals first | (rw [Bool.eq_iff_iff]; simp; done) | rfl
theorem Kd.okD (k : Kd) (n : Nat) : Z.okD (n + 1) k.d = true := by
  cases k <;> simp [Kd.d, Z.okD]
theorem kds_ok (n : Nat) : ∀ l : List Kd, okDs (n + 1) (l.map Kd.d) = true
  | [] => okDs_nil _
  | k :: l => by rw [List.map_cons, okDs_cons, k.okD, kds_ok]; rfl
theorem inD_kds (k : Kd) : ∀ l : List Kd, inD k.d (l.map Kd.d) = decide (k ∈ l)
  | [] => rfl
  | j :: l => by
    rw [List.map_cons, inD_cons, inD_kds, Kd.eqD]
    by_cases h : j = k
    · simp [h]
    · have : ¬ k = j := fun z => h z.symm
      simp [h, this]
theorem nin_kds (k : Kd) (l : List Kd) : notInOp k.d (.lst (l.map Kd.d)) = some (.bl (!decide (k ∈ l))) := by
  simp [notInOp, kds_ok 59, k.okD 59, inD_kds]
/-- the kinds that a sentence states -/
def Sen.states : Sen → List Kd
  | .nn 1 x y => if x = y then [.one x] else [.both (min x y) (max x y)]
  | .nn 2 x _ => [.one x]
  | .nn 5 _ y => [.one y]
  | .vb 1 x d v b p y => if p = 1 then [.one x, .one y] else [.mark x d v b y]
  | .se 1 x d v => [.slf x d v]
  | _ => []
theorem states_ok {g : Sig} {z : Sen} (h : z.ok g) : ∀ k ∈ z.states, k.ok g := by
  intro k hk
  cases z with
  | nn w x y =>
    obtain ⟨hw, hx, hy⟩ := h
    rcases w6 hw with rfl | rfl | rfl | rfl | rfl | rfl <;> simp [Sen.states] at hk
    · split at hk
      · rw [List.mem_singleton] at hk; subst hk; exact hx
      · rename_i hne
        rw [List.mem_singleton] at hk
        subst hk
        unfold Kd.ok isN
        have := hx.1; have := hx.2; have := hy.1; have := hy.2
        omega
    · subst hk; exact hx
    · subst hk; exact hy
  | vb q x d v b p y =>
    obtain ⟨hq, hx, hv, hp, hy⟩ := h
    rcases w2 hq with rfl | rfl <;> simp [Sen.states] at hk
    split at hk
    · simp at hk
      rcases hk with rfl | rfl
      · exact hx
      · exact hy
    · rw [List.mem_singleton] at hk; subst hk; exact ⟨hx, hv, hy⟩
  | se q x d v =>
    obtain ⟨hq, hx, hv⟩ := h
    rcases w2 hq with rfl | rfl <;> simp [Sen.states] at hk
    subst hk
    exact ⟨hx, hv⟩
theorem p_stated_by {g : Sig} {z : Sen} {cs : List Cell} (h : z.ok g) : F__stated_by [z.d] cs = .ok (.lst (z.states.map Kd.d)) ⟨[], cs⟩ := by
  cases z with
  | nn w x y =>
    rcases w6 h.1 with rfl | rfl | rfl | rfl | rfl | rfl
    · simp [F__stated_by, B__stated_by, Sen.d, Sen.states]
    · by_cases e : x = y
      · subst e
        simp [F__stated_by, B__stated_by, Sen.d, Sen.states, minTD, maxTD, intsD, Kd.d]
      · have e2 : ¬ min x y = max x y := by omega
        simp [F__stated_by, B__stated_by, Sen.d, Sen.states, minTD, maxTD, intsD, Kd.d, e, e2]
    all_goals simp [F__stated_by, B__stated_by, Sen.d, Sen.states, Kd.d]
  | vb q x d v b p y =>
    rcases w2 h.1 with rfl | rfl <;> rcases w2 h.2.2.2.1 with rfl | rfl <;> simp [F__stated_by, B__stated_by, Sen.d, Sen.states, Kd.d]
  | se q x d v => rcases w2 h.1 with rfl | rfl <;> simp [F__stated_by, B__stated_by, Sen.d, Sen.states, Kd.d]
def addK (acc : List Kd) (k : Kd) : List Kd := if k ∈ acc then acc else acc ++ [k]
/-- the stated kinds, each once -/
def statedL (P : List Sen) : List Kd := (P.flatMap Sen.states).foldl addK []
theorem addK_len (acc : List Kd) (k : Kd) : (addK acc k).length ≤ acc.length + 1 := by
  unfold addK
  split
  · omega
  · simp
theorem foldK_len : ∀ (l : List Kd) (acc : List Kd), (l.foldl addK acc).length ≤ acc.length + l.length
  | [], _ => Nat.le_refl _
  | k :: l, acc => by
    have h1 := foldK_len l (addK acc k)
    have h2 := addK_len acc k
    rw [List.foldl_cons, List.length_cons]
    omega
theorem states_len (z : Sen) : z.states.length ≤ 2 := by
  unfold Sen.states
  split <;> (try split) <;> simp
theorem statesL_len : ∀ P : List Sen, (P.flatMap Sen.states).length ≤ 2 * P.length
  | [] => Nat.le_refl _
  | z :: P => by
    have := statesL_len P
    have := states_len z
    rw [List.flatMap_cons, List.length_append, List.length_cons]
    omega
theorem statedL_len (P : List Sen) : (statedL P).length ≤ 2 * P.length := by
  have h1 := foldK_len (P.flatMap Sen.states) []
  have h2 := statesL_len P
  unfold statedL
  simp only [List.length_nil] at h1
  omega
theorem mem_foldK {k : Kd} : ∀ {l acc : List Kd}, k ∈ l.foldl addK acc ↔ k ∈ acc ∨ k ∈ l
  | [], acc => by simp
  | j :: l, acc => by
    rw [List.foldl_cons, mem_foldK, List.mem_cons]
    unfold addK
    split
    · rename_i h
      constructor
      · rintro (a | a)
        · exact .inl a
        · exact .inr (.inr a)
      · rintro (a | rfl | a)
        · exact .inl a
        · exact .inl h
        · exact .inr a
    · rw [List.mem_append, List.mem_singleton]
      constructor
      · rintro ((a | a) | a)
        · exact .inl a
        · exact .inr (.inl a)
        · exact .inr (.inr a)
      · rintro (a | a | a)
        · exact .inl (.inl a)
        · exact .inl (.inr a)
        · exact .inr a
theorem mem_statedL {k : Kd} {P : List Sen} : k ∈ statedL P ↔ ∃ z ∈ P, k ∈ z.states := by
  unfold statedL
  rw [mem_foldK]
  simp
theorem statedL_ok {g : Sig} {P : List Sen} (hP : ∀ z ∈ P, z.ok g) : ∀ k ∈ statedL P, k.ok g := fun k hk => by
  obtain ⟨z, hz, h⟩ := mem_statedL.mp hk
  exact states_ok (hP z hz) k h
theorem p_kinds_stated {g : Sig} {P : List Sen} {cs : List Cell} (hP : ∀ z ∈ P, z.ok g) (hl : P.length ≤ 1000) : F_kinds_stated [.tup (P.map Sen.d)] cs = .ok (.lst ((statedL P).map Kd.d)) ⟨[], cs⟩ := by
  obtain ⟨v, e1⟩ := forP (B := Slot × Slot) (g := gN 2) (b := sFor (iSeq (eCall (F__stated_by) (aCons (eV 2) (aNil)))) (gN 3) (sIf (tV (eOp notInOp (eV 3) (eVB 1))) (sApp 1 (eV 3)) (sNil))) (inj := Sen.d)
    (fun done v => ⟨[.sv (.tup (P.map Sen.d)), .own (((done.flatMap Sen.states).foldl addK []).map Kd.d), v.1, v.2], cs⟩) P (fun done z rest v e => by
      have hz := hP z (by rw [e]; simp)
      have l3 : done.length ≤ 1000 := by
        have := congrArg List.length e
        rw [List.length_append] at this
        omega
      have l1 := foldK_len (done.flatMap Sen.states) []
      have l2 := statesL_len done
      simp only [List.length_nil, Nat.zero_add] at l1
      generalize hacc : (done.flatMap Sen.states).foldl addK [] = acc at l1
      obtain ⟨w, e2⟩ := forP (g := gN 3) (b := sIf (tV (eOp notInOp (eV 3) (eVB 1))) (sApp 1 (eV 3)) (sNil)) (inj := Kd.d)
        (fun dn (w : Slot) => ⟨[.sv (.tup (P.map Sen.d)), .own ((dn.foldl addK acc).map Kd.d), .sv z.d, w], cs⟩) z.states (fun dn k rest w e => by
          have l4 := foldK_len dn acc
          have l5 : dn.length ≤ 2 := by
            have h2 := states_len z
            have h1 := congrArg List.length e
            rw [List.length_append] at h1
            omega
          have l6 : (dn.foldl addK acc).length < 100000 := by omega
          refine ⟨.sv k.d, ?_⟩
          by_cases hk : k ∈ dn.foldl addK acc
          · simp [nin_kds, hk, addK, -x_ninlst]
          · simp [nin_kds, hk, addK, l6, -x_ninlst]) v.2
      refine ⟨(.sv z.d, w), ?_⟩
      rw [List.flatMap_append, List.foldl_append, hacc]
      rw [List.foldl_nil] at e2
      simp [p_stated_by hz, e2]) (.un, .un)
  simp only [List.flatMap_nil, List.foldl_nil, List.map_nil] at e1
  unfold statedL
  simp [F_kinds_stated, B_kinds_stated, e1]
/-! ### nouns above a kind -/
def above (n : Nat) (f : Tb) (k : Kd) : List Int := (zts n).filter fun y => k.ns.any fun x => f x y
theorem aboveL_eq {n : Nat} {f : Tb} {k : Kd} (h : ∀ x ∈ k.ns, x ∈ zts n) : aboveL (tabOf n f) k.ns = above n f k := by
  unfold aboveL above
  rw [tabOf_len]
  show (zts n).filter _ = _
  refine List.filter_congr fun y hy => ?_
  rw [mem_zts] at hy
  rw [Bool.eq_iff_iff, List.any_eq_true, List.any_eq_true]
  constructor
  · rintro ⟨x, hx, e⟩
    exact ⟨x, hx, by rw [tbl_tab (mem_zts.mp (h x hx)) hy] at e; exact e⟩
  · rintro ⟨x, hx, e⟩
    exact ⟨x, hx, by rw [tbl_tab (mem_zts.mp (h x hx)) hy]; exact e⟩
theorem kd_in {g : Sig} {k : Kd} (h : k.ok g) : ∀ x ∈ k.ns, x ∈ zts g.k := fun x hx => isN_iff.mp (Kd.ns_ok h x hx)
theorem p_over {g : Sig} {k : Kd} {f : Tb} {cs : List Cell} (h : k.ok g) : F_nouns_over [tbF g.k f, k.d] cs = .ok (.tup ((above g.k f k).map D.int)) ⟨[], cs⟩ := by
  have e := p_nouns_over (rows := tabOf g.k f) (cs := cs) k.nsD (by rw [tabOf_len]; have := g.k_le; omega) (fun r hr => by rw [tabOf_len]; exact tabOf_rows r hr) (fun x hx => by
    rw [tabOf_len]
    exact mem_zts.mp (kd_in h x hx))
  rw [aboveL_eq (kd_in h)] at e
  exact e
theorem aboveD_eq {g : Sig} {k : Kd} {f : Tb} (h : k.ok g) : aboveD (tbF g.k f) k.d = some (.tup ((above g.k f k).map D.int)) := by
  have e1 : rowsD ((tabOf g.k f).map rwD) = some (tabOf g.k f) := rowsD_map _
  have hr : kRng k.d = true := by
    have := g.hn4; have := g.hv2
    cases k <;> simp [Kd.ok, isN, isV] at h <;> simp [Kd.d, kRng] <;> omega
  unfold tbF tabD aboveD
  rw [k.nsD]
  dsimp only
  rw [e1]
  dsimp only
  rw [tabOf_len, if_pos ⟨hr, by have := g.k_le; omega, List.all_eq_true.mpr fun r hr => by rw [tabOf_rows r hr]; exact beq_self_eq_true _, List.all_eq_true.mpr fun x hx => by
    have := mem_zts.mp (kd_in h x hx)
    simp [this]⟩, aboveL_eq (kd_in h)]
theorem above_sub {n : Nat} {f : Tb} {k : Kd} : ∀ y ∈ above n f k, y ∈ zts n := fun y hy => (List.mem_filter.mp hy).1
theorem above_len (n : Nat) (f : Tb) (k : Kd) : (above n f k).length ≤ n := by
  have := List.length_filter_le (fun y => k.ns.any fun x => f x y) (zts n)
  rw [zts_length] at this
  exact this
/-! ## required nouns and kinds -/
/-- a loop that returns one thing if it finds one -/
theorem forAny {α B : Type} {g : Tg} {b : Ss} {inj : α → D} (mk : B → S) (tb : α → Bool) (c : D) : ∀ (xs : List α) (v : B), (∀ x ∈ xs, ∀ v, ∃ v', ((g (inj x) (mk v)).bind fun _ s1 => b s1) = .ok (if tb x = true then .rt c else .nx) (mk v')) →
    ∃ v', forL g b (xs.map inj) (mk v) = .ok (if xs.any tb = true then .rt c else .nx) (mk v')
  | [], v, _ => ⟨v, forL_nil⟩
  | x :: xs, v, h => by
    obtain ⟨v1, e1⟩ := h x List.mem_cons_self v
    obtain ⟨v2, e2⟩ := forAny mk tb c xs v1 fun y hy => h y (List.mem_cons_of_mem _ hy)
    rw [List.map_cons, forL_cons]
    rw [show (g (inj x) (mk v)).bind (fun _ s1 => (b s1).bind fun fl s2 => onNx fl s2 (forL g b (xs.map inj))) = ((g (inj x) (mk v)).bind fun _ s1 => b s1).bind fun fl s2 => onNx fl s2 (forL g b (xs.map inj)) from by cases g (inj x) (mk v) <;> rfl]
    rw [e1, bind_ok, List.any_cons]
    cases ht : tb x with
    | true => exact ⟨v1, by simp⟩
    | false => exact ⟨v2, by simpa using e2⟩
/-- a sentence that says: all x do it, or not, to some y -/
def Sen.needs (x y : Int) : Sen → Bool
  | .vb 0 a _ _ _ 1 b => a == x && b == y
  | _ => false
def needB (P : List Sen) (f g : Tb) (x y : Int) : Bool := f x y || g y x || P.any (Sen.needs x y)
theorem p_needs {g : Sig} {P : List Sen} {f f' : Tb} {x y : Int} {cs : List Cell} (hP : ∀ z ∈ P, z.ok g) (hx : isN g x) (hy : isN g y) : F__needs [tbF g.k f, tbF g.k f', .tup (P.map Sen.d), .int x, .int y] cs = .ok (.bl (needB P f f' x y)) ⟨[], cs⟩ := by
  have hx' := mem_zts.mp (isN_iff.mp hx)
  have hy' := mem_zts.mp (isN_iff.mp hy)
  obtain ⟨v, e1⟩ := forAny (g := gN 5) (b := sIf (tA (tV (eOp eqOp (eSl (eV 5) (oNo) (oEx (eC (.int 3)))) (eTup (aCons (eC (.str 6)) (aCons (eC (.str 0)) (aCons (eV 3) (aNil))))))) (tV (eOp eqOp (eSl (eV 5) (oEx (eC (.int 6))) (oNo)) (eTup (aCons (eC (.str 1)) (aCons (eV 4) (aNil))))))) (sRet (eC (.bl true))) (sNil)) (inj := Sen.d)
    (fun v => ⟨[.sv (tbF g.k f), .sv (tbF g.k f'), .sv (.tup (P.map Sen.d)), .sv (.int x), .sv (.int y), v], cs⟩) (Sen.needs x y) (.bl true) P .un fun z hz v => ⟨.sv z.d, by
      have hzo := hP z hz
      cases z with
      | nn w a b =>
        rcases w6 hzo.1 with rfl | rfl | rfl | rfl | rfl | rfl <;> simp [Sen.d, Sen.needs, cut_to, cut_from]
      | vb q a d v b p c =>
        rcases w2 hzo.1 with rfl | rfl <;> rcases w2 hzo.2.2.2.1 with rfl | rfl
        · simp [Sen.d, Sen.needs, cut_to, cut_from]
        · by_cases h1 : a = x
          · by_cases h2 : c = y
            · simp [Sen.d, Sen.needs, cut_to, cut_from, h1, h2]
            · simp [Sen.d, Sen.needs, cut_to, cut_from, h1, h2]
          · simp [Sen.d, Sen.needs, cut_to, cut_from, h1]
        all_goals simp [Sen.d, Sen.needs, cut_to, cut_from]
      | se q a d v => rcases w2 hzo.1 with rfl | rfl <;> simp [Sen.d, Sen.needs, cut_to, cut_from]⟩
  unfold needB
  cases h1 : f x y with
  | true => simp [F__needs, B__needs, tbF_at hx', rwF_at hy', h1]
  | false =>
    cases h2 : f' y x with
    | true => simp [F__needs, B__needs, tbF_at hx', rwF_at hy', tbF_at hy', rwF_at hx', h1, h2]
    | false =>
      cases h3 : P.any (Sen.needs x y) with
      | true =>
        rw [h3] at e1
        simp [F__needs, B__needs, tbF_at hx', rwF_at hy', tbF_at hy', rwF_at hx', h1, h2, e1]
      | false =>
        rw [h3] at e1
        simp at e1
        simp [F__needs, B__needs, tbF_at hx', rwF_at hy', tbF_at hy', rwF_at hx', h1, h2, e1]
inductive Req (P : List Sen) : Int → Prop
  | kind {k : Kd} {z : Sen} {x y : Int} : z ∈ P → k ∈ z.states → x ∈ k.ns → Rl P true x y → Req P y
  | sub {x y : Int} : Req P x → Rl P true x y → Req P y
  | many {x y : Int} : Req P x → Rl P false y x → Req P y
  | verb {x y : Int} {d b : Bool} {v : Int} : Req P x → Sen.vb 0 x d v b 1 y ∈ P → Req P y
open Classical in
noncomputable def reqB (P : List Sen) (x : Int) : Bool := decide (Req P x)
open Classical in
theorem reqB_iff {P : List Sen} {x : Int} : reqB P x = true ↔ Req P x := by
  unfold reqB
  exact decide_eq_true_iff
/-- the required nouns -/
noncomputable def reqL (P : List Sen) (n : Nat) : List Int := (zts n).filter (reqB P)
theorem needs_iff {P : List Sen} {x y : Int} : P.any (Sen.needs x y) = true ↔ ∃ d v b, Sen.vb 0 x d v b 1 y ∈ P := by
  rw [List.any_eq_true]
  constructor
  · rintro ⟨z, hz, e⟩
    unfold Sen.needs at e
    split at e
    · rw [Bool.and_eq_true, beq_iff_eq, beq_iff_eq] at e
      obtain ⟨rfl, rfl⟩ := e
      exact ⟨_, _, _, hz⟩
    · cases e
  · rintro ⟨d, v, b, hz⟩
    exact ⟨_, hz, by simp [Sen.needs]⟩
theorem needB_iff {P : List Sen} {x y : Int} : needB P (subR P) (manyR P) x y = true ↔ Rl P true x y ∨ Rl P false y x ∨ ∃ d v b, Sen.vb 0 x d v b 1 y ∈ P := by
  unfold needB
  rw [Bool.or_eq_true, Bool.or_eq_true, subR_iff, manyR_iff, needs_iff, or_assoc]
theorem req_need {P : List Sen} {x y : Int} (h : Req P x) (e : needB P (subR P) (manyR P) x y = true) : Req P y := by
  rcases needB_iff.mp e with h1 | h1 | ⟨d, v, b, h1⟩
  · exact .sub h h1
  · exact .many h h1
  · exact .verb h h1
/-- what is reached at first -/
def addL (acc l : List Int) : List Int := acc ++ l.filter fun x => !decide (x ∈ acc)
theorem mem_addL {acc l : List Int} {x : Int} : x ∈ addL acc l ↔ x ∈ acc ∨ x ∈ l := by
  unfold addL
  rw [List.mem_append, List.mem_filter]
  by_cases h : x ∈ acc <;> simp [h]
theorem nodup_addL {acc l : List Int} (h : acc.Nodup) (hl : l.Nodup) : (addL acc l).Nodup := by
  unfold addL
  rw [List.nodup_append]
  refine ⟨h, hl.filter _, fun a ha b hb => ?_⟩
  rintro rfl
  have := (List.mem_filter.mp hb).2
  simp [ha] at this
theorem zts_nodup (n : Nat) : (zts n).Nodup := by
  unfold zts
  rw [List.nodup_iff_pairwise_ne, List.pairwise_map]
  exact List.pairwise_lt_range.imp fun h => by omega
theorem zts_sorted (n : Nat) : (zts n).Pairwise (· ≤ ·) := by
  unfold zts
  rw [List.pairwise_map]
  exact List.pairwise_lt_range.imp fun h => by omega
theorem nodup_len {n : Nat} {l : List Int} (h : l.Nodup) (hl : ∀ x ∈ l, x ∈ zts n) : l.length ≤ n := by
  have := few_below n (l.map Int.toNat) (by
    rw [List.nodup_iff_pairwise_ne, List.pairwise_map]
    rw [List.nodup_iff_pairwise_ne] at h
    refine List.Pairwise.imp_of_mem ?_ h
    intro a b ha hb hne
    have h1 := mem_zts.mp (hl a ha)
    have h2 := mem_zts.mp (hl b hb)
    omega) fun x hx => by
    obtain ⟨y, hy, rfl⟩ := List.mem_map.mp hx
    have := mem_zts.mp (hl y hy)
    omega
  simpa using this
theorem sort_is {n : Nat} {l : List Int} {p : Int → Bool} (h : l.Nodup) (hl : ∀ x, x ∈ l ↔ x ∈ zts n ∧ p x = true) : sortZ l = (zts n).filter p := by
  refine (sortZ_unique ?_ ((zts_sorted n).filter _)).symm
  rw [List.perm_ext_iff_of_nodup ((zts_nodup n).filter _) h]
  intro x
  rw [List.mem_filter, hl x]
/-- what the second loop keeps -/
structure NdOk (P : List Sen) (n : Nat) (A0 : List Int) (L : List Int) (i : Nat) : Prop where
  nd : L.Nodup
  rg : ∀ x ∈ L, x ∈ zts n ∧ Req P x
  a0 : ∀ x ∈ A0, x ∈ L
  at_ : i ≤ L.length
  cl : ∀ j x, j < i → L[j]? = some x → ∀ y ∈ zts n, needB P (subR P) (manyR P) x y = true → y ∈ L
theorem NdOk.done {P : List Sen} {n : Nat} {A0 L : List Int} (hP : inR n P) (hv : ∀ x d v b y, Sen.vb 0 x d v b 1 y ∈ P → y ∈ zts n) (hk : ∀ z ∈ P, ∀ k ∈ z.states, ∀ x ∈ k.ns, x ∈ zts n) (hA : ∀ z ∈ P, ∀ k ∈ z.states, ∀ x ∈ k.ns, ∀ y ∈ zts n, Rl P true x y → y ∈ A0) (h : NdOk P n A0 L L.length) : ∀ y, Req P y → y ∈ L := by
  have rng : ∀ {b : Bool} {x y : Int}, Rl P b x y → (b = true ∧ x = y) ∨ (x ∈ zts n ∧ y ∈ zts n) ∨ x = y := by
    intro b x y r
    induction r with
    | refl x => exact .inl ⟨rfl, rfl⟩
    | all hm => exact .inr (.inl (hP _ _ _ hm))
    | tr _ _ ih1 ih2 =>
      rcases ih1 with ⟨_, rfl⟩ | ⟨h1, h2⟩ | rfl
      · exact ih2
      · rcases ih2 with ⟨_, rfl⟩ | ⟨h3, h4⟩ | rfl
        · exact .inr (.inl ⟨h1, h2⟩)
        · exact .inr (.inl ⟨h1, h4⟩)
        · exact .inr (.inl ⟨h1, h2⟩)
      · exact ih2
    | eq _ _ ih1 _ =>
      rcases ih1 with ⟨_, rfl⟩ | ⟨h1, h2⟩ | rfl
      · exact .inr (.inr rfl)
      · exact .inr (.inl ⟨h2, h1⟩)
      · exact .inr (.inr rfl)
    | many hm => exact .inr (.inl (hP _ _ _ hm))
    | few hm => exact .inr (.inl ⟨(hP _ _ _ hm).2, (hP _ _ _ hm).1⟩)
    | sub _ ih =>
      rcases ih with ⟨_, rfl⟩ | ⟨h1, h2⟩ | rfl
      · exact .inr (.inr rfl)
      · exact .inr (.inl ⟨h2, h1⟩)
      · exact .inr (.inr rfl)
  have go : ∀ x y, x ∈ L → y ∈ zts n → needB P (subR P) (manyR P) x y = true → y ∈ L := fun x y hx hy e => by
    obtain ⟨j, hj, e1⟩ := List.mem_iff_getElem.mp hx
    exact h.cl j x hj (by rw [List.getElem?_eq_getElem hj, e1]) y hy e
  intro y r
  induction r with
  | kind hz hkz hx r =>
    have hxz := hk _ hz _ hkz _ hx
    refine h.a0 _ (hA _ hz _ hkz _ hx _ ?_ r)
    rcases rng r with ⟨_, rfl⟩ | ⟨_, h2⟩ | rfl
    · exact hxz
    · exact h2
    · exact hxz
  | @sub x y _ r ih =>
    rcases rng r with ⟨_, rfl⟩ | ⟨_, h2⟩ | rfl
    · exact ih
    · exact go x y ih h2 (needB_iff.mpr (.inl r))
    · exact ih
  | @many x y _ r ih =>
    rcases rng r with ⟨_, rfl⟩ | ⟨h2, _⟩ | rfl
    · exact ih
    · exact go x y ih h2 (needB_iff.mpr (.inr (.inl r)))
    · exact ih
  | @verb x y d b v _ hm ih => exact go x y ih (hv _ _ _ _ _ hm) (needB_iff.mpr (.inr (.inr ⟨_, _, _, hm⟩)))
def ndT : Ts := tV (eOp ltD (eV 5) (eC1 lenD (eVB 3)))
def ndB : Ss := sCons (sSet 6 (eF (aLc [7] (iRn1 (aCons (eC1 lenD (eVB 0)) (aNil))) (gN 7) (tA (tV (eOp notInOp (eV 7) (eVB 3))) (tU (eCall (F__needs) (aCons (eV 0) (aCons (eV 1) (aCons (eV 2) (aCons (eOpL ixD 3 (eV 5)) (aCons (eV 7) (aNil))))))))) (eV 7))))
  (sCons (sExt 3 (eV 6))
  (sAug addI 5 (eC (.int 1))))
theorem w_needed {g : Sig} {P : List Sen} (hP : ∀ z ∈ P, z.ok g) {A0 : List Int} {p4 : Slot} {cs : List Cell} : ∀ (k m i : Nat) (L : List Int) (q6 : Slot), NdOk P g.k A0 L i → g.k + 1 ≤ i + k → k < m →
    ∃ (L' : List Int) (q6' : Slot), NdOk P g.k A0 L' L'.length ∧ whileN ndT ndB m ⟨[.sv (tbF g.k (subR P)), .sv (tbF g.k (manyR P)), .sv (.tup (P.map Sen.d)), .own (L.map D.int), p4, .sv (.int i), q6, .un, .un], cs⟩ = .ok .nx ⟨[.sv (tbF g.k (subR P)), .sv (tbF g.k (manyR P)), .sv (.tup (P.map Sen.d)), .own (L'.map D.int), p4, .sv (.int L'.length), q6', .un, .un], cs⟩ := by
  have k4 := g.k_le
  intro k
  induction k with
  | zero =>
    intro m i L q6 h hk hm
    have := nodup_len h.nd fun x hx => (h.rg x hx).1
    have := h.at_
    omega
  | succ k ih =>
    intro m i L q6 h hk hm
    obtain ⟨m, rfl⟩ : ∃ m', m = m' + 1 := ⟨m - 1, by omega⟩
    rw [whileN_eq]
    have hL4 := nodup_len h.nd fun x hx => (h.rg x hx).1
    by_cases hi : i < L.length
    · have e1 : ndT ⟨[.sv (tbF g.k (subR P)), .sv (tbF g.k (manyR P)), .sv (.tup (P.map Sen.d)), .own (L.map D.int), p4, .sv (.int i), q6, .un, .un], cs⟩ = .ok true ⟨[.sv (tbF g.k (subR P)), .sv (tbF g.k (manyR P)), .sv (.tup (P.map Sen.d)), .own (L.map D.int), p4, .sv (.int i), q6, .un, .un], cs⟩ := by
        simp [ndT, hi]
      have hx := List.getElem?_eq_getElem hi
      generalize hxe : L[i] = x at hx
      have hxL : x ∈ L := List.mem_of_getElem? hx
      obtain ⟨hxz, hxr⟩ := h.rg x hxL
      have e2 : ∀ s1 : S, s1 = ⟨[.sv (tbF g.k (subR P)), .sv (tbF g.k (manyR P)), .sv (.tup (P.map Sen.d)), .own (L.map D.int), p4, .sv (.int i), q6, .un, .un], cs⟩ →
          (aLc [7] (iRn1 (aCons (eC1 lenD (eVB 0)) (aNil))) (gN 7) (tA (tV (eOp notInOp (eV 7) (eVB 3))) (tU (eCall (F__needs) (aCons (eV 0) (aCons (eV 1) (aCons (eV 2) (aCons (eOpL ixD 3 (eV 5)) (aCons (eV 7) (aNil))))))))) (eV 7)) s1 =
          .ok (((zts g.k).filter fun y => !decide (y ∈ L) && needB P (subR P) (manyR P) x y).map D.int) s1 := by
        rintro s1 rfl
        refine lcT (inj := D.int) (zts g.k) _ D.int (rn1_ok (by omega) (by simp [tbF_len])) (by simp; omega) (by simp) fun y hy => ⟨?_, fun _ => by simp⟩
        have en := p_needs (f := subR P) (f' := manyR P) (cs := cs) hP (isN_iff.mpr hxz) (isN_iff.mpr hy)
        have ea : atI (L.map D.int) (i : Int) = some (.int x) := by
          rw [Z.atI_nat, List.getElem?_map, hx]
          rfl
        by_cases hyL : y ∈ L
        · simp [nin_intsL, hyL, -x_ninlst]
        · simp [nin_intsL, hyL, ea, en, -x_ninlst]
      have hlen : L.length + ((zts g.k).filter fun y => !decide (y ∈ L) && needB P (subR P) (manyR P) x y).length ≤ 100000 := by
        have := List.length_filter_le (fun y => !decide (y ∈ L) && needB P (subR P) (manyR P) x y) (zts g.k)
        rw [zts_length] at this
        omega
      have e3 : ndB ⟨[.sv (tbF g.k (subR P)), .sv (tbF g.k (manyR P)), .sv (.tup (P.map Sen.d)), .own (L.map D.int), p4, .sv (.int i), q6, .un, .un], cs⟩ =
          .ok .nx ⟨[.sv (tbF g.k (subR P)), .sv (tbF g.k (manyR P)), .sv (.tup (P.map Sen.d)), .own ((L ++ (zts g.k).filter fun y => !decide (y ∈ L) && needB P (subR P) (manyR P) x y).map D.int), p4, .sv (.int (i + 1 : Nat)), .sv (.lst (((zts g.k).filter fun y => !decide (y ∈ L) && needB P (subR P) (manyR P) x y).map D.int)), .un, .un], cs⟩ := by
        generalize hN : ((zts g.k).filter fun y => !decide (y ∈ L) && needB P (subR P) (manyR P) x y) = N at e2 hlen
        simp [ndB, e2, hlen, addI]
      rw [e1, bind_ok, if_pos rfl, e3, bind_ok, onNx_nx]
      refine ih m (i + 1) _ _ ⟨?_, ?_, fun a ha => List.mem_append.mpr (.inl (h.a0 a ha)), by rw [List.length_append]; omega, ?_⟩ (by omega) (by omega)
      · rw [List.nodup_append]
        refine ⟨h.nd, (zts_nodup _).filter _, fun a ha b hb => ?_⟩
        rintro rfl
        have := (List.mem_filter.mp hb).2
        simp [ha] at this
      · intro a ha
        rcases List.mem_append.mp ha with ha | ha
        · exact h.rg a ha
        · obtain ⟨h1, h2⟩ := List.mem_filter.mp ha
          rw [Bool.and_eq_true] at h2
          exact ⟨h1, req_need hxr h2.2⟩
      · intro j a hj ea y hy e
        rw [List.mem_append]
        by_cases hyL : y ∈ L
        · exact .inl hyL
        · by_cases hji : j < i
          · rw [List.getElem?_append_left (by omega)] at ea
            exact .inl (h.cl j a hji ea y hy e)
          · have : j = i := by omega
            subst this
            rw [List.getElem?_append_left hi, hx] at ea
            cases ea
            exact .inr (List.mem_filter.mpr ⟨hy, by simp [hyL, e]⟩)
    · have hie : i = L.length := by
        have := h.at_
        omega
      subst hie
      refine ⟨L, q6, h, ?_⟩
      simp [ndT]
theorem p_nouns_needed {g : Sig} {P : List Sen} {cs : List Cell} (hP : ∀ z ∈ P, z.ok g) (hl : P.length ≤ 1000) : F_nouns_needed [tbF g.k (subR P), tbF g.k (manyR P), .tup (P.map Sen.d)] cs = .ok (.tup ((reqL P g.k).map D.int)) ⟨[], cs⟩ := by
  have k4 := g.k_le
  have hko := statedL_ok hP
  have ind : ∀ l : List Kd, (∀ k ∈ l, k.ok g) → (l.foldl (fun acc k => addL acc (above g.k (subR P) k)) []).Nodup ∧ ∀ x, x ∈ l.foldl (fun acc k => addL acc (above g.k (subR P) k)) [] ↔ ∃ k ∈ l, x ∈ above g.k (subR P) k := by
    have key : ∀ (l : List Kd) (acc : List Int), acc.Nodup → (l.foldl (fun acc k => addL acc (above g.k (subR P) k)) acc).Nodup ∧ ∀ x, x ∈ l.foldl (fun acc k => addL acc (above g.k (subR P) k)) acc ↔ x ∈ acc ∨ ∃ k ∈ l, x ∈ above g.k (subR P) k := by
      intro l
      induction l with
      | nil => intro acc h; exact ⟨h, fun x => by simp⟩
      | cons k l ih =>
        intro acc h
        obtain ⟨h1, h2⟩ := ih (addL acc (above g.k (subR P) k)) (nodup_addL h ((zts_nodup _).filter _))
        refine ⟨h1, fun x => ?_⟩
        rw [List.foldl_cons, h2, mem_addL]
        simp only [List.mem_cons]
        constructor
        · rintro ((a | a) | ⟨j, hj, a⟩)
          · exact .inl a
          · exact .inr ⟨k, .inl rfl, a⟩
          · exact .inr ⟨j, .inr hj, a⟩
        · rintro (a | ⟨j, rfl | hj, a⟩)
          · exact .inl (.inl a)
          · exact .inl (.inr a)
          · exact .inr ⟨j, hj, a⟩
    intro l _
    obtain ⟨h1, h2⟩ := key l [] List.nodup_nil
    exact ⟨h1, fun x => by rw [h2]; simp⟩
  obtain ⟨v, e1⟩ := forP (g := gN 4) (b := sExt 3 (eF (aLc [8] (iSeq (eCall (F_nouns_over) (aCons (eV 0) (aCons (eV 4) (aNil))))) (gN 8) (tV (eOp notInOp (eV 8) (eVB 3))) (eV 8)))) (inj := Kd.d)
    (fun done (v : Slot) => ⟨[.sv (tbF g.k (subR P)), .sv (tbF g.k (manyR P)), .sv (.tup (P.map Sen.d)), .own ((done.foldl (fun acc k => addL acc (above g.k (subR P) k)) []).map D.int), v, .un, .un, .un, .un], cs⟩) (statedL P) (fun done k rest v e => ⟨.sv k.d, by
      have hk := hko k (by rw [e]; simp)
      obtain ⟨n1, n2⟩ := ind done fun j hj => hko j (by rw [e]; simp [hj])
      have hlen : (done.foldl (fun acc k => addL acc (above g.k (subR P) k)) []).length ≤ g.k := nodup_len n1 fun x hx => by
        obtain ⟨j, _, hj⟩ := (n2 x).mp hx
        exact above_sub x hj
      rw [List.foldl_append, List.foldl_cons, List.foldl_nil]
      generalize (done.foldl (fun acc k => addL acc (above g.k (subR P) k)) []) = acc at hlen
      have e2 : ∀ s1 : S, s1 = ⟨[.sv (tbF g.k (subR P)), .sv (tbF g.k (manyR P)), .sv (.tup (P.map Sen.d)), .own (acc.map D.int), .sv k.d, .un, .un, .un, .un], cs⟩ →
          (aLc [8] (iSeq (eCall (F_nouns_over) (aCons (eV 0) (aCons (eV 4) (aNil))))) (gN 8) (tV (eOp notInOp (eV 8) (eVB 3))) (eV 8)) s1 = .ok (((above g.k (subR P) k).filter fun x => !decide (x ∈ acc)).map D.int) s1 := by
        rintro s1 rfl
        have := above_len g.k (subR P) k
        refine lcT (inj := D.int) (above g.k (subR P) k) _ D.int (by simp [p_over hk]) (by omega) (by simp) fun y hy => ⟨?_, fun _ => by simp⟩
        simp [nin_intsL, -x_ninlst]
      have h3 : acc.length + ((above g.k (subR P) k).filter fun x => !decide (x ∈ acc)).length ≤ 100000 := by
        have h1 := List.length_filter_le (fun x => !decide (x ∈ acc)) (above g.k (subR P) k)
        have h2 := above_len g.k (subR P) k
        omega
      unfold addL
      generalize ((above g.k (subR P) k).filter fun x => !decide (x ∈ acc)) = N at e2 h3
      simp [e2, h3]⟩) .un
  obtain ⟨n1, n2⟩ := ind (statedL P) hko
  generalize hA : (statedL P).foldl (fun acc k => addL acc (above g.k (subR P) k)) [] = A0 at e1 n1 n2
  have hst : ∀ x, x ∈ A0 ↔ ∃ k ∈ statedL P, x ∈ above g.k (subR P) k := n2
  have h0 : NdOk P g.k A0 A0 0 := by
    refine ⟨n1, fun x hx => ?_, fun x hx => hx, Nat.zero_le _, fun j x hj => by omega⟩
    obtain ⟨k, hk, hx⟩ := (hst x).mp hx
    obtain ⟨h1, h2⟩ := List.mem_filter.mp hx
    obtain ⟨y, hy, e⟩ := List.any_eq_true.mp h2
    obtain ⟨z, hz, hkz⟩ := mem_statedL.mp hk
    exact ⟨h1, .kind hz hkz hy (subR_iff.mp e)⟩
  obtain ⟨L, q6, hL, e2⟩ := w_needed hP (p4 := v) (cs := cs) (g.k + 1) 1000 0 A0 .un h0 (by omega) (by omega)
  have hfull := hL.done (inR_of hP) (fun x d v b y hm => isN_iff.mp (hP _ hm).2.2.2.2) (fun z hz k hk x hx => kd_in (states_ok (hP z hz) k hk) x hx) (fun z hz k hk x hx y hy r => (hst y).mpr ⟨k, mem_statedL.mpr ⟨z, hz, hk⟩, List.mem_filter.mpr ⟨hy, List.any_eq_true.mpr ⟨x, hx, subR_iff.mpr r⟩⟩⟩)
  have hs : sortZ L = reqL P g.k := sort_is hL.nd fun x => ⟨fun hx => ⟨(hL.rg x hx).1, reqB_iff.mpr (hL.rg x hx).2⟩, fun h => hfull x (reqB_iff.mp h.2)⟩
  have hlen := nodup_len hL.nd fun x hx => (hL.rg x hx).1
  simp only [List.foldl_nil, List.map_nil] at e1
  unfold ndT ndB at e2
  simp only [Int.ofNat_eq_natCast, Int.natCast_zero] at e2
  have hl64 : L.length < 64 := by omega
  simp [F_nouns_needed, B_nouns_needed, p_kinds_stated hP hl, e1, e2, hs, hl64]
/-- the required kinds -/
noncomputable def kindsR (P : List Sen) (n : Nat) : List Kd := (reqL P n).map Kd.one ++ (statedL P).filter fun k => !k.isOne
theorem kindsR_len {P : List Sen} {n : Nat} : (kindsR P n).length ≤ n + 2 * P.length := by
  unfold kindsR reqL
  have h1 := List.length_filter_le (reqB P) (zts n)
  have h2 := List.length_filter_le (fun k : Kd => !k.isOne) (statedL P)
  have h3 := statedL_len P
  rw [zts_length] at h1
  rw [List.length_append, List.length_map]
  omega
theorem p_kinds_needed {g : Sig} {P : List Sen} {cs : List Cell} (hP : ∀ z ∈ P, z.ok g) (hl : P.length ≤ 1000) : F_kinds_needed [tbF g.k (subR P), tbF g.k (manyR P), .tup (P.map Sen.d)] cs = .ok (.tup ((kindsR P g.k).map Kd.d)) ⟨[], cs⟩ := by
  have k4 := g.k_le
  have hr : (reqL P g.k).length ≤ g.k := by
    have := List.length_filter_le (reqB P) (zts g.k)
    rw [zts_length] at this
    exact this
  have hs := statedL_len P
  have e1 : ∀ s1 : S, s1 = ⟨[.sv (tbF g.k (subR P)), .sv (tbF g.k (manyR P)), .sv (.tup (P.map Sen.d)), .un, .un, .un, .un], cs⟩ → (aLc [5] (iSeq (eCall (F_nouns_needed) (aCons (eV 0) (aCons (eV 1) (aCons (eV 2) (aNil)))))) (gN 5) (Z.tYes) (eTup (aCons (eC (.str 8)) (aCons (eV 5) (aNil))))) s1 = .ok (((reqL P g.k).map Kd.one).map Kd.d) s1 := by
    rintro s1 rfl
    rw [List.map_map]
    refine lcM (inj := D.int) (reqL P g.k) _ (by simp [p_nouns_needed hP hl]) (by omega) (by simp) fun x hx => ?_
    simp [Kd.d]
  have e2 : ∀ (p : Slot) (s1 : S), s1 = ⟨[.sv (tbF g.k (subR P)), .sv (tbF g.k (manyR P)), .sv (.tup (P.map Sen.d)), p, .un, .un, .un], cs⟩ → (aLc [6] (iSeq (eCall (F_kinds_stated) (aCons (eV 2) (aNil)))) (gN 6) (tV (eOp neOp (eOp ixD (eV 6) (eC (.int 0))) (eC (.str 8)))) (eV 6)) s1 = .ok (((statedL P).filter fun k => !k.isOne).map Kd.d) s1 := by
    rintro p s1 rfl
    refine lcT (inj := Kd.d) (statedL P) _ Kd.d (by simp [p_kinds_stated hP hl]) (by omega) (by simp) fun k hk => ⟨?_, fun _ => by simp⟩
    cases k <;> simp [Kd.d, Kd.isOne]
  have h3 : ((reqL P g.k).map Kd.one).length + ((statedL P).filter fun k => !k.isOne).length ≤ 100000 := by
    have h2 := List.length_filter_le (fun k : Kd => !k.isOne) (statedL P)
    rw [List.length_map]
    omega
  unfold kindsR
  generalize (reqL P g.k).map Kd.one = A at e1 h3
  generalize ((statedL P).filter fun k => !k.isOne) = B at e2 h3
  simp [F_kinds_needed, B_kinds_needed, e1, e2, h3, addD]
/-! ## what is forced: lists by (does, verb) -/
abbrev Ky := Bool × Int
def kyD (k : Ky) : D := .tup [.bl k.1, .int k.2]
theorem eqD_ky {k j : Ky} : eqD (kyD k) (kyD j) = decide (k = j) := by
  obtain ⟨a, v⟩ := k
  obtain ⟨b, w⟩ := j
  rw [Bool.eq_iff_iff]
  simp [kyD]
/-- what a premise makes all x do to all y, told from the doers -/
def Sen.pr : Sen → Option (Ky × Pr)
  | .vb 0 x d v b 0 y => some ((d, v), if b then (y, x) else (x, y))
  | _ => none
def Sen.sg : Sen → Option (Ky × Int)
  | .se 0 x d v => some ((d, v), x)
  | _ => none
def insT {α : Type} : List (Ky × List α) → Ky → α → List (Ky × List α)
  | [], k, x => [(k, [x])]
  | q :: l, k, x => if q.1 = k then (q.1, q.2 ++ [x]) :: l else q :: insT l k x
def lookT {α : Type} : List (Ky × List α) → Ky → Option (List α)
  | [], _ => none
  | q :: l, k => if q.1 = k then some q.2 else lookT l k
def step1 {α : Type} (f : Sen → Option (Ky × α)) (l : List (Ky × List α)) (z : Sen) : List (Ky × List α) := match f z with
  | some q => insT l q.1 q.2
  | none => l
def grp {α : Type} (f : Sen → Option (Ky × α)) (P : List Sen) : List (Ky × List α) := P.foldl (step1 f) []
/-- all of one key, in their sequence -/
def allOf {α : Type} (f : Sen → Option (Ky × α)) (P : List Sen) (k : Ky) : List α := P.filterMap fun z => match f z with
  | some q => if q.1 = k then some q.2 else none
  | none => none
theorem look_ins {α : Type} (k j : Ky) (x : α) : ∀ l : List (Ky × List α), lookT (insT l k x) j = if k = j then some ((lookT l j).getD [] ++ [x]) else lookT l j
  | [] => by by_cases h : k = j <;> simp [insT, lookT, h]
  | q :: l => by
    have ih := look_ins k j x l
    by_cases h1 : q.1 = k
    · by_cases h2 : k = j
      · simp [insT, lookT, h1, h2]
      · simp [insT, lookT, h1, h2]
    · by_cases h2 : q.1 = j
      · have : ¬ k = j := fun z => h1 (h2.trans z.symm)
        rw [insT, if_neg h1, lookT, if_pos h2, if_neg this, lookT, if_pos h2]
      · rw [insT, if_neg h1, lookT, if_neg h2, ih, lookT, if_neg h2]
theorem look_grp {α : Type} (f : Sen → Option (Ky × α)) (P : List Sen) (k : Ky) : lookT (grp f P) k = if allOf f P k = [] then none else some (allOf f P k) := by
  have key : ∀ (P : List Sen) (l : List (Ky × List α)) (xs : List α), lookT l k = (if xs = [] then none else some xs) → lookT (P.foldl (step1 f) l) k = if xs ++ allOf f P k = [] then none else some (xs ++ allOf f P k) := by
    intro P
    induction P with
    | nil => intro l xs h; simpa [allOf] using h
    | cons z P ih =>
      intro l xs h
      rw [List.foldl_cons]
      cases hz : f z with
      | none =>
        have e1 : step1 f l z = l := by simp [step1, hz]
        have e2 : allOf f (z :: P) k = allOf f P k := by simp [allOf, hz]
        rw [e1, ih l xs h, e2]
      | some q =>
        have e1 : step1 f l z = insT l q.1 q.2 := by simp [step1, hz]
        rw [e1]
        by_cases hj : q.1 = k
        · have e2 : allOf f (z :: P) k = q.2 :: allOf f P k := by simp [allOf, hz, hj]
          rw [ih _ (xs ++ [q.2]) (by
            rw [look_ins, if_pos hj, h]
            by_cases hx : xs = [] <;> simp [hx]), e2]
          simp
        · have e2 : allOf f (z :: P) k = allOf f P k := by simp [allOf, hz, hj]
          rw [ih _ xs (by rw [look_ins, if_neg hj, h]), e2]
  have := key P [] [] (by simp [lookT])
  simpa [grp] using this
def toDl {α : Type} (inj : α → D) (l : List (Ky × List α)) : List (D × D) := l.map fun q => (kyD q.1, .lst (q.2.map inj))
theorem dfind_cons (q : D × D) (l : List (D × D)) (k : D) : dfind (q :: l) k = if eqD q.1 k = true then some q.2 else dfind l k := by
  unfold dfind
  rw [List.find?_cons]
  cases eqD q.1 k <;> rfl
theorem dfind_toDl {α : Type} (inj : α → D) (k : Ky) : ∀ l : List (Ky × List α), dfind (toDl inj l) (kyD k) = (lookT l k).map fun xs => .lst (xs.map inj)
  | [] => rfl
  | q :: l => by
    have ih := dfind_toDl inj k l
    unfold toDl at ih ⊢
    rw [List.map_cons, dfind_cons, eqD_ky, lookT]
    by_cases h : q.1 = k
    · simp [h]
    · simpa [h] using ih
def pairsL (P : List Sen) : List (D × D) := toDl prD (grp Sen.pr P)
def singlesL (P : List Sen) : List (D × D) := toDl D.int (grp Sen.sg P)
theorem get_pairs (P : List Sen) (k : Ky) : (dfind (pairsL P) (kyD k)).getD (.lst []) = .lst ((allOf Sen.pr P k).map prD) := by
  unfold pairsL
  rw [dfind_toDl, look_grp]
  by_cases h : allOf Sen.pr P k = [] <;> simp [h]
/-! ### the lists by their places -/
structure FI (Q R : List (Ky × Nat)) (L : List (List D)) : Prop where
  lt : ∀ q ∈ Q ++ R, q.2 < L.length
  nd : ((Q ++ R).map (·.2)).Nodup
  pl : ∀ l ∈ L, cLts 0 l = true
def gL (L : List (List D)) (Q : List (Ky × Nat)) : List (Ky × List D) := Q.map fun q => (q.1, L.getD q.2 [])
def cellN (b : Nat) (Q : List (Ky × Nat)) : List (D × D) := Q.map fun q => (kyD q.1, .cell (b + 4 + q.2))
def fndN : List (Ky × Nat) → Ky → Option Nat
  | [], _ => none
  | q :: l, k => if q.1 = k then some q.2 else fndN l k
theorem dfind_cellN (b : Nat) (k : Ky) : ∀ Q : List (Ky × Nat), dfind (cellN b Q) (kyD k) = (fndN Q k).map fun j => .cell (b + 4 + j)
  | [] => rfl
  | q :: Q => by
    have ih := dfind_cellN b k Q
    unfold cellN at ih ⊢
    rw [List.map_cons, dfind_cons, eqD_ky, fndN]
    by_cases h : q.1 = k
    · simp [h]
    · simpa [h] using ih
theorem any_none : ∀ {l : List (D × D)} {k : D}, dfind l k = none → (l.any fun q => eqD q.1 k) = false
  | [], _, _ => rfl
  | q :: l, k, h => by
    rw [dfind_cons] at h
    split at h
    · cases h
    · rename_i hn
      rw [List.any_cons, any_none h]
      simpa using hn
theorem FI.swap {Q R : List (Ky × Nat)} {L : List (List D)} (h : FI Q R L) : FI R Q L where
  lt := fun q hq => h.lt q (by rw [List.mem_append] at hq ⊢; exact hq.symm)
  nd := by
    have e : ((R ++ Q).map (·.2)).Perm ((Q ++ R).map (·.2)) := (List.perm_append_comm).map _
    exact e.nodup_iff.mpr h.nd
  pl := h.pl
theorem plain_snoc : ∀ {l : List D} {x : D}, cLts 0 l = true → cLt 0 x = true → cLts 0 (l ++ [x]) = true
  | [], x, _, h => by rw [List.nil_append, cLts, h]; rfl
  | d :: l, x, h, hx => by
    rw [cLts, Bool.and_eq_true] at h
    rw [List.cons_append, cLts, h.1, plain_snoc h.2 hx]
    rfl
theorem getD_mem {L : List (List D)} {j : Nat} (h : j < L.length) : L.getD j [] ∈ L := by
  rw [List.getD_eq_getElem?_getD, List.getElem?_eq_getElem h]
  exact List.getElem_mem h
/-- what comes of a new item -/
def addN (Q : List (Ky × Nat)) (L : List (List D)) (k : Ky) (x : D) : List (Ky × Nat) × List (List D) := match fndN Q k with
  | some j => (Q, (L ++ [[]]).set j (L.getD j [] ++ [x]))
  | none => (Q ++ [(k, L.length)], L ++ [[x]])
theorem fnd_mem {k : Ky} {j : Nat} : ∀ {Q : List (Ky × Nat)}, fndN Q k = some j → (k, j) ∈ Q
  | [], h => nomatch h
  | q :: Q, h => by
    rw [fndN] at h
    split at h
    · rename_i e
      cases h
      exact List.mem_cons.mpr (.inl (Prod.ext e.symm rfl))
    · exact List.mem_cons_of_mem _ (fnd_mem h)
theorem ins_none {L : List (List D)} {k : Ky} {x : D} : ∀ {Q : List (Ky × Nat)}, fndN Q k = none → insT (gL L Q) k x = gL L Q ++ [(k, [x])]
  | [], _ => rfl
  | q :: Q, h => by
    rw [fndN] at h
    split at h
    · cases h
    · rename_i hn
      have ih := ins_none (L := L) (x := x) h
      unfold gL at ih ⊢
      rw [List.map_cons, insT, if_neg hn, ih]
      rfl
theorem ins_some {L : List (List D)} {k : Ky} {x : D} {j : Nat} : ∀ {Q : List (Ky × Nat)}, (Q.map (·.2)).Nodup → fndN Q k = some j → insT (gL L Q) k x = Q.map fun q => (q.1, if q.2 = j then L.getD j [] ++ [x] else L.getD q.2 [])
  | [], _, h => nomatch h
  | q :: Q, hn, h => by
    rw [List.map_cons, List.nodup_cons] at hn
    rw [fndN] at h
    unfold gL
    rw [List.map_cons, List.map_cons, insT]
    split at h
    · rename_i e
      cases h
      rw [if_pos e]
      dsimp only
      rw [if_pos rfl]
      congr 1
      refine List.map_congr_left fun r hr => ?_
      rw [if_neg]
      intro z
      exact hn.1 (List.mem_map.mpr ⟨r, hr, z⟩)
    · rename_i e
      have ih := ins_some (L := L) (x := x) hn.2 h
      unfold gL at ih
      rw [if_neg e, ih, if_neg]
      intro z
      exact hn.1 (List.mem_map.mpr ⟨_, fnd_mem h, z.symm⟩)
theorem addN_ok {Q R : List (Ky × Nat)} {L : List (List D)} {k : Ky} {x : D} (h : FI Q R L) (hx : cLt 0 x = true) :
    gL (addN Q L k x).2 (addN Q L k x).1 = insT (gL L Q) k x ∧ gL (addN Q L k x).2 R = gL L R ∧ FI (addN Q L k x).1 R (addN Q L k x).2 := by
  have nd := h.nd
  rw [List.map_append, List.nodup_append] at nd
  unfold addN
  cases hf : fndN Q k with
  | none =>
    dsimp only
    have old : ∀ q ∈ Q ++ R, (L ++ [[x]]).getD q.2 [] = L.getD q.2 [] := fun q hq => by
      rw [List.getD_eq_getElem?_getD, List.getElem?_append_left (h.lt q hq), List.getD_eq_getElem?_getD]
    refine ⟨?_, ?_, ?_, ?_, ?_⟩
    · rw [ins_none hf]
      unfold gL
      rw [List.map_append]
      congr 1
      · exact List.map_congr_left fun q hq => by rw [old q (List.mem_append.mpr (.inl hq))]
      · simp [List.getD_eq_getElem?_getD]
    · unfold gL
      exact List.map_congr_left fun q hq => by rw [old q (List.mem_append.mpr (.inr hq))]
    · intro q hq
      rw [List.length_append, List.length_singleton]
      simp only [List.mem_append, List.mem_singleton] at hq
      rcases hq with (hq | rfl) | hq
      · have := h.lt q (List.mem_append.mpr (.inl hq)); omega
      · exact Nat.lt_succ_self _
      · have := h.lt q (List.mem_append.mpr (.inr hq)); omega
    · have e : ((Q ++ [(k, L.length)] ++ R).map (·.2)).Perm (((Q ++ R).map (·.2)) ++ [L.length]) := by
        rw [List.map_append, List.map_append, List.map_append, List.append_assoc, List.append_assoc]
        exact List.Perm.append_left _ List.perm_append_comm
      rw [e.nodup_iff, List.nodup_append]
      refine ⟨h.nd, by simp, fun a ha b hb => ?_⟩
      obtain ⟨q, hq, rfl⟩ := List.mem_map.mp ha
      rw [List.mem_singleton] at hb
      have := h.lt q hq
      omega
    · intro l hl
      rcases List.mem_append.mp hl with hl | hl
      · exact h.pl l hl
      · rw [List.mem_singleton] at hl
        subst hl
        rw [cLts, hx]
        rfl
  | some j =>
    have hm := fnd_mem hf
    have hlt0 : j < L.length := h.lt _ (List.mem_append.mpr (.inl hm))
    dsimp only
    have get : ∀ q ∈ Q ++ R, ((L ++ [[]]).set j (L.getD j [] ++ [x])).getD q.2 [] = if q.2 = j then L.getD j [] ++ [x] else L.getD q.2 [] := fun q hq => by
      have hlt := h.lt q hq
      rw [List.getD_eq_getElem?_getD]
      by_cases c : q.2 = j
      · rw [if_pos c, c, List.getElem?_set_self (by rw [List.length_append]; omega)]
        rfl
      · rw [if_neg c, List.getElem?_set_ne (fun z => c z.symm), List.getElem?_append_left hlt, List.getD_eq_getElem?_getD]
    refine ⟨?_, ?_, ?_, h.nd, ?_⟩
    · rw [ins_some nd.1 hf]
      unfold gL
      exact List.map_congr_left fun q hq => by rw [get q (List.mem_append.mpr (.inl hq))]
    · unfold gL
      refine List.map_congr_left fun q hq => ?_
      rw [get q (List.mem_append.mpr (.inr hq)), if_neg]
      intro z
      exact nd.2.2 j (List.mem_map.mpr ⟨_, hm, rfl⟩) q.2 (List.mem_map.mpr ⟨q, hq, rfl⟩) z.symm
    · intro q hq
      rw [List.length_set, List.length_append]
      have := h.lt q hq
      omega
    · intro l hl
      rcases List.mem_or_eq_of_mem_set hl with hl | rfl
      · rcases List.mem_append.mp hl with hl | hl
        · exact h.pl l hl
        · rw [List.mem_singleton] at hl; subst hl; rfl
      · exact plain_snoc (h.pl _ (getD_mem hlt0)) hx
theorem ins_map {α : Type} (inj : α → D) (k : Ky) (x : α) : ∀ l : List (Ky × List α), (insT l k x).map (fun q => (q.1, q.2.map inj)) = insT (l.map fun q => (q.1, q.2.map inj)) k (inj x)
  | [] => rfl
  | q :: l => by
    rw [insT, List.map_cons, insT]
    by_cases h : q.1 = k
    · simp [h]
    · simp [h, ins_map inj k x l]
/-! ### Forcing(inside, premises) -/
theorem app_at0 {cs X : List Cell} : (cs ++ X)[cs.length]? = X[0]? := by
  rw [List.getElem?_append_right (Nat.le_refl _), Nat.sub_self]
theorem app_at {cs X : List Cell} (i : Nat) : (cs ++ X)[cs.length + i]? = X[i]? := by
  rw [List.getElem?_append_right (by omega)]
  congr 1
  omega
theorem app_set0 {cs X : List Cell} {c : Cell} : (cs ++ X).set cs.length c = cs ++ X.set 0 c := by
  rw [List.set_append_right _ _ (Nat.le_refl _), Nat.sub_self]
theorem app_set {cs X : List Cell} (i : Nat) {c : Cell} : (cs ++ X).set (cs.length + i) c = cs ++ X.set i c := by
  rw [List.set_append_right _ _ (by omega)]
  congr 2
  omega
def frF (b : Nat) (T : D) : List (Nat × D) := [(3, .cell (b + 3)), (2, .cell (b + 2)), (1, .cell (b + 1)), (0, T)]
/-- the cells while it is made -/
def mkC (b : Nat) (T : D) (Q R : List (Ky × Nat)) (L : List (List D)) : List Cell := .ins 0 (frF b T) :: .dct (cellN b Q) :: .dct (cellN b R) :: .dct [] :: L.map Cell.lst
def frC (b : Nat) (T : D) (P : List Sen) : List Cell := [.ins 0 (frF b T), .dct (pairsL P), .dct (singlesL P), .memo T]
theorem kOk_ky (k : Ky) : kOk (kyD k) = true := kOk_flat (by simp [flatK])
theorem mk_at (b : Nat) (T : D) (Q R : List (Ky × Nat)) (L : List (List D)) (j : Nat) : (mkC b T Q R L)[4 + j]? = (L[j]?).map Cell.lst := by
  have e : 4 + j = j + 1 + 1 + 1 + 1 := by omega
  rw [e]
  simp [mkC]
theorem mk_set (b : Nat) (T : D) (Q R : List (Ky × Nat)) (L : List (List D)) (j : Nat) (l : List D) : (mkC b T Q R L).set (4 + j) (.lst l) = mkC b T Q R (L.set j l) := by
  have e : 4 + j = j + 1 + 1 + 1 + 1 := by omega
  rw [e]
  simp [mkC, List.map_set]
/-- self.pairs.setdefault(k, []).append(x) -/
theorem sd_pairs {cs : List Cell} {T : D} {Q R : List (Ky × Nat)} {L : List (List D)} {k : Ky} {x : D} {fk fx : Ex} {ρ : List Slot} (h0 : ρ[0]? = some (.sv (.cell cs.length))) (hk : ∀ X, fk ⟨ρ, X⟩ = .ok (kyD k) ⟨ρ, X⟩) (hx : ∀ X, fx ⟨ρ, X⟩ = .ok x ⟨ρ, X⟩) (hQ : Q.length ≤ 1000) (hL : ∀ l ∈ L, l.length < 100000) (hlt : ∀ q ∈ Q, q.2 < L.length) :
    sAppC (eSdfX (eFld 0 1 (eV 0)) fk (eNew aNil)) fx ⟨ρ, cs ++ mkC cs.length T Q R L⟩ = .ok .nx ⟨ρ, cs ++ mkC cs.length T (addN Q L k x).1 R (addN Q L k x).2⟩ := by
  have e0 : ∀ X : List Cell, (cs ++ mkC cs.length T Q R L ++ X)[cs.length]? = some (.ins 0 (frF cs.length T)) := fun X => by rw [List.append_assoc, app_at0]; rfl
  have e1 : ∀ X : List Cell, (cs ++ mkC cs.length T Q R L ++ X)[cs.length + 1]? = some (.dct (cellN cs.length Q)) := fun X => by rw [List.append_assoc, app_at 1]; rfl
  have e0' : (cs ++ mkC cs.length T Q R L)[cs.length]? = some (.ins 0 (frF cs.length T)) := by rw [app_at0]; rfl
  have e1' : (cs ++ mkC cs.length T Q R L)[cs.length + 1]? = some (.dct (cellN cs.length Q)) := by rw [app_at 1]; rfl
  have lf : lookF (frF cs.length T) 1 = some (.cell (cs.length + 1)) := by simp [frF]
  have hlen : (cellN cs.length Q).length ≤ 100000 := by unfold cellN; rw [List.length_map]; omega
  have mklen : (mkC cs.length T Q R L).length = 4 + L.length := by simp [mkC]; omega
  have mkapp : mkC cs.length T Q R L ++ [Cell.lst []] = mkC cs.length T Q R (L ++ [[]]) := by simp [mkC]
  have hfind := dfind_cellN cs.length k Q
  unfold addN
  cases hf : fndN Q k with
  | some j =>
    rw [hf] at hfind
    have hj : j < L.length := hlt _ (fnd_mem hf)
    have ej : (cs ++ mkC cs.length T Q R (L ++ [[]]))[cs.length + 4 + j]? = some (.lst (L.getD j [])) := by
      rw [Nat.add_assoc, app_at, mk_at, List.getElem?_append_left hj, List.getElem?_eq_getElem hj, List.getD_eq_getElem?_getD, List.getElem?_eq_getElem hj]
      rfl
    have es : (cs ++ mkC cs.length T Q R (L ++ [[]])).set (cs.length + 4 + j) (.lst (L.getD j [] ++ [x])) = cs ++ mkC cs.length T Q R ((L ++ [[]]).set j (L.getD j [] ++ [x])) := by
      rw [Nat.add_assoc, app_set, mk_set]
    have hl := hL _ (getD_mem hj)
    have e1'' : (cs ++ mkC cs.length T Q R (L ++ [[]]))[cs.length + 1]? = some (.dct (cellN cs.length Q)) := by rw [app_at 1]; rfl
    simp only [x_sAppC, x_eSdfX, x_eFld, eV_eq, h0, onSl_some, rdV_sv, bind_ok, onCe_c, e0', onIns_s, lf, onD_some, e1', onDct_s, hk, x_eNew, x_aNil, List.append_assoc, mkapp, e1'', kOk_ky, hlen, and_self, if_true, hfind, Option.map_some, sdfK, ej, onC_some, hx, hl, es]
  | none =>
    rw [hf] at hfind
    have e1'' : (cs ++ mkC cs.length T Q R (L ++ [[]]))[cs.length + 1]? = some (.dct (cellN cs.length Q)) := by rw [app_at 1]; rfl
    have len2 : (cs ++ mkC cs.length T Q R L).length = cs.length + 4 + L.length := by rw [List.length_append, mklen]; omega
    have st : dstore (cellN cs.length Q) (kyD k) (.cell (cs.length + 4 + L.length)) = cellN cs.length (Q ++ [(k, L.length)]) := by
      unfold dstore
      rw [any_none hfind, if_neg (by decide)]
      simp [cellN]
    have s1 : (cs ++ mkC cs.length T Q R (L ++ [[]])).set (cs.length + 1) (.dct (cellN cs.length (Q ++ [(k, L.length)]))) = cs ++ mkC cs.length T (Q ++ [(k, L.length)]) R (L ++ [[]]) := by
      rw [app_set 1]
      rfl
    have ej : (cs ++ mkC cs.length T (Q ++ [(k, L.length)]) R (L ++ [[]]))[cs.length + 4 + L.length]? = some (.lst []) := by
      rw [Nat.add_assoc, app_at, mk_at]
      simp
    have s2 : (cs ++ mkC cs.length T (Q ++ [(k, L.length)]) R (L ++ [[]])).set (cs.length + 4 + L.length) (.lst ([] ++ [x])) = cs ++ mkC cs.length T (Q ++ [(k, L.length)]) R (L ++ [[x]]) := by
      rw [Nat.add_assoc, app_set, mk_set]
      congr 2
      rw [List.set_append_right _ _ (Nat.le_refl _), Nat.sub_self]
      rfl
    have z0 : ([] : List D).length < 100000 := by decide
    simp only [x_sAppC, x_eSdfX, x_eFld, eV_eq, h0, onSl_some, rdV_sv, bind_ok, onCe_c, e0', onIns_s, lf, onD_some, e1', onDct_s, hk, x_eNew, x_aNil, List.append_assoc, mkapp, e1'', kOk_ky, hlen, and_self, if_true, hfind, Option.map_none, sdfK, len2, st, s1, ej, onC_some, hx, z0, s2]
/-- .. of self.singles -/
theorem sd_singles {cs : List Cell} {T : D} {Q R : List (Ky × Nat)} {L : List (List D)} {k : Ky} {x : D} {fk fx : Ex} {ρ : List Slot} (h0 : ρ[0]? = some (.sv (.cell cs.length))) (hk : ∀ X, fk ⟨ρ, X⟩ = .ok (kyD k) ⟨ρ, X⟩) (hx : ∀ X, fx ⟨ρ, X⟩ = .ok x ⟨ρ, X⟩) (hQ : Q.length ≤ 1000) (hL : ∀ l ∈ L, l.length < 100000) (hlt : ∀ q ∈ Q, q.2 < L.length) :
    sAppC (eSdfX (eFld 0 2 (eV 0)) fk (eNew aNil)) fx ⟨ρ, cs ++ mkC cs.length T R Q L⟩ = .ok .nx ⟨ρ, cs ++ mkC cs.length T R (addN Q L k x).1 (addN Q L k x).2⟩ := by
  have e0' : (cs ++ mkC cs.length T R Q L)[cs.length]? = some (.ins 0 (frF cs.length T)) := by rw [app_at0]; rfl
  have e1' : (cs ++ mkC cs.length T R Q L)[cs.length + 2]? = some (.dct (cellN cs.length Q)) := by rw [app_at 2]; rfl
  have lf : lookF (frF cs.length T) 2 = some (.cell (cs.length + 2)) := by simp [frF]
  have hlen : (cellN cs.length Q).length ≤ 100000 := by unfold cellN; rw [List.length_map]; omega
  have mklen : (mkC cs.length T R Q L).length = 4 + L.length := by simp [mkC]; omega
  have mkapp : mkC cs.length T R Q L ++ [Cell.lst []] = mkC cs.length T R Q (L ++ [[]]) := by simp [mkC]
  have hfind := dfind_cellN cs.length k Q
  unfold addN
  cases hf : fndN Q k with
  | some j =>
    rw [hf] at hfind
    have hj : j < L.length := hlt _ (fnd_mem hf)
    have ej : (cs ++ mkC cs.length T R Q (L ++ [[]]))[cs.length + 4 + j]? = some (.lst (L.getD j [])) := by
      rw [Nat.add_assoc, app_at, mk_at, List.getElem?_append_left hj, List.getElem?_eq_getElem hj, List.getD_eq_getElem?_getD, List.getElem?_eq_getElem hj]
      rfl
    have es : (cs ++ mkC cs.length T R Q (L ++ [[]])).set (cs.length + 4 + j) (.lst (L.getD j [] ++ [x])) = cs ++ mkC cs.length T R Q ((L ++ [[]]).set j (L.getD j [] ++ [x])) := by
      rw [Nat.add_assoc, app_set, mk_set]
    have hl := hL _ (getD_mem hj)
    have e1'' : (cs ++ mkC cs.length T R Q (L ++ [[]]))[cs.length + 2]? = some (.dct (cellN cs.length Q)) := by rw [app_at 2]; rfl
    simp only [x_sAppC, x_eSdfX, x_eFld, eV_eq, h0, onSl_some, rdV_sv, bind_ok, onCe_c, e0', onIns_s, lf, onD_some, e1', onDct_s, hk, x_eNew, x_aNil, List.append_assoc, mkapp, e1'', kOk_ky, hlen, and_self, if_true, hfind, Option.map_some, sdfK, ej, onC_some, hx, hl, es]
  | none =>
    rw [hf] at hfind
    have e1'' : (cs ++ mkC cs.length T R Q (L ++ [[]]))[cs.length + 2]? = some (.dct (cellN cs.length Q)) := by rw [app_at 2]; rfl
    have len2 : (cs ++ mkC cs.length T R Q L).length = cs.length + 4 + L.length := by rw [List.length_append, mklen]; omega
    have st : dstore (cellN cs.length Q) (kyD k) (.cell (cs.length + 4 + L.length)) = cellN cs.length (Q ++ [(k, L.length)]) := by
      unfold dstore
      rw [any_none hfind, if_neg (by decide)]
      simp [cellN]
    have s1 : (cs ++ mkC cs.length T R Q (L ++ [[]])).set (cs.length + 2) (.dct (cellN cs.length (Q ++ [(k, L.length)]))) = cs ++ mkC cs.length T R (Q ++ [(k, L.length)]) (L ++ [[]]) := by
      rw [app_set 2]
      rfl
    have ej : (cs ++ mkC cs.length T R (Q ++ [(k, L.length)]) (L ++ [[]]))[cs.length + 4 + L.length]? = some (.lst []) := by
      rw [Nat.add_assoc, app_at, mk_at]
      simp
    have s2 : (cs ++ mkC cs.length T R (Q ++ [(k, L.length)]) (L ++ [[]])).set (cs.length + 4 + L.length) (.lst ([] ++ [x])) = cs ++ mkC cs.length T R (Q ++ [(k, L.length)]) (L ++ [[x]]) := by
      rw [Nat.add_assoc, app_set, mk_set]
      congr 2
      rw [List.set_append_right _ _ (Nat.le_refl _), Nat.sub_self]
      rfl
    have z0 : ([] : List D).length < 100000 := by decide
    simp only [x_sAppC, x_eSdfX, x_eFld, eV_eq, h0, onSl_some, rdV_sv, bind_ok, onCe_c, e0', onIns_s, lf, onD_some, e1', onDct_s, hk, x_eNew, x_aNil, List.append_assoc, mkapp, e1'', kOk_ky, hlen, and_self, if_true, hfind, Option.map_none, sdfK, len2, st, s1, ej, onC_some, hx, z0, s2]
/-- .. with something that holds of what was met -/
theorem forPI {α B : Type} {g : Tg} {b : Ss} {inj : α → D} (mk : B → S) (I : List α → B → Prop) (xs : List α) (h : ∀ done x rest v, xs = done ++ x :: rest → I done v → ∃ v', ((g (inj x) (mk v)).bind fun _ s1 => b s1) = .ok .nx (mk v') ∧ I (done ++ [x]) v') (v0 : B) (h0 : I [] v0) :
    ∃ v', forL g b (xs.map inj) (mk v0) = .ok .nx (mk v') ∧ I xs v' := by
  have key : ∀ (rest done : List α) (v : B), xs = done ++ rest → I done v → ∃ v', forL g b (rest.map inj) (mk v) = .ok .nx (mk v') ∧ I xs v' := by
    intro rest
    induction rest with
    | nil => intro done v e hi; exact ⟨v, forL_nil, by rw [e, List.append_nil]; exact hi⟩
    | cons x rest ih =>
      intro done v e hi
      obtain ⟨v1, e1, h1⟩ := h done x rest v e hi
      obtain ⟨v2, e2, h2⟩ := ih (done ++ [x]) v1 (by rw [e, List.append_assoc]; rfl) h1
      refine ⟨v2, ?_, h2⟩
      rw [List.map_cons, forL_cons]
      rw [show (g (inj x) (mk v)).bind (fun _ s1 => (b s1).bind fun fl s2 => onNx fl s2 (forL g b (rest.map inj))) = ((g (inj x) (mk v)).bind fun _ s1 => b s1).bind fun fl s2 => onNx fl s2 (forL g b (rest.map inj)) from by cases g (inj x) (mk v) <;> rfl]
      rw [e1, bind_ok, onNx_nx, e2]
  exact key xs [] v0 rfl h0
abbrev FB := (List (Ky × Nat) × List (Ky × Nat) × List (List D)) × (Slot × Slot × Slot × Slot × Slot × Slot × Slot)
def dl {α : Type} (inj : α → D) (l : List (Ky × List α)) : List (Ky × List D) := l.map fun q => (q.1, q.2.map inj)
structure FIn (done : List Sen) (v : FB) : Prop where
  fi : FI v.1.1 v.1.2.1 v.1.2.2
  q : gL v.1.2.2 v.1.1 = dl prD (grp Sen.pr done)
  r : gL v.1.2.2 v.1.2.1 = dl D.int (grp Sen.sg done)
  len : v.1.1.length ≤ done.length ∧ v.1.2.1.length ≤ done.length ∧ ∀ l ∈ v.1.2.2, l.length ≤ done.length
theorem grp_snoc {α : Type} (f : Sen → Option (Ky × α)) (done : List Sen) (z : Sen) : grp f (done ++ [z]) = step1 f (grp f done) z := by
  unfold grp
  rw [List.foldl_append]
  rfl
theorem addN_len {Q : List (Ky × Nat)} {L : List (List D)} {k : Ky} {x : D} {n : Nat} (h1 : Q.length ≤ n) (h2 : ∀ l ∈ L, l.length ≤ n) (hlt : ∀ q ∈ Q, q.2 < L.length) : (addN Q L k x).1.length ≤ n + 1 ∧ ∀ l ∈ (addN Q L k x).2, l.length ≤ n + 1 := by
  unfold addN
  cases hf : fndN Q k with
  | none =>
    refine ⟨by simp; omega, fun l hl => ?_⟩
    dsimp only at hl
    rcases List.mem_append.mp hl with hl | hl
    · have := h2 l hl; omega
    · rw [List.mem_singleton] at hl; subst hl; simp
  | some j =>
    refine ⟨by dsimp only; omega, fun l hl => ?_⟩
    dsimp only at hl
    rcases List.mem_or_eq_of_mem_set hl with hl | rfl
    · rcases List.mem_append.mp hl with hl | hl
      · have := h2 l hl; omega
      · rw [List.mem_singleton] at hl; subst hl; simp
    · have := h2 (L.getD j []) (getD_mem (show j < L.length from hlt _ (fnd_mem hf)))
      rw [List.length_append, List.length_singleton]
      omega
theorem FIn.pair {done : List Sen} {z : Sen} {v : FB} {k : Ky} {p : Pr} {s7 : Slot × Slot × Slot × Slot × Slot × Slot × Slot} (h : FIn done v) (hz : z.pr = some (k, p)) (hs : z.sg = none) : FIn (done ++ [z]) (((addN v.1.1 v.1.2.2 k (prD p)).1, v.1.2.1, (addN v.1.1 v.1.2.2 k (prD p)).2), s7) := by
  obtain ⟨a1, a2, a3⟩ := addN_ok (k := k) (x := prD p) h.fi rfl
  obtain ⟨l1, l2, l3⟩ := h.len
  have hlt : ∀ q ∈ v.1.1, q.2 < v.1.2.2.length := fun q hq => h.fi.lt q (List.mem_append.mpr (.inl hq))
  obtain ⟨m1, m2⟩ := addN_len (k := k) (x := prD p) l1 l3 hlt
  refine ⟨a3, ?_, ?_, ?_⟩
  · show gL _ _ = _
    rw [a1, h.q, grp_snoc]
    unfold step1
    rw [hz]
    exact (ins_map prD k p _).symm
  · show gL _ _ = _
    rw [a2, h.r, grp_snoc]
    unfold step1
    rw [hs]
  · rw [List.length_append, List.length_singleton]
    exact ⟨m1, by dsimp only; omega, m2⟩
theorem FIn.single {done : List Sen} {z : Sen} {v : FB} {k : Ky} {x : Int} {s7 : Slot × Slot × Slot × Slot × Slot × Slot × Slot} (h : FIn done v) (hz : z.sg = some (k, x)) (hs : z.pr = none) : FIn (done ++ [z]) ((v.1.1, (addN v.1.2.1 v.1.2.2 k (.int x)).1, (addN v.1.2.1 v.1.2.2 k (.int x)).2), s7) := by
  obtain ⟨a1, a2, a3⟩ := addN_ok (k := k) (x := .int x) h.fi.swap rfl
  obtain ⟨l1, l2, l3⟩ := h.len
  have hlt : ∀ q ∈ v.1.2.1, q.2 < v.1.2.2.length := fun q hq => h.fi.lt q (List.mem_append.mpr (.inr hq))
  obtain ⟨m1, m2⟩ := addN_len (k := k) (x := .int x) l2 l3 hlt
  refine ⟨a3.swap, ?_, ?_, ?_⟩
  · show gL _ _ = _
    rw [a2, h.q, grp_snoc]
    unfold step1
    rw [hs]
  · show gL _ _ = _
    rw [a1, h.r, grp_snoc]
    unfold step1
    rw [hz]
    exact (ins_map D.int k x _).symm
  · rw [List.length_append, List.length_singleton]
    exact ⟨by dsimp only; omega, m1, m2⟩
theorem FIn.skip {done : List Sen} {z : Sen} {v : FB} {s7 : Slot × Slot × Slot × Slot × Slot × Slot × Slot} (h : FIn done v) (hz : z.pr = none) (hs : z.sg = none) : FIn (done ++ [z]) (v.1, s7) := by
  refine ⟨h.fi, ?_, ?_, ?_⟩
  · show gL _ _ = _
    rw [h.q, grp_snoc]
    unfold step1
    rw [hz]
  · show gL _ _ = _
    rw [h.r, grp_snoc]
    unfold step1
    rw [hs]
  · have := h.len
    rw [List.length_append, List.length_singleton]
    exact ⟨by dsimp only; omega, by dsimp only; omega, fun l hl => Nat.le_succ_of_le (this.2.2 l hl)⟩
def fiB : Ss := sCons (sIf (tA (tV (eOp eqOp (eSl (eV 3) (oNo) (oEx (eC (.int 2)))) (eTup (aCons (eC (.str 6)) (aCons (eC (.str 0)) (aNil)))))) (tV (eOp eqOp (eOp ixD (eV 3) (eC (.int 6))) (eC (.str 0))))) (sCons (sAsg (gT 8 (gCons (gN 4) (gCons (gN 4) (gCons (gN 5) (gCons (gN 6) (gCons (gN 7) (gCons (gN 8) (gCons (gN 4) (gCons (gN 9) (gNil)))))))))) (eV 3))
  (sAppC (eSdfX (eFld 0 1 (eV 0)) (eTup (aCons (eV 6) (aCons (eV 7) (aNil)))) (eNew (aNil))) (eIf (tU (eVB 8)) (eTup (aCons (eV 9) (aCons (eV 5) (aNil)))) (eTup (aCons (eV 5) (aCons (eV 9) (aNil))))))) (sNil))
  (sIf (tV (eOp eqOp (eSl (eV 3) (oNo) (oEx (eC (.int 2)))) (eTup (aCons (eC (.str 7)) (aCons (eC (.str 0)) (aNil)))))) (sCons (sAsg (gT 5 (gCons (gN 4) (gCons (gN 4) (gCons (gN 5) (gCons (gN 6) (gCons (gN 7) (gNil))))))) (eV 3))
  (sAppC (eSdfX (eFld 0 2 (eV 0)) (eTup (aCons (eV 6) (aCons (eV 7) (aNil)))) (eNew (aNil))) (eV 5))) (sNil))
def fiM (cs : List Cell) (T PD : D) (v : FB) : S := ⟨[.sv (.cell cs.length), .sv T, .sv PD, v.2.1, v.2.2.1, v.2.2.2.1, v.2.2.2.2.1, v.2.2.2.2.2.1, v.2.2.2.2.2.2.1, v.2.2.2.2.2.2.2], cs ++ mkC cs.length T v.1.1 v.1.2.1 v.1.2.2⟩
theorem fi_loop {g : Sig} {P : List Sen} {cs : List Cell} {T : D} (hP : ∀ z ∈ P, z.ok g) (hl : P.length ≤ 1000) (v0 : FB) (h0 : FIn [] v0) :
    ∃ v', forL (gN 3) fiB (P.map Sen.d) (fiM cs T (.tup (P.map Sen.d)) v0) = .ok .nx (fiM cs T (.tup (P.map Sen.d)) v') ∧ FIn P v' := by
  refine forPI (inj := Sen.d) _ FIn P (fun done z rest v e hi => ?_) v0 h0
  have hz := hP z (by rw [e]; simp)
  have l3 : done.length ≤ 1000 := by
    have := congrArg List.length e
    rw [List.length_append] at this
    omega
  obtain ⟨⟨Q, R, L⟩, s3, s4, s5, s6, s7, s8, s9⟩ := v
  obtain ⟨l4, l5, l6⟩ := hi.len
  have hL : ∀ l ∈ L, l.length < 100000 := fun l hm => by have := l6 l hm; omega
  cases z with
  | nn w x y =>
    refine ⟨((Q, R, L), .sv (Sen.nn w x y).d, s4, s5, s6, s7, s8, s9), ?_, hi.skip rfl rfl⟩
    rcases w6 hz.1 with rfl | rfl | rfl | rfl | rfl | rfl <;> simp [fiM, fiB, Sen.d, cut_to]
  | vb q x d v b p y =>
    rcases w2 hz.1 with rfl | rfl
    · rcases w2 hz.2.2.2.1 with rfl | rfl
      · have hlt : ∀ q ∈ Q, q.2 < L.length := fun q hq => hi.fi.lt q (List.mem_append.mpr (.inl hq))
        have sd := sd_pairs (cs := cs) (T := T) (Q := Q) (R := R) (L := L) (k := (d, v)) (x := prD (if b then (y, x) else (x, y))) (fk := eTup (aCons (eV 6) (aCons (eV 7) (aNil)))) (fx := eIf (tU (eVB 8)) (eTup (aCons (eV 9) (aCons (eV 5) (aNil)))) (eTup (aCons (eV 5) (aCons (eV 9) (aNil)))))
          (ρ := [.sv (.cell cs.length), .sv T, .sv (.tup (P.map Sen.d)), .sv (Sen.vb 0 x d v b 0 y).d, .sv (.str 0), .sv (.int x), .sv (.bl d), .sv (.int v), .sv (.bl b), .sv (.int y)]) rfl (fun X => by simp [kyD]) (fun X => by cases b <;> simp [prD]) (by dsimp only at l4; omega) hL hlt
        refine ⟨(((addN Q L (d, v) (prD (if b then (y, x) else (x, y)))).1, R, (addN Q L (d, v) (prD (if b then (y, x) else (x, y)))).2), .sv (Sen.vb 0 x d v b 0 y).d, .sv (.str 0), .sv (.int x), .sv (.bl d), .sv (.int v), .sv (.bl b), .sv (.int y)), ?_, hi.pair rfl rfl⟩
        simp only [Sen.d] at sd
        generalize hA : sAppC (eSdfX (eFld 0 1 (eV 0)) (eTup (aCons (eV 6) (aCons (eV 7) (aNil)))) (eNew (aNil))) (eIf (tU (eVB 8)) (eTup (aCons (eV 9) (aCons (eV 5) (aNil)))) (eTup (aCons (eV 5) (aCons (eV 9) (aNil))))) = A at sd
        simp [fiM, fiB, Sen.d, cut_to, hA, sd]
      · refine ⟨((Q, R, L), .sv (Sen.vb 0 x d v b 1 y).d, s4, s5, s6, s7, s8, s9), ?_, hi.skip rfl rfl⟩
        simp [fiM, fiB, Sen.d, cut_to]
    · refine ⟨((Q, R, L), .sv (Sen.vb 1 x d v b p y).d, s4, s5, s6, s7, s8, s9), ?_, hi.skip rfl rfl⟩
      simp [fiM, fiB, Sen.d, cut_to]
  | se q x d v =>
    rcases w2 hz.1 with rfl | rfl
    · have hlt : ∀ q ∈ R, q.2 < L.length := fun q hq => hi.fi.lt q (List.mem_append.mpr (.inr hq))
      have sd := sd_singles (cs := cs) (T := T) (Q := R) (R := Q) (L := L) (k := (d, v)) (x := .int x) (fk := eTup (aCons (eV 6) (aCons (eV 7) (aNil)))) (fx := eV 5)
          (ρ := [.sv (.cell cs.length), .sv T, .sv (.tup (P.map Sen.d)), .sv (Sen.se 0 x d v).d, .sv (.str 0), .sv (.int x), .sv (.bl d), .sv (.int v), s8, s9]) rfl (fun X => by simp [kyD]) (fun X => by simp) (by dsimp only at l5; omega) hL hlt
      refine ⟨((Q, (addN R L (d, v) (.int x)).1, (addN R L (d, v) (.int x)).2), .sv (Sen.se 0 x d v).d, .sv (.str 0), .sv (.int x), .sv (.bl d), .sv (.int v), s8, s9), ?_, hi.single rfl rfl⟩
      simp only [Sen.d] at sd
      generalize hA : sAppC (eSdfX (eFld 0 2 (eV 0)) (eTup (aCons (eV 6) (aCons (eV 7) (aNil)))) (eNew (aNil))) (eV 5) = A at sd
      simp [fiM, fiB, Sen.d, cut_to, hA, sd]
    · refine ⟨((Q, R, L), .sv (Sen.se 1 x d v).d, s4, s5, s6, s7, s8, s9), ?_, hi.skip rfl rfl⟩
      simp [fiM, fiB, Sen.d, cut_to]
/-- cells that speak of cells ahead of n alone -/
def plainCs (cs : List Cell) : Prop := ∀ c ∈ cs, cLtB cs.length c = true
theorem cLtB_up {n m : Nat} (h : n ≤ m) {c : Cell} (hc : cLtB n c = true) : cLtB m c = true := by
  cases c with
  | lst l => exact (cLt_up h).2 l hc
  | dic l => rfl
  | ins c l => exact List.all_eq_true.mpr fun q hq => (cLt_up h).1 _ (List.all_eq_true.mp hc q hq)
  | dct l =>
    refine List.all_eq_true.mpr fun q hq => ?_
    have := List.all_eq_true.mp hc q hq
    rw [Bool.and_eq_true] at this ⊢
    exact ⟨(cLt_up h).1 _ this.1, (cLt_up h).1 _ this.2⟩
  | memo T => rfl
theorem frz_plain {m : Nat} {X : List Cell} {c : Cell} (hc : cLtB m c = true) : frzOk m X c = true ∧ frzC m X c = c := by
  cases c with
  | dct l =>
    have key : ∀ q ∈ l, (cLt m q.1 = true ∧ frzOkD m X q.2 = true) ∧ frzD m X q.2 = q.2 := fun q hq => by
      have := List.all_eq_true.mp hc q hq
      rw [Bool.and_eq_true] at this
      refine ⟨⟨this.1, by unfold frzOkD; rw [this.2]; rfl⟩, ?_⟩
      have h2 := this.2
      unfold frzD
      split
      · rename_i j e
        rw [e] at h2
        have : j < m := of_decide_eq_true h2
        rw [if_neg (by omega)]
      · rfl
    refine ⟨List.all_eq_true.mpr fun q hq => by rw [(key q hq).1.1, (key q hq).1.2]; rfl, ?_⟩
    show Cell.dct (l.map fun q => (q.1, frzD m X q.2)) = .dct l
    congr 1
    conv => rhs; rw [← List.map_id l]
    refine List.map_congr_left fun q hq => ?_
    rw [(key q hq).2]
    rfl
  | lst l => exact ⟨hc, rfl⟩
  | dic l => exact ⟨hc, rfl⟩
  | ins c l => exact ⟨hc, rfl⟩
  | memo T => exact ⟨hc, rfl⟩
theorem frz_cells {b : Nat} {cs : List Cell} {T : D} {Q R S0 : List (Ky × Nat)} {L : List (List D)} (hb : b = cs.length) (hS : ∀ q ∈ S0, q.2 < L.length) (hpl : ∀ l ∈ L, cLts 0 l = true) :
    frzOk (b + 4) (cs ++ mkC b T Q R L) (.dct (cellN b S0)) = true ∧ frzC (b + 4) (cs ++ mkC b T Q R L) (.dct (cellN b S0)) = .dct ((gL L S0).map fun q => (kyD q.1, .lst q.2)) := by
  subst hb
  have at_ : ∀ q ∈ S0, (cs ++ mkC cs.length T Q R L)[cs.length + 4 + q.2]? = some (.lst (L.getD q.2 [])) := fun q hq => by
    have := hS q hq
    rw [Nat.add_assoc, app_at, mk_at, List.getElem?_eq_getElem this, List.getD_eq_getElem?_getD, List.getElem?_eq_getElem this]
    rfl
  refine ⟨?_, ?_⟩
  · refine List.all_eq_true.mpr fun p hp => ?_
    obtain ⟨q, hq, rfl⟩ := List.mem_map.mp hp
    have h2 := at_ q hq
    have h3 := hpl _ (getD_mem (hS q hq))
    dsimp only
    unfold frzOkD
    dsimp only
    rw [h2]
    dsimp only
    rw [(cLt_up (Nat.zero_le (cs.length + 4))).2 _ h3]
    simp [kyD, cLt, cLts]
  · show Cell.dct ((cellN cs.length S0).map fun q => (q.1, frzD _ _ q.2)) = _
    unfold cellN gL
    rw [List.map_map, List.map_map]
    congr 1
    refine List.map_congr_left fun q hq => ?_
    have h2 := at_ q hq
    show (kyD q.1, frzD (cs.length + 4) (cs ++ mkC cs.length T Q R L) (.cell (cs.length + 4 + q.2))) = _
    unfold frzD
    dsimp only
    rw [if_pos (by omega), h2]
    rfl
theorem p_forcing {g : Sig} {P : List Sen} {cs : List Cell} {T : D} (hP : ∀ z ∈ P, z.ok g) (hl : P.length ≤ 1000) (hT : cLt 0 T = true) (hcs : plainCs cs) :
    F_Forcing___init__ [.cell cs.length, T, .tup (P.map Sen.d)] (cs ++ [.ins 0 []]) = .ok .non ⟨[], cs ++ frC cs.length T P⟩ := by
  obtain ⟨⟨⟨Q, R, L⟩, s7⟩, e1, hi⟩ := fi_loop (cs := cs) (T := T) hP hl (([], [], []), .un, .un, .un, .un, .un, .un, .un) ⟨⟨by simp, by simp, by simp⟩, rfl, rfl, by simp⟩
  have raw : Fr_Forcing___init__ [.cell cs.length, T, .tup (P.map Sen.d)] (cs ++ [.ins 0 []]) = .ok .non ⟨[], cs ++ mkC cs.length T Q R L⟩ := by
    have e2 : (cs ++ [Cell.ins 0 []])[cs.length]? = some (.ins 0 []) := by rw [app_at0]; rfl
    have e3 : ∀ c, (cs ++ [Cell.ins 0 []]).set cs.length c = cs ++ [c] := fun c => by rw [app_set0]; rfl
    have e4 : ∀ c X, (cs ++ c :: X)[cs.length]? = some c := fun c X => by rw [app_at0]; rfl
    have e5 : ∀ c c' X, (cs ++ c :: X).set cs.length c' = cs ++ c' :: X := fun c c' X => by rw [app_set0]; rfl
    unfold fiM fiB at e1
    simp only [mkC, frF, cellN, List.map_nil] at e1
    simp only [Fr_Forcing___init__, B_Forcing___init__, fnS0_eq, sCons_eq, x_sFldS, x_eNewX, eV_eq, List.map_cons, List.map_nil, List.cons_append, List.nil_append, List.length_cons, List.length_nil, bind_ok]
    simp [e4, e5, e1, mkC, frF, cellN]
  unfold F_Forcing___init__ pubF
  rw [raw]
  dsimp only
  have len1 : (cs ++ [Cell.ins 0 []]).length = cs.length + 1 := by simp
  rw [len1]
  have tk : (cs ++ mkC cs.length T Q R L).take (cs.length + 1 + 3) = cs ++ [.ins 0 (frF cs.length T), .dct (cellN cs.length Q), .dct (cellN cs.length R), .dct []] := by
    have : cs.length + 1 + 3 = cs.length + 4 := by omega
    rw [this, List.take_length_add_append]
    rfl
  have hltQ : ∀ q ∈ Q, q.2 < L.length := fun q hq => hi.fi.lt q (List.mem_append.mpr (.inl hq))
  have hltR : ∀ q ∈ R, q.2 < L.length := fun q hq => hi.fi.lt q (List.mem_append.mpr (.inr hq))
  have m4 : cs.length + 1 + 3 = cs.length + 4 := by omega
  have fQ := frz_cells (T := T) (Q := Q) (R := R) (b := cs.length) rfl hltQ hi.fi.pl
  have fR := frz_cells (T := T) (Q := Q) (R := R) (b := cs.length) rfl hltR hi.fi.pl
  have old : ∀ c ∈ cs, frzOk (cs.length + 4) (cs ++ mkC cs.length T Q R L) c = true ∧ frzC (cs.length + 4) (cs ++ mkC cs.length T Q R L) c = c := fun c hc => frz_plain (cLtB_up (by omega) (hcs c hc))
  have hT4 : cLt (cs.length + 4) T = true := cLt_zero T hT
  have c1 : cs.length + 1 + 3 ≤ (cs ++ mkC cs.length T Q R L).length := by simp [mkC]; omega
  have c2 : (((cs ++ mkC cs.length T Q R L).take (cs.length + 1 + 3)).all fun c => frzOk (cs.length + 1 + 3) (cs ++ mkC cs.length T Q R L) c) = true := by
    rw [tk, m4, List.all_append, Bool.and_eq_true]
    refine ⟨List.all_eq_true.mpr fun c hc => (old c hc).1, ?_⟩
    rw [List.all_cons, List.all_cons, List.all_cons, List.all_cons, List.all_nil, fQ.1, fR.1]
    simp [frzOk, cLtB, frF, cLt, hT4]
  have c3 : (cs ++ mkC cs.length T Q R L)[cs.length + 1 + 2]? = some (.dct []) := by
    have : cs.length + 1 + 2 = cs.length + 3 := by omega
    rw [this, app_at 3]
    rfl
  rw [if_pos ⟨c1, c2⟩, c3]
  dsimp only
  congr 2
  rw [tk, m4, List.map_append]
  have e6 : cs.map (frzC (cs.length + 4) (cs ++ mkC cs.length T Q R L)) = cs := by
    conv => rhs; rw [← List.map_id cs]
    exact List.map_congr_left fun c hc => (old c hc).2
  have q1 := hi.q
  have r1 := hi.r
  dsimp only at q1 r1
  rw [e6, List.map_cons, List.map_cons, List.map_cons, List.map_cons, List.map_nil, fQ.2, fR.2, q1, r1]
  have : cs.length + 1 + 2 = cs.length + 3 := by omega
  rw [this, app_set 3]
  unfold frC pairsL singlesL toDl dl
  simp [frzC]
/-! ### what is forced -/
def Kd.marks (d : Bool) (v : Int) (b : Bool) (l : List Int) : Kd → Bool
  | .mark _ d' v' b' y => (d' == d && v' == v && b' == b) && decide (y ∈ l)
  | _ => false
def btw (ab : Kd → List Int) (P : List Sen) (d : Bool) (v : Int) (k j : Kd) : Bool :=
  k.marks d v false (ab j) || (j.marks d v true (ab k) || (allOf Sen.pr P (d, v)).any fun p => decide (p.1 ∈ ab k) && decide (p.2 ∈ ab j))
/-- the cells of a Forcing -/
structure FrAt (cs : List Cell) (f : Nat) (T : D) (P : List Sen) : Prop where
  c0 : cs[f]? = some (.ins 0 (frF f T))
  c1 : cs[f + 1]? = some (.dct (pairsL P))
  c2 : cs[f + 2]? = some (.dct (singlesL P))
  c3 : cs[f + 3]? = some (.memo T)
theorem p_above {g : Sig} {k : Kd} {fn : Tb} {P : List Sen} {f : Nat} {cs : List Cell} (h : FrAt cs f (tbF g.k fn) P) (hk : k.ok g) : F_Forcing_nouns_above [.cell f, k.d] cs = .ok (.tup ((above g.k fn k).map D.int)) ⟨[], cs⟩ := by
  have e1 : lookF (frF f (tbF g.k fn)) 0 = some (tbF g.k fn) := by simp [frF]
  have e2 : lookF (frF f (tbF g.k fn)) 3 = some (.cell (f + 3)) := by simp [frF]
  have e3 : sameD (tbF g.k fn) (tbF g.k fn) = true := sameD_tab _
  simp only [F_Forcing_nouns_above, memF, h.c0, e1, e2, h.c3, e3, if_true, aboveD_eq hk]
theorem frF_1 (f : Nat) (T : D) : lookF (frF f T) 1 = some (.cell (f + 1)) := by simp [frF]
theorem p_between {g : Sig} {k j : Kd} {fn : Tb} {P : List Sen} {f : Nat} {d : Bool} {v : Int} {cs : List Cell} (h : FrAt cs f (tbF g.k fn) P) (hk : k.ok g) (hj : j.ok g) :
    F_Forcing_is_between [.cell f, .bl d, .int v, k.d, j.d] cs = .ok (.bl (btw (above g.k fn) P d v k j)) ⟨[], cs⟩ := by
  have a1 := p_above h hk
  have a2 := p_above h hj
  have hkd := kOk_ky (d, v)
  have gp := get_pairs P (d, v)
  simp only [kyD] at hkd gp
  have ge : ∀ s1 : S, s1 = ⟨[.sv (.cell f), .sv (.bl d), .sv (.int v), .sv k.d, .sv j.d, .sv (.tup ((above g.k fn k).map D.int)), .sv (.tup ((above g.k fn j).map D.int)), .un, .un], cs⟩ →
      eGen true [7, 8] (iSeq (eGorX (eFld 0 1 (eV 0)) (eTup (aCons (eV 1) (aCons (eV 2) (aNil)))) (eF (aNil)))) (gT 2 (gCons (gN 7) (gCons (gN 8) (gNil)))) (eAnd (eOp inOp (eV 7) (eVB 5)) (eOp inOp (eV 8) (eVB 6))) s1 =
      .ok (.bl ((allOf Sen.pr P (d, v)).any fun p => decide (p.1 ∈ above g.k fn k) && decide (p.2 ∈ above g.k fn j))) s1 := by
    rintro s1 rfl
    refine genG (inj := prD) true (allOf Sen.pr P (d, v)) (fun p => ⟨[.sv (.cell f), .sv (.bl d), .sv (.int v), .sv k.d, .sv j.d, .sv (.tup ((above g.k fn k).map D.int)), .sv (.tup ((above g.k fn j).map D.int)), .sv (.int p.1), .sv (.int p.2)], cs⟩) _ ?_ (by simp) fun p hp => ⟨?_, ?_, ?_⟩
    · simp [h.c0, h.c1, frF_1, hkd, gp]
    · simp [prD]
    · cases hd : decide (p.1 ∈ above g.k fn k) <;> simp [okDs_ints, inD_ints, hd]
    · simp
  generalize hA : above g.k fn k = A at a1 ge
  generalize hB : above g.k fn j = B at a2 ge
  unfold btw
  rw [hA, hB]
  generalize hR : ((allOf Sen.pr P (d, v)).any fun p => decide (p.1 ∈ A) && decide (p.2 ∈ B)) = R at ge
  have m1 : ∀ s1 : S, s1 = ⟨[.sv (.cell f), .sv (.bl d), .sv (.int v), .sv k.d, .sv j.d, .sv (.tup (A.map D.int)), .sv (.tup (B.map D.int)), .un, .un], cs⟩ →
      (tA (tV (eOp eqOp (eOp ixD (eV 3) (eC (.int 0))) (eC (.str 10)))) (tA (tV (eOp eqOp (eSl (eV 3) (oEx (eC (.int 2))) (oEx (eC (.int 5)))) (eTup (aCons (eV 1) (aCons (eV 2) (aCons (eC (.bl false)) (aNil))))))) (tV (eOp inOp (eOp ixD (eV 3) (eC (.int 5))) (eVB 6))))) s1 = .ok (k.marks d v false B) s1 := by
    rintro s1 rfl
    cases k with
    | mark x d' v' b' y =>
      by_cases h1 : d' = d
      · by_cases h2 : v' = v
        · cases b' <;> simp [Kd.d, Kd.marks, cut_ab, h1, h2, okDs_ints, inD_ints]
        · simp [Kd.d, Kd.marks, cut_ab, h1, h2]
      · simp [Kd.d, Kd.marks, cut_ab, h1]
    | _ => simp [Kd.d, Kd.marks]
  have m2 : ∀ s1 : S, s1 = ⟨[.sv (.cell f), .sv (.bl d), .sv (.int v), .sv k.d, .sv j.d, .sv (.tup (A.map D.int)), .sv (.tup (B.map D.int)), .un, .un], cs⟩ →
      (tA (tV (eOp eqOp (eOp ixD (eV 4) (eC (.int 0))) (eC (.str 10)))) (tA (tV (eOp eqOp (eSl (eV 4) (oEx (eC (.int 2))) (oEx (eC (.int 5)))) (eTup (aCons (eV 1) (aCons (eV 2) (aCons (eC (.bl true)) (aNil))))))) (tV (eOp inOp (eOp ixD (eV 4) (eC (.int 5))) (eVB 5))))) s1 = .ok (j.marks d v true A) s1 := by
    rintro s1 rfl
    cases j with
    | mark x d' v' b' y =>
      by_cases h1 : d' = d
      · by_cases h2 : v' = v
        · cases b' <;> simp [Kd.d, Kd.marks, cut_ab, h1, h2, okDs_ints, inD_ints]
        · simp [Kd.d, Kd.marks, cut_ab, h1, h2]
      · simp [Kd.d, Kd.marks, cut_ab, h1]
    | _ => simp [Kd.d, Kd.marks]
  generalize hG : eGen true [7, 8] (iSeq (eGorX (eFld 0 1 (eV 0)) (eTup (aCons (eV 1) (aCons (eV 2) (aNil)))) (eF (aNil)))) (gT 2 (gCons (gN 7) (gCons (gN 8) (gNil)))) (eAnd (eOp inOp (eV 7) (eVB 5)) (eOp inOp (eV 8) (eVB 6))) = G at ge
  generalize hM1 : tA (tV (eOp eqOp (eOp ixD (eV 3) (eC (.int 0))) (eC (.str 10)))) (tA (tV (eOp eqOp (eSl (eV 3) (oEx (eC (.int 2))) (oEx (eC (.int 5)))) (eTup (aCons (eV 1) (aCons (eV 2) (aCons (eC (.bl false)) (aNil))))))) (tV (eOp inOp (eOp ixD (eV 3) (eC (.int 5))) (eVB 6)))) = T1 at m1
  generalize hM2 : tA (tV (eOp eqOp (eOp ixD (eV 4) (eC (.int 0))) (eC (.str 10)))) (tA (tV (eOp eqOp (eSl (eV 4) (oEx (eC (.int 2))) (oEx (eC (.int 5)))) (eTup (aCons (eV 1) (aCons (eV 2) (aCons (eC (.bl true)) (aNil))))))) (tV (eOp inOp (eOp ixD (eV 4) (eC (.int 5))) (eVB 5)))) = T2 at m2
  unfold F_Forcing_is_between B_Forcing_is_between
  rw [hG, hM1, hM2]
  cases h1 : k.marks d v false B with
  | true =>
    rw [h1] at m1
    simp [h.c0, a1, a2, m1]
  | false =>
    rw [h1] at m1
    cases h2 : j.marks d v true A with
    | true =>
      rw [h2] at m2
      simp [h.c0, a1, a2, m1, m2]
    | false =>
      rw [h2] at m2
      simp [h.c0, a1, a2, m1, m2, ge]
/-! ### conflicts -/
/-! ### all conflicts -/
inductive Cf where
  | prem (i : Int) | pair (v : Int) (k j : Kd) | self (v : Int) (k : Kd)
  deriving DecidableEq
def Cf.d : Cf → D
  | .prem i => .tup [.str 12, .int i]
  | .pair v k j => .tup [.str 13, .int v, k.d, j.d]
  | .self v k => .tup [.str 7, .int v, k.d]
/-! ### the ground -/
theorem tbF_plain (n : Nat) (f : Tb) : cLt 0 (tbF n f) = true := by
  have h1 : ∀ l : List Bool, cLts 0 (l.map D.bl) = true := fun l => by
    induction l with
    | nil => rfl
    | cons b l ih => rw [List.map_cons, cLts, ih]; rfl
  have h2 : ∀ rows : List (List Bool), cLts 0 (rows.map rwD) = true := fun rows => by
    induction rows with
    | nil => rfl
    | cons r rows ih =>
      rw [List.map_cons, cLts, ih]
      unfold rwD
      rw [cLt, h1]
      rfl
  unfold tbF tabD
  rw [cLt, h2]
theorem frAt_new (cs more : List Cell) (T : D) (P : List Sen) : FrAt (cs ++ (frC cs.length T P ++ more)) cs.length T P where
  c0 := by rw [app_at0]; rfl
  c1 := by rw [app_at 1]; rfl
  c2 := by rw [app_at 2]; rfl
  c3 := by rw [app_at 3]; rfl
section
variable {g : Sig} {P : List Sen} {cs : List Cell}
theorem plain_all (h : plainCs cs) : (cs.all fun c => cLtB cs.length c) = true := List.all_eq_true.mpr h
theorem plain_stream (s : Strm) : plainCs [s.c] := by
  intro c hc
  rw [List.mem_singleton] at hc
  subst hc
  have e := (cLt_up (Nat.zero_le [s.c].length)).2 _ (ints_plain s.ns)
  simp [Strm.c, cLtB, cLts, cLt] at e ⊢
  exact e
end
/-! ## the law's tables -/
theorem Sen.eqD (z t : Sen) : Z.eqD z.d t.d = decide (z = t) := by
  cases z <;> cases t <;> simp [Sen.d]
  all_goals first | (rw [Bool.eq_iff_iff]; simp; done) | rfl
theorem Sen.okD {g : Sig} {z : Sen} (h : z.ok g) (n : Nat) : Z.okD (n + 1) z.d = true := by
  cases z with
  | nn w x y => have := h.1; simp [Sen.d, Z.okD]; omega
  | vb q x d v b p y => have := h.1; have := h.2.2.2.1; simp [Sen.d, Z.okD]; omega
  | se q x d v => have := h.1; simp [Sen.d, Z.okD]; omega
/-! ## slots, and two tables -/
/-- a slot that holds a value, or none -/
def oS : Option D → Slot
  | none => .un
  | some d => .sv d
@[simp] theorem oS_some (d : D) : oS (some d) = .sv d := rfl
@[simp] theorem oS_none : oS none = .un := rfl
@[simp] theorem rsl_oS (o : Option D) : rsl (some (oS o)) = oS o := by cases o <;> rfl
theorem all_bools {α : Type} {b : α → Bool} (l : List α) : allD (.lst (l.map fun x => .bl (b x))) = some (.bl (l.all b)) := by
  have e : ∀ l : List α, boolsD (l.map fun x => D.bl (b x)) = some (l.map b) := fun l => bools_all l b
  simp [allD, e, truD, List.all_map, Function.comp_def]
theorem seq {a b : Ss} {s s1 : S} (h : a s = .ok .nx s1) : (sCons a b) s = b s1 := by
  unfold sCons
  rw [h]
  rfl
/-! ## what the law draws -/
theorem n2 (s : Strm) : ∃ (x : Int) (s' : Strm), F__law_next [.cell 0, .int 2] [s.c] = .ok (.int x) ⟨[], [s'.c]⟩ ∧ (x = 0 ∨ x = 1) := by
  obtain ⟨x, s1, e1, h0, h1⟩ := s_next s 2 (by decide) (by decide)
  exact ⟨x, s1, e1, by omega⟩
theorem rn1_st {n : Nat} (hn : n ≤ 1000000) {f : Ex} {s s1 : S} (h : f s = .ok (.int n) s1) : iRn1 (aCons f aNil) s = .ok ((zts n).map D.int) s1 := by
  rw [x_iRn1, x_aCons, h, bind_ok, x_aNil, bind_ok, bind_ok, on1_1, onI_int, lim_if1 hn, rngL_zts]
/-! ## draws, with more cells behind the stream -/
section
variable {Y : List Cell}
def atSX (Y cs : List Cell) : Prop := ∃ s : Strm, cs = s.c :: Y
theorem next_eqX (s : Strm) (m : Int) (h : 0 < m) (h' : m < 1073741824) : F__law_next [.cell 0, .int m] (s.c :: Y) = .ok (.int (s.val % m)) ⟨[], ((s.nxt m (Int.le_of_lt h)).c :: Y)⟩ := by
  have hb := s.hb
  by_cases h0 : s.a = 0
  · by_cases h1 : s.b < s.ns.length
    · obtain ⟨x, e, hr⟩ : ∃ x, s.ns[s.b.toNat]? = some x ∧ s.raw = if x < 0 then -x else x := by
        have : s.b.toNat < s.ns.length := by omega
        refine ⟨s.ns[s.b.toNat], List.getElem?_eq_getElem this, ?_⟩
        unfold Strm.raw
        rw [if_pos h1]
        simp [List.getD, this]
      by_cases h2 : s.raw < 1000000000000000000
      · simp [F__law_next, B__law_next, Strm.c, Strm.nxt, Strm.val, h0, h1, atI_int hb, e, setAt, ixN, h, h', mix, mix1, ← hr, h2]
      · simp [F__law_next, B__law_next, Strm.c, Strm.nxt, Strm.val, h0, h1, atI_int hb, e, setAt, ixN, h, h', mix, mix1, ← hr, h2]
    · have hr : s.raw = 7 + s.b := by
        unfold Strm.raw
        rw [if_neg h1]
      by_cases h2 : s.raw < 1000000000000000000
      · simp [F__law_next, B__law_next, Strm.c, Strm.nxt, Strm.val, h0, h1, setAt, ixN, h, h', mix, mix1, ← hr, h2]
      · simp [F__law_next, B__law_next, Strm.c, Strm.nxt, Strm.val, h0, h1, setAt, ixN, h, h', mix, mix1, ← hr, h2]
  · skip
    simp [F__law_next, B__law_next, Strm.c, Strm.nxt, Strm.val, h0, setAt, ixN, h, h']
theorem s_nextX (s : Strm) (m : Int) (h : 0 < m) (h' : m < 1073741824) : ∃ x s', F__law_next [.cell 0, .int m] (s.c :: Y) = .ok (.int x) ⟨[], (Strm.c s' :: Y)⟩ ∧ 0 ≤ x ∧ x < m :=
  ⟨_, _, next_eqX (Y := Y) s m h h', Int.emod_nonneg _ (by omega), Int.emod_lt_of_pos _ h⟩
end
/-! ## the draws of k15 to k18, with more cells behind the stream -/
section
variable {Y : List Cell}
theorem n2Y (s : Strm) : ∃ (x : Int) (s' : Strm), F__law_next [.cell 0, .int 2] (s.c :: Y) = .ok (.int x) ⟨[], s'.c :: Y⟩ ∧ (x = 0 ∨ x = 1) := by
  obtain ⟨x, s1, e1, h0, h1⟩ := s_nextX (Y := Y) s 2 (by decide) (by decide)
  exact ⟨x, s1, e1, by omega⟩
theorem w9 (k : Int) (h0 : 0 ≤ k) (h1 : k < 9) : ∃ w : Nat, atI [D.str 0, .str 2, .str 3, .str 1, .str 4, .str 5] (k % 6) = some (.str w) ∧ w < 6 := by
  obtain rfl | rfl | rfl | rfl | rfl | rfl | rfl | rfl | rfl : k = 0 ∨ k = 1 ∨ k = 2 ∨ k = 3 ∨ k = 4 ∨ k = 5 ∨ k = 6 ∨ k = 7 ∨ k = 8 := by omega
  all_goals exact ⟨_, rfl, by decide⟩
theorem s_sentenceX (s : Strm) (g : Sig) : ∃ (z : Sen) (s' : Strm), F__law_sentence [.cell 0, .int g.n, .int g.v] (s.c :: Y) = .ok z.d ⟨[], (s'.c :: Y)⟩ ∧ z.ok g := by
  have gn := g.hn
  have gn4 := g.hn4
  have gv := g.hv
  have gv2 := g.hv2
  obtain ⟨x, s1, e1, h0, h1⟩ := s_nextX (Y := Y) s g.n (by omega) (by omega)
  obtain ⟨y, s2, e2, k0, k1⟩ := s_nextX (Y := Y) s1 g.n (by omega) (by omega)
  obtain ⟨k, s3, e3, p0, p1⟩ := s_nextX (Y := Y) s2 9 (by decide) (by decide)
  by_cases hk : k < 6 ∨ g.v = 0
  · obtain ⟨w, hw, w6⟩ := w9 k p0 p1
    refine ⟨.nn w x y, s3, ?_, w6, ⟨h0, h1⟩, k0, k1⟩
    by_cases h6 : k < 6
    · simp [F__law_sentence, B__law_sentence, Sen.d, e1, e2, e3, h6, hw]
    · have hv : g.v = 0 := hk.resolve_left h6
      simp [F__law_sentence, B__law_sentence, Sen.d, e1, e2, e3, h6, hw, hv]
  · have h6 : ¬ k < 6 := fun h => hk (.inl h)
    have hv : ¬ g.v = 0 := fun h => hk (.inr h)
    obtain ⟨q, s4, e4, hq⟩ := n2Y (Y := Y) s3
    obtain ⟨b1, s5, e5, hb1⟩ := n2Y (Y := Y) s4
    obtain ⟨v, s6, e6, v0, v1⟩ := s_nextX (Y := Y) s5 g.v (by omega) (by omega)
    obtain ⟨q', hq', q2⟩ : ∃ q' : Nat, atI [D.str 0, .str 1] q = some (.str q') ∧ q' < 2 := by
      rcases hq with rfl | rfl
      all_goals exact ⟨_, rfl, by decide⟩
    by_cases h7 : k = 6
    · subst h7
      refine ⟨.se q' x (b1 == 0) v, s6, ?_, q2, ⟨h0, h1⟩, v0, v1⟩
      simp [F__law_sentence, B__law_sentence, Sen.d, e1, e2, e3, e4, e5, e6, hv, hq']
    · obtain ⟨b2, s7, e7, hb2⟩ := n2Y (Y := Y) s6
      obtain ⟨p, s8, e8, hp⟩ := n2Y (Y := Y) s7
      obtain ⟨p', hp', p2⟩ : ∃ p' : Nat, atI [D.str 0, .str 1] p = some (.str p') ∧ p' < 2 := by
        rcases hp with rfl | rfl
        all_goals exact ⟨_, rfl, by decide⟩
      refine ⟨.vb q' x (b1 == 0) v (b2 == 0) p' y, s8, ?_, q2, ⟨h0, h1⟩, ⟨v0, v1⟩, p2, k0, k1⟩
      simp [F__law_sentence, B__law_sentence, Sen.d, e1, e2, e3, e4, e5, e6, e7, e8, hv, h6, h7, hq', hp']
theorem s_premisesX (s : Strm) (g : Sig) (m : Nat) (hm : m ≤ 30) : ∃ (zs : List Sen) (s' : Strm), F__law_premises [.cell 0, g.d, .int m] (s.c :: Y) = .ok (.tup (zs.map Sen.d)) ⟨[], (s'.c :: Y)⟩ ∧ zs.length ≤ m ∧ ∀ z ∈ zs, z.ok g := by
  obtain ⟨n, s1, e1, h0, h1⟩ := s_nextX (Y := Y) s (m + 1) (by omega) (by omega)
  obtain ⟨n, rfl⟩ : ∃ k : Nat, n = k := ⟨n.toNat, by omega⟩
  have i0 : ixD g.d (.int 0) = some (.int g.n) := by simp [Sig.d]
  have i1 : ixD g.d (.int 1) = some (.int g.v) := by simp [Sig.d]
  obtain ⟨ys, cs, e, ⟨s', rfl⟩, hP, hl, _⟩ := lc_st (vs := [3]) (fi := iRn1 (aCons (eCall (F__law_next) (aCons (eV 0) (aCons (eOp addD (eV 2) (eC (.int 1))) (aNil)))) (aNil))) (g := gN 3) (t := Z.tYes)
    (f := eCall (F__law_sentence) (aCons (eV 0) (aCons (eOp ixD (eV 1) (eC (.int 0))) (aCons (eOp ixD (eV 1) (eC (.int 1))) (aNil))))) (ds := (zts n).map D.int)
    (s := ⟨[.sv (.cell 0), .sv g.d, .sv (.int m), .un], (s.c :: Y)⟩) (s0 := ⟨[.sv (.cell 0), .sv g.d, .sv (.int m), .un], (s1.c :: Y)⟩) (atSX Y) (fun d y => ∃ z : Sen, z.ok g ∧ y = z.d) (by
      exact rn1_st (by omega) (by simp [e1])) (by simp; omega) ⟨s1, rfl⟩ (fun d hd cs hc => by
      obtain ⟨s2, rfl⟩ := hc
      obtain ⟨z, s3, e, hz⟩ := s_sentenceX (Y := Y) s2 g
      refine ⟨⟨[.sv (.cell 0), .sv g.d, .sv (.int m), .sv d], (s2.c :: Y)⟩, by simp, true, _, rfl, (fun h => nomatch h), fun _ => ⟨z.d, ⟨[.sv (.cell 0), .sv g.d, .sv (.int m), .sv d], (s3.c :: Y)⟩, ?_, by simp, ⟨s3, rfl⟩, z, hz, rfl⟩⟩
      simp [e, i0, i1]) (by simp)
  obtain ⟨zs, rfl, hz⟩ := all_map (F := Sen.d) (Q := fun z => z.ok g) (ys := ys) fun y hy => let ⟨d, _, z, h1, h2⟩ := hP y hy; ⟨z, h1, h2⟩
  have hl : zs.length ≤ m := by simp at hl; omega
  refine ⟨zs, s', ?_, hl, hz⟩
  have hl2 : zs.length ≤ 100000 := by omega
  simp only [F__law_premises, B__law_premises]
  simp [e]
theorem irr_itemX (a : Int ⊕ List Nat) : PyProof.Rows.itemLt a a = false := PyProof.Rows.itemOrd.irrefl a
theorem int_itemX (x y : Int) : PyProof.Rows.itemLt (Sum.inl x) (Sum.inl y) = decide (x < y) := rfl
theorem lt_intX (x y : Int) : PySem.W.dataLt (D.py (.int x)) (D.py (.int y)) = decide (x < y) := by
  simp [PySem.W.dataLt, PySem.W.keyToks, PySem.W.keyToksAll, PyProof.Rows.lexLt, D.py, D.pys, irr_itemX, int_itemX]
theorem al_intX (x y : Int) : al4 (D.py (.int x)) (D.py (.int y)) = true := by
  simp [al4, al4.isNoneD, PySem.W.alike, PySem.W.alikeAll, D.py, D.pys]
theorem min_intX (x y : Int) : minOp (.int x) (.int y) = some (.int (min x y)) := by
  have e : min x y = if y < x then y else x := by split <;> omega
  rw [e]
  simp [minOp, al_intX, lt_intX]
  split <;> rfl
theorem max_intX (x y : Int) : maxOp (.int x) (.int y) = some (.int (max x y)) := by
  have e : max x y = if x < y then y else x := by split <;> omega
  rw [e]
  simp [maxOp, al_intX, lt_intX]
  split <;> rfl
theorem s_kindX (s : Strm) (g : Sig) : ∃ (k : Kd) (s' : Strm), F__law_some_kind [.cell 0, g.d] (s.c :: Y) = .ok k.d ⟨[], (s'.c :: Y)⟩ ∧ k.ok g := by
  have gn := g.hn
  have gn4 := g.hn4
  have gv := g.hv
  have gv2 := g.hv2
  have i0 : ixD g.d (.int 0) = some (.int g.n) := by simp [Sig.d]
  have i1 : ixD g.d (.int 1) = some (.int g.v) := by simp [Sig.d]
  obtain ⟨x, s1, e1, x0, x1⟩ := s_nextX (Y := Y) s g.n (by omega) (by omega)
  obtain ⟨y, s2, e2, y0, y1⟩ := s_nextX (Y := Y) s1 g.n (by omega) (by omega)
  obtain ⟨p, s3, e3, p0, p1⟩ := s_nextX (Y := Y) s2 4 (by decide) (by decide)
  by_cases c0 : p = 0 ∨ g.v = 0
  · refine ⟨.one x, s3, ?_, x0, x1⟩
    generalize g.d = gd at *
    rcases c0 with rfl | hv
    · simp [F__law_some_kind, B__law_some_kind, Kd.d, e1, e2, e3, i0, i1]
    · by_cases c : p = 0
      · subst c
        simp [F__law_some_kind, B__law_some_kind, Kd.d, e1, e2, e3, i0, i1]
      · simp [F__law_some_kind, B__law_some_kind, Kd.d, e1, e2, e3, i0, i1, c, hv]
  · have c1 : ¬ p = 0 := fun h => c0 (.inl h)
    have cv : ¬ g.v = 0 := fun h => c0 (.inr h)
    by_cases c2 : p = 1 ∧ x ≠ y
    · obtain ⟨rfl, hxy⟩ := c2
      refine ⟨.both (min x y) (max x y), s3, ?_, ?_⟩
      · generalize g.d = gd at *
        have mi := min_intX x y
        have ma := max_intX x y
        generalize min x y = m1 at *
        generalize max x y = m2 at *
        simp [F__law_some_kind, B__law_some_kind, Kd.d, e1, e2, e3, i0, i1, cv, hxy, mi, ma]
      · refine ⟨⟨by omega, by omega⟩, ⟨by omega, by omega⟩, by omega⟩
    · have c3 : p = 1 → x = y := fun h => Classical.byContradiction fun hn => c2 ⟨h, hn⟩
      obtain ⟨b, s4, e4, _⟩ := n2Y (Y := Y) s3
      obtain ⟨v, s5, e5, v0, v1⟩ := s_nextX (Y := Y) s4 g.v (by omega) (by omega)
      by_cases c4 : p = 2
      · subst c4
        refine ⟨.slf x (b == 0) v, s5, ?_, ⟨x0, x1⟩, v0, v1⟩
        generalize g.d = gd at *
        simp [F__law_some_kind, B__law_some_kind, Kd.d, e1, e2, e3, e4, e5, i0, i1, cv]
      · obtain ⟨b2, s6, e6, _⟩ := n2Y (Y := Y) s5
        refine ⟨.mark x (b == 0) v (b2 == 0) y, s6, ?_, ⟨x0, x1⟩, ⟨v0, v1⟩, y0, y1⟩
        generalize g.d = gd at *
        by_cases c5 : p = 1
        · have hxy := c3 c5
          subst c5
          subst hxy
          simp [F__law_some_kind, B__law_some_kind, Kd.d, e1, e2, e3, e4, e5, e6, i0, i1, cv]
        · simp [F__law_some_kind, B__law_some_kind, Kd.d, e1, e2, e3, e4, e5, e6, i0, i1, cv, c1, c4, c5]
end
/-! ## the tables as the program tells them -/
def dpL (n : Nat) (f : Tb) : List Pr := (zts n).flatMap fun x => ((zts n).filter fun y => !decide (x = y) && f x y).map fun y => (x, y)
theorem dpL_len {n : Nat} (hn : n ≤ 8) {f : Tb} : (dpL n f).length ≤ 64 := by
  have key : ∀ l : List Int, (l.flatMap fun x => ((zts n).filter fun y => !decide (x = y) && f x y).map fun y => (x, y)).length ≤ l.length * n := by
    intro l
    induction l with
    | nil => simp
    | cons x l ih =>
      rw [List.flatMap_cons, List.length_append, List.length_cons, Nat.succ_mul, List.length_map]
      have := List.length_filter_le (fun y => !decide (x = y) && f x y) (zts n)
      rw [zts_length] at this
      omega
  have h := key (zts n)
  rw [zts_length] at h
  have : n * n ≤ 8 * 8 := Nat.mul_le_mul hn hn
  unfold dpL
  omega
section
variable {g : Sig} {P : List Sen} {cs : List Cell}
theorem p_diff {n : Nat} (hn : n ≤ 8) {f : Tb} : F__different_pairs [tbF n f] cs = .ok (.tup ((dpL n f).map prD)) ⟨[], cs⟩ := by
  have e := lc2T (s := ⟨[.sv (tbF n f), .sv (.rng 0 n), .un, .un], cs⟩) (i := 2) (j := 3) (inj := D.int) (inj2 := D.int) (gi := igV (eV 1)) (gi1 := igV (eV 1)) (t := Z.tYes) (t1 := tA (tV (eOp neOp (eV 2) (eVB 3))) (tU (eOp ixD (eOp ixD (eV 0) (eV 2)) (eV 3)))) (f := eTup (aCons (eV 2) (aCons (eV 3) (aNil)))) (w := none)
    (by decide) (zts n) (fun _ => zts n) (fun _ => none) (fun _ => true) (fun x y => !decide (x = y) && f x y) (fun x y => prD (x, y)) (igV_ok (by omega) rfl) rfl (by rw [zts_length]; omega) (by simp) fun x hx => ⟨by simp, fun _ => ⟨igV_ok (by omega) rfl, rfl, by rw [zts_length]; omega, fun y hy => ⟨by
      have t1 := tbF_at (f := f) (mem_zts.mp hx)
      have t2 := rwF_at (f := f) (x := x) (mem_zts.mp hy)
      generalize tbF n f = T at *
      generalize rwF n f x = R at *
      by_cases c : x = y
      · simp [c]
      · simp [c, t1, t2], fun _ => by simp [prD]⟩⟩⟩
  have a1 : ((zts n).flatMap fun x => if true = true then ((zts n).filter fun y => !decide (x = y) && f x y).map (fun y => prD (x, y)) else []) = (dpL n f).map prD := by
    unfold dpL
    simp [List.map_flatMap, Function.comp_def]
  rw [a1] at e
  have tl := tbF_len n f
  generalize tbF n f = T at *
  generalize (dpL n f).map prD = DL at *
  have b1 : -(4611686018427387904 : Int) ≤ n := by omega
  have b2 : (n : Int) < 4611686018427387904 := by omega
  simp [F__different_pairs, B__different_pairs, tl, e, b1, b2]
theorem p_subsets (hP : ∀ z ∈ P, z.ok g) (hl : P.length ≤ 8) : F_subsets [g.d, .tup (P.map Sen.d)] cs = .ok (.tup ((dpL g.k (subR P)).map prD)) ⟨[], cs⟩ := by
  have k4 := g.k_le
  have e1 := p_check_signature (g := g) (cs := cs)
  have e2 := fun nm => p_check_premises (nm := nm) (cs := cs) hl hP
  have e3 := p_tables_of (cs := cs) hP (by omega)
  have e4 := p_diff (n := g.k) (f := subR P) (cs := cs) (by omega)
  have i0 : ixD g.d (.int 0) = some (.int g.n) := by simp [Sig.d]
  generalize tbF g.k (subR P) = T1 at *
  generalize P.map Sen.d = PD at *
  generalize (dpL g.k (subR P)).map prD = DL at *
  simp [F_subsets, B_subsets, e1, e2, e3, e4, i0]
theorem p_at_least (hP : ∀ z ∈ P, z.ok g) (hl : P.length ≤ 8) : F_at_least [g.d, .tup (P.map Sen.d)] cs = .ok (.tup ((dpL g.k (manyR P)).map prD)) ⟨[], cs⟩ := by
  have k4 := g.k_le
  have e1 := p_check_signature (g := g) (cs := cs)
  have e2 := fun nm => p_check_premises (nm := nm) (cs := cs) hl hP
  have e3 := p_tables_of (cs := cs) hP (by omega)
  have e4 := p_diff (n := g.k) (f := manyR P) (cs := cs) (by omega)
  have i0 : ixD g.d (.int 0) = some (.int g.n) := by simp [Sig.d]
  generalize tbF g.k (manyR P) = T1 at *
  generalize P.map Sen.d = PD at *
  generalize (dpL g.k (manyR P)).map prD = DL at *
  simp [F_at_least, B_at_least, e1, e2, e3, e4, i0]
theorem p_nouns_required (hP : ∀ z ∈ P, z.ok g) (hl : P.length ≤ 8) : F_nouns_required [g.d, .tup (P.map Sen.d)] cs = .ok (.tup ((reqL P g.k).map D.int)) ⟨[], cs⟩ := by
  have e1 := p_check_signature (g := g) (cs := cs)
  have e2 := fun nm => p_check_premises (nm := nm) (cs := cs) hl hP
  have e3 := p_tables_of (cs := cs) hP (by omega)
  have e4 := p_nouns_needed (cs := cs) hP (by omega)
  have i0 : ixD g.d (.int 0) = some (.int g.n) := by simp [Sig.d]
  generalize tbF g.k (manyR P) = T1 at *
  generalize tbF g.k (subR P) = T2 at *
  generalize P.map Sen.d = PD at *
  generalize (reqL P g.k).map D.int = DL at *
  simp [F_nouns_required, B_nouns_required, e1, e2, e3, e4, i0]
theorem p_kinds_required (hP : ∀ z ∈ P, z.ok g) (hl : P.length ≤ 8) : F_kinds_required [g.d, .tup (P.map Sen.d)] cs = .ok (.tup ((kindsR P g.k).map Kd.d)) ⟨[], cs⟩ := by
  have e1 := p_check_signature (g := g) (cs := cs)
  have e2 := fun nm => p_check_premises (nm := nm) (cs := cs) hl hP
  have e3 := p_tables_of (cs := cs) hP (by omega)
  have e4 := p_kinds_needed (cs := cs) hP (by omega)
  have i0 : ixD g.d (.int 0) = some (.int g.n) := by simp [Sig.d]
  generalize tbF g.k (manyR P) = T1 at *
  generalize tbF g.k (subR P) = T2 at *
  generalize P.map Sen.d = PD at *
  generalize (kindsR P g.k).map Kd.d = DL at *
  simp [F_kinds_required, B_kinds_required, e1, e2, e3, e4, i0]
theorem p_kind_form {k : Kd} (h : k.ok g) : F_has_form_of_kind [g.d, k.d] cs = .ok (.bl true) ⟨[], cs⟩ := by
  cases k with
  | one x =>
    have e1 := p_noun (cs := cs) h
    simp [F_has_form_of_kind, B_has_form_of_kind, Kd.d, e1]
  | both x y =>
    have e1 := p_noun (cs := cs) h.1
    have e2 := p_noun (cs := cs) h.2.1
    simp [F_has_form_of_kind, B_has_form_of_kind, Kd.d, e1, e2, h.2.2]
  | mark x d v bb y =>
    have e1 := p_noun (cs := cs) h.1
    have e2 := p_verb (cs := cs) h.2.1
    have e3 := p_noun (cs := cs) h.2.2
    have e4 : F__is_mark_rest [g.d, .tup [.bl d, .int v, .bl bb, .int y]] cs = .ok (.bl true) ⟨[], cs⟩ := by
      simp [F__is_mark_rest, B__is_mark_rest, e2, e3]
    simp [F_has_form_of_kind, B_has_form_of_kind, Kd.d, e1, e4]
  | slf x d v =>
    have e1 := p_noun (cs := cs) h.1
    have e2 := p_verb (cs := cs) h.2
    simp [F_has_form_of_kind, B_has_form_of_kind, Kd.d, e1, e2]
theorem p_check_kind {k : Kd} (h : k.ok g) {nm : D} : F__check_kind [g.d, k.d, nm] cs = .ok .non ⟨[], cs⟩ := by
  have := p_kind_form (cs := cs) h
  generalize k.d = kd at *
  simp [F__check_kind, B__check_kind, this]
theorem p_check_verb {v : Int} (h : isV g v) : F__check_verb [g.d, .int v] cs = .ok .non ⟨[], cs⟩ := by
  have := p_verb (cs := cs) h
  simp [F__check_verb, B__check_verb, this]
def wrd (a b : Bool) : Nat := if a = true then (if b = true then 9 else 14) else if b = true then 3 else 15
theorem p_word {a b : Bool} : F__word [.bl a, .bl b] cs = .ok (.str (wrd a b)) ⟨[], cs⟩ := by
  cases a <;> cases b <;> simp [F__word, B__word, wrd]
theorem p_forced (hP : ∀ z ∈ P, z.ok g) (hl : P.length ≤ 8) (hcs : plainCs cs) {k j : Kd} (hk : k.ok g) (hj : j.ok g) {v : Int} (hv : isV g v) : F_forced_between [g.d, .tup (P.map Sen.d), .int v, k.d, j.d] cs = .ok (.str (wrd (btw (above g.k (subR P)) P true v k j) (btw (above g.k (subR P)) P false v k j))) ⟨[], cs⟩ := by
  have e1 := p_check_signature (g := g) (cs := cs)
  have e2 := fun nm => p_check_premises (nm := nm) (cs := cs) hl hP
  have e3 := p_tables_of (cs := cs) hP (by omega)
  have e4 := fun nm => p_check_kind (cs := cs) hk (nm := nm)
  have e5 := fun nm => p_check_kind (cs := cs) hj (nm := nm)
  have e6 := p_check_verb (cs := cs) hv
  have e7 := p_forcing (cs := cs) hP (by omega) (tbF_plain g.k (subR P)) hcs
  have fr := frAt_new cs [] (tbF g.k (subR P)) P
  rw [List.append_nil] at fr
  have c0 := fr.c0
  have b1 := p_between (d := true) (v := v) fr hk hj
  have b2 := p_between (d := false) (v := v) fr hk hj
  have i0 : ixD g.d (.int 0) = some (.int g.n) := by simp [Sig.d]
  refine drpB_ok (more := frC cs.length (tbF g.k (subR P)) P) ?_ (plain_all hcs) rfl
  have pw := p_word (a := btw (above g.k (subR P)) P true v k j) (b := btw (above g.k (subR P)) P false v k j) (cs := cs ++ frC cs.length (tbF g.k (subR P)) P)
  clear fr
  generalize btw (above g.k (subR P)) P true v k j = B1 at *
  generalize btw (above g.k (subR P)) P false v k j = B2 at *
  generalize tbF g.k (manyR P) = T1 at *
  generalize cs ++ frC cs.length (tbF g.k (subR P)) P = Y at *
  generalize frF cs.length (tbF g.k (subR P)) = FF at *
  generalize tbF g.k (subR P) = T2 at *
  generalize P.map Sen.d = PD at *
  generalize k.d = kd at *
  generalize j.d = jd at *
  simp [Fr_forced_between, B_forced_between, e1, e2, e3, e4, e5, e6, e7, i0, b1, b2, c0, pw]
end
/-! ## more premises keep what was told -/
section
variable {P Q : List Sen}
theorem rl19 (h : ∀ z ∈ P, z ∈ Q) {b : Bool} {x y : Int} (r : Rl P b x y) : Rl Q b x y := by
  induction r with
  | refl x => exact .refl x
  | all h1 => exact .all (h _ h1)
  | tr _ _ a b => exact .tr a b
  | eq _ _ a b => exact .eq a b
  | many h1 => exact .many (h _ h1)
  | few h1 => exact .few (h _ h1)
  | sub _ a => exact .sub a
theorem sub19 (h : ∀ z ∈ P, z ∈ Q) {x y : Int} (e : subR P x y = true) : subR Q x y = true := subR_iff.mpr (rl19 h (subR_iff.mp e))
theorem many19 (h : ∀ z ∈ P, z ∈ Q) {x y : Int} (e : manyR P x y = true) : manyR Q x y = true := manyR_iff.mpr (rl19 h (manyR_iff.mp e))
theorem req19 (h : ∀ z ∈ P, z ∈ Q) {x : Int} (r : Req P x) : Req Q x := by
  induction r with
  | kind h1 h2 h3 h4 => exact .kind (h _ h1) h2 h3 (rl19 h h4)
  | sub _ h1 ih => exact .sub ih (rl19 h h1)
  | many _ h1 ih => exact .many ih (rl19 h h1)
  | verb _ h1 ih => exact .verb ih (h _ h1)
theorem mem_dpL19 {n : Nat} {f : Tb} {p : Pr} : p ∈ dpL n f ↔ p.1 ∈ zts n ∧ p.2 ∈ zts n ∧ p.1 ≠ p.2 ∧ f p.1 p.2 = true := by
  unfold dpL
  rw [List.mem_flatMap]
  constructor
  · rintro ⟨x, hx, h⟩
    obtain ⟨y, hy, rfl⟩ := List.mem_map.mp h
    obtain ⟨h1, h2⟩ := List.mem_filter.mp hy
    rw [Bool.and_eq_true] at h2
    exact ⟨hx, h1, by simpa using h2.1, h2.2⟩
  · rintro ⟨h1, h2, h3, h4⟩
    refine ⟨p.1, h1, List.mem_map.mpr ⟨p.2, List.mem_filter.mpr ⟨h2, ?_⟩, rfl⟩⟩
    rw [Bool.and_eq_true]
    exact ⟨by simpa using h3, h4⟩
theorem dp19 {n : Nat} {f k : Tb} (h : ∀ x y, f x y = true → k x y = true) {p : Pr} (hp : p ∈ dpL n f) : p ∈ dpL n k := by
  obtain ⟨h1, h2, h3, h4⟩ := mem_dpL19.mp hp
  exact mem_dpL19.mpr ⟨h1, h2, h3, h _ _ h4⟩
theorem reqL19 (h : ∀ z ∈ P, z ∈ Q) {n : Nat} {x : Int} (hx : x ∈ reqL P n) : x ∈ reqL Q n := by
  unfold reqL at *
  obtain ⟨h1, h2⟩ := List.mem_filter.mp hx
  exact List.mem_filter.mpr ⟨h1, reqB_iff.mpr (req19 h (reqB_iff.mp h2))⟩
theorem kindsR19 (h : ∀ z ∈ P, z ∈ Q) {n : Nat} {k : Kd} (hk : k ∈ kindsR P n) : k ∈ kindsR Q n := by
  unfold kindsR at *
  rcases List.mem_append.mp hk with hk | hk
  · obtain ⟨x, hx, rfl⟩ := List.mem_map.mp hk
    exact List.mem_append.mpr (.inl (List.mem_map.mpr ⟨x, reqL19 h hx, rfl⟩))
  · obtain ⟨h1, h2⟩ := List.mem_filter.mp hk
    obtain ⟨z, hz, hs⟩ := mem_statedL.mp h1
    exact List.mem_append.mpr (.inr (List.mem_filter.mpr ⟨mem_statedL.mpr ⟨z, h _ hz, hs⟩, h2⟩))
theorem above19 (h : ∀ z ∈ P, z ∈ Q) {n : Nat} {k : Kd} {x : Int} (hx : x ∈ above n (subR P) k) : x ∈ above n (subR Q) k := by
  unfold above at *
  obtain ⟨h1, h2⟩ := List.mem_filter.mp hx
  obtain ⟨y, hy, e⟩ := List.any_eq_true.mp h2
  exact List.mem_filter.mpr ⟨h1, List.any_eq_true.mpr ⟨y, hy, sub19 h e⟩⟩
theorem marks19 {d b : Bool} {v : Int} {l m : List Int} (h : ∀ x ∈ l, x ∈ m) {k : Kd} (e : k.marks d v b l = true) : k.marks d v b m = true := by
  cases k with
  | one x => exact e
  | both x y => exact e
  | slf x d' v' => exact e
  | mark x d' v' b' y =>
    have e : ((d' == d && v' == v && b' == b) && decide (y ∈ l)) = true := e
    show ((d' == d && v' == v && b' == b) && decide (y ∈ m)) = true
    rw [Bool.and_eq_true] at e ⊢
    exact ⟨e.1, decide_eq_true (h _ (of_decide_eq_true e.2))⟩
theorem allOf19 {α : Type} {f : Sen → Option (Ky × α)} (h : ∀ z ∈ P, z ∈ Q) {k : Ky} {x : α} (hx : x ∈ allOf f P k) : x ∈ allOf f Q k := by
  unfold allOf at *
  obtain ⟨z, hz, e⟩ := List.mem_filterMap.mp hx
  exact List.mem_filterMap.mpr ⟨z, h _ hz, e⟩
theorem btw19 (h : ∀ z ∈ P, z ∈ Q) {n : Nat} {d : Bool} {v : Int} {k j : Kd} (e : btw (above n (subR P)) P d v k j = true) : btw (above n (subR Q)) Q d v k j = true := by
  unfold btw at *
  rw [Bool.or_eq_true, Bool.or_eq_true] at e ⊢
  rcases e with e | e | e
  · exact .inl (marks19 (fun _ => above19 h) e)
  · exact .inr (.inl (marks19 (fun _ => above19 h) e))
  · refine .inr (.inr ?_)
    obtain ⟨p, hp, e⟩ := List.any_eq_true.mp e
    rw [Bool.and_eq_true] at e
    refine List.any_eq_true.mpr ⟨p, allOf19 h hp, ?_⟩
    rw [Bool.and_eq_true]
    exact ⟨decide_eq_true (above19 h (of_decide_eq_true e.1)), decide_eq_true (above19 h (of_decide_eq_true e.2))⟩
/-- two nouns of which each is a subset of the other are both required, or none -/
theorem both19 {n : Nat} {x y : Int} (hx : x ∈ zts n) (hy : y ∈ zts n) (h1 : subR Q x y = true) (h2 : subR Q y x = true) : decide (x ∈ reqL Q n) = decide (y ∈ reqL Q n) := by
  have a1 := subR_iff.mp h1
  have a2 := subR_iff.mp h2
  rw [Bool.eq_iff_iff, decide_eq_true_iff, decide_eq_true_iff]
  unfold reqL
  rw [List.mem_filter, List.mem_filter, reqB_iff, reqB_iff]
  exact ⟨fun h => ⟨hy, .sub h.2 a1⟩, fun h => ⟨hx, .sub h.2 a2⟩⟩
theorem in_prs19 {p : Pr} {l : List Pr} : inOp (prD p) (.tup (l.map prD)) = some (.bl (decide (p ∈ l))) := by
  rw [inOp, okD60_pr, okDs60_prs, inD_prs]
  rfl
theorem in_kds19 {k : Kd} {l : List Kd} : inOp k.d (.tup (l.map Kd.d)) = some (.bl (decide (k ∈ l))) := by
  rw [inOp, Kd.okD k 59, kds_ok 59 l, inD_kds]
  rfl
theorem in_sub19 {α : Type} {F : α → D} {l : List α} {B : D} (hi : ∀ x ∈ l, inOp (F x) B = some (.bl true)) : ∀ d ∈ l.map F, inOp d B = some (.bl true) := by
  intro d hd
  obtain ⟨x, hx, rfl⟩ := List.mem_map.mp hd
  exact hi x hx
end
section
variable {g : Sig} {P Q : List Sen} {ns : List Int} {s : Strm} {p6 p16 : Slot}
theorem l_told19 {a : Addr} {F : Fn} {Ls Bs : List D} (hF : ([(202, F_subsets), (209, F_at_least), (216, F_nouns_required), (305, F_kinds_required)] : List (Addr × Fn)).lookup a = some F)
    (f1 : F [g.d, .tup (P.map Sen.d)] [s.c] = .ok (.tup Ls) ⟨[], [s.c]⟩) (f2 : F [g.d, .tup (Q.map Sen.d)] [s.c] = .ok (.tup Bs) ⟨[], [s.c]⟩) (hs : ∀ d ∈ Ls, inOp d (.tup Bs) = some (.bl true)) (hl : Ls.length ≤ 1000) :
    (sCons (sSet 6 (eCallA 5 [(202, F_subsets), (209, F_at_least), (216, F_nouns_required), (305, F_kinds_required)] (aCons (eV 2) (aCons (eV 4) (aNil))))) (sIf (tN (tU (eC1 allD (eF (aLc [16] (iSeq (eCallA 5 [(202, F_subsets), (209, F_at_least), (216, F_nouns_required), (305, F_kinds_required)] (aCons (eV 2) (aCons (eV 3) (aNil))))) (gN 16) (Z.tYes) (eOp inOp (eV 16) (eVB 6))))))) (sRet (eC (.bl false))) (sNil))) ⟨[.sv (.scr ns), .sv (.cell 0), .sv g.d, .sv (.tup (P.map Sen.d)), .sv (.tup (Q.map Sen.d)), .sv (.fn a), p6, .un, .un, .un, .un, .un, .un, .un, .un, .un, .un], [s.c]⟩ = .ok .nx ⟨[.sv (.scr ns), .sv (.cell 0), .sv g.d, .sv (.tup (P.map Sen.d)), .sv (.tup (Q.map Sen.d)), .sv (.fn a), .sv (.tup Bs), .un, .un, .un, .un, .un, .un, .un, .un, .un, .un], [s.c]⟩ := by
  have c2 : (eCallA 5 [(202, F_subsets), (209, F_at_least), (216, F_nouns_required), (305, F_kinds_required)] (aCons (eV 2) (aCons (eV 4) (aNil)))) ⟨[.sv (.scr ns), .sv (.cell 0), .sv g.d, .sv (.tup (P.map Sen.d)), .sv (.tup (Q.map Sen.d)), .sv (.fn a), p6, .un, .un, .un, .un, .un, .un, .un, .un, .un, .un], [s.c]⟩ = .ok (.tup Bs) ⟨[.sv (.scr ns), .sv (.cell 0), .sv g.d, .sv (.tup (P.map Sen.d)), .sv (.tup (Q.map Sen.d)), .sv (.fn a), p6, .un, .un, .un, .un, .un, .un, .un, .un, .un, .un], [s.c]⟩ := by
    generalize P.map Sen.d = PD at *
    generalize Q.map Sen.d = QD at *
    generalize g.d = gd at *
    unfold eCallA
    show (match ([(202, F_subsets), (209, F_at_least), (216, F_nouns_required), (305, F_kinds_required)] : List (Addr × Fn)).lookup a with | some F => _ | none => _) = _
    rw [hF]
    simp [f2]
  have c1 : (eCallA 5 [(202, F_subsets), (209, F_at_least), (216, F_nouns_required), (305, F_kinds_required)] (aCons (eV 2) (aCons (eV 3) (aNil)))) ⟨[.sv (.scr ns), .sv (.cell 0), .sv g.d, .sv (.tup (P.map Sen.d)), .sv (.tup (Q.map Sen.d)), .sv (.fn a), .sv (.tup Bs), .un, .un, .un, .un, .un, .un, .un, .un, .un, .un], [s.c]⟩ = .ok (.tup Ls) ⟨[.sv (.scr ns), .sv (.cell 0), .sv g.d, .sv (.tup (P.map Sen.d)), .sv (.tup (Q.map Sen.d)), .sv (.fn a), .sv (.tup Bs), .un, .un, .un, .un, .un, .un, .un, .un, .un, .un], [s.c]⟩ := by
    generalize P.map Sen.d = PD at *
    generalize Q.map Sen.d = QD at *
    generalize g.d = gd at *
    unfold eCallA
    show (match ([(202, F_subsets), (209, F_at_least), (216, F_nouns_required), (305, F_kinds_required)] : List (Addr × Fn)).lookup a with | some F => _ | none => _) = _
    rw [hF]
    simp [f1]
  have e := lcM (i := 16) (inj := fun d : D => d) (fi := iSeq (eCallA 5 [(202, F_subsets), (209, F_at_least), (216, F_nouns_required), (305, F_kinds_required)] (aCons (eV 2) (aCons (eV 3) (aNil))))) (f := eOp inOp (eV 16) (eVB 6)) (s := ⟨[.sv (.scr ns), .sv (.cell 0), .sv g.d, .sv (.tup (P.map Sen.d)), .sv (.tup (Q.map Sen.d)), .sv (.fn a), .sv (.tup Bs), .un, .un, .un, .un, .un, .un, .un, .un, .un, .un], [s.c]⟩) Ls (fun _ => .bl true) (by
    rw [List.map_id']
    generalize hI : (eCallA _ _ _ : Ex) = I at c1 ⊢
    simp [c1]) (by omega) (by simp) fun d hd => by
      have := hs d hd
      generalize Bs = BD at *
      simp [this]
  have e3 := all_bools (b := fun _ : D => true) Ls
  have e4 : (Ls.all fun _ => true) = true := by simp
  rw [e4] at e3
  have s0 : (sSet 6 (eCallA 5 [(202, F_subsets), (209, F_at_least), (216, F_nouns_required), (305, F_kinds_required)] (aCons (eV 2) (aCons (eV 4) (aNil))))) ⟨[.sv (.scr ns), .sv (.cell 0), .sv g.d, .sv (.tup (P.map Sen.d)), .sv (.tup (Q.map Sen.d)), .sv (.fn a), p6, .un, .un, .un, .un, .un, .un, .un, .un, .un, .un], [s.c]⟩ = .ok .nx ⟨[.sv (.scr ns), .sv (.cell 0), .sv g.d, .sv (.tup (P.map Sen.d)), .sv (.tup (Q.map Sen.d)), .sv (.fn a), .sv (.tup Bs), .un, .un, .un, .un, .un, .un, .un, .un, .un, .un], [s.c]⟩ := by
    clear e e3 c1 hs
    generalize P.map Sen.d = PD at *
    generalize Q.map Sen.d = QD at *
    generalize hI : (eCallA _ _ _ : Ex) = I at c2 ⊢
    simp [c2]
  rw [seq s0]
  clear s0 c1 c2 hs f1 f2
  generalize hA : (Ls.map fun _ => D.bl true) = AD at e e3
  generalize P.map Sen.d = PD at *
  generalize Q.map Sen.d = QD at *
  generalize hI : (aLc _ _ _ _ _ : As) = I at e ⊢
  simp [e, e3]
end
/-! ## the law -/
section
variable {g : Sig} {P Q : List Sen} {ns : List Int}
theorem klen19 (hl : P.length ≤ 8) : (kindsR P g.k).length ≤ 1000 := by
  have := kindsR_len (P := P) (n := g.k)
  have k4 := g.k_le
  omega
theorem l_four19 (hP : ∀ z ∈ P, z.ok g) (hQ : ∀ z ∈ Q, z.ok g) (lP : P.length ≤ 8) (lQ : Q.length ≤ 8) (h : ∀ z ∈ P, z ∈ Q) (s : Strm) : ∃ v5 v6 : Option D, (sFor (iSeq (eF (aCons (eC (.fn 202)) (aCons (eC (.fn 209)) (aCons (eC (.fn 216)) (aCons (eC (.fn 305)) (aNil))))))) (gN 5) (sCons (sSet 6 (eCallA 5 [(202, F_subsets), (209, F_at_least), (216, F_nouns_required), (305, F_kinds_required)] (aCons (eV 2) (aCons (eV 4) (aNil))))) (sIf (tN (tU (eC1 allD (eF (aLc [16] (iSeq (eCallA 5 [(202, F_subsets), (209, F_at_least), (216, F_nouns_required), (305, F_kinds_required)] (aCons (eV 2) (aCons (eV 3) (aNil))))) (gN 16) (Z.tYes) (eOp inOp (eV 16) (eVB 6))))))) (sRet (eC (.bl false))) (sNil)))) ⟨[.sv (.scr ns), .sv (.cell 0), .sv g.d, .sv (.tup (P.map Sen.d)), .sv (.tup (Q.map Sen.d)), .un, .un, .un, .un, .un, .un, .un, .un, .un, .un, .un, .un], [s.c]⟩ = .ok .nx ⟨[.sv (.scr ns), .sv (.cell 0), .sv g.d, .sv (.tup (P.map Sen.d)), .sv (.tup (Q.map Sen.d)), oS v5, oS v6, .un, .un, .un, .un, .un, .un, .un, .un, .un, .un], [s.c]⟩ := by
  have k4 := g.k_le
  have turn : ∀ a ∈ ([202, 209, 216, 305] : List Addr), ∀ p6 : Slot, ∃ Bs, (sCons (sSet 6 (eCallA 5 [(202, F_subsets), (209, F_at_least), (216, F_nouns_required), (305, F_kinds_required)] (aCons (eV 2) (aCons (eV 4) (aNil))))) (sIf (tN (tU (eC1 allD (eF (aLc [16] (iSeq (eCallA 5 [(202, F_subsets), (209, F_at_least), (216, F_nouns_required), (305, F_kinds_required)] (aCons (eV 2) (aCons (eV 3) (aNil))))) (gN 16) (Z.tYes) (eOp inOp (eV 16) (eVB 6))))))) (sRet (eC (.bl false))) (sNil))) ⟨[.sv (.scr ns), .sv (.cell 0), .sv g.d, .sv (.tup (P.map Sen.d)), .sv (.tup (Q.map Sen.d)), .sv (.fn a), p6, .un, .un, .un, .un, .un, .un, .un, .un, .un, .un], [s.c]⟩ = .ok .nx ⟨[.sv (.scr ns), .sv (.cell 0), .sv g.d, .sv (.tup (P.map Sen.d)), .sv (.tup (Q.map Sen.d)), .sv (.fn a), .sv (.tup Bs), .un, .un, .un, .un, .un, .un, .un, .un, .un, .un], [s.c]⟩ := by
    intro a ha p6
    have l1 : ∀ f, (dpL g.k f).length ≤ 64 := fun f => dpL_len (by omega)
    simp only [List.mem_cons, List.not_mem_nil, or_false] at ha
    rcases ha with rfl | rfl | rfl | rfl
    · exact ⟨_, l_told19 (F := F_subsets) rfl (p_subsets hP lP) (p_subsets hQ lQ) (in_sub19 fun x hx => by rw [in_prs19, decide_eq_true (dp19 (fun _ _ => sub19 h) hx)]) (by rw [List.length_map]; have := l1 (subR P); omega)⟩
    · exact ⟨_, l_told19 (F := F_at_least) rfl (p_at_least hP lP) (p_at_least hQ lQ) (in_sub19 fun x hx => by rw [in_prs19, decide_eq_true (dp19 (fun _ _ => many19 h) hx)]) (by rw [List.length_map]; have := l1 (manyR P); omega)⟩
    · exact ⟨_, l_told19 (F := F_nouns_required) rfl (p_nouns_required hP lP) (p_nouns_required hQ lQ) (in_sub19 fun x hx => by rw [in_ints, decide_eq_true (reqL19 h hx)]) (by
        rw [List.length_map]
        unfold reqL
        have := List.length_filter_le (reqB P) (zts g.k)
        rw [zts_length] at this
        omega)⟩
    · exact ⟨_, l_told19 (F := F_kinds_required) rfl (p_kinds_required hP lP) (p_kinds_required hQ lQ) (in_sub19 fun x hx => by rw [in_kds19, decide_eq_true (kindsR19 h hx)]) (by
        rw [List.length_map]
        have := klen19 (g := g) lP
        omega)⟩
  obtain ⟨⟨v5, v6⟩, e⟩ := forP (B := Option D × Option D) (g := gN 5) (b := sCons (sSet 6 (eCallA 5 [(202, F_subsets), (209, F_at_least), (216, F_nouns_required), (305, F_kinds_required)] (aCons (eV 2) (aCons (eV 4) (aNil))))) (sIf (tN (tU (eC1 allD (eF (aLc [16] (iSeq (eCallA 5 [(202, F_subsets), (209, F_at_least), (216, F_nouns_required), (305, F_kinds_required)] (aCons (eV 2) (aCons (eV 3) (aNil))))) (gN 16) (Z.tYes) (eOp inOp (eV 16) (eVB 6))))))) (sRet (eC (.bl false))) (sNil))) (inj := D.fn) (fun _ u => ⟨[.sv (.scr ns), .sv (.cell 0), .sv g.d, .sv (.tup (P.map Sen.d)), .sv (.tup (Q.map Sen.d)), oS u.1, oS u.2, .un, .un, .un, .un, .un, .un, .un, .un, .un, .un], [s.c]⟩) [202, 209, 216, 305] (fun done a rest u hd => by
    obtain ⟨u5, u6⟩ := u
    obtain ⟨Bs, f⟩ := turn a (by rw [hd]; simp) (oS u6)
    have gg : gN 5 (.fn a) ⟨[.sv (.scr ns), .sv (.cell 0), .sv g.d, .sv (.tup (P.map Sen.d)), .sv (.tup (Q.map Sen.d)), oS u5, oS u6, .un, .un, .un, .un, .un, .un, .un, .un, .un, .un], [s.c]⟩ = .ok () ⟨[.sv (.scr ns), .sv (.cell 0), .sv g.d, .sv (.tup (P.map Sen.d)), .sv (.tup (Q.map Sen.d)), .sv (.fn a), oS u6, .un, .un, .un, .un, .un, .un, .un, .un, .un, .un], [s.c]⟩ := by
      simp
    refine ⟨(some (.fn a), some (.tup Bs)), ?_⟩
    show ((gN 5 (.fn a) ⟨[.sv (.scr ns), .sv (.cell 0), .sv g.d, .sv (.tup (P.map Sen.d)), .sv (.tup (Q.map Sen.d)), oS u5, oS u6, .un, .un, .un, .un, .un, .un, .un, .un, .un, .un], [s.c]⟩).bind fun _ s1 => (sCons (sSet 6 (eCallA 5 [(202, F_subsets), (209, F_at_least), (216, F_nouns_required), (305, F_kinds_required)] (aCons (eV 2) (aCons (eV 4) (aNil))))) (sIf (tN (tU (eC1 allD (eF (aLc [16] (iSeq (eCallA 5 [(202, F_subsets), (209, F_at_least), (216, F_nouns_required), (305, F_kinds_required)] (aCons (eV 2) (aCons (eV 3) (aNil))))) (gN 16) (Z.tYes) (eOp inOp (eV 16) (eVB 6))))))) (sRet (eC (.bl false))) (sNil))) s1) = _
    rw [gg, bind_ok]
    exact f) (none, none)
  simp only [oS_none] at e
  refine ⟨v5, v6, ?_⟩
  have it : (iSeq (eF (aCons (eC (.fn 202)) (aCons (eC (.fn 209)) (aCons (eC (.fn 216)) (aCons (eC (.fn 305)) (aNil))))))) ⟨[.sv (.scr ns), .sv (.cell 0), .sv g.d, .sv (.tup (P.map Sen.d)), .sv (.tup (Q.map Sen.d)), .un, .un, .un, .un, .un, .un, .un, .un, .un, .un, .un, .un], [s.c]⟩ = .ok (([202, 209, 216, 305] : List Addr).map D.fn) ⟨[.sv (.scr ns), .sv (.cell 0), .sv g.d, .sv (.tup (P.map Sen.d)), .sv (.tup (Q.map Sen.d)), .un, .un, .un, .un, .un, .un, .un, .un, .un, .un, .un, .un], [s.c]⟩ := by
    generalize P.map Sen.d = PD at *
    generalize Q.map Sen.d = QD at *
    simp
  rw [x_sFor, it, bind_ok]
  exact e
theorem l_free19 {v : Int} {k j : Kd} {v5 v7 : Option D} {a b a' b' : Bool} (ha : a = true → a' = true) (hb : b = true → b' = true) {cs : List Cell} : (sIf (tA (tV (eOp neOp (eV 11) (eC (.str 15)))) (tV (eOp notInOp (eV 6) (eF (aCons (eV 11) (aCons (eC (.str 9)) (aNil))))))) (sRet (eC (.bl false))) (sNil)) ⟨[.sv (.scr ns), .sv (.cell 0), .sv g.d, .sv (.tup (P.map Sen.d)), .sv (.tup (Q.map Sen.d)), oS v5, .sv (.str (wrd a' b')), oS v7, .sv k.d, .sv j.d, .sv (.int v), .sv (.str (wrd a b)), .un, .un, .un, .un, .un], cs⟩ = .ok .nx ⟨[.sv (.scr ns), .sv (.cell 0), .sv g.d, .sv (.tup (P.map Sen.d)), .sv (.tup (Q.map Sen.d)), oS v5, .sv (.str (wrd a' b')), oS v7, .sv k.d, .sv j.d, .sv (.int v), .sv (.str (wrd a b)), .un, .un, .un, .un, .un], cs⟩ := by
  generalize P.map Sen.d = PD at *
  generalize Q.map Sen.d = QD at *
  generalize k.d = kd at *
  generalize j.d = jd at *
  cases a <;> cases b <;> cases a' <;> cases b' <;> first | (exact absurd (ha rfl) (by decide)) | (exact absurd (hb rfl) (by decide)) | simp [wrd]
theorem l_turn19 (hP : ∀ z ∈ P, z.ok g) (hQ : ∀ z ∈ Q, z.ok g) (lP : P.length ≤ 8) (lQ : Q.length ≤ 8) (h : ∀ z ∈ P, z ∈ Q) (hv : 1 ≤ g.v) (s : Strm) {v5 v6 v7 v8 v9 v10 v11 : Option D} : ∃ (s' : Strm) (w6 w8 w9 w10 w11 : Option D),
    (sCons (sSet 8 (eCall (F__law_some_kind) (aCons (eV 1) (aCons (eV 2) (aNil))))) (sCons (sSet 9 (eCall (F__law_some_kind) (aCons (eV 1) (aCons (eV 2) (aNil))))) (sCons (sSet 10 (eCall (F__law_next) (aCons (eV 1) (aCons (eOp ixD (eV 2) (eC (.int 1))) (aNil))))) (sCons (sSet 11 (eCall (F_forced_between) (aCons (eV 2) (aCons (eV 3) (aCons (eV 10) (aCons (eV 8) (aCons (eV 9) (aNil)))))))) (sCons (sSet 6 (eCall (F_forced_between) (aCons (eV 2) (aCons (eV 4) (aCons (eV 10) (aCons (eV 8) (aCons (eV 9) (aNil)))))))) (sIf (tA (tV (eOp neOp (eV 11) (eC (.str 15)))) (tV (eOp notInOp (eV 6) (eF (aCons (eV 11) (aCons (eC (.str 9)) (aNil))))))) (sRet (eC (.bl false))) (sNil))))))) ⟨[.sv (.scr ns), .sv (.cell 0), .sv g.d, .sv (.tup (P.map Sen.d)), .sv (.tup (Q.map Sen.d)), oS v5, oS v6, oS v7, oS v8, oS v9, oS v10, oS v11, .un, .un, .un, .un, .un], [s.c]⟩ = .ok .nx ⟨[.sv (.scr ns), .sv (.cell 0), .sv g.d, .sv (.tup (P.map Sen.d)), .sv (.tup (Q.map Sen.d)), oS v5, oS w6, oS v7, oS w8, oS w9, oS w10, oS w11, .un, .un, .un, .un, .un], [s'.c]⟩ := by
  have v2 := g.hv2
  obtain ⟨k, s1, f1, hk⟩ := s_kindX (Y := []) s g
  obtain ⟨j, s2, f2, hj⟩ := s_kindX (Y := []) s1 g
  obtain ⟨v, s3, f3, w0, w1⟩ := s_nextX (Y := []) s2 g.v (by omega) (by omega)
  have pl := plain_stream s3
  have f4 := p_forced (v := v) hP lP pl hk hj ⟨w0, w1⟩
  have f5 := p_forced (v := v) hQ lQ pl hk hj ⟨w0, w1⟩
  have m1 : btw (above g.k (subR P)) P true v k j = true → btw (above g.k (subR Q)) Q true v k j = true := btw19 h
  have m2 : btw (above g.k (subR P)) P false v k j = true → btw (above g.k (subR Q)) Q false v k j = true := btw19 h
  have f6 := l_free19 (g := g) (P := P) (Q := Q) (ns := ns) (v := v) (k := k) (j := j) (v5 := v5) (v7 := v7) (cs := [s3.c]) m1 m2
  generalize btw (above g.k (subR P)) P true v k j = A1 at *
  generalize btw (above g.k (subR P)) P false v k j = A2 at *
  generalize btw (above g.k (subR Q)) Q true v k j = B1 at *
  generalize btw (above g.k (subR Q)) Q false v k j = B2 at *
  refine ⟨s3, some (.str (wrd B1 B2)), some k.d, some j.d, some (.int v), some (.str (wrd A1 A2)), ?_⟩
  have f1 : F__law_some_kind [.cell 0, g.d] [s.c] = .ok k.d ⟨[], [s1.c]⟩ := f1
  have f2 : F__law_some_kind [.cell 0, g.d] [s1.c] = .ok j.d ⟨[], [s2.c]⟩ := f2
  have f3 : F__law_next [.cell 0, .int g.v] [s2.c] = .ok (.int v) ⟨[], [s3.c]⟩ := f3
  have i1 : ixD g.d (.int 1) = some (.int g.v) := by simp [Sig.d]
  have t0 : (sSet 8 (eCall (F__law_some_kind) (aCons (eV 1) (aCons (eV 2) (aNil))))) ⟨[.sv (.scr ns), .sv (.cell 0), .sv g.d, .sv (.tup (P.map Sen.d)), .sv (.tup (Q.map Sen.d)), oS v5, oS v6, oS v7, oS v8, oS v9, oS v10, oS v11, .un, .un, .un, .un, .un], [s.c]⟩ = .ok .nx ⟨[.sv (.scr ns), .sv (.cell 0), .sv g.d, .sv (.tup (P.map Sen.d)), .sv (.tup (Q.map Sen.d)), oS v5, oS v6, oS v7, .sv k.d, oS v9, oS v10, oS v11, .un, .un, .un, .un, .un], [s1.c]⟩ := by
    generalize P.map Sen.d = PD at *
    generalize Q.map Sen.d = QD at *
    generalize k.d = kd at *
    generalize j.d = jd at *
    generalize g.d = gd at *
    simp [f1]
  have t1 : (sSet 9 (eCall (F__law_some_kind) (aCons (eV 1) (aCons (eV 2) (aNil))))) ⟨[.sv (.scr ns), .sv (.cell 0), .sv g.d, .sv (.tup (P.map Sen.d)), .sv (.tup (Q.map Sen.d)), oS v5, oS v6, oS v7, .sv k.d, oS v9, oS v10, oS v11, .un, .un, .un, .un, .un], [s1.c]⟩ = .ok .nx ⟨[.sv (.scr ns), .sv (.cell 0), .sv g.d, .sv (.tup (P.map Sen.d)), .sv (.tup (Q.map Sen.d)), oS v5, oS v6, oS v7, .sv k.d, .sv j.d, oS v10, oS v11, .un, .un, .un, .un, .un], [s2.c]⟩ := by
    generalize P.map Sen.d = PD at *
    generalize Q.map Sen.d = QD at *
    generalize k.d = kd at *
    generalize j.d = jd at *
    generalize g.d = gd at *
    simp [f2]
  have t2 : (sSet 10 (eCall (F__law_next) (aCons (eV 1) (aCons (eOp ixD (eV 2) (eC (.int 1))) (aNil))))) ⟨[.sv (.scr ns), .sv (.cell 0), .sv g.d, .sv (.tup (P.map Sen.d)), .sv (.tup (Q.map Sen.d)), oS v5, oS v6, oS v7, .sv k.d, .sv j.d, oS v10, oS v11, .un, .un, .un, .un, .un], [s2.c]⟩ = .ok .nx ⟨[.sv (.scr ns), .sv (.cell 0), .sv g.d, .sv (.tup (P.map Sen.d)), .sv (.tup (Q.map Sen.d)), oS v5, oS v6, oS v7, .sv k.d, .sv j.d, .sv (.int v), oS v11, .un, .un, .un, .un, .un], [s3.c]⟩ := by
    generalize P.map Sen.d = PD at *
    generalize Q.map Sen.d = QD at *
    generalize k.d = kd at *
    generalize j.d = jd at *
    generalize g.d = gd at *
    simp [f3, i1]
  have t3 : (sSet 11 (eCall (F_forced_between) (aCons (eV 2) (aCons (eV 3) (aCons (eV 10) (aCons (eV 8) (aCons (eV 9) (aNil)))))))) ⟨[.sv (.scr ns), .sv (.cell 0), .sv g.d, .sv (.tup (P.map Sen.d)), .sv (.tup (Q.map Sen.d)), oS v5, oS v6, oS v7, .sv k.d, .sv j.d, .sv (.int v), oS v11, .un, .un, .un, .un, .un], [s3.c]⟩ = .ok .nx ⟨[.sv (.scr ns), .sv (.cell 0), .sv g.d, .sv (.tup (P.map Sen.d)), .sv (.tup (Q.map Sen.d)), oS v5, oS v6, oS v7, .sv k.d, .sv j.d, .sv (.int v), .sv (.str (wrd A1 A2)), .un, .un, .un, .un, .un], [s3.c]⟩ := by
    generalize wrd A1 A2 = W1 at *
    generalize P.map Sen.d = PD at *
    generalize Q.map Sen.d = QD at *
    generalize k.d = kd at *
    generalize j.d = jd at *
    generalize g.d = gd at *
    simp [f4]
  have t4 : (sSet 6 (eCall (F_forced_between) (aCons (eV 2) (aCons (eV 4) (aCons (eV 10) (aCons (eV 8) (aCons (eV 9) (aNil)))))))) ⟨[.sv (.scr ns), .sv (.cell 0), .sv g.d, .sv (.tup (P.map Sen.d)), .sv (.tup (Q.map Sen.d)), oS v5, oS v6, oS v7, .sv k.d, .sv j.d, .sv (.int v), .sv (.str (wrd A1 A2)), .un, .un, .un, .un, .un], [s3.c]⟩ = .ok .nx ⟨[.sv (.scr ns), .sv (.cell 0), .sv g.d, .sv (.tup (P.map Sen.d)), .sv (.tup (Q.map Sen.d)), oS v5, .sv (.str (wrd B1 B2)), oS v7, .sv k.d, .sv j.d, .sv (.int v), .sv (.str (wrd A1 A2)), .un, .un, .un, .un, .un], [s3.c]⟩ := by
    generalize wrd A1 A2 = W1 at *
    generalize wrd B1 B2 = W2 at *
    generalize P.map Sen.d = PD at *
    generalize Q.map Sen.d = QD at *
    generalize k.d = kd at *
    generalize j.d = jd at *
    generalize g.d = gd at *
    simp [f5]
  rw [seq t0, seq t1, seq t2, seq t3, seq t4]
  exact f6
end
section
variable {g : Sig} {Q : List Sen} {ns : List Int} {p3 p5 p6 p7 p8 p9 p10 p11 : Slot} {cs : List Cell}
theorem l_same19 {p : Pr} (hp : p ∈ dpL g.k (subR Q)) {p14 p15 : Slot} : ((gT 2 (gCons (gN 14) (gCons (gN 15) (gNil)))) (prD p) ⟨[.sv (.scr ns), .sv (.cell 0), .sv g.d, p3, .sv (.tup (Q.map Sen.d)), p5, p6, p7, p8, p9, p10, p11, .sv (.tup ((dpL g.k (subR Q)).map prD)), .sv (.tup ((reqL Q g.k).map D.int)), p14, p15, .un], cs⟩).bind (fun _ s1 => (sIf (tA (tV (eOp inOp (eTup (aCons (eV 15) (aCons (eV 14) (aNil)))) (eVB 12))) (tV (eOp neOp (eOp inOp (eV 14) (eVB 13)) (eOp inOp (eV 15) (eVB 13))))) (sRet (eC (.bl false))) (sNil)) s1) = .ok .nx ⟨[.sv (.scr ns), .sv (.cell 0), .sv g.d, p3, .sv (.tup (Q.map Sen.d)), p5, p6, p7, p8, p9, p10, p11, .sv (.tup ((dpL g.k (subR Q)).map prD)), .sv (.tup ((reqL Q g.k).map D.int)), .sv (.int p.1), .sv (.int p.2), .un], cs⟩ := by
  obtain ⟨h1, h2, _, h4⟩ := mem_dpL19.mp hp
  have i1 := in_prs19 (p := (p.2, p.1)) (l := dpL g.k (subR Q))
  have i2 := in_ints (x := p.1) (l := reqL Q g.k)
  have i3 := in_ints (x := p.2) (l := reqL Q g.k)
  have i1 : inOp (.tup [.int p.2, .int p.1]) (.tup ((dpL g.k (subR Q)).map prD)) = _ := i1
  have key : decide ((p.2, p.1) ∈ dpL g.k (subR Q)) = true → decide (p.1 ∈ reqL Q g.k) = decide (p.2 ∈ reqL Q g.k) := fun h => by
    obtain ⟨_, _, _, h5⟩ := mem_dpL19.mp (of_decide_eq_true h)
    exact both19 h1 h2 h4 h5
  generalize decide ((p.2, p.1) ∈ dpL g.k (subR Q)) = A1 at *
  generalize decide (p.1 ∈ reqL Q g.k) = A2 at *
  generalize decide (p.2 ∈ reqL Q g.k) = A3 at *
  clear hp h1 h2 h4
  generalize (dpL g.k (subR Q)).map prD = DD at *
  generalize (reqL Q g.k).map D.int = RD at *
  generalize Q.map Sen.d = QD at *
  generalize g.d = gd at *
  cases A1 with
  | false => cases A2 <;> cases A3 <;> simp [prD, i1, i2, i3]
  | true =>
    have key := key rfl
    subst key
    cases A2 <;> simp [prD, i1, i2, i3]
theorem l_pairs19 : ∃ w14 w15 : Option D, (sFor (iSeq (eV 12)) (gT 2 (gCons (gN 14) (gCons (gN 15) (gNil)))) (sIf (tA (tV (eOp inOp (eTup (aCons (eV 15) (aCons (eV 14) (aNil)))) (eVB 12))) (tV (eOp neOp (eOp inOp (eV 14) (eVB 13)) (eOp inOp (eV 15) (eVB 13))))) (sRet (eC (.bl false))) (sNil))) ⟨[.sv (.scr ns), .sv (.cell 0), .sv g.d, p3, .sv (.tup (Q.map Sen.d)), p5, p6, p7, p8, p9, p10, p11, .sv (.tup ((dpL g.k (subR Q)).map prD)), .sv (.tup ((reqL Q g.k).map D.int)), .un, .un, .un], cs⟩ = .ok .nx ⟨[.sv (.scr ns), .sv (.cell 0), .sv g.d, p3, .sv (.tup (Q.map Sen.d)), p5, p6, p7, p8, p9, p10, p11, .sv (.tup ((dpL g.k (subR Q)).map prD)), .sv (.tup ((reqL Q g.k).map D.int)), oS w14, oS w15, .un], cs⟩ := by
  obtain ⟨⟨w14, w15⟩, e⟩ := forP (B := Option D × Option D) (g := gT 2 (gCons (gN 14) (gCons (gN 15) (gNil)))) (b := sIf (tA (tV (eOp inOp (eTup (aCons (eV 15) (aCons (eV 14) (aNil)))) (eVB 12))) (tV (eOp neOp (eOp inOp (eV 14) (eVB 13)) (eOp inOp (eV 15) (eVB 13))))) (sRet (eC (.bl false))) (sNil)) (inj := prD) (fun _ u => ⟨[.sv (.scr ns), .sv (.cell 0), .sv g.d, p3, .sv (.tup (Q.map Sen.d)), p5, p6, p7, p8, p9, p10, p11, .sv (.tup ((dpL g.k (subR Q)).map prD)), .sv (.tup ((reqL Q g.k).map D.int)), oS u.1, oS u.2, .un], cs⟩) (dpL g.k (subR Q)) (fun done p rest u hd => by
    obtain ⟨u1, u2⟩ := u
    exact ⟨(some (.int p.1), some (.int p.2)), l_same19 (by rw [hd]; simp)⟩) (none, none)
  simp only [oS_none] at e
  refine ⟨w14, w15, ?_⟩
  have it : (iSeq (eV 12)) ⟨[.sv (.scr ns), .sv (.cell 0), .sv g.d, p3, .sv (.tup (Q.map Sen.d)), p5, p6, p7, p8, p9, p10, p11, .sv (.tup ((dpL g.k (subR Q)).map prD)), .sv (.tup ((reqL Q g.k).map D.int)), .un, .un, .un], cs⟩ = .ok ((dpL g.k (subR Q)).map prD) ⟨[.sv (.scr ns), .sv (.cell 0), .sv g.d, p3, .sv (.tup (Q.map Sen.d)), p5, p6, p7, p8, p9, p10, p11, .sv (.tup ((dpL g.k (subR Q)).map prD)), .sv (.tup ((reqL Q g.k).map D.int)), .un, .un, .un], cs⟩ := by
    generalize (dpL g.k (subR Q)).map prD = DD at *
    generalize (reqL Q g.k).map D.int = RD at *
    generalize Q.map Sen.d = QD at *
    simp
  rw [x_sFor, it, bind_ok]
  exact e
end
theorem law_true : ∀ ns : List Int, ns.length ≤ 63 → ∃ s, F_law [.scr ns] [] = .ok (.bl true) s := by
  intro ns _
  obtain ⟨s0, f0⟩ := s_stream ns
  obtain ⟨n', s1, f1, n0, n1⟩ := s_nextX (Y := []) s0 3 (by decide) (by decide)
  obtain ⟨v', s2, f2, v0, v1⟩ := s_nextX (Y := []) s1 2 (by decide) (by decide)
  obtain ⟨g, hgn, hgv⟩ : ∃ g : Sig, g.n = 2 + n' ∧ g.v = 1 + v' := ⟨⟨2 + n', 1 + v', by omega, by omega, by omega, by omega⟩, rfl, rfl⟩
  obtain ⟨P, s3, f3, lP, hP⟩ := s_premisesX (Y := []) s2 g 5 (by decide)
  obtain ⟨R, s4, f4, lR, hR⟩ := s_premisesX (Y := []) s3 g 3 (by decide)
  have f3 : F__law_premises [.cell 0, g.d, .int 5] [s2.c] = .ok (.tup (P.map Sen.d)) ⟨[], [s3.c]⟩ := f3
  have f4 : F__law_premises [.cell 0, g.d, .int 3] [s3.c] = .ok (.tup (R.map Sen.d)) ⟨[], [s4.c]⟩ := f4
  have f1 : F__law_next [.cell 0, .int 3] [s0.c] = .ok (.int n') ⟨[], [s1.c]⟩ := f1
  have f2 : F__law_next [.cell 0, .int 2] [s1.c] = .ok (.int v') ⟨[], [s2.c]⟩ := f2
  have k0 : (sSet 1 (eCall (F__law_stream) (aCons (eV 0) (aNil)))) ⟨[.sv (.scr ns), .un, .un, .un, .un, .un, .un, .un, .un, .un, .un, .un, .un, .un, .un, .un, .un], []⟩ = .ok .nx ⟨[.sv (.scr ns), .sv (.cell 0), .un, .un, .un, .un, .un, .un, .un, .un, .un, .un, .un, .un, .un, .un, .un], [s0.c]⟩ := by simp [f0]
  have k1 : (sSet 2 (eTup (aCons (eOp addD (eC (.int 2)) (eCall (F__law_next) (aCons (eV 1) (aCons (eC (.int 3)) (aNil))))) (aCons (eOp addD (eC (.int 1)) (eCall (F__law_next) (aCons (eV 1) (aCons (eC (.int 2)) (aNil))))) (aNil))))) ⟨[.sv (.scr ns), .sv (.cell 0), .un, .un, .un, .un, .un, .un, .un, .un, .un, .un, .un, .un, .un, .un, .un], [s0.c]⟩ = .ok .nx ⟨[.sv (.scr ns), .sv (.cell 0), .sv g.d, .un, .un, .un, .un, .un, .un, .un, .un, .un, .un, .un, .un, .un, .un], [s2.c]⟩ := by simp [f1, f2, Sig.d, hgn, hgv]
  have k2 : (sSet 3 (eCall (F__law_premises) (aCons (eV 1) (aCons (eV 2) (aCons (eC (.int 5)) (aNil)))))) ⟨[.sv (.scr ns), .sv (.cell 0), .sv g.d, .un, .un, .un, .un, .un, .un, .un, .un, .un, .un, .un, .un, .un, .un], [s2.c]⟩ = .ok .nx ⟨[.sv (.scr ns), .sv (.cell 0), .sv g.d, .sv (.tup (P.map Sen.d)), .un, .un, .un, .un, .un, .un, .un, .un, .un, .un, .un, .un, .un], [s3.c]⟩ := by
    clear k1
    generalize P.map Sen.d = PD at *
    generalize g.d = gd at *
    simp [f3]
  obtain ⟨Q, hQe⟩ : ∃ Q, Q = P ++ R := ⟨_, rfl⟩
  have eQ : Q.map Sen.d = P.map Sen.d ++ R.map Sen.d := by rw [hQe, List.map_append]
  have lQ : Q.length ≤ 8 := by rw [hQe, List.length_append]; omega
  have hQ : ∀ z ∈ Q, z.ok g := fun z hz => by
    rw [hQe] at hz
    rcases List.mem_append.mp hz with h | h
    · exact hP z h
    · exact hR z h
  have hPQ : ∀ z ∈ P, z ∈ Q := fun z hz => by rw [hQe]; exact List.mem_append.mpr (.inl hz)
  have k3 : (sSet 4 (eOp addD (eV 3) (eCall (F__law_premises) (aCons (eV 1) (aCons (eV 2) (aCons (eC (.int 3)) (aNil))))))) ⟨[.sv (.scr ns), .sv (.cell 0), .sv g.d, .sv (.tup (P.map Sen.d)), .un, .un, .un, .un, .un, .un, .un, .un, .un, .un, .un, .un, .un], [s3.c]⟩ = .ok .nx ⟨[.sv (.scr ns), .sv (.cell 0), .sv g.d, .sv (.tup (P.map Sen.d)), .sv (.tup (Q.map Sen.d)), .un, .un, .un, .un, .un, .un, .un, .un, .un, .un, .un, .un], [s4.c]⟩ := by
    have ll : (P.map Sen.d).length + (R.map Sen.d).length ≤ 100000 := by
      rw [List.length_map, List.length_map]
      omega
    rw [eQ]
    clear k1 k2 f3 eQ
    generalize P.map Sen.d = PD at *
    generalize R.map Sen.d = RD at *
    generalize g.d = gd at *
    simp [f4, ll]
  obtain ⟨v5, v6, k4⟩ := l_four19 (ns := ns) hP hQ (by omega) lQ hPQ s4
  obtain ⟨⟨s5, w6, w7, w8, w9, w10, w11⟩, e⟩ := forP (B := Strm × Option D × Option D × Option D × Option D × Option D × Option D) (g := gN 7) (b := sCons (sSet 8 (eCall (F__law_some_kind) (aCons (eV 1) (aCons (eV 2) (aNil))))) (sCons (sSet 9 (eCall (F__law_some_kind) (aCons (eV 1) (aCons (eV 2) (aNil))))) (sCons (sSet 10 (eCall (F__law_next) (aCons (eV 1) (aCons (eOp ixD (eV 2) (eC (.int 1))) (aNil))))) (sCons (sSet 11 (eCall (F_forced_between) (aCons (eV 2) (aCons (eV 3) (aCons (eV 10) (aCons (eV 8) (aCons (eV 9) (aNil)))))))) (sCons (sSet 6 (eCall (F_forced_between) (aCons (eV 2) (aCons (eV 4) (aCons (eV 10) (aCons (eV 8) (aCons (eV 9) (aNil)))))))) (sIf (tA (tV (eOp neOp (eV 11) (eC (.str 15)))) (tV (eOp notInOp (eV 6) (eF (aCons (eV 11) (aCons (eC (.str 9)) (aNil))))))) (sRet (eC (.bl false))) (sNil))))))) (inj := D.int) (fun _ u => ⟨[.sv (.scr ns), .sv (.cell 0), .sv g.d, .sv (.tup (P.map Sen.d)), .sv (.tup (Q.map Sen.d)), oS v5, oS u.2.1, oS u.2.2.1, oS u.2.2.2.1, oS u.2.2.2.2.1, oS u.2.2.2.2.2.1, oS u.2.2.2.2.2.2, .un, .un, .un, .un, .un], [u.1.c]⟩) (zts 4) (fun done i rest u hd => by
    obtain ⟨t, u6, u7, u8, u9, u10, u11⟩ := u
    obtain ⟨t', x6, x8, x9, x10, x11, f⟩ := l_turn19 (ns := ns) hP hQ (by omega) lQ hPQ (by omega) t (v5 := v5) (v6 := u6) (v7 := some (.int i)) (v8 := u8) (v9 := u9) (v10 := u10) (v11 := u11)
    have gg : gN 7 (.int i) ⟨[.sv (.scr ns), .sv (.cell 0), .sv g.d, .sv (.tup (P.map Sen.d)), .sv (.tup (Q.map Sen.d)), oS v5, oS u6, oS u7, oS u8, oS u9, oS u10, oS u11, .un, .un, .un, .un, .un], [t.c]⟩ = .ok () ⟨[.sv (.scr ns), .sv (.cell 0), .sv g.d, .sv (.tup (P.map Sen.d)), .sv (.tup (Q.map Sen.d)), oS v5, oS u6, .sv (.int i), oS u8, oS u9, oS u10, oS u11, .un, .un, .un, .un, .un], [t.c]⟩ := by
      simp
    refine ⟨(t', x6, some (.int i), x8, x9, x10, x11), ?_⟩
    show ((gN 7 (.int i) ⟨[.sv (.scr ns), .sv (.cell 0), .sv g.d, .sv (.tup (P.map Sen.d)), .sv (.tup (Q.map Sen.d)), oS v5, oS u6, oS u7, oS u8, oS u9, oS u10, oS u11, .un, .un, .un, .un, .un], [t.c]⟩).bind fun _ s1 => (sCons (sSet 8 (eCall (F__law_some_kind) (aCons (eV 1) (aCons (eV 2) (aNil))))) (sCons (sSet 9 (eCall (F__law_some_kind) (aCons (eV 1) (aCons (eV 2) (aNil))))) (sCons (sSet 10 (eCall (F__law_next) (aCons (eV 1) (aCons (eOp ixD (eV 2) (eC (.int 1))) (aNil))))) (sCons (sSet 11 (eCall (F_forced_between) (aCons (eV 2) (aCons (eV 3) (aCons (eV 10) (aCons (eV 8) (aCons (eV 9) (aNil)))))))) (sCons (sSet 6 (eCall (F_forced_between) (aCons (eV 2) (aCons (eV 4) (aCons (eV 10) (aCons (eV 8) (aCons (eV 9) (aNil)))))))) (sIf (tA (tV (eOp neOp (eV 11) (eC (.str 15)))) (tV (eOp notInOp (eV 6) (eF (aCons (eV 11) (aCons (eC (.str 9)) (aNil))))))) (sRet (eC (.bl false))) (sNil))))))) s1) = _
    rw [gg, bind_ok]
    exact f) (s4, v6, none, none, none, none, none)
  simp only [oS_none] at e
  have k5 : (sFor (iRn1 (aCons (eC (.int 4)) (aNil))) (gN 7) (sCons (sSet 8 (eCall (F__law_some_kind) (aCons (eV 1) (aCons (eV 2) (aNil))))) (sCons (sSet 9 (eCall (F__law_some_kind) (aCons (eV 1) (aCons (eV 2) (aNil))))) (sCons (sSet 10 (eCall (F__law_next) (aCons (eV 1) (aCons (eOp ixD (eV 2) (eC (.int 1))) (aNil))))) (sCons (sSet 11 (eCall (F_forced_between) (aCons (eV 2) (aCons (eV 3) (aCons (eV 10) (aCons (eV 8) (aCons (eV 9) (aNil)))))))) (sCons (sSet 6 (eCall (F_forced_between) (aCons (eV 2) (aCons (eV 4) (aCons (eV 10) (aCons (eV 8) (aCons (eV 9) (aNil)))))))) (sIf (tA (tV (eOp neOp (eV 11) (eC (.str 15)))) (tV (eOp notInOp (eV 6) (eF (aCons (eV 11) (aCons (eC (.str 9)) (aNil))))))) (sRet (eC (.bl false))) (sNil)))))))) ⟨[.sv (.scr ns), .sv (.cell 0), .sv g.d, .sv (.tup (P.map Sen.d)), .sv (.tup (Q.map Sen.d)), oS v5, oS v6, .un, .un, .un, .un, .un, .un, .un, .un, .un, .un], [s4.c]⟩ = .ok .nx ⟨[.sv (.scr ns), .sv (.cell 0), .sv g.d, .sv (.tup (P.map Sen.d)), .sv (.tup (Q.map Sen.d)), oS v5, oS w6, oS w7, oS w8, oS w9, oS w10, oS w11, .un, .un, .un, .un, .un], [s5.c]⟩ := by
    have it : (iRn1 (aCons (eC (.int 4)) (aNil))) ⟨[.sv (.scr ns), .sv (.cell 0), .sv g.d, .sv (.tup (P.map Sen.d)), .sv (.tup (Q.map Sen.d)), oS v5, oS v6, .un, .un, .un, .un, .un, .un, .un, .un, .un, .un], [s4.c]⟩ = .ok ((zts 4).map D.int) ⟨[.sv (.scr ns), .sv (.cell 0), .sv g.d, .sv (.tup (P.map Sen.d)), .sv (.tup (Q.map Sen.d)), oS v5, oS v6, .un, .un, .un, .un, .un, .un, .un, .un, .un, .un], [s4.c]⟩ := rn1_ok (by decide) (by simp)
    rw [x_sFor, it, bind_ok]
    exact e
  have f6 := p_subsets (cs := [s5.c]) hQ lQ
  have f7 := p_nouns_required (cs := [s5.c]) hQ lQ
  have k6 : (sSet 12 (eCall (F_subsets) (aCons (eV 2) (aCons (eV 4) (aNil))))) ⟨[.sv (.scr ns), .sv (.cell 0), .sv g.d, .sv (.tup (P.map Sen.d)), .sv (.tup (Q.map Sen.d)), oS v5, oS w6, oS w7, oS w8, oS w9, oS w10, oS w11, .un, .un, .un, .un, .un], [s5.c]⟩ = .ok .nx ⟨[.sv (.scr ns), .sv (.cell 0), .sv g.d, .sv (.tup (P.map Sen.d)), .sv (.tup (Q.map Sen.d)), oS v5, oS w6, oS w7, oS w8, oS w9, oS w10, oS w11, .sv (.tup ((dpL g.k (subR Q)).map prD)), .un, .un, .un, .un], [s5.c]⟩ := by
    clear k1 k2 k3 k4 k5 e f7 f3 f4 eQ
    generalize (dpL g.k (subR Q)).map prD = DD at *
    generalize P.map Sen.d = PD at *
    generalize Q.map Sen.d = QD at *
    generalize g.d = gd at *
    simp [f6]
  have k7 : (sSet 13 (eCall (F_nouns_required) (aCons (eV 2) (aCons (eV 4) (aNil))))) ⟨[.sv (.scr ns), .sv (.cell 0), .sv g.d, .sv (.tup (P.map Sen.d)), .sv (.tup (Q.map Sen.d)), oS v5, oS w6, oS w7, oS w8, oS w9, oS w10, oS w11, .sv (.tup ((dpL g.k (subR Q)).map prD)), .un, .un, .un, .un], [s5.c]⟩ = .ok .nx ⟨[.sv (.scr ns), .sv (.cell 0), .sv g.d, .sv (.tup (P.map Sen.d)), .sv (.tup (Q.map Sen.d)), oS v5, oS w6, oS w7, oS w8, oS w9, oS w10, oS w11, .sv (.tup ((dpL g.k (subR Q)).map prD)), .sv (.tup ((reqL Q g.k).map D.int)), .un, .un, .un], [s5.c]⟩ := by
    clear k1 k2 k3 k4 k5 k6 e f6 f3 f4 eQ
    generalize (dpL g.k (subR Q)).map prD = DD at *
    generalize (reqL Q g.k).map D.int = RD at *
    generalize P.map Sen.d = PD at *
    generalize Q.map Sen.d = QD at *
    generalize g.d = gd at *
    simp [f7]
  obtain ⟨w14, w15, k8⟩ := l_pairs19 (g := g) (Q := Q) (ns := ns) (p3 := .sv (.tup (P.map Sen.d))) (p5 := oS v5) (p6 := oS w6) (p7 := oS w7) (p8 := oS w8) (p9 := oS w9) (p10 := oS w10) (p11 := oS w11) (cs := [s5.c])
  refine ⟨⟨[], [s5.c]⟩, ?_⟩
  show fnS0 17 B_law [.scr ns] [] = _
  rw [fnS0_eq]
  show fin (B_law ⟨[.sv (.scr ns), .un, .un, .un, .un, .un, .un, .un, .un, .un, .un, .un, .un, .un, .un, .un, .un], []⟩) = _
  unfold B_law
  rw [seq k0, seq k1, seq k2, seq k3, seq k4, seq k5, seq k6, seq k7, seq k8]
  rfl
theorem tab_m {K : PySem.W.Frag} {h : Heap} {c P : Addr} (X : K.In h) (n : GXX.noTab K = true) (e : PySem.W.codeHdIn K c P = true) (t : h.get? P = some (PySem.W.tabObj #[])) : h.get? P = some { cls := .none, data := .fields #[] } ∧ K.lookup P = none ∧ PySem.W.CodeHd h c P := ⟨t, GXX.noTab_lookup X n t, PySem.W.codeHd_of_K X e⟩
theorem len1 {us : List PySem.Value} (h : us.length = 1) : ∃ a0, us = [a0] := by
  match us, h with
  | [a0], _ => exact ⟨a0, rfl⟩
theorem len2 {us : List PySem.Value} (h : us.length = 2) : ∃ a0 a1, us = [a0, a1] := by
  match us, h with
  | [a0, a1], _ => exact ⟨a0, a1, rfl⟩
theorem len3 {us : List PySem.Value} (h : us.length = 3) : ∃ a0 a1 a2, us = [a0, a1, a2] := by
  match us, h with
  | [a0, a1, a2], _ => exact ⟨a0, a1, a2, rfl⟩
theorem len5 {us : List PySem.Value} (h : us.length = 5) : ∃ a0 a1 a2 a3 a4, us = [a0, a1, a2, a3, a4] := by
  match us, h with
  | [a0, a1, a2, a3, a4], _ => exact ⟨a0, a1, a2, a3, a4, rfl⟩
theorem all_mk {l : PySem.W.OpenLaw} {q : Program} {w : World} {K : PySem.W.Frag} {h : Heap} {mg : Str → Option Value} {fa : Addr} (X : K.In h) (G : h.Ns mainGlobals mg) (hfa : mg "law" = some (.ref fa)) (DT : GXX.DefTabs q mg h) (TM : ∀ P ∈ ([239] : List Addr), h.get? P = some (PySem.W.tabObj #[]))
    {C_Forcing : Addr} (aC_Forcing : PySem.W.nsIn K mainGlobals "Forcing" = some (some (.ref C_Forcing))) (pg_Forcing : PySem.W.plainGet K C_Forcing Str.empty = true) (hd_Forcing : PySem.W.hasDictIn K C_Forcing = true) (po_Forcing : PySem.W.plainOver K C_Forcing = true) (sa_Forcing : PySem.W.findIn K (.ref C_Forcing) "__setattr__" = some (some (.builtin "object.__setattr__"))) (mk_Forcing : PySem.W.makesIn K C_Forcing = true) (kc_Forcing : PySem.W.keepIn K (.ref C_Forcing) = true)
    (nf_Forcing_found : PySem.W.findIn K (.ref C_Forcing) "found" = some none)
    (nf_Forcing_inside : PySem.W.findIn K (.ref C_Forcing) "inside" = some none)
    (nf_Forcing_pairs : PySem.W.findIn K (.ref C_Forcing) "pairs" = some none)
    (nf_Forcing_singles : PySem.W.findIn K (.ref C_Forcing) "singles" = some none)
    {f1 : Addr} {od1 an1 : Option Addr} {sl1 : Array (Option Value)} {oc1 kV1 dc1 pm1 cd1 ct1 : Value}
    (a1 : PySem.W.nsIn K mainGlobals "is_integer" = some (some (.ref f1))) (l1 : K.lookup f1 = some ⟨oc1, od1, .func (PySem.W.fnOf "is_integer" "is_integer" (defArgs sis_integer) (defBody sis_integer) (defScope sis_integer) .none kV1 dc1 pm1 an1 cd1 ct1), sl1⟩) (c1 : PySem.W.codeIn K cd1 "is_integer" = true) (k1 : PySem.W.keepIn K (.ref f1) = true)
    {f2 : Addr} {od2 an2 : Option Addr} {sl2 : Array (Option Value)} {oc2 kV2 dc2 pm2 cd2 ct2 : Value}
    (a2 : PySem.W.nsIn K mainGlobals "is_noun" = some (some (.ref f2))) (l2 : K.lookup f2 = some ⟨oc2, od2, .func (PySem.W.fnOf "is_noun" "is_noun" (defArgs sis_noun) (defBody sis_noun) (defScope sis_noun) .none kV2 dc2 pm2 an2 cd2 ct2), sl2⟩) (c2 : PySem.W.codeIn K cd2 "is_noun" = true) (k2 : PySem.W.keepIn K (.ref f2) = true)
    {f3 : Addr} {od3 an3 : Option Addr} {sl3 : Array (Option Value)} {oc3 kV3 dc3 pm3 cd3 ct3 : Value}
    (a3 : PySem.W.nsIn K mainGlobals "is_verb" = some (some (.ref f3))) (l3 : K.lookup f3 = some ⟨oc3, od3, .func (PySem.W.fnOf "is_verb" "is_verb" (defArgs sis_verb) (defBody sis_verb) (defScope sis_verb) .none kV3 dc3 pm3 an3 cd3 ct3), sl3⟩) (c3 : PySem.W.codeIn K cd3 "is_verb" = true) (k3 : PySem.W.keepIn K (.ref f3) = true)
    {f4 : Addr} {od4 an4 : Option Addr} {sl4 : Array (Option Value)} {oc4 kV4 dc4 pm4 cd4 ct4 : Value}
    (a4 : PySem.W.nsIn K mainGlobals "is_signature" = some (some (.ref f4))) (l4 : K.lookup f4 = some ⟨oc4, od4, .func (PySem.W.fnOf "is_signature" "is_signature" (defArgs sis_signature) (defBody sis_signature) (defScope sis_signature) .none kV4 dc4 pm4 an4 cd4 ct4), sl4⟩) (c4 : PySem.W.codeIn K cd4 "is_signature" = true) (k4 : PySem.W.keepIn K (.ref f4) = true)
    {f5 : Addr} {od5 an5 : Option Addr} {sl5 : Array (Option Value)} {oc5 kV5 dc5 pm5 cd5 ct5 : Value}
    (a5 : PySem.W.nsIn K mainGlobals "_is_verb_sentence" = some (some (.ref f5))) (l5 : K.lookup f5 = some ⟨oc5, od5, .func (PySem.W.fnOf "_is_verb_sentence" "_is_verb_sentence" (defArgs s_is_verb_sentence) (defBody s_is_verb_sentence) (defScope s_is_verb_sentence) .none kV5 dc5 pm5 an5 cd5 ct5), sl5⟩) (c5 : PySem.W.codeIn K cd5 "_is_verb_sentence" = true) (k5 : PySem.W.keepIn K (.ref f5) = true)
    {f6 : Addr} {od6 an6 : Option Addr} {sl6 : Array (Option Value)} {oc6 kV6 dc6 pm6 cd6 ct6 : Value}
    (a6 : PySem.W.nsIn K mainGlobals "_is_self_sentence" = some (some (.ref f6))) (l6 : K.lookup f6 = some ⟨oc6, od6, .func (PySem.W.fnOf "_is_self_sentence" "_is_self_sentence" (defArgs s_is_self_sentence) (defBody s_is_self_sentence) (defScope s_is_self_sentence) .none kV6 dc6 pm6 an6 cd6 ct6), sl6⟩) (c6 : PySem.W.codeIn K cd6 "_is_self_sentence" = true) (k6 : PySem.W.keepIn K (.ref f6) = true)
    {f7 : Addr} {od7 an7 : Option Addr} {sl7 : Array (Option Value)} {oc7 kV7 dc7 pm7 cd7 ct7 : Value}
    (a7 : PySem.W.nsIn K mainGlobals "is_sentence" = some (some (.ref f7))) (l7 : K.lookup f7 = some ⟨oc7, od7, .func (PySem.W.fnOf "is_sentence" "is_sentence" (defArgs sis_sentence) (defBody sis_sentence) (defScope sis_sentence) .none kV7 dc7 pm7 an7 cd7 ct7), sl7⟩) (c7 : PySem.W.codeIn K cd7 "is_sentence" = true) (k7 : PySem.W.keepIn K (.ref f7) = true)
    {f8 : Addr} {od8 an8 : Option Addr} {sl8 : Array (Option Value)} {oc8 kV8 dc8 pm8 cd8 ct8 : Value}
    (a8 : PySem.W.nsIn K mainGlobals "are_premises" = some (some (.ref f8))) (l8 : K.lookup f8 = some ⟨oc8, od8, .func (PySem.W.fnOf "are_premises" "are_premises" (defArgs sare_premises) (defBody sare_premises) (defScope sare_premises) .none kV8 dc8 pm8 an8 cd8 ct8), sl8⟩) (c8 : PySem.W.codeIn K cd8 "are_premises" = true) (k8 : PySem.W.keepIn K (.ref f8) = true)
    {f9 : Addr} {od9 an9 : Option Addr} {sl9 : Array (Option Value)} {oc9 kV9 dc9 pm9 cd9 ct9 : Value}
    (a9 : PySem.W.nsIn K mainGlobals "check_signature" = some (some (.ref f9))) (l9 : K.lookup f9 = some ⟨oc9, od9, .func (PySem.W.fnOf "check_signature" "check_signature" (defArgs scheck_signature) (defBody scheck_signature) (defScope scheck_signature) .none kV9 dc9 pm9 an9 cd9 ct9), sl9⟩) (c9 : PySem.W.codeIn K cd9 "check_signature" = true) (k9 : PySem.W.keepIn K (.ref f9) = true)
    {f10 : Addr} {od10 an10 : Option Addr} {sl10 : Array (Option Value)} {oc10 kV10 dc10 pm10 cd10 ct10 : Value}
    (a10 : PySem.W.nsIn K mainGlobals "check_premises" = some (some (.ref f10))) (l10 : K.lookup f10 = some ⟨oc10, od10, .func (PySem.W.fnOf "check_premises" "check_premises" (defArgs scheck_premises) (defBody scheck_premises) (defScope scheck_premises) .none kV10 dc10 pm10 an10 cd10 ct10), sl10⟩) (c10 : PySem.W.codeIn K cd10 "check_premises" = true) (k10 : PySem.W.keepIn K (.ref f10) = true)
    {f11 : Addr} {od11 an11 : Option Addr} {sl11 : Array (Option Value)} {oc11 kV11 dc11 pm11 cd11 ct11 : Value}
    (a11 : PySem.W.nsIn K mainGlobals "nouns_of" = some (some (.ref f11))) (l11 : K.lookup f11 = some ⟨oc11, od11, .func (PySem.W.fnOf "nouns_of" "nouns_of" (defArgs snouns_of) (defBody snouns_of) (defScope snouns_of) .none kV11 dc11 pm11 an11 cd11 ct11), sl11⟩) (c11 : PySem.W.codeIn K cd11 "nouns_of" = true) (k11 : PySem.W.keepIn K (.ref f11) = true)
    {f12 : Addr} {od12 an12 : Option Addr} {sl12 : Array (Option Value)} {oc12 kV12 dc12 pm12 cd12 ct12 : Value}
    (a12 : PySem.W.nsIn K mainGlobals "_stated_by" = some (some (.ref f12))) (l12 : K.lookup f12 = some ⟨oc12, od12, .func (PySem.W.fnOf "_stated_by" "_stated_by" (defArgs s_stated_by) (defBody s_stated_by) (defScope s_stated_by) .none kV12 dc12 pm12 an12 cd12 ct12), sl12⟩) (c12 : PySem.W.codeIn K cd12 "_stated_by" = true) (k12 : PySem.W.keepIn K (.ref f12) = true)
    {f13 : Addr} {od13 an13 : Option Addr} {sl13 : Array (Option Value)} {oc13 kV13 dc13 pm13 cd13 ct13 : Value}
    (a13 : PySem.W.nsIn K mainGlobals "kinds_stated" = some (some (.ref f13))) (l13 : K.lookup f13 = some ⟨oc13, od13, .func (PySem.W.fnOf "kinds_stated" "kinds_stated" (defArgs skinds_stated) (defBody skinds_stated) (defScope skinds_stated) .none kV13 dc13 pm13 an13 cd13 ct13), sl13⟩) (c13 : PySem.W.codeIn K cd13 "kinds_stated" = true) (k13 : PySem.W.keepIn K (.ref f13) = true)
    {f14 : Addr} {od14 an14 : Option Addr} {sl14 : Array (Option Value)} {oc14 kV14 dc14 pm14 cd14 ct14 : Value}
    (a14 : PySem.W.nsIn K mainGlobals "_table" = some (some (.ref f14))) (l14 : K.lookup f14 = some ⟨oc14, od14, .func (PySem.W.fnOf "_table" "_table" (defArgs s_table) (defBody s_table) (defScope s_table) .none kV14 dc14 pm14 an14 cd14 ct14), sl14⟩) (c14 : PySem.W.codeIn K cd14 "_table" = true) (k14 : PySem.W.keepIn K (.ref f14) = true)
    {f15 : Addr} {od15 an15 : Option Addr} {sl15 : Array (Option Value)} {oc15 kV15 dc15 pm15 cd15 ct15 : Value}
    (a15 : PySem.W.nsIn K mainGlobals "_leads" = some (some (.ref f15))) (l15 : K.lookup f15 = some ⟨oc15, od15, .func (PySem.W.fnOf "_leads" "_leads" (defArgs s_leads) (defBody s_leads) (defScope s_leads) .none kV15 dc15 pm15 an15 cd15 ct15), sl15⟩) (c15 : PySem.W.codeIn K cd15 "_leads" = true) (k15 : PySem.W.keepIn K (.ref f15) = true)
    {f16 : Addr} {od16 an16 : Option Addr} {sl16 : Array (Option Value)} {oc16 kV16 dc16 pm16 cd16 ct16 : Value}
    (a16 : PySem.W.nsIn K mainGlobals "_more_subsets" = some (some (.ref f16))) (l16 : K.lookup f16 = some ⟨oc16, od16, .func (PySem.W.fnOf "_more_subsets" "_more_subsets" (defArgs s_more_subsets) (defBody s_more_subsets) (defScope s_more_subsets) .none kV16 dc16 pm16 an16 cd16 ct16), sl16⟩) (c16 : PySem.W.codeIn K cd16 "_more_subsets" = true) (k16 : PySem.W.keepIn K (.ref f16) = true)
    {f17 : Addr} {od17 an17 : Option Addr} {sl17 : Array (Option Value)} {oc17 kV17 dc17 pm17 cd17 ct17 : Value}
    (a17 : PySem.W.nsIn K mainGlobals "_more_at_least" = some (some (.ref f17))) (l17 : K.lookup f17 = some ⟨oc17, od17, .func (PySem.W.fnOf "_more_at_least" "_more_at_least" (defArgs s_more_at_least) (defBody s_more_at_least) (defScope s_more_at_least) .none kV17 dc17 pm17 an17 cd17 ct17), sl17⟩) (c17 : PySem.W.codeIn K cd17 "_more_at_least" = true) (k17 : PySem.W.keepIn K (.ref f17) = true)
    {f18 : Addr} {od18 an18 : Option Addr} {sl18 : Array (Option Value)} {oc18 kV18 dc18 pm18 cd18 ct18 : Value}
    (a18 : PySem.W.nsIn K mainGlobals "tables_of" = some (some (.ref f18))) (l18 : K.lookup f18 = some ⟨oc18, od18, .func (PySem.W.fnOf "tables_of" "tables_of" (defArgs stables_of) (defBody stables_of) (defScope stables_of) .none kV18 dc18 pm18 an18 cd18 ct18), sl18⟩) (c18 : PySem.W.codeIn K cd18 "tables_of" = true) (k18 : PySem.W.keepIn K (.ref f18) = true)
    {f19 : Addr} {od19 an19 : Option Addr} {sl19 : Array (Option Value)} {oc19 kV19 dc19 pm19 cd19 ct19 : Value}
    (a19 : PySem.W.nsIn K mainGlobals "nouns_over" = some (some (.ref f19))) (l19 : K.lookup f19 = some ⟨oc19, od19, .func (PySem.W.fnOf "nouns_over" "nouns_over" (defArgs snouns_over) (defBody snouns_over) (defScope snouns_over) .none kV19 dc19 pm19 an19 cd19 ct19), sl19⟩) (c19 : PySem.W.codeIn K cd19 "nouns_over" = true) (k19 : PySem.W.keepIn K (.ref f19) = true)
    {f20 : Addr} {od20 an20 : Option Addr} {sl20 : Array (Option Value)} {oc20 kV20 dc20 pm20 cd20 ct20 : Value}
    (a20 : PySem.W.nsIn K mainGlobals "_needs" = some (some (.ref f20))) (l20 : K.lookup f20 = some ⟨oc20, od20, .func (PySem.W.fnOf "_needs" "_needs" (defArgs s_needs) (defBody s_needs) (defScope s_needs) .none kV20 dc20 pm20 an20 cd20 ct20), sl20⟩) (c20 : PySem.W.codeIn K cd20 "_needs" = true) (k20 : PySem.W.keepIn K (.ref f20) = true)
    {f21 : Addr} {od21 an21 : Option Addr} {sl21 : Array (Option Value)} {oc21 kV21 dc21 pm21 cd21 ct21 : Value}
    (a21 : PySem.W.nsIn K mainGlobals "nouns_needed" = some (some (.ref f21))) (l21 : K.lookup f21 = some ⟨oc21, od21, .func (PySem.W.fnOf "nouns_needed" "nouns_needed" (defArgs snouns_needed) (defBody snouns_needed) (defScope snouns_needed) .none kV21 dc21 pm21 an21 cd21 ct21), sl21⟩) (c21 : PySem.W.codeIn K cd21 "nouns_needed" = true) (k21 : PySem.W.keepIn K (.ref f21) = true)
    {f22 : Addr} {od22 an22 : Option Addr} {sl22 : Array (Option Value)} {oc22 kV22 dc22 pm22 cd22 ct22 : Value}
    (a22 : PySem.W.nsIn K mainGlobals "_different_pairs" = some (some (.ref f22))) (l22 : K.lookup f22 = some ⟨oc22, od22, .func (PySem.W.fnOf "_different_pairs" "_different_pairs" (defArgs s_different_pairs) (defBody s_different_pairs) (defScope s_different_pairs) .none kV22 dc22 pm22 an22 cd22 ct22), sl22⟩) (c22 : PySem.W.codeIn K cd22 "_different_pairs" = true) (k22 : PySem.W.keepIn K (.ref f22) = true)
    {od23 an23 : Option Addr} {sl23 : Array (Option Value)} {oc23 kV23 dc23 pm23 cd23 ct23 : Value}
    (a23 : PySem.W.nsIn K mainGlobals "subsets" = some (some (.ref 202))) (l23 : K.lookup 202 = some ⟨oc23, od23, .func (PySem.W.fnOf "subsets" "subsets" (defArgs ssubsets) (defBody ssubsets) (defScope ssubsets) .none kV23 dc23 pm23 an23 cd23 ct23), sl23⟩) (c23 : PySem.W.codeIn K cd23 "subsets" = true) (k23 : PySem.W.keepIn K (.ref 202) = true)
    {od24 an24 : Option Addr} {sl24 : Array (Option Value)} {oc24 kV24 dc24 pm24 cd24 ct24 : Value}
    (a24 : PySem.W.nsIn K mainGlobals "at_least" = some (some (.ref 209))) (l24 : K.lookup 209 = some ⟨oc24, od24, .func (PySem.W.fnOf "at_least" "at_least" (defArgs sat_least) (defBody sat_least) (defScope sat_least) .none kV24 dc24 pm24 an24 cd24 ct24), sl24⟩) (c24 : PySem.W.codeIn K cd24 "at_least" = true) (k24 : PySem.W.keepIn K (.ref 209) = true)
    {od25 an25 : Option Addr} {sl25 : Array (Option Value)} {oc25 kV25 dc25 pm25 cd25 ct25 : Value}
    (a25 : PySem.W.nsIn K mainGlobals "nouns_required" = some (some (.ref 216))) (l25 : K.lookup 216 = some ⟨oc25, od25, .func (PySem.W.fnOf "nouns_required" "nouns_required" (defArgs snouns_required) (defBody snouns_required) (defScope snouns_required) .none kV25 dc25 pm25 an25 cd25 ct25), sl25⟩) (c25 : PySem.W.codeIn K cd25 "nouns_required" = true) (k25 : PySem.W.keepIn K (.ref 216) = true)
    {f26 : Addr} {od26 an26 : Option Addr} {sl26 : Array (Option Value)} {oc26 kV26 dc26 pm26 cd26 ct26 : Value}
    (a26 : PySem.W.nsIn K mainGlobals "_is_mark_rest" = some (some (.ref f26))) (l26 : K.lookup f26 = some ⟨oc26, od26, .func (PySem.W.fnOf "_is_mark_rest" "_is_mark_rest" (defArgs s_is_mark_rest) (defBody s_is_mark_rest) (defScope s_is_mark_rest) .none kV26 dc26 pm26 an26 cd26 ct26), sl26⟩) (c26 : PySem.W.codeIn K cd26 "_is_mark_rest" = true) (k26 : PySem.W.keepIn K (.ref f26) = true)
    {f27 : Addr} {od27 an27 : Option Addr} {sl27 : Array (Option Value)} {oc27 kV27 dc27 pm27 cd27 ct27 : Value}
    (a27 : PySem.W.nsIn K mainGlobals "has_form_of_kind" = some (some (.ref f27))) (l27 : K.lookup f27 = some ⟨oc27, od27, .func (PySem.W.fnOf "has_form_of_kind" "has_form_of_kind" (defArgs shas_form_of_kind) (defBody shas_form_of_kind) (defScope shas_form_of_kind) .none kV27 dc27 pm27 an27 cd27 ct27), sl27⟩) (c27 : PySem.W.codeIn K cd27 "has_form_of_kind" = true) (k27 : PySem.W.keepIn K (.ref f27) = true)
    {f28 : Addr} {od28 an28 : Option Addr} {sl28 : Array (Option Value)} {oc28 kV28 dc28 pm28 cd28 ct28 : Value}
    (a28 : PySem.W.nsIn K mainGlobals "_check_kind" = some (some (.ref f28))) (l28 : K.lookup f28 = some ⟨oc28, od28, .func (PySem.W.fnOf "_check_kind" "_check_kind" (defArgs s_check_kind) (defBody s_check_kind) (defScope s_check_kind) .none kV28 dc28 pm28 an28 cd28 ct28), sl28⟩) (c28 : PySem.W.codeIn K cd28 "_check_kind" = true) (k28 : PySem.W.keepIn K (.ref f28) = true)
    {f29 : Addr} {od29 an29 : Option Addr} {sl29 : Array (Option Value)} {oc29 kV29 dc29 pm29 cd29 ct29 : Value}
    (a29 : PySem.W.nsIn K mainGlobals "_check_verb" = some (some (.ref f29))) (l29 : K.lookup f29 = some ⟨oc29, od29, .func (PySem.W.fnOf "_check_verb" "_check_verb" (defArgs s_check_verb) (defBody s_check_verb) (defScope s_check_verb) .none kV29 dc29 pm29 an29 cd29 ct29), sl29⟩) (c29 : PySem.W.codeIn K cd29 "_check_verb" = true) (k29 : PySem.W.keepIn K (.ref f29) = true)
    {f30 : Addr} {od30 an30 : Option Addr} {sl30 : Array (Option Value)} {oc30 kV30 dc30 pm30 cd30 ct30 : Value}
    (a30 : PySem.W.nsIn K mainGlobals "kinds_needed" = some (some (.ref f30))) (l30 : K.lookup f30 = some ⟨oc30, od30, .func (PySem.W.fnOf "kinds_needed" "kinds_needed" (defArgs skinds_needed) (defBody skinds_needed) (defScope skinds_needed) .none kV30 dc30 pm30 an30 cd30 ct30), sl30⟩) (c30 : PySem.W.codeIn K cd30 "kinds_needed" = true) (k30 : PySem.W.keepIn K (.ref f30) = true)
    {f31 : Addr} {od31 an31 : Option Addr} {sl31 : Array (Option Value)} {oc31 kV31 dc31 pm31 cd31 ct31 : Value}
    (a31 : PySem.W.nsIn K mainGlobals "_word" = some (some (.ref f31))) (l31 : K.lookup f31 = some ⟨oc31, od31, .func (PySem.W.fnOf "_word" "_word" (defArgs s_word) (defBody s_word) (defScope s_word) .none kV31 dc31 pm31 an31 cd31 ct31), sl31⟩) (c31 : PySem.W.codeIn K cd31 "_word" = true) (k31 : PySem.W.keepIn K (.ref f31) = true)
    {od32 an32 : Option Addr} {sl32 : Array (Option Value)} {oc32 kV32 dc32 pm32 cd32 ct32 : Value}
    (a32 : PySem.W.nsIn K mainGlobals "kinds_required" = some (some (.ref 305))) (l32 : K.lookup 305 = some ⟨oc32, od32, .func (PySem.W.fnOf "kinds_required" "kinds_required" (defArgs skinds_required) (defBody skinds_required) (defScope skinds_required) .none kV32 dc32 pm32 an32 cd32 ct32), sl32⟩) (c32 : PySem.W.codeIn K cd32 "kinds_required" = true) (k32 : PySem.W.keepIn K (.ref 305) = true)
    {f33 : Addr} {od33 an33 : Option Addr} {sl33 : Array (Option Value)} {oc33 kV33 dc33 pm33 cd33 ct33 : Value}
    (a33 : PySem.W.findIn K (.ref C_Forcing) "__init__" = some (some (.ref f33))) (i33 : PySem.W.isFn K (.ref f33) = true) (l33 : K.lookup f33 = some ⟨oc33, od33, .func (PySem.W.fnOf "__init__" "Forcing.__init__" (defArgs sForcing___init__) (defBody sForcing___init__) (defScope sForcing___init__) .none kV33 dc33 pm33 an33 cd33 ct33), sl33⟩) (c33 : PySem.W.codeIn K cd33 "Forcing.__init__" = true) (k33 : PySem.W.keepIn K (.ref f33) = true)
    {f34 : Addr} {od34 an34 : Option Addr} {sl34 : Array (Option Value)} {oc34 kV34 dc34 pm34 cd34 ct34 : Value}
    (a34 : PySem.W.findIn K (.ref C_Forcing) "nouns_above" = some (some (.ref f34))) (i34 : PySem.W.isFn K (.ref f34) = true) (l34 : K.lookup f34 = some ⟨oc34, od34, .func (PySem.W.fnOf "nouns_above" "Forcing.nouns_above" (defArgs sForcing_nouns_above) (defBody sForcing_nouns_above) (defScope sForcing_nouns_above) .none kV34 dc34 pm34 an34 cd34 ct34), sl34⟩) (c34 : PySem.W.codeIn K cd34 "Forcing.nouns_above" = true) (k34 : PySem.W.keepIn K (.ref f34) = true)
    {f35 : Addr} {od35 an35 : Option Addr} {sl35 : Array (Option Value)} {oc35 kV35 dc35 pm35 ct35 : Value} {cc_Forcing_is_between : Addr}
    (a35 : PySem.W.findIn K (.ref C_Forcing) "is_between" = some (some (.ref f35))) (i35 : PySem.W.isFn K (.ref f35) = true) (l35 : K.lookup f35 = some ⟨oc35, od35, .func (PySem.W.fnOf "is_between" "Forcing.is_between" (defArgs sForcing_is_between) (defBody sForcing_is_between) (defScope sForcing_is_between) .none kV35 dc35 pm35 an35 (.ref cc_Forcing_is_between) ct35), sl35⟩) (c35 : PySem.W.codeIn K (.ref cc_Forcing_is_between) "Forcing.is_between" = true) (k35 : PySem.W.keepIn K (.ref f35) = true)
    (h35 : PySem.W.codeHdIn K cc_Forcing_is_between 239 = true)
    {f36 : Addr} {od36 an36 : Option Addr} {sl36 : Array (Option Value)} {oc36 kV36 dc36 pm36 cd36 ct36 : Value}
    (a36 : PySem.W.nsIn K mainGlobals "forced_between" = some (some (.ref f36))) (l36 : K.lookup f36 = some ⟨oc36, od36, .func (PySem.W.fnOf "forced_between" "forced_between" (defArgs sforced_between) (defBody sforced_between) (defScope sforced_between) .none kV36 dc36 pm36 an36 cd36 ct36), sl36⟩) (c36 : PySem.W.codeIn K cd36 "forced_between" = true) (k36 : PySem.W.keepIn K (.ref f36) = true)
    {f37 : Addr} {od37 an37 : Option Addr} {sl37 : Array (Option Value)} {oc37 kV37 dc37 pm37 cd37 ct37 : Value}
    (a37 : PySem.W.nsIn K mainGlobals "_law_stream" = some (some (.ref f37))) (l37 : K.lookup f37 = some ⟨oc37, od37, .func (PySem.W.fnOf "_law_stream" "_law_stream" (defArgs s_law_stream) (defBody s_law_stream) (defScope s_law_stream) .none kV37 dc37 pm37 an37 cd37 ct37), sl37⟩) (c37 : PySem.W.codeIn K cd37 "_law_stream" = true) (k37 : PySem.W.keepIn K (.ref f37) = true)
    {f38 : Addr} {od38 an38 : Option Addr} {sl38 : Array (Option Value)} {oc38 kV38 dc38 pm38 cd38 ct38 : Value}
    (a38 : PySem.W.nsIn K mainGlobals "_law_next" = some (some (.ref f38))) (l38 : K.lookup f38 = some ⟨oc38, od38, .func (PySem.W.fnOf "_law_next" "_law_next" (defArgs s_law_next) (defBody s_law_next) (defScope s_law_next) .none kV38 dc38 pm38 an38 cd38 ct38), sl38⟩) (c38 : PySem.W.codeIn K cd38 "_law_next" = true) (k38 : PySem.W.keepIn K (.ref f38) = true)
    {f39 : Addr} {od39 an39 : Option Addr} {sl39 : Array (Option Value)} {oc39 kV39 dc39 pm39 cd39 ct39 : Value}
    (a39 : PySem.W.nsIn K mainGlobals "_law_sentence" = some (some (.ref f39))) (l39 : K.lookup f39 = some ⟨oc39, od39, .func (PySem.W.fnOf "_law_sentence" "_law_sentence" (defArgs s_law_sentence) (defBody s_law_sentence) (defScope s_law_sentence) .none kV39 dc39 pm39 an39 cd39 ct39), sl39⟩) (c39 : PySem.W.codeIn K cd39 "_law_sentence" = true) (k39 : PySem.W.keepIn K (.ref f39) = true)
    {f40 : Addr} {od40 an40 : Option Addr} {sl40 : Array (Option Value)} {oc40 kV40 dc40 pm40 cd40 ct40 : Value}
    (a40 : PySem.W.nsIn K mainGlobals "_law_premises" = some (some (.ref f40))) (l40 : K.lookup f40 = some ⟨oc40, od40, .func (PySem.W.fnOf "_law_premises" "_law_premises" (defArgs s_law_premises) (defBody s_law_premises) (defScope s_law_premises) .none kV40 dc40 pm40 an40 cd40 ct40), sl40⟩) (c40 : PySem.W.codeIn K cd40 "_law_premises" = true) (k40 : PySem.W.keepIn K (.ref f40) = true)
    {f41 : Addr} {od41 an41 : Option Addr} {sl41 : Array (Option Value)} {oc41 kV41 dc41 pm41 cd41 ct41 : Value}
    (a41 : PySem.W.nsIn K mainGlobals "_law_some_kind" = some (some (.ref f41))) (l41 : K.lookup f41 = some ⟨oc41, od41, .func (PySem.W.fnOf "_law_some_kind" "_law_some_kind" (defArgs s_law_some_kind) (defBody s_law_some_kind) (defScope s_law_some_kind) .none kV41 dc41 pm41 an41 cd41 ct41), sl41⟩) (c41 : PySem.W.codeIn K cd41 "_law_some_kind" = true) (k41 : PySem.W.keepIn K (.ref f41) = true)
    {f42 : Addr} {od42 an42 : Option Addr} {sl42 : Array (Option Value)} {oc42 kV42 dc42 pm42 cd42 ct42 : Value}
    (a42 : PySem.W.nsIn K mainGlobals "law" = some (some (.ref f42))) (l42 : K.lookup f42 = some ⟨oc42, od42, .func (PySem.W.fnOf "law" "law" (defArgs slaw) (defBody slaw) (defScope slaw) .none kV42 dc42 pm42 an42 cd42 ct42), sl42⟩) (c42 : PySem.W.codeIn K cd42 "law" = true) (k42 : PySem.W.keepIn K (.ref f42) = true)
    (z_abs : PySem.W.nsIn K mainGlobals "abs" = some none)
    (z_all : PySem.W.nsIn K mainGlobals "all" = some none)
    (z_any : PySem.W.nsIn K mainGlobals "any" = some none)
    (z_bool : PySem.W.nsIn K mainGlobals "bool" = some none)
    (z_int : PySem.W.nsIn K mainGlobals "int" = some none)
    (z_isinstance : PySem.W.nsIn K mainGlobals "isinstance" = some none)
    (z_len : PySem.W.nsIn K mainGlobals "len" = some none)
    (z_list : PySem.W.nsIn K mainGlobals "list" = some none)
    (z_max : PySem.W.nsIn K mainGlobals "max" = some none)
    (z_min : PySem.W.nsIn K mainGlobals "min" = some none)
    (z_range : PySem.W.nsIn K mainGlobals "range" = some none)
    (z_sorted : PySem.W.nsIn K mainGlobals "sorted" = some none)
    (z_tuple : PySem.W.nsIn K mainGlobals "tuple" = some none)
    {k_MOST_NOUNS : Tok} (m_MOST_NOUNS : PySem.W.nsIn K mainGlobals "MOST_NOUNS" = some (some (.int 4 k_MOST_NOUNS)))
    {k_MOST_VERBS : Tok} (m_MOST_VERBS : PySem.W.nsIn K mainGlobals "MOST_VERBS" = some (some (.int 2 k_MOST_VERBS)))
    {k_MOST_PREMISES : Tok} (m_MOST_PREMISES : PySem.W.nsIn K mainGlobals "MOST_PREMISES" = some (some (.int 8 k_MOST_PREMISES)))
    {a_QUANTIFIERS : Addr} {dt_QUANTIFIERS : Option Addr} {nt_QUANTIFIERS : Nat} {st_QUANTIFIERS : Array (Option Value)} {q0_QUANTIFIERS q1_QUANTIFIERS : Tok} (m_QUANTIFIERS : PySem.W.nsIn K mainGlobals "QUANTIFIERS" = some (some (.ref a_QUANTIFIERS))) (o_QUANTIFIERS : K.lookup a_QUANTIFIERS = some ⟨.type "tuple", dt_QUANTIFIERS, .seq #[.str "all" q0_QUANTIFIERS, .str "some" q1_QUANTIFIERS] nt_QUANTIFIERS, st_QUANTIFIERS⟩)
    {a_NOUN_WORDS : Addr} {dt_NOUN_WORDS : Option Addr} {nt_NOUN_WORDS : Nat} {st_NOUN_WORDS : Array (Option Value)} {q0_NOUN_WORDS q1_NOUN_WORDS q2_NOUN_WORDS q3_NOUN_WORDS q4_NOUN_WORDS q5_NOUN_WORDS : Tok} (m_NOUN_WORDS : PySem.W.nsIn K mainGlobals "NOUN_WORDS" = some (some (.ref a_NOUN_WORDS))) (o_NOUN_WORDS : K.lookup a_NOUN_WORDS = some ⟨.type "tuple", dt_NOUN_WORDS, .seq #[.str "all" q0_NOUN_WORDS, .str "some not" q1_NOUN_WORDS, .str "no" q2_NOUN_WORDS, .str "some" q3_NOUN_WORDS, .str "as many" q4_NOUN_WORDS, .str "fewer" q5_NOUN_WORDS] nt_NOUN_WORDS, st_NOUN_WORDS⟩)
    (nt : GXX.noTab K = true)
    (r_are_premises : ((PyProof.Rows.recsOf q).any fun e => e.name == "are_premises") = true)
    (r__leads : ((PyProof.Rows.recsOf q).any fun e => e.name == "_leads") = true)
    : LamX.LawAtS l w K CX0 9 63 "script" mg fa h := by
  have e := hfa.symm.trans (PySem.W.mg_of X G a42)
  cases e
  have F1 := fun_mk (st := sis_integer) l1 c1 k1
  have F2 := fun_mk (st := sis_noun) l2 c2 k2
  have F3 := fun_mk (st := sis_verb) l3 c3 k3
  have F4 := fun_mk (st := sis_signature) l4 c4 k4
  have F5 := fun_mk (st := s_is_verb_sentence) l5 c5 k5
  have F6 := fun_mk (st := s_is_self_sentence) l6 c6 k6
  have F7 := fun_mk (st := sis_sentence) l7 c7 k7
  have F8 := fun_mk (st := sare_premises) l8 c8 k8
  have F9 := fun_mk (st := scheck_signature) l9 c9 k9
  have F10 := fun_mk (st := scheck_premises) l10 c10 k10
  have F11 := fun_mk (st := snouns_of) l11 c11 k11
  have F12 := fun_mk (st := s_stated_by) l12 c12 k12
  have F13 := fun_mk (st := skinds_stated) l13 c13 k13
  have F14 := fun_mk (st := s_table) l14 c14 k14
  have F15 := fun_mk (st := s_leads) l15 c15 k15
  have F16 := fun_mk (st := s_more_subsets) l16 c16 k16
  have F17 := fun_mk (st := s_more_at_least) l17 c17 k17
  have F18 := fun_mk (st := stables_of) l18 c18 k18
  have F19 := fun_mk (st := snouns_over) l19 c19 k19
  have F20 := fun_mk (st := s_needs) l20 c20 k20
  have F21 := fun_mk (st := snouns_needed) l21 c21 k21
  have F22 := fun_mk (st := s_different_pairs) l22 c22 k22
  have F23 := fun_mk (st := ssubsets) l23 c23 k23
  have F24 := fun_mk (st := sat_least) l24 c24 k24
  have F25 := fun_mk (st := snouns_required) l25 c25 k25
  have F26 := fun_mk (st := s_is_mark_rest) l26 c26 k26
  have F27 := fun_mk (st := shas_form_of_kind) l27 c27 k27
  have F28 := fun_mk (st := s_check_kind) l28 c28 k28
  have F29 := fun_mk (st := s_check_verb) l29 c29 k29
  have F30 := fun_mk (st := skinds_needed) l30 c30 k30
  have F31 := fun_mk (st := s_word) l31 c31 k31
  have F32 := fun_mk (st := skinds_required) l32 c32 k32
  have F33 := fun_mk (st := sForcing___init__) l33 c33 k33
  have F34 := fun_mk (st := sForcing_nouns_above) l34 c34 k34
  have F35 := fun_mk (st := sForcing_is_between) l35 c35 k35
  have F36 := fun_mk (st := sforced_between) l36 c36 k36
  have F37 := fun_mk (st := s_law_stream) l37 c37 k37
  have F38 := fun_mk (st := s_law_next) l38 c38 k38
  have F39 := fun_mk (st := s_law_sentence) l39 c39 k39
  have F40 := fun_mk (st := s_law_premises) l40 c40 k40
  have F41 := fun_mk (st := s_law_some_kind) l41 c41 k41
  have F42 := fun_mk (st := slaw) l42 c42 k42
  have b1 := F1.binds (ps := ["value", "least", "most"]) fun _ _ _ _ _ _ us hl => by obtain ⟨_, _, _, rfl⟩ := len3 hl; rfl
  have b2 := F2.binds (ps := ["signature", "value"]) fun _ _ _ _ _ _ us hl => by obtain ⟨_, _, rfl⟩ := len2 hl; rfl
  have b3 := F3.binds (ps := ["signature", "value"]) fun _ _ _ _ _ _ us hl => by obtain ⟨_, _, rfl⟩ := len2 hl; rfl
  have b4 := F4.binds (ps := ["value"]) fun _ _ _ _ _ _ us hl => by obtain ⟨_, rfl⟩ := len1 hl; rfl
  have b5 := F5.binds (ps := ["signature", "value"]) fun _ _ _ _ _ _ us hl => by obtain ⟨_, _, rfl⟩ := len2 hl; rfl
  have b6 := F6.binds (ps := ["signature", "value"]) fun _ _ _ _ _ _ us hl => by obtain ⟨_, _, rfl⟩ := len2 hl; rfl
  have b7 := F7.binds (ps := ["signature", "value"]) fun _ _ _ _ _ _ us hl => by obtain ⟨_, _, rfl⟩ := len2 hl; rfl
  have b8 := F8.binds (ps := ["signature", "value"]) fun _ _ _ _ _ _ us hl => by obtain ⟨_, _, rfl⟩ := len2 hl; rfl
  have b9 := F9.binds (ps := ["signature"]) fun _ _ _ _ _ _ us hl => by obtain ⟨_, rfl⟩ := len1 hl; rfl
  have b10 := F10.binds (ps := ["signature", "premises", "name"]) fun _ _ _ _ _ _ us hl => by obtain ⟨_, _, _, rfl⟩ := len3 hl; rfl
  have b11 := F11.binds (ps := ["kind"]) fun _ _ _ _ _ _ us hl => by obtain ⟨_, rfl⟩ := len1 hl; rfl
  have b12 := F12.binds (ps := ["premise"]) fun _ _ _ _ _ _ us hl => by obtain ⟨_, rfl⟩ := len1 hl; rfl
  have b13 := F13.binds (ps := ["premises"]) fun _ _ _ _ _ _ us hl => by obtain ⟨_, rfl⟩ := len1 hl; rfl
  have b14 := F14.binds (ps := ["many", "pairs"]) fun _ _ _ _ _ _ us hl => by obtain ⟨_, _, rfl⟩ := len2 hl; rfl
  have b15 := F15.binds (ps := ["table", "x", "y"]) fun _ _ _ _ _ _ us hl => by obtain ⟨_, _, _, rfl⟩ := len3 hl; rfl
  have b16 := F16.binds (ps := ["inside", "enough"]) fun _ _ _ _ _ _ us hl => by obtain ⟨_, _, rfl⟩ := len2 hl; rfl
  have b17 := F17.binds (ps := ["inside", "enough"]) fun _ _ _ _ _ _ us hl => by obtain ⟨_, _, rfl⟩ := len2 hl; rfl
  have b18 := F18.binds (ps := ["many", "premises"]) fun _ _ _ _ _ _ us hl => by obtain ⟨_, _, rfl⟩ := len2 hl; rfl
  have b19 := F19.binds (ps := ["inside", "kind"]) fun _ _ _ _ _ _ us hl => by obtain ⟨_, _, rfl⟩ := len2 hl; rfl
  have b20 := F20.binds (ps := ["inside", "enough", "premises", "x", "y"]) fun _ _ _ _ _ _ us hl => by obtain ⟨_, _, _, _, _, rfl⟩ := len5 hl; rfl
  have b21 := F21.binds (ps := ["inside", "enough", "premises"]) fun _ _ _ _ _ _ us hl => by obtain ⟨_, _, _, rfl⟩ := len3 hl; rfl
  have b22 := F22.binds (ps := ["table"]) fun _ _ _ _ _ _ us hl => by obtain ⟨_, rfl⟩ := len1 hl; rfl
  have b23 := F23.binds (ps := ["signature", "premises"]) fun _ _ _ _ _ _ us hl => by obtain ⟨_, _, rfl⟩ := len2 hl; rfl
  have b24 := F24.binds (ps := ["signature", "premises"]) fun _ _ _ _ _ _ us hl => by obtain ⟨_, _, rfl⟩ := len2 hl; rfl
  have b25 := F25.binds (ps := ["signature", "premises"]) fun _ _ _ _ _ _ us hl => by obtain ⟨_, _, rfl⟩ := len2 hl; rfl
  have b26 := F26.binds (ps := ["signature", "rest"]) fun _ _ _ _ _ _ us hl => by obtain ⟨_, _, rfl⟩ := len2 hl; rfl
  have b27 := F27.binds (ps := ["signature", "value"]) fun _ _ _ _ _ _ us hl => by obtain ⟨_, _, rfl⟩ := len2 hl; rfl
  have b28 := F28.binds (ps := ["signature", "kind", "name"]) fun _ _ _ _ _ _ us hl => by obtain ⟨_, _, _, rfl⟩ := len3 hl; rfl
  have b29 := F29.binds (ps := ["signature", "verb"]) fun _ _ _ _ _ _ us hl => by obtain ⟨_, _, rfl⟩ := len2 hl; rfl
  have b30 := F30.binds (ps := ["inside", "enough", "premises"]) fun _ _ _ _ _ _ us hl => by obtain ⟨_, _, _, rfl⟩ := len3 hl; rfl
  have b31 := F31.binds (ps := ["yes", "no"]) fun _ _ _ _ _ _ us hl => by obtain ⟨_, _, rfl⟩ := len2 hl; rfl
  have b32 := F32.binds (ps := ["signature", "premises"]) fun _ _ _ _ _ _ us hl => by obtain ⟨_, _, rfl⟩ := len2 hl; rfl
  have b33 := F33.binds (ps := ["self", "inside", "premises"]) fun _ _ _ _ _ _ us hl => by obtain ⟨_, _, _, rfl⟩ := len3 hl; rfl
  have b34 := F34.binds (ps := ["self", "kind"]) fun _ _ _ _ _ _ us hl => by obtain ⟨_, _, rfl⟩ := len2 hl; rfl
  have b35 := F35.binds (ps := ["self", "does", "verb", "first", "second"]) fun _ _ _ _ _ _ us hl => by obtain ⟨_, _, _, _, _, rfl⟩ := len5 hl; rfl
  have b36 := F36.binds (ps := ["signature", "premises", "verb", "first", "second"]) fun _ _ _ _ _ _ us hl => by obtain ⟨_, _, _, _, _, rfl⟩ := len5 hl; rfl
  have b37 := F37.binds (ps := ["script"]) fun _ _ _ _ _ _ us hl => by obtain ⟨_, rfl⟩ := len1 hl; rfl
  have b38 := F38.binds (ps := ["stream", "many"]) fun _ _ _ _ _ _ us hl => by obtain ⟨_, _, rfl⟩ := len2 hl; rfl
  have b39 := F39.binds (ps := ["stream", "nouns", "verbs"]) fun _ _ _ _ _ _ us hl => by obtain ⟨_, _, _, rfl⟩ := len3 hl; rfl
  have b40 := F40.binds (ps := ["stream", "signature", "most"]) fun _ _ _ _ _ _ us hl => by obtain ⟨_, _, _, rfl⟩ := len3 hl; rfl
  have b41 := F41.binds (ps := ["stream", "signature"]) fun _ _ _ _ _ _ us hl => by obtain ⟨_, _, rfl⟩ := len2 hl; rfl
  obtain ⟨cc_are_premises, pp_are_premises, ec_are_premises, et_are_premises, en_are_premises, ed_are_premises⟩ := GXX.tab_one DT X nt r_are_premises (PySem.W.mg_of X G a8) l8 rfl
  have ec_are_premises : cd8 = .ref cc_are_premises := ec_are_premises
  subst ec_are_premises
  have FC_are_premises : GXX.FunC K "are_premises" "are_premises" sare_premises f8 _ cc_are_premises := ⟨_, _, _, _, _, _, _, _, rfl, l8, c8⟩
  obtain ⟨cc__leads, pp__leads, ec__leads, et__leads, en__leads, ed__leads⟩ := GXX.tab_one DT X nt r__leads (PySem.W.mg_of X G a15) l15 rfl
  have ec__leads : cd15 = .ref cc__leads := ec__leads
  subst ec__leads
  have FC__leads : GXX.FunC K "_leads" "_leads" s_leads f15 _ cc__leads := ⟨_, _, _, _, _, _, _, _, rfl, l15, c15⟩
  obtain ⟨et_Forcing_is_between, en_Forcing_is_between, ed_Forcing_is_between⟩ := tab_m X nt h35 (TM 239 (by simp))
  have FC_Forcing_is_between : GXX.FunC K "is_between" "Forcing.is_between" sForcing_is_between f35 _ cc_Forcing_is_between := ⟨_, _, _, _, _, _, _, _, rfl, l35, c35⟩
  let T : Txt (⟨K, [pp_are_premises, pp__leads, 239], fun _ => none, w⟩ : En) w mg := ⟨rfl,
    C_Forcing,
    aC_Forcing,
    PySem.W.mg_of X G aC_Forcing,
    ⟨pg_Forcing, hd_Forcing, po_Forcing, sa_Forcing⟩,
    fun C h => by cases (aC_Forcing.symm.trans h); exact ⟨⟨pg_Forcing, hd_Forcing, po_Forcing, sa_Forcing⟩, nf_Forcing_found⟩,
    fun C h => by cases (aC_Forcing.symm.trans h); exact ⟨⟨pg_Forcing, hd_Forcing, po_Forcing, sa_Forcing⟩, nf_Forcing_inside⟩,
    fun C h => by cases (aC_Forcing.symm.trans h); exact ⟨⟨pg_Forcing, hd_Forcing, po_Forcing, sa_Forcing⟩, nf_Forcing_pairs⟩,
    fun C h => by cases (aC_Forcing.symm.trans h); exact ⟨⟨pg_Forcing, hd_Forcing, po_Forcing, sa_Forcing⟩, nf_Forcing_singles⟩,
    f1,
    _,
    F1,
    PySem.W.mg_of X G a1,
    b1,
    f2,
    _,
    F2,
    PySem.W.mg_of X G a2,
    b2,
    f3,
    _,
    F3,
    PySem.W.mg_of X G a3,
    b3,
    f4,
    _,
    F4,
    PySem.W.mg_of X G a4,
    b4,
    f5,
    _,
    F5,
    PySem.W.mg_of X G a5,
    b5,
    f6,
    _,
    F6,
    PySem.W.mg_of X G a6,
    b6,
    f7,
    _,
    F7,
    PySem.W.mg_of X G a7,
    b7,
    f8,
    _,
    F8,
    PySem.W.mg_of X G a8,
    b8,
    f9,
    _,
    F9,
    PySem.W.mg_of X G a9,
    b9,
    f10,
    _,
    F10,
    PySem.W.mg_of X G a10,
    b10,
    f11,
    _,
    F11,
    PySem.W.mg_of X G a11,
    b11,
    f12,
    _,
    F12,
    PySem.W.mg_of X G a12,
    b12,
    f13,
    _,
    F13,
    PySem.W.mg_of X G a13,
    b13,
    f14,
    _,
    F14,
    PySem.W.mg_of X G a14,
    b14,
    f15,
    _,
    F15,
    PySem.W.mg_of X G a15,
    b15,
    f16,
    _,
    F16,
    PySem.W.mg_of X G a16,
    b16,
    f17,
    _,
    F17,
    PySem.W.mg_of X G a17,
    b17,
    f18,
    _,
    F18,
    PySem.W.mg_of X G a18,
    b18,
    f19,
    _,
    F19,
    PySem.W.mg_of X G a19,
    b19,
    f20,
    _,
    F20,
    PySem.W.mg_of X G a20,
    b20,
    f21,
    _,
    F21,
    PySem.W.mg_of X G a21,
    b21,
    f22,
    _,
    F22,
    PySem.W.mg_of X G a22,
    b22,
    202,
    _,
    F23,
    PySem.W.mg_of X G a23,
    b23,
    rfl,
    209,
    _,
    F24,
    PySem.W.mg_of X G a24,
    b24,
    rfl,
    216,
    _,
    F25,
    PySem.W.mg_of X G a25,
    b25,
    rfl,
    f26,
    _,
    F26,
    PySem.W.mg_of X G a26,
    b26,
    f27,
    _,
    F27,
    PySem.W.mg_of X G a27,
    b27,
    f28,
    _,
    F28,
    PySem.W.mg_of X G a28,
    b28,
    f29,
    _,
    F29,
    PySem.W.mg_of X G a29,
    b29,
    f30,
    _,
    F30,
    PySem.W.mg_of X G a30,
    b30,
    f31,
    _,
    F31,
    PySem.W.mg_of X G a31,
    b31,
    305,
    _,
    F32,
    PySem.W.mg_of X G a32,
    b32,
    rfl,
    f33,
    _,
    F33,
    b33,
    ⟨mk_Forcing, a33, i33, kc_Forcing⟩,
    f34,
    _,
    F34,
    b34,
    ⟨a34, i34, k34⟩,
    f35,
    _,
    F35,
    b35,
    ⟨a35, i35, k35⟩,
    f36,
    _,
    F36,
    PySem.W.mg_of X G a36,
    b36,
    f37,
    _,
    F37,
    PySem.W.mg_of X G a37,
    b37,
    f38,
    _,
    F38,
    PySem.W.mg_of X G a38,
    b38,
    f39,
    _,
    F39,
    PySem.W.mg_of X G a39,
    b39,
    f40,
    _,
    F40,
    PySem.W.mg_of X G a40,
    b40,
    f41,
    _,
    F41,
    PySem.W.mg_of X G a41,
    b41,
    cc_are_premises,
    pp_are_premises,
    FC_are_premises,
    List.mem_cons_self,
    cc__leads,
    pp__leads,
    FC__leads,
    List.mem_cons_of_mem _ (List.mem_cons_self),
    cc_Forcing_is_between,
    239,
    FC_Forcing_is_between,
    List.mem_cons_of_mem _ (List.mem_cons_of_mem _ (List.mem_cons_self)),
    PySem.W.mg_none_of X G z_abs,
    PySem.W.mg_none_of X G z_all,
    PySem.W.mg_none_of X G z_any,
    PySem.W.mg_none_of X G z_bool,
    PySem.W.mg_none_of X G z_int,
    PySem.W.mg_none_of X G z_isinstance,
    PySem.W.mg_none_of X G z_len,
    PySem.W.mg_none_of X G z_list,
    PySem.W.mg_none_of X G z_max,
    PySem.W.mg_none_of X G z_min,
    PySem.W.mg_none_of X G z_range,
    PySem.W.mg_none_of X G z_sorted,
    PySem.W.mg_none_of X G z_tuple,
    k_MOST_NOUNS,
    PySem.W.mg_of X G m_MOST_NOUNS,
    k_MOST_VERBS,
    PySem.W.mg_of X G m_MOST_VERBS,
    k_MOST_PREMISES,
    PySem.W.mg_of X G m_MOST_PREMISES,
    a_QUANTIFIERS,
    PySem.W.mg_of X G m_QUANTIFIERS,
    fun M H => .tup (xs := [.str (txt 0), .str (txt 1)]) (.inr (.inr ⟨_, _, _, o_QUANTIFIERS, rfl, rfl, by show 2 ≤ sizeLine; decide, .cons ⟨_, rfl⟩ (.cons ⟨_, rfl⟩ (.nil))⟩)) (.cons (.str (n := 0) (by decide)) (.cons (.str (n := 1) (by decide)) (.nil))),
    a_NOUN_WORDS,
    PySem.W.mg_of X G m_NOUN_WORDS,
    fun M H => .tup (xs := [.str (txt 0), .str (txt 2), .str (txt 3), .str (txt 1), .str (txt 4), .str (txt 5)]) (.inr (.inr ⟨_, _, _, o_NOUN_WORDS, rfl, rfl, by show 6 ≤ sizeLine; decide, .cons ⟨_, rfl⟩ (.cons ⟨_, rfl⟩ (.cons ⟨_, rfl⟩ (.cons ⟨_, rfl⟩ (.cons ⟨_, rfl⟩ (.cons ⟨_, rfl⟩ (.nil))))))⟩)) (.cons (.str (n := 0) (by decide)) (.cons (.str (n := 2) (by decide)) (.cons (.str (n := 3) (by decide)) (.cons (.str (n := 1) (by decide)) (.cons (.str (n := 4) (by decide)) (.cons (.str (n := 5) (by decide)) (.nil)))))))⟩
  refine ⟨PySem.W.fnOf "law" "law" (defArgs slaw) (defBody slaw) (defScope slaw) .none kV42 dc42 pm42 an42 cd42 ct42, [(cc_are_premises, pp_are_premises), (cc__leads, pp__leads), (cc_Forcing_is_between, 239)], splaw (⟨K, [pp_are_premises, pp__leads, 239], fun _ => none, w⟩ : En), (List.forall_mem_cons.mpr ⟨et_are_premises, (List.forall_mem_cons.mpr ⟨et__leads, (List.forall_mem_cons.mpr ⟨et_Forcing_is_between, (fun _ z => nomatch z)⟩)⟩)⟩), (List.forall_mem_cons.mpr ⟨en_are_premises, (List.forall_mem_cons.mpr ⟨en__leads, (List.forall_mem_cons.mpr ⟨en_Forcing_is_between, (fun _ z => nomatch z)⟩)⟩)⟩), (List.forall_mem_cons.mpr ⟨ed_are_premises, (List.forall_mem_cons.mpr ⟨ed__leads, (List.forall_mem_cons.mpr ⟨ed_Forcing_is_between, (fun _ z => nomatch z)⟩)⟩)⟩), fun s v => .of_eq rfl, fun H a ns hl _ ht hS => ⟨a, ns, rfl, hS, hl, by
    intro b hb
    have hb : b ∈ [pp_are_premises, pp__leads, 239] := hb
    simp only [List.mem_cons, List.not_mem_nil, or_false] at hb
    rcases hb with hb | hb | hb
    · rw [hb]; exact ⟨#[], ht (cc_are_premises, pp_are_premises) (List.mem_cons_self), trivial⟩
    · rw [hb]; exact ⟨#[], ht (cc__leads, pp__leads) (List.mem_cons_of_mem _ (List.mem_cons_self)), trivial⟩
    · rw [hb]; exact ⟨#[], ht (cc_Forcing_is_between, 239) (List.mem_cons_of_mem _ (List.mem_cons_of_mem _ (List.mem_cons_self))), trivial⟩
  , fun _ => rfl⟩, fun base _ _ TB => law_ok (ok_law T ⟨(let t := TB _ (List.mem_cons_self); ⟨t.code, t.bm, t.gP⟩), (let t := TB _ (List.mem_cons_of_mem _ (List.mem_cons_self)); ⟨t.code, t.bm, t.gP⟩), (let t := TB _ (List.mem_cons_of_mem _ (List.mem_cons_of_mem _ (List.mem_cons_self))); ⟨t.code, t.bm, t.gP⟩)⟩ F42) law_true⟩
end V
open PySem.W in
local macro_rules | `(tactic| o_head ($_f:ident $K $as $e)) => `(tactic| o_head (kmHook $K $as $e [239]))
open PySem PySem.W PyProof.Rows in
set_option maxRecDepth 100000 in
set_option maxHeartbeats 0 in
theorem PySem.Challenge.cw_allsomeno_k19_whole_further_premises_holds : PySem.Challenge.rw_allsomeno_k19_whole_further_premises.Holds := by
  w_on; o_law; k_head; (case hw => w_witness2)
  k_fill
  refine GXX.walk_tabs (l := PySem.Challenge.rw_allsomeno_k19_whole_further_premises) (n := 63) (k := 9) (x := "script") (CX := fun _ => L2.CX0) rfl (by decide) rfl ⟨rfl, by decide, by decide⟩ (fun w h Y => PySem.W.km_in_of Y) ?F (fun _ _ _ _ _ h => h)
  case F =>
    intro w mg fa h Y KX G hmg DT
    refine' V.all_mk KX G hmg DT (PySem.W.km_tabs_of Y) ?aC_Forcing ?pg_Forcing ?hd_Forcing ?po_Forcing ?sa_Forcing ?mk_Forcing ?kc_Forcing ?nf_Forcing_found ?nf_Forcing_inside ?nf_Forcing_pairs ?nf_Forcing_singles ?a1 ?l1 ?c1 ?k1 ?a2 ?l2 ?c2 ?k2 ?a3 ?l3 ?c3 ?k3 ?a4 ?l4 ?c4 ?k4 ?a5 ?l5 ?c5 ?k5 ?a6 ?l6 ?c6 ?k6 ?a7 ?l7 ?c7 ?k7 ?a8 ?l8 ?c8 ?k8 ?a9 ?l9 ?c9 ?k9 ?a10 ?l10 ?c10 ?k10 ?a11 ?l11 ?c11 ?k11 ?a12 ?l12 ?c12 ?k12 ?a13 ?l13 ?c13 ?k13 ?a14 ?l14 ?c14 ?k14 ?a15 ?l15 ?c15 ?k15 ?a16 ?l16 ?c16 ?k16 ?a17 ?l17 ?c17 ?k17 ?a18 ?l18 ?c18 ?k18 ?a19 ?l19 ?c19 ?k19 ?a20 ?l20 ?c20 ?k20 ?a21 ?l21 ?c21 ?k21 ?a22 ?l22 ?c22 ?k22 ?a23 ?l23 ?c23 ?k23 ?a24 ?l24 ?c24 ?k24 ?a25 ?l25 ?c25 ?k25 ?a26 ?l26 ?c26 ?k26 ?a27 ?l27 ?c27 ?k27 ?a28 ?l28 ?c28 ?k28 ?a29 ?l29 ?c29 ?k29 ?a30 ?l30 ?c30 ?k30 ?a31 ?l31 ?c31 ?k31 ?a32 ?l32 ?c32 ?k32 ?a33 ?i33 ?l33 ?c33 ?k33 ?a34 ?i34 ?l34 ?c34 ?k34 ?a35 ?i35 ?l35 ?c35 ?k35 ?h35 ?a36 ?l36 ?c36 ?k36 ?a37 ?l37 ?c37 ?k37 ?a38 ?l38 ?c38 ?k38 ?a39 ?l39 ?c39 ?k39 ?a40 ?l40 ?c40 ?k40 ?a41 ?l41 ?c41 ?k41 ?a42 ?l42 ?c42 ?k42 ?z_abs ?z_all ?z_any ?z_bool ?z_int ?z_isinstance ?z_len ?z_list ?z_max ?z_min ?z_range ?z_sorted ?z_tuple ?m_MOST_NOUNS ?m_MOST_VERBS ?m_MOST_PREMISES ?m_QUANTIFIERS ?o_QUANTIFIERS ?m_NOUN_WORDS ?o_NOUN_WORDS ?nt ?r_are_premises ?r__leads
    (case aC_Forcing => k_is); (case pg_Forcing => k_is); (case hd_Forcing => k_is); (case po_Forcing => k_is); (case sa_Forcing => k_is); (case mk_Forcing => k_is); (case kc_Forcing => k_is); (case nf_Forcing_found => k_is); (case nf_Forcing_inside => k_is); (case nf_Forcing_pairs => k_is); (case nf_Forcing_singles => k_is); (case a1 => k_is); (case l1 => k_is); (case c1 => k_is); (case k1 => k_is); (case a2 => k_is); (case l2 => k_is); (case c2 => k_is); (case k2 => k_is); (case a3 => k_is); (case l3 => k_is); (case c3 => k_is); (case k3 => k_is); (case a4 => k_is); (case l4 => k_is); (case c4 => k_is); (case k4 => k_is); (case a5 => k_is); (case l5 => k_is); (case c5 => k_is); (case k5 => k_is); (case a6 => k_is); (case l6 => k_is); (case c6 => k_is); (case k6 => k_is); (case a7 => k_is); (case l7 => k_is); (case c7 => k_is); (case k7 => k_is); (case a8 => k_is); (case l8 => k_is); (case c8 => k_is); (case k8 => k_is); (case a9 => k_is); (case l9 => k_is); (case c9 => k_is); (case k9 => k_is); (case a10 => k_is); (case l10 => k_is); (case c10 => k_is); (case k10 => k_is); (case a11 => k_is); (case l11 => k_is); (case c11 => k_is); (case k11 => k_is); (case a12 => k_is); (case l12 => k_is); (case c12 => k_is); (case k12 => k_is); (case a13 => k_is); (case l13 => k_is); (case c13 => k_is); (case k13 => k_is); (case a14 => k_is); (case l14 => k_is); (case c14 => k_is); (case k14 => k_is); (case a15 => k_is); (case l15 => k_is); (case c15 => k_is); (case k15 => k_is); (case a16 => k_is); (case l16 => k_is); (case c16 => k_is); (case k16 => k_is); (case a17 => k_is); (case l17 => k_is); (case c17 => k_is); (case k17 => k_is); (case a18 => k_is); (case l18 => k_is); (case c18 => k_is); (case k18 => k_is); (case a19 => k_is); (case l19 => k_is); (case c19 => k_is); (case k19 => k_is); (case a20 => k_is); (case l20 => k_is); (case c20 => k_is); (case k20 => k_is); (case a21 => k_is); (case l21 => k_is); (case c21 => k_is); (case k21 => k_is); (case a22 => k_is); (case l22 => k_is); (case c22 => k_is); (case k22 => k_is); (case a23 => k_is); (case l23 => k_is); (case c23 => k_is); (case k23 => k_is); (case a24 => k_is); (case l24 => k_is); (case c24 => k_is); (case k24 => k_is); (case a25 => k_is); (case l25 => k_is); (case c25 => k_is); (case k25 => k_is); (case a26 => k_is); (case l26 => k_is); (case c26 => k_is); (case k26 => k_is); (case a27 => k_is); (case l27 => k_is); (case c27 => k_is); (case k27 => k_is); (case a28 => k_is); (case l28 => k_is); (case c28 => k_is); (case k28 => k_is); (case a29 => k_is); (case l29 => k_is); (case c29 => k_is); (case k29 => k_is); (case a30 => k_is); (case l30 => k_is); (case c30 => k_is); (case k30 => k_is); (case a31 => k_is); (case l31 => k_is); (case c31 => k_is); (case k31 => k_is); (case a32 => k_is); (case l32 => k_is); (case c32 => k_is); (case k32 => k_is); (case a33 => k_is); (case i33 => k_is); (case l33 => k_is); (case c33 => k_is); (case k33 => k_is); (case a34 => k_is); (case i34 => k_is); (case l34 => k_is); (case c34 => k_is); (case k34 => k_is); (case a35 => k_is); (case i35 => k_is); (case l35 => k_is); (case c35 => k_is); (case k35 => k_is); (case h35 => kernel_rfl!); (case a36 => k_is); (case l36 => k_is); (case c36 => k_is); (case k36 => k_is); (case a37 => k_is); (case l37 => k_is); (case c37 => k_is); (case k37 => k_is); (case a38 => k_is); (case l38 => k_is); (case c38 => k_is); (case k38 => k_is); (case a39 => k_is); (case l39 => k_is); (case c39 => k_is); (case k39 => k_is); (case a40 => k_is); (case l40 => k_is); (case c40 => k_is); (case k40 => k_is); (case a41 => k_is); (case l41 => k_is); (case c41 => k_is); (case k41 => k_is); (case a42 => k_is); (case l42 => k_is); (case c42 => k_is); (case k42 => k_is); (case z_abs => k_is); (case z_all => k_is); (case z_any => k_is); (case z_bool => k_is); (case z_int => k_is); (case z_isinstance => k_is); (case z_len => k_is); (case z_list => k_is); (case z_max => k_is); (case z_min => k_is); (case z_range => k_is); (case z_sorted => k_is); (case z_tuple => k_is); (case m_MOST_NOUNS => k_is); (case m_MOST_VERBS => k_is); (case m_MOST_PREMISES => k_is); (case m_QUANTIFIERS => k_is); (case o_QUANTIFIERS => k_is); (case m_NOUN_WORDS => k_is); (case o_NOUN_WORDS => k_is); (case nt => kernel_rfl!); (case r_are_premises => decide +kernel); (case r__leads => decide +kernel)
